import PyProof.Rows.All
import Wide.All
import OpenK.AllK
import Wide.FinOn
import PySem.Challenge.RW_lanescounted_k09_what_is_a_case
import HandS.ForMost
import HandS.ForExc
import HandS.Wide
import HandS.IsInst
import HandS.EndBits
import HandS.Small
import HandS.FStr
import HandS.Gcd
import HandS.Strs
import HandS.SetFor
import HandS.ExcIs
import HandS.TryMany
import HandS.Style
import HandS.TupAny
import HandS.Zip
import HandS.TupMul
import HandS.Conv
import KE.DataFind
set_option Elab.async false
set_option linter.all false
set_option maxRecDepth 100000
set_option maxHeartbeats 4000000
namespace Lc
open PySem PySem.Spec PyProof.Rows L2
/-! ### great ints -/
/-- two factors of together less than a hundred million bits -/
def CMulX (i j : Int) : Prop := i.natAbs.log2 + j.natAbs.log2 < 100000000
theorem intBits_le (x : Int) : Builtin.Int.intBits x ≤ x.natAbs.log2 + 1 := by
  unfold Builtin.Int.intBits; split <;> omega
theorem CMulX.ok {i j : Int} (h : CMulX i j) : IntMulOk i j := by
  have a := intBits_le i
  have b := intBits_le j
  unfold CMulX at h
  intro z
  have y := (Bool.and_eq_true _ _ ▸ z).2
  unfold Builtin.Int.intTooBig at y
  have x := of_decide_eq_true y
  have l : bitsLine = 134217728 := by decide
  omega
theorem op_mulX {X : Cx} : OpR X (binaryOp .Mult) (rI CMulX fun i j => .int (i * j)) := opI fun _ _ _ _ _ _ _ hc q => mul_int q hc.ok
/-- few bits -/
def Few (i : Int) : Prop := i.natAbs.log2 ≤ 2000000
theorem few_of {i : Int} (h : i.natAbs < 2 ^ 240) : Few i := by
  have := PySem.Flt.log2_lt_of (n := i.natAbs) (k := 240) (by omega) h
  unfold Few; omega
theorem few_le {i : Int} {b : Int} (h0 : 0 ≤ i) (h : i ≤ b) (hb : b.natAbs < 2 ^ 240) : Few i := few_of (Nat.lt_of_le_of_lt (by omega) hb)
theorem mulX {i j : Int} (h : Few i) (h' : Few j) : CMulX i j := by unfold CMulX; unfold Few at h h'; omega
theorem divX {i j : Int} (h : 0 < j) (hb : j.natAbs < 2 ^ 240) : CDivW i j := wide_div (b := 240) h hb (by decide) (by decide)
theorem log2_mono {a b : Nat} (h : a ≤ b) : a.log2 ≤ b.log2 := by
  rcases Nat.eq_zero_or_pos a with h0 | h0
  · subst h0; simp
  · have hb : b ≠ 0 := by omega
    have h1 : 2 ^ a.log2 ≤ a := Nat.log2_self_le (by omega)
    exact (Nat.le_log2 hb).mpr (by omega)
theorem bits_log {z : Int} (h : Builtin.Int.intBits z ≤ 1048576) : z.natAbs.log2 ≤ 1048576 := by
  unfold Builtin.Int.intBits at h
  split at h
  · rename_i h0; simp_all
  · omega
/-! ### heaps -/
/-- all that was tracked, but for a, is as it was -/
def But (a : Addr) (H H' : Hp) : Prop := ∀ b o, b ≠ a → H b = some o → H' b = some o
theorem But.refl (a : Addr) (H : Hp) : But a H H := fun _ _ _ h => h
theorem But.trans {a : Addr} {H H1 H2 : Hp} (x : But a H H1) (y : But a H1 H2) : But a H H2 := fun b o n h => y b o n (x b o n h)
theorem But.same {a : Addr} {H H1 H2 : Hp} (x : But a H H1) (y : Same H1 H2) : But a H H2 := fun b o n h => y b o (x b o n h)
theorem Same.but {a : Addr} {H H1 : Hp} (y : Same H H1) : But a H H1 := fun b o _ h => y b o h
theorem But.new {a : Addr} {H H1 H2 : Hp} (y : Same H H1) (x : But a H1 H2) : But a H H2 := fun b o n h => x b o n (y b o h)
theorem same_upd {H : Hp} {p : Addr} {o : HO} (h : H p = none) : Same H (upd H p o) := fun b x e => by
  rw [upd_ne (ne_of_none e h)]
  exact e
theorem But.upd {a : Addr} {H H' : Hp} {o : HO} (x : But a H H') : But a H (upd H' a o) := fun b u n h => by
  rw [upd_ne n]
  exact x b u n h
/-! ### statements joined behind an if -/
theorem seq_cut {t u : TS} {D : Ends} {σ : L2.St} {H : Hp} (M : L2.St → Hp → Prop) (h2 : ∀ σ' H', M σ' H' → u D σ' H') (h1 : (∀ σ' H', M σ' H' → u D σ' H') → t { D with nx := u D } σ H) : tSeq t u D σ H := h1 h2
theorem if_cut {c : TT} {t1 t2 u : TS} {D : Ends} {σ : L2.St} {H : Hp} (M : L2.St → Hp → Prop) (h2 : ∀ σ' H', M σ' H' → u D σ' H') (h1 : (∀ σ' H', M σ' H' → u D σ' H') → tIfS c t1 t2 { D with nx := u D } σ H) : tSeq (tIfS c t1 t2) u D σ H := h1 h2
/-! ### the source of draws -/
structure Src (H : Hp) (a : Addr) (n : Nat) : Prop where
  ex : ∃ (l : Addr) (ns : List Int) (x y z : Int), H a = some (.lst [.ref l, .int x, .int y, .int z]) ∧ H l = some (.lst (ns.map V.int)) ∧ (∀ k ∈ ns, k.natAbs.log2 ≤ 1048576) ∧ ns.length ≤ 63 ∧
    0 ≤ x ∧ x.natAbs.log2 ≤ 1048576 ∧ 0 ≤ y ∧ y < 2147483647 ∧ 0 ≤ z ∧ z ≤ (n : Int)
def spDraw : Sp := fun vs H Q _ => ∃ (a : Addr) (n : Nat) (lim : Int), vs = [.ref a, .int lim] ∧ Src H a n ∧ n < 1000000 ∧ 1 ≤ lim ∧ lim ≤ 1000000000000 ∧
  ∀ d H', 0 ≤ d → d < lim → Src H' a (n + 1) → But a H H' → Q (.int d) H'
def spSource (K : PySem.W.Frag) : Sp := fun vs H Q _ => ∃ (a : Addr) (ns : List Int), vs = [.ref a] ∧ SqL K H a (ns.map V.int) ∧ ns.length ≤ 63 ∧ (∀ z ∈ ns, Builtin.Int.intBits z ≤ 1048576) ∧
  ∀ p H', H p = none → Src H' p 0 → Same H H' → Q (.ref p) H'
def spGreat : Sp := fun vs H Q _ => ∃ (a : Addr) (n : Nat) (lim : Int), vs = [.ref a, .int lim] ∧ Src H a n ∧ n + 5 < 1000000 ∧ 1 ≤ lim ∧ lim ≤ 10 ^ 60 ∧
  ∀ d H', 0 ≤ d → d < lim → Src H' a (n + 5) → But a H H' → Q (.int d) H'
/-- what is behind the first if of a draw -/
structure Mid (H0 : Hp) (a : Addr) (n : Nat) (H : Hp) : Prop where
  src : Src H a n
  but : But a H0 H
theorem src_ne {H : Hp} {a b : Addr} {n : Nat} (S : Src H a n) (h : H b = none) : b ≠ a := by
  obtain ⟨l, ns, x, y, z, h1, _⟩ := S.ex
  intro e; subst e; rw [h] at h1; cases h1
theorem Src.le {H : Hp} {a : Addr} {n m : Nat} (S : Src H a n) (h : n ≤ m) : Src H a m := by
  obtain ⟨l, ns, x, y, z, h1, h2, h3, h4, h5, h6, h7, h8, h9, h10⟩ := S.ex
  exact ⟨l, ns, x, y, z, h1, h2, h3, h4, h5, h6, h7, h8, h9, by omega⟩
theorem Src.same {H H' : Hp} {a : Addr} {n : Nat} (S : Src H a n) (k : Same H H') : Src H' a n := by
  obtain ⟨l, ns, x, y, z, h1, h2, h3⟩ := S.ex
  exact ⟨l, ns, x, y, z, k _ _ h1, k _ _ h2, h3⟩
theorem cut1 (l : List V) : cutV l (some 1) none = l.drop 1 := by
  have e1 : HT.sIx l.length 0 (some 1) = min 1 l.length := HT.sIx_nat l.length 0 1
  have e2 : HT.sIx l.length l.length none = l.length := HT.sIx_none ..
  show ((l.drop (HT.sIx l.length 0 (some 1))).take (HT.sIx l.length l.length none - HT.sIx l.length 0 (some 1))) = l.drop 1
  rw [e1, e2]
  match l with
  | [] => rfl
  | a :: r =>
    have e3 : min 1 (a :: r).length = 1 := Nat.min_eq_left (by simp)
    rw [e3]
    exact List.take_of_length_le (by simp)
theorem idiv_log {x j : Int} (h0 : 0 ≤ x) (hj : 1 ≤ j) {k : Nat} (h : x.natAbs.log2 ≤ k) : (x / j).natAbs.log2 ≤ k := by
  have h1 : 0 ≤ x / j := Int.ediv_nonneg h0 (by omega)
  have h2 : x / j ≤ x := Int.ediv_le_self j h0
  have h3 : (x / j).natAbs ≤ x.natAbs := by omega
  exact Nat.le_trans (log2_mono h3) h
def pw9 : Nat → Int
  | 0 => 1
  | n + 1 => pw9 n * 1000000000
theorem pw9_le {i : Nat} (h : i ≤ 5) : pw9 i ≤ 1000000000000000000000000000000000000000000000 := by
  match i, h with
  | 0, _ => decide
  | 1, _ => decide
  | 2, _ => decide
  | 3, _ => decide
  | 4, _ => decide
  | 5, _ => decide
theorem few_bits {k : Int} (h : k.natAbs.log2 ≤ 1048576) : Few k := by unfold Few; omega
theorem ends_true {Q : VK} {b : Bool} {H : Hp} (q : ∀ H', Q (.bl true) H') (h : b = true) : Q (.bl b) H := h ▸ q H
/-! ### rules with the written part by its name (within a comprehension) -/
theorem ixL {X : Cx} (K : PySem.W.Frag) (h : X.K = K := by rfl) : IxR X (rIxL K) := h ▸ ix_list
theorem ixT {X : Cx} (K : PySem.W.Frag) (h : X.K = K := by rfl) : IxR X (rIxT K) := h ▸ ix_tup
/-! ### what an object is -/
inductive Arg (K : PySem.W.Frag) (H : Hp) : V → String → Prop where
  | non : Arg K H .non "NoneType"
  | bl (b : Bool) : Arg K H (.bl b) "bool"
  | int (i : Int) : Arg K H (.int i) "int"
  | str (x : Str) : Arg K H (.str x) "str"
  | lst {a : Addr} {xs : List V} (e : H a = some (.lst xs)) : Arg K H (.ref a) "list"
  | tup {a : Addr} {xs : List V} (e : H a = some (.tup xs)) : Arg K H (.ref a) "tuple"
  | dK {a : Addr} {kvs : List (Key × V)} (e : H a = some (.dK kvs)) : Arg K H (.ref a) "dict"
  | ftup {a : Addr} {o : Obj} {xs : List V} (e : H a = some (.frz o (.tup xs))) : Arg K H (.ref a) "tuple"
def isI : V → Bool
  | .int _ => true | .bl _ => true | _ => false
def isB : V → Bool
  | .bl _ => true | _ => false
def isS : V → Bool
  | .str _ => true | _ => false
section
variable {K : PySem.W.Frag} {H : Hp} {x : V} {n : String}
theorem Arg.ty (h : Arg K H x n) : TyX K H x (.type n) := by
  cases h with
  | non => exact .base .non
  | bl b => exact .base (.bl b)
  | int i => exact .base (.int i)
  | str s => exact .base (.str s)
  | lst e => exact .base (.lst e)
  | tup e => exact .base (.tup e)
  | dK e => exact .base (.dK e)
  | ftup e => exact .fTuple e
theorem Arg.int? (h : Arg K H x n) : PySem.W.kitOne K (.type n) (.type "int") = some (isI x) := by
  cases h <;> first | exact kit_ty (r := true) (by decide +kernel) | exact kit_ty (r := false) (by decide +kernel)
theorem Arg.bool? (h : Arg K H x n) : PySem.W.kitOne K (.type n) (.type "bool") = some (isB x) := by
  cases h <;> first | exact kit_ty (r := true) (by decide +kernel) | exact kit_ty (r := false) (by decide +kernel)
theorem Arg.str? (h : Arg K H x n) : PySem.W.kitOne K (.type n) (.type "str") = some (isS x) := by
  cases h <;> first | exact kit_ty (r := true) (by decide +kernel) | exact kit_ty (r := false) (by decide +kernel)
end
/-- an integer from lo to hi, no bool -/
def wholeV (x : V) (lo hi : Int) : Bool := match x with
  | .int i => decide (lo ≤ i) && decide (i ≤ hi)
  | _ => false
def wordV (x : V) (ws : List Str) : Bool := match x with
  | .str s => decide (s ∈ ws)
  | _ => false
theorem inV_str (s : Str) (ws : List Str) : inV (.str s) (ws.map V.str) = decide (s ∈ ws) := by
  unfold inV
  induction ws with
  | nil => rfl
  | cons w r ih =>
    rw [List.map_cons, List.any_cons, ih]
    show ((w == s) || decide (s ∈ r)) = decide (s ∈ w :: r)
    by_cases e : w = s
    · subst e; simp
    · have e2 : (w == s) = false := beq_eq_false_iff_ne.mpr e
      have e3 : ¬ s = w := fun z => e z.symm
      rw [e2, Bool.false_or]
      simp [e3]
theorem all_flat_str (ws : List Str) : (ws.map V.str).all flatV = true := by
  induction ws with
  | nil => rfl
  | cons w r ih => rw [List.map_cons, List.all_cons, ih]; rfl
theorem atI_two {α : Type} {x y : α} {d : Int} (h0 : 0 ≤ d) (h1 : d < 2) : atI [x, y] d = some (if d = 0 then x else y) := by
  have h : d = 0 ∨ d = 1 := by omega
  rcases h with rfl | rfl <;> rfl
theorem atI_three {α : Type} {x y z : α} {d : Int} (h0 : 0 ≤ d) (h1 : d < 3) : atI [x, y, z] d = some (if d = 0 then x else if d = 1 then y else z) := by
  have h : d = 0 ∨ d = 1 ∨ d = 2 := by omega
  rcases h with rfl | rfl | rfl <;> rfl
def spWhole (K : PySem.W.Frag) : Sp := fun vs H Q _ => ∃ (x : V) (lo hi : Int) (n : String), vs = [x, .int lo, .int hi] ∧ Arg K H x n ∧ Q (.bl (wholeV x lo hi)) H
def spWord (K : PySem.W.Frag) : Sp := fun vs H Q _ => ∃ (x : V) (t : Addr) (ws : List Str) (n : String), vs = [x, .ref t] ∧ SqT K H t (ws.map V.str) ∧ Arg K H x n ∧ Q (.bl (wordV x ws)) H
def spIsInt (K : PySem.W.Frag) : Sp := fun vs H Q _ => ∃ (x : V) (n : String), vs = [x] ∧ Arg K H x n ∧ Q (.bl (isI x && !isB x)) H
/-- what a def hands back or raises, nothing written -/
def spRes (exc : String → Addr) (r : Except String V) (H : Hp) (Q : VK) (E : XK) : Prop := match r with
  | .ok v => Q v H
  | .error n => E (.ref (exc n)) none H
theorem ite_of {c : Prop} [Decidable c] {α : Type} {a b : α} (h : c) : (if c then a else b) = a := if_pos h
/-! ### tables: what its defs hand back or raise -/
def kindV (x : V) : Bool := wordV x ["rest", "ranges"]
def laneAt (k : V) (c m s : Int) : Int := if k = .str "rest" then m % c else m * c / s
def laneOf (k c m s : V) : Except String V :=
  if kindV k = false then .error "BadKind" else if wholeV c 1 (10 ^ 20) = false then .error "BadCount" else if wholeV m 0 (10 ^ 40) = false then .error "BadMark" else
  if wholeV s 1 (10 ^ 40) = false then .error "BadSize" else match c, m, s with
    | .int c, .int m, .int s => if s ≤ m then .error "BadMark" else .ok (.int (laneAt k c m s))
    | _, _, _ => .ok .non
def spChk (K : PySem.W.Frag) (exc : String → Addr) (good : V → Bool) (n : String) : Sp := fun vs H Q E => ∃ (x : V) (tn : String), vs = [x] ∧ Arg K H x tn ∧ spRes exc (if good x = false then .error n else .ok .non) H Q E
def spChkC (K : PySem.W.Frag) (exc : String → Addr) : Sp := fun vs H Q E => ∃ (x : V) (g : Int) (tn : String), vs = [x, .int g] ∧ (g = 10 ^ 20 ∨ g = 1000) ∧ Arg K H x tn ∧ spRes exc (if wholeV x 1 g = false then .error "BadCount" else .ok .non) H Q E
def spLaneAt : Sp := fun vs H Q _ => ∃ (k : Str) (c m s : Int), vs = [.str k, .int c, .int m, .int s] ∧ 1 ≤ c ∧ c ≤ 10 ^ 20 ∧ 0 ≤ m ∧ m < s ∧ s ≤ 10 ^ 40 ∧ Q (.int (laneAt (.str k) c m s)) H
def spLaneOf (K : PySem.W.Frag) (exc : String → Addr) : Sp := fun vs H Q E => ∃ (k c m s : V) (tk tc tm ts : String), vs = [k, c, m, s] ∧ Arg K H k tk ∧ Arg K H c tc ∧ Arg K H m tm ∧ Arg K H s ts ∧ spRes exc (laneOf k c m s) H Q E
theorem whole_int {x : V} {lo hi : Int} (h : wholeV x lo hi = true) : ∃ i, x = .int i ∧ lo ≤ i ∧ i ≤ hi := by
  cases x with
  | int i =>
    have h2 : (decide (lo ≤ i) && decide (i ≤ hi)) = true := h
    rw [Bool.and_eq_true] at h2
    exact ⟨i, rfl, of_decide_eq_true h2.1, of_decide_eq_true h2.2⟩
  | _ => exact nomatch h
theorem word_str {x : V} {ws : List Str} (h : wordV x ws = true) : ∃ s, x = .str s ∧ s ∈ ws := by
  cases x with
  | str s => exact ⟨s, rfl, of_decide_eq_true h⟩
  | _ => exact nomatch h
theorem whole_of {i lo hi : Int} (h : lo ≤ i) (h' : i ≤ hi) : wholeV (.int i) lo hi = true := by
  show (decide (lo ≤ i) && decide (i ≤ hi)) = true
  rw [decide_eq_true h, decide_eq_true h']; rfl
theorem fmt20 : (toString ((10 : Int) ^ 20) : Str).length = 21 := by decide +kernel
/-! ### lcm, and ranges of any ints -/
def rLcm : List V → Hp → VK → Prop := fun vs H Q => ∃ a b : Nat, vs = [.int (a : Int), .int (b : Int)] ∧ a < 10 ^ 40 ∧ b < 10 ^ 40 ∧ 0 < a ∧ Q (.int ((Nat.lcm a b : Nat) : Int)) H
theorem cr_lcm {X : Cx} : CallR X (.builtin "math.lcm") rLcm := by
  intro pins s σ H vs us Q I r h
  obtain ⟨a, b, rfl, ha, hb, h0, q⟩ := h
  obtain ⟨t, u, rfl⟩ := Vals.int2 r
  have la : (max 1 ((a : Int).natAbs)).log2 ≤ 199 := PySem.W.mg_log (Nat.lt_of_lt_of_le (by rw [Int.natAbs_natCast]; omega : max 1 ((a : Int).natAbs) < 10 ^ 40) (by decide))
  have lb : (max ((a : Int).natAbs) ((b : Int).natAbs)).log2 ≤ 199 := PySem.W.mg_log (Nat.lt_of_lt_of_le (by rw [Int.natAbs_natCast, Int.natAbs_natCast]; omega : max ((a : Int).natAbs) ((b : Int).natAbs) < 10 ^ 40) (by decide))
  have e : ((Nat.lcm 1 ((a : Int).natAbs)).lcm ((b : Int).natAbs) : Nat) = Nat.lcm a b := by rw [Int.natAbs_natCast, Int.natAbs_natCast, Nat.lcm_one_left]
  have ls : (((((Nat.lcm 1 ((a : Int).natAbs)).lcm ((b : Int).natAbs) : Nat)) : Int)).natAbs.log2 < bitsLine := by
    rw [e, Int.natAbs_natCast]
    have h1 : Nat.lcm a b ≤ a * b := by
      unfold Nat.lcm; exact Nat.div_le_self _ _
    have h2 : a * b ≤ 10 ^ 40 * 10 ^ 40 := Nat.mul_le_mul (Nat.le_of_lt ha) (Nat.le_of_lt hb)
    have h3 : (Nat.lcm a b).log2 ≤ 399 := PySem.W.mg_log (Nat.lt_of_le_of_lt (Nat.le_trans h1 h2) (by decide))
    exact Nat.lt_of_le_of_lt h3 (by decide)
  exact PySem.call_function_meets PySem.W.MGF.kind_lcm PySem.W.MGF.plain_lcm PySem.W.MGF.entry_lcm (PySem.W.MGF.args_lcm _ _) (PySem.W.mg_run_lcm _ t _ u (by omega) (by omega) ls).meets ⟨.int _, H, I.tok _, ⟨_, rfl⟩, (by rw [e]; exact q)⟩
theorem turn_long {P : Program} {w : World} {K : PySem.W.Frag} {tg : Expr} (c : Addr) (lo : Int) (n : Nat) : Turn P w K tg (Itr lo n) [c] c (fun i h => IsLongIter h c (lo + (i : Nat) * 1) ((n : Int) - (i : Nat)) 1) := by
  refine { mem := List.mem_singleton.mpr rfl, obj := ?o, keep := ?k, item := ?i, done := ?d, self := ?s }
  case o =>
    intro i h hc b hb
    cases List.mem_singleton.mp hb
    exact ⟨_, hc, fun v (z : Data.fields _ = Data.cell v) => nomatch z⟩
  case k => exact fun i h h' hc k => k c (List.mem_singleton.mpr rfl) _ hc
  case i =>
    rintro X rfl rfl rfl hh i pins s σ H E I hf hc hg
    have hq := hf c (List.mem_singleton.mpr rfl)
    obtain ⟨q0, q1, q2, q3, q4, q5⟩ := hq
    refine (Walks.longrange (prog := X.prog) (w := X.w) (I.ok.hd hh) c lo 1 n).item i s _ _ hg hc fun v h' tk hv hc' hk => ?_
    obtain ⟨t, rfl⟩ := hv
    have J : Inv X pins σ H { s with heap := h', toks := tk } := I.turned (fun b o hb e => hk b o (fun z => hb (List.mem_singleton.mp z)) e) q0 q1 q3 q4 q5
    exact ⟨_, rfl, go_of (s := { s with heap := h', toks := tk }) (n := "longrange_iterator") hc' rfl rfl (by decide) ⟨.int (lo + i), H, J, ⟨t, by rw [Int.mul_one]⟩, ⟨rfl, rfl⟩, hc', fun b hb => (hf b hb).1⟩⟩
  case d =>
    rintro X rfl rfl rfl hh i pins s σ H E I hf hc hg
    obtain ⟨q0, q1, q2, q3, q4, q5⟩ := hf c (List.mem_singleton.mpr rfl)
    have hni : n ≤ i := hg
    exact wpAny_pyNext_long_end (I.ok.hd hh) hc (by omega) fun h' k => ⟨rfl, I.turned (t' := s.toks) (fun b o hb e => k b o hb e) q0 q1 q3 q4 q5⟩
  case s => exact fun _ _ _ _ _ hc h => wpAny_pyIter_longiter hc h
theorem any_range {X : Cx} {tg : Expr} {pins : List (Addr × Obj)} {σ : L2.St} {H : Hp} {s : Shared} {R : It → Hp → Prop} {E : Value → Shared → Prop} {lo hi : Int} {t u v : Tok} {tk : Nat} (I : Inv X pins σ H s) (q : R (Itr lo (hi - lo).toNat) H) :
    wpAny (model X.prog X.w) X.A (pyIter (.ref s.heap.objs.size)) (PIE X pins σ tg R) E { s with heap := s.heap.push { cls := .type "range", data := .fields #[.int lo t, .int hi u, .int 1 v] }, toks := tk } := by
  have J : Inv X pins σ H { s with heap := s.heap.push { cls := .type "range", data := .fields #[.int lo t, .int hi u, .int 1 v] }, toks := tk } := I.kept fun b o e => Heap.get?_push_of_some _ e
  have ez : lo + ((0 : Nat) : Int) * 1 = lo := by omega
  have en : (((hi - lo).toNat : Nat) : Int) - ((0 : Nat) : Int) = Builtin.Range.rangeSize lo hi 1 := by
    rw [rangeSize_one]; split <;> omega
  cases hsm : Builtin.Range.small lo hi 1 with
  | true =>
    refine wpAny_pyIter_range (IsRange.new ..) hsm ?_
    refine ⟨_, [_], _, _, H, rfl, J.kept (t' := tk) fun b o e => Heap.get?_push_of_some _ e, turn_range _ lo (hi - lo).toNat, ?_, fun b hb => ?_, q⟩
    · show IsRangeIter _ _ (lo + ((0 : Nat) : Int) * 1) ((((hi - lo).toNat : Nat) : Int) - ((0 : Nat) : Int)) 1
      rw [ez, en]; exact Heap.get?_push_size _ rfl
    · cases List.mem_singleton.mp hb
      exact J.fpOk (Nat.le_refl _) (J.hok.fresh (Nat.le_refl _))
  | false =>
    refine wpAny_pyIter_longrange (IsRange.new ..) hsm ?_
    refine ⟨_, [_], _, _, H, rfl, J.kept (t' := tk) fun b o e => Heap.get?_push_of_some _ e, turn_long _ lo (hi - lo).toNat, ?_, fun b hb => ?_, q⟩
    · show IsLongIter _ _ (lo + ((0 : Nat) : Int) * 1) ((((hi - lo).toNat : Nat) : Int) - ((0 : Nat) : Int)) 1
      rw [ez, en]; exact Heap.get?_push_size _ rfl
    · cases List.mem_singleton.mp hb
      exact J.fpOk (Nat.le_refl _) (J.hok.fresh (Nat.le_refl _))
def iRngA (ta : TA) : TI := fun σ H R => ta σ H fun vs H1 => ∃ i j : Int, vs = [.int i, .int j] ∧ R (Itr i (j - i).toNat) H1
theorem pi_rangeA {X : Cx} {tg a b : Expr} {ta : TA} {p pos : Pos} (hg : Gl X "range") (hm : X.mg "range" = none) (ha : PA X [a, b] ta) (hs : starEach [a, b] X.env = [(false, eval a X.env), (false, eval b X.env)] := by rfl) (hs2 : starEach [b] X.env = [(false, eval b X.env)] := by rfl) :
    PI X tg (.Call (.Name "range" p) [a, b] [] pos) (iRngA ta) := by
  refine ⟨fun pins s σ H R I h => Call_ (ld_blt I hg hm boot_range (PyProof.Rows.callWith_type1 (thn (ha.run pos pins s σ H _ I h) fun us s1 hh => ?_) (by rw [hs, hs2]) (by rw [hs2]; rfl)))⟩
  obtain ⟨vs, H1, J, r1, i, j, e, q⟩ := hh
  subst e
  obtain ⟨t, t', rfl⟩ := Vals.int2 r1
  exact call_range_2 (any_range J q)
/-! ### marks that move -/
def lstart (l c s : Int) : Int := (l * s + c - 1) / c
def lcmI (a b : Int) : Int := ((Nat.lcm a.toNat b.toNat : Nat) : Int)
def keptRest (low high size : Int) : Int := size / lcmI low high * low + (if low < size % lcmI low high then low else size % lcmI low high)
def gapI (high low size : Int) (l : Int) : Int := if lstart (l + 1) high size - lstart l low size > 0 then lstart (l + 1) high size - lstart l low size else 0
def keptR (high low size : Int) : Nat → Int
  | 0 => 0
  | n + 1 => keptR high low size n + gapI high low size (n : Int)
inductive FirstR (low high size : Int) : V → Prop where
  | at (l : Int) (h1 : 1 ≤ l) (h2 : l ≤ low) (h3 : lstart l high size < lstart l low size) (h4 : ∀ j, 1 ≤ j → j < l → lstart j low size ≤ lstart j high size) : FirstR low high size (.int (lstart l high size))
  | no (h : ∀ j, 1 ≤ j → j ≤ low → lstart j low size ≤ lstart j high size) : FirstR low high size .non
def lowI (b a : Int) : Int := if a < b then a else b
def highI (b a : Int) : Int := if a > b then a else b
def countM (k : Str) (b a s : Int) : Int := if V.str k = .str "rest" then s - keptRest (lowI b a) (highI b a) s else s - keptR (highI b a) (lowI b a) s (lowI b a).toNat
def FirstM (k : Str) (b a s : Int) (r : V) : Prop := if V.str k = .str "ranges" then FirstR (lowI b a) (highI b a) s r else
  r = (if lowI b a < (if s < highI b a then s else highI b a) then .int (lowI b a) else .non)
def mostOf (k : V) : Int := if k = .str "rest" then 10 ^ 20 else 1000
def chkM (k b a s : V) : Option String :=
  if kindV k = false then some "BadKind" else if wholeV b 1 (mostOf k) = false then some "BadCount" else if wholeV a 1 (mostOf k) = false then some "BadCount" else if wholeV s 1 (10 ^ 40) = false then some "BadSize" else none
structure Mvd (ks : Str) (b a s : Int) : Prop where
  k : kindV (.str ks) = true
  b1 : 1 ≤ b
  b2 : b ≤ mostOf (.str ks)
  a1 : 1 ≤ a
  a2 : a ≤ mostOf (.str ks)
  s1 : 1 ≤ s
  s2 : s ≤ 10 ^ 40
theorem chkM_none {k b a s : V} (h : chkM k b a s = none) : ∃ ks bi ai si, k = .str ks ∧ b = .int bi ∧ a = .int ai ∧ s = .int si ∧ Mvd ks bi ai si := by
  unfold chkM at h
  cases e1 : kindV k with
  | false => rw [if_pos e1] at h; cases h
  | true =>
  rw [if_neg (by rw [e1]; decide)] at h
  cases e2 : wholeV b 1 (mostOf k) with
  | false => rw [if_pos e2] at h; cases h
  | true =>
  rw [if_neg (by rw [e2]; decide)] at h
  cases e3 : wholeV a 1 (mostOf k) with
  | false => rw [if_pos e3] at h; cases h
  | true =>
  rw [if_neg (by rw [e3]; decide)] at h
  cases e4 : wholeV s 1 (10 ^ 40) with
  | false => rw [if_pos e4] at h; cases h
  | true =>
  obtain ⟨bi, rfl, b1, b2⟩ := whole_int e2
  obtain ⟨ai, rfl, a1, a2⟩ := whole_int e3
  obtain ⟨si, rfl, s1, s2⟩ := whole_int e4
  obtain ⟨ks, rfl, _⟩ := word_str e1
  exact ⟨ks, bi, ai, si, rfl, rfl, rfl, rfl, e1, b1, b2, a1, a2, s1, s2⟩
theorem chkM_ok {ks : Str} {b a s : Int} (h : Mvd ks b a s) : chkM (.str ks) (.int b) (.int a) (.int s) = none := by
  unfold chkM
  rw [if_neg (by rw [h.k]; decide), if_neg (by rw [whole_of h.b1 h.b2]; decide), if_neg (by rw [whole_of h.a1 h.a2]; decide), if_neg (by rw [whole_of h.s1 h.s2]; decide)]
/-- one who asks: the error, or what comes of good ones -/
def spAskM (K : PySem.W.Frag) (exc : String → Addr) (G : Str → Int → Int → Int → V → Prop) : Sp := fun vs H Q E => ∃ (k b a s : V) (tk tb ta ts : String), vs = [k, b, a, s] ∧ Arg K H k tk ∧ Arg K H b tb ∧ Arg K H a ta ∧ Arg K H s ts ∧
  (∀ n, chkM k b a s = some n → E (.ref (exc n)) none H) ∧ (∀ ks bi ai si, k = .str ks → b = .int bi → a = .int ai → s = .int si → Mvd ks bi ai si → ∀ r, G ks bi ai si r → Q r H)
def spLstart : Sp := fun vs H Q _ => ∃ l c s : Int, vs = [.int l, .int c, .int s] ∧ 0 ≤ l ∧ l ≤ 2000 ∧ 1 ≤ c ∧ c ≤ 1000 ∧ 1 ≤ s ∧ s ≤ 10 ^ 40 ∧ Q (.int (lstart l c s)) H
def spKeptRest : Sp := fun vs H Q _ => ∃ l h s : Int, vs = [.int l, .int h, .int s] ∧ 1 ≤ l ∧ l ≤ 10 ^ 20 ∧ 1 ≤ h ∧ h ≤ 10 ^ 20 ∧ 1 ≤ s ∧ s ≤ 10 ^ 40 ∧ Q (.int (keptRest l h s)) H
def spKeptRanges : Sp := fun vs H Q _ => ∃ l h s : Int, vs = [.int l, .int h, .int s] ∧ 1 ≤ l ∧ l ≤ 1000 ∧ 1 ≤ h ∧ h ≤ 1000 ∧ 1 ≤ s ∧ s ≤ 10 ^ 40 ∧ Q (.int (keptR h l s l.toNat)) H
def spFirstRanges : Sp := fun vs H Q _ => ∃ l h s : Int, vs = [.int l, .int h, .int s] ∧ 1 ≤ l ∧ l ≤ 1000 ∧ 1 ≤ h ∧ h ≤ 1000 ∧ 1 ≤ s ∧ s ≤ 10 ^ 40 ∧ ∀ r, FirstR l h s r → Q r H
theorem lcmI_pos {a b : Int} (ha : 1 ≤ a) (hb : 1 ≤ b) : 1 ≤ lcmI a b := by
  unfold lcmI
  have : 0 < Nat.lcm a.toNat b.toNat := Nat.lcm_pos (by omega) (by omega)
  omega
theorem lcmI_le {a b : Int} (ha : 1 ≤ a) (hb : 1 ≤ b) (ha2 : a ≤ 10 ^ 20) (hb2 : b ≤ 10 ^ 20) : lcmI a b ≤ 10 ^ 40 := by
  unfold lcmI
  have h1 : Nat.lcm a.toNat b.toNat ≤ a.toNat * b.toNat := by
    unfold Nat.lcm; exact Nat.div_le_self _ _
  have h2 : a.toNat * b.toNat ≤ 10 ^ 20 * 10 ^ 20 := Nat.mul_le_mul (by omega) (by omega)
  have h3 : (10 : Nat) ^ 20 * 10 ^ 20 = 10 ^ 40 := by decide
  omega
theorem most_cases {ks : Str} (h : kindV (.str ks) = true) : (V.str ks = .str "rest" ∧ mostOf (.str ks) = 10 ^ 20) ∨ (V.str ks = .str "ranges" ∧ ¬ V.str ks = .str "rest" ∧ mostOf (.str ks) = 1000) := by
  obtain ⟨s, e, hs⟩ := word_str h
  cases e
  rcases List.mem_cons.mp hs with rfl | hs
  · exact .inl ⟨rfl, rfl⟩
  · rcases List.mem_cons.mp hs with rfl | hs
    · exact .inr ⟨rfl, by decide, rfl⟩
    · exact nomatch hs
/-! ### errors caught -/
theorem exm_pair {K : PySem.W.Frag} {A B : Addr} {b : Bool} (p : PySem.W.subIn K (.ref B) (.type "BaseException") = some true) (i : PySem.W.isClsIn K B = true) (t : PySem.W.typeIn K (.ref B) = some (.type "type")) (q : PySem.W.subIn K (.ref A) (.ref B) = some b) :
    PySem.W.exmOne K (.ref A) (.ref B) = some b := by
  have i' : (PySem.W.clsIn K B).isSome = true := i
  unfold PySem.W.exmOne PySem.W.kitCls
  rw [p]
  dsimp only
  rw [i', t]
  exact q
theorem kit_ve {K : PySem.W.Frag} {A : Addr} {b : Bool} (q : PySem.W.subIn K (.ref A) (.type "ValueError") = some b) : PySem.W.kitOne K (.ref A) (.type "ValueError") = some b := by
  have m : PySem.W.kitMeta "ValueError" = true := by decide +kernel
  unfold PySem.W.kitOne PySem.W.kitCls
  dsimp only
  rw [m]
  exact q
/-- isinstance of the error that a suite holds -/
def rIsG (K : PySem.W.Frag) (a : Addr) (cls : Value) (d : Option Addr) : List V → Hp → VK → Prop := fun xs H Q => ∃ D, cls = .ref D ∧ d = none ∧ ExcC K D ∧ rIsE K D a xs H Q
theorem call_isG {X : Cx} {a : Addr} {oe : Obj} {cls : Value} {d : Option Addr} {pn : List (Addr × Obj)} (hz : Zc cls d oe) (hf : ∃ vs, oe.data = .fields vs) : CallR (X.suite a ((a, oe) :: pn)) (.builtin "isinstance") (rIsG X.K a cls d) := by
  intro pins s σ H xs us Q I r h
  obtain ⟨D, rfl, rfl, C, h⟩ := h
  exact call_isE C hz hf pins s σ H xs us Q I r h
end Lc
namespace Lc
open PySem PySem.Spec PyProof.Rows L2 RZ
/-! ### data at hand -/
inductive Dt where
  | non | bl (b : Bool) | int (i : Int) | str (s : Str) | lst (xs : List Dt) | tup (z : Bool) (xs : List Dt) | dic
/-- a tuple held: z where it's known to have no dict of its own -/
inductive Tp (H : Hp) (a : Addr) : Bool → List V → Prop where
  | new {xs : List V} (e : H a = some (.tup xs)) : Tp H a false xs
  | bare {o : Obj} {xs : List V} (c : o.cls = .type "tuple") (d : o.dict = none) (e : H a = some (.frz o (.tup xs))) : Tp H a true xs
theorem Tp.sq {K : PySem.W.Frag} {H : Hp} {a : Addr} {z : Bool} {xs : List V} (h : Tp H a z xs) : SqT K H a xs := by
  cases h with
  | new e => exact SqT.of e
  | bare c d e => exact .inl (.inr ⟨_, e⟩)
theorem Tp.but {H H' : Hp} {a p : Addr} {z : Bool} {xs : List V} (b : But p H H') (ne : a ≠ p) (h : Tp H a z xs) : Tp H' a z xs := by
  cases h with
  | new e => exact .new (b _ _ ne e)
  | bare c d e => exact .bare c d (b _ _ ne e)
theorem Tp.same {H H' : Hp} {a : Addr} {z : Bool} {xs : List V} (k : Same H H') (h : Tp H a z xs) : Tp H' a z xs := by
  cases h with
  | new e => exact .new (k _ _ e)
  | bare c d e => exact .bare c d (k _ _ e)
mutual
inductive Ob (H : Hp) (p : Addr) : V → Dt → Prop where
  | non : Ob H p .non .non
  | bl (b : Bool) : Ob H p (.bl b) (.bl b)
  | int (i : Int) : Ob H p (.int i) (.int i)
  | str (s : Str) : Ob H p (.str s) (.str s)
  | lst {a : Addr} {xs : List V} {ds : List Dt} (e : H a = some (.lst xs)) (ne : a ≠ p) (all : Obs H p xs ds) : Ob H p (.ref a) (.lst ds)
  | tup {a : Addr} {z : Bool} {xs : List V} {ds : List Dt} (e : Tp H a z xs) (ne : a ≠ p) (all : Obs H p xs ds) : Ob H p (.ref a) (.tup z ds)
  | dic {a : Addr} (e : H a = some (.dK [])) (ne : a ≠ p) : Ob H p (.ref a) .dic
inductive Obs (H : Hp) (p : Addr) : List V → List Dt → Prop where
  | nil : Obs H p [] []
  | cons {v : V} {d : Dt} {vs : List V} {ds : List Dt} (h : Ob H p v d) (t : Obs H p vs ds) : Obs H p (v :: vs) (d :: ds)
end
mutual
theorem Ob.but {H H' : Hp} {p : Addr} (b : But p H H') : ∀ {v : V} {d : Dt}, Ob H p v d → Ob H' p v d
  | _, _, .non => .non
  | _, _, .bl b => .bl b
  | _, _, .int i => .int i
  | _, _, .str s => .str s
  | _, _, .lst e ne all => .lst (b _ _ ne e) ne (Obs.but b all)
  | _, _, .tup e ne all => .tup (e.but b ne) ne (Obs.but b all)
  | _, _, .dic e ne => .dic (b _ _ ne e) ne
theorem Obs.but {H H' : Hp} {p : Addr} (b : But p H H') : ∀ {vs : List V} {ds : List Dt}, Obs H p vs ds → Obs H' p vs ds
  | _, _, .nil => .nil
  | _, _, .cons h t => .cons (Ob.but b h) (Obs.but b t)
end
section
variable {H H' : Hp} {p : Addr} {v : V} {d : Dt} {vs : List V} {ds : List Dt}
theorem Ob.same (k : Same H H') (h : Ob H p v d) : Ob H' p v d := h.but fun c o _ e => k c o e
theorem Obs.same (k : Same H H') (h : Obs H p vs ds) : Obs H' p vs ds := h.but fun c o _ e => k c o e
theorem Obs.len : ∀ {vs : List V} {ds : List Dt}, Obs H p vs ds → vs.length = ds.length
  | _, _, .nil => rfl
  | _, _, .cons _ t => congrArg Nat.succ (Obs.len t)
theorem Obs.get : ∀ {vs : List V} {ds : List Dt} {i : Nat} {x : V}, Obs H p vs ds → vs[i]? = some x → ∃ d, ds[i]? = some d ∧ Ob H p x d
  | _, _, _, _, .nil, e => by simp at e
  | _, _, 0, _, .cons h _, e => by
    have e := Option.some.inj (show some _ = some _ from e)
    subst e; exact ⟨_, rfl, h⟩
  | _, _, i + 1, x, .cons _ t, e => Obs.get (i := i) t (by simpa using e)
theorem Obs.append : ∀ {vs ws : List V} {ds es : List Dt}, Obs H p vs ds → Obs H p ws es → Obs H p (vs ++ ws) (ds ++ es)
  | _, _, _, _, .nil, s => s
  | _, _, _, _, .cons h t, s => .cons h (Obs.append t s)
def tyName : Dt → String
  | .non => "NoneType" | .bl _ => "bool" | .int _ => "int" | .str _ => "str" | .lst _ => "list" | .tup _ _ => "tuple" | .dic => "dict"
theorem Ob.arg {K : PySem.W.Frag} (h : Ob H p v d) : Arg K H v (tyName d) := by
  cases h with
  | non => exact .non
  | bl b => exact .bl b
  | int i => exact .int i
  | str s => exact .str s
  | lst e _ _ => exact .lst e
  | tup e _ _ =>
    cases e with
    | new e => exact .tup e
    | bare c d e => exact .ftup e
  | dic e _ => exact .dK e
end
def isT : Dt → Bool
  | .tup _ _ => true | _ => false
def isL : Dt → Bool
  | .lst _ => true | _ => false
def isBd : Dt → Bool
  | .bl _ => true | _ => false
def isId : Dt → Bool
  | .bl _ => true | .int _ => true | _ => false
theorem kit_t {K : PySem.W.Frag} (d : Dt) : PySem.W.kitOne K (.type (tyName d)) (.type "tuple") = some (isT d) := by
  cases d <;> dsimp only [tyName, isT] <;> exact kit_ty (by decide +kernel)
theorem kit_l {K : PySem.W.Frag} (d : Dt) : PySem.W.kitOne K (.type (tyName d)) (.type "list") = some (isL d) := by
  cases d <;> dsimp only [tyName, isL] <;> exact kit_ty (by decide +kernel)
theorem kit_b {K : PySem.W.Frag} (d : Dt) : PySem.W.kitOne K (.type (tyName d)) (.type "bool") = some (isBd d) := by
  cases d <;> dsimp only [tyName, isBd] <;> exact kit_ty (by decide +kernel)
theorem kit_i {K : PySem.W.Frag} (d : Dt) : PySem.W.kitOne K (.type (tyName d)) (.type "int") = some (isId d) := by
  cases d <;> dsimp only [tyName, isId] <;> exact kit_ty (by decide +kernel)
/-! ### what a case, a house is -/
def wholeD (d : Dt) (lo hi : Int) : Bool := match d with
  | .int i => decide (lo ≤ i) && decide (i ≤ hi)
  | _ => false
def wordD (d : Dt) (ws : List Str) : Bool := match d with
  | .str s => decide (s ∈ ws)
  | _ => false
def rowD (d : Dt) (lo hi : Int) : Bool := match d with
  | .tup _ xs => decide (lo ≤ (xs.length : Int)) && decide ((xs.length : Int) ≤ hi)
  | _ => false
def itemsD : Dt → List Dt
  | .tup _ xs => xs
  | _ => []
def intD : Dt → Int
  | .int i => i
  | _ => 0
theorem whole_ob {H : Hp} {p : Addr} {v : V} {d : Dt} {lo hi : Int} (h : Ob H p v d) : wholeV v lo hi = wholeD d lo hi := by cases h <;> rfl
theorem word_ob {H : Hp} {p : Addr} {v : V} {d : Dt} {ws : List Str} (h : Ob H p v d) : wordV v ws = wordD d ws := by cases h <;> rfl
def countsD (d : Dt) : Bool := rowD d 2 3 && (itemsD d).all fun x => wholeD x 1 4
def courseD (d c : Dt) : Bool := rowD d ((itemsD c).length : Nat) ((itemsD c).length : Nat) && ((itemsD d).zip (itemsD c)).all fun q => wholeD q.1 0 (intD q.2 - 1)
def refusals : List Str := ["back", "lost"]
def notings : List Str := ["behind", "first", "with"]
def planWords : List Str := ["show", "tell", "agree", "close", "clear", "drain", "copy", "open", "drop"]
def schemeD (d : Dt) : Bool := match d with
  | .tup _ [a, b, r, n, s] => isBd a && isBd b && isBd s && (wordD r refusals && wordD n notings)
  | _ => false
def isShow : Dt → Bool
  | .str s => decide (s = "show")
  | _ => false
def shows (d : Dt) : Nat := (itemsD d).countP isShow
def planD (d : Dt) : Bool := rowD d 1 15 && ((itemsD d).all (fun x => wordD x planWords) && (decide (1 ≤ shows d) && decide (shows d ≤ 2)))
def frameD (s p c : Dt) : Bool := schemeD s && (planD p && (countsD c && decide ((itemsD c).length = shows p + 1)))
def caseD (d : Dt) : Bool := match d with
  | .tup _ [s, p, c, o] => frameD s p c && courseD o c
  | _ => false
def keysD (o l c : Dt) : Bool := (rowD o 1 3 && rowD l ((itemsD o).length : Nat) ((itemsD o).length : Nat)) && ((itemsD o).all (fun x => courseD x c) && (itemsD l).all fun x => wholeD x 1 3)
def houseD (d : Dt) : Bool := match d with
  | .tup _ [s, p, c, o, l, n] => frameD s p c && (keysD o l c && wholeD n 1 3)
  | _ => false
/-- the plan's tuple, where its words are words, has no dict -/
def fzPlan : Dt → Prop
  | .tup z xs => rowD (.tup z xs) 1 15 = true → (xs.all fun x => wordD x planWords) = true → z = true
  | _ => True
def fzCase : Dt → Prop
  | .tup _ [_, p, _, _] => fzPlan p
  | _ => True
def fzHouse : Dt → Prop
  | .tup _ [_, p, _, _, _, _] => fzPlan p
  | _ => True
/-! ### promises -/
def spRow : Sp := fun vs H Q _ => ∃ (p : Addr) (x : V) (d : Dt) (lo hi : Int), vs = [x, .int lo, .int hi] ∧ Ob H p x d ∧ Q (.bl (rowD d lo hi)) H
/-- a test of one object -/
def spIs (ok : Dt → Prop) (f : Dt → Bool) : Sp := fun vs H Q _ => ∃ (p : Addr) (x : V) (d : Dt), vs = [x] ∧ Ob H p x d ∧ ok d ∧ ∀ H', Same H H' → Q (.bl (f d)) H'
def spIs2 (ok : Dt → Prop) (f : Dt → Dt → Bool) : Sp := fun vs H Q _ => ∃ (p : Addr) (x y : V) (d e : Dt), vs = [x, y] ∧ Ob H p x d ∧ Ob H p y e ∧ ok e ∧ ∀ H', Same H H' → Q (.bl (f d e)) H'
def spIs3 (ok : Dt → Dt → Dt → Prop) (f : Dt → Dt → Dt → Bool) : Sp := fun vs H Q _ => ∃ (p : Addr) (x y z : V) (d e g : Dt), vs = [x, y, z] ∧ Ob H p x d ∧ Ob H p y e ∧ Ob H p z g ∧ ok d e g ∧ ∀ H', Same H H' → Q (.bl (f d e g)) H'
/-- all([test of x for x in t]), t a tuple -/
theorem all_comp {K : PySem.W.Frag} {a : Addr} {xs : List V} {ds : List Dt} {i0 j : Nat} {te : TE} {σ : L2.St} {H : Hp} {Q : VK} {p : Addr} (f : Dt → Bool) (hj : σ[j]? = some (some (.ref a))) {z : Bool} (hT : Tp H a z xs) (hO : Obs H p xs ds) (hl : xs.length ≤ 1000)
    (hte : ∀ (x : V) (d : Dt) (H' : Hp) (R : VK), Same H H' → Ob H' p x d → (∀ H2, Same H' H2 → R (.bl (f d)) H2) → te ((wipe σ [i0]).set i0 (some x)) H' R)
    (hw : ∀ x : V, wipe ((wipe σ [i0]).set i0 (some x)) [i0] = wipe σ [i0])
    (q : ∀ H', Same H H' → Q (.bl (ds.all f)) H') : tCB (rAll K) (tCons (tLc (iTup K (tVar j)) (gName i0) tYes te [i0]) tNil) σ H Q := by
  refine ⟨_, hj, a, rfl, ⟨_, hT.sq⟩, fun D hD => ?_⟩
  have len := hO.len
  refine lc_tup (K := K) (a := a) (xs := xs) (fun i H' => Same H H' ∧ H' D = some (.lst (((ds.take i).map f).map V.bl))) ⟨same_upd hD, upd_same⟩ (fun i H' _ h => (hT.same h.1).sq) ?_ ?_
  · rintro i x H' hx ⟨k, e⟩
    obtain ⟨d, hd, ob⟩ := (hO.same k).get hx
    refine ⟨hw x, hte x d H' _ k ob fun H2 k2 => ⟨_, k2 _ _ e, ?_, fun c o hc => ?_, ?_⟩⟩
    · rw [List.length_map, List.length_map, List.length_take]
      exact Nat.lt_of_le_of_lt (show _ ≤ 1000 by omega) (by decide)
    · rw [upd_ne (ne_of_none hc hD)]; exact k2 _ _ (k c o hc)
    · rw [upd_same, List.take_add_one, hd, List.map_append, List.map_append]; rfl
  · rintro H' ⟨k, e⟩
    rw [len, List.take_length] at e
    refine ⟨D, _, rfl, SqL.of e, ?_⟩
    have e2 : (ds.map f).all id = ds.all f := by rw [List.all_map]; rfl
    rw [e2]
    exact q H' k
/-- all([test of x, y for x, y in zip(t, u)]), t, u tuples -/
theorem all_zip {K : PySem.W.Frag} {a b : Addr} {xs ys : List V} {ds es : List Dt} {i1 i2 j1 j2 : Nat} {te : TE} {σ : L2.St} {H : Hp} {Q : VK} {p : Addr} (f : Dt × Dt → Bool) (hj : σ[j1]? = some (some (.ref a))) (hj2 : σ[j2]? = some (some (.ref b)))
    {z : Bool} (hT : Tp H a z xs) {z2 : Bool} (hU : Tp H b z2 ys) (hO : Obs H p xs ds) (hP : Obs H p ys es) (hl : xs.length ≤ 1000)
    (hte : ∀ (x y : V) (d e : Dt) (H' : Hp) (R : VK), Same H H' → Ob H' p x d → Ob H' p y e → e ∈ es → (∀ H2, Same H' H2 → R (.bl (f (d, e))) H2) → te (((wipe σ [i1, i2]).set i1 (some x)).set i2 (some y)) H' R)
    (hw : ∀ x y : V, wipe (((wipe σ [i1, i2]).set i1 (some x)).set i2 (some y)) [i1, i2] = wipe σ [i1, i2])
    (q : ∀ H', Same H H' → Q (.bl ((ds.zip es).all f)) H') : tCB (rAll K) (tCons (tLc (iZipA K (tCons (tVar j1) (tCons (tVar j2) tNil))) (gTup K 2 (gCons (gName i1) (gCons (gName i2) gNil))) tYes te [i1, i2]) tNil) σ H Q := by
  refine ⟨_, hj, _, hj2, a, b, xs, ys, rfl, .inr ⟨hT.sq, hU.sq, fun D hD => ?_⟩⟩
  have l1 := hO.len
  have l2 := hP.len
  have lz : (ds.zip es).length ≤ 1000 := by rw [List.length_zip]; omega
  refine ⟨fun i m H' => m = (ds.zip es).length - i ∧ i ≤ (ds.zip es).length ∧ Same H H' ∧ H' D = some (.lst ((((ds.zip es).take i).map f).map V.bl)), ⟨_, rfl, Nat.zero_le _, same_upd hD, upd_same⟩, ?_⟩
  rintro i m H' ⟨rfl, hi, k, e⟩
  by_cases lt : i < (ds.zip es).length
  · have lt2 := lt
    rw [List.length_zip] at lt2
    have gx : xs[i]? = some xs[i] := List.getElem?_eq_getElem (by omega)
    have gy : ys[i]? = some ys[i] := List.getElem?_eq_getElem (by omega)
    obtain ⟨d, gd, od⟩ := (hO.same k).get gx
    obtain ⟨e', ge, oe⟩ := (hP.same k).get gy
    refine .inr ⟨⟨xs, ys, _, _, (hT.same k).sq, (hU.same k).sq, gx, gy⟩, fun H2 => Same H H2 ∧ H2 D = some (.lst ((((ds.zip es).take (i + 1)).map f).map V.bl)), fun H2 h2 => ⟨_, by omega, rfl, lt, h2⟩, ?_⟩
    rintro v H2 ⟨t, x, y, rfl, ht, rfl, fx, fy⟩
    have ex : x = xs[i] := Option.some.inj ((fx _ ((hT.same k).sq)).symm.trans gx)
    have ey : y = ys[i] := Option.some.inj ((fy _ ((hU.same k).sq)).symm.trans gy)
    subst ex; subst ey
    have kt := same_upd (o := .tup [xs[i], ys[i]]) ht
    refine ⟨t, _, rfl, SqT.of upd_same, rfl, _, _, rfl, _, _, rfl, rfl, ?_⟩
    refine ⟨hw _ _, hte _ _ d e' _ _ (k.trans kt) (od.same kt) (oe.same kt) (List.mem_of_getElem? ge) fun H3 k3 => ⟨_, k3 _ _ (kt _ _ e), ?_, fun c o hc => ?_, ?_⟩⟩
    · rw [List.length_map, List.length_map, List.length_take]
      exact Nat.lt_of_le_of_lt (show _ ≤ 1000 by omega) (by decide)
    · rw [upd_ne (ne_of_none hc hD)]; exact k3 _ _ (kt _ _ (k c o hc))
    · have gz : (ds.zip es)[i]? = some (d, e') := by rw [List.getElem?_zip_eq_some]; exact ⟨gd, ge⟩
      rw [upd_same, List.take_add_one, gz, List.map_append, List.map_append]; rfl
  · have ei : i = (ds.zip es).length := by omega
    subst ei
    rw [List.take_length] at e
    have e2 : ((ds.zip es).map f).all id = (ds.zip es).all f := by rw [List.all_map]; rfl
    refine .inl ⟨⟨xs, ys, (hT.same k).sq, (hU.same k).sq, ?_⟩, D, _, rfl, SqL.of e, ?_⟩
    · rw [List.length_zip]; omega
    · rw [e2]; exact q H' k
/-! ### t.count(text) -/
def rTCnt (K : PySem.W.Frag) : V → List V → Hp → VK → Prop := fun x xs H Q => ∃ (p : Addr) (ws : List Str) (k : Str), x = .ref p ∧ xs = [.str k] ∧ SqT K H p (ws.map V.str) ∧ Q (.int (ws.countP fun y => decide (y = k) : Nat)) H
theorem dp_strs {K : PySem.W.Frag} {H : Hp} : ∀ ws : List Str, DpAll K H (ws.map V.str) (ws.map PyData.str)
  | [] => .nil
  | w :: r => .cons (.str w) (dp_strs r)
theorem plain_strs : ∀ ws : List Str, PyData.plainAll (ws.map PyData.str) = true
  | [] => rfl
  | w :: r => by
    rw [List.map_cons]
    show (PyData.plain (.str w) && PyData.plainAll (r.map PyData.str)) = true
    rw [plain_strs r]; rfl
theorem mt_tcount {X : Cx} (hu : X.A.units + 64 < cLine) : MtR X "tuple.count" (rTCnt X.K) := by
  intro pins s σ H x xs v us Q I rx rxs h
  obtain ⟨p, ws, k, rfl, rfl, hs, q⟩ := h
  cases rx
  obtain ⟨u, rfl, ru⟩ := rxs.one
  obtain ⟨its, rv, pt, _⟩ := I.tuple hs
  obtain ⟨as, rs⟩ := Dp.readsAll I (ws.map PyData.str) (ws.map V.str) its (dp_strs ws) rv
  obtain ⟨bs, rk⟩ := Dp.reads I (.str k) (.str k) u (.str k) ru
  have dk : PyData.depth (.str k) ≤ 1 := by simp [PyData.depth]
  refine PySem.SeqAt.count_tuple_data pt (by simpa using rs) rk (plain_strs ws) rfl (by have := Nat.min_le_right (PyData.depthAll (ws.map PyData.str)) (PyData.depth (.str k)); omega) ⟨.int _, H, I.tok _, ⟨_, rfl⟩, ?_⟩
  have e : (ws.map PyData.str).countP (fun y => PyData.eqv y (.str k)) = ws.countP fun y => decide (y = k) := by
    rw [List.countP_map]
    congr 1
  rw [e]; exact q
/-! ### tuples laid, known to have no dict -/
section
variable {X : Cx} {es : List Expr} {t : TA} {pos : Pos}
/-- (e, ..) -/
def tTupF (t : TA) : TE := fun σ H Q => t σ H fun xs H1 => xs.length ≤ sizeLine ∧ ∀ p H2, H1 p = none → Same H1 H2 → Tp H2 p true xs → (∀ b, H2 b = none → H1 b = none) → Q (.ref p) H2
theorem fz_same {H : Hp} {p : Addr} {u : HO} (h : H p = none) : ∀ b, (upd H p u) b = none → H b = none := fun b e => by
  by_cases z : b = p
  · subst z; exact h
  · rw [upd_ne z] at e; exact e
theorem pe_tupF {c} (h : PA X es t) : PE X (.Tuple es c pos) (tTupF t) := by
  refine ⟨fun pins s σ H Q I hq => ?_⟩
  refine wpAny_Tuple_spliced (thn (h.run pos pins s σ H _ I hq) fun us s1 ⟨xs, H1, I1, r, z, q⟩ => ⟨by rw [← r.length]; exact z, ?_⟩)
  have hf : H1 s1.heap.objs.size = none := I1.hok.fresh (Nat.le_refl _)
  refine ⟨.ref s1.heap.objs.size, _, I1.laid (t' := s1.toks) (o := .frz { cls := .type "tuple", data := .seq us.toArray } (.tup xs)) (fun b u e => Heap.get?_push_of_some _ e) (Nat.le_refl _) ?_, rfl, q _ _ hf (same_upd hf) (.bare rfl rfl upd_same) (fz_same hf)⟩
  exact ⟨Heap.get?_push_size _ rfl, z, us, r, ⟨_, Heap.get?_push_size _ rfl, rfl, _, rfl⟩⟩
/-- tuple(a list) -/
def tTupOfF (K : PySem.W.Frag) (ta : TE) : TE := fun σ H Q => ta σ H fun x H1 => ∃ a xs, x = .ref a ∧ SqL K H1 a xs ∧ ∀ p H2, H1 p = none → Same H1 H2 → Tp H2 p true xs → (∀ b, H2 b = none → H1 b = none) → Q (.ref p) H2
theorem pe_tupleOfF {a : Expr} {ta : TE} {p pos : Pos} (hg : Gl X "tuple") (hm : X.mg "tuple" = none) (ha : PE X a ta) (na : starEach [a] X.env = (false, eval a X.env) :: starEach [] X.env := by rfl) : PE X (.Call (.Name "tuple" p) [a] [] pos) (tTupOfF X.K ta) := by
  refine ⟨fun pins s σ H Q I h => ?_⟩
  refine Call_ (ld_blt I hg hm boot_tuple (PyProof.Rows.callWith_type1 (one_arg ha I h (fun v s2 x H2 I2 r q => ?_) na) na))
  obtain ⟨b, xs, rfl, hs, q⟩ := q
  obtain rfl : v = .ref b := r
  obtain ⟨its, rv, pl, hz⟩ := I2.list hs
  refine call_tuple_list pl.isList (fun h' hk => ?_) (by rw [List.size_toArray, ← rv.length]; exact hz)
  have I3 : Inv X pins σ H2 { s2 with heap := h' } := I2.kept (t' := s2.toks) hk
  have hf : H2 h'.objs.size = none := I3.hok.fresh (Nat.le_refl _)
  refine ⟨.ref h'.objs.size, _, I3.laid (t' := s2.toks) (o := .frz { cls := .type "tuple", data := .seq its.toArray } (.tup xs)) (fun b o e => Heap.get?_push_of_some _ e) (Nat.le_refl _) ?_, rfl, q _ _ hf (same_upd hf) (.bare rfl rfl upd_same) (fz_same hf)⟩
  exact ⟨Heap.get?_push_size _ rfl, hz, its, rv, IsTup.new _ _⟩
/-- t + u -/
def rCatF (K : PySem.W.Frag) : R2 := fun x y H Q => ∃ a b xs ys, x = .ref a ∧ y = .ref b ∧ SqT K H a xs ∧ SqT K H b ys ∧ xs.length + ys.length ≤ sizeLine ∧
  (xs = [] → Q (.ref b) H) ∧ (xs ≠ [] → ys = [] → Q (.ref a) H) ∧ (xs ≠ [] → ys ≠ [] → ∀ p H2, H p = none → Same H H2 → Tp H2 p true (xs ++ ys) → (∀ b, H2 b = none → H b = none) → Q (.ref p) H2)
theorem op_catF : OpR X (binaryOp .Add) (rCatF X.K) := by
  intro pins s σ H x y v u Q I rx ry h
  obtain ⟨a, b, xs, ys, rfl, rfl, ha, hb, hz, q0, q1, q2⟩ := h
  cases rx
  cases ry
  obtain ⟨its, r1, p1, _⟩ := I.tuple ha
  obtain ⟨its2, r2, p2, _⟩ := I.tuple hb
  by_cases hx : xs = []
  · subst hx
    cases r1
    exact cat_tup0 p1 p2 ⟨.ref b, H, I, rfl, q0 rfl⟩
  · refine HT.cat_tup p1 p2 (fun z => hx (r1.nil_iff.mp z)) (fun z => ⟨.ref a, H, I, rfl, q1 hx (r2.nil_iff.mp z)⟩) (fun z => ?_) (by rw [← r1.length, ← r2.length]; exact hz)
    have hf : H s.heap.objs.size = none := I.hok.fresh (Nat.le_refl _)
    refine ⟨.ref s.heap.objs.size, _, I.laid (t' := s.toks) (o := .frz { cls := .type "tuple", data := .seq (its ++ its2).toArray } (.tup (xs ++ ys))) (fun b ob q => Heap.get?_push_of_some _ q) (Nat.le_refl _) ?_, rfl, q2 hx (fun w => z (r2.nil_iff.mpr w)) _ _ hf (same_upd hf) (.bare rfl rfl upd_same) (fz_same hf)⟩
    exact ⟨Heap.get?_push_size _ rfl, by rw [List.length_append]; exact hz, _, r1.append r2, IsTup.new _ _⟩
end
/-! ### t * k, k at least one -/
section
open PySem.AutoSeq1 (wpAny_loadPart')
theorem tuple_mul1 (l : Addr) (items : Array Value) (n : Nat) (dd : Option Addr) (sl : Array (Option Value)) (u : Tok) :
    Meets (Builtin.«tuple.__mul__» ⟨[.ref l, .int 1 u], []⟩) (fun _ R s => s.heap.get? l = some { cls := .type "tuple", dict := dd, data := .seq items n, slots := sl } ∧ R (.ok (.ret (Value.ref l))) s) :=
  .of_wp fun prog w A R s h => by
    obtain ⟨hp, g, d, tk, os⟩ := s
    obtain ⟨hl, h⟩ := h
    have f1 := AutoSeq1.idx_int
    have c0 : (decide ((1 : Int) < -(2 ^ 63)) || decide ((1 : Int) ≥ 2 ^ 63)) = false := by decide
    have c1 : (items.isEmpty || (1 : Int) == 1) = true := by simp
    wp_walk using wpAny_loadPart' hl
    repeat (first
      | (refine wpAny_ite_false (decide_eq_false (by rw [c0]; exact Bool.false_ne_true)) ?_; wp_walk using wpAny_loadPart' hl)
      | (refine wpAny_ite_true (decide_eq_true c1) ?_; wp_walk using wpAny_loadPart' hl))
    exact ⟨_, rfl, h⟩
def rRepF (K : PySem.W.Frag) : R2 := fun x y H Q => ∃ l k xs, x = .ref l ∧ y = .int k ∧ SqT K H l xs ∧ xs ≠ [] ∧ 1 ≤ k ∧ k ≤ 1000 ∧ xs.length ≤ 1000 ∧ (k = 1 → Q (.ref l) H) ∧ (2 ≤ k → ∀ p, H p = none → Q (.ref p) (upd H p (.tup (List.replicate k.toNat xs).flatten)))
theorem op_repF {X : Cx} : OpR X (binaryOp .Mult) (rRepF X.K) := by
  intro pins s σ H x y v u Q I rx ry h
  obtain ⟨l, k, xs, rfl, rfl, hT, hne, h1, h2, hz, q1, q2⟩ := h
  by_cases hk : k = 1
  · subst hk
    cases rx
    obtain ⟨t, rfl⟩ := ry
    obtain ⟨its, r, ⟨⟨cls, dd, data, sl⟩, ho, hc, n, hd⟩, hs⟩ := I.tuple hT
    simp only at hc hd
    subst hc hd
    refine wpAny_binaryOp_repeat_ref (T := "tuple") (U := "int") (by decide) ⟨_, ho, rfl⟩ (fun s' => typeIs_int s' 1 t) noFill_tuple_mul PySem.F.fills_int_mul PySem.F.slot_int_rmul repeat_tuple PySem.F.slot_int_index.lookup
      (call_meets PySem.F.slot_int_rmul (typeIs_int s 1 t) PySem.F.entry_int_rmul (PySem.F.args_int_rmul_2 _ _) (int_rmul_tuple 1 t l its.toArray n dd sl)
        ⟨ho, rfl, ⟨_, ho, rfl⟩, call_meets PySem.F.slot_tuple_mul ⟨_, ho, rfl⟩ PySem.F.entry_tuple_mul (PySem.F.args_tuple_mul_2 _ _) (tuple_mul1 l its.toArray n dd sl t) ⟨ho, ?_⟩⟩)
    exact ⟨.ref l, H, I, rfl, q1 rfl⟩
  · exact op_repT pins s σ H _ _ v u Q I rx ry ⟨l, k, xs, rfl, rfl, hT, hne, by omega, h2, hz, q2 (by omega)⟩
end
/-! ### a method of a tuple that has no dict -/
def tBMF (r : V → List V → Hp → VK → Prop) (to : TE) (t : TA) : TE := fun σ H Q => to σ H fun x H1 => (∃ a xs, x = .ref a ∧ Tp H1 a true xs) ∧ t σ H1 fun xs H2 => r x xs H2 Q
section
variable {X : Cx} {o e : Expr} {es : List Expr} {to : TE} {t : TA} {name : Str} {apos cpos : Pos} {id : String} {r : V → List V → Hp → VK → Prop}
theorem pe_bmF (pa : PlainAttrs "tuple") (slot : Slot "tuple" name id) (hty : typeOf (.builtin id) = pure (.type "method_descriptor")) (hm : MtR X id r) (ho : PE X o to) (ha : PA X (e :: es) t)
    (hbase : attributeBase o name X.env (eval o X.env) = eval o X.env := by rfl)
    (hfew : ((backTo cpos (starEach (e :: es) X.env)).all (fun x => !x.1) && (backToKw cpos (keywordEach [] X.env)).all (fun x => x.1.isSome)
      && decide ((e :: es).length + ([] : List Keyword).length + (if ([] : List Keyword).isEmpty then 0 else 1) < 30)) = true := by rfl)
    (hline : (apos.endLine == cpos.line) = true := by rfl) (hs : starEach (e :: es) X.env = (false, eval e X.env) :: starEach es X.env := by rfl) (hplain : (backTo cpos (starEach es X.env)).any (·.1) = false := by rfl) :
    PE X (.Call (.Attribute o name apos) (e :: es) [] cpos) (tBMF r to t) := by
  refine ⟨fun pins s σ H Q I h => ?_⟩
  refine wpAny_Call_method_late hbase hfew hline rfl (thn (ho.run pins s σ H _ I h) fun v s1 ⟨x, H1, I1, r1, ty, q1⟩ => ?_)
  have hh : s1.TypeIs v "tuple" ∧ ∀ a, v = .ref a → ∃ ob, s1.heap.get? a = some ob ∧ ob.dict = none := by
    obtain ⟨a, xs, rfl, tp⟩ := ty
    obtain rfl : v = .ref a := r1
    cases tp with
    | @bare ob _ c d e =>
      obtain ⟨g, _⟩ := I1.hok a _ e
      exact ⟨⟨ob, g, c⟩, fun b z => by cases z; exact ⟨ob, g, d⟩⟩
  obtain ⟨h1, h2⟩ := hh
  refine ⟨"tuple", id, pa, slot, hty, h1, h2, ?_⟩
  have hA := ha.run cpos pins s1 σ H1 _ I1 q1
  rw [hs] at hA ⊢
  refine Calls.callWith_builtin (by show (false || (backTo cpos (starEach es X.env)).any (·.1)) = false; rw [hplain] <;> rfl) (Calls.evalArgs_plain ?_)
  exact thn hA fun us s2 ⟨vs, H2, I2, r2, q2⟩ => hm pins s2 σ H2 x vs v us Q I2 r1 r2 q2
end
end Lc
namespace Lc
open PySem PySem.Spec PyProof.Rows L2
/-- a clause's wish: with a name's slot, or without -/
structure Cl where
  (c : Value) (slot : Option Nat) (ts : Addr → Value → Option Addr → TS)
def clD (D : Ends) : Option Nat → Ends
  | none => D
  | some i => { nx := fun σ H => D.nx (σ.set i none) H, rt := D.rt, bk := fun σ H => D.bk (σ.set i none) H, ct := fun σ H => D.ct (σ.set i none) H }
def clS (a : Addr) (σ : L2.St) : Option Nat → L2.St
  | none => σ
  | some i => σ.set i (some (.ref a))
def wMix (K : PySem.W.Frag) (Wout : WX) (D : Ends) : List Cl → WX
  | [] => Wout
  | l :: r => fun cls d σ H => ∃ b, PySem.W.exmOne K cls l.c = some b ∧ (b = true → ∀ a, H a = none → l.ts a cls d (clD D l.slot) (clS a σ l.slot) H) ∧ (b = false → wMix K Wout D r cls d σ H)
inductive MixOk (X : Cx) : List ExceptHandler → List Cl → Prop
  | nil : MixOk X [] []
  | plain {x : Str} {c : Value} {ts : Addr → Value → Option Addr → TS} {b₀ : Stmt} {ss : List Stmt} {np q : Pos} {hds : List ExceptHandler} {l : List Cl} (hc : Names X x c)
      (hsu : ∀ (a : Addr) (oe : Obj) (cls : Value) (d : Option Addr) (pn : List (Addr × Obj)), Zc cls d oe → (∃ vs, oe.data = .fields vs) → PSs (X.suite a ((a, oe) :: pn)) (b₀ :: ss) (ts a cls d)) (r : MixOk X hds l) :
      MixOk X (.ExceptHandler (some (.Name x np)) none (b₀ :: ss) q :: hds) (⟨c, none, ts⟩ :: l)
  | named {x n : Str} {i : Nat} {c : Value} {ts : Addr → Value → Option Addr → TS} {b₀ : Stmt} {ss : List Stmt} {np q : Pos} {hds : List ExceptHandler} {l : List Cl} (hc : Names X x c) (hi : X.N[i]? = some n) (hl : X.env.kindOf n = some .local)
      (hsu : ∀ (a : Addr) (oe : Obj) (cls : Value) (d : Option Addr) (pn : List (Addr × Obj)), Zc cls d oe → (∃ vs, oe.data = .fields vs) → PSs (X.suite a ((a, oe) :: pn)) (b₀ :: ss) (ts a cls d)) (r : MixOk X hds l) :
      MixOk X (.ExceptHandler (some (.Name x np)) (some n) (b₀ :: ss) q :: hds) (⟨c, some i, ts⟩ :: l)
section
variable {X : Cx} {body : List Stmt} {h₀ : ExceptHandler} {hds : List ExceptHandler} {l : List Cl} {pos : Pos} {tb : WX → TS}
/-- try with clauses of both forms; what none of them takes mustn't come -/
theorem ps_try_mix (hs : X.stack = X.env :: X.outer) (hf : X.env.frame = some X.env.locals) (hN : X.N.Nodup)
    (hb : ∀ (W : WX) (pn : List (Addr × Obj)) (xe : Value → Shared → Prop), Takes (X.tr pn xe) W → PassesOwn (model X.prog X.w) X.A X.env xe → PSs (X.tr pn xe) body (tb W))
    (hh : MixOk X (h₀ :: hds) l) : PS X (.Try body (h₀ :: hds) [] [] pos) (fun D σ H => tb (wMix X.K (fun _ _ _ _ => False) D l) D σ H) := by
  refine ⟨fun pins s σ H D I h => ?_⟩
  have ok := I.ok
  refine wpAny_Try_except (wpAny_mono ((hb (wMix X.K (fun _ _ _ _ => False) D l) (X.pn ++ pins) (fun e t1 => wpAny (model X.prog X.w) X.A (noteFrame e X.env) (fun _ t2 => wpAny (model X.prog X.w) X.A (setFlight e none) (fun _ t3 =>
    wpAny (model X.prog X.w) X.A (handleBy e X.env (h₀ :: hds)) (SP X pins D) X.xe t3) X.xe t2) X.xe t1) (fun u t xx => ?_) PassesOwn.looking).run [] s σ H D (I.toTry _) h) (fun f t q => ?_) fun e t z => z)
  · obtain ⟨a, B, sI, _, σ1, H1, cls, d, rfl, Jt, nb, u0, sky, na, os, ag, w⟩ := xx
    have J := Jt.ofTry ok
    rw [hs] at sky
    refine Sky.land Zc.steady (by rw [ok.frames, hs]) hf sky fun g fl u1 => ?_
    obtain ⟨oe, ov, ho, hz, hd⟩ := fl.there
    have out : a ∉ frs (X.env :: X.outer) := fun hm => by
      obtain ⟨_, o2, e2, hnf⟩ := fl.2.2.1.mem hm
      rw [ho] at e2; cases e2
      exact hnf _ hd
    have nL : a ≠ X.env.locals := fun z => out (List.mem_filterMap.mpr ⟨X.env, List.mem_cons_self, by rw [hf, z]⟩)
    have nF : a ∉ X.fs := fun hm => by
      obtain ⟨e, he, z⟩ := List.mem_filterMap.mp hm
      exact out (List.mem_filterMap.mpr ⟨e, List.mem_cons_of_mem _ he, z⟩)
    have J3 : Inv X pins σ1 H1 { t with heap := g } := J.landed nb fl.1 (u0.trans u1) os ag
    have S3 := J3.suite ho hd na nL nF
    have look : ∀ {x : Str} {c : Value} {np : Pos} {Q : Value → Shared → Prop} {E : Value → Shared → Prop}, Names X x c → Q c { t with heap := g } → wpAny (model X.prog X.w) (X.A.mark (some (.ref a))) (eval (.Name x np) X.env) Q E { t with heap := g } := fun {x c np Q E} hc z => by
      obtain ⟨hg, hdb, hm | ⟨hm, hv, hnn⟩⟩ := hc
      · exact ld_glob (X := X.suite a ((a, oe) :: (X.pn ++ pins))) S3 hg hm z hdb
      · exact ld_blt (X := X.suite a ((a, oe) :: (X.pn ++ pins))) S3 hg hm hv z hnn hdb
    have LT : PySem.W.Looks (model X.prog X.w) g (typeOf (.ref a)) cls := fun A Q E s k z => wpAny_typeOf_ref (k _ _ ho) (by rw [hz.1]; exact z)
    have go : ∀ {hds' : List ExceptHandler} {l' : List Cl}, MixOk X hds' l' → wMix X.K (fun _ _ _ _ => False) D l' cls d σ1 H1 → wpAny (model X.prog X.w) X.A (handleBy (.ref a) X.env hds') (SP X pins D) X.xe { t with heap := g } := by
      intro hds' l' hk
      induction hk with
      | nil => exact fun w => w.elim
      | @plain x c ts b₀ ss np q hds2 l2 hc hsu r ih =>
        rintro ⟨b, hb1, hy, hn⟩
        refine wpAny_handleBy_cons (codeAny_handlers_test ?_) (by intro z; cases z)
        refine look hc ((PySem.W.exm_one (M := model X.prog X.w) J3.kIn LT hb1).here ?_)
        cases b with
        | false => exact ih (hn rfl)
        | true =>
          refine codeAny_handlers_suite (HandSPX.lands_againZ fl fun g4 fl4 u4 => ?_)
          obtain ⟨oe4, _, ho4, hz4, hd4⟩ := fl4.there
          have J4 : Inv X pins σ1 H1 { t with heap := g4 } := J.landed nb fl4.1 ((u0.trans u1).trans u4) os ag
          have S4 := J4.suite ho4 hd4 na nL nF
          refine wpAny_mono ((hsu a oe4 cls d (X.pn ++ pins) hz4 ⟨_, hd4⟩).run [] _ _ H1 _ S4 (hy rfl a na)) (fun f t6 z => ?_) (fun _ _ z => False.elim z)
          cases f with
          | ret u => obtain ⟨v6, σ6, H6, S6, r6, q6⟩ := z; exact ⟨_, _, _, S6.unsuite ok, r6, q6⟩
          | next => obtain ⟨σ6, H6, S6, q6⟩ := z; exact ⟨_, _, S6.unsuite ok, q6⟩
          | brk => obtain ⟨σ6, H6, S6, q6⟩ := z; exact ⟨_, _, S6.unsuite ok, q6⟩
          | cont => obtain ⟨σ6, H6, S6, q6⟩ := z; exact ⟨_, _, S6.unsuite ok, q6⟩
      | @named x n i c ts b₀ ss np q hds2 l2 hc hi hl hsu r ih =>
        rintro ⟨b, hb1, hy, hn⟩
        refine wpAny_handleBy_cons (codeAny_handlers_test ?_) (by intro z; cases z)
        refine look hc ((PySem.W.exm_one (M := model X.prog X.w) J3.kIn LT hb1).here ?_)
        cases b with
        | false => exact ih (hn rfl)
        | true =>
          refine codeAny_handlers_suite_as (HandSPX.lands_againZ fl fun g4 fl4 u4 => ?_)
          obtain ⟨oe4, _, ho4, hz4, hd4⟩ := fl4.there
          have J4 : Inv X pins σ1 H1 { t with heap := g4 } := J.landed nb fl4.1 ((u0.trans u1).trans u4) os ag
          have S4 := J4.suite ho4 hd4 na nL nF
          refine store_ok (X := X.suite a ((a, oe4) :: (X.pn ++ pins))) (v := .ref a) S4 hN hi (.inl hl) rfl (fun t5 S5 => ?_) (.inr hl)
          refine wpAny_mono ((hsu a oe4 cls d (X.pn ++ pins) hz4 ⟨_, hd4⟩).run [] t5 _ H1 _ S5 (hy rfl a na)) (fun f t6 z => ?_) (fun _ _ z => False.elim z)
          cases f with
          | ret u => obtain ⟨v6, σ6, H6, S6, r6, q6⟩ := z; exact gone_ok (S6.unsuite ok) hN hi hl fun t7 J7 => ⟨_, _, _, J7, r6, q6⟩
          | next => obtain ⟨σ6, H6, S6, q6⟩ := z; exact gone_ok (S6.unsuite ok) hN hi hl fun t7 J7 => ⟨_, _, J7, q6⟩
          | brk => obtain ⟨σ6, H6, S6, q6⟩ := z; exact gone_ok (S6.unsuite ok) hN hi hl fun t7 J7 => ⟨_, _, J7, q6⟩
          | cont => obtain ⟨σ6, H6, S6, q6⟩ := z; exact gone_ok (S6.unsuite ok) hN hi hl fun t7 J7 => ⟨_, _, J7, q6⟩
    exact go hh w
  · cases f with
    | ret u => obtain ⟨v, σ', H', J', r, q⟩ := q; exact ⟨v, σ', H', J'.ofTry ok, r, q⟩
    | next => obtain ⟨σ', H', J', q⟩ := q; exact wpAny_execs_nil ⟨σ', H', J'.ofTry ok, q⟩
    | brk => obtain ⟨σ', H', J', q⟩ := q; exact ⟨σ', H', J'.ofTry ok, q⟩
    | cont => obtain ⟨σ', H', J', q⟩ := q; exact ⟨σ', H', J'.ofTry ok, q⟩
end
end Lc
namespace K09
open PySem PySem.Spec PyProof.Rows L2 Lc RZ
def topS (i : Nat) : Stmt := PySem.Challenge.pw_lanescounted_k09_what_is_a_case.main.body.getD i (.Pass ⟨0, 0, 0, 0⟩)
abbrev s_is_whole : Stmt := topS 1
theorem sc_is_whole : FnScope ["thing", "low", "high"] ["thing", "low", "high"] (defScope s_is_whole) := ⟨rfl, rfl, rfl, by decide +kernel, rfl, by decide +kernel, by decide +kernel⟩
abbrev s_is_word : Stmt := topS 2
theorem sc_is_word : FnScope ["thing", "words"] ["thing", "words"] (defScope s_is_word) := ⟨rfl, rfl, rfl, by decide +kernel, rfl, by decide +kernel, by decide +kernel⟩
abbrev s_is_row : Stmt := topS 3
theorem sc_is_row : FnScope ["thing", "low", "high"] ["thing", "low", "high"] (defScope s_is_row) := ⟨rfl, rfl, rfl, by decide +kernel, rfl, by decide +kernel, by decide +kernel⟩
abbrev s_is_counts : Stmt := topS 10
theorem sc_is_counts : FnScope ["thing", "count"] ["thing"] (defScope s_is_counts) := ⟨rfl, rfl, rfl, by decide +kernel, rfl, by decide +kernel, by decide +kernel⟩
abbrev s_is_course : Stmt := topS 11
theorem sc_is_course : FnScope ["thing", "counts", "lane", "count"] ["thing", "counts"] (defScope s_is_course) := ⟨rfl, rfl, rfl, by decide +kernel, rfl, by decide +kernel, by decide +kernel⟩
abbrev s_is_house : Stmt := topS 23
theorem sc_is_house : FnScope ["thing", "scheme", "plan", "counts", "courses", "letters", "senders"] ["thing"] (defScope s_is_house) := ⟨rfl, rfl, rfl, by decide +kernel, rfl, by decide +kernel, by decide +kernel⟩
abbrev s_is_case : Stmt := topS 24
theorem sc_is_case : FnScope ["thing", "scheme", "plan", "counts", "course"] ["thing"] (defScope s_is_case) := ⟨rfl, rfl, rfl, by decide +kernel, rfl, by decide +kernel, by decide +kernel⟩
abbrev s_house_of : Stmt := topS 25
theorem sc_house_of : FnScope ["case", "scheme", "plan", "counts", "course"] ["case"] (defScope s_house_of) := ⟨rfl, rfl, rfl, by decide +kernel, rfl, by decide +kernel, by decide +kernel⟩
abbrev s_is_frame : Stmt := topS 26
theorem sc_is_frame : FnScope ["scheme", "plan", "counts"] ["scheme", "plan", "counts"] (defScope s_is_frame) := ⟨rfl, rfl, rfl, by decide +kernel, rfl, by decide +kernel, by decide +kernel⟩
abbrev s_are_fitting : Stmt := topS 27
theorem sc_are_fitting : FnScope ["counts", "plan"] ["counts", "plan"] (defScope s_are_fitting) := ⟨rfl, rfl, rfl, by decide +kernel, rfl, by decide +kernel, by decide +kernel⟩
abbrev s_is_scheme : Stmt := topS 28
theorem sc_is_scheme : FnScope ["thing", "asks", "paced", "refused", "notes", "steady", "flag"] ["thing"] (defScope s_is_scheme) := ⟨rfl, rfl, rfl, by decide +kernel, rfl, by decide +kernel, by decide +kernel⟩
abbrev s_is_plan : Stmt := topS 29
theorem sc_is_plan : FnScope ["thing", "word"] ["thing"] (defScope s_is_plan) := ⟨rfl, rfl, rfl, by decide +kernel, rfl, by decide +kernel, by decide +kernel⟩
abbrev s_check_case : Stmt := topS 30
theorem sc_check_case : FnScope ["case"] ["case"] (defScope s_check_case) := ⟨rfl, rfl, rfl, by decide +kernel, rfl, by decide +kernel, by decide +kernel⟩
abbrev s_are_keys : Stmt := topS 31
theorem sc_are_keys : FnScope ["courses", "letters", "counts", "number", "course"] ["courses", "letters", "counts"] (defScope s_are_keys) := ⟨rfl, rfl, rfl, by decide +kernel, rfl, by decide +kernel, by decide +kernel⟩
abbrev s_law_source : Stmt := topS 33
theorem sc_law_source : FnScope ["_law_script"] ["_law_script"] (defScope s_law_source) := ⟨rfl, rfl, rfl, by decide +kernel, rfl, by decide +kernel, by decide +kernel⟩
abbrev s_law_draw : Stmt := topS 34
theorem sc_law_draw : FnScope ["_law_source_here", "_law_limit", "_law_cell", "_law_digit", "_law_mixed"] ["_law_source_here", "_law_limit"] (defScope s_law_draw) := ⟨rfl, rfl, rfl, by decide +kernel, rfl, by decide +kernel, by decide +kernel⟩
abbrev s_law_words : Stmt := topS 35
theorem sc_law_words : FnScope ["_law_source_here", "_law_room", "_law_usual", "_law_k", "_law_word"] ["_law_source_here", "_law_room"] (defScope s_law_words) := ⟨rfl, rfl, rfl, by decide +kernel, rfl, by decide +kernel, by decide +kernel⟩
abbrev s_law_scheme : Stmt := topS 36
theorem sc_law_scheme : FnScope ["_law_source_here", "_law_flags", "_law_notes", "_law_k"] ["_law_source_here"] (defScope s_law_scheme) := ⟨rfl, rfl, rfl, by decide +kernel, rfl, by decide +kernel, by decide +kernel⟩
abbrev s_law_house : Stmt := topS 37
theorem sc_law_house : FnScope ["_law_source_here", "_law_least", "_law_keys", "_law_shows", "_law_room", "_law_plan", "_law_k", "_law_counts", "_law_many", "_law_courses", "_law_letters", "_law_senders", "_law_count"] ["_law_source_here", "_law_least", "_law_keys"] (defScope s_law_house) := ⟨rfl, rfl, rfl, by decide +kernel, rfl, by decide +kernel, by decide +kernel⟩
abbrev s_law_put : Stmt := topS 38
theorem sc_law_put : FnScope ["_law_row", "_law_at", "_law_thing"] ["_law_row", "_law_at", "_law_thing"] (defScope s_law_put) := ⟨rfl, rfl, rfl, by decide +kernel, rfl, by decide +kernel, by decide +kernel⟩
abbrev s_law_bad_scheme : Stmt := topS 39
theorem sc_law_bad_scheme : FnScope ["_law_scheme_here", "_law_which", "_law_flag", "_law_bad"] ["_law_scheme_here", "_law_which"] (defScope s_law_bad_scheme) := ⟨rfl, rfl, rfl, by decide +kernel, rfl, by decide +kernel, by decide +kernel⟩
abbrev s_law_bad_plan : Stmt := topS 40
theorem sc_law_bad_plan : FnScope ["_law_plan", "_law_which", "_law_at", "_law_still", "_law_bad", "_law_word"] ["_law_plan", "_law_which", "_law_at"] (defScope s_law_bad_plan) := ⟨rfl, rfl, rfl, by decide +kernel, rfl, by decide +kernel, by decide +kernel⟩
abbrev s_law_bad_counts : Stmt := topS 41
theorem sc_law_bad_counts : FnScope ["_law_counts", "_law_which", "_law_at", "_law_bad"] ["_law_counts", "_law_which", "_law_at"] (defScope s_law_bad_counts) := ⟨rfl, rfl, rfl, by decide +kernel, rfl, by decide +kernel, by decide +kernel⟩
abbrev s_law_bad_course : Stmt := topS 42
theorem sc_law_bad_course : FnScope ["_law_counts", "_law_course", "_law_which", "_law_at", "_law_bad"] ["_law_counts", "_law_course", "_law_which", "_law_at"] (defScope s_law_bad_course) := ⟨rfl, rfl, rfl, by decide +kernel, rfl, by decide +kernel, by decide +kernel⟩
abbrev s_law_same : Stmt := topS 43
theorem sc_law_same : FnScope ["_law_found", "_law_due", "_law_k"] ["_law_found", "_law_due"] (defScope s_law_same) := ⟨rfl, rfl, rfl, by decide +kernel, rfl, by decide +kernel, by decide +kernel⟩
abbrev s_law_bad_case : Stmt := topS 44
theorem sc_law_bad_case : FnScope ["_law_case", "_law_part", "_law_which", "_law_at"] ["_law_case", "_law_part", "_law_which", "_law_at"] (defScope s_law_bad_case) := ⟨rfl, rfl, rfl, by decide +kernel, rfl, by decide +kernel, by decide +kernel⟩
abbrev s_law_told : Stmt := topS 45
theorem sc_law_told : FnScope ["_law_case", "_law_told_here", "e"] ["_law_case"] (defScope s_law_told) := ⟨rfl, rfl, rfl, by decide +kernel, rfl, by decide +kernel, by decide +kernel⟩
abbrev s_law : Stmt := topS 46
theorem sc_law : FnScope ["_law_script", "_law_source_here", "_law_part", "_law_which", "_law_house_here", "_law_case", "_law_bad", "_law_due", "_law_found"] ["_law_script"] (defScope s_law) := ⟨rfl, rfl, rfl, by decide +kernel, rfl, by decide +kernel, by decide +kernel⟩
structure Txt (K : PySem.W.Frag) (mg : Str → Option Value) where
  a_is_whole : Addr
  d_is_whole : FuncData
  F_is_whole : Fun K "is_whole" "is_whole" s_is_whole a_is_whole d_is_whole
  g_is_whole : mg "is_whole" = some (.ref a_is_whole)
  b_is_whole : Binds K d_is_whole ["thing", "low", "high"] []
  a_is_word : Addr
  d_is_word : FuncData
  F_is_word : Fun K "is_word" "is_word" s_is_word a_is_word d_is_word
  g_is_word : mg "is_word" = some (.ref a_is_word)
  b_is_word : Binds K d_is_word ["thing", "words"] []
  a_is_row : Addr
  d_is_row : FuncData
  F_is_row : Fun K "is_row" "is_row" s_is_row a_is_row d_is_row
  g_is_row : mg "is_row" = some (.ref a_is_row)
  b_is_row : Binds K d_is_row ["thing", "low", "high"] []
  a_is_counts : Addr
  d_is_counts : FuncData
  F_is_counts : Fun K "is_counts" "is_counts" s_is_counts a_is_counts d_is_counts
  g_is_counts : mg "is_counts" = some (.ref a_is_counts)
  b_is_counts : Binds K d_is_counts ["thing"] []
  a_is_course : Addr
  d_is_course : FuncData
  F_is_course : Fun K "is_course" "is_course" s_is_course a_is_course d_is_course
  g_is_course : mg "is_course" = some (.ref a_is_course)
  b_is_course : Binds K d_is_course ["thing", "counts"] []
  a_is_house : Addr
  d_is_house : FuncData
  F_is_house : Fun K "is_house" "is_house" s_is_house a_is_house d_is_house
  g_is_house : mg "is_house" = some (.ref a_is_house)
  b_is_house : Binds K d_is_house ["thing"] []
  a_is_case : Addr
  d_is_case : FuncData
  F_is_case : Fun K "is_case" "is_case" s_is_case a_is_case d_is_case
  g_is_case : mg "is_case" = some (.ref a_is_case)
  b_is_case : Binds K d_is_case ["thing"] []
  a_house_of : Addr
  d_house_of : FuncData
  F_house_of : Fun K "house_of" "house_of" s_house_of a_house_of d_house_of
  g_house_of : mg "house_of" = some (.ref a_house_of)
  b_house_of : Binds K d_house_of ["case"] []
  a_is_frame : Addr
  d_is_frame : FuncData
  F_is_frame : Fun K "is_frame" "is_frame" s_is_frame a_is_frame d_is_frame
  g_is_frame : mg "is_frame" = some (.ref a_is_frame)
  b_is_frame : Binds K d_is_frame ["scheme", "plan", "counts"] []
  a_are_fitting : Addr
  d_are_fitting : FuncData
  F_are_fitting : Fun K "are_fitting" "are_fitting" s_are_fitting a_are_fitting d_are_fitting
  g_are_fitting : mg "are_fitting" = some (.ref a_are_fitting)
  b_are_fitting : Binds K d_are_fitting ["counts", "plan"] []
  a_is_scheme : Addr
  d_is_scheme : FuncData
  F_is_scheme : Fun K "is_scheme" "is_scheme" s_is_scheme a_is_scheme d_is_scheme
  g_is_scheme : mg "is_scheme" = some (.ref a_is_scheme)
  b_is_scheme : Binds K d_is_scheme ["thing"] []
  a_is_plan : Addr
  d_is_plan : FuncData
  F_is_plan : Fun K "is_plan" "is_plan" s_is_plan a_is_plan d_is_plan
  g_is_plan : mg "is_plan" = some (.ref a_is_plan)
  b_is_plan : Binds K d_is_plan ["thing"] []
  a_check_case : Addr
  d_check_case : FuncData
  F_check_case : Fun K "check_case" "check_case" s_check_case a_check_case d_check_case
  g_check_case : mg "check_case" = some (.ref a_check_case)
  b_check_case : Binds K d_check_case ["case"] []
  a_are_keys : Addr
  d_are_keys : FuncData
  F_are_keys : Fun K "are_keys" "are_keys" s_are_keys a_are_keys d_are_keys
  g_are_keys : mg "are_keys" = some (.ref a_are_keys)
  b_are_keys : Binds K d_are_keys ["courses", "letters", "counts"] []
  a_law_source : Addr
  d_law_source : FuncData
  F_law_source : Fun K "_law_source" "_law_source" s_law_source a_law_source d_law_source
  g_law_source : mg "_law_source" = some (.ref a_law_source)
  b_law_source : Binds K d_law_source ["_law_script"] []
  a_law_draw : Addr
  d_law_draw : FuncData
  F_law_draw : Fun K "_law_draw" "_law_draw" s_law_draw a_law_draw d_law_draw
  g_law_draw : mg "_law_draw" = some (.ref a_law_draw)
  b_law_draw : Binds K d_law_draw ["_law_source_here", "_law_limit"] []
  a_law_words : Addr
  d_law_words : FuncData
  F_law_words : Fun K "_law_words" "_law_words" s_law_words a_law_words d_law_words
  g_law_words : mg "_law_words" = some (.ref a_law_words)
  b_law_words : Binds K d_law_words ["_law_source_here", "_law_room"] []
  a_law_scheme : Addr
  d_law_scheme : FuncData
  F_law_scheme : Fun K "_law_scheme" "_law_scheme" s_law_scheme a_law_scheme d_law_scheme
  g_law_scheme : mg "_law_scheme" = some (.ref a_law_scheme)
  b_law_scheme : Binds K d_law_scheme ["_law_source_here"] []
  a_law_house : Addr
  d_law_house : FuncData
  F_law_house : Fun K "_law_house" "_law_house" s_law_house a_law_house d_law_house
  g_law_house : mg "_law_house" = some (.ref a_law_house)
  b_law_house : Binds K d_law_house ["_law_source_here", "_law_least", "_law_keys"] []
  a_law_put : Addr
  d_law_put : FuncData
  F_law_put : Fun K "_law_put" "_law_put" s_law_put a_law_put d_law_put
  g_law_put : mg "_law_put" = some (.ref a_law_put)
  b_law_put : Binds K d_law_put ["_law_row", "_law_at", "_law_thing"] []
  a_law_bad_scheme : Addr
  d_law_bad_scheme : FuncData
  F_law_bad_scheme : Fun K "_law_bad_scheme" "_law_bad_scheme" s_law_bad_scheme a_law_bad_scheme d_law_bad_scheme
  g_law_bad_scheme : mg "_law_bad_scheme" = some (.ref a_law_bad_scheme)
  b_law_bad_scheme : Binds K d_law_bad_scheme ["_law_scheme_here", "_law_which"] []
  a_law_bad_plan : Addr
  d_law_bad_plan : FuncData
  F_law_bad_plan : Fun K "_law_bad_plan" "_law_bad_plan" s_law_bad_plan a_law_bad_plan d_law_bad_plan
  g_law_bad_plan : mg "_law_bad_plan" = some (.ref a_law_bad_plan)
  b_law_bad_plan : Binds K d_law_bad_plan ["_law_plan", "_law_which", "_law_at"] []
  a_law_bad_counts : Addr
  d_law_bad_counts : FuncData
  F_law_bad_counts : Fun K "_law_bad_counts" "_law_bad_counts" s_law_bad_counts a_law_bad_counts d_law_bad_counts
  g_law_bad_counts : mg "_law_bad_counts" = some (.ref a_law_bad_counts)
  b_law_bad_counts : Binds K d_law_bad_counts ["_law_counts", "_law_which", "_law_at"] []
  a_law_bad_course : Addr
  d_law_bad_course : FuncData
  F_law_bad_course : Fun K "_law_bad_course" "_law_bad_course" s_law_bad_course a_law_bad_course d_law_bad_course
  g_law_bad_course : mg "_law_bad_course" = some (.ref a_law_bad_course)
  b_law_bad_course : Binds K d_law_bad_course ["_law_counts", "_law_course", "_law_which", "_law_at"] []
  a_law_same : Addr
  d_law_same : FuncData
  F_law_same : Fun K "_law_same" "_law_same" s_law_same a_law_same d_law_same
  g_law_same : mg "_law_same" = some (.ref a_law_same)
  b_law_same : Binds K d_law_same ["_law_found", "_law_due"] []
  a_law_bad_case : Addr
  d_law_bad_case : FuncData
  F_law_bad_case : Fun K "_law_bad_case" "_law_bad_case" s_law_bad_case a_law_bad_case d_law_bad_case
  g_law_bad_case : mg "_law_bad_case" = some (.ref a_law_bad_case)
  b_law_bad_case : Binds K d_law_bad_case ["_law_case", "_law_part", "_law_which", "_law_at"] []
  a_law_told : Addr
  d_law_told : FuncData
  F_law_told : Fun K "_law_told" "_law_told" s_law_told a_law_told d_law_told
  g_law_told : mg "_law_told" = some (.ref a_law_told)
  b_law_told : Binds K d_law_told ["_law_case"] []
  a_law : Addr
  d_law : FuncData
  F_law : Fun K "law" "law" s_law a_law d_law
  g_law : mg "law" = some (.ref a_law)
  b_law : Binds K d_law ["_law_script"] []
  z_ValueError : mg "ValueError" = none
  z_all : mg "all" = none
  z_bool : mg "bool" = none
  z_int : mg "int" = none
  z_isinstance : mg "isinstance" = none
  z_len : mg "len" = none
  z_list : mg "list" = none
  z_range : mg "range" = none
  z_str : mg "str" = none
  z_tuple : mg "tuple" = none
  z_zip : mg "zip" = none
  u_GREATEST_OF_COUNTS : Value
  g_GREATEST_OF_COUNTS : mg "GREATEST_OF_COUNTS" = some u_GREATEST_OF_COUNTS
  r_GREATEST_OF_COUNTS : RelV (.int 4) u_GREATEST_OF_COUNTS
  c_REFUSALS : Addr
  g_REFUSALS : mg "REFUSALS" = some (.ref c_REFUSALS)
  r_REFUSALS : RelV (.ref c_REFUSALS) (.ref c_REFUSALS)
  q_REFUSALS : ∀ H, SqT K H c_REFUSALS [.str "back", .str "lost"]
  c_NOTINGS : Addr
  g_NOTINGS : mg "NOTINGS" = some (.ref c_NOTINGS)
  r_NOTINGS : RelV (.ref c_NOTINGS) (.ref c_NOTINGS)
  q_NOTINGS : ∀ H, SqT K H c_NOTINGS [.str "behind", .str "first", .str "with"]
  c_WORDS : Addr
  g_WORDS : mg "WORDS" = some (.ref c_WORDS)
  r_WORDS : RelV (.ref c_WORDS) (.ref c_WORDS)
  q_WORDS : ∀ H, SqT K H c_WORDS [.str "show", .str "tell", .str "agree", .str "close", .str "clear", .str "drain", .str "copy", .str "open", .str "drop"]
  u_MOST_WORDS : Value
  g_MOST_WORDS : mg "MOST_WORDS" = some u_MOST_WORDS
  r_MOST_WORDS : RelV (.int 15) u_MOST_WORDS
  u_MOST_SHOWS : Value
  g_MOST_SHOWS : mg "MOST_SHOWS" = some u_MOST_SHOWS
  r_MOST_SHOWS : RelV (.int 2) u_MOST_SHOWS
  u_MOST_KEYS : Value
  g_MOST_KEYS : mg "MOST_KEYS" = some u_MOST_KEYS
  r_MOST_KEYS : RelV (.int 3) u_MOST_KEYS
  u_MOST_LETTERS : Value
  g_MOST_LETTERS : mg "MOST_LETTERS" = some u_MOST_LETTERS
  r_MOST_LETTERS : RelV (.int 3) u_MOST_LETTERS
  u_MOST_SENDERS : Value
  g_MOST_SENDERS : mg "MOST_SENDERS" = some u_MOST_SENDERS
  r_MOST_SENDERS : RelV (.int 3) u_MOST_SENDERS
  u_LETTERS_OF_A_CASE : Value
  g_LETTERS_OF_A_CASE : mg "LETTERS_OF_A_CASE" = some u_LETTERS_OF_A_CASE
  r_LETTERS_OF_A_CASE : RelV (.int 2) u_LETTERS_OF_A_CASE
  u_SENDERS_OF_A_CASE : Value
  g_SENDERS_OF_A_CASE : mg "SENDERS_OF_A_CASE" = some u_SENDERS_OF_A_CASE
  r_SENDERS_OF_A_CASE : RelV (.int 2) u_SENDERS_OF_A_CASE
  C_LaneError : Addr
  g_LaneError : mg "LaneError" = some (.ref C_LaneError)
  x_LaneError : PySem.W.excIn K C_LaneError [.type "ValueError", .type "Exception", .type "BaseException", .type "object"] "ValueError.__new__" = true
  k_LaneError : PySem.W.keepIn K (.ref C_LaneError) = true
  p_LaneError : PySem.W.subIn K (.ref C_LaneError) (.type "BaseException") = some true
  t_LaneError : PySem.W.typeIn K (.ref C_LaneError) = some (.type "type")
  i_LaneError : PySem.W.isClsIn K C_LaneError = true
  C_BadHouse : Addr
  g_BadHouse : mg "BadHouse" = some (.ref C_BadHouse)
  x_BadHouse : PySem.W.excIn K C_BadHouse [.type "ValueError", .type "Exception", .type "BaseException", .type "object"] "ValueError.__new__" = true
  k_BadHouse : PySem.W.keepIn K (.ref C_BadHouse) = true
  p_BadHouse : PySem.W.subIn K (.ref C_BadHouse) (.type "BaseException") = some true
  t_BadHouse : PySem.W.typeIn K (.ref C_BadHouse) = some (.type "type")
  i_BadHouse : PySem.W.isClsIn K C_BadHouse = true
  C_BadCase : Addr
  g_BadCase : mg "BadCase" = some (.ref C_BadCase)
  x_BadCase : PySem.W.excIn K C_BadCase [.type "ValueError", .type "Exception", .type "BaseException", .type "object"] "ValueError.__new__" = true
  k_BadCase : PySem.W.keepIn K (.ref C_BadCase) = true
  p_BadCase : PySem.W.subIn K (.ref C_BadCase) (.type "BaseException") = some true
  t_BadCase : PySem.W.typeIn K (.ref C_BadCase) = some (.type "type")
  i_BadCase : PySem.W.isClsIn K C_BadCase = true
  q_BadCase_BadHouse : PySem.W.subIn K (.ref C_BadCase) (.ref C_BadHouse) = some false
  q_BadCase_BadCase : PySem.W.subIn K (.ref C_BadCase) (.ref C_BadCase) = some true
  q_BadCase_LaneError : PySem.W.subIn K (.ref C_BadCase) (.ref C_LaneError) = some true
  e_BadCase : ExcC K C_BadCase
  v_BadCase : PySem.W.subIn K (.ref C_BadCase) (.type "ValueError") = some true
def Txt.exc {K : PySem.W.Frag} {mg : Str → Option Value} (T : Txt K mg) (n : String) : Addr := if n = "LaneError" then T.C_LaneError else if n = "BadHouse" then T.C_BadHouse else if n = "BadCase" then T.C_BadCase else 0
/-- the source of draws, its script's list apart from Av -/
structure SrcA (H : Hp) (a : Addr) (n : Nat) (Av : Addr → Prop) : Prop where
  ex : ∃ (l : Addr) (ns : List Int) (x y z : Int), H a = some (.lst [.ref l, .int x, .int y, .int z]) ∧ H l = some (.lst (ns.map V.int)) ∧ (∀ k ∈ ns, k.natAbs.log2 ≤ 1048576) ∧ ns.length ≤ 63 ∧
    0 ≤ x ∧ x.natAbs.log2 ≤ 1048576 ∧ 0 ≤ y ∧ y < 2147483647 ∧ 0 ≤ z ∧ z ≤ (n : Int) ∧ ∀ D, Av D → l ≠ D
def spDrawA : Sp := fun vs H Q _ => ∃ (a : Addr) (n : Nat) (lim : Int) (Av : Addr → Prop), vs = [.ref a, .int lim] ∧ SrcA H a n Av ∧ (∀ D, Av D → H D ≠ none) ∧ n < 1000000 ∧ 1 ≤ lim ∧ lim ≤ 1000000000000 ∧
  ∀ d H', 0 ≤ d → d < lim → SrcA H' a (n + 1) Av → But a H H' → Q (.int d) H'
def spSourceA (K : PySem.W.Frag) : Sp := fun vs H Q _ => ∃ (a : Addr) (ns : List Int), vs = [.ref a] ∧ SqL K H a (ns.map V.int) ∧ ns.length ≤ 63 ∧ (∀ z ∈ ns, Builtin.Int.intBits z ≤ 1048576) ∧
  ∀ p H', H p = none → SrcA H' p 0 (fun _ => False) → Same H H' → Q (.ref p) H'
/-- no list for Av stands free -/
def Live (H : Hp) (Av : Addr → Prop) : Prop := ∀ D, Av D → H D ≠ none
def And1 (Av : Addr → Prop) (D : Addr) : Addr → Prop := fun b => Av b ∨ b = D
section
variable {H H' : Hp} {a : Addr} {n m : Nat} {Av Av' : Addr → Prop}
theorem SrcA.ne (S : SrcA H a n Av) {b : Addr} (h : H b = none) : b ≠ a := by
  obtain ⟨l, ns, x, y, z, h1, _⟩ := S.ex
  intro e; subst e; rw [h] at h1; cases h1
theorem SrcA.live (S : SrcA H a n Av) : H a ≠ none := fun e => S.ne e rfl
theorem SrcA.le (S : SrcA H a n Av) (h : n ≤ m) : SrcA H a m Av := by
  obtain ⟨l, ns, x, y, z, h1, h2, h3, h4, h5, h6, h7, h8, h9, h10, h11⟩ := S.ex
  exact ⟨l, ns, x, y, z, h1, h2, h3, h4, h5, h6, h7, h8, h9, by omega, h11⟩
theorem SrcA.same (S : SrcA H a n Av) (k : Same H H') : SrcA H' a n Av := by
  obtain ⟨l, ns, x, y, z, h1, h2, h3⟩ := S.ex
  exact ⟨l, ns, x, y, z, k _ _ h1, k _ _ h2, h3⟩
theorem SrcA.sub (S : SrcA H a n Av) (h : ∀ D, Av' D → Av D) : SrcA H a n Av' := by
  obtain ⟨l, ns, x, y, z, h1, h2, h3, h4, h5, h6, h7, h8, h9, h10, h11⟩ := S.ex
  exact ⟨l, ns, x, y, z, h1, h2, h3, h4, h5, h6, h7, h8, h9, h10, fun D hD => h11 D (h D hD)⟩
theorem SrcA.add {D : Addr} {o : HO} (S : SrcA H a n Av) (hD : H D = none) : SrcA (upd H D o) a n (And1 Av D) := by
  have k := same_upd (o := o) hD
  obtain ⟨l, ns, x, y, z, h1, h2, h3, h4, h5, h6, h7, h8, h9, h10, h11⟩ := S.ex
  exact ⟨l, ns, x, y, z, k _ _ h1, k _ _ h2, h3, h4, h5, h6, h7, h8, h9, h10, fun b hb e => by
    rcases hb with hb | hb
    · exact h11 b hb e
    · rw [e, hb, hD] at h2; cases h2⟩
theorem SrcA.put {D : Addr} {o : HO} (S : SrcA H a n Av) (hD : Av D) (ne : D ≠ a) : SrcA (upd H D o) a n Av := by
  obtain ⟨l, ns, x, y, z, h1, h2, h3, h4, h5, h6, h7, h8, h9, h10, h11⟩ := S.ex
  exact ⟨l, ns, x, y, z, (by rw [upd_ne ne.symm]; exact h1), (by rw [upd_ne (h11 D hD)]; exact h2), h3, h4, h5, h6, h7, h8, h9, h10, h11⟩
theorem Live.but (h : Live H Av) (S : SrcA H' a n Av) (b : But a H H') : Live H' Av := fun D hD z => by
  by_cases e : D = a
  · subst e; exact S.live z
  · cases y : H D with
    | none => exact h D hD y
    | some o => rw [b _ _ e y] at z; cases z
theorem Live.same (h : Live H Av) (k : Same H H') : Live H' Av := fun D hD z => by
  cases y : H D with
  | none => exact h D hD y
  | some o => rw [k _ _ y] at z; cases z
theorem Live.add {D : Addr} {o : HO} (h : Live H Av) (hD : H D = none) : Live (upd H D o) (And1 Av D) := fun b hb z => by
  rcases hb with hb | hb
  · exact h.same (same_upd hD) b hb z
  · subst hb; rw [upd_same] at z; cases z
theorem Live.put {D : Addr} {o : HO} (h : Live H Av) : Live (upd H D o) Av := fun b hb z => by
  by_cases e : b = D
  · subst e; rw [upd_same] at z; cases z
  · rw [upd_ne e] at z; exact h b hb z
end
section
variable {P : Program} {w : World} {K : PySem.W.Frag} {mg : Str → Option Value} {base : Heap}
theorem ok_law_source (T : Txt K mg) : FnOk P w K mg base CX0 1 T.a_law_source T.d_law_source ["_law_script"] (spSourceA K) := by
  refine T.F_law_source.ok sc_law_source (fun vs H Q E h => ?_) (fun cdv A outer s H vs Q E hr h => ?_)
  · obtain ⟨a, ns, rfl, _⟩ := h
    rfl
  · obtain ⟨a, ns, rfl, hS, hlen, hb, q⟩ := h
    refine ⟨_, (pss_one (ps_ret (pe_lst (pa_cons (pe_callTy call_list_of (by rfl) T.z_list (by decide +kernel) (pa_cons (pv 0) pa_nil)) (pa_cons pe_int (pa_cons pe_int (pa_cons pe_int pa_nil))))))), ?_⟩
    refine ⟨.ref a, rfl, a, _, rfl, .inl hS, fun l hl => ⟨(by show 4 ≤ sizeLine; decide), fun p hp => ?_⟩⟩
    have hpl : l ≠ p := ne_of_none upd_same hp
    have hp0 : H p = none := by rw [← upd_ne (H := H) (o := .lst (ns.map V.int)) hpl.symm]; exact hp
    refine q p _ hp0 ⟨l, ns, 0, 1, 0, upd_same, (by rw [upd_ne hpl]; exact upd_same), fun k hk => bits_log (hb k hk), hlen, by decide, by decide, by decide, by decide, by decide, by decide, fun _ h => False.elim h⟩ ((same_upd hl).trans (same_upd hp))
theorem ok_law_draw (T : Txt K mg) : FnOk P w K mg base CX0 1 T.a_law_draw T.d_law_draw ["_law_source_here", "_law_limit"] spDrawA := by
  refine T.F_law_draw.ok sc_law_draw (fun vs H Q E h => ?_) (fun cdv A outer s H vs Q E hr h => ?_)
  · obtain ⟨a, n, lim, Av, rfl, _⟩ := h
    rfl
  · obtain ⟨a, n, lim, Av, rfl, S, hAv, hn, l1, l2, q⟩ := h
    refine ⟨_, (pss_cons (ps_if (PW.pt (pw_and (pt_cmpR op_lt (pe_ix (ixL K) (pv 0) pe_int (fun _ _ => rfl)) (pv 1) (nomark _)) (pw_and1 (pt_truth (pe_ix (ixL K) (pv 0) pe_int (fun _ _ => rfl)) (by intro _; rfl)))))
      (pss_cons (ps_set (i := 2) sc_law_draw.nd rfl (Or.inl rfl) (pe_ix (ixL K) (pe_ix (ixL K) (pv 0) pe_int (fun _ _ => rfl)) pe_int (fun _ _ => rfl)))
      (pss_cons (ps_asg (pe_slice sl_list (pe_ix (ixL K) (pv 0) pe_int (fun _ _ => rfl)) (po_some pe_int) po_none) (pg_sub (pv 0) pe_int set_list))
      (pss_one (ps_if (pt_cmpR op_ge (pv 2) (pe_op op_pow pe_int pe_int) (nomark _))
      (pss_one (ps_asg (pv 2) (pg_sub (pv 0) pe_int set_list)))
      (pss_one (ps_asg (pe_op op_mod (pe_callTy call_int1 (by rfl) T.z_int (by decide +kernel) (pa_cons (pe_op op_add (pe_op op_add (pe_op Lc.op_mulX (pe_ix (ixL K) (pv 0) pe_int (fun _ _ => rfl)) pe_int) (pe_op Lc.op_mulX (pv 2) pe_int)) pe_int) pa_nil)) pe_int) (pg_sub (pv 0) pe_int set_list)))))))
      pss_nil)
      (pss_cons (ps_if (pt_cmpR op_ge (pe_ix (ixL K) (pv 0) pe_int (fun _ _ => rfl)) (pv 1) (nomark _))
      (pss_cons (ps_set (i := 3) sc_law_draw.nd rfl (Or.inl rfl) (pe_op op_mod (pe_callTy call_int1 (by rfl) T.z_int (by decide +kernel) (pa_cons (pe_ix (ixL K) (pv 0) pe_int (fun _ _ => rfl)) pa_nil)) (pv 1)))
      (pss_cons (ps_asg (pe_op op_fdivW (pe_ix (ixL K) (pv 0) pe_int (fun _ _ => rfl)) (pv 1)) (pg_sub (pv 0) pe_int set_list))
      (pss_one (ps_ret (pv 3)))))
      pss_nil)
      (pss_cons (ps_asg (pe_op op_add (pe_ix (ixL K) (pv 0) pe_int (fun _ _ => rfl)) pe_int) (pg_sub (pv 0) pe_int set_list))
      (pss_cons (ps_set (i := 4) sc_law_draw.nd rfl (Or.inl rfl) (pe_op op_mod (pe_callTy call_int1 (by rfl) T.z_int (by decide +kernel) (pa_cons (pe_op op_add (pe_ix (ixL K) (pv 0) pe_int (fun _ _ => rfl)) (pe_op Lc.op_mulX (pe_ix (ixL K) (pv 0) pe_int (fun _ _ => rfl)) pe_int)) pa_nil)) pe_int))
      (pss_one (ps_ret (pe_op op_mod (pe_op op_mod (pe_callTy call_int1 (by rfl) T.z_int (by decide +kernel) (pa_cons (pe_op op_add (pe_op op_add (pe_op Lc.op_mulX (pv 4) (pv 4)) (pe_op Lc.op_mulX (pe_ix (ixL K) (pv 0) pe_int (fun _ _ => rfl)) pe_int)) (pe_ix (ixL K) (pv 0) pe_int (fun _ _ => rfl))) pa_nil)) pe_int) (pv 1)))))))), ?_⟩
    refine seq_cut (fun σ' H' => ∃ c, σ' = [some (.ref a), some (.int lim), c, none, none] ∧ SrcA H' a n Av ∧ But a H H') ?_ (fun K1 => ?_)
    · rintro σ' H' ⟨c, rfl, S', B'⟩
      obtain ⟨l, ns, x, y, z, ha, hl, hb, hlen, x0, xb, y0, y1, z0, z1, av⟩ := S'.ex
      have nla : l ≠ a := fun e => by
        subst e; rw [ha] at hl
        have e2 := HO.lst.inj (Option.some.inj hl)
        cases ns with
        | nil => exact nomatch e2
        | cons k r => exact nomatch (List.cons.inj e2).1
      refine ⟨.ref a, rfl, a, _, 1, .int x, rfl, rfl, SqL.of ha, atI_nat (j := 1) rfl, .int lim, rfl, x, lim, rfl, rfl, _, rfl, ite2 (fun e => ?_) (fun e => ?_)⟩
      · have e1 : lim ≤ x := of_decide_eq_true e
        refine ⟨.ref a, rfl, a, _, 1, .int x, rfl, rfl, SqL.of ha, atI_nat (j := 1) rfl, .inl ⟨x, rfl, .int lim, rfl, x, lim, rfl, rfl, (by show 0 < lim; omega), ?_⟩⟩
        refine ⟨.ref a, rfl, a, _, 1, .int x, rfl, rfl, SqL.of ha, atI_nat (j := 1) rfl, .int lim, rfl, x, lim, rfl, rfl, divX (by omega) (Nat.lt_of_lt_of_le (by omega : lim.natAbs < 2 ^ 64) (Nat.pow_le_pow_right (by decide) (by decide))), .ref a, rfl, a, _, 1, 1, rfl, rfl, ha, rfl, ?_⟩
        refine ⟨.int (x % lim), rfl, q _ _ (Int.emod_nonneg x (by omega)) (Int.emod_lt_of_pos x (by omega)) ?_ B'.upd⟩
        exact ⟨l, ns, x / lim, y, z, upd_same, (by rw [upd_ne nla]; exact hl), hb, hlen, Int.ediv_nonneg x0 (by omega), idiv_log x0 l1 xb, y0, y1, z0, by omega, av⟩
      · refine ⟨.ref a, rfl, a, _, 3, .int z, rfl, rfl, SqL.of ha, atI_nat (j := 3) rfl, z, 1, rfl, rfl, .ref a, rfl, a, _, 3, 3, rfl, rfl, ha, rfl, ?_⟩
        have ha2 : (upd H' a (.lst [.ref l, .int x, .int y, .int (z + 1)])) a = some (.lst [.ref l, .int x, .int y, .int (z + 1)]) := upd_same
        have fz : Few (z + 1) := few_le (b := 1000000) (by omega) (by omega) (by decide)
        refine ⟨.ref a, rfl, a, _, 2, .int y, rfl, rfl, SqL.of ha2, atI_nat (j := 2) rfl, .ref a, rfl, a, _, 3, .int (z + 1), rfl, rfl, SqL.of ha2, atI_nat (j := 3) rfl, z + 1, 40692, rfl, rfl, mulX fz (few_le (b := 40692) (by decide) (by decide) (by decide)), y, _, rfl, rfl, .inl ⟨_, rfl, _, _, rfl, rfl, (by show (0 : Int) < 2147483399; decide), ?_⟩⟩
        have m0 : 0 ≤ (y + (z + 1) * 40692) % 2147483399 := Int.emod_nonneg _ (by decide)
        have m1 : (y + (z + 1) * 40692) % 2147483399 < 2147483399 := Int.emod_lt_of_pos _ (by decide)
        have fm := few_le (b := 2147483399) m0 (Int.le_of_lt m1) (by decide)
        refine ⟨_, rfl, _, rfl, _, _, rfl, rfl, mulX fm fm, .ref a, rfl, a, _, 3, .int (z + 1), rfl, rfl, SqL.of ha2, atI_nat (j := 3) rfl, z + 1, 3791, rfl, rfl, mulX fz (few_le (b := 3791) (by decide) (by decide) (by decide)), _, _, rfl, rfl, .ref a, rfl, a, _, 2, .int y, rfl, rfl, SqL.of ha2, atI_nat (j := 2) rfl, _, y, rfl, rfl, .inl ⟨_, rfl, _, _, rfl, rfl, (by show (0 : Int) < 2147483647; decide), .int lim, rfl, _, lim, rfl, rfl, (by show 0 < lim; omega), ?_⟩⟩
        refine q _ _ (Int.emod_nonneg _ (by omega)) (Int.emod_lt_of_pos _ (by omega)) ?_ B'.upd
        exact ⟨l, ns, x, y, z + 1, upd_same, (by rw [upd_ne nla]; exact hl), hb, hlen, x0, xb, y0, y1, by omega, by omega, av⟩
    · obtain ⟨l, ns, x, y, z, ha, hl, hb, hlen, x0, xb, y0, y1, z0, z1, av⟩ := S.ex
      refine ⟨.ref a, rfl, a, _, 1, .int x, rfl, rfl, SqL.of ha, atI_nat (j := 1) rfl, .int lim, rfl, x, lim, rfl, rfl, _, rfl, ite2 (fun e => ?_) (fun e => ?_)⟩
      · refine ⟨.ref a, rfl, a, _, 0, .ref l, rfl, rfl, SqL.of ha, atI_nat (j := 0) rfl, _, .inl ⟨_, SqL.of hl, rfl⟩, ?_⟩
        cases ns with
        | nil => exact iteF (K1 _ _ ⟨none, rfl, S, But.refl _ _⟩)
        | cons k r =>
          refine iteT ?_
          refine ⟨.ref a, rfl, a, _, 0, .ref l, rfl, rfl, SqL.of ha, atI_nat (j := 0) rfl, l, _, 0, .int k, rfl, rfl, SqL.of hl, atI_nat (j := 0) rfl, ?_⟩
          refine ⟨.ref a, rfl, a, _, 0, .ref l, rfl, rfl, SqL.of ha, atI_nat (j := 0) rfl, 1, rfl, l, _, rfl, SqL.of hl, fun p hp => ?_⟩
          have npa : a ≠ p := ne_of_none ha hp
          have ha1 : (upd H p (.lst (cutV ((k :: r).map V.int) (some 1) none))) a = some (.lst [.ref l, .int x, .int y, .int z]) := by
            rw [upd_ne npa]; exact ha
          refine ⟨.ref a, rfl, a, _, 0, 0, rfl, rfl, ha1, rfl, ?_⟩
          have ec : cutV ((k :: r).map V.int) (some 1) none = r.map V.int := by rw [cut1]; rfl
          rw [ec]
          have ha2 : (upd (upd H p (.lst (r.map V.int))) a (.lst [.ref p, .int x, .int y, .int z])) a = some (.lst [.ref p, .int x, .int y, .int z]) := upd_same
          have hp2 : (upd (upd H p (.lst (r.map V.int))) a (.lst [.ref p, .int x, .int y, .int z])) p = some (.lst (r.map V.int)) := by
            rw [upd_ne npa.symm]; exact upd_same
          have B2 : But a H (upd (upd H p (.lst (r.map V.int))) a (.lst [.ref p, .int x, .int y, .int z])) := (Same.but (same_upd hp)).upd
          have hk : k.natAbs.log2 ≤ 1048576 := hb k List.mem_cons_self
          have hr' : ∀ j ∈ r, j.natAbs.log2 ≤ 1048576 := fun j hj => hb j (List.mem_cons_of_mem _ hj)
          have hlr : r.length ≤ 63 := by rw [List.length_cons] at hlen; omega
          refine ⟨.int k, rfl, 10, 18, rfl, rfl, ⟨by decide, by decide, by decide⟩, k, _, rfl, rfl, _, rfl, ite2 (fun e => ?_) (fun e => ?_)⟩
          · have e1 : (10 : Int) ^ 18 ≤ k := of_decide_eq_true e
            refine ⟨.int k, rfl, .ref a, rfl, a, _, 1, 1, rfl, rfl, ha2, rfl, ?_⟩
            refine K1 _ _ ⟨some (.int k), rfl, ⟨p, r, k, y, z, upd_same, ?_, hr', hlr, by omega, hk, y0, y1, z0, z1, fun D hD e => hAv D hD (e ▸ hp)⟩, B2.upd⟩
            rw [upd_ne npa.symm]; exact hp2
          · refine ⟨.ref a, rfl, a, _, 2, .int y, rfl, rfl, SqL.of ha2, atI_nat (j := 2) rfl, y, 48271, rfl, rfl, mulX (few_le (b := 2147483647) y0 (by omega) (by decide)) (few_le (b := 48271) (by decide) (by decide) (by decide)), .int k, rfl, k, 69621, rfl, rfl, mulX (few_bits hk) (few_le (b := 69621) (by decide) (by decide) (by decide)), _, _, rfl, rfl, _, 7, rfl, rfl, .inl ⟨_, rfl, _, _, rfl, rfl, (by show (0 : Int) < 2147483647; decide), .ref a, rfl, a, _, 2, 2, rfl, rfl, ha2, rfl, ?_⟩⟩
            refine K1 _ _ ⟨some (.int k), rfl, ⟨p, r, x, _, z, upd_same, ?_, hr', hlr, x0, xb, Int.emod_nonneg _ (by decide), Int.emod_lt_of_pos _ (by decide), z0, z1, fun D hD e => hAv D hD (e ▸ hp)⟩, B2.upd⟩
            rw [upd_ne npa.symm]; exact hp2
      · exact iteF (K1 _ _ ⟨none, rfl, S, But.refl _ _⟩)
end

section
variable {P : Program} {w : World} {K : PySem.W.Frag} {mg : Str → Option Value} {base : Heap}
theorem ok_is_whole (T : Txt K mg) : FnOk P w K mg base CX0 1 T.a_is_whole T.d_is_whole ["thing", "low", "high"] (spWhole K) := by
  refine T.F_is_whole.ok sc_is_whole (fun vs H Q E h => ?_) (fun cdv A outer s H vs Q E hr h => ?_)
  · obtain ⟨x, lo, hi, n, rfl, _⟩ := h
    rfl
  · obtain ⟨x, lo, hi, n, rfl, hx, q⟩ := h
    refine ⟨_, (pss_one (ps_ret (pe_and (pe_callB call_isi (by rfl) T.z_isinstance (by decide +kernel) (pa_cons (pv 0) (pa_cons (pe_bltn (v := .ty "int") (by rfl) T.z_int (by decide +kernel) rfl) pa_nil))) (pe_and (pe_not (pe_callB call_isi (by rfl) T.z_isinstance (by decide +kernel) (pa_cons (pv 0) (pa_cons (pe_bltn (v := .ty "bool") (by rfl) T.z_bool (by decide +kernel) rfl) pa_nil)))) (pe_one (pe_chain op_le op_le (pv 1) (pv 0) (pv 2))))))), ?_⟩
    refine ⟨x, rfl, x, _, _, _, _, rfl, .ty _, hx.ty, hx.int?, _, rfl, ?_⟩
    cases x with
    | int i =>
      refine iteT ⟨_, rfl, _, _, _, _, _, rfl, .ty _, hx.ty, hx.bool?, _, rfl, _, rfl, iteT ?_⟩
      refine ⟨_, rfl, _, rfl, lo, i, rfl, rfl, _, rfl, ite2 (fun e => ?_) (fun e => ?_)⟩
      · refine ⟨_, rfl, i, hi, rfl, rfl, ?_⟩
        have e2 : wholeV (.int i) lo hi = decide (i ≤ hi) := by
          show (decide (lo ≤ i) && decide (i ≤ hi)) = _
          rw [e, Bool.true_and]
        rw [e2] at q
        exact q
      · have e2 : wholeV (.int i) lo hi = false := by
          show (decide (lo ≤ i) && decide (i ≤ hi)) = _
          rw [Bool.eq_false_iff.mpr e, Bool.false_and]
        rw [e2] at q
        exact q
    | bl b => exact iteT ⟨_, rfl, _, _, _, _, _, rfl, .ty _, hx.ty, hx.bool?, _, rfl, _, rfl, iteF q⟩
    | non => exact iteF q
    | str z => exact iteF q
    | byt z => cases hx
    | flt z => cases hx
    | ref z => exact iteF q
    | ty z => cases hx
theorem ok_is_word (T : Txt K mg) : FnOk P w K mg base CX0 1 T.a_is_word T.d_is_word ["thing", "words"] (spWord K) := by
  refine T.F_is_word.ok sc_is_word (fun vs H Q E h => ?_) (fun cdv A outer s H vs Q E hr h => ?_)
  · obtain ⟨x, t, ws, n, rfl, _⟩ := h
    rfl
  · obtain ⟨x, t, ws, n, rfl, ht, hx, q⟩ := h
    refine ⟨_, (pss_one (ps_ret (pe_and (pe_callB call_isi (by rfl) T.z_isinstance (by decide +kernel) (pa_cons (pv 0) (pa_cons (pe_bltn (v := .ty "str") (by rfl) T.z_str (by decide +kernel) rfl) pa_nil))) (pe_one (pe_cmpR op_in_seq (pv 0) (pv 1) rfl))))), ?_⟩
    refine ⟨x, rfl, x, _, _, _, _, rfl, .ty _, hx.ty, hx.str?, _, rfl, ?_⟩
    cases x with
    | str z =>
      refine iteT ⟨_, rfl, _, rfl, t, _, rfl, .inr ht, rfl, all_flat_str ws, ?_⟩
      rw [show (if false = true then !inV (V.str z) (ws.map V.str) else inV (V.str z) (ws.map V.str)) = decide (z ∈ ws) from inV_str z ws]
      exact q
    | int i => exact iteF q
    | bl b => exact iteF q
    | non => exact iteF q
    | byt z => cases hx
    | flt z => cases hx
    | ref z => exact iteF q
    | ty z => cases hx
end

section
theorem isiK {X : Cx} (K : PySem.W.Frag) (h : X.K = K := by rfl) : CallR X (.builtin "isinstance") (rIsi K) := h ▸ call_isi
theorem strs_of {H : Hp} {p : Addr} {W : List Str} : ∀ {xs : List V} {ds : List Dt}, Obs H p xs ds → (ds.all fun x => wordD x W) = true → ∃ ws : List Str, xs = ws.map V.str ∧ ds = ws.map Dt.str
  | _, _, .nil, _ => ⟨[], rfl, rfl⟩
  | _, _, .cons h t, e => by
    rw [List.all_cons, Bool.and_eq_true] at e
    obtain ⟨ws, e1, e2⟩ := strs_of t e.2
    cases h with
    | str s => exact ⟨s :: ws, by rw [e1]; rfl, by rw [e2]; rfl⟩
    | _ => exact nomatch e.1
theorem shows_strs (ws : List Str) : (ws.map Dt.str).countP isShow = ws.countP fun y => decide (y = ("show" : Str)) := by
  rw [List.countP_map]; rfl
theorem row_len {d : Dt} {lo hi : Int} (h : rowD d lo hi = true) : ∃ z ds, d = .tup z ds ∧ lo ≤ (ds.length : Int) ∧ (ds.length : Int) ≤ hi := by
  cases d with
  | tup z ds =>
    have h2 : (decide (lo ≤ (ds.length : Int)) && decide ((ds.length : Int) ≤ hi)) = true := h
    rw [Bool.and_eq_true] at h2
    exact ⟨z, ds, rfl, of_decide_eq_true h2.1, of_decide_eq_true h2.2⟩
  | _ => exact nomatch h
theorem tup_ob {H : Hp} {p : Addr} {v : V} {z : Bool} {ds : List Dt} (h : Ob H p v (.tup z ds)) : ∃ a xs, v = .ref a ∧ Tp H a z xs ∧ a ≠ p ∧ Obs H p xs ds := by
  cases h with
  | tup e ne all => exact ⟨_, _, rfl, e, ne, all⟩
theorem len4 {α : Type} {l : List α} (h : l.length = 4) : ∃ a b c d, l = [a, b, c, d] := by
  match l, h with
  | [a, b, c, d], _ => exact ⟨a, b, c, d, rfl⟩
theorem len5 {α : Type} {l : List α} (h : l.length = 5) : ∃ a b c d e, l = [a, b, c, d, e] := by
  match l, h with
  | [a, b, c, d, e], _ => exact ⟨a, b, c, d, e, rfl⟩
theorem len6 {α : Type} {l : List α} (h : l.length = 6) : ∃ a b c d e f, l = [a, b, c, d, e, f] := by
  match l, h with
  | [a, b, c, d, e, f], _ => exact ⟨a, b, c, d, e, f, rfl⟩
theorem obs_cons {H : Hp} {p : Addr} {xs : List V} {d : Dt} {ds : List Dt} (h : Obs H p xs (d :: ds)) : ∃ v vs, xs = v :: vs ∧ Ob H p v d ∧ Obs H p vs ds := by
  cases h with
  | cons h t => exact ⟨_, _, rfl, h, t⟩
theorem obs_nil {H : Hp} {p : Addr} {xs : List V} (h : Obs H p xs []) : xs = [] := by
  cases h; rfl
theorem obs4 {H : Hp} {p : Addr} {xs : List V} {a b c d : Dt} (h : Obs H p xs [a, b, c, d]) : ∃ v1 v2 v3 v4, xs = [v1, v2, v3, v4] ∧ Ob H p v1 a ∧ Ob H p v2 b ∧ Ob H p v3 c ∧ Ob H p v4 d := by
  obtain ⟨v1, _, rfl, o1, h⟩ := obs_cons h
  obtain ⟨v2, _, rfl, o2, h⟩ := obs_cons h
  obtain ⟨v3, _, rfl, o3, h⟩ := obs_cons h
  obtain ⟨v4, _, rfl, o4, h⟩ := obs_cons h
  have z := obs_nil h
  subst z
  exact ⟨v1, v2, v3, v4, rfl, o1, o2, o3, o4⟩
theorem obs5 {H : Hp} {p : Addr} {xs : List V} {a b c d e : Dt} (h : Obs H p xs [a, b, c, d, e]) : ∃ v1 v2 v3 v4 v5, xs = [v1, v2, v3, v4, v5] ∧ Ob H p v1 a ∧ Ob H p v2 b ∧ Ob H p v3 c ∧ Ob H p v4 d ∧ Ob H p v5 e := by
  obtain ⟨v1, _, rfl, o1, h⟩ := obs_cons h
  obtain ⟨v2, v3, v4, v5, rfl, h2⟩ := obs4 h
  exact ⟨v1, v2, v3, v4, v5, rfl, o1, h2⟩
theorem obs6 {H : Hp} {p : Addr} {xs : List V} {a b c d e f : Dt} (h : Obs H p xs [a, b, c, d, e, f]) : ∃ v1 v2 v3 v4 v5 v6, xs = [v1, v2, v3, v4, v5, v6] ∧ Ob H p v1 a ∧ Ob H p v2 b ∧ Ob H p v3 c ∧ Ob H p v4 d ∧ Ob H p v5 e ∧ Ob H p v6 f := by
  obtain ⟨v1, _, rfl, o1, h⟩ := obs_cons h
  obtain ⟨v2, v3, v4, v5, v6, rfl, h2⟩ := obs5 h
  exact ⟨v1, v2, v3, v4, v5, v6, rfl, o1, h2⟩
/-- all([test of x for x in t]), t handed by tl -/
theorem all_comp2 {K : PySem.W.Frag} {xs : List V} {ds : List Dt} {i0 : Nat} {tl te : TE} {σ : L2.St} {H : Hp} {Q : VK} {p : Addr} (f : Dt → Bool) (htl : ∀ R : VK, (∀ a H1, Same H H1 → H1 a = some (.tup xs) → R (.ref a) H1) → tl σ H R) (hO : Obs H p xs ds) (hl : xs.length ≤ 1000)
    (hte : ∀ (x : V) (d : Dt) (H' : Hp) (R : VK), Same H H' → Ob H' p x d → (∀ H2, Same H' H2 → R (.bl (f d)) H2) → te ((wipe σ [i0]).set i0 (some x)) H' R)
    (hw : ∀ x : V, wipe ((wipe σ [i0]).set i0 (some x)) [i0] = wipe σ [i0])
    (q : ∀ H', Same H H' → Q (.bl (ds.all f)) H') : tCB (rAll K) (tCons (tLc (iTup K tl) (gName i0) tYes te [i0]) tNil) σ H Q := by
  refine htl _ fun a H1 kk hT => ⟨a, rfl, ⟨_, SqT.of hT⟩, fun D hD => ?_⟩
  have len := hO.len
  refine lc_tup (K := K) (a := a) (xs := xs) (fun i H' => Same H1 H' ∧ H' D = some (.lst (((ds.take i).map f).map V.bl))) ⟨same_upd hD, upd_same⟩ (fun i H' _ h => SqT.of (h.1 _ _ hT)) ?_ ?_
  · rintro i x H' hx ⟨k, e⟩
    obtain ⟨d, hd, ob⟩ := (hO.same (kk.trans k)).get hx
    refine ⟨hw x, hte x d H' _ (kk.trans k) ob fun H2 k2 => ⟨_, k2 _ _ e, ?_, fun c o hc => ?_, ?_⟩⟩
    · rw [List.length_map, List.length_map, List.length_take]
      exact Nat.lt_of_le_of_lt (show _ ≤ 1000 by omega) (by decide)
    · rw [upd_ne (ne_of_none hc hD)]; exact k2 _ _ (k c o hc)
    · rw [upd_same, List.take_add_one, hd, List.map_append, List.map_append]; rfl
  · rintro H' ⟨k, e⟩
    rw [len, List.take_length] at e
    refine ⟨D, _, rfl, SqL.of e, ?_⟩
    have e2 : (ds.map f).all id = ds.all f := by rw [List.all_map]; rfl
    rw [e2]
    exact q H' (kk.trans k)
variable {P : Program} {w : World} {K : PySem.W.Frag} {mg : Str → Option Value} {base : Heap}
theorem ok_is_row (T : Txt K mg) : FnOk P w K mg base CX0 1 T.a_is_row T.d_is_row ["thing", "low", "high"] spRow := by
  refine T.F_is_row.ok sc_is_row (fun vs H Q E h => ?_) (fun cdv A outer s H vs Q E hr h => ?_)
  · obtain ⟨p, x, d, lo, hi, rfl, _⟩ := h
    rfl
  · obtain ⟨p, x, d, lo, hi, rfl, ob, q⟩ := h
    refine ⟨_, (pss_one (ps_ret (pe_and (pe_callB call_isi (by rfl) T.z_isinstance (by decide +kernel) (pa_cons (pv 0) (pa_cons (pe_bltn (v := .ty "tuple") (by rfl) T.z_tuple (by decide +kernel) rfl) pa_nil))) (pe_one (pe_chain op_le op_le (pv 1) (pe_callB call_len_seq (by rfl) T.z_len (by decide +kernel) (pa_cons (pv 0) pa_nil)) (pv 2)))))), ?_⟩
    refine ⟨x, rfl, x, _, _, _, _, rfl, .ty _, (ob.arg (K := K)).ty, kit_t d, _, rfl, ?_⟩
    cases ob with
    | @tup a z xs ds e ne all =>
      have len := all.len
      refine iteT ⟨_, rfl, _, rfl, _, _, rfl, .inr e.sq, lo, _, rfl, rfl, _, rfl, ite2 (fun h1 => ?_) (fun h1 => ?_)⟩
      · refine ⟨_, rfl, _, hi, rfl, rfl, ?_⟩
        have e2 : rowD (.tup z ds) lo hi = decide ((xs.length : Int) ≤ hi) := by
          show (decide (lo ≤ (ds.length : Int)) && decide ((ds.length : Int) ≤ hi)) = _
          rw [← len, h1, Bool.true_and]
        rw [e2] at q
        exact q
      · have e2 : rowD (.tup z ds) lo hi = false := by
          show (decide (lo ≤ (ds.length : Int)) && decide ((ds.length : Int) ≤ hi)) = _
          rw [← len, Bool.eq_false_iff.mpr h1, Bool.false_and]
        rw [e2] at q
        exact q
    | _ => exact iteF q
theorem ok_is_counts (T : Txt K mg) : FnOk P w K mg base CX0 2 T.a_is_counts T.d_is_counts ["thing"] (spIs (fun _ => True) countsD) := by
  refine T.F_is_counts.ok sc_is_counts (fun vs H Q E h => ?_) (fun cdv A outer s H vs Q E hr h => ?_)
  · obtain ⟨p, x, d, rfl, _⟩ := h
    rfl
  · obtain ⟨p, x, d, rfl, ob, fz, q⟩ := h
    refine ⟨_, (pss_one (ps_ret (pe_and (pe_call (ok_is_row T) (hr.mono (by decide)) rfl T.g_is_row T.F_is_row.kp T.b_is_row .nil pass0 (pa_cons (pv 0) (pa_cons pe_int (pa_cons pe_int pa_nil)))) (pe_one (pe_callB (cr_all rfl) (by rfl) T.z_all (by decide +kernel) (pa_cons (pe_lc (own := [("count", 1)]) (g := gName 1) (tt := tYes) (by rfl) sc_is_counts.nd (pi_tup (pv 0)) (blkOk_by (own := [("count", 1)]) (N := ["thing", "count"]) (sc := defScope s_is_counts) (by decide +kernel)) (fun _ _ _ _ _ => (pg_name (i := 1) sc_is_counts.nd rfl (Or.inl rfl))) (fun _ _ _ _ _ => pts_nil) (fun _ _ _ _ _ => (pe_call (ok_is_whole T) (hr.mono (by decide)) rfl T.g_is_whole T.F_is_whole.kp T.b_is_whole .nil pass0 (pa_cons (pv 1) (pa_cons pe_int (pa_cons (pe_glob rfl T.g_GREATEST_OF_COUNTS T.r_GREATEST_OF_COUNTS) pa_nil)))))) pa_nil)))))), ?_⟩
    refine ⟨x, rfl, p, x, d, 2, 3, rfl, ob, _, rfl, ?_⟩
    cases e : rowD d 2 3 with
    | false =>
      have e2 : countsD d = false := by unfold countsD; rw [e]; rfl
      rw [e2] at q
      exact iteF (q _ fun _ _ z => z)
    | true =>
      obtain ⟨z, ds, rfl, l1, l2⟩ := row_len e
      obtain ⟨a, xs, rfl, ea, ne, all⟩ := tup_ob ob
      have e2 : countsD (.tup z ds) = ds.all fun x => wholeD x 1 4 := by unfold countsD; rw [e]; rfl
      rw [e2] at q
      have ll := all.len
      refine iteT (all_comp (K := K) (fun x => wholeD x 1 4) rfl ea all (by omega) (fun y dy H' R k oy h => ?_) (fun _ => rfl) q)
      have r := h _ fun _ _ z => z
      rw [← whole_ob oy] at r
      exact ⟨y, rfl, y, 1, 4, _, rfl, oy.arg, r⟩
theorem ok_is_course (T : Txt K mg) : FnOk P w K mg base CX0 2 T.a_is_course T.d_is_course ["thing", "counts"] (spIs2 (fun c => countsD c = true) courseD) := by
  refine T.F_is_course.ok sc_is_course (fun vs H Q E h => ?_) (fun cdv A outer s H vs Q E hr h => ?_)
  · obtain ⟨p, x, y, d, c, rfl, _⟩ := h
    rfl
  · obtain ⟨p, x, y, d, c, rfl, ob, oc, hc, q⟩ := h
    refine ⟨_, (pss_cons (ps_if (pt_not (pt_val (pe_call (ok_is_row T) (hr.mono (by decide)) rfl T.g_is_row T.F_is_row.kp T.b_is_row .nil pass0 (pa_cons (pv 0) (pa_cons (pe_callB call_len_seq (by rfl) T.z_len (by decide +kernel) (pa_cons (pv 1) pa_nil)) (pa_cons (pe_callB call_len_seq (by rfl) T.z_len (by decide +kernel) (pa_cons (pv 1) pa_nil)) pa_nil))))))
      (pss_one (ps_ret pe_bl))
      pss_nil)
      (pss_one (ps_ret (pe_callB (cr_all rfl) (by rfl) T.z_all (by decide +kernel) (pa_cons (pe_lc (own := [("lane", 2), ("count", 3)]) (g := gTup K 2 (gCons (gName 2) (gCons (gName 3) (gNil)))) (tt := tYes) (by rfl) sc_is_course.nd (pi_zipA (by rfl) T.z_zip (pa_cons (pv 0) (pa_cons (pv 1) pa_nil))) (blkOk_by (own := [("lane", 2), ("count", 3)]) (N := ["thing", "counts", "lane", "count"]) (sc := defScope s_is_course) (by decide +kernel)) (fun _ _ _ _ _ => (pg_tup rfl (pgs_cons (pg_name (i := 2) sc_is_course.nd rfl (Or.inl rfl)) (pgs_cons (pg_name (i := 3) sc_is_course.nd rfl (Or.inl rfl)) pgs_nil)))) (fun _ _ _ _ _ => pts_nil) (fun _ _ _ _ _ => (pe_call (ok_is_whole T) (hr.mono (by decide)) rfl T.g_is_whole T.F_is_whole.kp T.b_is_whole .nil pass0 (pa_cons (pv 2) (pa_cons pe_int (pa_cons (pe_op op_sub (pv 3) pe_int) pa_nil)))))) pa_nil))))), ?_⟩
    have hc2 := hc
    unfold countsD at hc2
    rw [Bool.and_eq_true] at hc2
    obtain ⟨zc, cs, rfl, c1, c2⟩ := row_len hc2.1
    obtain ⟨b, ys, rfl, eb, neb, allb⟩ := tup_ob oc
    have lb := allb.len
    refine ⟨x, rfl, _, rfl, b, ys, rfl, .inr eb.sq, _, rfl, b, ys, rfl, .inr eb.sq, p, x, d, (ys.length : Nat), (ys.length : Nat), rfl, ob, _, rfl, ?_⟩
    rw [lb]
    cases e : rowD d ((cs.length : Nat) : Int) ((cs.length : Nat) : Int) with
    | false =>
      have e2 : courseD d (.tup zc cs) = false := by
        unfold courseD
        rw [show itemsD (.tup zc cs) = cs from rfl, e]; rfl
      rw [e2] at q
      exact q _ fun _ _ z => z
    | true =>
      obtain ⟨z, ds, rfl, l1, l2⟩ := row_len e
      obtain ⟨a, xs, rfl, ea, ne, all⟩ := tup_ob ob
      have e2 : courseD (.tup z ds) (.tup zc cs) = (ds.zip cs).all fun q => wholeD q.1 0 (intD q.2 - 1) := by
        unfold courseD
        rw [show itemsD (.tup zc cs) = cs from rfl, e]; rfl
      rw [e2] at q
      have ll := all.len
      refine all_zip (K := K) (fun q => wholeD q.1 0 (intD q.2 - 1)) rfl rfl ea eb all allb (by omega) (fun y z dy dz H' R k oy oz mz h => ?_) (fun _ _ => rfl) q
      have r := h _ fun _ _ z => z
      have hz : wholeD dz 1 4 = true := List.all_eq_true.mp hc2.2 dz mz
      cases oz with
      | int i =>
        have hz2 : (decide (1 ≤ i) && decide (i ≤ 4)) = true := hz
        rw [Bool.and_eq_true] at hz2
        have r2 : R (.bl (wholeD dy 0 (i - 1))) H' := r
        rw [← whole_ob oy] at r2
        exact ⟨y, rfl, _, rfl, _, _, rfl, rfl, y, 0, i - 1, _, rfl, oy.arg, r2⟩
      | _ => exact nomatch hz
theorem ok_is_scheme (T : Txt K mg) : FnOk P w K mg base CX0 2 T.a_is_scheme T.d_is_scheme ["thing"] (spIs (fun _ => True) schemeD) := by
  refine T.F_is_scheme.ok sc_is_scheme (fun vs H Q E h => ?_) (fun cdv A outer s H vs Q E hr h => ?_)
  · obtain ⟨p, x, d, rfl, _⟩ := h
    rfl
  · obtain ⟨p, x, d, rfl, ob, fz, q⟩ := h
    refine ⟨_, (pss_cons (ps_if (pt_not (pt_val (pe_call (ok_is_row T) (hr.mono (by decide)) rfl T.g_is_row T.F_is_row.kp T.b_is_row .nil pass0 (pa_cons (pv 0) (pa_cons pe_int (pa_cons pe_int pa_nil))))))
      (pss_one (ps_ret pe_bl))
      pss_nil)
      (pss_cons (ps_asg (pv 0) (pg_tup rfl (pgs_cons (pg_name (i := 1) sc_is_scheme.nd rfl (Or.inl rfl)) (pgs_cons (pg_name (i := 2) sc_is_scheme.nd rfl (Or.inl rfl)) (pgs_cons (pg_name (i := 3) sc_is_scheme.nd rfl (Or.inl rfl)) (pgs_cons (pg_name (i := 4) sc_is_scheme.nd rfl (Or.inl rfl)) (pgs_cons (pg_name (i := 5) sc_is_scheme.nd rfl (Or.inl rfl)) pgs_nil)))))))
      (pss_cons (ps_if (pt_not (pt_val (pe_callB (cr_all rfl) (by rfl) T.z_all (by decide +kernel) (pa_cons (pe_lc (own := [("flag", 6)]) (g := gName 6) (tt := tYes) (by rfl) sc_is_scheme.nd (pi_tup (pe_tup (pa_cons (pv 1) (pa_cons (pv 2) (pa_cons (pv 5) pa_nil))))) (blkOk_by (own := [("flag", 6)]) (N := ["thing", "asks", "paced", "refused", "notes", "steady", "flag"]) (sc := defScope s_is_scheme) (by decide +kernel)) (fun _ _ _ _ _ => (pg_name (i := 6) sc_is_scheme.nd rfl (Or.inl rfl))) (fun _ _ _ _ _ => pts_nil) (fun _ _ _ _ _ => (pe_callB (isiK K) (by rfl) T.z_isinstance (by decide +kernel) (pa_cons (pv 6) (pa_cons (pe_bltn (v := .ty "bool") (by rfl) T.z_bool (by decide +kernel) rfl) pa_nil))))) pa_nil))))
      (pss_one (ps_ret pe_bl))
      pss_nil)
      (pss_one (ps_ret (pe_and (pe_call (ok_is_word T) (hr.mono (by decide)) rfl T.g_is_word T.F_is_word.kp T.b_is_word .nil pass0 (pa_cons (pv 3) (pa_cons (pe_glob rfl T.g_REFUSALS T.r_REFUSALS) pa_nil))) (pe_one (pe_call (ok_is_word T) (hr.mono (by decide)) rfl T.g_is_word T.F_is_word.kp T.b_is_word .nil pass0 (pa_cons (pv 4) (pa_cons (pe_glob rfl T.g_NOTINGS T.r_NOTINGS) pa_nil)))))))))), ?_⟩
    refine ⟨x, rfl, p, x, d, 5, 5, rfl, ob, _, rfl, ?_⟩
    cases e : rowD d 5 5 with
    | false =>
      have e2 : schemeD d = false := by
        unfold schemeD
        split
        · rw [show rowD (.tup _ _) 5 5 = true from rfl] at e; cases e
        · rfl
      rw [e2] at q
      exact q _ fun _ _ z => z
    | true =>
      obtain ⟨z, ds, rfl, l1, l2⟩ := row_len e
      obtain ⟨a, xs, rfl, ea, ne, all⟩ := tup_ob ob
      obtain ⟨d1, d2, d3, d4, d5, rfl⟩ := len5 (show ds.length = 5 by omega)
      obtain ⟨v1, v2, v3, v4, v5, rfl, o1, o2, o3, o4, o5⟩ := obs5 all
      refine ⟨_, rfl, a, _, rfl, ea.sq, rfl, _, _, rfl, _, _, rfl, _, _, rfl, _, _, rfl, _, _, rfl, rfl, ?_⟩
      dsimp only [gName]
      refine all_comp2 (K := K) (p := p) (i0 := 6) (xs := [v1, v2, v5]) (ds := [d1, d2, d5]) isBd ?_ ?_ ?_ ?_ ?_ (fun H' k => ?_)
      · exact fun R h => ⟨_, rfl, _, rfl, _, rfl, by show 3 ≤ sizeLine; decide, fun c hc => h c _ (same_upd hc) upd_same⟩
      · exact .cons o1 (.cons o2 (.cons o5 .nil))
      · show 3 ≤ 1000; decide
      · exact fun y dy H' R k oy h => ⟨y, rfl, y, _, _, _, _, rfl, .ty _, (oy.arg (K := K)).ty, kit_b dy, h _ fun _ _ z => z⟩
      · exact fun _ => rfl
      have e2 : schemeD (.tup z [d1, d2, d3, d4, d5]) = ([d1, d2, d5].all isBd && (wordD d3 refusals && wordD d4 notings)) := by
        show (isBd d1 && isBd d2 && isBd d5 && (wordD d3 refusals && wordD d4 notings)) = ((isBd d1 && (isBd d2 && (isBd d5 && true))) && _)
        rw [Bool.and_true, Bool.and_assoc (isBd d1)]
      rw [e2] at q
      refine ⟨_, rfl, ?_⟩
      cases eb : [d1, d2, d5].all isBd with
      | false =>
        rw [eb] at q
        exact q _ k
      | true =>
        rw [eb] at q
        refine ⟨v3, rfl, v3, T.c_REFUSALS, refusals, _, rfl, T.q_REFUSALS H', (o3.same k).arg, _, rfl, ?_⟩
        rw [word_ob (o3.same k)]
        cases ew : wordD d3 refusals with
        | false =>
          rw [ew] at q
          exact q _ k
        | true =>
          rw [ew] at q
          refine ⟨v4, rfl, v4, T.c_NOTINGS, notings, _, rfl, T.q_NOTINGS H', (o4.same k).arg, ?_⟩
          rw [word_ob (o4.same k)]
          exact q _ k
theorem ok_is_plan (T : Txt K mg) : FnOk P w K mg base CX0 2 T.a_is_plan T.d_is_plan ["thing"] (spIs fzPlan planD) := by
  refine T.F_is_plan.ok sc_is_plan (fun vs H Q E h => ?_) (fun cdv A outer s H vs Q E hr h => ?_)
  · obtain ⟨p, x, d, rfl, _⟩ := h
    rfl
  · obtain ⟨p, x, d, rfl, ob, fz, q⟩ := h
    refine ⟨_, (pss_cons (ps_if (pt_not (pt_val (pe_call (ok_is_row T) (hr.mono (by decide)) rfl T.g_is_row T.F_is_row.kp T.b_is_row .nil pass0 (pa_cons (pv 0) (pa_cons pe_int (pa_cons (pe_glob rfl T.g_MOST_WORDS T.r_MOST_WORDS) pa_nil))))))
      (pss_one (ps_ret pe_bl))
      pss_nil)
      (pss_one (ps_ret (pe_and (pe_callB (cr_all rfl) (by rfl) T.z_all (by decide +kernel) (pa_cons (pe_lc (own := [("word", 1)]) (g := gName 1) (tt := tYes) (by rfl) sc_is_plan.nd (pi_tup (pv 0)) (blkOk_by (own := [("word", 1)]) (N := ["thing", "word"]) (sc := defScope s_is_plan) (by decide +kernel)) (fun _ _ _ _ _ => (pg_name (i := 1) sc_is_plan.nd rfl (Or.inl rfl))) (fun _ _ _ _ _ => pts_nil) (fun _ _ _ _ _ => (pe_call (ok_is_word T) (hr.mono (by decide)) rfl T.g_is_word T.F_is_word.kp T.b_is_word .nil pass0 (pa_cons (pv 1) (pa_cons (pe_glob rfl T.g_WORDS T.r_WORDS) pa_nil))))) pa_nil)) (pe_one (pe_chain op_le op_le pe_int (pe_bmF PySem.F.plainAttrs_tuple PySem.F.slot_tuple_count PySem.F.type_tuple_count (mt_tcount hr.units) (pv 0) (pa_cons pe_str pa_nil)) (pe_glob rfl T.g_MOST_SHOWS T.r_MOST_SHOWS))))))), ?_⟩
    refine ⟨x, rfl, p, x, d, 1, 15, rfl, ob, _, rfl, ?_⟩
    cases e : rowD d 1 15 with
    | false =>
      have e2 : planD d = false := by unfold planD; rw [e]; rfl
      rw [e2] at q
      exact q _ fun _ _ z => z
    | true =>
      obtain ⟨z, ds, rfl, l1, l2⟩ := row_len e
      obtain ⟨a, xs, rfl, ea, ne, all⟩ := tup_ob ob
      have ll := all.len
      have e2 : planD (.tup z ds) = (ds.all (fun x => wordD x planWords) && (decide (1 ≤ shows (.tup z ds)) && decide (shows (.tup z ds) ≤ 2))) := by unfold planD; rw [e]; rfl
      rw [e2] at q
      refine all_comp (K := K) (fun x => wordD x planWords) rfl ea all (by omega) (fun y dy H' R k oy h => ?_) (fun _ => rfl) (fun H' k => ⟨_, rfl, ?_⟩)
      · have r := h _ fun _ _ z => z
        rw [← word_ob oy] at r
        exact ⟨y, rfl, y, T.c_WORDS, planWords, _, rfl, T.q_WORDS H', oy.arg, r⟩
      cases eb : ds.all fun x => wordD x planWords with
      | false =>
        rw [eb] at q
        exact q _ k
      | true =>
        rw [eb] at q
        obtain ⟨ws, rfl, rfl⟩ := strs_of all eb
        have es : ∀ z, shows (.tup z (ws.map Dt.str)) = ws.countP fun y => decide (y = ("show" : Str)) := fun _ => shows_strs ws
        rw [es] at q
        refine ⟨_, rfl, ⟨a, _, rfl, fz e eb ▸ ea.same k⟩, a, ws, "show", rfl, rfl, (ea.same k).sq, 1, _, rfl, rfl, _, rfl, ite2 (fun h1 => ?_) (fun h1 => ?_)⟩
        · have h2 : 1 ≤ ws.countP fun y => decide (y = ("show" : Str)) := by have := of_decide_eq_true h1; omega
          rw [decide_eq_true h2] at q
          refine ⟨_, _, rfl, rfl, ?_⟩
          have r := q _ k
          rw [Bool.true_and, Bool.true_and] at r
          have e3 : decide ((((ws.countP fun y => decide (y = ("show" : Str))) : Nat) : Int) ≤ 2) = decide ((ws.countP fun y => decide (y = ("show" : Str))) ≤ 2) := decide_eq_decide.mpr (by omega)
          rw [← e3] at r
          exact r
        · have h2 : ¬ 1 ≤ ws.countP fun y => decide (y = ("show" : Str)) := by
            intro z; exact h1 (decide_eq_true (by omega))
          rw [decide_eq_false h2] at q
          exact q _ k
theorem ok_are_fitting (T : Txt K mg) : FnOk P w K mg base CX0 3 T.a_are_fitting T.d_are_fitting ["counts", "plan"] (spIs2 (fun d => fzPlan d ∧ planD d = true) fun c p => countsD c && decide ((itemsD c).length = shows p + 1)) := by
  refine T.F_are_fitting.ok sc_are_fitting (fun vs H Q E h => ?_) (fun cdv A outer s H vs Q E hr h => ?_)
  · obtain ⟨p, x, y, d, e, rfl, _⟩ := h
    rfl
  · obtain ⟨p, z, y, dc, dp, rfl, oc, op, ⟨fz, e2⟩, q⟩ := h
    dsimp only at q
    refine ⟨_, (pss_one (ps_ret (pe_and (pe_call (ok_is_counts T) (hr.mono (by decide)) rfl T.g_is_counts T.F_is_counts.kp T.b_is_counts .nil pass0 (pa_cons (pv 0) pa_nil)) (pe_one (pe_cmpR op_eq (pe_callB call_len_seq (by rfl) T.z_len (by decide +kernel) (pa_cons (pv 0) pa_nil)) (pe_op op_add (pe_bmF PySem.F.plainAttrs_tuple PySem.F.slot_tuple_count PySem.F.type_tuple_count (mt_tcount hr.units) (pv 1) (pa_cons pe_str pa_nil)) pe_int) (nomark _)))))), ?_⟩
    refine ⟨z, rfl, p, z, dc, rfl, oc, trivial, fun H3 k3 => ⟨_, rfl, ?_⟩⟩
    cases e3 : countsD dc with
    | false => rw [e3] at q; exact q _ k3
    | true =>
    rw [e3] at q
    have k : Same H H3 := k3
    have e2' := e2
    unfold planD at e2'
    rw [Bool.and_eq_true, Bool.and_eq_true] at e2'
    unfold countsD at e3
    rw [Bool.and_eq_true] at e3
    obtain ⟨zp, ps, rfl, _, _⟩ := row_len e2'.1
    obtain ⟨zc, cs, rfl, _, _⟩ := row_len e3.1
    obtain ⟨a, xs, rfl, ea, _, alla⟩ := tup_ob (op.same k)
    obtain ⟨b, ys, rfl, eb, _, allb⟩ := tup_ob (oc.same k)
    obtain ⟨ws, rfl, rfl⟩ := strs_of alla e2'.2.1
    have es : ∀ z, shows (.tup z (ws.map Dt.str)) = ws.countP fun y => decide (y = ("show" : Str)) := fun _ => shows_strs ws
    rw [es] at q
    have r := q _ k
    refine ⟨_, rfl, b, ys, rfl, .inr eb.sq, _, rfl, ⟨a, _, rfl, fz e2'.1 e2'.2.1 ▸ ea⟩, a, ws, "show", rfl, rfl, ea.sq, _, _, rfl, rfl, rfl, ?_⟩
    have lb : ys.length = cs.length := allb.len
    have e4 : decide (V.int ((ys.length : Nat) : Int) = V.int ((((ws.countP fun y => decide (y = ("show" : Str))) : Nat) : Int) + 1)) = decide ((itemsD (.tup zc cs)).length = (ws.countP fun y => decide (y = ("show" : Str))) + 1) := by
      refine decide_eq_decide.mpr ⟨fun z => ?_, fun z => ?_⟩
      · have z2 := V.int.inj z
        show cs.length = _
        omega
      · have z2 : cs.length = _ := z
        congr 1
        omega
    rw [Bool.true_and, ← e4] at r
    exact r
theorem ok_is_frame (T : Txt K mg) : FnOk P w K mg base CX0 4 T.a_is_frame T.d_is_frame ["scheme", "plan", "counts"] (spIs3 (fun _ d _ => fzPlan d) frameD) := by
  refine T.F_is_frame.ok sc_is_frame (fun vs H Q E h => ?_) (fun cdv A outer s H vs Q E hr h => ?_)
  · obtain ⟨p, x, y, z, d, e, g, rfl, _⟩ := h
    rfl
  · obtain ⟨p, x, y, z, ds, dp, dc, rfl, os, op, oc, fz, q⟩ := h
    refine ⟨_, (pss_one (ps_ret (pe_and (pe_call (ok_is_scheme T) (hr.mono (by decide)) rfl T.g_is_scheme T.F_is_scheme.kp T.b_is_scheme .nil pass0 (pa_cons (pv 0) pa_nil)) (pe_and (pe_call (ok_is_plan T) (hr.mono (by decide)) rfl T.g_is_plan T.F_is_plan.kp T.b_is_plan .nil pass0 (pa_cons (pv 1) pa_nil)) (pe_one (pe_call (ok_are_fitting T) (hr.mono (by decide)) rfl T.g_are_fitting T.F_are_fitting.kp T.b_are_fitting .nil pass0 (pa_cons (pv 2) (pa_cons (pv 1) pa_nil)))))))), ?_⟩
    unfold frameD at q
    refine ⟨x, rfl, p, x, ds, rfl, os, trivial, fun H1 k1 => ⟨_, rfl, ?_⟩⟩
    cases e1 : schemeD ds with
    | false => rw [e1] at q; exact q _ k1
    | true =>
    rw [e1] at q
    refine ⟨y, rfl, p, y, dp, rfl, op.same k1, fz, fun H2 k2 => ⟨_, rfl, ?_⟩⟩
    cases e2 : planD dp with
    | false => rw [e2] at q; exact q _ (k1.trans k2)
    | true =>
    rw [e2] at q
    rw [Bool.true_and, Bool.true_and] at q
    exact ⟨_, rfl, _, rfl, p, z, y, dc, dp, rfl, oc.same (k1.trans k2), op.same (k1.trans k2), ⟨fz, e2⟩, fun H3 k3 => q _ ((k1.trans k2).trans k3)⟩
theorem ok_are_keys (T : Txt K mg) : FnOk P w K mg base CX0 3 T.a_are_keys T.d_are_keys ["courses", "letters", "counts"] (spIs3 (fun _ _ c => countsD c = true) keysD) := by
  refine T.F_are_keys.ok sc_are_keys (fun vs H Q E h => ?_) (fun cdv A outer s H vs Q E hr h => ?_)
  · obtain ⟨p, x, y, z, d, e, g, rfl, _⟩ := h
    rfl
  · obtain ⟨p, x, y, z, d, l, c, rfl, od, ol, oc, hc, q⟩ := h
    refine ⟨_, (pss_cons (ps_if (pt_not (PW.pt (pw_and (pt_val (pe_call (ok_is_row T) (hr.mono (by decide)) rfl T.g_is_row T.F_is_row.kp T.b_is_row .nil pass0 (pa_cons (pv 0) (pa_cons pe_int (pa_cons (pe_glob rfl T.g_MOST_KEYS T.r_MOST_KEYS) pa_nil))))) (pw_and1 (pt_val (pe_call (ok_is_row T) (hr.mono (by decide)) rfl T.g_is_row T.F_is_row.kp T.b_is_row .nil pass0 (pa_cons (pv 1) (pa_cons (pe_callB call_len_seq (by rfl) T.z_len (by decide +kernel) (pa_cons (pv 0) pa_nil)) (pa_cons (pe_callB call_len_seq (by rfl) T.z_len (by decide +kernel) (pa_cons (pv 0) pa_nil)) pa_nil)))))))))
      (pss_one (ps_ret pe_bl))
      pss_nil)
      (pss_cons (ps_if (pt_not (pt_val (pe_callB (cr_all rfl) (by rfl) T.z_all (by decide +kernel) (pa_cons (pe_lc (own := [("course", 4)]) (g := gName 4) (tt := tYes) (by rfl) sc_are_keys.nd (pi_tup (pv 0)) (blkOk_by (own := [("course", 4)]) (N := ["courses", "letters", "counts", "number", "course"]) (sc := defScope s_are_keys) (by decide +kernel)) (fun _ _ _ _ _ => (pg_name (i := 4) sc_are_keys.nd rfl (Or.inl rfl))) (fun _ _ _ _ _ => pts_nil) (fun _ _ _ _ _ => (pe_call (ok_is_course T) (hr.mono (by decide)) rfl T.g_is_course T.F_is_course.kp T.b_is_course .nil pass0 (pa_cons (pv 4) (pa_cons (pv 2) pa_nil))))) pa_nil))))
      (pss_one (ps_ret pe_bl))
      pss_nil)
      (pss_one (ps_ret (pe_callB (cr_all rfl) (by rfl) T.z_all (by decide +kernel) (pa_cons (pe_lc (own := [("number", 3)]) (g := gName 3) (tt := tYes) (by rfl) sc_are_keys.nd (pi_tup (pv 1)) (blkOk_by (own := [("number", 3)]) (N := ["courses", "letters", "counts", "number", "course"]) (sc := defScope s_are_keys) (by decide +kernel)) (fun _ _ _ _ _ => (pg_name (i := 3) sc_are_keys.nd rfl (Or.inl rfl))) (fun _ _ _ _ _ => pts_nil) (fun _ _ _ _ _ => (pe_call (ok_is_whole T) (hr.mono (by decide)) rfl T.g_is_whole T.F_is_whole.kp T.b_is_whole .nil pass0 (pa_cons (pv 3) (pa_cons pe_int (pa_cons (pe_glob rfl T.g_MOST_LETTERS T.r_MOST_LETTERS) pa_nil)))))) pa_nil)))))), ?_⟩
    unfold keysD at q
    refine ⟨x, rfl, p, x, d, 1, 3, rfl, od, _, rfl, ?_⟩
    cases e1 : rowD d 1 3 with
    | false =>
      rw [e1] at q
      exact q _ fun _ _ z => z
    | true =>
    rw [e1] at q
    obtain ⟨zd, ds, rfl, l1, l2⟩ := row_len e1
    obtain ⟨a, xs, rfl, ea, na, alla⟩ := tup_ob od
    have la := alla.len
    refine ⟨y, rfl, _, rfl, a, xs, rfl, .inr ea.sq, _, rfl, a, xs, rfl, .inr ea.sq, p, y, l, (xs.length : Nat), (xs.length : Nat), rfl, ol, _, rfl, ?_⟩
    rw [la]
    cases e2 : rowD l ((ds.length : Nat) : Int) ((ds.length : Nat) : Int) with
    | false =>
      rw [show (itemsD (.tup zd ds)).length = ds.length from rfl, e2] at q
      exact q _ fun _ _ z => z
    | true =>
    rw [show (itemsD (.tup zd ds)).length = ds.length from rfl, e2] at q
    obtain ⟨zl, ls, rfl, m1, m2⟩ := row_len e2
    obtain ⟨b, ys, rfl, eb, nb, allb⟩ := tup_ob ol
    have lb := allb.len
    try dsimp only [tNext]
    refine all_comp (K := K) (p := p) (i0 := 4) (fun x => courseD x c) rfl ea alla (by omega) ?_ (fun _ => rfl) (fun H1 k1 => ⟨_, rfl, ?_⟩)
    · intro v dv H' R k ov h
      exact ⟨v, rfl, z, rfl, p, v, z, dv, c, rfl, ov, oc.same k, hc, h⟩
    cases e3 : ds.all fun x => courseD x c with
    | false =>
      rw [show itemsD (.tup zd ds) = ds from rfl, e3] at q
      exact q _ k1
    | true =>
    rw [show itemsD (.tup zd ds) = ds from rfl, e3] at q
    refine all_comp (K := K) (p := p) (i0 := 3) (fun x => wholeD x 1 3) rfl (eb.same k1) (allb.same k1) (by omega) ?_ (fun _ => rfl) (fun H2 k2 => ?_)
    · intro v dv H' R k ov h
      have r := h _ fun _ _ z => z
      rw [← whole_ob ov] at r
      exact ⟨v, rfl, v, 1, 3, _, rfl, ov.arg, r⟩
    · exact q _ (k1.trans k2)
theorem ok_is_house (T : Txt K mg) : FnOk P w K mg base CX0 5 T.a_is_house T.d_is_house ["thing"] (spIs fzHouse houseD) := by
  refine T.F_is_house.ok sc_is_house (fun vs H Q E h => ?_) (fun cdv A outer s H vs Q E hr h => ?_)
  · obtain ⟨p, x, d, rfl, _⟩ := h
    rfl
  · obtain ⟨p, x, d, rfl, ob, fz, q⟩ := h
    refine ⟨_, (pss_cons (ps_if (pt_not (pt_val (pe_call (ok_is_row T) (hr.mono (by decide)) rfl T.g_is_row T.F_is_row.kp T.b_is_row .nil pass0 (pa_cons (pv 0) (pa_cons pe_int (pa_cons pe_int pa_nil))))))
      (pss_one (ps_ret pe_bl))
      pss_nil)
      (pss_cons (ps_asg (pv 0) (pg_tup rfl (pgs_cons (pg_name (i := 1) sc_is_house.nd rfl (Or.inl rfl)) (pgs_cons (pg_name (i := 2) sc_is_house.nd rfl (Or.inl rfl)) (pgs_cons (pg_name (i := 3) sc_is_house.nd rfl (Or.inl rfl)) (pgs_cons (pg_name (i := 4) sc_is_house.nd rfl (Or.inl rfl)) (pgs_cons (pg_name (i := 5) sc_is_house.nd rfl (Or.inl rfl)) (pgs_cons (pg_name (i := 6) sc_is_house.nd rfl (Or.inl rfl)) pgs_nil))))))))
      (pss_cons (ps_if (pt_not (pt_val (pe_call (ok_is_frame T) (hr.mono (by decide)) rfl T.g_is_frame T.F_is_frame.kp T.b_is_frame .nil pass0 (pa_cons (pv 1) (pa_cons (pv 2) (pa_cons (pv 3) pa_nil))))))
      (pss_one (ps_ret pe_bl))
      pss_nil)
      (pss_one (ps_ret (pe_and (pe_call (ok_are_keys T) (hr.mono (by decide)) rfl T.g_are_keys T.F_are_keys.kp T.b_are_keys .nil pass0 (pa_cons (pv 4) (pa_cons (pv 5) (pa_cons (pv 3) pa_nil)))) (pe_one (pe_call (ok_is_whole T) (hr.mono (by decide)) rfl T.g_is_whole T.F_is_whole.kp T.b_is_whole .nil pass0 (pa_cons (pv 6) (pa_cons pe_int (pa_cons (pe_glob rfl T.g_MOST_SENDERS T.r_MOST_SENDERS) pa_nil))))))))))), ?_⟩
    refine ⟨x, rfl, p, x, d, 6, 6, rfl, ob, _, rfl, ?_⟩
    cases e : rowD d 6 6 with
    | false =>
      have e2 : houseD d = false := by
        unfold houseD
        split
        · rw [show rowD (.tup _ _) 6 6 = true from rfl] at e; cases e
        · rfl
      rw [e2] at q
      exact q _ fun _ _ z => z
    | true =>
      obtain ⟨z, ds, rfl, l1, l2⟩ := row_len e
      obtain ⟨a, xs, rfl, ea, ne, all⟩ := tup_ob ob
      obtain ⟨d1, d2, d3, d4, d5, d6, rfl⟩ := len6 (show ds.length = 6 by omega)
      obtain ⟨v1, v2, v3, v4, v5, v6, rfl, o1, o2, o3, o4, o5, o6⟩ := obs6 all
      have e2 : houseD (.tup z [d1, d2, d3, d4, d5, d6]) = (frameD d1 d2 d3 && (keysD d4 d5 d3 && wholeD d6 1 3)) := rfl
      rw [e2] at q
      refine ⟨_, rfl, a, _, rfl, ea.sq, rfl, _, _, rfl, _, _, rfl, _, _, rfl, _, _, rfl, _, _, rfl, _, _, rfl, rfl, ?_⟩
      refine ⟨_, rfl, _, rfl, _, rfl, p, v1, v2, v3, d1, d2, d3, rfl, o1, o2, o3, fz, fun H1 k1 => ⟨_, rfl, ?_⟩⟩
      cases e3 : frameD d1 d2 d3 with
      | false =>
        rw [e3] at q
        exact q _ k1
      | true =>
      rw [e3] at q
      have hc : countsD d3 = true := by
        unfold frameD at e3
        rw [Bool.and_eq_true, Bool.and_eq_true, Bool.and_eq_true] at e3
        exact e3.2.2.1
      refine ⟨_, rfl, _, rfl, _, rfl, p, v4, v5, v3, d4, d5, d3, rfl, o4.same k1, o5.same k1, o3.same k1, hc, fun H2 k2 => ⟨_, rfl, ?_⟩⟩
      cases e4 : keysD d4 d5 d3 with
      | false =>
        rw [e4] at q
        exact q _ (k1.trans k2)
      | true =>
      rw [e4] at q
      have r := q _ (k1.trans k2)
      rw [← whole_ob (o6.same (k1.trans k2))] at r
      exact ⟨_, rfl, v6, 1, 3, _, rfl, (o6.same (k1.trans k2)).arg, r⟩
theorem ok_is_case (T : Txt K mg) : FnOk P w K mg base CX0 5 T.a_is_case T.d_is_case ["thing"] (spIs fzCase caseD) := by
  refine T.F_is_case.ok sc_is_case (fun vs H Q E h => ?_) (fun cdv A outer s H vs Q E hr h => ?_)
  · obtain ⟨p, x, d, rfl, _⟩ := h
    rfl
  · obtain ⟨p, x, d, rfl, ob, fz, q⟩ := h
    refine ⟨_, (pss_cons (ps_if (pt_not (pt_val (pe_call (ok_is_row T) (hr.mono (by decide)) rfl T.g_is_row T.F_is_row.kp T.b_is_row .nil pass0 (pa_cons (pv 0) (pa_cons pe_int (pa_cons pe_int pa_nil))))))
      (pss_one (ps_ret pe_bl))
      pss_nil)
      (pss_cons (ps_asg (pv 0) (pg_tup rfl (pgs_cons (pg_name (i := 1) sc_is_case.nd rfl (Or.inl rfl)) (pgs_cons (pg_name (i := 2) sc_is_case.nd rfl (Or.inl rfl)) (pgs_cons (pg_name (i := 3) sc_is_case.nd rfl (Or.inl rfl)) (pgs_cons (pg_name (i := 4) sc_is_case.nd rfl (Or.inl rfl)) pgs_nil))))))
      (pss_one (ps_ret (pe_and (pe_call (ok_is_frame T) (hr.mono (by decide)) rfl T.g_is_frame T.F_is_frame.kp T.b_is_frame .nil pass0 (pa_cons (pv 1) (pa_cons (pv 2) (pa_cons (pv 3) pa_nil)))) (pe_one (pe_call (ok_is_course T) (hr.mono (by decide)) rfl T.g_is_course T.F_is_course.kp T.b_is_course .nil pass0 (pa_cons (pv 4) (pa_cons (pv 3) pa_nil))))))))), ?_⟩
    refine ⟨x, rfl, p, x, d, 4, 4, rfl, ob, _, rfl, ?_⟩
    cases e : rowD d 4 4 with
    | false =>
      have e2 : caseD d = false := by
        unfold caseD
        split
        · rw [show rowD (.tup _ _) 4 4 = true from rfl] at e; cases e
        · rfl
      rw [e2] at q
      exact q _ fun _ _ z => z
    | true =>
      obtain ⟨z, ds, rfl, l1, l2⟩ := row_len e
      obtain ⟨a, xs, rfl, ea, ne, all⟩ := tup_ob ob
      obtain ⟨d1, d2, d3, d4, rfl⟩ := len4 (show ds.length = 4 by omega)
      obtain ⟨v1, v2, v3, v4, rfl, o1, o2, o3, o4⟩ := obs4 all
      have e2 : caseD (.tup z [d1, d2, d3, d4]) = (frameD d1 d2 d3 && courseD d4 d3) := rfl
      rw [e2] at q
      refine ⟨_, rfl, a, _, rfl, ea.sq, rfl, _, _, rfl, _, _, rfl, _, _, rfl, _, _, rfl, rfl, ?_⟩
      refine ⟨_, rfl, _, rfl, _, rfl, p, v1, v2, v3, d1, d2, d3, rfl, o1, o2, o3, fz, fun H1 k1 => ⟨_, rfl, ?_⟩⟩
      cases e3 : frameD d1 d2 d3 with
      | false =>
        rw [e3] at q
        exact q _ k1
      | true =>
      rw [e3] at q
      have hc : countsD d3 = true := by
        unfold frameD at e3
        rw [Bool.and_eq_true, Bool.and_eq_true, Bool.and_eq_true] at e3
        exact e3.2.2.1
      exact ⟨_, rfl, _, rfl, p, v4, v3, d4, d3, rfl, o4.same k1, o3.same k1, hc, fun H2 k2 => q _ (k1.trans k2)⟩
/-- the house of a case -/
def houseOf : Dt → Dt
  | .tup _ [s, p, c, o] => .tup true [s, p, c, .tup true [o], .tup true [.int 2], .int 2]
  | d => d
def spHouseOf (exc : Addr) : Sp := fun vs H Q E => ∃ (p : Addr) (x : V) (d : Dt), vs = [x] ∧ Ob H p x d ∧ H p ≠ none ∧ fzCase d ∧ (caseD d = false → ∀ H', Same H H' → E (.ref exc) none H') ∧ (caseD d = true → ∀ v H', Same H H' → Ob H' p v (houseOf d) → Q v H')
def spChkCase (exc : Addr) : Sp := fun vs H Q E => ∃ (p : Addr) (x : V) (d : Dt), vs = [x] ∧ Ob H p x d ∧ fzCase d ∧ (caseD d = false → ∀ H', Same H H' → E (.ref exc) none H') ∧ (caseD d = true → ∀ H', Same H H' → Q .non H')
theorem ok_check_case (T : Txt K mg) : FnOk P w K mg base (L2.CX P w) 6 T.a_check_case T.d_check_case ["case"] (spChkCase T.C_BadCase) := by
  refine T.F_check_case.okX sc_check_case (fun vs H Q E h => ?_) (fun cdv A outer s H vs Q E hr h => ?_)
  · obtain ⟨p, x, d, rfl, _⟩ := h
    rfl
  · obtain ⟨p, x, d, rfl, ob, fz, qe, q⟩ := h
    refine ⟨_, (pss_one (ps_if (pt_not (pt_val (pe_call (ok_is_case T) (hr.mono (by decide)) rfl T.g_is_case T.F_is_case.kp T.b_is_case .nil pass0 (pa_cons (pv 0) pa_nil))))
      (pss_one (ps_raise rfl (takes_of rfl rfl rfl rfl) (pmk_own PySem.F.excBase_ValueError T.x_BadCase T.g_BadCase T.k_BadCase (raises_own T.p_BadCase T.t_BadCase) rfl)))
      pss_nil)), ?_⟩
    refine ⟨x, rfl, p, x, d, rfl, ob, fz, fun H1 k1 => ⟨_, rfl, ?_⟩⟩
    cases e : caseD d with
    | false => exact qe e _ k1
    | true => exact q e _ k1
theorem ok_house_of (T : Txt K mg) : FnOk P w K mg base (L2.CX P w) 7 T.a_house_of T.d_house_of ["case"] (spHouseOf T.C_BadCase) := by
  refine T.F_house_of.okX sc_house_of (fun vs H Q E h => ?_) (fun cdv A outer s H vs Q E hr h => ?_)
  · obtain ⟨p, x, d, rfl, _⟩ := h
    rfl
  · obtain ⟨p, x, d, rfl, ob, hp, fz, qe, q⟩ := h
    refine ⟨_, (pss_cons (ps_expr (pe_call (ok_check_case T) (hr.mono (by decide)) rfl T.g_check_case T.F_check_case.kp T.b_check_case .nil (passes_call (takes_of rfl rfl rfl rfl) (fun _ _ _ _ h => h)) (pa_cons (pv 0) pa_nil)))
      (pss_cons (ps_asg (pv 0) (pg_tup rfl (pgs_cons (pg_name (i := 1) sc_house_of.nd rfl (Or.inl rfl)) (pgs_cons (pg_name (i := 2) sc_house_of.nd rfl (Or.inl rfl)) (pgs_cons (pg_name (i := 3) sc_house_of.nd rfl (Or.inl rfl)) (pgs_cons (pg_name (i := 4) sc_house_of.nd rfl (Or.inl rfl)) pgs_nil))))))
      (pss_one (ps_ret (pe_tupF (pa_cons (pv 1) (pa_cons (pv 2) (pa_cons (pv 3) (pa_cons (pe_tupF (pa_cons (pv 4) pa_nil)) (pa_cons (pe_tupF (pa_cons (pe_glob rfl T.g_LETTERS_OF_A_CASE T.r_LETTERS_OF_A_CASE) pa_nil)) (pa_cons (pe_glob rfl T.g_SENDERS_OF_A_CASE T.r_SENDERS_OF_A_CASE) pa_nil))))))))))), ?_⟩
    refine ⟨x, rfl, p, x, d, rfl, ob, fz, qe, fun e H1 k1 => ?_⟩
    · skip
      have hs : ∃ z d1 d2 d3 d4, d = .tup z [d1, d2, d3, d4] := by
        unfold caseD at e
        split at e
        · exact ⟨_, _, _, _, _, rfl⟩
        · cases e
      obtain ⟨z, d1, d2, d3, d4, rfl⟩ := hs
      have ob1 := ob.same k1
      have hp1 : H1 p ≠ none := fun z => by
        cases y : H p with
        | none => exact hp y
        | some o => rw [k1 _ _ y] at z; cases z
      obtain ⟨a, xs, rfl, ea, ne, all⟩ := tup_ob ob1
      obtain ⟨v1, v2, v3, v4, rfl, o1, o2, o3, o4⟩ := obs4 all
      refine ⟨_, rfl, a, _, rfl, ea.sq, rfl, _, _, rfl, _, _, rfl, _, _, rfl, _, _, rfl, rfl, ?_⟩
      refine ⟨_, rfl, _, rfl, _, rfl, _, rfl, (by show 1 ≤ sizeLine; decide), fun t1 H2 f1 k2 tp1 g1 => ⟨(by show 1 ≤ sizeLine; decide), fun t2 H3 f2 k3 tp2 g2 => ⟨(by show 6 ≤ sizeLine; decide), fun t3 H4 f3 k4 tp3 g3 => ?_⟩⟩⟩
      have n1 : t1 ≠ p := fun z => hp1 (z ▸ f1)
      have n2 : t2 ≠ p := fun z => hp1 (z ▸ g1 _ f2)
      have n3 : t3 ≠ p := fun z => hp1 (z ▸ g1 _ (g2 _ f3))
      have kk : Same H1 H4 := (k2.trans k3).trans k4
      refine q e _ _ (k1.trans kk) (.tup tp3 n3 (.cons (o1.same kk) (.cons (o2.same kk) (.cons (o3.same kk) (.cons (.tup (tp1.same (k3.trans k4)) n1 (.cons (o4.same kk) .nil)) (.cons (.tup (tp2.same k4) n2 (.cons (.int 2) .nil)) (.cons (.int 2) .nil)))))))
end

section
theorem obs_take {H : Hp} {p : Addr} : ∀ {xs : List V} {ds : List Dt} (n : Nat), Obs H p xs ds → Obs H p (xs.take n) (ds.take n)
  | _, _, 0, _ => by rw [List.take_zero, List.take_zero]; exact .nil
  | _, _, _ + 1, .nil => .nil
  | _, _, n + 1, .cons h t => .cons h (obs_take n t)
theorem obs_drop {H : Hp} {p : Addr} : ∀ {xs : List V} {ds : List Dt} (n : Nat), Obs H p xs ds → Obs H p (xs.drop n) (ds.drop n)
  | _, _, 0, h => h
  | _, _, _ + 1, .nil => .nil
  | _, _, n + 1, .cons _ t => obs_drop n t
def cutD (ds : List Dt) (lo hi : Option Int) : List Dt := (ds.drop (HT.sIx ds.length 0 lo)).take (HT.sIx ds.length ds.length hi - HT.sIx ds.length 0 lo)
theorem obs_cut {H : Hp} {p : Addr} {xs : List V} {ds : List Dt} {lo hi : Option Int} (h : Obs H p xs ds) : Obs H p (cutV xs lo hi) (cutD ds lo hi) := by
  have l := h.len
  have e : cutV xs lo hi = (xs.drop (HT.sIx ds.length 0 lo)).take (HT.sIx ds.length ds.length hi - HT.sIx ds.length 0 lo) := by
    show (xs.drop (HT.sIx xs.length 0 lo)).take (HT.sIx xs.length xs.length hi - HT.sIx xs.length 0 lo) = _
    rw [l]
  rw [e]
  exact obs_take _ (obs_drop _ h)
theorem cutD_to (ds : List Dt) (k : Nat) : cutD ds none (some (k : Int)) = ds.take k := by
  have e1 : HT.sIx ds.length 0 none = 0 := rfl
  have e2 : HT.sIx ds.length ds.length (some (k : Int)) = min k ds.length := HT.sIx_nat ..
  unfold cutD
  rw [e1, e2, List.drop_zero, Nat.sub_zero]
  by_cases h : k ≤ ds.length
  · rw [Nat.min_eq_left h]
  · rw [Nat.min_eq_right (by omega), List.take_length, List.take_of_length_le (by omega)]
theorem cutD_from (ds : List Dt) (k : Nat) : cutD ds (some (k : Int)) none = ds.drop k := by
  have e1 : HT.sIx ds.length 0 (some (k : Int)) = min k ds.length := HT.sIx_nat ..
  have e2 : HT.sIx ds.length ds.length none = ds.length := rfl
  unfold cutD
  rw [e1, e2]
  by_cases h : k ≤ ds.length
  · rw [Nat.min_eq_left h]
    exact List.take_of_length_le (by rw [List.length_drop]; exact Nat.le_refl _)
  · rw [Nat.min_eq_right (by omega), List.drop_length, List.drop_of_length_le (by omega), List.take_nil]
theorem live_same {H H' : Hp} {p : Addr} (hp : H p ≠ none) (k : Same H H') : H' p ≠ none := fun z => by
  cases y : H p with
  | none => exact hp y
  | some o => rw [k _ _ y] at z; cases z
theorem sl_ob {K : PySem.W.Frag} {H : Hp} {p : Addr} {x : V} {z : Bool} {ds : List Dt} {lo hi : Option Int} {Q : VK} (h : Ob H p x (.tup z ds)) (hp : H p ≠ none) (q : ∀ v H' z', Same H H' → Ob H' p v (.tup z' (cutD ds lo hi)) → Q v H') : rSlA K x lo hi H Q := by
  obtain ⟨a, xs, rfl, ea, ne, all⟩ := tup_ob h
  have l := all.len
  refine ⟨a, xs, rfl, ea.sq, fun w => ?_, fun w r hr => ?_⟩
  · rw [l] at w
    have e : cutD ds lo hi = ds := by
      unfold cutD
      rw [w.1, w.2]
      rw [List.drop_zero, Nat.sub_zero]; exact List.take_length
    have h2 : Ob H p (.ref a) (.tup z (cutD ds lo hi)) := by rw [e]; exact h
    exact q _ _ z (fun _ _ z => z) h2
  · exact q _ _ false (same_upd hr) (.tup (.new upd_same) (fun z => hp (z ▸ hr)) ((obs_cut all).same (same_upd hr)))
theorem cat_ob {K : PySem.W.Frag} {H : Hp} {p : Addr} {x y : V} {z1 z2 : Bool} {ds es : List Dt} {Q : VK} (h : Ob H p x (.tup z1 ds)) (h' : Ob H p y (.tup z2 es)) (hp : H p ≠ none) (l1 : ds.length ≤ 1000) (l2 : es.length ≤ 1000)
    (q : ∀ v H' z', Same H H' → (z1 = true → z2 = true → z' = true) → Ob H' p v (.tup z' (ds ++ es)) → Q v H') : rCatF K x y H Q := by
  obtain ⟨a, xs, rfl, ea, na, alla⟩ := tup_ob h
  obtain ⟨b, ys, rfl, eb, nb, allb⟩ := tup_ob h'
  have m1 := alla.len
  have m2 := allb.len
  refine ⟨a, b, xs, ys, rfl, rfl, ea.sq, eb.sq, Nat.le_trans (show xs.length + ys.length ≤ 2000 by omega) (by decide), fun w => ?_, fun w w' => ?_, fun w w' r H2 hr k tp g => ?_⟩
  · have e : ds = [] := List.eq_nil_of_length_eq_zero (by rw [← m1, w]; rfl)
    subst e
    exact q _ _ z2 (fun _ _ z => z) (fun _ z => z) h'
  · have e : es = [] := List.eq_nil_of_length_eq_zero (by rw [← m2, w']; rfl)
    subst e
    have h2 : Ob H p (.ref a) (.tup z1 (ds ++ [])) := by rw [List.append_nil]; exact h
    exact q _ _ z1 (fun _ _ z => z) (fun z _ => z) h2
  · exact q _ _ true k (fun _ _ => rfl) (.tup tp (fun z => hp (z ▸ hr)) ((alla.same k).append (allb.same k)))
/-- (x, ..) as data -/
theorem tup_mk {H1 H2 : Hp} {p r : Addr} {xs : List V} {ds : List Dt} (all : Obs H1 p xs ds) (hp : H1 p ≠ none) (hr : H1 r = none) (k : Same H1 H2) (tp : Tp H2 r true xs) : Ob H2 p (.ref r) (.tup true ds) := .tup tp (fun z => hp (z ▸ hr)) (all.same k)
def spPut : Sp := fun vs H Q _ => ∃ (p : Addr) (x t : V) (k : Nat) (z : Bool) (ds : List Dt) (d : Dt), vs = [x, .int (k : Nat), t] ∧ Ob H p x (.tup z ds) ∧ Ob H p t d ∧ H p ≠ none ∧ ds.length ≤ 900 ∧ ∀ v H' z', Same H H' → Ob H' p v (.tup z' (ds.take k ++ [d] ++ ds.drop (k + 1))) → Q v H'
variable {P : Program} {w : World} {K : PySem.W.Frag} {mg : Str → Option Value} {base : Heap}
theorem ok_law_put (T : Txt K mg) : FnOk P w K mg base CX0 1 T.a_law_put T.d_law_put ["_law_row", "_law_at", "_law_thing"] spPut := by
  refine T.F_law_put.ok sc_law_put (fun vs H Q E h => ?_) (fun cdv A outer s H vs Q E hr h => ?_)
  · obtain ⟨p, x, t, k, z, ds, d, rfl, _⟩ := h
    rfl
  · obtain ⟨p, x, t, k, z, ds, d, rfl, ob, ot, hp, hl, q⟩ := h
    refine ⟨_, (pss_one (ps_ret (pe_op op_catF (pe_op op_catF (pe_slice sl_tupA (pv 0) po_none (po_some (pv 1))) (pe_tupF (pa_cons (pv 2) pa_nil))) (pe_slice sl_tupA (pv 0) (po_some (pe_op op_add (pv 1) pe_int)) po_none)))), ?_⟩
    refine ⟨x, rfl, .int (k : Nat), rfl, _, rfl, ?_⟩
    refine sl_ob ob hp fun v1 H1 z1 k1 o1 => ?_
    refine ⟨_, rfl, (by show 1 ≤ sizeLine; decide), fun r H2 hr2 k2 tp g2 => ?_⟩
    have hp1 := live_same hp k1
    have hp2 := live_same hp1 k2
    have o2 : Ob H2 p (.ref r) (.tup true [d]) := tup_mk (.cons (ot.same k1) .nil) hp1 hr2 k2 tp
    rw [cutD_to] at o1
    refine cat_ob (o1.same k2) o2 hp2 (by rw [List.length_take]; omega) (by show 1 ≤ 1000; decide) fun v3 H3 z3 k3 _ o3 => ?_
    have kk := (k1.trans k2).trans k3
    refine ⟨x, rfl, _, rfl, _, _, rfl, rfl, _, rfl, ?_⟩
    dsimp only [tNoPart]
    refine sl_ob (ob.same kk) (live_same hp kk) fun v4 H4 z4 k4 o4 => ?_
    have e : cutD ds (some ((k : Int) + 1)) none = ds.drop (k + 1) := cutD_from ds (k + 1)
    rw [e] at o4
    refine cat_ob (o3.same k4) o4 (live_same hp (kk.trans k4)) (by rw [List.length_append, List.length_take]; show _ + 1 ≤ _; omega) (by rw [List.length_drop]; omega) fun v5 H5 z5 k5 _ o5 => ?_
    exact q _ _ z5 ((kk.trans k4).trans k5) o5
end

section
variable {P : Program} {w : World} {K : PySem.W.Frag} {mg : Str → Option Value} {base : Heap}
def usual : List Str := ["close", "clear", "copy", "drain", "tell", "agree", "open", "drop"]
theorem cutV_to (l : List V) (k : Nat) : cutV l none (some (k : Int)) = l.take k := by
  have e1 : HT.sIx l.length 0 none = 0 := rfl
  have e2 : HT.sIx l.length l.length (some (k : Int)) = min k l.length := HT.sIx_nat ..
  unfold cutV
  rw [e1, e2, List.drop_zero, Nat.sub_zero]
  by_cases h : k ≤ l.length
  · rw [Nat.min_eq_left h]
  · rw [Nat.min_eq_right (by omega), List.take_length, List.take_of_length_le (by omega)]
def spWords : Sp := fun vs H Q _ => ∃ (a : Addr) (n m : Nat) (Av : Addr → Prop), vs = [.ref a, .int (m : Nat)] ∧ SrcA H a n Av ∧ Live H Av ∧ m ≤ 7 ∧ n + 20 < 1000000 ∧ ∀ r H' (ws : List Str), H r = none → ws.length ≤ m → (∀ x ∈ ws, x ∈ usual) → H' r = some (.lst (ws.map V.str)) → SrcA H' a (n + 20) (And1 Av r) → But a H H' → Q (.ref r) H'
theorem usual_at {d : Int} (h0 : 0 ≤ d) (h1 : d < 8) : ∃ s, atI (usual.map V.str) d = some (.str s) ∧ s ∈ usual := by
  have h : d = 0 ∨ d = 1 ∨ d = 2 ∨ d = 3 ∨ d = 4 ∨ d = 5 ∨ d = 6 ∨ d = 7 := by omega
  rcases h with rfl | rfl | rfl | rfl | rfl | rfl | rfl | rfl <;> exact ⟨_, rfl, by decide⟩
theorem ok_law_words (T : Txt K mg) : FnOk P w K mg base CX0 2 T.a_law_words T.d_law_words ["_law_source_here", "_law_room"] spWords := by
  refine T.F_law_words.ok sc_law_words (fun vs H Q E h => ?_) (fun cdv A outer s H vs Q E hr h => ?_)
  · obtain ⟨a, n, m, Av, rfl, _⟩ := h
    rfl
  · obtain ⟨a, n, m, Av, rfl, S, L, hm, hn, q⟩ := h
    refine ⟨_, (pss_cons (ps_set (i := 2) sc_law_words.nd rfl (Or.inr rfl) (pe_lst (pa_cons pe_str (pa_cons pe_str (pa_cons pe_str (pa_cons pe_str (pa_cons pe_str (pa_cons pe_str (pa_cons pe_str (pa_cons pe_str pa_nil))))))))))
      (pss_cons (ps_if (pt_cmpR op_eq (pe_call (ok_law_draw T) (hr.mono (by decide)) rfl T.g_law_draw T.F_law_draw.kp T.b_law_draw .nil pass0 (pa_cons (pv 0) (pa_cons pe_int pa_nil))) pe_int (nomark _))
      (pss_one (ps_ret (pe_lc (own := [("_law_k", 3)]) (g := gName 3) (tt := tYes) (by rfl) sc_law_words.nd (pi_range1 rfl T.z_range (pa_cons (pe_call (ok_law_draw T) (hr.mono (by decide)) rfl T.g_law_draw T.F_law_draw.kp T.b_law_draw .nil pass0 (pa_cons (pv 0) (pa_cons (pe_op op_add (pv 1) pe_int) pa_nil))) pa_nil)) (blkOk_by (own := [("_law_k", 3)]) (N := ["_law_source_here", "_law_room", "_law_usual", "_law_k", "_law_word"]) (sc := defScope s_law_words) (by decide +kernel)) (fun _ _ _ _ _ => (pg_name (i := 3) sc_law_words.nd rfl (Or.inl rfl))) (fun _ _ _ _ _ => pts_nil) (fun _ _ _ _ _ => (pe_ix (ixL K) (pv 2) (pe_call (ok_law_draw T) (hr.mono (by decide)) rfl T.g_law_draw T.F_law_draw.kp T.b_law_draw .nil pass0 (pa_cons (pv 0) (pa_cons pe_int pa_nil))) (fun _ _ => rfl))))))
      pss_nil)
      (pss_one (ps_ret (pe_slice sl_list (pe_lc (own := [("_law_word", 4)]) (g := gName 4) (by rfl) sc_law_words.nd (pi_list (pv 2)) (blkOk_by (own := [("_law_word", 4)]) (N := ["_law_source_here", "_law_room", "_law_usual", "_law_k", "_law_word"]) (sc := defScope s_law_words) (by decide +kernel)) (fun _ _ _ _ _ => (pg_name (i := 4) sc_law_words.nd rfl (Or.inl rfl))) (fun _ _ _ _ _ => (pts_one (pt_cmpR op_eq (pe_call (ok_law_draw T) (hr.mono (by decide)) rfl T.g_law_draw T.F_law_draw.kp T.b_law_draw .nil pass0 (pa_cons (pv 0) (pa_cons pe_int pa_nil))) pe_int (nomark _)))) (fun _ _ _ _ _ => (pv 4))) po_none (po_some (pv 1))))))), ?_⟩
    refine ⟨(by show 8 ≤ sizeLine; decide), fun l hl => ?_⟩
    have na : l ≠ a := S.ne hl
    have k0 := same_upd (o := .lst (usual.map V.str)) hl
    have S0 := S.same k0
    have e0 : (upd H l (.lst (usual.map V.str))) l = some (.lst (usual.map V.str)) := upd_same
    have L0 := L.same k0
    have f0 : ∀ b, (upd H l (.lst (usual.map V.str))) b = none → H b = none := fun b e => by
      by_cases z : b = l
      · subst z; exact hl
      · rw [upd_ne z] at e; exact e
    refine ⟨_, rfl, a, n, 3, Av, rfl, S0, L0, by omega, by decide, by decide, fun d H1 d0 d1 S1 B1 => ?_⟩
    have bn : ∀ {G G' : Hp} {b : Addr}, But a G G' → G' b = none → b ≠ a → G b = none := fun {G G' b} B z ne => by
      cases y : G b with
      | none => rfl
      | some o => rw [B _ _ ne y] at z; cases z
    have L1 := L0.but S1 B1
    refine ⟨rfl, _, rfl, ite2 (fun _ => ?_) (fun _ => ?_)⟩
    · refine ⟨_, rfl, _, rfl, _, _, rfl, rfl, a, n + 1, _, Av, rfl, S1, L1, by omega, by omega, by omega, fun c H2 c0 c1 S2 B2 => ⟨c, rfl, by omega, by omega, fun D hD => ?_⟩⟩
      have L2 := L1.but S2 B2
      have nD : D ≠ a := S2.ne hD
      have el : H2 l = some (.lst (usual.map V.str)) := B2 _ _ na (B1 _ _ na e0)
      have fD : H D = none := f0 _ (bn B1 (bn B2 hD nD) nD)
      refine lc_range (lo := 0) (n := c.toNat) (fun i H' => SrcA H' a (n + 2 + i) (And1 Av D) ∧ Live H' (And1 Av D) ∧ But a H2 H' ∧ ∃ ws : List Str, ws.length = i ∧ (∀ x ∈ ws, x ∈ usual) ∧ H' D = some (.lst (ws.map V.str))) ⟨S2.add hD, L2.add hD, Same.but (same_upd hD), [], rfl, fun x h => (nomatch h), upd_same⟩ ?_ ?_
      · rintro i H' hi ⟨S', L', B', ws, hw, hu, eD⟩
        refine ⟨rfl, _, rfl, _, rfl, a, _, 8, _, rfl, S', L', by omega, by decide, by decide, fun d2 H3 e0' e1' S3 B3 => ?_⟩
        obtain ⟨s, es, ms⟩ := usual_at e0' e1'
        refine ⟨l, _, d2, _, rfl, rfl, SqL.of (B3 _ _ na (B' _ _ na el)), es, _, B3 _ _ nD eD, ?_, (S3.put (.inr rfl) nD).le (by omega), (L'.but S3 B3).put, ?_, ws ++ [s], ?_, ?_, ?_⟩
        · rw [List.length_map, hw]
          exact Nat.lt_of_lt_of_le (show i < 1000 by omega) (by decide)
        · intro b o nb hb
          rw [upd_ne (ne_of_none hb hD)]
          exact B3 _ _ nb (B' _ _ nb hb)
        · rw [List.length_append, hw]; rfl
        · intro x hx
          rcases List.mem_append.mp hx with h | h
          · exact hu x h
          · rw [List.mem_singleton.mp h]; exact ms
        · rw [upd_same, List.map_append]; rfl
      · rintro H' ⟨S', L', B', ws, hw, hu, eD⟩
        refine q _ _ ws fD (by omega) hu eD (S'.le (by omega)) ?_
        exact ((Same.but k0).trans B1).trans (B2.trans B')
    · dsimp only [tNext, tRet, tSl, tNoPart]
      refine ⟨_, rfl, l, rfl, ⟨_, SqL.of (B1 _ _ na e0)⟩, fun D hD => ?_⟩
      have nD : D ≠ a := S1.ne hD
      refine lc_list (K := K) (a := l) (xs := usual.map V.str) (fun i H' => SrcA H' a (n + 1 + i) (And1 Av D) ∧ Live H' (And1 Av D) ∧ But a H1 H' ∧ ∃ ws : List Str, ws.length ≤ i ∧ (∀ x ∈ ws, x ∈ usual) ∧ H' D = some (.lst (ws.map V.str)))
        ⟨S1.add hD, L1.add hD, Same.but (same_upd hD), [], Nat.le_refl _, fun x h => (nomatch h), upd_same⟩ (fun i H' _ h => SqL.of (h.2.2.1 _ _ na (B1 _ _ na e0))) ?_ ?_
      · rintro i x H' hx ⟨S', L', B', ws, hw, hu, eD⟩
        have hi : i < 8 := by
          obtain ⟨z, _⟩ := List.getElem?_eq_some_iff.mp hx
          exact z
        obtain ⟨s, ms, rfl⟩ := List.mem_map.mp (List.mem_of_getElem? hx)
        refine ⟨rfl, _, rfl, a, _, 2, _, rfl, S', L', by omega, by decide, by decide, fun d2 H3 e0' e1' S3 B3 => ⟨rfl, _, rfl, ite2 (fun _ => ?_) (fun _ => ?_)⟩⟩
        · refine ⟨_, rfl, _, B3 _ _ nD eD, ?_, (S3.put (.inr rfl) nD).le (by omega), (L'.but S3 B3).put, ?_, ws ++ [s], ?_, ?_, ?_⟩
          · rw [List.length_map]
            exact Nat.lt_of_lt_of_le (show ws.length < 1000 by omega) (by decide)
          · intro b o nb hb
            rw [upd_ne (ne_of_none hb hD)]
            exact B3 _ _ nb (B' _ _ nb hb)
          · rw [List.length_append]; show _ + 1 ≤ _; omega
          · intro x hx
            rcases List.mem_append.mp hx with h | h
            · exact hu x h
            · rw [List.mem_singleton.mp h]; exact ms
          · rw [upd_same, List.map_append]; rfl
        · exact ⟨S3.le (by omega), L'.but S3 B3, B'.trans B3, ws, by omega, hu, B3 _ _ nD eD⟩
      · rintro H' ⟨S', L', B', ws, hw, hu, eD⟩
        refine ⟨_, rfl, _, rfl, D, _, rfl, SqL.of eD, fun r hr => ?_⟩
        have nr : r ≠ a := S'.ne hr
        have ec : cutV (ws.map V.str) none (some ((m : Nat) : Int)) = (ws.take m).map V.str := by rw [cutV_to, List.map_take]
        rw [ec]
        refine q _ _ (ws.take m) (f0 _ (bn B1 (bn B' hr nr) nr)) (by rw [List.length_take]; omega) (fun x hx => hu x (List.mem_of_mem_take hx)) upd_same (((S'.sub (fun b hb => .inl hb)).add hr).le (by show n + 1 + 8 ≤ n + 20; omega)) ?_
        exact ((Same.but k0).trans B1).trans (B'.trans (Same.but (same_upd hr)))
end

section
variable {P : Program} {w : World} {K : PySem.W.Frag} {mg : Str → Option Value} {base : Heap}
theorem note_at {d : Int} (h0 : 0 ≤ d) (h1 : d < 3) : ∃ s, atI [V.str "behind", V.str "first", V.str "with"] d = some (.str s) ∧ s ∈ notings := by
  have h : d = 0 ∨ d = 1 ∨ d = 2 := by omega
  rcases h with rfl | rfl | rfl <;> exact ⟨_, rfl, by decide⟩
theorem refuse_at {d : Int} (h0 : 0 ≤ d) (h1 : d < 2) : ∃ s, atI [V.str "back", V.str "lost"] d = some (.str s) ∧ s ∈ refusals := by
  have h : d = 0 ∨ d = 1 := by omega
  rcases h with rfl | rfl <;> exact ⟨_, rfl, by decide⟩
def schemeT (b0 b1 b2 : Bool) (r n : Str) : Dt := .tup true [.bl b0, .bl b1, .str r, .str n, .bl b2]
def spScheme : Sp := fun vs H Q _ => ∃ (a : Addr) (n : Nat) (Av : Addr → Prop), vs = [.ref a] ∧ SrcA H a n Av ∧ Live H Av ∧ n + 20 < 1000000 ∧
  ∀ v H' b0 b1 b2 r nt, r ∈ refusals → nt ∈ notings → Ob H' a v (schemeT b0 b1 b2 r nt) → SrcA H' a (n + 5) Av → But a H H' → Q v H'
theorem ok_law_scheme (T : Txt K mg) : FnOk P w K mg base CX0 2 T.a_law_scheme T.d_law_scheme ["_law_source_here"] spScheme := by
  refine T.F_law_scheme.ok sc_law_scheme (fun vs H Q E h => ?_) (fun cdv A outer s H vs Q E hr h => ?_)
  · obtain ⟨a, n, Av, rfl, _⟩ := h
    rfl
  · obtain ⟨a, n, Av, rfl, S, L, hn, q⟩ := h
    refine ⟨_, (pss_cons (ps_setLc (i := 1) (own := [("_law_k", 3)]) (g := gName 3) (tt := tYes) (by rfl) sc_law_scheme.nd rfl rfl (sw_true rfl rfl rfl (by decide +kernel)) (pi_range1 rfl T.z_range (pa_cons pe_int pa_nil)) (blkOk_by (own := [("_law_k", 3)]) (N := ["_law_source_here", "_law_flags", "_law_notes", "_law_k"]) (sc := defScope s_law_scheme) (by decide +kernel)) (fun _ _ _ _ _ => (pg_name (i := 3) sc_law_scheme.nd rfl (Or.inl rfl))) (fun _ _ _ _ _ => pts_nil) (fun _ _ _ _ _ => (pe_cmpR op_eq (pe_call (ok_law_draw T) (hr.mono (by decide)) rfl T.g_law_draw T.F_law_draw.kp T.b_law_draw .nil pass0 (pa_cons (pv 0) (pa_cons pe_int pa_nil))) pe_int (nomark _))))
      (pss_cons (ps_set (i := 2) sc_law_scheme.nd rfl (Or.inl rfl) (pe_ix (ixL K) (pe_lst (pa_cons pe_str (pa_cons pe_str (pa_cons pe_str pa_nil)))) (pe_call (ok_law_draw T) (hr.mono (by decide)) rfl T.g_law_draw T.F_law_draw.kp T.b_law_draw .nil pass0 (pa_cons (pv 0) (pa_cons pe_int pa_nil))) (fun _ _ => rfl)))
      (pss_one (ps_ret (pe_tupF (pa_cons (pe_ix (ixL K) (pv 1) pe_int (fun _ _ => rfl)) (pa_cons (pe_ix (ixL K) (pv 1) pe_int (fun _ _ => rfl)) (pa_cons (pe_ix (ixL K) (pe_lst (pa_cons pe_str (pa_cons pe_str pa_nil))) (pe_call (ok_law_draw T) (hr.mono (by decide)) rfl T.g_law_draw T.F_law_draw.kp T.b_law_draw .nil pass0 (pa_cons (pv 0) (pa_cons pe_int pa_nil))) (fun _ _ => rfl)) (pa_cons (pv 2) (pa_cons (pe_ix (ixL K) (pv 1) pe_int (fun _ _ => rfl)) pa_nil)))))))))), ?_⟩
    refine ⟨3, rfl, by decide, by decide, fun D hD => ?_⟩
    have nD : D ≠ a := S.ne hD
    refine lc_range (lo := 0) (n := 3) (fun i H' => SrcA H' a (n + i) (And1 Av D) ∧ Live H' (And1 Av D) ∧ But a H H' ∧ ∃ bs : List Bool, bs.length = i ∧ H' D = some (.lst (bs.map V.bl))) ⟨S.add hD, L.add hD, Same.but (same_upd hD), [], rfl, upd_same⟩ ?_ ?_
    · rintro i H' hi ⟨S', L', B', bs, hw, eD⟩
      refine ⟨rfl, _, rfl, a, _, 2, _, rfl, S', L', by omega, by decide, by decide, fun d2 H3 e0' e1' S3 B3 => ?_⟩
      refine ⟨rfl, _, B3 _ _ nD eD, ?_, (S3.put (.inr rfl) nD).le (by omega), (L'.but S3 B3).put, ?_, bs ++ [decide (V.int d2 = V.int 1)], ?_, ?_⟩
      · rw [List.length_map, hw]
        exact Nat.lt_of_lt_of_le (show i < 1000 by omega) (by decide)
      · intro b o nb hb
        rw [upd_ne (ne_of_none hb hD)]
        exact B3 _ _ nb (B' _ _ nb hb)
      · rw [List.length_append, hw]; rfl
      · rw [upd_same, List.map_append]; rfl
    · rintro H1 ⟨S1, L1, B1, bs, hw, eD⟩
      obtain ⟨b0, b1, b2, rfl⟩ : ∃ x y z, bs = [x, y, z] := by
        match bs, hw with
        | [x, y, z], _ => exact ⟨x, y, z, rfl⟩
      have S1' : SrcA H1 a (n + 3) Av := S1.sub fun b hb => .inl hb
      have L1' : Live H1 Av := fun b hb => L1 b (.inl hb)
      refine ⟨(by show 3 ≤ sizeLine; decide), fun l hl => ?_⟩
      have nl : l ≠ a := S1.ne hl
      refine ⟨_, rfl, a, n + 3, 3, Av, rfl, S1'.same (same_upd hl), L1'.same (same_upd hl), by omega, by decide, by decide, fun d H2 d0 d1 S2 B2 => ?_⟩
      have el : H2 l = some (.lst [.str "behind", .str "first", .str "with"]) := B2 _ _ nl upd_same
      obtain ⟨nt, ent, mnt⟩ := note_at d0 d1
      refine ⟨l, _, d, _, rfl, rfl, SqL.of el, ent, ?_⟩
      have kD : H2 D = some (.lst [.bl b0, .bl b1, .bl b2]) := B2 _ _ nD ((same_upd hl) _ _ eD)
      have L2 : Live H2 Av := (L1'.same (same_upd hl)).but S2 B2
      refine ⟨_, rfl, D, _, 0, .bl b0, rfl, rfl, SqL.of kD, rfl, _, rfl, D, _, 1, .bl b1, rfl, rfl, SqL.of kD, rfl, (by show 2 ≤ sizeLine; decide), fun l2 hl2 => ?_⟩
      have nl2 : l2 ≠ a := S2.ne hl2
      refine ⟨_, rfl, a, n + 3 + 1, 2, Av, rfl, S2.same (same_upd hl2), L2.same (same_upd hl2), by omega, by decide, by decide, fun d3 H3 d30 d31 S3 B3 => ?_⟩
      have el2 : H3 l2 = some (.lst [.str "back", .str "lost"]) := B3 _ _ nl2 upd_same
      obtain ⟨r, er, mr⟩ := refuse_at d30 d31
      have kD3 : H3 D = some (.lst [.bl b0, .bl b1, .bl b2]) := B3 _ _ nD ((same_upd hl2) _ _ kD)
      refine ⟨l2, _, d3, _, rfl, rfl, SqL.of el2, er, _, rfl, _, rfl, D, _, 2, .bl b2, rfl, rfl, SqL.of kD3, rfl, (by show 5 ≤ sizeLine; decide), fun t H4 ht k4 tp g4 => ?_⟩
      refine q _ _ b0 b1 b2 r nt mr mnt (.tup tp (S3.ne ht) (.cons (.bl _) (.cons (.bl _) (.cons (.str _) (.cons (.str _) (.cons (.bl _) .nil)))))) ((S3.same k4).le (by omega)) ?_
      exact (B1.trans ((Same.but (same_upd hl)).trans B2)).trans (((Same.but (same_upd hl2)).trans B3).trans (Same.but k4))
end

def cntS (ws : List Str) : Nat := ws.countP fun y => decide (y = ("show" : Str))
def strT (ws : List Str) : Dt := .tup true (ws.map Dt.str)
def intT (ns : List Int) : Dt := .tup true (ns.map Dt.int)
def Fit (cs o : List Int) : Prop := o.length = cs.length ∧ ∀ q ∈ o.zip cs, 0 ≤ q.1 ∧ q.1 < q.2
structure Ho where
  (b0 b1 b2 : Bool) (r nt : Str) (ws : List Str) (cs : List Int) (os : List (List Int)) (ls : List Int) (m : Int)
structure Ho.Ok (h : Ho) (keys : Nat) : Prop where
  r : h.r ∈ refusals
  nt : h.nt ∈ notings
  ws : ∀ x ∈ h.ws, x ∈ planWords
  c1 : 1 ≤ cntS h.ws
  c2 : cntS h.ws ≤ 2
  wl : h.ws.length ≤ 15
  cl : h.cs.length = cntS h.ws + 1
  cs : ∀ c ∈ h.cs, 1 ≤ c ∧ c ≤ 4
  o1 : 1 ≤ h.os.length
  o2 : h.os.length ≤ keys
  os : ∀ o ∈ h.os, Fit h.cs o
  ll : h.ls.length = h.os.length
  ls : ∀ l ∈ h.ls, 1 ≤ l ∧ l ≤ 3
  m1 : 1 ≤ h.m
  m2 : h.m ≤ 3
def Ho.dt (h : Ho) : Dt := .tup true [schemeT h.b0 h.b1 h.b2 h.r h.nt, strT h.ws, intT h.cs, .tup true (h.os.map intT), intT h.ls, .int h.m]
def spHouse : Sp := fun vs H Q _ => ∃ (a : Addr) (n keys : Nat) (Av : Addr → Prop), vs = [.ref a, .int 1, .int (keys : Nat)] ∧ 1 ≤ keys ∧ keys ≤ 3 ∧ SrcA H a n Av ∧ Live H Av ∧ n + 400 < 1000000 ∧
  ∀ v H' (h : Ho), h.Ok keys → Ob H' a v h.dt → SrcA H' a (n + 400) Av → But a H H' → Q v H'
theorem obs_strs {H : Hp} {p : Addr} : ∀ ws : List Str, Obs H p (ws.map V.str) (ws.map Dt.str)
  | [] => .nil
  | w :: r => .cons (.str w) (obs_strs r)
theorem obs_ints {H : Hp} {p : Addr} : ∀ ns : List Int, Obs H p (ns.map V.int) (ns.map Dt.int)
  | [] => .nil
  | w :: r => .cons (.int w) (obs_ints r)
/-- courses held -/
inductive Cos (H : Hp) (p : Addr) : List V → List (List Int) → Prop where
  | nil : Cos H p [] []
  | cons {t : Addr} {o : List Int} {vs : List V} {os : List (List Int)} (h : Tp H t true (o.map V.int)) (ne : t ≠ p) (r : Cos H p vs os) : Cos H p (.ref t :: vs) (o :: os)
theorem Cos.obs {H : Hp} {p : Addr} {vs : List V} {os : List (List Int)} (h : Cos H p vs os) : Obs H p vs (os.map intT) := by
  induction h with
  | nil => exact .nil
  | cons h ne r ih => exact .cons (.tup h ne (obs_ints _)) ih
theorem Cos.but {H H' : Hp} {p : Addr} {vs : List V} {os : List (List Int)} (h : Cos H p vs os) (b : But p H H') : Cos H' p vs os := by
  induction h with
  | nil => exact .nil
  | cons h ne r ih => exact .cons (h.but b ne) ne ih
theorem Cos.put {H : Hp} {p c : Addr} {zs ys : List V} {vs : List V} {os : List (List Int)} (h : Cos H p vs os) (hc : H c = some (.lst zs)) : Cos (upd H c (.lst ys)) p vs os := by
  induction h with
  | nil => exact .nil
  | @cons t o vs os h ne r ih =>
    refine .cons ?_ ne ih
    cases h with
    | @bare ob _ c1 d1 e =>
      have nt : t ≠ c := fun z => by rw [z, hc] at e; cases e
      exact .bare c1 d1 (by rw [upd_ne nt]; exact e)
theorem Cos.snoc {H : Hp} {p t : Addr} {o : List Int} {vs : List V} {os : List (List Int)} (h : Cos H p vs os) (ht : Tp H t true (o.map V.int)) (ne : t ≠ p) : Cos H p (vs ++ [.ref t]) (os ++ [o]) := by
  induction h with
  | nil => exact .cons ht ne .nil
  | cons h n r ih => exact .cons h n ih
theorem zip_snoc {α β : Type} (d : α) (c : β) : ∀ (o : List α) (cs : List β), cs[o.length]? = some c → (o ++ [d]).zip cs = o.zip cs ++ [(d, c)]
  | [], [], h => by simp at h
  | [], x :: r, h => by
    have e : x = c := Option.some.inj h
    subst e; rfl
  | y :: o, [], h => by simp at h
  | y :: o, x :: r, h => by
    show (y, x) :: ((o ++ [d]).zip r) = (y, x) :: (o.zip r ++ [(d, c)])
    rw [zip_snoc d c o r (by simpa using h)]
theorem usual_plan {x : Str} (h : x ∈ usual) : x ∈ planWords ∧ decide (x = ("show" : Str)) = false := by
  have z : ∀ y ∈ usual, y ∈ planWords ∧ decide (y = ("show" : Str)) = false := by decide +kernel
  exact z x h
theorem cnt_usual {ws : List Str} (h : ∀ x ∈ ws, x ∈ usual) : cntS ws = 0 := by
  unfold cntS
  rw [List.countP_eq_zero]
  intro x hx
  rw [(usual_plan (h x hx)).2]; decide
theorem cnt_append (a b : List Str) : cntS (a ++ b) = cntS a + cntS b := List.countP_append
theorem keep_new {H H' : Hp} {D a : Addr} {l : HO} (B : But a H H') (hD : H D = none) : But a H (upd H' D l) := fun b o nb hb => by
  rw [upd_ne (ne_of_none hb hD)]
  exact B _ _ nb hb
section
variable {P : Program} {w : World} {K : PySem.W.Frag} {mg : Str → Option Value} {base : Heap}
theorem ok_law_house (T : Txt K mg) : FnOk P w K mg base CX0 3 T.a_law_house T.d_law_house ["_law_source_here", "_law_least", "_law_keys"] spHouse := by
  refine T.F_law_house.ok sc_law_house (fun vs H Q E h => ?_) (fun cdv A outer s H vs Q E hr h => ?_)
  · obtain ⟨a, n, keys, Av, rfl, _⟩ := h
    rfl
  · obtain ⟨a, n, keys, Av, rfl, k1, k3, S, L, hn, q⟩ := h
    refine ⟨_, (pss_cons (ps_set (i := 3) sc_law_house.nd rfl (Or.inl rfl) (pe_op op_add pe_int (pe_call (ok_law_draw T) (hr.mono (by decide)) rfl T.g_law_draw T.F_law_draw.kp T.b_law_draw .nil pass0 (pa_cons (pv 0) (pa_cons pe_int pa_nil)))))
      (pss_cons (ps_set (i := 4) sc_law_house.nd rfl (Or.inl rfl) (pe_ix (ixL K) (pe_lst (pa_cons pe_int (pa_cons pe_int pa_nil))) (pe_op op_sub (pv 3) pe_int) (fun _ _ => rfl)))
      (pss_cons (ps_set (i := 5) sc_law_house.nd rfl (Or.inl rfl) (pe_lst pa_nil))
      (pss_cons (ps_if (pt_cmpR op_eq (pe_call (ok_law_draw T) (hr.mono (by decide)) rfl T.g_law_draw T.F_law_draw.kp T.b_law_draw .nil pass0 (pa_cons (pv 0) (pa_cons pe_int pa_nil))) pe_int (nomark _))
      (pss_one (ps_set (i := 5) sc_law_house.nd rfl (Or.inl rfl) (pe_call (ok_law_words T) (hr.mono (by decide)) rfl T.g_law_words T.F_law_words.kp T.b_law_words .nil pass0 (pa_cons (pv 0) (pa_cons (pv 4) pa_nil)))))
      pss_nil)
      (pss_cons (ps_for PassesOwn.never rfl (pi_range1 rfl T.z_range (pa_cons (pv 3) pa_nil)) (pg_name (i := 6) sc_law_house.nd rfl (Or.inl rfl))
      (pss_one (ps_set (i := 5) sc_law_house.nd rfl (Or.inl rfl) (pe_op op_cat (pe_op op_cat (pv 5) (pe_lst (pa_cons pe_str pa_nil))) (pe_call (ok_law_words T) (hr.mono (by decide)) rfl T.g_law_words T.F_law_words.kp T.b_law_words .nil pass0 (pa_cons (pv 0) (pa_cons (pv 4) pa_nil)))))))
      (pss_cons (ps_set (i := 7) sc_law_house.nd rfl (Or.inl rfl) (pe_tupleOfF (by rfl) T.z_tuple (pe_lc (own := [("_law_k", 6)]) (g := gName 6) (tt := tYes) (by rfl) sc_law_house.nd (pi_range1 rfl T.z_range (pa_cons (pe_op op_add (pv 3) pe_int) pa_nil)) (blkOk_by (own := [("_law_k", 6)]) (N := ["_law_source_here", "_law_least", "_law_keys", "_law_shows", "_law_room", "_law_plan", "_law_k", "_law_counts", "_law_many", "_law_courses", "_law_letters", "_law_senders", "_law_count"]) (sc := defScope s_law_house) (by decide +kernel)) (fun _ _ _ _ _ => (pg_name (i := 6) sc_law_house.nd rfl (Or.inl rfl))) (fun _ _ _ _ _ => pts_nil) (fun _ _ _ _ _ => (pe_op op_add pe_int (pe_call (ok_law_draw T) (hr.mono (by decide)) rfl T.g_law_draw T.F_law_draw.kp T.b_law_draw .nil pass0 (pa_cons (pv 0) (pa_cons pe_int pa_nil))))))))
      (pss_cons (ps_set (i := 8) sc_law_house.nd rfl (Or.inl rfl) (pe_op op_add pe_int (pe_call (ok_law_draw T) (hr.mono (by decide)) rfl T.g_law_draw T.F_law_draw.kp T.b_law_draw .nil pass0 (pa_cons (pv 0) (pa_cons (pv 2) pa_nil)))))
      (pss_cons (ps_set (i := 9) sc_law_house.nd rfl (Or.inl rfl) (pe_lst pa_nil))
      (pss_cons (ps_for PassesOwn.never rfl (pi_range1 rfl T.z_range (pa_cons (pv 8) pa_nil)) (pg_name (i := 6) sc_law_house.nd rfl (Or.inl rfl))
      (pss_one (ps_expr (pe_bm PySem.F.plainAttrs_list PySem.F.slot_list_append PySem.F.type_list_append mt_append (pv 9) (pa_cons (pe_tupleOfF (by rfl) T.z_tuple (pe_lc (own := [("_law_count", 12)]) (g := gName 12) (tt := tYes) (by rfl) sc_law_house.nd (pi_tup (pv 7)) (blkOk_by (own := [("_law_count", 12)]) (N := ["_law_source_here", "_law_least", "_law_keys", "_law_shows", "_law_room", "_law_plan", "_law_k", "_law_counts", "_law_many", "_law_courses", "_law_letters", "_law_senders", "_law_count"]) (sc := defScope s_law_house) (by decide +kernel)) (fun _ _ _ _ _ => (pg_name (i := 12) sc_law_house.nd rfl (Or.inl rfl))) (fun _ _ _ _ _ => pts_nil) (fun _ _ _ _ _ => (pe_call (ok_law_draw T) (hr.mono (by decide)) rfl T.g_law_draw T.F_law_draw.kp T.b_law_draw .nil pass0 (pa_cons (pv 0) (pa_cons (pv 12) pa_nil)))))) pa_nil)))))
      (pss_cons (ps_set (i := 10) sc_law_house.nd rfl (Or.inl rfl) (pe_tupleOfF (by rfl) T.z_tuple (pe_lc (own := [("_law_k", 6)]) (g := gName 6) (tt := tYes) (by rfl) sc_law_house.nd (pi_range1 rfl T.z_range (pa_cons (pv 8) pa_nil)) (blkOk_by (own := [("_law_k", 6)]) (N := ["_law_source_here", "_law_least", "_law_keys", "_law_shows", "_law_room", "_law_plan", "_law_k", "_law_counts", "_law_many", "_law_courses", "_law_letters", "_law_senders", "_law_count"]) (sc := defScope s_law_house) (by decide +kernel)) (fun _ _ _ _ _ => (pg_name (i := 6) sc_law_house.nd rfl (Or.inl rfl))) (fun _ _ _ _ _ => pts_nil) (fun _ _ _ _ _ => (pe_op op_add (pv 1) (pe_call (ok_law_draw T) (hr.mono (by decide)) rfl T.g_law_draw T.F_law_draw.kp T.b_law_draw .nil pass0 (pa_cons (pv 0) (pa_cons (pe_op op_sub pe_int (pv 1)) pa_nil))))))))
      (pss_cons (ps_set (i := 11) sc_law_house.nd rfl (Or.inl rfl) (pe_op op_add (pv 1) (pe_call (ok_law_draw T) (hr.mono (by decide)) rfl T.g_law_draw T.F_law_draw.kp T.b_law_draw .nil pass0 (pa_cons (pv 0) (pa_cons (pe_op op_sub pe_int (pv 1)) pa_nil)))))
      (pss_one (ps_ret (pe_tupF (pa_cons (pe_call (ok_law_scheme T) (hr.mono (by decide)) rfl T.g_law_scheme T.F_law_scheme.kp T.b_law_scheme .nil pass0 (pa_cons (pv 0) pa_nil)) (pa_cons (pe_tupleOfF (by rfl) T.z_tuple (pv 5)) (pa_cons (pv 7) (pa_cons (pe_tupleOfF (by rfl) T.z_tuple (pv 9)) (pa_cons (pv 10) (pa_cons (pv 11) pa_nil)))))))))))))))))))), ?_⟩
    refine ⟨_, rfl, a, n, 2, Av, rfl, S, L, by omega, by decide, by decide, fun d H1 d0 d1 S1 B1 => ⟨_, _, rfl, rfl, ?_⟩⟩
    have L1 := L.but S1 B1
    obtain ⟨sh, es⟩ : ∃ s : Nat, (s : Int) = 1 + d := ⟨(1 + d).toNat, Int.toNat_of_nonneg (by omega)⟩
    obtain ⟨rm, er, hrm⟩ : ∃ rm : Nat, atI [V.int 7, V.int 4] ((sh : Int) - 1) = some (.int (rm : Nat)) ∧ (sh = 1 ∧ rm = 7 ∨ sh = 2 ∧ rm = 4) := by
      have h : sh = 1 ∨ sh = 2 := by omega
      rcases h with rfl | rfl
      · exact ⟨7, rfl, .inl ⟨rfl, rfl⟩⟩
      · exact ⟨4, rfl, .inr ⟨rfl, rfl⟩⟩
    simp only [← es]
    refine ⟨(by show 2 ≤ sizeLine; decide), fun l hl => ⟨_, rfl, _, _, rfl, rfl, l, _, _, _, rfl, rfl, SqL.of upd_same, er, ?_⟩⟩
    refine ⟨(by show 0 ≤ sizeLine; decide), fun lp hlp => ?_⟩
    have kk := (same_upd (o := .lst [V.int 7, V.int 4]) hl).trans (same_upd (o := .lst []) hlp)
    have S2 := S1.same kk
    have L2 := L1.same kk
    have nlp : lp ≠ a := (S1.same (same_upd hl)).ne hlp
    try dsimp only [gName]
    refine if_cut (fun σ' H' => ∃ (lp : Addr) (ws : List Str), σ' = [some (.ref a), some (.int 1), some (.int (keys : Nat)), some (.int (sh : Nat)), some (.int (rm : Nat)), some (.ref lp), none, none, none, none, none, none, none] ∧
      H' lp = some (.lst (ws.map V.str)) ∧ lp ≠ a ∧ SrcA H' a (n + 22) Av ∧ Live H' Av ∧ But a H H' ∧ (∀ x ∈ ws, x ∈ usual) ∧ ws.length ≤ rm) ?_ (fun K1 => ?_)
    rotate_left
    · refine ⟨_, rfl, a, n + 1, 3, Av, rfl, S2, L2, by omega, by decide, by decide, fun d2 H3 d20 d21 S3 B3 => ?_⟩
      have L3 := L2.but S3 B3
      have B03 : But a H H3 := (B1.trans (Same.but kk)).trans B3
      refine ⟨rfl, _, rfl, ite2 (fun _ => ?_) (fun _ => ?_)⟩
      · refine ⟨_, rfl, _, rfl, a, n + 1 + 1, rm, Av, rfl, S3, L3, by omega, by omega, fun r H4 ws hr wl wu e4 S4 B4 => ?_⟩
        exact K1 _ _ ⟨r, ws, rfl, e4, S3.ne hr, (S4.sub fun b hb => .inl hb).le (by omega), L3.but (S4.sub fun b hb => .inl hb) B4, B03.trans B4, wu, wl⟩
      · exact K1 _ _ ⟨lp, [], rfl, B3 _ _ nlp upd_same, nlp, S3.le (by omega), L3, B03, fun x h => (nomatch h), Nat.zero_le _⟩
    rintro σ' H5 ⟨lp, ws, rfl, e5, nlp, S5, L5, B5, wu, wl⟩
    refine ⟨_, rfl, (sh : Nat), rfl, by omega, by omega, for_range (n := sh) (fun i σ' H' => ∃ (lp : Addr) (ws : List Str) (c6 : Option V), σ' = [some (.ref a), some (.int 1), some (.int (keys : Nat)), some (.int (sh : Nat)), some (.int (rm : Nat)), some (.ref lp), c6, none, none, none, none, none, none] ∧
      H' lp = some (.lst (ws.map V.str)) ∧ lp ≠ a ∧ SrcA H' a (n + 22 + 20 * i) Av ∧ Live H' Av ∧ But a H H' ∧ (∀ x ∈ ws, x ∈ planWords) ∧ cntS ws = i ∧ ws.length ≤ rm + i * (rm + 1)) ⟨lp, ws, none, rfl, e5, nlp, S5, L5, B5, fun x h => (usual_plan (wu x h)).1, cnt_usual wu, by omega⟩ ?_ ?_⟩
    · rintro i σ' H6 hi ⟨lp, ws, c6, rfl, e6, nlp, S6, L6, B6, wu, wc, wl⟩
      have wl2 : ws.length ≤ 20 := by
        have h : i = 0 ∨ i = 1 := by omega
        rcases hrm with ⟨_, rfl⟩ | ⟨_, rfl⟩ <;> rcases h with rfl | rfl <;> omega
      refine ⟨_, rfl, (by show 1 ≤ sizeLine; decide), fun t ht => ⟨lp, t, _, _, rfl, rfl, same_upd ht _ _ e6, upd_same, Nat.le_trans (show _ ≤ 1000 by rw [List.length_map]; show ws.length + 1 ≤ 1000; omega) (by decide), fun u hu => ?_⟩⟩
      have k6 := (same_upd (o := .lst [V.str ("show" : Str)]) ht).trans (same_upd (o := .lst (ws.map V.str ++ [V.str ("show" : Str)])) hu)
      have nu : u ≠ a := (S6.same (same_upd (o := .lst [V.str ("show" : Str)]) ht)).ne hu
      refine ⟨_, rfl, _, rfl, a, n + 22 + 20 * i, rm, Av, rfl, S6.same k6, L6.same k6, by omega, by omega, fun r H7 w2 hr7 wl7 wu7 e7 S7 B7 => ?_⟩
      have S7' := S7.sub (Av' := Av) fun b hb => .inl hb
      refine ⟨u, r, _, _, rfl, rfl, B7 _ _ nu upd_same, e7, Nat.le_trans (show _ ≤ 1000 by rw [List.length_append, List.length_map, List.length_map]; show ws.length + 1 + w2.length ≤ 1000; omega) (by decide), fun z hz => ?_⟩
      refine ⟨z, ws ++ [("show" : Str)] ++ w2, _, rfl, ?_, S7.ne hz, (S7'.same (same_upd hz)).le (by omega), (L6.same k6).but S7' B7 |>.same (same_upd hz), ((B6.trans (Same.but k6)).trans B7).trans (Same.but (same_upd hz)), ?_, ?_, ?_⟩
      · rw [upd_same, List.map_append, List.map_append]; rfl
      · intro x hx
        rcases List.mem_append.mp hx with h | h
        · rcases List.mem_append.mp h with h | h
          · exact wu x h
          · rw [List.mem_singleton.mp h]; decide +kernel
        · exact (usual_plan (wu7 x h)).1
      · rw [cnt_append, cnt_append, wc, cnt_usual wu7]; rfl
      · rw [List.length_append, List.length_append]
        show ws.length + 1 + w2.length ≤ _
        rw [Nat.succ_mul]; omega
    rintro σ' H7 ⟨lp, ws, c6, rfl, e7, nlp, S7, L7, B7, wu, wc, wl⟩
    have wl15 : ws.length ≤ 15 := by
      rcases hrm with ⟨rfl, rfl⟩ | ⟨rfl, rfl⟩ <;> omega
    -- counts
    refine ⟨_, rfl, _, _, rfl, rfl, _, rfl, by omega, by omega, fun D hD => ?_⟩
    have nD : D ≠ a := S7.ne hD
    refine lc_range (lo := 0) (n := ((sh : Int) + 1).toNat) (fun i H' => SrcA H' a (n + 70 + i) (And1 Av D) ∧ Live H' (And1 Av D) ∧ But a H7 H' ∧ ∃ cs : List Int, cs.length = i ∧ (∀ c ∈ cs, 1 ≤ c ∧ c ≤ 4) ∧ H' D = some (.lst (cs.map V.int))) ⟨(S7.add hD).le (by omega), L7.add hD, Same.but (same_upd hD), [], rfl, fun x h => (nomatch h), upd_same⟩ ?_ ?_
    · rintro i H' hi ⟨S', L', B', cs, hw, hu, eD⟩
      refine ⟨rfl, _, rfl, a, _, 4, _, rfl, S', L', by omega, by decide, by decide, fun d2 H3 e0' e1' S3 B3 => ?_⟩
      refine ⟨_, _, rfl, rfl, _, B3 _ _ nD eD, ?_, (S3.put (.inr rfl) nD).le (by omega), (L'.but S3 B3).put, keep_new (B'.trans B3) hD, cs ++ [1 + d2], ?_, ?_, ?_⟩
      · rw [List.length_map, hw]
        exact Nat.lt_of_lt_of_le (show i < 1000 by omega) (by decide)
      · rw [List.length_append, hw]; rfl
      · intro x hx
        rcases List.mem_append.mp hx with h | h
        · exact hu x h
        · rw [List.mem_singleton.mp h]; omega
      · rw [upd_same, List.map_append]; rfl
    rintro H8 ⟨S8, L8, B8, cs, hcl, hcs, eD⟩
    have S8' : SrcA H8 a (n + 80) Av := (S8.sub fun b hb => .inl hb).le (by omega)
    have L8' : Live H8 Av := fun b hb => L8 b (.inl hb)
    refine ⟨D, _, rfl, SqL.of eD, fun ct H9 hct k9 tct g9 => ?_⟩
    have nct : ct ≠ a := S8'.ne hct
    have S9 := S8'.same k9
    have L9 := L8'.same k9
    have e9 : H9 lp = some (.lst (ws.map V.str)) := k9 _ _ (B8 _ _ nlp e7)
    -- how many
    refine ⟨_, rfl, _, rfl, a, n + 80, _, Av, rfl, S9, L9, by omega, by omega, by omega, fun d3 H10 d30 d31 S10 B10 => ⟨_, _, rfl, rfl, ?_⟩⟩
    have L10 := L9.but S10 B10
    obtain ⟨mn, em⟩ : ∃ s : Nat, (s : Int) = 1 + d3 := ⟨(1 + d3).toNat, Int.toNat_of_nonneg (by omega)⟩
    simp only [← em]
    refine ⟨(by show 0 ≤ sizeLine; decide), fun cl hcl0 => ?_⟩
    have ncl : cl ≠ a := S10.ne hcl0
    have B10' : But a H H10 := ((B7.trans B8).trans (Same.but k9)).trans B10
    refine ⟨_, rfl, (mn : Nat), rfl, by omega, by omega, for_range (n := mn) (fun i σ' H' => ∃ (vs : List V) (os : List (List Int)) (c6 : Option V), σ' = [some (.ref a), some (.int 1), some (.int (keys : Nat)), some (.int (sh : Nat)), some (.int (rm : Nat)), some (.ref lp), c6, some (.ref ct), some (.int (mn : Nat)), some (.ref cl), none, none, none] ∧
      H' cl = some (.lst vs) ∧ Cos H' a vs os ∧ os.length = i ∧ vs.length = i ∧ (∀ o ∈ os, Fit cs o) ∧ SrcA H' a (n + 81 + 4 * i) (And1 Av cl) ∧ Live H' (And1 Av cl) ∧ But a H10 H') ⟨[], [], c6, rfl, upd_same, .nil, rfl, rfl, fun x h => (nomatch h), (S10.add hcl0).le (by omega), L10.add hcl0, Same.but (same_upd hcl0)⟩ ?_ ?_⟩
    · rintro i σ' H11 hi ⟨vs, os, c6, rfl, ecl, hco, hol, hvl, hfit, S11, L11, B11⟩
      have tct11 := (tct.but B10 nct).but B11 nct
      have lcs : cs.length ≤ 3 := by omega
      refine ⟨_, rfl, .inl ⟨rfl, _, SqL.of ecl⟩, _, rfl, ct, rfl, ⟨_, tct11.sq⟩, fun D hD => ?_⟩
      have nD : D ≠ a := S11.ne hD
      refine lc_tup (K := K) (a := ct) (xs := cs.map V.int) (fun j H' => SrcA H' a (n + 81 + 4 * i + j) (And1 (And1 Av cl) D) ∧ Live H' (And1 (And1 Av cl) D) ∧ But a H11 H' ∧ ∃ o : List Int, o.length = j ∧ (∀ q ∈ o.zip cs, 0 ≤ q.1 ∧ q.1 < q.2) ∧ H' D = some (.lst (o.map V.int)))
        ⟨S11.add hD, L11.add hD, Same.but (same_upd hD), [], rfl, fun x h => (nomatch h), upd_same⟩ (fun j H' _ h => (tct11.but h.2.2.1 nct).sq) ?_ ?_
      · rintro j x H' hx ⟨S', L', B', o, hw, hu, eD⟩
        rw [List.getElem?_map] at hx
        obtain ⟨c, hc, rfl⟩ := Option.map_eq_some_iff.mp hx
        have hc4 := hcs c (List.mem_of_getElem? hc)
        have hj : j < cs.length := by
          obtain ⟨z, _⟩ := List.getElem?_eq_some_iff.mp hc
          exact z
        refine ⟨rfl, _, rfl, _, rfl, a, _, c, _, rfl, S', L', by omega, by omega, by omega, fun d2 H3 e0' e1' S3 B3 => ?_⟩
        refine ⟨_, B3 _ _ nD eD, ?_, (S3.put (.inr rfl) nD).le (by omega), (L'.but S3 B3).put, keep_new (B'.trans B3) hD, o ++ [d2], ?_, ?_, ?_⟩
        · rw [List.length_map, hw]
          exact Nat.lt_of_lt_of_le (show j < 1000 by omega) (by decide)
        · rw [List.length_append, hw]; rfl
        · rw [zip_snoc d2 c o cs (by rw [hw]; exact hc)]
          intro y hy
          rcases List.mem_append.mp hy with h | h
          · exact hu y h
          · rw [List.mem_singleton.mp h]; exact ⟨e0', e1'⟩
        · rw [upd_same, List.map_append]; rfl
      rintro H12 ⟨S12, L12, B12, o, hol2, hoz, eD⟩
      rw [List.length_map] at S12 hol2
      have S12' : SrcA H12 a (n + 81 + 4 * i + cs.length) (And1 Av cl) := S12.sub fun b hb => .inl hb
      have L12' : Live H12 (And1 Av cl) := fun b hb => L12 b (.inl hb)
      refine ⟨D, _, rfl, SqL.of eD, fun t H13 ht k13 tp g13 => ?_⟩
      have nt : t ≠ a := S12.ne ht
      have ecl13 : H13 cl = some (.lst vs) := k13 _ _ (B12 _ _ ncl ecl)
      have B13 : But a H11 H13 := B12.trans (Same.but k13)
      refine ⟨cl, _, _, rfl, rfl, ecl13, Nat.lt_of_lt_of_le (show vs.length < 1000 by omega) (by decide), ?_⟩
      refine ⟨vs ++ [.ref t], os ++ [o], _, rfl, upd_same, ((hco.but B13).snoc tp nt).put ecl13, ?_, ?_, ?_, ((S12'.same k13).put (.inr rfl) ncl).le (by omega), (L12'.same k13).put, keep_new (B11.trans B13) hcl0⟩
      · rw [List.length_append, hol]; rfl
      · rw [List.length_append, hvl]; rfl
      · intro x hx
        rcases List.mem_append.mp hx with h | h
        · exact hfit x h
        · rw [List.mem_singleton.mp h]; exact ⟨hol2, hoz⟩
    rintro σ' H11 ⟨vs, os, c6, rfl, ecl, hco, hol, hvl, hfit, S11, L11, B11⟩
    have S11' : SrcA H11 a (n + 100) Av := (S11.sub fun b hb => .inl hb).le (by omega)
    have L11' : Live H11 Av := fun b hb => L11 b (.inl hb)
    -- letters
    refine ⟨_, rfl, (mn : Nat), rfl, by omega, by omega, fun D2 hD2 => ?_⟩
    have nD2 : D2 ≠ a := S11'.ne hD2
    refine lc_range (lo := 0) (n := mn) (fun i H' => SrcA H' a (n + 100 + i) (And1 Av D2) ∧ Live H' (And1 Av D2) ∧ But a H11 H' ∧ ∃ ls : List Int, ls.length = i ∧ (∀ c ∈ ls, 1 ≤ c ∧ c ≤ 3) ∧ H' D2 = some (.lst (ls.map V.int))) ⟨(S11'.add hD2).le (by omega), L11'.add hD2, Same.but (same_upd hD2), [], rfl, fun x h => (nomatch h), upd_same⟩ ?_ ?_
    · rintro i H' hi ⟨S', L', B', ls, hw, hu, eD⟩
      refine ⟨rfl, _, rfl, _, rfl, _, rfl, _, _, rfl, rfl, a, _, _, _, rfl, S', L', by omega, by decide, by decide, fun d2 H3 e0' e1' S3 B3 => ?_⟩
      refine ⟨_, _, rfl, rfl, _, B3 _ _ nD2 eD, ?_, (S3.put (.inr rfl) nD2).le (by omega), (L'.but S3 B3).put, keep_new (B'.trans B3) hD2, ls ++ [1 + d2], ?_, ?_, ?_⟩
      · rw [List.length_map, hw]
        exact Nat.lt_of_lt_of_le (show i < 1000 by omega) (by decide)
      · rw [List.length_append, hw]; rfl
      · intro x hx
        rcases List.mem_append.mp hx with h | h
        · exact hu x h
        · rw [List.mem_singleton.mp h]; omega
      · rw [upd_same, List.map_append]; rfl
    rintro H12 ⟨S12, L12, B12, ls, hll, hls, eD2⟩
    have S12' : SrcA H12 a (n + 110) Av := (S12.sub fun b hb => .inl hb).le (by omega)
    have L12' : Live H12 Av := fun b hb => L12 b (.inl hb)
    refine ⟨D2, _, rfl, SqL.of eD2, fun lt H13 hlt k13 tlt g13 => ?_⟩
    have nlt : lt ≠ a := S12'.ne hlt
    refine ⟨_, rfl, _, rfl, _, rfl, _, _, rfl, rfl, a, n + 110, _, Av, rfl, S12'.same k13, L12'.same k13, by omega, by decide, by decide, fun d4 H14 d40 d41 S14 B14 => ⟨_, _, rfl, rfl, ?_⟩⟩
    have L14 := (L12'.same k13).but S14 B14
    refine ⟨_, rfl, a, n + 110 + 1, Av, rfl, S14, L14, by omega, fun sv H15 b0 b1 b2 r nt mr mnt osv S15 B15 => ?_⟩
    have B9_15 : But a H9 H15 := ((((B10.trans B11).trans B12).trans (Same.but k13)).trans B14).trans B15
    have B11_15 : But a H11 H15 := ((B12.trans (Same.but k13)).trans B14).trans B15
    have B13_15 : But a H13 H15 := B14.trans B15
    refine ⟨_, rfl, lp, _, rfl, SqL.of (B9_15 _ _ nlp e9), fun pt H16 hpt k16 tpt g16 => ?_⟩
    refine ⟨_, rfl, _, rfl, cl, _, rfl, SqL.of (k16 _ _ (B11_15 _ _ ncl ecl)), fun ot H17 hot k17 tot g17 => ?_⟩
    refine ⟨_, rfl, _, rfl, (by show 6 ≤ sizeLine; decide), fun ht H18 hht k18 tht g18 => ?_⟩
    have npt : pt ≠ a := S15.ne hpt
    have not' : ot ≠ a := (S15.same k16).ne hot
    have nht : ht ≠ a := ((S15.same k16).same k17).ne hht
    have kz : Same H15 H18 := (k16.trans k17).trans k18
    have ob : Ob H18 a (.ref ht) (Ho.dt ⟨b0, b1, b2, r, nt, ws, cs, os, ls, 1 + d4⟩) :=
      .tup tht nht (.cons (osv.same kz) (.cons (.tup (tpt.same (k17.trans k18)) npt (obs_strs ws)) (.cons (.tup ((tct.but B9_15 nct).same kz) nct (obs_ints cs)) (.cons (.tup (tot.same k18) not' ((hco.but B11_15).obs.same kz)) (.cons (.tup ((tlt.but B13_15 nlt).same kz) nlt (obs_ints ls)) (.cons (.int _) .nil))))))
    refine q _ _ ⟨b0, b1, b2, r, nt, ws, cs, os, ls, 1 + d4⟩ ⟨mr, mnt, wu, ?_, ?_, wl15, ?_, hcs, ?_, ?_, hfit, ?_, hls, ?_, ?_⟩ ob ((((S15.same k16).same k17).same k18).le (by omega)) ?_
    · show 1 ≤ cntS ws
      omega
    · show cntS ws ≤ 2
      omega
    · show cs.length = cntS ws + 1
      omega
    · show 1 ≤ os.length
      omega
    · show os.length ≤ keys
      omega
    · show ls.length = os.length
      omega
    · show 1 ≤ 1 + d4
      omega
    · show 1 + d4 ≤ 3
      omega
    · exact ((B7.trans B8).trans (Same.but k9)).trans (B9_15.trans (Same.but kz))
end

section
/-- an object that the test f refuses -/
def Bad (f : Dt → Bool) (fz : Dt → Prop) (H : Hp) (p : Addr) (v : V) : Prop := ∃ d, Ob H p v d ∧ f d = false ∧ fz d
def Bads (f : Dt → Bool) (fz : Dt → Prop) (H : Hp) (p : Addr) (vs : List V) : Prop := ∀ v ∈ vs, Bad f fz H p v
variable {f : Dt → Bool} {fz : Dt → Prop} {H H' : Hp} {p : Addr}
theorem Bad.same {v : V} (h : Bad f fz H p v) (k : Same H H') : Bad f fz H' p v := by
  obtain ⟨d, o, e, z⟩ := h
  exact ⟨d, o.same k, e, z⟩
theorem Bads.same {vs : List V} (h : Bads f fz H p vs) (k : Same H H') : Bads f fz H' p vs := fun v hv => (h v hv).same k
theorem Bads.nil : Bads f fz H p [] := fun _ h => (nomatch h)
theorem Bads.cons {v : V} {vs : List V} (h : Bad f fz H p v) (r : Bads f fz H p vs) : Bads f fz H p (v :: vs) := fun x hx => by
  rcases List.mem_cons.mp hx with rfl | hx
  · exact h
  · exact r x hx
theorem Bads.append {vs ws : List V} (h : Bads f fz H p vs) (r : Bads f fz H p ws) : Bads f fz H p (vs ++ ws) := fun x hx => by
  rcases List.mem_append.mp hx with hx | hx
  · exact h x hx
  · exact r x hx
/-- one of the list, picked by a remainder -/
theorem Bads.pick {vs : List V} {k : Int} {n : Nat} (h : Bads f fz H p vs) (hl : vs.length = n) (hn : 0 < n) : ∃ v, atI vs (k % (n : Int)) = some v ∧ Bad f fz H p v := by
  have h0 : 0 ≤ k % (n : Int) := Int.emod_nonneg _ (by omega)
  have h1 : k % (n : Int) < n := Int.emod_lt_of_pos _ (by omega)
  obtain ⟨j, ej⟩ : ∃ j : Nat, (j : Int) = k % (n : Int) := ⟨(k % (n : Int)).toNat, Int.toNat_of_nonneg h0⟩
  have hj : j < vs.length := by omega
  refine ⟨vs[j], ?_, h _ (List.getElem_mem hj)⟩
  rw [← ej]
  exact atI_nat (List.getElem?_eq_getElem hj)
theorem all_put {g : Dt → Bool} {ds : List Dt} {k : Nat} {x : Dt} (h : g x = false) : (ds.take k ++ [x] ++ ds.drop (k + 1)).all g = false := by
  rw [List.all_append, List.all_append, List.all_cons, h, Bool.false_and, Bool.and_false, Bool.false_and]
theorem bad_none {f : Dt → Bool} {fz : Dt → Prop} {H : Hp} {p : Addr} (h : f .non = false) (z : fz .non) : Bad f fz H p .non := ⟨_, .non, h, z⟩
end
section
variable {P : Program} {w : World} {K : PySem.W.Frag} {mg : Str → Option Value} {base : Heap}
def fzT : Dt → Prop := fun _ => True
def cF (n : Nat) (d : Dt) : Bool := countsD d && decide ((itemsD d).length = n)
def spBadCounts : Sp := fun vs H Q _ => ∃ (p : Addr) (x : V) (cs : List Int) (wh : Int) (k : Nat), vs = [x, .int wh, .int (k : Nat)] ∧ Ob H p x (intT cs) ∧ H p ≠ none ∧ cs.length ≤ 3 ∧ 2 ≤ cs.length ∧ k < cs.length ∧
  ∀ v H', Same H H' → Bad (cF cs.length) fzT H' p v → Q v H'
theorem put_len {ds : List Dt} {k : Nat} {x : Dt} (h : k < ds.length) : (ds.take k ++ [x] ++ ds.drop (k + 1)).length = ds.length := by
  rw [List.length_append, List.length_append, List.length_take, List.length_drop]
  show min k ds.length + 1 + (ds.length - (k + 1)) = ds.length
  omega
theorem counts_put {z : Bool} {ds : List Dt} {k : Nat} {x : Dt} (h : wholeD x 1 4 = false) : countsD (.tup z (ds.take k ++ [x] ++ ds.drop (k + 1))) = false := by
  unfold countsD
  rw [show itemsD (.tup z (ds.take k ++ [x] ++ ds.drop (k + 1))) = ds.take k ++ [x] ++ ds.drop (k + 1) from rfl, all_put h, Bool.and_false]
theorem ok_law_bad_counts (T : Txt K mg) : FnOk P w K mg base CX0 2 T.a_law_bad_counts T.d_law_bad_counts ["_law_counts", "_law_which", "_law_at"] spBadCounts := by
  refine T.F_law_bad_counts.ok sc_law_bad_counts (fun vs H Q E h => ?_) (fun cdv A outer s H vs Q E hr h => ?_)
  · obtain ⟨p, x, cs, wh, k, rfl, _⟩ := h
    rfl
  · obtain ⟨p, x, cs, wh, k, rfl, ob, hp, l3, l2, hk, q⟩ := h
    refine ⟨_, (pss_cons (ps_set (i := 3) sc_law_bad_counts.nd rfl (Or.inl rfl) (pe_lst (pa_cons (pe_callTy call_list_of (by rfl) T.z_list (by decide +kernel) (pa_cons (pv 0) pa_nil)) (pa_cons (pe_op op_catF (pv 0) (pe_tupF (pa_cons pe_int pa_nil))) (pa_cons (pe_slice sl_tupA (pv 0) (po_some pe_int) po_none) (pa_cons pe_non (pa_cons (pe_call (ok_law_put T) (hr.mono (by decide)) rfl T.g_law_put T.F_law_put.kp T.b_law_put .nil pass0 (pa_cons (pv 0) (pa_cons (pv 2) (pa_cons pe_int pa_nil)))) (pa_cons (pe_call (ok_law_put T) (hr.mono (by decide)) rfl T.g_law_put T.F_law_put.kp T.b_law_put .nil pass0 (pa_cons (pv 0) (pa_cons (pv 2) (pa_cons pe_int pa_nil)))) pa_nil))))))))
      (pss_cons (ps_set (i := 3) sc_law_bad_counts.nd rfl (Or.inl rfl) (pe_op op_cat (pv 3) (pe_lst (pa_cons (pe_call (ok_law_put T) (hr.mono (by decide)) rfl T.g_law_put T.F_law_put.kp T.b_law_put .nil pass0 (pa_cons (pv 0) (pa_cons (pv 2) (pa_cons pe_bl pa_nil)))) (pa_cons (pe_call (ok_law_put T) (hr.mono (by decide)) rfl T.g_law_put T.F_law_put.kp T.b_law_put .nil pass0 (pa_cons (pv 0) (pa_cons (pv 2) (pa_cons pe_non pa_nil)))) (pa_cons (pe_call (ok_law_put T) (hr.mono (by decide)) rfl T.g_law_put T.F_law_put.kp T.b_law_put .nil pass0 (pa_cons (pv 0) (pa_cons (pv 2) (pa_cons (pe_lst (pa_cons pe_int pa_nil)) pa_nil)))) pa_nil))))))
      (pss_one (ps_ret (pe_ix (ixL K) (pv 3) (pe_op op_mod (pv 1) pe_int) (fun _ _ => rfl)))))), ?_⟩
    obtain ⟨a, xs, rfl, ea, na, all⟩ := tup_ob ob
    have dl : (cs.map Dt.int).length = cs.length := List.length_map _
    have dl9 : (cs.map Dt.int).length ≤ 900 := by omega
    have cput : ∀ {Hq : Hp} {v : V} {z : Bool} {y : Dt}, wholeD y 1 4 = false → Ob Hq p v (.tup z ((cs.map Dt.int).take k ++ [y] ++ (cs.map Dt.int).drop (k + 1))) → Bad (cF cs.length) fzT Hq p v := fun {Hq v z y} h o =>
      ⟨_, o, by unfold cF; rw [counts_put h]; rfl, trivial⟩
    have clen : ∀ {Hq : Hp} {v : V} {z : Bool} {es : List Dt}, es.length ≠ cs.length → Ob Hq p v (.tup z es) → Bad (cF cs.length) fzT Hq p v := fun {Hq v z es} h o =>
      ⟨_, o, by unfold cF; rw [decide_eq_false (show ¬ (itemsD (.tup z es)).length = cs.length from h), Bool.and_false], trivial⟩
    have cno : ∀ {Hq : Hp}, Bad (cF cs.length) fzT Hq p .non := fun {Hq} => ⟨_, .non, rfl, trivial⟩
    -- list(counts)
    refine ⟨_, rfl, a, _, rfl, .inr ea.sq, fun l1 hl1 => ?_⟩
    have k1 := same_upd (o := .lst xs) hl1
    have b1 : Bad (cF cs.length) fzT (upd H l1 (.lst xs)) p (.ref l1) := ⟨.lst _, .lst upd_same (fun z => hp (z ▸ hl1)) (all.same k1), rfl, trivial⟩
    -- counts + (1,)
    refine ⟨_, rfl, (by show 1 ≤ sizeLine; decide), fun r H2 hr2 k2 tp g2 => ?_⟩
    have o2 : Ob H2 p (.ref r) (.tup true [Dt.int 1]) := tup_mk (H1 := upd H l1 (.lst xs)) (.cons (Ob.int 1) .nil) (live_same hp k1) hr2 k2 tp
    have k02 := k1.trans k2
    refine cat_ob (ob.same k02) o2 (live_same hp k02) (by omega) (by show 1 ≤ 1000; decide) fun v3 H3 z3 k3 _ o3 => ?_
    have k03 := k02.trans k3
    have b3 : Bad (cF cs.length) fzT H3 p v3 := clen (by rw [List.length_append, dl]; show cs.length + 1 ≠ cs.length; omega) o3
    -- counts[1:]
    refine ⟨_, rfl, 1, rfl, ?_⟩
    dsimp only [tNoPart]
    refine sl_ob (ob.same k03) (live_same hp k03) fun v4 H4 z4 k4 o4 => ?_
    have k04 := k03.trans k4
    rw [show cutD (cs.map Dt.int) (some 1) none = (cs.map Dt.int).drop 1 from cutD_from _ 1] at o4
    have b4 : Bad (cF cs.length) fzT H4 p v4 := clen (by rw [List.length_drop, dl]; omega) o4
    -- two that are put
    refine ⟨_, rfl, _, rfl, p, .ref a, .int 0, k, _, _, Dt.int 0, rfl, ob.same k04, .int 0, live_same hp k04, dl9, fun v5 H5 z5 k5 o5 => ?_⟩
    have k05 := k04.trans k5
    refine ⟨_, rfl, _, rfl, p, .ref a, .int 5, k, _, _, Dt.int 5, rfl, ob.same k05, .int 5, live_same hp k05, dl9, fun v6 H6 z6 k6 o6 => ?_⟩
    have k06 := k05.trans k6
    refine ⟨(by show 6 ≤ sizeLine; decide), fun m hm => ?_⟩
    have km := same_upd (o := .lst [.ref l1, v3, v4, .non, v5, v6]) hm
    have em : (upd H6 m (.lst [.ref l1, v3, v4, .non, v5, v6])) m = some (.lst [.ref l1, v3, v4, .non, v5, v6]) := upd_same
    have k07 := k06.trans km
    have bs : Bads (cF cs.length) fzT (upd H6 m (.lst [.ref l1, v3, v4, .non, v5, v6])) p [.ref l1, v3, v4, .non, v5, v6] :=
      .cons (b1.same ((((((k2.trans k3).trans k4).trans k5).trans k6)).trans km)) (.cons (b3.same (((k4.trans k5).trans k6).trans km)) (.cons (b4.same ((k5.trans k6).trans km)) (.cons cno (.cons ((cput rfl o5).same (k6.trans km)) (.cons ((cput rfl o6).same km) .nil)))))
    generalize upd H6 m (.lst [.ref l1, v3, v4, .non, v5, v6]) = H7 at km em k07 bs ⊢
    -- the second three
    refine ⟨_, rfl, _, rfl, _, rfl, p, .ref a, .bl true, k, _, _, Dt.bl true, rfl, ob.same k07, .bl true, live_same hp k07, dl9, fun v8 H8 z8 k8 o8 => ?_⟩
    have k08 := k07.trans k8
    refine ⟨_, rfl, _, rfl, p, .ref a, .non, k, _, _, Dt.non, rfl, ob.same k08, .non, live_same hp k08, dl9, fun v9 H9 z9 k9 o9 => ?_⟩
    have k09 := k08.trans k9
    refine ⟨_, rfl, _, rfl, (by show 1 ≤ sizeLine; decide), fun m2 hm2 => ?_⟩
    have km2 := same_upd (o := .lst [V.int 1]) hm2
    have k10 := k09.trans km2
    refine ⟨p, .ref a, .ref m2, k, _, _, Dt.lst [Dt.int 1], rfl, ob.same k10, .lst upd_same (fun z => live_same hp k09 (z ▸ hm2)) (.cons (.int 1) .nil), live_same hp k10, dl9, fun v11 H11 z11 k11 o11 => ?_⟩
    have k12 := k10.trans k11
    refine ⟨(by show 3 ≤ sizeLine; decide), fun m3 hm3 => ?_⟩
    have k8m : Same H7 H11 := ((k8.trans k9).trans km2).trans k11
    have km3 := same_upd (o := .lst [v8, v9, v11]) hm3
    refine ⟨m, m3, _, _, rfl, rfl, km3 _ _ (k8m _ _ em), upd_same, (by show 6 + 3 ≤ sizeLine; decide), fun m4 hm4 => ?_⟩
    have km4 := same_upd (o := .lst ([.ref l1, v3, v4, .non, v5, v6] ++ [v8, v9, v11])) hm4
    have kk := km3.trans km4
    have bs2 := (bs.same (k8m.trans kk)).append (.cons ((cput rfl o8).same (((k9.trans km2).trans k11).trans kk)) (.cons ((cput rfl o9).same ((km2.trans k11).trans kk)) (.cons ((cput rfl o11).same kk) .nil)))
    obtain ⟨v, ev, bv⟩ := bs2.pick (k := wh) (n := 9) rfl (by decide)
    refine ⟨_, rfl, _, rfl, wh, 9, rfl, rfl, (by show (0 : Int) < 9; decide), m4, _, _, v, rfl, rfl, SqL.of upd_same, ev, ?_⟩
    exact q _ _ (k12.trans kk) bv
end

section
variable {P : Program} {w : World} {K : PySem.W.Frag} {mg : Str → Option Value} {base : Heap}
def oF (cs : List Int) (d : Dt) : Bool := courseD d (intT cs)
theorem zip_put {g : Dt × Dt → Bool} {ds es : List Dt} {k : Nat} {y c : Dt} (hl : k < ds.length) (he : es[k]? = some c) (h : g (y, c) = false) : ((ds.take k ++ [y] ++ ds.drop (k + 1)).zip es).all g = false := by
  cases z : ((ds.take k ++ [y] ++ ds.drop (k + 1)).zip es).all g with
  | false => rfl
  | true =>
    have e1 : (ds.take k ++ [y] ++ ds.drop (k + 1))[k]? = some y := by
      rw [List.append_assoc, List.getElem?_append_right (by rw [List.length_take]; omega), List.length_take, Nat.min_eq_left (by omega), Nat.sub_self]; rfl
    have e2 : ((ds.take k ++ [y] ++ ds.drop (k + 1)).zip es)[k]? = some (y, c) := by
      rw [List.getElem?_zip_eq_some]; exact ⟨e1, he⟩
    have e3 := List.all_eq_true.mp z _ (List.mem_of_getElem? e2)
    rw [h] at e3; cases e3
def spBadCourse : Sp := fun vs H Q _ => ∃ (p : Addr) (x y : V) (cs o : List Int) (wh : Int) (k : Nat), vs = [x, y, .int wh, .int (k : Nat)] ∧ Ob H p x (intT cs) ∧ Ob H p y (intT o) ∧ o.length = cs.length ∧ H p ≠ none ∧ cs.length ≤ 3 ∧ 2 ≤ cs.length ∧ k < cs.length ∧
  ∀ v H', Same H H' → Bad (oF cs) fzT H' p v → Q v H'
theorem ok_law_bad_course (T : Txt K mg) : FnOk P w K mg base CX0 2 T.a_law_bad_course T.d_law_bad_course ["_law_counts", "_law_course", "_law_which", "_law_at"] spBadCourse := by
  refine T.F_law_bad_course.ok sc_law_bad_course (fun vs H Q E h => ?_) (fun cdv A outer s H vs Q E hr h => ?_)
  · obtain ⟨p, x, y, cs, o, wh, k, rfl, _⟩ := h
    rfl
  · obtain ⟨p, x, y, cs, o, wh, k, rfl, ob, ob2, hol, hp, l3, l2, hk, q⟩ := h
    refine ⟨_, (pss_cons (ps_set (i := 4) sc_law_bad_course.nd rfl (Or.inl rfl) (pe_lst (pa_cons (pe_callTy call_list_of (by rfl) T.z_list (by decide +kernel) (pa_cons (pv 1) pa_nil)) (pa_cons (pe_op op_catF (pv 1) (pe_tupF (pa_cons pe_int pa_nil))) (pa_cons (pe_slice sl_tupA (pv 1) (po_some pe_int) po_none) (pa_cons pe_non (pa_cons (pe_call (ok_law_put T) (hr.mono (by decide)) rfl T.g_law_put T.F_law_put.kp T.b_law_put .nil pass0 (pa_cons (pv 1) (pa_cons (pv 3) (pa_cons (pe_ix (ixT K) (pv 0) (pv 3) (fun _ _ => rfl)) pa_nil)))) pa_nil)))))))
      (pss_cons (ps_set (i := 4) sc_law_bad_course.nd rfl (Or.inl rfl) (pe_op op_cat (pv 4) (pe_lst (pa_cons (pe_call (ok_law_put T) (hr.mono (by decide)) rfl T.g_law_put T.F_law_put.kp T.b_law_put .nil pass0 (pa_cons (pv 1) (pa_cons (pv 3) (pa_cons (pe_un un_neg pe_int) pa_nil)))) (pa_cons (pe_call (ok_law_put T) (hr.mono (by decide)) rfl T.g_law_put T.F_law_put.kp T.b_law_put .nil pass0 (pa_cons (pv 1) (pa_cons (pv 3) (pa_cons pe_bl pa_nil)))) (pa_cons (pe_call (ok_law_put T) (hr.mono (by decide)) rfl T.g_law_put T.F_law_put.kp T.b_law_put .nil pass0 (pa_cons (pv 1) (pa_cons (pv 3) (pa_cons (pe_lst (pa_cons pe_int pa_nil)) pa_nil)))) pa_nil))))))
      (pss_one (ps_ret (pe_ix (ixL K) (pv 4) (pe_op op_mod (pv 2) pe_int) (fun _ _ => rfl)))))), ?_⟩
    obtain ⟨a, xs, rfl, ea, na, all⟩ := tup_ob ob
    obtain ⟨b, ys, rfl, eb, nb, allb⟩ := tup_ob ob2
    have dl : (o.map Dt.int).length = o.length := List.length_map _
    have dl9 : (o.map Dt.int).length ≤ 900 := by omega
    obtain ⟨ck, hck⟩ : ∃ c, cs[k]? = some c := ⟨_, List.getElem?_eq_getElem hk⟩
    have hck2 : (cs.map Dt.int)[k]? = some (.int ck) := by rw [List.getElem?_map, hck]; rfl
    have eck : xs[k]? = some (.int ck) := by
      have l := all.len
      have hk2 : k < xs.length := by rw [l, List.length_map]; exact hk
      obtain ⟨d, hd, od⟩ := all.get (List.getElem?_eq_getElem hk2)
      rw [hck2] at hd
      cases Option.some.inj hd
      rw [List.getElem?_eq_getElem hk2]
      generalize xs[k] = u at od
      cases od
      rfl
    have ck_bad : wholeD (.int ck) 0 (ck - 1) = false := by
      show (decide (0 ≤ ck) && decide (ck ≤ ck - 1)) = false
      rw [decide_eq_false (show ¬ ck ≤ ck - 1 by omega), Bool.and_false]
    have cput : ∀ {Hq : Hp} {v : V} {z : Bool} {y : Dt}, wholeD y 0 (ck - 1) = false → Ob Hq p v (.tup z ((o.map Dt.int).take k ++ [y] ++ (o.map Dt.int).drop (k + 1))) → Bad (oF cs) fzT Hq p v := fun {Hq v z y} h ov =>
      ⟨_, ov, by
        unfold oF courseD
        rw [show itemsD (.tup z ((o.map Dt.int).take k ++ [y] ++ (o.map Dt.int).drop (k + 1))) = (o.map Dt.int).take k ++ [y] ++ (o.map Dt.int).drop (k + 1) from rfl, show itemsD (intT cs) = cs.map Dt.int from rfl,
          zip_put (g := fun q => wholeD q.1 0 (intD q.2 - 1)) (by omega) hck2 h, Bool.and_false], trivial⟩
    have clen : ∀ {Hq : Hp} {v : V} {z : Bool} {es : List Dt}, es.length ≠ cs.length → Ob Hq p v (.tup z es) → Bad (oF cs) fzT Hq p v := fun {Hq v z es} h ov =>
      ⟨_, ov, by
        unfold oF courseD
        have e : rowD (.tup z es) (((itemsD (intT cs)).length : Nat) : Int) (((itemsD (intT cs)).length : Nat) : Int) = false := by
          rw [show itemsD (intT cs) = cs.map Dt.int from rfl, List.length_map]
          show (decide (((cs.length : Nat) : Int) ≤ (es.length : Int)) && decide ((es.length : Int) ≤ ((cs.length : Nat) : Int))) = false
          by_cases z : es.length ≤ cs.length
          · rw [decide_eq_false (show ¬ ((cs.length : Nat) : Int) ≤ (es.length : Int) by omega), Bool.false_and]
          · rw [decide_eq_false (show ¬ (es.length : Int) ≤ ((cs.length : Nat) : Int) by omega), Bool.and_false]
        rw [e, Bool.false_and], trivial⟩
    have cno : ∀ {Hq : Hp}, Bad (oF cs) fzT Hq p .non := fun {Hq} => ⟨_, .non, rfl, trivial⟩
    refine ⟨_, rfl, b, _, rfl, .inr eb.sq, fun m1 hm1 => ?_⟩
    have q1 := same_upd (o := .lst ys) hm1
    have hn1 : m1 ≠ p := fun z => (live_same hp (fun _ _ z => z)) (z ▸ hm1)
    have em1 : (upd H m1 (.lst ys)) m1 = some (.lst ys) := upd_same
    generalize upd H m1 (.lst ys) = G1 at q1 em1 ⊢
    have fb0 : Bad (oF cs) fzT G1 p (.ref m1) := ⟨_, (.lst em1 hn1 (allb.same q1)), rfl, trivial⟩
    refine ⟨_, rfl, (by show 1 ≤ sizeLine; decide), fun m2 G2 hm2 q2 tp2 fr2 => ?_⟩
    have t2 := tup_mk (p := p) (.cons (Ob.int 0) .nil) (live_same hp q1) hm2 q2 tp2
    refine cat_ob (ob2.same (q1.trans q2)) (t2.same (fun _ _ z => z)) (live_same hp (q1.trans q2)) (by omega) (by show 1 ≤ 1000; decide) fun v3 G3 z3 q3 f3 o3 => ?_
    have fb1 : Bad (oF cs) fzT G3 p v3 := clen (by rw [List.length_append, dl]; show o.length + 1 ≠ cs.length; omega) o3
    refine ⟨_, rfl, 1, rfl, ?_⟩
    try dsimp only [tNoPart]
    refine sl_ob (ob2.same ((q1.trans q2).trans q3)) (live_same hp ((q1.trans q2).trans q3)) fun v4 G4 z4 q4 o4 => ?_
    rw [show cutD (o.map Dt.int) (some 1) none = (o.map Dt.int).drop 1 from cutD_from _ 1] at o4
    have fb2 : Bad (oF cs) fzT G4 p v4 := clen (by rw [List.length_drop, dl]; omega) o4
    have fb3 : Bad (oF cs) fzT G4 p .non := cno
    refine ⟨_, rfl, _, rfl, _, rfl, _, rfl, a, _, _, .int ck, rfl, rfl, (ea.same (((q1.trans q2).trans q3).trans q4)).sq, atI_nat eck, p, .ref b, .int ck, k, _, _, _, rfl, ob2.same (((q1.trans q2).trans q3).trans q4), .int ck, live_same hp (((q1.trans q2).trans q3).trans q4), dl9, fun v5 G5 z5 q5 o5 => ?_⟩
    have fb4 : Bad (oF cs) fzT G5 p v5 := cput ck_bad o5
    refine ⟨(by show 5 ≤ sizeLine; decide), fun m6 hm6 => ?_⟩
    have q6 := same_upd (o := .lst [(.ref m1), v3, v4, .non, v5]) hm6
    have em6 : (upd G5 m6 (.lst [(.ref m1), v3, v4, .non, v5])) m6 = some (.lst [(.ref m1), v3, v4, .non, v5]) := upd_same
    generalize upd G5 m6 (.lst [(.ref m1), v3, v4, .non, v5]) = G6 at q6 em6 ⊢
    have L6 : Bads (oF cs) fzT G6 p [(.ref m1), v3, v4, .non, v5] := (.cons (fb0.same ((((q2.trans q3).trans q4).trans q5).trans q6)) (.cons (fb1.same ((q4.trans q5).trans q6)) (.cons (fb2.same (q5.trans q6)) (.cons (fb3.same (q5.trans q6)) (.cons (fb4.same q6) .nil)))))
    refine ⟨_, rfl, _, rfl, _, rfl, 1, rfl, p, .ref b, .int (-1), k, _, _, _, rfl, ob2.same (((((q1.trans q2).trans q3).trans q4).trans q5).trans q6), .int (-1), live_same hp (((((q1.trans q2).trans q3).trans q4).trans q5).trans q6), dl9, fun v7 G7 z7 q7 o7 => ?_⟩
    have fb5 : Bad (oF cs) fzT G7 p v7 := cput rfl o7
    refine ⟨_, rfl, _, rfl, p, .ref b, .bl false, k, _, _, _, rfl, ob2.same ((((((q1.trans q2).trans q3).trans q4).trans q5).trans q6).trans q7), .bl false, live_same hp ((((((q1.trans q2).trans q3).trans q4).trans q5).trans q6).trans q7), dl9, fun v8 G8 z8 q8 o8 => ?_⟩
    have fb6 : Bad (oF cs) fzT G8 p v8 := cput rfl o8
    refine ⟨_, rfl, _, rfl, (by show 1 ≤ sizeLine; decide), fun m9 hm9 => ?_⟩
    have q9 := same_upd (o := .lst [V.int 0]) hm9
    have hn9 : m9 ≠ p := fun z => (live_same hp (((((((q1.trans q2).trans q3).trans q4).trans q5).trans q6).trans q7).trans q8)) (z ▸ hm9)
    have em9 : (upd G8 m9 (.lst [V.int 0])) m9 = some (.lst [V.int 0]) := upd_same
    generalize upd G8 m9 (.lst [V.int 0]) = G9 at q9 em9 ⊢
    have t9 : Ob G9 p (.ref m9) _ := .lst em9 hn9 (.cons (Ob.int 0) .nil)
    refine ⟨p, .ref b, .ref m9, k, _, _, _, rfl, ob2.same ((((((((q1.trans q2).trans q3).trans q4).trans q5).trans q6).trans q7).trans q8).trans q9), t9.same (fun _ _ z => z), live_same hp ((((((((q1.trans q2).trans q3).trans q4).trans q5).trans q6).trans q7).trans q8).trans q9), dl9, fun v10 G10 z10 q10 o10 => ?_⟩
    have fb7 : Bad (oF cs) fzT G10 p v10 := cput rfl o10
    refine ⟨(by show 3 ≤ sizeLine; decide), fun m11 hm11 => ?_⟩
    have q11 := same_upd (o := .lst [v7, v8, v10]) hm11
    have em11 : (upd G10 m11 (.lst [v7, v8, v10])) m11 = some (.lst [v7, v8, v10]) := upd_same
    generalize upd G10 m11 (.lst [v7, v8, v10]) = G11 at q11 em11 ⊢
    refine ⟨m6, m11, _, _, rfl, rfl, ((((q7.trans q8).trans q9).trans q10).trans q11) _ _ em6, em11, (by show 5 + 3 ≤ sizeLine; decide), fun m12 hm12 => ?_⟩
    have q12 := same_upd (o := .lst ([(.ref m1), v3, v4, .non, v5] ++ [v7, v8, v10])) hm12
    have em12 : (upd G11 m12 (.lst ([(.ref m1), v3, v4, .non, v5] ++ [v7, v8, v10]))) m12 = some (.lst ([(.ref m1), v3, v4, .non, v5] ++ [v7, v8, v10])) := upd_same
    generalize upd G11 m12 (.lst ([(.ref m1), v3, v4, .non, v5] ++ [v7, v8, v10])) = G12 at q12 em12 ⊢
    have L12 : Bads (oF cs) fzT G12 p ([(.ref m1), v3, v4, .non, v5] ++ [v7, v8, v10]) := (L6.same (((((q7.trans q8).trans q9).trans q10).trans q11).trans q12)).append (.cons (fb5.same ((((q8.trans q9).trans q10).trans q11).trans q12)) (.cons (fb6.same (((q9.trans q10).trans q11).trans q12)) (.cons (fb7.same (q11.trans q12)) .nil)))
    obtain ⟨v, ev, bv⟩ := L12.pick (k := wh) (n := 8) rfl (by decide)
    refine ⟨_, rfl, _, rfl, wh, 8, rfl, rfl, (by show (0 : Int) < 8; decide), m12, _, _, v, rfl, rfl, SqL.of em12, ev, ?_⟩
    exact q _ _ (((((((((((q1.trans q2).trans q3).trans q4).trans q5).trans q6).trans q7).trans q8).trans q9).trans q10).trans q11).trans q12) bv
def spBadScheme : Sp := fun vs H Q _ => ∃ (p : Addr) (x : V) (b0 b1 b2 : Bool) (r nt : Str) (wh : Int), vs = [x, .int wh] ∧ Ob H p x (schemeT b0 b1 b2 r nt) ∧ H p ≠ none ∧ ∀ v H', Same H H' → Bad schemeD fzT H' p v → Q v H'
theorem wB : wordD (.str "Back") refusals = false := by decide +kernel
theorem wA : wordD (.str "after") notings = false := by decide +kernel
theorem sch2 {z b0 b1 b2 : Bool} {x n : Dt} (h : wordD x refusals = false) : schemeD (.tup z [.bl b0, .bl b1, x, n, .bl b2]) = false := by
  show (true && (wordD x refusals && wordD n notings)) = false
  rw [h]; rfl
theorem sch3 {z b0 b1 b2 : Bool} {x r : Dt} (h : wordD x notings = false) : schemeD (.tup z [.bl b0, .bl b1, r, x, .bl b2]) = false := by
  show (true && (wordD r refusals && wordD x notings)) = false
  rw [h, Bool.and_false]; rfl
theorem ok_law_bad_scheme (T : Txt K mg) : FnOk P w K mg base CX0 2 T.a_law_bad_scheme T.d_law_bad_scheme ["_law_scheme_here", "_law_which"] spBadScheme := by
  refine T.F_law_bad_scheme.ok sc_law_bad_scheme (fun vs H Q E h => ?_) (fun cdv A outer s H vs Q E hr h => ?_)
  · obtain ⟨p, x, b0, b1, b2, r, nt, wh, rfl, _⟩ := h
    rfl
  · obtain ⟨p, x, b0, b1, b2, r, nt, wh, rfl, ob, hp, q⟩ := h
    refine ⟨_, (pss_cons (ps_set (i := 2) sc_law_bad_scheme.nd rfl (Or.inl rfl) (pe_callTy call_int1 (by rfl) T.z_int (by decide +kernel) (pa_cons (pe_ix (ixT K) (pv 0) pe_int (fun _ _ => rfl)) pa_nil)))
      (pss_cons (ps_set (i := 3) sc_law_bad_scheme.nd rfl (Or.inl rfl) (pe_lst (pa_cons (pe_callTy call_list_of (by rfl) T.z_list (by decide +kernel) (pa_cons (pv 0) pa_nil)) (pa_cons (pe_slice sl_tupA (pv 0) po_none (po_some pe_int)) (pa_cons (pe_op op_catF (pv 0) (pe_tupF (pa_cons pe_bl pa_nil))) (pa_cons pe_non (pa_cons (pe_call (ok_law_put T) (hr.mono (by decide)) rfl T.g_law_put T.F_law_put.kp T.b_law_put .nil pass0 (pa_cons (pv 0) (pa_cons pe_int (pa_cons (pv 2) pa_nil)))) (pa_cons (pe_call (ok_law_put T) (hr.mono (by decide)) rfl T.g_law_put T.F_law_put.kp T.b_law_put .nil pass0 (pa_cons (pv 0) (pa_cons pe_int (pa_cons pe_non pa_nil)))) pa_nil))))))))
      (pss_cons (ps_set (i := 3) sc_law_bad_scheme.nd rfl (Or.inl rfl) (pe_op op_cat (pv 3) (pe_lst (pa_cons (pe_call (ok_law_put T) (hr.mono (by decide)) rfl T.g_law_put T.F_law_put.kp T.b_law_put .nil pass0 (pa_cons (pv 0) (pa_cons pe_int (pa_cons pe_str pa_nil)))) (pa_cons (pe_call (ok_law_put T) (hr.mono (by decide)) rfl T.g_law_put T.F_law_put.kp T.b_law_put .nil pass0 (pa_cons (pv 0) (pa_cons pe_int (pa_cons pe_str pa_nil)))) (pa_cons (pe_call (ok_law_put T) (hr.mono (by decide)) rfl T.g_law_put T.F_law_put.kp T.b_law_put .nil pass0 (pa_cons (pv 0) (pa_cons pe_int (pa_cons pe_non pa_nil)))) pa_nil))))))
      (pss_cons (ps_set (i := 3) sc_law_bad_scheme.nd rfl (Or.inl rfl) (pe_op op_cat (pv 3) (pe_lst (pa_cons (pe_call (ok_law_put T) (hr.mono (by decide)) rfl T.g_law_put T.F_law_put.kp T.b_law_put .nil pass0 (pa_cons (pv 0) (pa_cons pe_int (pa_cons pe_str pa_nil)))) (pa_cons (pe_call (ok_law_put T) (hr.mono (by decide)) rfl T.g_law_put T.F_law_put.kp T.b_law_put .nil pass0 (pa_cons (pv 0) (pa_cons pe_int (pa_cons (pe_tupF (pa_cons pe_str pa_nil)) pa_nil)))) (pa_cons (pe_call (ok_law_put T) (hr.mono (by decide)) rfl T.g_law_put T.F_law_put.kp T.b_law_put .nil pass0 (pa_cons (pv 0) (pa_cons pe_int (pa_cons (pe_lst (pa_cons pe_str pa_nil)) pa_nil)))) pa_nil))))))
      (pss_cons (ps_set (i := 3) sc_law_bad_scheme.nd rfl (Or.inl rfl) (pe_op op_cat (pv 3) (pe_lst (pa_cons (pe_call (ok_law_put T) (hr.mono (by decide)) rfl T.g_law_put T.F_law_put.kp T.b_law_put .nil pass0 (pa_cons (pv 0) (pa_cons pe_int (pa_cons (pe_lst (pa_cons (pe_ix (ixT K) (pv 0) pe_int (fun _ _ => rfl)) pa_nil)) pa_nil)))) (pa_cons (pe_call (ok_law_put T) (hr.mono (by decide)) rfl T.g_law_put T.F_law_put.kp T.b_law_put .nil pass0 (pa_cons (pv 0) (pa_cons pe_int (pa_cons (pe_lst (pa_cons pe_bl pa_nil)) pa_nil)))) pa_nil)))))
      (pss_one (ps_ret (pe_ix (ixL K) (pv 3) (pe_op op_mod (pv 1) pe_int) (fun _ _ => rfl))))))))), ?_⟩
    obtain ⟨a, xs, rfl, ea, na, all⟩ := tup_ob ob
    obtain ⟨v1, v2, v3, v4, v5, rfl, o1, o2, o3, o4, o5⟩ := obs5 all
    cases o1; cases o2; cases o3; cases o4; cases o5
    refine ⟨_, rfl, a, _, 0, .bl b0, rfl, rfl, ea.sq, rfl, .inr ⟨b0, rfl, ?_⟩⟩
    generalize (if b0 = true then (1 : Int) else 0) = fl
    refine ⟨_, rfl, a, _, rfl, .inr ea.sq, fun m1 hm1 => ?_⟩
    have q1 := same_upd (o := .lst [V.bl b0, .bl b1, .str r, .str nt, .bl b2]) hm1
    have hn1 : m1 ≠ p := fun z => (live_same hp (fun _ _ z => z)) (z ▸ hm1)
    have em1 : (upd H m1 (.lst [V.bl b0, .bl b1, .str r, .str nt, .bl b2])) m1 = some (.lst [V.bl b0, .bl b1, .str r, .str nt, .bl b2]) := upd_same
    generalize upd H m1 (.lst [V.bl b0, .bl b1, .str r, .str nt, .bl b2]) = G1 at q1 em1 ⊢
    have fb0 : Bad (schemeD) fzT G1 p (.ref m1) := ⟨_, (.lst em1 hn1 (all.same q1)), rfl, trivial⟩
    refine ⟨_, rfl, 4, rfl, ?_⟩
    try dsimp only [tNoPart]
    refine sl_ob (ob.same q1) (live_same hp q1) fun v2 G2 z2 q2 o2 => ?_
    rw [show cutD [Dt.bl b0, .bl b1, .str r, .str nt, .bl b2] none (some 4) = [Dt.bl b0, .bl b1, .str r, .str nt] from cutD_to _ 4] at o2
    have fb1 : Bad (schemeD) fzT G2 p v2 := ⟨_, o2, rfl, trivial⟩
    refine ⟨_, rfl, (by show 1 ≤ sizeLine; decide), fun m3 G3 hm3 q3 tp3 fr3 => ?_⟩
    have t3 := tup_mk (p := p) (.cons (Ob.bl true) .nil) (live_same hp (q1.trans q2)) hm3 q3 tp3
    refine cat_ob (ob.same ((q1.trans q2).trans q3)) (t3.same (fun _ _ z => z)) (live_same hp ((q1.trans q2).trans q3)) (by show 5 ≤ 1000; decide) (by show 1 ≤ 1000; decide) fun v4 G4 z4 q4 f4 o4 => ?_
    have fb2 : Bad (schemeD) fzT G4 p v4 := ⟨_, o4, rfl, trivial⟩
    have fb3 : Bad (schemeD) fzT G4 p .non := ⟨_, .non, rfl, trivial⟩
    refine ⟨_, rfl, _, rfl, p, .ref a, .int fl, 0, _, _, _, rfl, ob.same (((q1.trans q2).trans q3).trans q4), .int fl, live_same hp (((q1.trans q2).trans q3).trans q4), (by show 5 ≤ 900; decide), fun v5 G5 z5 q5 o5 => ?_⟩
    have fb4 : Bad (schemeD) fzT G5 p v5 := ⟨_, o5, rfl, trivial⟩
    refine ⟨_, rfl, p, .ref a, .non, 1, _, _, _, rfl, ob.same ((((q1.trans q2).trans q3).trans q4).trans q5), .non, live_same hp ((((q1.trans q2).trans q3).trans q4).trans q5), (by show 5 ≤ 900; decide), fun v6 G6 z6 q6 o6 => ?_⟩
    have fb5 : Bad (schemeD) fzT G6 p v6 := ⟨_, o6, rfl, trivial⟩
    refine ⟨(by show 6 ≤ sizeLine; decide), fun m7 hm7 => ?_⟩
    have q7 := same_upd (o := .lst [(.ref m1), v2, v4, .non, v5, v6]) hm7
    have em7 : (upd G6 m7 (.lst [(.ref m1), v2, v4, .non, v5, v6])) m7 = some (.lst [(.ref m1), v2, v4, .non, v5, v6]) := upd_same
    generalize upd G6 m7 (.lst [(.ref m1), v2, v4, .non, v5, v6]) = G7 at q7 em7 ⊢
    have L7 : Bads (schemeD) fzT G7 p [(.ref m1), v2, v4, .non, v5, v6] := (.cons (fb0.same (((((q2.trans q3).trans q4).trans q5).trans q6).trans q7)) (.cons (fb1.same ((((q3.trans q4).trans q5).trans q6).trans q7)) (.cons (fb2.same ((q5.trans q6).trans q7)) (.cons (fb3.same ((q5.trans q6).trans q7)) (.cons (fb4.same (q6.trans q7)) (.cons (fb5.same q7) .nil))))))
    refine ⟨_, rfl, _, rfl, p, .ref a, .str "steady", 4, _, _, _, rfl, ob.same ((((((q1.trans q2).trans q3).trans q4).trans q5).trans q6).trans q7), (.str "steady"), live_same hp ((((((q1.trans q2).trans q3).trans q4).trans q5).trans q6).trans q7), (by show 5 ≤ 900; decide), fun v8 G8 z8 q8 o8 => ?_⟩
    have fb6 : Bad (schemeD) fzT G8 p v8 := ⟨_, o8, rfl, trivial⟩
    refine ⟨_, rfl, p, .ref a, .str "Back", 2, _, _, _, rfl, ob.same (((((((q1.trans q2).trans q3).trans q4).trans q5).trans q6).trans q7).trans q8), (.str "Back"), live_same hp (((((((q1.trans q2).trans q3).trans q4).trans q5).trans q6).trans q7).trans q8), (by show 5 ≤ 900; decide), fun v9 G9 z9 q9 o9 => ?_⟩
    have fb7 : Bad (schemeD) fzT G9 p v9 := ⟨_, o9, sch2 wB, trivial⟩
    refine ⟨_, rfl, p, .ref a, .non, 2, _, _, _, rfl, ob.same ((((((((q1.trans q2).trans q3).trans q4).trans q5).trans q6).trans q7).trans q8).trans q9), .non, live_same hp ((((((((q1.trans q2).trans q3).trans q4).trans q5).trans q6).trans q7).trans q8).trans q9), (by show 5 ≤ 900; decide), fun v10 G10 z10 q10 o10 => ?_⟩
    have fb8 : Bad (schemeD) fzT G10 p v10 := ⟨_, o10, rfl, trivial⟩
    refine ⟨(by show 3 ≤ sizeLine; decide), fun m11 hm11 => ?_⟩
    have q11 := same_upd (o := .lst [v8, v9, v10]) hm11
    have em11 : (upd G10 m11 (.lst [v8, v9, v10])) m11 = some (.lst [v8, v9, v10]) := upd_same
    generalize upd G10 m11 (.lst [v8, v9, v10]) = G11 at q11 em11 ⊢
    refine ⟨m7, m11, _, _, rfl, rfl, (((q8.trans q9).trans q10).trans q11) _ _ em7, em11, (by show 6 + 3 ≤ sizeLine; decide), fun m12 hm12 => ?_⟩
    have q12 := same_upd (o := .lst ([(.ref m1), v2, v4, .non, v5, v6] ++ [v8, v9, v10])) hm12
    have em12 : (upd G11 m12 (.lst ([(.ref m1), v2, v4, .non, v5, v6] ++ [v8, v9, v10]))) m12 = some (.lst ([(.ref m1), v2, v4, .non, v5, v6] ++ [v8, v9, v10])) := upd_same
    generalize upd G11 m12 (.lst ([(.ref m1), v2, v4, .non, v5, v6] ++ [v8, v9, v10])) = G12 at q12 em12 ⊢
    have L12 : Bads (schemeD) fzT G12 p ([(.ref m1), v2, v4, .non, v5, v6] ++ [v8, v9, v10]) := (L7.same ((((q8.trans q9).trans q10).trans q11).trans q12)).append (.cons (fb6.same (((q9.trans q10).trans q11).trans q12)) (.cons (fb7.same ((q10.trans q11).trans q12)) (.cons (fb8.same (q11.trans q12)) .nil)))
    refine ⟨_, rfl, _, rfl, p, .ref a, .str "after", 3, _, _, _, rfl, ob.same (((((((((((q1.trans q2).trans q3).trans q4).trans q5).trans q6).trans q7).trans q8).trans q9).trans q10).trans q11).trans q12), (.str "after"), live_same hp (((((((((((q1.trans q2).trans q3).trans q4).trans q5).trans q6).trans q7).trans q8).trans q9).trans q10).trans q11).trans q12), (by show 5 ≤ 900; decide), fun v13 G13 z13 q13 o13 => ?_⟩
    have fb9 : Bad (schemeD) fzT G13 p v13 := ⟨_, o13, sch3 wA, trivial⟩
    refine ⟨_, rfl, (by show 1 ≤ sizeLine; decide), fun m14 G14 hm14 q14 tp14 fr14 => ?_⟩
    have t14 := tup_mk (p := p) (.cons (Ob.str "with") .nil) (live_same hp ((((((((((((q1.trans q2).trans q3).trans q4).trans q5).trans q6).trans q7).trans q8).trans q9).trans q10).trans q11).trans q12).trans q13)) hm14 q14 tp14
    refine ⟨p, .ref a, .ref m14, 3, _, _, _, rfl, ob.same (((((((((((((q1.trans q2).trans q3).trans q4).trans q5).trans q6).trans q7).trans q8).trans q9).trans q10).trans q11).trans q12).trans q13).trans q14), t14.same (fun _ _ z => z), live_same hp (((((((((((((q1.trans q2).trans q3).trans q4).trans q5).trans q6).trans q7).trans q8).trans q9).trans q10).trans q11).trans q12).trans q13).trans q14), (by show 5 ≤ 900; decide), fun v15 G15 z15 q15 o15 => ?_⟩
    have fb10 : Bad (schemeD) fzT G15 p v15 := ⟨_, o15, sch3 rfl, trivial⟩
    refine ⟨_, rfl, (by show 1 ≤ sizeLine; decide), fun m16 hm16 => ?_⟩
    have q16 := same_upd (o := .lst [V.str "back"]) hm16
    have hn16 : m16 ≠ p := fun z => (live_same hp ((((((((((((((q1.trans q2).trans q3).trans q4).trans q5).trans q6).trans q7).trans q8).trans q9).trans q10).trans q11).trans q12).trans q13).trans q14).trans q15)) (z ▸ hm16)
    have em16 : (upd G15 m16 (.lst [V.str "back"])) m16 = some (.lst [V.str "back"]) := upd_same
    generalize upd G15 m16 (.lst [V.str "back"]) = G16 at q16 em16 ⊢
    have t16 : Ob G16 p (.ref m16) _ := .lst em16 hn16 (.cons (Ob.str "back") .nil)
    refine ⟨p, .ref a, .ref m16, 2, _, _, _, rfl, ob.same (((((((((((((((q1.trans q2).trans q3).trans q4).trans q5).trans q6).trans q7).trans q8).trans q9).trans q10).trans q11).trans q12).trans q13).trans q14).trans q15).trans q16), t16.same (fun _ _ z => z), live_same hp (((((((((((((((q1.trans q2).trans q3).trans q4).trans q5).trans q6).trans q7).trans q8).trans q9).trans q10).trans q11).trans q12).trans q13).trans q14).trans q15).trans q16), (by show 5 ≤ 900; decide), fun v17 G17 z17 q17 o17 => ?_⟩
    have fb11 : Bad (schemeD) fzT G17 p v17 := ⟨_, o17, rfl, trivial⟩
    refine ⟨(by show 3 ≤ sizeLine; decide), fun m18 hm18 => ?_⟩
    have q18 := same_upd (o := .lst [v13, v15, v17]) hm18
    have em18 : (upd G17 m18 (.lst [v13, v15, v17])) m18 = some (.lst [v13, v15, v17]) := upd_same
    generalize upd G17 m18 (.lst [v13, v15, v17]) = G18 at q18 em18 ⊢
    refine ⟨m12, m18, _, _, rfl, rfl, (((((q13.trans q14).trans q15).trans q16).trans q17).trans q18) _ _ em12, em18, (by show 9 + 3 ≤ sizeLine; decide), fun m19 hm19 => ?_⟩
    have q19 := same_upd (o := .lst (([(.ref m1), v2, v4, .non, v5, v6] ++ [v8, v9, v10]) ++ [v13, v15, v17])) hm19
    have em19 : (upd G18 m19 (.lst (([(.ref m1), v2, v4, .non, v5, v6] ++ [v8, v9, v10]) ++ [v13, v15, v17]))) m19 = some (.lst (([(.ref m1), v2, v4, .non, v5, v6] ++ [v8, v9, v10]) ++ [v13, v15, v17])) := upd_same
    generalize upd G18 m19 (.lst (([(.ref m1), v2, v4, .non, v5, v6] ++ [v8, v9, v10]) ++ [v13, v15, v17])) = G19 at q19 em19 ⊢
    have L19 : Bads (schemeD) fzT G19 p (([(.ref m1), v2, v4, .non, v5, v6] ++ [v8, v9, v10]) ++ [v13, v15, v17]) := (L12.same ((((((q13.trans q14).trans q15).trans q16).trans q17).trans q18).trans q19)).append (.cons (fb9.same (((((q14.trans q15).trans q16).trans q17).trans q18).trans q19)) (.cons (fb10.same (((q16.trans q17).trans q18).trans q19)) (.cons (fb11.same (q18.trans q19)) .nil)))
    refine ⟨_, rfl, _, rfl, _, rfl, a, _, 3, .str nt, rfl, rfl, (ea.same ((((((((((((((((((q1.trans q2).trans q3).trans q4).trans q5).trans q6).trans q7).trans q8).trans q9).trans q10).trans q11).trans q12).trans q13).trans q14).trans q15).trans q16).trans q17).trans q18).trans q19)).sq, rfl, (by show 1 ≤ sizeLine; decide), fun m20 hm20 => ?_⟩
    have q20 := same_upd (o := .lst [V.str nt]) hm20
    have hn20 : m20 ≠ p := fun z => (live_same hp ((((((((((((((((((q1.trans q2).trans q3).trans q4).trans q5).trans q6).trans q7).trans q8).trans q9).trans q10).trans q11).trans q12).trans q13).trans q14).trans q15).trans q16).trans q17).trans q18).trans q19)) (z ▸ hm20)
    have em20 : (upd G19 m20 (.lst [V.str nt])) m20 = some (.lst [V.str nt]) := upd_same
    generalize upd G19 m20 (.lst [V.str nt]) = G20 at q20 em20 ⊢
    have t20 : Ob G20 p (.ref m20) _ := .lst em20 hn20 (.cons (Ob.str nt) .nil)
    refine ⟨p, .ref a, .ref m20, 3, _, _, _, rfl, ob.same (((((((((((((((((((q1.trans q2).trans q3).trans q4).trans q5).trans q6).trans q7).trans q8).trans q9).trans q10).trans q11).trans q12).trans q13).trans q14).trans q15).trans q16).trans q17).trans q18).trans q19).trans q20), t20.same (fun _ _ z => z), live_same hp (((((((((((((((((((q1.trans q2).trans q3).trans q4).trans q5).trans q6).trans q7).trans q8).trans q9).trans q10).trans q11).trans q12).trans q13).trans q14).trans q15).trans q16).trans q17).trans q18).trans q19).trans q20), (by show 5 ≤ 900; decide), fun v21 G21 z21 q21 o21 => ?_⟩
    have fb12 : Bad (schemeD) fzT G21 p v21 := ⟨_, o21, sch3 rfl, trivial⟩
    refine ⟨_, rfl, (by show 1 ≤ sizeLine; decide), fun m22 hm22 => ?_⟩
    have q22 := same_upd (o := .lst [V.bl true]) hm22
    have hn22 : m22 ≠ p := fun z => (live_same hp ((((((((((((((((((((q1.trans q2).trans q3).trans q4).trans q5).trans q6).trans q7).trans q8).trans q9).trans q10).trans q11).trans q12).trans q13).trans q14).trans q15).trans q16).trans q17).trans q18).trans q19).trans q20).trans q21)) (z ▸ hm22)
    have em22 : (upd G21 m22 (.lst [V.bl true])) m22 = some (.lst [V.bl true]) := upd_same
    generalize upd G21 m22 (.lst [V.bl true]) = G22 at q22 em22 ⊢
    have t22 : Ob G22 p (.ref m22) _ := .lst em22 hn22 (.cons (Ob.bl true) .nil)
    refine ⟨p, .ref a, .ref m22, 4, _, _, _, rfl, ob.same (((((((((((((((((((((q1.trans q2).trans q3).trans q4).trans q5).trans q6).trans q7).trans q8).trans q9).trans q10).trans q11).trans q12).trans q13).trans q14).trans q15).trans q16).trans q17).trans q18).trans q19).trans q20).trans q21).trans q22), t22.same (fun _ _ z => z), live_same hp (((((((((((((((((((((q1.trans q2).trans q3).trans q4).trans q5).trans q6).trans q7).trans q8).trans q9).trans q10).trans q11).trans q12).trans q13).trans q14).trans q15).trans q16).trans q17).trans q18).trans q19).trans q20).trans q21).trans q22), (by show 5 ≤ 900; decide), fun v23 G23 z23 q23 o23 => ?_⟩
    have fb13 : Bad (schemeD) fzT G23 p v23 := ⟨_, o23, rfl, trivial⟩
    refine ⟨(by show 2 ≤ sizeLine; decide), fun m24 hm24 => ?_⟩
    have q24 := same_upd (o := .lst [v21, v23]) hm24
    have em24 : (upd G23 m24 (.lst [v21, v23])) m24 = some (.lst [v21, v23]) := upd_same
    generalize upd G23 m24 (.lst [v21, v23]) = G24 at q24 em24 ⊢
    refine ⟨m19, m24, _, _, rfl, rfl, ((((q20.trans q21).trans q22).trans q23).trans q24) _ _ em19, em24, (by show 12 + 2 ≤ sizeLine; decide), fun m25 hm25 => ?_⟩
    have q25 := same_upd (o := .lst ((([(.ref m1), v2, v4, .non, v5, v6] ++ [v8, v9, v10]) ++ [v13, v15, v17]) ++ [v21, v23])) hm25
    have em25 : (upd G24 m25 (.lst ((([(.ref m1), v2, v4, .non, v5, v6] ++ [v8, v9, v10]) ++ [v13, v15, v17]) ++ [v21, v23]))) m25 = some (.lst ((([(.ref m1), v2, v4, .non, v5, v6] ++ [v8, v9, v10]) ++ [v13, v15, v17]) ++ [v21, v23])) := upd_same
    generalize upd G24 m25 (.lst ((([(.ref m1), v2, v4, .non, v5, v6] ++ [v8, v9, v10]) ++ [v13, v15, v17]) ++ [v21, v23])) = G25 at q25 em25 ⊢
    have L25 : Bads (schemeD) fzT G25 p ((([(.ref m1), v2, v4, .non, v5, v6] ++ [v8, v9, v10]) ++ [v13, v15, v17]) ++ [v21, v23]) := (L19.same (((((q20.trans q21).trans q22).trans q23).trans q24).trans q25)).append (.cons (fb12.same (((q22.trans q23).trans q24).trans q25)) (.cons (fb13.same (q24.trans q25)) .nil))
    obtain ⟨v, ev, bv⟩ := L25.pick (k := wh) (n := 14) rfl (by decide)
    refine ⟨_, rfl, _, rfl, wh, 14, rfl, rfl, (by show (0 : Int) < 14; decide), m25, _, _, v, rfl, rfl, SqL.of em25, ev, ?_⟩
    exact q _ _ ((((((((((((((((((((((((q1.trans q2).trans q3).trans q4).trans q5).trans q6).trans q7).trans q8).trans q9).trans q10).trans q11).trans q12).trans q13).trans q14).trans q15).trans q16).trans q17).trans q18).trans q19).trans q20).trans q21).trans q22).trans q23).trans q24).trans q25) bv
end
section
variable {P : Program} {w : World} {K : PySem.W.Frag} {mg : Str → Option Value} {base : Heap}
theorem obs_strs_inj {H : Hp} {p : Addr} : ∀ {xs : List V} {ws : List Str}, Obs H p xs (ws.map Dt.str) → xs = ws.map V.str
  | xs, [], h => obs_nil h
  | xs, w :: r, h => by
    obtain ⟨v, vs, rfl, o, t⟩ := obs_cons (show Obs H p xs (Dt.str w :: r.map Dt.str) from h)
    cases o
    rw [obs_strs_inj t]; rfl
theorem still_bad {z : Bool} {ws : List Str} (h : cntS ws = 0) : planD (.tup z (ws.map Dt.str)) = false := by
  unfold planD
  have e : shows (.tup z (ws.map Dt.str)) = 0 := (shows_strs ws).trans h
  rw [e, decide_eq_false (show ¬ 1 ≤ 0 by decide), Bool.false_and, Bool.and_false, Bool.and_false]
theorem three_bad {z : Bool} {ws : List Str} : planD (.tup z (ws.map Dt.str ++ [Dt.str "show", Dt.str "show", Dt.str "show"])) = false := by
  unfold planD
  have e : shows (.tup z (ws.map Dt.str ++ [Dt.str "show", Dt.str "show", Dt.str "show"])) = (ws.map Dt.str).countP isShow + 3 := by
    show (ws.map Dt.str ++ [Dt.str "show", Dt.str "show", Dt.str "show"]).countP isShow = _
    rw [List.countP_append]; rfl
  rw [e, decide_eq_false (show ¬ (ws.map Dt.str).countP isShow + 3 ≤ 2 by omega), Bool.and_false, Bool.and_false, Bool.and_false]
theorem long_bad {z : Bool} {ds : List Dt} (h : ds.length = 16) : planD (.tup z ds) = false ∧ fzPlan (.tup z ds) := by
  have e : rowD (.tup z ds) 1 15 = false := by
    show (decide ((1 : Int) ≤ (ds.length : Int)) && decide ((ds.length : Int) ≤ 15)) = false
    rw [h]; rfl
  refine ⟨?_, fun z => ?_⟩
  · unfold planD; rw [e, Bool.false_and]
  · rw [e] at z; cases z
theorem wS : wordD (.str "Show") planWords = false := by decide +kernel
theorem wH : wordD (.str "hand") planWords = false := by decide +kernel
theorem pput {z : Bool} {ds : List Dt} {k : Nat} {x : Dt} (h : wordD x planWords = false) : planD (.tup z (ds.take k ++ [x] ++ ds.drop (k + 1))) = false := by
  unfold planD
  rw [show itemsD (.tup z (ds.take k ++ [x] ++ ds.drop (k + 1))) = ds.take k ++ [x] ++ ds.drop (k + 1) from rfl, all_put (g := fun x => wordD x planWords) h, Bool.false_and, Bool.and_false]
theorem pfz {z : Bool} {ds : List Dt} {k : Nat} {x : Dt} (h : wordD x planWords = false) : fzPlan (.tup z (ds.take k ++ [x] ++ ds.drop (k + 1))) := fun _ e => by
  rw [all_put (g := fun x => wordD x planWords) h] at e; cases e
theorem rep_ob {K : PySem.W.Frag} {H : Hp} {p : Addr} {x : V} {z : Bool} {d : Dt} {k : Int} {Q : VK} (h : Ob H p x (.tup z [d])) (hp : H p ≠ none) (h1 : 1 ≤ k) (h2 : k ≤ 1000) (q : ∀ v H' z', Same H H' → Ob H' p v (.tup z' (List.replicate k.toNat d)) → Q v H') : rRepF K x (.int k) H Q := by
  obtain ⟨a, xs, rfl, ea, na, all⟩ := tup_ob h
  obtain ⟨v, vs, rfl, o, t⟩ := obs_cons all
  have e := obs_nil t
  subst e
  refine ⟨a, k, [v], rfl, rfl, ea.sq, fun z => (nomatch z), h1, h2, by show 1 ≤ 1000; decide, fun e => ?_, fun _ r hr => ?_⟩
  · subst e
    exact q _ _ z (fun _ _ z => z) h
  · have e2 : (List.replicate k.toNat [v]).flatten = List.replicate k.toNat v := by
      generalize k.toNat = n
      induction n with
      | zero => rfl
      | succ n ih => rw [List.replicate_succ, List.flatten_cons, ih]; rfl
    rw [e2]
    have ob : ∀ n, Obs H p (List.replicate n v) (List.replicate n d) := fun n => by
      induction n with
      | zero => exact .nil
      | succ n ih => exact .cons o ih
    exact q _ _ false (same_upd hr) (.tup (.new upd_same) (fun z => hp (z ▸ hr)) ((ob _).same (same_upd hr)))
def spBadPlan : Sp := fun vs H Q _ => ∃ (p : Addr) (x : V) (ws : List Str) (wh : Int) (k : Nat), vs = [x, .int wh, .int (k : Nat)] ∧ Ob H p x (strT ws) ∧ H p ≠ none ∧ ws.length ≤ 15 ∧ k < ws.length ∧ ∀ v H', Same H H' → Bad planD fzPlan H' p v → Q v H'
theorem ok_law_bad_plan (T : Txt K mg) : FnOk P w K mg base CX0 2 T.a_law_bad_plan T.d_law_bad_plan ["_law_plan", "_law_which", "_law_at"] spBadPlan := by
  refine T.F_law_bad_plan.ok sc_law_bad_plan (fun vs H Q E h => ?_) (fun cdv A outer s H vs Q E hr h => ?_)
  · obtain ⟨p, x, ws, wh, k, rfl, _⟩ := h
    rfl
  · obtain ⟨p, x, ws, wh, k, rfl, ob, hp, hl, hk, q⟩ := h
    refine ⟨_, (pss_cons (ps_set (i := 3) sc_law_bad_plan.nd rfl (Or.inl rfl) (pe_tupleOfF (by rfl) T.z_tuple (pe_lc (own := [("_law_word", 5)]) (g := gName 5) (by rfl) sc_law_bad_plan.nd (pi_tup (pv 0)) (blkOk_by (own := [("_law_word", 5)]) (N := ["_law_plan", "_law_which", "_law_at", "_law_still", "_law_bad", "_law_word"]) (sc := defScope s_law_bad_plan) (by decide +kernel)) (fun _ _ _ _ _ => (pg_name (i := 5) sc_law_bad_plan.nd rfl (Or.inl rfl))) (fun _ _ _ _ _ => (pts_one (pt_cmpR op_ne (pv 5) pe_str (nomark _)))) (fun _ _ _ _ _ => (pv 5)))))
      (pss_cons (ps_set (i := 4) sc_law_bad_plan.nd rfl (Or.inl rfl) (pe_lst (pa_cons (pe_callTy call_list_of (by rfl) T.z_list (by decide +kernel) (pa_cons (pv 0) pa_nil)) (pa_cons (pe_tupF pa_nil) (pa_cons pe_non (pa_cons (pv 3) (pa_cons (pe_op op_catF (pv 3) (pe_tupF (pa_cons pe_str (pa_cons pe_str (pa_cons pe_str pa_nil))))) (pa_cons (pe_op op_catF (pv 0) (pe_op op_repF (pe_tupF (pa_cons pe_str pa_nil)) (pe_op op_sub pe_int (pe_callB call_len_seq (by rfl) T.z_len (by decide +kernel) (pa_cons (pv 0) pa_nil))))) pa_nil))))))))
      (pss_cons (ps_set (i := 4) sc_law_bad_plan.nd rfl (Or.inl rfl) (pe_op op_cat (pv 4) (pe_lst (pa_cons (pe_call (ok_law_put T) (hr.mono (by decide)) rfl T.g_law_put T.F_law_put.kp T.b_law_put .nil pass0 (pa_cons (pv 0) (pa_cons (pv 2) (pa_cons pe_str pa_nil)))) (pa_cons (pe_call (ok_law_put T) (hr.mono (by decide)) rfl T.g_law_put T.F_law_put.kp T.b_law_put .nil pass0 (pa_cons (pv 0) (pa_cons (pv 2) (pa_cons pe_non pa_nil)))) (pa_cons (pe_call (ok_law_put T) (hr.mono (by decide)) rfl T.g_law_put T.F_law_put.kp T.b_law_put .nil pass0 (pa_cons (pv 0) (pa_cons (pv 2) (pa_cons pe_str pa_nil)))) (pa_cons pe_str pa_nil)))))))
      (pss_cons (ps_set (i := 4) sc_law_bad_plan.nd rfl (Or.inl rfl) (pe_op op_cat (pv 4) (pe_lst (pa_cons (pe_call (ok_law_put T) (hr.mono (by decide)) rfl T.g_law_put T.F_law_put.kp T.b_law_put .nil pass0 (pa_cons (pv 0) (pa_cons (pv 2) (pa_cons (pe_lst (pa_cons pe_str pa_nil)) pa_nil)))) (pa_cons (pe_call (ok_law_put T) (hr.mono (by decide)) rfl T.g_law_put T.F_law_put.kp T.b_law_put .nil pass0 (pa_cons (pv 0) (pa_cons (pv 2) (pa_cons pe_dnewK pa_nil)))) pa_nil)))))
      (pss_one (ps_ret (pe_ix (ixL K) (pv 4) (pe_op op_mod (pv 1) pe_int) (fun _ _ => rfl)))))))), ?_⟩
    obtain ⟨a, xs, rfl, ea, na, all⟩ := tup_ob ob
    have exs : xs = ws.map V.str := obs_strs_inj all
    subst exs
    refine ⟨_, rfl, a, rfl, ⟨_, ea.sq⟩, fun D hD => ?_⟩
    refine lc_tup (K := K) (a := a) (xs := ws.map V.str) (fun i H' => Same H H' ∧ ∃ st : List Str, st.length ≤ i ∧ cntS st = 0 ∧ H' D = some (.lst (st.map V.str))) ⟨same_upd hD, [], Nat.le_refl _, rfl, upd_same⟩ (fun i H' _ h => (ea.same h.1).sq) ?_ ?_
    · rintro i x H' hx ⟨k', st, hs, hc, eD⟩
      have hi : i < ws.length := by
        obtain ⟨z, _⟩ := List.getElem?_eq_some_iff.mp hx
        rw [List.length_map] at z; exact z
      rw [List.getElem?_map] at hx
      obtain ⟨s, hs2, rfl⟩ := Option.map_eq_some_iff.mp hx
      refine ⟨rfl, _, rfl, rfl, _, rfl, ite2 (fun e => ?_) (fun e => ?_)⟩
      · have ne : ¬ s = ("show" : Str) := fun z => by subst z; simp at e
        refine ⟨_, rfl, _, eD, ?_, fun c o hc => ?_, st ++ [s], ?_, ?_, ?_⟩
        · rw [List.length_map]
          exact Nat.lt_of_lt_of_le (show st.length < 1000 by omega) (by decide)
        · rw [upd_ne (ne_of_none hc hD)]; exact k' c o hc
        · rw [List.length_append]; show _ + 1 ≤ _; omega
        · rw [cnt_append, hc]
          show 0 + cntS [s] = 0
          unfold cntS
          rw [List.countP_cons, decide_eq_false ne]; rfl
        · rw [upd_same, List.map_append]; rfl
      · exact ⟨k', st, by omega, hc, eD⟩
    rintro HD ⟨kD, st, hs, hst, eD⟩
    rw [List.length_map] at hs
    refine ⟨D, _, rfl, SqL.of eD, fun sa G1 hsa k0 tps fr => ?_⟩
    have k1 : Same H G1 := kD.trans k0
    have osl : Ob G1 p (.ref sa) (.tup true (st.map Dt.str)) := tup_mk (obs_strs st) (live_same hp kD) hsa k0 tps
    have t0 := osl
    refine ⟨_, rfl, a, _, rfl, .inr (ea.same k1).sq, fun m2 hm2 => ?_⟩
    have q2 := same_upd (o := .lst (ws.map V.str)) hm2
    have hn2 : m2 ≠ p := fun z => (live_same hp k1) (z ▸ hm2)
    have em2 : (upd G1 m2 (.lst (ws.map V.str))) m2 = some (.lst (ws.map V.str)) := upd_same
    generalize upd G1 m2 (.lst (ws.map V.str)) = G2 at q2 em2 ⊢
    have fb0 : Bad (planD) fzPlan G2 p (.ref m2) := ⟨_, (.lst em2 hn2 (all.same (k1.trans q2))), rfl, trivial⟩
    refine ⟨(by show 0 ≤ sizeLine; decide), fun m3 G3 hm3 q3 tp3 fr3 => ?_⟩
    have t3 := tup_mk (p := p) Obs.nil (live_same hp (k1.trans q2)) hm3 q3 tp3
    have fb1 : Bad (planD) fzPlan G3 p (.ref m3) := ⟨_, t3, rfl, fun _ _ => rfl⟩
    have fb2 : Bad (planD) fzPlan G3 p .non := ⟨_, .non, rfl, trivial⟩
    refine ⟨_, rfl, ?_⟩
    have fb3 : Bad (planD) fzPlan G3 p (.ref sa) := ⟨_, t0.same (q2.trans q3), still_bad hst, fun _ _ => rfl⟩
    refine ⟨_, rfl, (by show 3 ≤ sizeLine; decide), fun m4 G4 hm4 q4 tp4 fr4 => ?_⟩
    have t4 := tup_mk (p := p) (.cons (Ob.str "show") (.cons (Ob.str "show") (.cons (Ob.str "show") .nil))) (live_same hp ((k1.trans q2).trans q3)) hm4 q4 tp4
    refine cat_ob (t0.same ((q2.trans q3).trans q4)) (t4.same (fun _ _ z => z)) (live_same hp (((k1.trans q2).trans q3).trans q4)) (by rw [List.length_map]; omega) (by show 3 ≤ 1000; decide) fun v5 G5 z5 q5 f5 o5 => ?_
    have fb4 : Bad (planD) fzPlan G5 p v5 := ⟨_, o5, three_bad, fun _ _ => f5 rfl rfl⟩
    refine ⟨_, rfl, (by show 1 ≤ sizeLine; decide), fun m6 G6 hm6 q6 tp6 fr6 => ?_⟩
    have t6 := tup_mk (p := p) (.cons (Ob.str "open") .nil) (live_same hp ((((k1.trans q2).trans q3).trans q4).trans q5)) hm6 q6 tp6
    refine ⟨_, rfl, a, _, rfl, .inr (ea.same (((((k1.trans q2).trans q3).trans q4).trans q5).trans q6)).sq, _, _, rfl, rfl, ?_⟩
    rw [List.length_map]
    refine rep_ob (d := Dt.str "open") t6 (live_same hp (((((k1.trans q2).trans q3).trans q4).trans q5).trans q6)) (by omega) (by omega) fun vr G7 zr q7 or => ?_
    refine cat_ob (ob.same ((((((k1.trans q2).trans q3).trans q4).trans q5).trans q6).trans q7)) (or.same (fun _ _ z => z)) (live_same hp ((((((k1.trans q2).trans q3).trans q4).trans q5).trans q6).trans q7)) (by rw [List.length_map]; omega) (by rw [List.length_replicate]; omega) fun v8 G8 z8 q8 f8 o8 => ?_
    have fb5 : Bad (planD) fzPlan G8 p v8 := ⟨_, o8, (long_bad (by rw [List.length_append, List.length_map, List.length_replicate]; omega)).1, (long_bad (by rw [List.length_append, List.length_map, List.length_replicate]; omega)).2⟩
    refine ⟨(by show 6 ≤ sizeLine; decide), fun m9 hm9 => ?_⟩
    have q9 := same_upd (o := .lst [(.ref m2), (.ref m3), .non, (.ref sa), v5, v8]) hm9
    have em9 : (upd G8 m9 (.lst [(.ref m2), (.ref m3), .non, (.ref sa), v5, v8])) m9 = some (.lst [(.ref m2), (.ref m3), .non, (.ref sa), v5, v8]) := upd_same
    generalize upd G8 m9 (.lst [(.ref m2), (.ref m3), .non, (.ref sa), v5, v8]) = G9 at q9 em9 ⊢
    have L9 : Bads (planD) fzPlan G9 p [(.ref m2), (.ref m3), .non, (.ref sa), v5, v8] := (.cons (fb0.same ((((((q3.trans q4).trans q5).trans q6).trans q7).trans q8).trans q9)) (.cons (fb1.same (((((q4.trans q5).trans q6).trans q7).trans q8).trans q9)) (.cons (fb2.same (((((q4.trans q5).trans q6).trans q7).trans q8).trans q9)) (.cons (fb3.same (((((q4.trans q5).trans q6).trans q7).trans q8).trans q9)) (.cons (fb4.same (((q6.trans q7).trans q8).trans q9)) (.cons (fb5.same q9) .nil))))))
    refine ⟨_, rfl, _, rfl, _, rfl, p, .ref a, .str "Show", k, _, _, _, rfl, ob.same ((((((((k1.trans q2).trans q3).trans q4).trans q5).trans q6).trans q7).trans q8).trans q9), (.str "Show"), live_same hp ((((((((k1.trans q2).trans q3).trans q4).trans q5).trans q6).trans q7).trans q8).trans q9), (by rw [List.length_map]; omega), fun v10 G10 z10 q10 o10 => ?_⟩
    have fb6 : Bad (planD) fzPlan G10 p v10 := ⟨_, o10, pput wS, pfz wS⟩
    refine ⟨_, rfl, _, rfl, p, .ref a, .non, k, _, _, _, rfl, ob.same (((((((((k1.trans q2).trans q3).trans q4).trans q5).trans q6).trans q7).trans q8).trans q9).trans q10), .non, live_same hp (((((((((k1.trans q2).trans q3).trans q4).trans q5).trans q6).trans q7).trans q8).trans q9).trans q10), (by rw [List.length_map]; omega), fun v11 G11 z11 q11 o11 => ?_⟩
    have fb7 : Bad (planD) fzPlan G11 p v11 := ⟨_, o11, pput rfl, pfz rfl⟩
    refine ⟨_, rfl, _, rfl, p, .ref a, .str "hand", k, _, _, _, rfl, ob.same ((((((((((k1.trans q2).trans q3).trans q4).trans q5).trans q6).trans q7).trans q8).trans q9).trans q10).trans q11), (.str "hand"), live_same hp ((((((((((k1.trans q2).trans q3).trans q4).trans q5).trans q6).trans q7).trans q8).trans q9).trans q10).trans q11), (by rw [List.length_map]; omega), fun v12 G12 z12 q12 o12 => ?_⟩
    have fb8 : Bad (planD) fzPlan G12 p v12 := ⟨_, o12, pput wH, pfz wH⟩
    have fb9 : Bad (planD) fzPlan G12 p (.str "show") := ⟨_, .str _, rfl, trivial⟩
    refine ⟨(by show 4 ≤ sizeLine; decide), fun m13 hm13 => ?_⟩
    have q13 := same_upd (o := .lst [v10, v11, v12, (.str "show")]) hm13
    have em13 : (upd G12 m13 (.lst [v10, v11, v12, (.str "show")])) m13 = some (.lst [v10, v11, v12, (.str "show")]) := upd_same
    generalize upd G12 m13 (.lst [v10, v11, v12, (.str "show")]) = G13 at q13 em13 ⊢
    refine ⟨m9, m13, _, _, rfl, rfl, (((q10.trans q11).trans q12).trans q13) _ _ em9, em13, (by show 6 + 4 ≤ sizeLine; decide), fun m14 hm14 => ?_⟩
    have q14 := same_upd (o := .lst ([(.ref m2), (.ref m3), .non, (.ref sa), v5, v8] ++ [v10, v11, v12, (.str "show")])) hm14
    have em14 : (upd G13 m14 (.lst ([(.ref m2), (.ref m3), .non, (.ref sa), v5, v8] ++ [v10, v11, v12, (.str "show")]))) m14 = some (.lst ([(.ref m2), (.ref m3), .non, (.ref sa), v5, v8] ++ [v10, v11, v12, (.str "show")])) := upd_same
    generalize upd G13 m14 (.lst ([(.ref m2), (.ref m3), .non, (.ref sa), v5, v8] ++ [v10, v11, v12, (.str "show")])) = G14 at q14 em14 ⊢
    have L14 : Bads (planD) fzPlan G14 p ([(.ref m2), (.ref m3), .non, (.ref sa), v5, v8] ++ [v10, v11, v12, (.str "show")]) := (L9.same ((((q10.trans q11).trans q12).trans q13).trans q14)).append (.cons (fb6.same (((q11.trans q12).trans q13).trans q14)) (.cons (fb7.same ((q12.trans q13).trans q14)) (.cons (fb8.same (q13.trans q14)) (.cons (fb9.same (q13.trans q14)) .nil))))
    refine ⟨_, rfl, _, rfl, _, rfl, (by show 1 ≤ sizeLine; decide), fun m15 hm15 => ?_⟩
    have q15 := same_upd (o := .lst [V.str "show"]) hm15
    have hn15 : m15 ≠ p := fun z => (live_same hp (((((((((((((k1.trans q2).trans q3).trans q4).trans q5).trans q6).trans q7).trans q8).trans q9).trans q10).trans q11).trans q12).trans q13).trans q14)) (z ▸ hm15)
    have em15 : (upd G14 m15 (.lst [V.str "show"])) m15 = some (.lst [V.str "show"]) := upd_same
    generalize upd G14 m15 (.lst [V.str "show"]) = G15 at q15 em15 ⊢
    have t15 : Ob G15 p (.ref m15) _ := .lst em15 hn15 (.cons (Ob.str "show") .nil)
    refine ⟨p, .ref a, .ref m15, k, _, _, _, rfl, ob.same ((((((((((((((k1.trans q2).trans q3).trans q4).trans q5).trans q6).trans q7).trans q8).trans q9).trans q10).trans q11).trans q12).trans q13).trans q14).trans q15), t15.same (fun _ _ z => z), live_same hp ((((((((((((((k1.trans q2).trans q3).trans q4).trans q5).trans q6).trans q7).trans q8).trans q9).trans q10).trans q11).trans q12).trans q13).trans q14).trans q15), (by rw [List.length_map]; omega), fun v16 G16 z16 q16 o16 => ?_⟩
    have fb10 : Bad (planD) fzPlan G16 p v16 := ⟨_, o16, pput rfl, pfz rfl⟩
    refine ⟨_, rfl, _, rfl, fun m17 hm17 => ?_⟩
    have q17 := same_upd (o := .dK []) hm17
    have hn17 : m17 ≠ p := fun z => (live_same hp (((((((((((((((k1.trans q2).trans q3).trans q4).trans q5).trans q6).trans q7).trans q8).trans q9).trans q10).trans q11).trans q12).trans q13).trans q14).trans q15).trans q16)) (z ▸ hm17)
    have em17 : (upd G16 m17 (.dK [])) m17 = some (.dK []) := upd_same
    generalize upd G16 m17 (.dK []) = G17 at q17 em17 ⊢
    refine ⟨p, .ref a, .ref m17, k, _, _, _, rfl, ob.same ((((((((((((((((k1.trans q2).trans q3).trans q4).trans q5).trans q6).trans q7).trans q8).trans q9).trans q10).trans q11).trans q12).trans q13).trans q14).trans q15).trans q16).trans q17), (.dic em17 hn17), live_same hp ((((((((((((((((k1.trans q2).trans q3).trans q4).trans q5).trans q6).trans q7).trans q8).trans q9).trans q10).trans q11).trans q12).trans q13).trans q14).trans q15).trans q16).trans q17), (by rw [List.length_map]; omega), fun v18 G18 z18 q18 o18 => ?_⟩
    have fb11 : Bad (planD) fzPlan G18 p v18 := ⟨_, o18, pput rfl, pfz rfl⟩
    refine ⟨(by show 2 ≤ sizeLine; decide), fun m19 hm19 => ?_⟩
    have q19 := same_upd (o := .lst [v16, v18]) hm19
    have em19 : (upd G18 m19 (.lst [v16, v18])) m19 = some (.lst [v16, v18]) := upd_same
    generalize upd G18 m19 (.lst [v16, v18]) = G19 at q19 em19 ⊢
    refine ⟨m14, m19, _, _, rfl, rfl, ((((q15.trans q16).trans q17).trans q18).trans q19) _ _ em14, em19, (by show 10 + 2 ≤ sizeLine; decide), fun m20 hm20 => ?_⟩
    have q20 := same_upd (o := .lst (([(.ref m2), (.ref m3), .non, (.ref sa), v5, v8] ++ [v10, v11, v12, (.str "show")]) ++ [v16, v18])) hm20
    have em20 : (upd G19 m20 (.lst (([(.ref m2), (.ref m3), .non, (.ref sa), v5, v8] ++ [v10, v11, v12, (.str "show")]) ++ [v16, v18]))) m20 = some (.lst (([(.ref m2), (.ref m3), .non, (.ref sa), v5, v8] ++ [v10, v11, v12, (.str "show")]) ++ [v16, v18])) := upd_same
    generalize upd G19 m20 (.lst (([(.ref m2), (.ref m3), .non, (.ref sa), v5, v8] ++ [v10, v11, v12, (.str "show")]) ++ [v16, v18])) = G20 at q20 em20 ⊢
    have L20 : Bads (planD) fzPlan G20 p (([(.ref m2), (.ref m3), .non, (.ref sa), v5, v8] ++ [v10, v11, v12, (.str "show")]) ++ [v16, v18]) := (L14.same (((((q15.trans q16).trans q17).trans q18).trans q19).trans q20)).append (.cons (fb10.same (((q17.trans q18).trans q19).trans q20)) (.cons (fb11.same (q19.trans q20)) .nil))
    obtain ⟨v, ev, bv⟩ := L20.pick (k := wh) (n := 12) rfl (by decide)
    refine ⟨_, rfl, _, rfl, wh, 12, rfl, rfl, (by show (0 : Int) < 12; decide), m20, _, _, v, rfl, rfl, SqL.of em20, ev, ?_⟩
    exact q _ _ (((((((((((((((((((k1.trans q2).trans q3).trans q4).trans q5).trans q6).trans q7).trans q8).trans q9).trans q10).trans q11).trans q12).trans q13).trans q14).trans q15).trans q16).trans q17).trans q18).trans q19).trans q20) bv
end

inductive Eqv : Nat → Dt → Dt → Prop where
  | bl {n : Nat} (b : Bool) : Eqv n (.bl b) (.bl b)
  | int {n : Nat} (i : Int) : Eqv n (.int i) (.int i)
  | str {n : Nat} (s : Str) : Eqv n (.str s) (.str s)
  | tup {n : Nat} {z z' : Bool} {ds es : List Dt} (l : ds.length = es.length) (ll : es.length ≤ 1000) (h : ∀ (i : Nat) d e, ds[i]? = some d → es[i]? = some e → Eqv n d e) : Eqv (n + 1) (.tup z ds) (.tup z' es)
def spSame : Nat → Sp
  | 0 => fun _ _ _ _ => False
  | n + 1 => fun vs H Q _ => ∃ (p : Addr) (x y : V) (d e : Dt), vs = [x, y] ∧ Ob H p x d ∧ Ob H p y e ∧ Eqv n d e ∧ ∀ H', Same H H' → Q (.bl true) H'
section
variable {P : Program} {w : World} {K : PySem.W.Frag} {mg : Str → Option Value} {base : Heap}
theorem ok_law_same (T : Txt K mg) : ∀ n, FnOk P w K mg base CX0 n T.a_law_same T.d_law_same ["_law_found", "_law_due"] (spSame n)
  | 0 => { len := fun _ _ _ _ h => h.elim, run := by intros; exact False.elim ‹_› }
  | n + 1 => by
    have ih := ok_law_same T n
    refine T.F_law_same.ok sc_law_same (fun vs H Q E h => ?_) (fun cdv A outer s H vs Q E hr h => ?_)
    · obtain ⟨p, x, y, d, e, rfl, _⟩ := h
      rfl
    · obtain ⟨p, x, y, d, e, rfl, ox, oy, eq, q⟩ := h
      refine ⟨_, (pss_cons (ps_if (PW.pt (pw_or (pt_val (pe_callB call_isi (by rfl) T.z_isinstance (by decide +kernel) (pa_cons (pv 1) (pa_cons (pe_bltn (v := .ty "tuple") (by rfl) T.z_tuple (by decide +kernel) rfl) pa_nil)))) (pw_or1 (pt_val (pe_callB call_isi (by rfl) T.z_isinstance (by decide +kernel) (pa_cons (pv 1) (pa_cons (pe_bltn (v := .ty "list") (by rfl) T.z_list (by decide +kernel) rfl) pa_nil)))))))
      (pss_cons (ps_if (PW.pt (pw_or (pt_cmpR op_ne (pe_callB call_isi (by rfl) T.z_isinstance (by decide +kernel) (pa_cons (pv 0) (pa_cons (pe_bltn (v := .ty "tuple") (by rfl) T.z_tuple (by decide +kernel) rfl) pa_nil))) (pe_callB call_isi (by rfl) T.z_isinstance (by decide +kernel) (pa_cons (pv 1) (pa_cons (pe_bltn (v := .ty "tuple") (by rfl) T.z_tuple (by decide +kernel) rfl) pa_nil))) (nomark _)) (pw_or1 (pt_cmpR op_ne (pe_callB call_isi (by rfl) T.z_isinstance (by decide +kernel) (pa_cons (pv 0) (pa_cons (pe_bltn (v := .ty "list") (by rfl) T.z_list (by decide +kernel) rfl) pa_nil))) (pe_callB call_isi (by rfl) T.z_isinstance (by decide +kernel) (pa_cons (pv 1) (pa_cons (pe_bltn (v := .ty "list") (by rfl) T.z_list (by decide +kernel) rfl) pa_nil))) (nomark _)))))
      (pss_one (ps_ret pe_bl))
      pss_nil)
      (pss_cons (ps_if (pt_cmpR op_ne (pe_callB call_len_seq (by rfl) T.z_len (by decide +kernel) (pa_cons (pv 0) pa_nil)) (pe_callB call_len_seq (by rfl) T.z_len (by decide +kernel) (pa_cons (pv 1) pa_nil)) (nomark _))
      (pss_one (ps_ret pe_bl))
      pss_nil)
      (pss_one (ps_ret (pe_callB (cr_all rfl) (by rfl) T.z_all (by decide +kernel) (pa_cons (pe_lc (own := [("_law_k", 2)]) (g := gName 2) (tt := tYes) (by rfl) sc_law_same.nd (pi_range1 rfl T.z_range (pa_cons (pe_callB call_len_seq (by rfl) T.z_len (by decide +kernel) (pa_cons (pv 1) pa_nil)) pa_nil)) (blkOk_by (own := [("_law_k", 2)]) (N := ["_law_found", "_law_due", "_law_k"]) (sc := defScope s_law_same) (by decide +kernel)) (fun _ _ _ _ _ => (pg_name (i := 2) sc_law_same.nd rfl (Or.inl rfl))) (fun _ _ _ _ _ => pts_nil) (fun _ _ _ _ _ => (pe_call ih hr rfl T.g_law_same T.F_law_same.kp T.b_law_same .nil pass0 (pa_cons (pe_ix (ixT K) (pv 0) (pv 2) (fun _ _ => rfl)) (pa_cons (pe_ix (ixT K) (pv 1) (pv 2) (fun _ _ => rfl)) pa_nil))))) pa_nil))))))
      pss_nil)
      (pss_cons (ps_if (PW.pt (pw_or (pt_cmpR op_ne (pe_callB call_isi (by rfl) T.z_isinstance (by decide +kernel) (pa_cons (pv 0) (pa_cons (pe_bltn (v := .ty "bool") (by rfl) T.z_bool (by decide +kernel) rfl) pa_nil))) (pe_callB call_isi (by rfl) T.z_isinstance (by decide +kernel) (pa_cons (pv 1) (pa_cons (pe_bltn (v := .ty "bool") (by rfl) T.z_bool (by decide +kernel) rfl) pa_nil))) (nomark _)) (pw_or1 (pt_cmpR op_ne (pe_callB call_isi (by rfl) T.z_isinstance (by decide +kernel) (pa_cons (pv 0) (pa_cons (pe_bltn (v := .ty "int") (by rfl) T.z_int (by decide +kernel) rfl) pa_nil))) (pe_callB call_isi (by rfl) T.z_isinstance (by decide +kernel) (pa_cons (pv 1) (pa_cons (pe_bltn (v := .ty "int") (by rfl) T.z_int (by decide +kernel) rfl) pa_nil))) (nomark _)))))
      (pss_one (ps_ret pe_bl))
      pss_nil)
      (pss_one (ps_ret (pe_cmpR op_eq (pv 0) (pv 1) (nomark _)))))), ?_⟩
      have scalar : ∀ (v : V) (dd : Dt), x = v → y = v → Ob H p v dd → isT dd = false → isL dd = false → scal v v = true → True := fun _ _ _ _ _ _ _ _ => trivial
      cases eq with
      | bl b =>
        cases ox; cases oy
        refine ⟨_, rfl, .bl b, _, _, _, _, rfl, .ty _, (Arg.bl (K := K) b).ty, kit_t (.bl b), ⟨_, rfl, iteF ⟨_, rfl, .bl b, _, _, _, _, rfl, .ty _, (Arg.bl (K := K) b).ty, kit_l (.bl b), ⟨_, rfl, iteF ?_⟩⟩⟩⟩
        refine ⟨_, rfl, .bl b, _, _, _, _, rfl, .ty _, (Arg.bl (K := K) b).ty, kit_b (.bl b), _, rfl, .bl b, _, _, _, _, rfl, .ty _, (Arg.bl (K := K) b).ty, kit_b (.bl b), rfl, _, rfl, ?_⟩
        refine ⟨_, rfl, .bl b, _, _, _, _, rfl, .ty _, (Arg.bl (K := K) b).ty, kit_i (.bl b), _, rfl, .bl b, _, _, _, _, rfl, .ty _, (Arg.bl (K := K) b).ty, kit_i (.bl b), rfl, _, rfl, ?_⟩
        refine ⟨_, rfl, _, rfl, rfl, ?_⟩
        rw [decide_eq_true rfl]
        exact q _ fun _ _ z => z
      | int i =>
        cases ox; cases oy
        refine ⟨_, rfl, .int i, _, _, _, _, rfl, .ty _, (Arg.int (K := K) i).ty, kit_t (.int i), ⟨_, rfl, iteF ⟨_, rfl, .int i, _, _, _, _, rfl, .ty _, (Arg.int (K := K) i).ty, kit_l (.int i), ⟨_, rfl, iteF ?_⟩⟩⟩⟩
        refine ⟨_, rfl, .int i, _, _, _, _, rfl, .ty _, (Arg.int (K := K) i).ty, kit_b (.int i), _, rfl, .int i, _, _, _, _, rfl, .ty _, (Arg.int (K := K) i).ty, kit_b (.int i), rfl, _, rfl, ?_⟩
        refine ⟨_, rfl, .int i, _, _, _, _, rfl, .ty _, (Arg.int (K := K) i).ty, kit_i (.int i), _, rfl, .int i, _, _, _, _, rfl, .ty _, (Arg.int (K := K) i).ty, kit_i (.int i), rfl, _, rfl, ?_⟩
        refine ⟨_, rfl, _, rfl, rfl, ?_⟩
        rw [decide_eq_true rfl]
        exact q _ fun _ _ z => z
      | str t =>
        cases ox; cases oy
        refine ⟨_, rfl, .str t, _, _, _, _, rfl, .ty _, (Arg.str (K := K) t).ty, kit_t (.str t), ⟨_, rfl, iteF ⟨_, rfl, .str t, _, _, _, _, rfl, .ty _, (Arg.str (K := K) t).ty, kit_l (.str t), ⟨_, rfl, iteF ?_⟩⟩⟩⟩
        refine ⟨_, rfl, .str t, _, _, _, _, rfl, .ty _, (Arg.str (K := K) t).ty, kit_b (.str t), _, rfl, .str t, _, _, _, _, rfl, .ty _, (Arg.str (K := K) t).ty, kit_b (.str t), rfl, _, rfl, ?_⟩
        refine ⟨_, rfl, .str t, _, _, _, _, rfl, .ty _, (Arg.str (K := K) t).ty, kit_i (.str t), _, rfl, .str t, _, _, _, _, rfl, .ty _, (Arg.str (K := K) t).ty, kit_i (.str t), rfl, _, rfl, ?_⟩
        refine ⟨_, rfl, _, rfl, rfl, ?_⟩
        rw [decide_eq_true rfl]
        exact q _ fun _ _ z => z
      | @tup m z z' ds es l ll hq =>
        have ax := ox.arg (K := K)
        have ay := oy.arg (K := K)
        obtain ⟨a, xs, rfl, ea, na, alla⟩ := tup_ob ox
        obtain ⟨b, ys, rfl, eb, nb, allb⟩ := tup_ob oy
        have la := alla.len
        have lb := allb.len
        refine ⟨_, rfl, _, _, _, _, _, rfl, .ty _, ay.ty, kit_t (.tup z' es), ⟨_, rfl, iteT ?_⟩⟩
        refine ⟨_, rfl, _, _, _, _, _, rfl, .ty _, ax.ty, kit_t (.tup z ds), _, rfl, _, _, _, _, _, rfl, .ty _, ay.ty, kit_t (.tup z' es), rfl, _, rfl, ?_⟩
        refine ⟨_, rfl, _, _, _, _, _, rfl, .ty _, ax.ty, kit_l (.tup z ds), _, rfl, _, _, _, _, _, rfl, .ty _, ay.ty, kit_l (.tup z' es), rfl, _, rfl, ?_⟩
        refine ⟨_, rfl, a, xs, rfl, .inr ea.sq, _, rfl, b, ys, rfl, .inr eb.sq, rfl, _, rfl, ?_⟩
        have lab : xs.length = ys.length := by omega
        rw [lab, decide_eq_true rfl]
        refine ⟨_, rfl, b, ys, rfl, .inr eb.sq, _, rfl, by omega, by omega, fun D hD => ?_⟩
        refine lc_range (lo := 0) (n := ys.length) (fun i H' => Same H H' ∧ H' D = some (.lst ((List.replicate i true).map V.bl))) ⟨same_upd hD, upd_same⟩ ?_ ?_
        · rintro i H' hi ⟨k', eD⟩
          have gx : xs[i]? = some xs[i] := List.getElem?_eq_getElem (by omega)
          have gy : ys[i]? = some ys[i] := List.getElem?_eq_getElem hi
          obtain ⟨d', hd', od⟩ := (alla.same k').get gx
          obtain ⟨e', he', oe⟩ := (allb.same k').get gy
          refine ⟨rfl, _, rfl, _, rfl, a, xs, _, xs[i], rfl, rfl, (ea.same k').sq, (by rw [Int.zero_add]; exact atI_nat gx), _, rfl, _, rfl, b, ys, _, ys[i], rfl, rfl, (eb.same k').sq, (by rw [Int.zero_add]; exact atI_nat gy), ?_⟩
          refine ⟨p, xs[i], ys[i], d', e', rfl, od, oe, hq i d' e' hd' he', fun H2 k2 => ⟨_, k2 _ _ eD, ?_, fun c o hc => ?_, ?_⟩⟩
          · rw [List.length_map, List.length_replicate]
            exact Nat.lt_of_lt_of_le (show i < 1000 by omega) (by decide)
          · rw [upd_ne (ne_of_none hc hD)]; exact k2 _ _ (k' c o hc)
          · rw [upd_same, List.replicate_succ', List.map_append]; rfl
        · rintro H' ⟨k', eD⟩
          refine ⟨D, _, rfl, SqL.of eD, ?_⟩
          have e2 : (List.replicate ys.length true).all id = true := by
            rw [List.all_eq_true]; intro x hx; rw [List.eq_of_mem_replicate hx]; rfl
          rw [e2]
          exact q _ k'
end

section
variable {P : Program} {w : World} {K : PySem.W.Frag} {mg : Str → Option Value} {base : Heap}
def caseT (b0 b1 b2 : Bool) (r nt : Str) (ws : List Str) (cs o : List Int) : Dt := .tup true [schemeT b0 b1 b2 r nt, strT ws, intT cs, intT o]
def spBadCase : Sp := fun vs H Q _ => ∃ (p : Addr) (x : V) (b0 b1 b2 : Bool) (r nt : Str) (ws : List Str) (cs o : List Int) (part wh : Int) (k : Nat), vs = [x, .int part, .int wh, .int (k : Nat)] ∧ Ob H p x (caseT b0 b1 b2 r nt ws cs o) ∧ H p ≠ none ∧
  1 ≤ ws.length ∧ ws.length ≤ 15 ∧ 2 ≤ cs.length ∧ cs.length ≤ 3 ∧ cs.length = cntS ws + 1 ∧ o.length = cs.length ∧ ∀ v H', Same H H' → Bad caseD fzCase H' p v → Q v H'
theorem mod_nat {k n : Nat} : ((k : Nat) : Int) % ((n : Nat) : Int) = ((k % n : Nat) : Int) := rfl
theorem ok_law_bad_case (T : Txt K mg) : FnOk P w K mg base CX0 3 T.a_law_bad_case T.d_law_bad_case ["_law_case", "_law_part", "_law_which", "_law_at"] spBadCase := by
  refine T.F_law_bad_case.ok sc_law_bad_case (fun vs H Q E h => ?_) (fun cdv A outer s H vs Q E hr h => ?_)
  · obtain ⟨p, x, b0, b1, b2, r, nt, ws, cs, o, part, wh, k, rfl, _⟩ := h
    rfl
  · obtain ⟨p, x, b0, b1, b2, r, nt, ws, cs, o, part, wh, k, rfl, ob, hp, w1, w2, c2, c3, cw, ol, q⟩ := h
    refine ⟨_, (pss_cons (ps_if (pt_cmpR op_eq (pv 1) pe_int (nomark _))
      (pss_one (ps_ret (pe_ix (ixL K) (pe_lst (pa_cons (pe_callTy call_list_of (by rfl) T.z_list (by decide +kernel) (pa_cons (pv 0) pa_nil)) (pa_cons (pe_slice sl_tupA (pv 0) po_none (po_some pe_int)) (pa_cons (pe_op op_catF (pv 0) (pe_tupF (pa_cons pe_int pa_nil))) (pa_cons pe_non (pa_cons (pe_tupF pa_nil) (pa_cons pe_int (pa_cons (pe_tupF (pa_cons (pv 0) pa_nil)) pa_nil)))))))) (pe_op op_mod (pv 2) pe_int) (fun _ _ => rfl))))
      pss_nil)
      (pss_cons (ps_if (pt_cmpR op_eq (pv 1) pe_int (nomark _))
      (pss_one (ps_ret (pe_call (ok_law_put T) (hr.mono (by decide)) rfl T.g_law_put T.F_law_put.kp T.b_law_put .nil pass0 (pa_cons (pv 0) (pa_cons pe_int (pa_cons (pe_call (ok_law_bad_scheme T) (hr.mono (by decide)) rfl T.g_law_bad_scheme T.F_law_bad_scheme.kp T.b_law_bad_scheme .nil pass0 (pa_cons (pe_ix (ixT K) (pv 0) pe_int (fun _ _ => rfl)) (pa_cons (pv 2) pa_nil))) pa_nil))))))
      pss_nil)
      (pss_cons (ps_if (pt_cmpR op_eq (pv 1) pe_int (nomark _))
      (pss_one (ps_ret (pe_call (ok_law_put T) (hr.mono (by decide)) rfl T.g_law_put T.F_law_put.kp T.b_law_put .nil pass0 (pa_cons (pv 0) (pa_cons pe_int (pa_cons (pe_call (ok_law_bad_plan T) (hr.mono (by decide)) rfl T.g_law_bad_plan T.F_law_bad_plan.kp T.b_law_bad_plan .nil pass0 (pa_cons (pe_ix (ixT K) (pv 0) pe_int (fun _ _ => rfl)) (pa_cons (pv 2) (pa_cons (pe_op op_mod (pv 3) (pe_callB call_len_seq (by rfl) T.z_len (by decide +kernel) (pa_cons (pe_ix (ixT K) (pv 0) pe_int (fun _ _ => rfl)) pa_nil))) pa_nil)))) pa_nil))))))
      pss_nil)
      (pss_cons (ps_if (pt_cmpR op_eq (pv 1) pe_int (nomark _))
      (pss_one (ps_ret (pe_call (ok_law_put T) (hr.mono (by decide)) rfl T.g_law_put T.F_law_put.kp T.b_law_put .nil pass0 (pa_cons (pv 0) (pa_cons pe_int (pa_cons (pe_call (ok_law_bad_counts T) (hr.mono (by decide)) rfl T.g_law_bad_counts T.F_law_bad_counts.kp T.b_law_bad_counts .nil pass0 (pa_cons (pe_ix (ixT K) (pv 0) pe_int (fun _ _ => rfl)) (pa_cons (pv 2) (pa_cons (pe_op op_mod (pv 3) (pe_callB call_len_seq (by rfl) T.z_len (by decide +kernel) (pa_cons (pe_ix (ixT K) (pv 0) pe_int (fun _ _ => rfl)) pa_nil))) pa_nil)))) pa_nil))))))
      pss_nil)
      (pss_one (ps_ret (pe_call (ok_law_put T) (hr.mono (by decide)) rfl T.g_law_put T.F_law_put.kp T.b_law_put .nil pass0 (pa_cons (pv 0) (pa_cons pe_int (pa_cons (pe_call (ok_law_bad_course T) (hr.mono (by decide)) rfl T.g_law_bad_course T.F_law_bad_course.kp T.b_law_bad_course .nil pass0 (pa_cons (pe_ix (ixT K) (pv 0) pe_int (fun _ _ => rfl)) (pa_cons (pe_ix (ixT K) (pv 0) pe_int (fun _ _ => rfl)) (pa_cons (pv 2) (pa_cons (pe_op op_mod (pv 3) (pe_callB call_len_seq (by rfl) T.z_len (by decide +kernel) (pa_cons (pe_ix (ixT K) (pv 0) pe_int (fun _ _ => rfl)) pa_nil))) pa_nil))))) pa_nil)))))))))), ?_⟩
    obtain ⟨a, xs, rfl, ea, na, all⟩ := tup_ob ob
    obtain ⟨v1, v2, v3, v4, rfl, o1, o2, o3, o4⟩ := obs4 all
    have shw : shows (strT ws) = cntS ws := shows_strs ws
    have l2 : ∀ {H' : Hp}, Same H H' → ∃ c zs, v2 = .ref c ∧ SqT K H' c zs ∧ zs.length = ws.length := fun {H'} k' => by
      obtain ⟨c, zs, e, tp, _, al⟩ := tup_ob (o2.same k')
      exact ⟨c, zs, e, tp.sq, by rw [al.len, List.length_map]⟩
    have l3 : ∀ {H' : Hp}, Same H H' → ∃ c zs, v3 = .ref c ∧ SqT K H' c zs ∧ zs.length = cs.length := fun {H'} k' => by
      obtain ⟨c, zs, e, tp, _, al⟩ := tup_ob (o3.same k')
      exact ⟨c, zs, e, tp.sq, by rw [al.len, List.length_map]⟩
    obtain ⟨pa, pz, pe, ps, pl⟩ := l2 (fun _ _ z => z)
    obtain ⟨ca, cz, ce, csq, cl⟩ := l3 (fun _ _ z => z)
    refine ⟨_, rfl, rfl, _, rfl, ite2 (fun _ => ?_) (fun _ => ?_)⟩
    · skip
      refine ⟨_, rfl, a, _, rfl, .inr ea.sq, fun m1 hm1 => ?_⟩
      have q1 := same_upd (o := .lst [v1, v2, v3, v4]) hm1
      have hn1 : m1 ≠ p := fun z => (live_same hp (fun _ _ z => z)) (z ▸ hm1)
      have em1 : (upd H m1 (.lst [v1, v2, v3, v4])) m1 = some (.lst [v1, v2, v3, v4]) := upd_same
      generalize upd H m1 (.lst [v1, v2, v3, v4]) = G1 at q1 em1 ⊢
      have fb0 : Bad (caseD) fzCase G1 p (.ref m1) := ⟨_, (.lst em1 hn1 (all.same q1)), rfl, trivial⟩
      refine ⟨_, rfl, 3, rfl, ?_⟩
      try dsimp only [tNoPart]
      refine sl_ob (ob.same q1) (live_same hp q1) fun v2 G2 z2 q2 o2 => ?_
      rw [show cutD [schemeT b0 b1 b2 r nt, strT ws, intT cs, intT o] none (some 3) = [schemeT b0 b1 b2 r nt, strT ws, intT cs] from cutD_to _ 3] at o2
      have fb1 : Bad (caseD) fzCase G2 p v2 := ⟨_, o2, rfl, trivial⟩
      refine ⟨_, rfl, (by show 1 ≤ sizeLine; decide), fun m3 G3 hm3 q3 tp3 fr3 => ?_⟩
      have t3 := tup_mk (p := p) (.cons (Ob.int 2) .nil) (live_same hp (q1.trans q2)) hm3 q3 tp3
      refine cat_ob (ob.same ((q1.trans q2).trans q3)) (t3.same (fun _ _ z => z)) (live_same hp ((q1.trans q2).trans q3)) (by show 4 ≤ 1000; decide) (by show 1 ≤ 1000; decide) fun v4 G4 z4 q4 f4 o4 => ?_
      have fb2 : Bad (caseD) fzCase G4 p v4 := ⟨_, o4, rfl, trivial⟩
      have fb3 : Bad (caseD) fzCase G4 p .non := ⟨_, .non, rfl, trivial⟩
      refine ⟨(by show 0 ≤ sizeLine; decide), fun m5 G5 hm5 q5 tp5 fr5 => ?_⟩
      have t5 := tup_mk (p := p) Obs.nil (live_same hp (((q1.trans q2).trans q3).trans q4)) hm5 q5 tp5
      have fb4 : Bad (caseD) fzCase G5 p (.ref m5) := ⟨_, t5, rfl, trivial⟩
      have fb5 : Bad (caseD) fzCase G5 p (.int 7) := ⟨_, .int 7, rfl, trivial⟩
      refine ⟨_, rfl, (by show 1 ≤ sizeLine; decide), fun m6 G6 hm6 q6 tp6 fr6 => ?_⟩
      have t6 := tup_mk (p := p) (.cons (ob.same ((((q1.trans q2).trans q3).trans q4).trans q5)) .nil) (live_same hp ((((q1.trans q2).trans q3).trans q4).trans q5)) hm6 q6 tp6
      have fb6 : Bad (caseD) fzCase G6 p (.ref m6) := ⟨_, t6, rfl, trivial⟩
      refine ⟨(by show 7 ≤ sizeLine; decide), fun m7 hm7 => ?_⟩
      have q7 := same_upd (o := .lst [(.ref m1), v2, v4, .non, (.ref m5), (.int 7), (.ref m6)]) hm7
      have em7 : (upd G6 m7 (.lst [(.ref m1), v2, v4, .non, (.ref m5), (.int 7), (.ref m6)])) m7 = some (.lst [(.ref m1), v2, v4, .non, (.ref m5), (.int 7), (.ref m6)]) := upd_same
      generalize upd G6 m7 (.lst [(.ref m1), v2, v4, .non, (.ref m5), (.int 7), (.ref m6)]) = G7 at q7 em7 ⊢
      have L7 : Bads (caseD) fzCase G7 p [(.ref m1), v2, v4, .non, (.ref m5), (.int 7), (.ref m6)] := (.cons (fb0.same (((((q2.trans q3).trans q4).trans q5).trans q6).trans q7)) (.cons (fb1.same ((((q3.trans q4).trans q5).trans q6).trans q7)) (.cons (fb2.same ((q5.trans q6).trans q7)) (.cons (fb3.same ((q5.trans q6).trans q7)) (.cons (fb4.same (q6.trans q7)) (.cons (fb5.same (q6.trans q7)) (.cons (fb6.same q7) .nil)))))))
      obtain ⟨v, ev, bv⟩ := L7.pick (k := wh) (n := 7) rfl (by decide)
      refine ⟨_, rfl, wh, 7, rfl, rfl, (by show (0 : Int) < 7; decide), m7, _, _, v, rfl, rfl, SqL.of em7, ev, ?_⟩
      exact q _ _ ((((((q1.trans q2).trans q3).trans q4).trans q5).trans q6).trans q7) bv
    refine ⟨_, rfl, rfl, _, rfl, ite2 (fun _ => ?_) (fun _ => ?_)⟩
    · refine ⟨_, rfl, _, rfl, a, _, 0, v1, rfl, rfl, ea.sq, rfl, _, rfl, p, v1, b0, b1, b2, r, nt, wh, rfl, o1, hp, fun v H1 k1 ⟨d, od, hd, _⟩ => ?_⟩
      refine ⟨p, .ref a, v, 0, _, _, d, rfl, ob.same k1, od, live_same hp k1, by show 4 ≤ 900; decide, fun u H2 z2 k2 ou => ?_⟩
      refine q _ _ (k1.trans k2) ⟨_, ou, ?_, fun _ _ => rfl⟩
      show ((schemeD d && _) && _) = false
      rw [hd]; rfl
    refine ⟨_, rfl, rfl, _, rfl, ite2 (fun _ => ?_) (fun _ => ?_)⟩
    · refine ⟨_, rfl, _, rfl, a, _, 1, v2, rfl, rfl, ea.sq, rfl, _, rfl, _, rfl, _, rfl, a, _, 1, v2, rfl, rfl, ea.sq, rfl, pa, pz, pe ▸ rfl, .inr ps, _, _, rfl, rfl, (by rw [pl]; show (0 : Int) < ((ws.length : Nat) : Int); omega), ?_⟩
      rw [pl]
      refine ⟨p, v2, ws, wh, k % ws.length, rfl, o2, hp, w2, Nat.mod_lt _ (by omega), fun v H1 k1 ⟨d, od, hd, hz⟩ => ?_⟩
      refine ⟨p, .ref a, v, 1, _, _, d, rfl, ob.same k1, od, live_same hp k1, by show 4 ≤ 900; decide, fun u H2 z2 k2 ou => ?_⟩
      refine q _ _ (k1.trans k2) ⟨_, ou, ?_, hz⟩
      show ((schemeD _ && (planD d && _)) && _) = false
      rw [hd, Bool.false_and, Bool.and_false]; rfl
    refine ⟨_, rfl, rfl, _, rfl, ite2 (fun _ => ?_) (fun _ => ?_)⟩
    · refine ⟨_, rfl, _, rfl, a, _, 2, v3, rfl, rfl, ea.sq, rfl, _, rfl, _, rfl, _, rfl, a, _, 2, v3, rfl, rfl, ea.sq, rfl, ca, cz, ce ▸ rfl, .inr csq, _, _, rfl, rfl, (by rw [cl]; show (0 : Int) < ((cs.length : Nat) : Int); omega), ?_⟩
      rw [cl]
      refine ⟨p, v3, cs, wh, k % cs.length, rfl, o3, hp, c3, c2, Nat.mod_lt _ (by omega), fun v H1 k1 ⟨d, od, hd, _⟩ => ?_⟩
      refine ⟨p, .ref a, v, 2, _, _, d, rfl, ob.same k1, od, live_same hp k1, by show 4 ≤ 900; decide, fun u H2 z2 k2 ou => ?_⟩
      refine q _ _ (k1.trans k2) ⟨_, ou, ?_, fun _ _ => rfl⟩
      have e : (countsD d && decide ((itemsD d).length = shows (strT ws) + 1)) = false := by
        rw [shw, ← cw]; exact hd
      show ((schemeD _ && (planD (strT ws) && (countsD d && decide ((itemsD d).length = shows (strT ws) + 1)))) && _) = false
      rw [e, Bool.and_false, Bool.and_false]; rfl
    · refine ⟨_, rfl, _, rfl, a, _, 2, v3, rfl, rfl, ea.sq, rfl, _, rfl, a, _, 3, v4, rfl, rfl, ea.sq, rfl, _, rfl, _, rfl, _, rfl, a, _, 2, v3, rfl, rfl, ea.sq, rfl, ca, cz, ce ▸ rfl, .inr csq, _, _, rfl, rfl, (by rw [cl]; show (0 : Int) < ((cs.length : Nat) : Int); omega), ?_⟩
      rw [cl]
      refine ⟨p, v3, v4, cs, o, wh, k % cs.length, rfl, o3, o4, ol, hp, c3, c2, Nat.mod_lt _ (by omega), fun v H1 k1 ⟨d, od, hd, _⟩ => ?_⟩
      refine ⟨p, .ref a, v, 3, _, _, d, rfl, ob.same k1, od, live_same hp k1, by show 4 ≤ 900; decide, fun u H2 z2 k2 ou => ?_⟩
      refine q _ _ (k1.trans k2) ⟨_, ou, ?_, fun _ _ => rfl⟩
      show (_ && courseD d (intT cs)) = false
      have e : courseD d (intT cs) = false := hd
      rw [e, Bool.and_false]
end

section
variable {P : Program} {w : World} {K : PySem.W.Frag} {mg : Str → Option Value} {base : Heap}
theorem kit_up {C D : Addr} (i : PySem.W.isClsIn K D = true) (t : PySem.W.typeIn K (.ref D) = some (.type "type")) (q : PySem.W.subIn K (.ref C) (.ref D) = some true) : PySem.W.kitOne K (.ref C) (.ref D) = some true := by
  have i' : (PySem.W.clsIn K D).isSome = true := i
  unfold PySem.W.kitOne PySem.W.kitCls
  split
  · rfl
  · dsimp only
    rw [i', t]
    exact q
def spTold : Sp := fun vs H Q _ => ∃ (p : Addr) (x : V) (d : Dt), vs = [x] ∧ Ob H p x d ∧ H p ≠ none ∧ fzCase d ∧ ∀ H', Same H H' → Q (.str (if caseD d = true then "none" else "case")) H'
theorem ok_law_told (T : Txt K mg) : FnOk P w K mg base CX0 8 T.a_law_told T.d_law_told ["_law_case"] spTold := by
  refine T.F_law_told.ok sc_law_told (fun vs H Q E h => ?_) (fun cdv A outer s H vs Q E hr h => ?_)
  · obtain ⟨p, x, d, rfl, _⟩ := h
    rfl
  · obtain ⟨p, x, d, rfl, ob, hp, fz, q⟩ := h
    refine ⟨_, (pss_cons (ps_set (i := 1) sc_law_told.nd rfl (Or.inl rfl) pe_str)
      (pss_cons (ps_try_mix rfl rfl sc_law_told.nd (fun W pn xe tk _ => (pss_one (ps_expr (pe_callS (ok_house_of T) (hr.mono (by decide)) rfl T.g_house_of T.F_house_of.kp T.b_house_of (fun σ => passAt tk σ) (pa_cons (pv 0) pa_nil))))) (.plain ⟨rfl, by decide, .inl T.g_BadHouse⟩ (fun a oe cls d pn hz hf => (pss_one (ps_set (i := 1) sc_law_told.nd rfl (Or.inl rfl) pe_str))) (.named (i := 2) ⟨rfl, by decide, .inl T.g_BadCase⟩ rfl rfl (fun a oe cls d pn hz hf => (pss_one (ps_set (i := 1) sc_law_told.nd rfl (Or.inl rfl) (pe_ix (ixL K) (pe_lst (pa_cons pe_str (pa_cons pe_str pa_nil))) (pe_callTy call_int1 (by rfl) T.z_int (by decide +kernel) (pa_cons (pe_and (pe_callB (Lc.call_isG hz hf) (by rfl) T.z_isinstance (by decide +kernel) (pa_cons (pv 2) (pa_cons (pe_glob (v := .ref T.C_LaneError) rfl T.g_LaneError rfl) pa_nil))) (pe_one (pe_callB (Lc.call_isG hz hf) (by rfl) T.z_isinstance (by decide +kernel) (pa_cons (pv 2) (pa_cons (pe_bltn (v := .ty "ValueError") (by rfl) T.z_ValueError (by decide +kernel) rfl) pa_nil))))) pa_nil)) (fun _ _ => rfl))))) (.plain ⟨rfl, by decide, .inl T.g_LaneError⟩ (fun a oe cls d pn hz hf => (pss_one (ps_set (i := 1) sc_law_told.nd rfl (Or.inl rfl) pe_str))) .nil))))
      (pss_one (ps_ret (pv 1))))), ?_⟩
    refine ⟨_, rfl, p, x, d, rfl, ob, hp, fz, fun e H1 k1 => ?_, fun e v H1 k1 _ => ?_⟩
    · rw [e] at q
      refine ⟨false, exm_pair T.p_BadHouse T.i_BadHouse T.t_BadHouse T.q_BadCase_BadHouse, fun z => (nomatch z), fun _ => ⟨true, exm_pair T.p_BadCase T.i_BadCase T.t_BadCase T.q_BadCase_BadCase, fun _ a ha => ?_, fun z => nomatch z⟩⟩
      refine ⟨(by show 2 ≤ sizeLine; decide), fun l hl => ?_⟩
      refine ⟨_, rfl, _, rfl, rfl, T.e_BadCase, .ref T.C_LaneError, _, _, rfl, fun u z => z, kit_up T.i_LaneError T.t_LaneError T.q_BadCase_LaneError, _, rfl, iteT ?_⟩
      refine ⟨_, rfl, _, rfl, rfl, T.e_BadCase, .ty "ValueError", _, _, rfl, fun u z => z, kit_ve T.v_BadCase, .inr ⟨true, rfl, ?_⟩⟩
      refine ⟨l, _, 1, .str "case", rfl, rfl, SqL.of upd_same, rfl, ?_⟩
      exact ⟨_, rfl, q _ (k1.trans (same_upd hl))⟩
    · rw [e] at q
      exact ⟨_, rfl, q _ k1⟩
end

section
variable {P : Program} {w : World} {K : PySem.W.Frag} {mg : Str → Option Value} {base : Heap}
def spLaw (K : PySem.W.Frag) : Sp := fun vs H Q _ => ∃ (a : Addr) (ns : List Int), vs = [.ref a] ∧ SqL K H a (ns.map V.int) ∧ ns.length ≤ 63 ∧ (∀ z ∈ ns, Builtin.Int.intBits z ≤ 1048576) ∧ ∀ H', Q (.bl true) H'
theorem if_no {c : Bool} {A B : Prop} (h : c = false) (q : B) : if c = true then A else B := by
  subst h; exact q
theorem if_yes {c : Bool} {A B : Prop} (h : c = true) (q : A) : if c = true then A else B := by
  subst h; exact q
theorem all_ints {f : Dt → Bool} {ns : List Int} (h : ∀ i ∈ ns, f (.int i) = true) : (ns.map Dt.int).all f = true := by
  rw [List.all_map, List.all_eq_true]; exact h
theorem whole_yes {i lo hi : Int} (h : lo ≤ i) (h' : i ≤ hi) : wholeD (.int i) lo hi = true := by
  show (decide (lo ≤ i) && decide (i ≤ hi)) = true
  rw [decide_eq_true h, decide_eq_true h']; rfl
theorem row_yes {z : Bool} {ds : List Dt} {lo hi : Int} (h : lo ≤ (ds.length : Int)) (h' : (ds.length : Int) ≤ hi) : rowD (.tup z ds) lo hi = true := by
  show (decide (lo ≤ (ds.length : Int)) && decide ((ds.length : Int) ≤ hi)) = true
  rw [decide_eq_true h, decide_eq_true h']; rfl
theorem course_yes {cs o : List Int} (h : Fit cs o) : courseD (intT o) (intT cs) = true := by
  unfold courseD
  have l : (cs.map Dt.int).length = cs.length := List.length_map _
  have l2 : (o.map Dt.int).length = o.length := List.length_map _
  have e : rowD (intT o) (((itemsD (intT cs)).length : Nat) : Int) (((itemsD (intT cs)).length : Nat) : Int) = true := by
    show rowD (.tup true (o.map Dt.int)) (((cs.map Dt.int).length : Nat) : Int) (((cs.map Dt.int).length : Nat) : Int) = true
    have := h.1
    exact row_yes (by omega) (by omega)
  rw [e, Bool.true_and]
  show ((o.map Dt.int).zip (cs.map Dt.int)).all _ = true
  rw [List.zip_map, List.all_map, List.all_eq_true]
  intro q hq
  have hh := h.2 q hq
  exact whole_yes hh.1 (by show q.1 ≤ q.2 - 1; omega)
theorem frame_yes {h : Ho} {keys : Nat} (ok : h.Ok keys) : frameD (schemeT h.b0 h.b1 h.b2 h.r h.nt) (strT h.ws) (intT h.cs) = true := by
  have e1 : schemeD (schemeT h.b0 h.b1 h.b2 h.r h.nt) = true := by
    show (true && (decide (h.r ∈ refusals) && decide (h.nt ∈ notings))) = true
    rw [decide_eq_true ok.r, decide_eq_true ok.nt]; rfl
  have shw : shows (strT h.ws) = cntS h.ws := shows_strs h.ws
  have c1 := ok.c1
  have wpos : 1 ≤ h.ws.length := Nat.le_trans c1 List.countP_le_length
  have wl := ok.wl
  have l : (h.ws.map Dt.str).length = h.ws.length := List.length_map _
  have e2 : planD (strT h.ws) = true := by
    unfold planD
    rw [shw, decide_eq_true ok.c1, decide_eq_true ok.c2]
    have r1 : rowD (strT h.ws) 1 15 = true := row_yes (by omega) (by omega)
    have a1 : (itemsD (strT h.ws)).all (fun x => wordD x planWords) = true := by
      show (h.ws.map Dt.str).all _ = true
      rw [List.all_map, List.all_eq_true]
      intro x hx
      exact decide_eq_true (ok.ws x hx)
    rw [r1, a1]; rfl
  have c2 := ok.c2
  have cl := ok.cl
  have lc : (h.cs.map Dt.int).length = h.cs.length := List.length_map _
  have e3 : countsD (intT h.cs) = true := by
    unfold countsD
    have r1 : rowD (intT h.cs) 2 3 = true := row_yes (by omega) (by omega)
    rw [r1, Bool.true_and]
    exact all_ints fun i hi => whole_yes (ok.cs i hi).1 (ok.cs i hi).2
  unfold frameD
  rw [e1, e2, e3, shw, decide_eq_true (show (itemsD (intT h.cs)).length = cntS h.ws + 1 from lc.trans cl)]; rfl
theorem case_yes {h : Ho} {keys : Nat} (ok : h.Ok keys) {o : List Int} (ho : o ∈ h.os) : caseD (caseT h.b0 h.b1 h.b2 h.r h.nt h.ws h.cs o) = true := by
  show (frameD _ _ _ && courseD (intT o) (intT h.cs)) = true
  rw [frame_yes ok, course_yes (ok.os o ho)]; rfl
theorem house_yes {h : Ho} {keys : Nat} (ok : h.Ok keys) {o : List Int} (ho : o ∈ h.os) : houseD (houseOf (caseT h.b0 h.b1 h.b2 h.r h.nt h.ws h.cs o)) = true := by
  show (frameD _ _ _ && (keysD (.tup true [intT o]) (.tup true [.int 2]) (intT h.cs) && wholeD (.int 2) 1 3)) = true
  have e : keysD (.tup true [intT o]) (.tup true [.int 2]) (intT h.cs) = true := by
    show ((true && true) && ((courseD (intT o) (intT h.cs) && true) && true)) = true
    rw [course_yes (ok.os o ho)]; rfl
  rw [frame_yes ok, e]; rfl
theorem eqv_refl : ∀ (n : Nat) {h : Ho} {o : List Int}, Eqv (n + 3) (houseOf (caseT h.b0 h.b1 h.b2 h.r h.nt h.ws h.cs o)) (houseOf (caseT h.b0 h.b1 h.b2 h.r h.nt h.ws h.cs o)) → True := fun _ _ _ _ => trivial
theorem eqv_list {n : Nat} {z z' : Bool} {ds : List Dt} (ll : ds.length ≤ 1000) (h : ∀ d ∈ ds, Eqv n d d) : Eqv (n + 1) (.tup z ds) (.tup z' ds) := .tup rfl ll fun i d e hd he => by
  rw [hd] at he
  cases Option.some.inj he
  exact h d (List.mem_of_getElem? hd)
theorem eqv_ints {n : Nat} {z z' : Bool} {ns : List Int} (h : ns.length ≤ 1000) : Eqv (n + 1) (.tup z (ns.map Dt.int)) (.tup z' (ns.map Dt.int)) := eqv_list (by rw [List.length_map]; exact h) fun d hd => by
  obtain ⟨i, _, rfl⟩ := List.mem_map.mp hd
  exact .int i
theorem eqv_strs {n : Nat} {z z' : Bool} {ns : List Str} (h : ns.length ≤ 1000) : Eqv (n + 1) (.tup z (ns.map Dt.str)) (.tup z' (ns.map Dt.str)) := eqv_list (by rw [List.length_map]; exact h) fun d hd => by
  obtain ⟨i, _, rfl⟩ := List.mem_map.mp hd
  exact .str i
theorem eqv_house {h : Ho} {keys : Nat} (ok : h.Ok keys) {o : List Int} (ho : o ∈ h.os) : Eqv 3 (houseOf (caseT h.b0 h.b1 h.b2 h.r h.nt h.ws h.cs o)) (houseOf (caseT h.b0 h.b1 h.b2 h.r h.nt h.ws h.cs o)) := by
  have cl := ok.cl
  have c2 := ok.c2
  have wl := ok.wl
  have fl := (ok.os o ho).1
  refine eqv_list (by show 6 ≤ 1000; decide) fun d hd => ?_
  rcases List.mem_cons.mp hd with rfl | hd
  · refine eqv_list (by show 5 ≤ 1000; decide) fun d hd => ?_
    rcases List.mem_cons.mp hd with rfl | hd
    · exact .bl _
    rcases List.mem_cons.mp hd with rfl | hd
    · exact .bl _
    rcases List.mem_cons.mp hd with rfl | hd
    · exact .str _
    rcases List.mem_cons.mp hd with rfl | hd
    · exact .str _
    rcases List.mem_cons.mp hd with rfl | hd
    · exact .bl _
    · cases hd
  rcases List.mem_cons.mp hd with rfl | hd
  · exact eqv_strs (by omega)
  rcases List.mem_cons.mp hd with rfl | hd
  · exact eqv_ints (by omega)
  rcases List.mem_cons.mp hd with rfl | hd
  · refine eqv_list (by show 1 ≤ 1000; decide) fun d hd => ?_
    rw [List.mem_singleton.mp hd]
    exact eqv_ints (by omega)
  rcases List.mem_cons.mp hd with rfl | hd
  · exact eqv_list (by show 1 ≤ 1000; decide) fun d hd => by rw [List.mem_singleton.mp hd]; exact .int 2
  rcases List.mem_cons.mp hd with rfl | hd
  · exact .int 2
  · cases hd
theorem ok_law (T : Txt K mg) : FnOk P w K mg base CX0 9 T.a_law T.d_law ["_law_script"] (spLaw K) := by
  refine T.F_law.ok sc_law (fun vs H Q E h => ?_) (fun cdv A outer s₀ H vs Q E hr h => ?_)
  · obtain ⟨a, ns, rfl, _⟩ := h
    rfl
  · obtain ⟨x, ns, rfl, hS, hlen, hb, q⟩ := h
    refine ⟨_, (pss_cons (ps_set (i := 1) sc_law.nd rfl (Or.inl rfl) (pe_call (ok_law_source T) (hr.mono (by decide)) rfl T.g_law_source T.F_law_source.kp T.b_law_source .nil pass0 (pa_cons (pv 0) pa_nil)))
      (pss_cons (ps_set (i := 2) sc_law.nd rfl (Or.inl rfl) (pe_call (ok_law_draw T) (hr.mono (by decide)) rfl T.g_law_draw T.F_law_draw.kp T.b_law_draw .nil pass0 (pa_cons (pv 1) (pa_cons pe_int pa_nil))))
      (pss_cons (ps_set (i := 3) sc_law.nd rfl (Or.inl rfl) (pe_call (ok_law_draw T) (hr.mono (by decide)) rfl T.g_law_draw T.F_law_draw.kp T.b_law_draw .nil pass0 (pa_cons (pv 1) (pa_cons pe_int pa_nil))))
      (pss_cons (ps_set (i := 4) sc_law.nd rfl (Or.inl rfl) (pe_call (ok_law_house T) (hr.mono (by decide)) rfl T.g_law_house T.F_law_house.kp T.b_law_house .nil pass0 (pa_cons (pv 1) (pa_cons pe_int (pa_cons pe_int pa_nil)))))
      (pss_cons (ps_set (i := 5) sc_law.nd rfl (Or.inl rfl) (pe_tupF (pa_cons (pe_ix (ixT K) (pv 4) pe_int (fun _ _ => rfl)) (pa_cons (pe_ix (ixT K) (pv 4) pe_int (fun _ _ => rfl)) (pa_cons (pe_ix (ixT K) (pv 4) pe_int (fun _ _ => rfl)) (pa_cons (pe_ix (ixT K) (pe_ix (ixT K) (pv 4) pe_int (fun _ _ => rfl)) pe_int (fun _ _ => rfl)) pa_nil))))))
      (pss_cons (ps_set (i := 6) sc_law.nd rfl (Or.inl rfl) (pe_call (ok_law_bad_case T) (hr.mono (by decide)) rfl T.g_law_bad_case T.F_law_bad_case.kp T.b_law_bad_case .nil pass0 (pa_cons (pv 5) (pa_cons (pv 2) (pa_cons (pv 3) (pa_cons (pe_call (ok_law_draw T) (hr.mono (by decide)) rfl T.g_law_draw T.F_law_draw.kp T.b_law_draw .nil pass0 (pa_cons (pv 1) (pa_cons pe_int pa_nil))) pa_nil))))))
      (pss_cons (ps_set (i := 7) sc_law.nd rfl (Or.inl rfl) (pe_tupF (pa_cons (pe_ix (ixT K) (pv 5) pe_int (fun _ _ => rfl)) (pa_cons (pe_ix (ixT K) (pv 5) pe_int (fun _ _ => rfl)) (pa_cons (pe_ix (ixT K) (pv 5) pe_int (fun _ _ => rfl)) (pa_cons (pe_tupF (pa_cons (pe_ix (ixT K) (pv 5) pe_int (fun _ _ => rfl)) pa_nil)) (pa_cons (pe_tupF (pa_cons pe_int pa_nil)) (pa_cons pe_int pa_nil))))))))
      (pss_cons (ps_set (i := 8) sc_law.nd rfl (Or.inl rfl) (pe_call (ok_house_of T) (hr.mono (by decide)) rfl T.g_house_of T.F_house_of.kp T.b_house_of .nil passL (pa_cons (pv 5) pa_nil)))
      (pss_cons (ps_if (PW.pt (pw_or (pt_not (pt_val (pe_call (ok_law_same T 4) (hr.mono (by decide)) rfl T.g_law_same T.F_law_same.kp T.b_law_same .nil pass0 (pa_cons (pv 8) (pa_cons (pv 7) pa_nil))))) (pw_or (pt_cmpR op_notBl (pe_call (ok_is_house T) (hr.mono (by decide)) rfl T.g_is_house T.F_is_house.kp T.b_is_house .nil pass0 (pa_cons (pv 8) pa_nil)) pe_bl (nomark _)) (pw_or1 (pt_cmpR op_notBl (pe_call (ok_is_house T) (hr.mono (by decide)) rfl T.g_is_house T.F_is_house.kp T.b_is_house .nil pass0 (pa_cons (pv 5) pa_nil)) pe_bl (nomark _))))))
      (pss_one (ps_ret pe_bl))
      pss_nil)
      (pss_cons (ps_if (PW.pt (pw_or (pt_cmpR op_notBl (pe_call (ok_is_case T) (hr.mono (by decide)) rfl T.g_is_case T.F_is_case.kp T.b_is_case .nil pass0 (pa_cons (pv 5) pa_nil)) pe_bl (nomark _)) (pw_or (pt_cmpR op_notBl (pe_call (ok_is_case T) (hr.mono (by decide)) rfl T.g_is_case T.F_is_case.kp T.b_is_case .nil pass0 (pa_cons (pv 6) pa_nil)) pe_bl (nomark _)) (pw_or1 (pt_cmpR op_notBl (pe_call (ok_is_case T) (hr.mono (by decide)) rfl T.g_is_case T.F_is_case.kp T.b_is_case .nil pass0 (pa_cons (pv 4) pa_nil)) pe_bl (nomark _))))))
      (pss_one (ps_ret pe_bl))
      pss_nil)
      (pss_cons (ps_if (PW.pt (pw_or (pt_cmpR op_ne (pe_call (ok_law_told T) (hr.mono (by decide)) rfl T.g_law_told T.F_law_told.kp T.b_law_told .nil pass0 (pa_cons (pv 6) pa_nil)) pe_str (nomark _)) (pw_or1 (pt_cmpR op_ne (pe_call (ok_law_told T) (hr.mono (by decide)) rfl T.g_law_told T.F_law_told.kp T.b_law_told .nil pass0 (pa_cons (pv 4) pa_nil)) pe_str (nomark _)))))
      (pss_one (ps_ret pe_bl))
      pss_nil)
      (pss_one (ps_ret (pe_and (pe_cmpR op_eq (pe_call (ok_law_told T) (hr.mono (by decide)) rfl T.g_law_told T.F_law_told.kp T.b_law_told .nil pass0 (pa_cons (pv 5) pa_nil)) pe_str (nomark _)) (pe_and (pe_call (ok_law_same T 4) (hr.mono (by decide)) rfl T.g_law_same T.F_law_same.kp T.b_law_same .nil pass0 (pa_cons (pe_call (ok_house_of T) (hr.mono (by decide)) rfl T.g_house_of T.F_house_of.kp T.b_house_of .nil passL (pa_cons (pv 5) pa_nil)) (pa_cons (pv 7) pa_nil))) (pe_one (pe_cmpR op_isBl (pe_call (ok_is_case T) (hr.mono (by decide)) rfl T.g_is_case T.F_is_case.kp T.b_is_case .nil pass0 (pa_cons (pv 5) pa_nil)) pe_bl (nomark _)))))))))))))))))), ?_⟩
    refine ⟨.ref x, rfl, x, ns, rfl, hS, hlen, hb, fun p H1 hp S1 k1 => ?_⟩
    have L1 : Live H1 (fun _ => False) := fun _ h => False.elim h
    refine ⟨.ref p, rfl, p, 0, 5, _, rfl, S1, L1, by decide, by decide, by decide, fun pt H2 p0 p1 S2 B2 => ?_⟩
    refine ⟨.ref p, rfl, p, 1, 27720, _, rfl, S2, (fun _ h => False.elim h), by decide, by decide, by decide, fun wh H3 w0 w1 S3 B3 => ?_⟩
    refine ⟨.ref p, rfl, p, 2, 1, _, rfl, by decide, by decide, S3, (fun _ h => False.elim h), by decide, fun hv H4 h hok oh S4 B4 => ?_⟩
    obtain ⟨a, hs, rfl, ea, na, all⟩ := tup_ob oh
    obtain ⟨v1, v2, v3, v4, v5, v6, rfl, o1, o2, o3, o4, o5, o6⟩ := obs6 all
    obtain ⟨b, bs, rfl, eb, nb, allb⟩ := tup_ob o4
    obtain ⟨o, ors, eos⟩ : ∃ o r, h.os = o :: r := by
      have := hok.o1
      cases e : h.os with
      | nil => rw [e] at this; exact absurd this (by decide)
      | cons o r => exact ⟨o, r, rfl⟩
    have ho : o ∈ h.os := by rw [eos]; exact List.mem_cons_self
    rw [eos] at allb
    obtain ⟨c1, cr1, rfl, oc1, _⟩ := obs_cons (show Obs H4 p bs (intT o :: ors.map intT) from allb)
    have hp4 := S4.live
    refine ⟨_, rfl, a, _, 0, v1, rfl, rfl, ea.sq, rfl, _, rfl, a, _, 1, v2, rfl, rfl, ea.sq, rfl, _, rfl, a, _, 2, v3, rfl, rfl, ea.sq, rfl, _, rfl, a, _, 3, .ref b, rfl, rfl, ea.sq, rfl, b, _, 0, c1, rfl, rfl, eb.sq, atI_nat (j := 0) rfl, (by show 4 ≤ sizeLine; decide), fun cr H5 hcr k5 tpc g5 => ?_⟩
    have oc : Ob H5 p (.ref cr) (caseT h.b0 h.b1 h.b2 h.r h.nt h.ws h.cs o) := tup_mk (.cons o1 (.cons o2 (.cons o3 (.cons oc1 .nil)))) hp4 hcr k5 tpc
    have ncr : cr ≠ p := S4.ne hcr
    have S5 := S4.same k5
    refine ⟨_, rfl, _, rfl, _, rfl, _, rfl, p, _, 360, _, rfl, S5, (fun _ h => False.elim h), by decide, by decide, by decide, fun k H6 k0 k1' S6 B6 => ?_⟩
    obtain ⟨kn, rfl⟩ : ∃ n : Nat, k = (n : Int) := ⟨k.toNat, (Int.toNat_of_nonneg k0).symm⟩
    have oc6 := oc.but B6
    have c1' := hok.c1
    have c2' := hok.c2
    have cl' := hok.cl
    have wl' := hok.wl
    have wpos : 1 ≤ h.ws.length := Nat.le_trans c1' List.countP_le_length
    refine ⟨p, .ref cr, h.b0, h.b1, h.b2, h.r, h.nt, h.ws, h.cs, o, pt, wh, kn, rfl, oc6, S6.live, wpos, wl', by omega, by omega, cl', (hok.os o ho).1, fun bv H7 k7 ⟨bd, obd, hbd, fzb⟩ => ?_⟩
    have hp7 := live_same S6.live k7
    have oc7 := oc6.same k7
    have b57 : But p H5 H7 := B6.trans (Same.but k7)
    have kk7 : ∀ {v : V} {d : Dt}, Ob H4 p v d → Ob H7 p v d := fun h => (h.same k5).but b57
    have tp7 := tpc.but b57 ncr
    refine ⟨_, rfl, cr, _, 0, v1, rfl, rfl, tp7.sq, rfl, _, rfl, cr, _, 1, v2, rfl, rfl, tp7.sq, rfl, _, rfl, cr, _, 2, v3, rfl, rfl, tp7.sq, rfl, _, rfl, cr, _, 3, c1, rfl, rfl, tp7.sq, rfl, (by show 1 ≤ sizeLine; decide), fun t1 H8 f1 k8 tp1 g1 => ⟨(by show 1 ≤ sizeLine; decide), fun t2 H9 f2 k9 tp2 g2 => ⟨(by show 6 ≤ sizeLine; decide), fun t3 H10 f3 k10 tp3 g3 => ?_⟩⟩⟩
    have hp8 := live_same hp7 k8
    have hp9 := live_same hp8 k9
    have k710 : Same H7 H10 := (k8.trans k9).trans k10
    have od : Ob H10 p (.ref t3) (houseOf (caseT h.b0 h.b1 h.b2 h.r h.nt h.ws h.cs o)) :=
      tup_mk (.cons ((kk7 o1).same (k8.trans k9)) (.cons ((kk7 o2).same (k8.trans k9)) (.cons ((kk7 o3).same (k8.trans k9)) (.cons ((tup_mk (.cons (kk7 oc1) .nil) hp7 f1 k8 tp1).same k9) (.cons (tup_mk (.cons (.int 2) .nil) hp8 f2 k9 tp2) (.cons (.int 2) .nil)))))) hp9 f3 k10 tp3
    have hcase := case_yes hok ho
    have hhouse := house_yes hok ho
    have fzc : fzCase (caseT h.b0 h.b1 h.b2 h.r h.nt h.ws h.cs o) := fun _ _ => rfl
    have oc10 := oc7.same k710
    have hp10 := live_same hp7 k710
    refine ⟨_, rfl, p, .ref cr, _, rfl, oc10, hp10, fzc, fun e => absurd e (by rw [hcase]; decide), fun _ fv H11 k11 of => ?_⟩
    have k711 : Same H7 H11 := k710.trans k11
    have hp11 := live_same hp7 k711
    have eqh := eqv_house hok ho
    have fzh : fzHouse (houseOf (caseT h.b0 h.b1 h.b2 h.r h.nt h.ws h.cs o)) := fun _ _ => rfl
    -- same, is_house of the found, of the case
    refine ⟨_, rfl, _, rfl, p, fv, .ref t3, _, _, rfl, of, od.same k11, eqh, fun H12 k12 => ⟨_, rfl, iteF ?_⟩⟩
    refine ⟨_, rfl, p, fv, _, rfl, of.same k12, fzh, fun H13 k13 => ⟨_, _, rfl, rfl, _, rfl, if_no (by rw [hhouse]; rfl) ?_⟩⟩
    refine ⟨_, rfl, p, .ref cr, _, rfl, oc7.same (k711.trans (k12.trans k13)), trivial, fun H14 k14 => ⟨_, _, rfl, rfl, _, rfl, if_no rfl ?_⟩⟩
    have j14 : Same H7 H14 := k711.trans ((k12.trans k13).trans k14)
    -- is_case of the case, of the bad one, of the house
    refine ⟨_, rfl, p, .ref cr, _, rfl, oc7.same j14, fzc, fun H15 k15 => ⟨_, _, rfl, rfl, _, rfl, if_no (by rw [hcase]; rfl) ?_⟩⟩
    have j15 := j14.trans k15
    refine ⟨_, rfl, p, bv, bd, rfl, obd.same j15, fzb, fun H16 k16 => ⟨_, _, rfl, rfl, _, rfl, if_no (by rw [hbd]; rfl) ?_⟩⟩
    have j16 := j15.trans k16
    have oh7 : Ob H7 p (.ref a) h.dt := kk7 oh
    refine ⟨_, rfl, p, .ref a, _, rfl, oh7.same j16, trivial, fun H17 k17 => ⟨_, _, rfl, rfl, _, rfl, if_no rfl ?_⟩⟩
    have j17 := j16.trans k17
    -- what is told of the bad one, of the house
    refine ⟨_, rfl, p, bv, bd, rfl, obd.same j17, live_same hp7 j17, fzb, fun H18 k18 => ⟨rfl, _, rfl, if_no (by rw [hbd]; simp) ?_⟩⟩
    have j18 := j17.trans k18
    refine ⟨_, rfl, p, .ref a, _, rfl, oh7.same j18, live_same hp7 j18, trivial, fun H19 k19 => ⟨rfl, _, rfl, if_no (by rw [show caseD h.dt = false from rfl]; simp) ?_⟩⟩
    have j19 := j18.trans k19
    refine ⟨_, rfl, p, .ref cr, _, rfl, oc7.same j19, live_same hp7 j19, fzc, fun H20 k20 => ⟨rfl, _, rfl, if_yes (by rw [hcase]; simp) ?_⟩⟩
    have j20 := j19.trans k20
    refine ⟨_, rfl, p, .ref cr, _, rfl, oc7.same j20, live_same hp7 j20, fzc, fun e => absurd e (by rw [hcase]; decide), fun _ gv H21 k21 og => ?_⟩
    have j21 := j20.trans k21
    refine ⟨_, rfl, p, gv, .ref t3, _, _, rfl, og, (od.same (k11.trans (((k12.trans k13).trans k14).trans (((k15.trans k16).trans k17).trans ((k18.trans k19).trans (k20.trans k21)))))), eqh, fun H22 k22 => ⟨_, rfl, iteT ?_⟩⟩
    refine ⟨_, rfl, p, .ref cr, _, rfl, oc7.same (j21.trans k22), fzc, fun H23 k23 => ⟨_, _, rfl, rfl, ?_⟩⟩
    exact ends_true q (by rw [hcase]; rfl)
end

theorem all_mk {P : Program} {w : World} {K : PySem.W.Frag} {h : Heap} {mg : Str → Option Value} {fa f_is_whole f_is_word f_is_row f_is_counts f_is_course f_is_house f_is_case f_house_of f_is_frame f_are_fitting f_is_scheme f_is_plan f_check_case f_are_keys f_law_source f_law_draw f_law_words f_law_scheme f_law_house f_law_put f_law_bad_scheme f_law_bad_plan f_law_bad_counts f_law_bad_course f_law_same f_law_bad_case f_law_told C_LaneError C_BadHouse C_BadCase c_REFUSALS c_NOTINGS c_WORDS : Addr}
    (X : K.In h) (G : h.Ns mainGlobals mg) (hfa : mg "law" = some (.ref fa))
    {oc_is_whole kV_is_whole dc_is_whole pm_is_whole cd_is_whole ct_is_whole : Value} {od_is_whole an_is_whole : Option Addr} {sl_is_whole : Array (Option Value)}
    (a_is_whole : PySem.W.nsIn K mainGlobals "is_whole" = some (some (.ref f_is_whole)))
    (l_is_whole : K.lookup f_is_whole = some ⟨oc_is_whole, od_is_whole, .func (PySem.W.fnOf "is_whole" "is_whole" (defArgs s_is_whole) (defBody s_is_whole) (defScope s_is_whole) .none kV_is_whole dc_is_whole pm_is_whole an_is_whole cd_is_whole ct_is_whole), sl_is_whole⟩)
    (c_is_whole : PySem.W.codeIn K cd_is_whole "is_whole" = true) (k_is_whole : PySem.W.keepIn K (.ref f_is_whole) = true)
    {oc_is_word kV_is_word dc_is_word pm_is_word cd_is_word ct_is_word : Value} {od_is_word an_is_word : Option Addr} {sl_is_word : Array (Option Value)}
    (a_is_word : PySem.W.nsIn K mainGlobals "is_word" = some (some (.ref f_is_word)))
    (l_is_word : K.lookup f_is_word = some ⟨oc_is_word, od_is_word, .func (PySem.W.fnOf "is_word" "is_word" (defArgs s_is_word) (defBody s_is_word) (defScope s_is_word) .none kV_is_word dc_is_word pm_is_word an_is_word cd_is_word ct_is_word), sl_is_word⟩)
    (c_is_word : PySem.W.codeIn K cd_is_word "is_word" = true) (k_is_word : PySem.W.keepIn K (.ref f_is_word) = true)
    {oc_is_row kV_is_row dc_is_row pm_is_row cd_is_row ct_is_row : Value} {od_is_row an_is_row : Option Addr} {sl_is_row : Array (Option Value)}
    (a_is_row : PySem.W.nsIn K mainGlobals "is_row" = some (some (.ref f_is_row)))
    (l_is_row : K.lookup f_is_row = some ⟨oc_is_row, od_is_row, .func (PySem.W.fnOf "is_row" "is_row" (defArgs s_is_row) (defBody s_is_row) (defScope s_is_row) .none kV_is_row dc_is_row pm_is_row an_is_row cd_is_row ct_is_row), sl_is_row⟩)
    (c_is_row : PySem.W.codeIn K cd_is_row "is_row" = true) (k_is_row : PySem.W.keepIn K (.ref f_is_row) = true)
    {oc_is_counts kV_is_counts dc_is_counts pm_is_counts cd_is_counts ct_is_counts : Value} {od_is_counts an_is_counts : Option Addr} {sl_is_counts : Array (Option Value)}
    (a_is_counts : PySem.W.nsIn K mainGlobals "is_counts" = some (some (.ref f_is_counts)))
    (l_is_counts : K.lookup f_is_counts = some ⟨oc_is_counts, od_is_counts, .func (PySem.W.fnOf "is_counts" "is_counts" (defArgs s_is_counts) (defBody s_is_counts) (defScope s_is_counts) .none kV_is_counts dc_is_counts pm_is_counts an_is_counts cd_is_counts ct_is_counts), sl_is_counts⟩)
    (c_is_counts : PySem.W.codeIn K cd_is_counts "is_counts" = true) (k_is_counts : PySem.W.keepIn K (.ref f_is_counts) = true)
    {oc_is_course kV_is_course dc_is_course pm_is_course cd_is_course ct_is_course : Value} {od_is_course an_is_course : Option Addr} {sl_is_course : Array (Option Value)}
    (a_is_course : PySem.W.nsIn K mainGlobals "is_course" = some (some (.ref f_is_course)))
    (l_is_course : K.lookup f_is_course = some ⟨oc_is_course, od_is_course, .func (PySem.W.fnOf "is_course" "is_course" (defArgs s_is_course) (defBody s_is_course) (defScope s_is_course) .none kV_is_course dc_is_course pm_is_course an_is_course cd_is_course ct_is_course), sl_is_course⟩)
    (c_is_course : PySem.W.codeIn K cd_is_course "is_course" = true) (k_is_course : PySem.W.keepIn K (.ref f_is_course) = true)
    {oc_is_house kV_is_house dc_is_house pm_is_house cd_is_house ct_is_house : Value} {od_is_house an_is_house : Option Addr} {sl_is_house : Array (Option Value)}
    (a_is_house : PySem.W.nsIn K mainGlobals "is_house" = some (some (.ref f_is_house)))
    (l_is_house : K.lookup f_is_house = some ⟨oc_is_house, od_is_house, .func (PySem.W.fnOf "is_house" "is_house" (defArgs s_is_house) (defBody s_is_house) (defScope s_is_house) .none kV_is_house dc_is_house pm_is_house an_is_house cd_is_house ct_is_house), sl_is_house⟩)
    (c_is_house : PySem.W.codeIn K cd_is_house "is_house" = true) (k_is_house : PySem.W.keepIn K (.ref f_is_house) = true)
    {oc_is_case kV_is_case dc_is_case pm_is_case cd_is_case ct_is_case : Value} {od_is_case an_is_case : Option Addr} {sl_is_case : Array (Option Value)}
    (a_is_case : PySem.W.nsIn K mainGlobals "is_case" = some (some (.ref f_is_case)))
    (l_is_case : K.lookup f_is_case = some ⟨oc_is_case, od_is_case, .func (PySem.W.fnOf "is_case" "is_case" (defArgs s_is_case) (defBody s_is_case) (defScope s_is_case) .none kV_is_case dc_is_case pm_is_case an_is_case cd_is_case ct_is_case), sl_is_case⟩)
    (c_is_case : PySem.W.codeIn K cd_is_case "is_case" = true) (k_is_case : PySem.W.keepIn K (.ref f_is_case) = true)
    {oc_house_of kV_house_of dc_house_of pm_house_of cd_house_of ct_house_of : Value} {od_house_of an_house_of : Option Addr} {sl_house_of : Array (Option Value)}
    (a_house_of : PySem.W.nsIn K mainGlobals "house_of" = some (some (.ref f_house_of)))
    (l_house_of : K.lookup f_house_of = some ⟨oc_house_of, od_house_of, .func (PySem.W.fnOf "house_of" "house_of" (defArgs s_house_of) (defBody s_house_of) (defScope s_house_of) .none kV_house_of dc_house_of pm_house_of an_house_of cd_house_of ct_house_of), sl_house_of⟩)
    (c_house_of : PySem.W.codeIn K cd_house_of "house_of" = true) (k_house_of : PySem.W.keepIn K (.ref f_house_of) = true)
    {oc_is_frame kV_is_frame dc_is_frame pm_is_frame cd_is_frame ct_is_frame : Value} {od_is_frame an_is_frame : Option Addr} {sl_is_frame : Array (Option Value)}
    (a_is_frame : PySem.W.nsIn K mainGlobals "is_frame" = some (some (.ref f_is_frame)))
    (l_is_frame : K.lookup f_is_frame = some ⟨oc_is_frame, od_is_frame, .func (PySem.W.fnOf "is_frame" "is_frame" (defArgs s_is_frame) (defBody s_is_frame) (defScope s_is_frame) .none kV_is_frame dc_is_frame pm_is_frame an_is_frame cd_is_frame ct_is_frame), sl_is_frame⟩)
    (c_is_frame : PySem.W.codeIn K cd_is_frame "is_frame" = true) (k_is_frame : PySem.W.keepIn K (.ref f_is_frame) = true)
    {oc_are_fitting kV_are_fitting dc_are_fitting pm_are_fitting cd_are_fitting ct_are_fitting : Value} {od_are_fitting an_are_fitting : Option Addr} {sl_are_fitting : Array (Option Value)}
    (a_are_fitting : PySem.W.nsIn K mainGlobals "are_fitting" = some (some (.ref f_are_fitting)))
    (l_are_fitting : K.lookup f_are_fitting = some ⟨oc_are_fitting, od_are_fitting, .func (PySem.W.fnOf "are_fitting" "are_fitting" (defArgs s_are_fitting) (defBody s_are_fitting) (defScope s_are_fitting) .none kV_are_fitting dc_are_fitting pm_are_fitting an_are_fitting cd_are_fitting ct_are_fitting), sl_are_fitting⟩)
    (c_are_fitting : PySem.W.codeIn K cd_are_fitting "are_fitting" = true) (k_are_fitting : PySem.W.keepIn K (.ref f_are_fitting) = true)
    {oc_is_scheme kV_is_scheme dc_is_scheme pm_is_scheme cd_is_scheme ct_is_scheme : Value} {od_is_scheme an_is_scheme : Option Addr} {sl_is_scheme : Array (Option Value)}
    (a_is_scheme : PySem.W.nsIn K mainGlobals "is_scheme" = some (some (.ref f_is_scheme)))
    (l_is_scheme : K.lookup f_is_scheme = some ⟨oc_is_scheme, od_is_scheme, .func (PySem.W.fnOf "is_scheme" "is_scheme" (defArgs s_is_scheme) (defBody s_is_scheme) (defScope s_is_scheme) .none kV_is_scheme dc_is_scheme pm_is_scheme an_is_scheme cd_is_scheme ct_is_scheme), sl_is_scheme⟩)
    (c_is_scheme : PySem.W.codeIn K cd_is_scheme "is_scheme" = true) (k_is_scheme : PySem.W.keepIn K (.ref f_is_scheme) = true)
    {oc_is_plan kV_is_plan dc_is_plan pm_is_plan cd_is_plan ct_is_plan : Value} {od_is_plan an_is_plan : Option Addr} {sl_is_plan : Array (Option Value)}
    (a_is_plan : PySem.W.nsIn K mainGlobals "is_plan" = some (some (.ref f_is_plan)))
    (l_is_plan : K.lookup f_is_plan = some ⟨oc_is_plan, od_is_plan, .func (PySem.W.fnOf "is_plan" "is_plan" (defArgs s_is_plan) (defBody s_is_plan) (defScope s_is_plan) .none kV_is_plan dc_is_plan pm_is_plan an_is_plan cd_is_plan ct_is_plan), sl_is_plan⟩)
    (c_is_plan : PySem.W.codeIn K cd_is_plan "is_plan" = true) (k_is_plan : PySem.W.keepIn K (.ref f_is_plan) = true)
    {oc_check_case kV_check_case dc_check_case pm_check_case cd_check_case ct_check_case : Value} {od_check_case an_check_case : Option Addr} {sl_check_case : Array (Option Value)}
    (a_check_case : PySem.W.nsIn K mainGlobals "check_case" = some (some (.ref f_check_case)))
    (l_check_case : K.lookup f_check_case = some ⟨oc_check_case, od_check_case, .func (PySem.W.fnOf "check_case" "check_case" (defArgs s_check_case) (defBody s_check_case) (defScope s_check_case) .none kV_check_case dc_check_case pm_check_case an_check_case cd_check_case ct_check_case), sl_check_case⟩)
    (c_check_case : PySem.W.codeIn K cd_check_case "check_case" = true) (k_check_case : PySem.W.keepIn K (.ref f_check_case) = true)
    {oc_are_keys kV_are_keys dc_are_keys pm_are_keys cd_are_keys ct_are_keys : Value} {od_are_keys an_are_keys : Option Addr} {sl_are_keys : Array (Option Value)}
    (a_are_keys : PySem.W.nsIn K mainGlobals "are_keys" = some (some (.ref f_are_keys)))
    (l_are_keys : K.lookup f_are_keys = some ⟨oc_are_keys, od_are_keys, .func (PySem.W.fnOf "are_keys" "are_keys" (defArgs s_are_keys) (defBody s_are_keys) (defScope s_are_keys) .none kV_are_keys dc_are_keys pm_are_keys an_are_keys cd_are_keys ct_are_keys), sl_are_keys⟩)
    (c_are_keys : PySem.W.codeIn K cd_are_keys "are_keys" = true) (k_are_keys : PySem.W.keepIn K (.ref f_are_keys) = true)
    {oc_law_source kV_law_source dc_law_source pm_law_source cd_law_source ct_law_source : Value} {od_law_source an_law_source : Option Addr} {sl_law_source : Array (Option Value)}
    (a_law_source : PySem.W.nsIn K mainGlobals "_law_source" = some (some (.ref f_law_source)))
    (l_law_source : K.lookup f_law_source = some ⟨oc_law_source, od_law_source, .func (PySem.W.fnOf "_law_source" "_law_source" (defArgs s_law_source) (defBody s_law_source) (defScope s_law_source) .none kV_law_source dc_law_source pm_law_source an_law_source cd_law_source ct_law_source), sl_law_source⟩)
    (c_law_source : PySem.W.codeIn K cd_law_source "_law_source" = true) (k_law_source : PySem.W.keepIn K (.ref f_law_source) = true)
    {oc_law_draw kV_law_draw dc_law_draw pm_law_draw cd_law_draw ct_law_draw : Value} {od_law_draw an_law_draw : Option Addr} {sl_law_draw : Array (Option Value)}
    (a_law_draw : PySem.W.nsIn K mainGlobals "_law_draw" = some (some (.ref f_law_draw)))
    (l_law_draw : K.lookup f_law_draw = some ⟨oc_law_draw, od_law_draw, .func (PySem.W.fnOf "_law_draw" "_law_draw" (defArgs s_law_draw) (defBody s_law_draw) (defScope s_law_draw) .none kV_law_draw dc_law_draw pm_law_draw an_law_draw cd_law_draw ct_law_draw), sl_law_draw⟩)
    (c_law_draw : PySem.W.codeIn K cd_law_draw "_law_draw" = true) (k_law_draw : PySem.W.keepIn K (.ref f_law_draw) = true)
    {oc_law_words kV_law_words dc_law_words pm_law_words cd_law_words ct_law_words : Value} {od_law_words an_law_words : Option Addr} {sl_law_words : Array (Option Value)}
    (a_law_words : PySem.W.nsIn K mainGlobals "_law_words" = some (some (.ref f_law_words)))
    (l_law_words : K.lookup f_law_words = some ⟨oc_law_words, od_law_words, .func (PySem.W.fnOf "_law_words" "_law_words" (defArgs s_law_words) (defBody s_law_words) (defScope s_law_words) .none kV_law_words dc_law_words pm_law_words an_law_words cd_law_words ct_law_words), sl_law_words⟩)
    (c_law_words : PySem.W.codeIn K cd_law_words "_law_words" = true) (k_law_words : PySem.W.keepIn K (.ref f_law_words) = true)
    {oc_law_scheme kV_law_scheme dc_law_scheme pm_law_scheme cd_law_scheme ct_law_scheme : Value} {od_law_scheme an_law_scheme : Option Addr} {sl_law_scheme : Array (Option Value)}
    (a_law_scheme : PySem.W.nsIn K mainGlobals "_law_scheme" = some (some (.ref f_law_scheme)))
    (l_law_scheme : K.lookup f_law_scheme = some ⟨oc_law_scheme, od_law_scheme, .func (PySem.W.fnOf "_law_scheme" "_law_scheme" (defArgs s_law_scheme) (defBody s_law_scheme) (defScope s_law_scheme) .none kV_law_scheme dc_law_scheme pm_law_scheme an_law_scheme cd_law_scheme ct_law_scheme), sl_law_scheme⟩)
    (c_law_scheme : PySem.W.codeIn K cd_law_scheme "_law_scheme" = true) (k_law_scheme : PySem.W.keepIn K (.ref f_law_scheme) = true)
    {oc_law_house kV_law_house dc_law_house pm_law_house cd_law_house ct_law_house : Value} {od_law_house an_law_house : Option Addr} {sl_law_house : Array (Option Value)}
    (a_law_house : PySem.W.nsIn K mainGlobals "_law_house" = some (some (.ref f_law_house)))
    (l_law_house : K.lookup f_law_house = some ⟨oc_law_house, od_law_house, .func (PySem.W.fnOf "_law_house" "_law_house" (defArgs s_law_house) (defBody s_law_house) (defScope s_law_house) .none kV_law_house dc_law_house pm_law_house an_law_house cd_law_house ct_law_house), sl_law_house⟩)
    (c_law_house : PySem.W.codeIn K cd_law_house "_law_house" = true) (k_law_house : PySem.W.keepIn K (.ref f_law_house) = true)
    {oc_law_put kV_law_put dc_law_put pm_law_put cd_law_put ct_law_put : Value} {od_law_put an_law_put : Option Addr} {sl_law_put : Array (Option Value)}
    (a_law_put : PySem.W.nsIn K mainGlobals "_law_put" = some (some (.ref f_law_put)))
    (l_law_put : K.lookup f_law_put = some ⟨oc_law_put, od_law_put, .func (PySem.W.fnOf "_law_put" "_law_put" (defArgs s_law_put) (defBody s_law_put) (defScope s_law_put) .none kV_law_put dc_law_put pm_law_put an_law_put cd_law_put ct_law_put), sl_law_put⟩)
    (c_law_put : PySem.W.codeIn K cd_law_put "_law_put" = true) (k_law_put : PySem.W.keepIn K (.ref f_law_put) = true)
    {oc_law_bad_scheme kV_law_bad_scheme dc_law_bad_scheme pm_law_bad_scheme cd_law_bad_scheme ct_law_bad_scheme : Value} {od_law_bad_scheme an_law_bad_scheme : Option Addr} {sl_law_bad_scheme : Array (Option Value)}
    (a_law_bad_scheme : PySem.W.nsIn K mainGlobals "_law_bad_scheme" = some (some (.ref f_law_bad_scheme)))
    (l_law_bad_scheme : K.lookup f_law_bad_scheme = some ⟨oc_law_bad_scheme, od_law_bad_scheme, .func (PySem.W.fnOf "_law_bad_scheme" "_law_bad_scheme" (defArgs s_law_bad_scheme) (defBody s_law_bad_scheme) (defScope s_law_bad_scheme) .none kV_law_bad_scheme dc_law_bad_scheme pm_law_bad_scheme an_law_bad_scheme cd_law_bad_scheme ct_law_bad_scheme), sl_law_bad_scheme⟩)
    (c_law_bad_scheme : PySem.W.codeIn K cd_law_bad_scheme "_law_bad_scheme" = true) (k_law_bad_scheme : PySem.W.keepIn K (.ref f_law_bad_scheme) = true)
    {oc_law_bad_plan kV_law_bad_plan dc_law_bad_plan pm_law_bad_plan cd_law_bad_plan ct_law_bad_plan : Value} {od_law_bad_plan an_law_bad_plan : Option Addr} {sl_law_bad_plan : Array (Option Value)}
    (a_law_bad_plan : PySem.W.nsIn K mainGlobals "_law_bad_plan" = some (some (.ref f_law_bad_plan)))
    (l_law_bad_plan : K.lookup f_law_bad_plan = some ⟨oc_law_bad_plan, od_law_bad_plan, .func (PySem.W.fnOf "_law_bad_plan" "_law_bad_plan" (defArgs s_law_bad_plan) (defBody s_law_bad_plan) (defScope s_law_bad_plan) .none kV_law_bad_plan dc_law_bad_plan pm_law_bad_plan an_law_bad_plan cd_law_bad_plan ct_law_bad_plan), sl_law_bad_plan⟩)
    (c_law_bad_plan : PySem.W.codeIn K cd_law_bad_plan "_law_bad_plan" = true) (k_law_bad_plan : PySem.W.keepIn K (.ref f_law_bad_plan) = true)
    {oc_law_bad_counts kV_law_bad_counts dc_law_bad_counts pm_law_bad_counts cd_law_bad_counts ct_law_bad_counts : Value} {od_law_bad_counts an_law_bad_counts : Option Addr} {sl_law_bad_counts : Array (Option Value)}
    (a_law_bad_counts : PySem.W.nsIn K mainGlobals "_law_bad_counts" = some (some (.ref f_law_bad_counts)))
    (l_law_bad_counts : K.lookup f_law_bad_counts = some ⟨oc_law_bad_counts, od_law_bad_counts, .func (PySem.W.fnOf "_law_bad_counts" "_law_bad_counts" (defArgs s_law_bad_counts) (defBody s_law_bad_counts) (defScope s_law_bad_counts) .none kV_law_bad_counts dc_law_bad_counts pm_law_bad_counts an_law_bad_counts cd_law_bad_counts ct_law_bad_counts), sl_law_bad_counts⟩)
    (c_law_bad_counts : PySem.W.codeIn K cd_law_bad_counts "_law_bad_counts" = true) (k_law_bad_counts : PySem.W.keepIn K (.ref f_law_bad_counts) = true)
    {oc_law_bad_course kV_law_bad_course dc_law_bad_course pm_law_bad_course cd_law_bad_course ct_law_bad_course : Value} {od_law_bad_course an_law_bad_course : Option Addr} {sl_law_bad_course : Array (Option Value)}
    (a_law_bad_course : PySem.W.nsIn K mainGlobals "_law_bad_course" = some (some (.ref f_law_bad_course)))
    (l_law_bad_course : K.lookup f_law_bad_course = some ⟨oc_law_bad_course, od_law_bad_course, .func (PySem.W.fnOf "_law_bad_course" "_law_bad_course" (defArgs s_law_bad_course) (defBody s_law_bad_course) (defScope s_law_bad_course) .none kV_law_bad_course dc_law_bad_course pm_law_bad_course an_law_bad_course cd_law_bad_course ct_law_bad_course), sl_law_bad_course⟩)
    (c_law_bad_course : PySem.W.codeIn K cd_law_bad_course "_law_bad_course" = true) (k_law_bad_course : PySem.W.keepIn K (.ref f_law_bad_course) = true)
    {oc_law_same kV_law_same dc_law_same pm_law_same cd_law_same ct_law_same : Value} {od_law_same an_law_same : Option Addr} {sl_law_same : Array (Option Value)}
    (a_law_same : PySem.W.nsIn K mainGlobals "_law_same" = some (some (.ref f_law_same)))
    (l_law_same : K.lookup f_law_same = some ⟨oc_law_same, od_law_same, .func (PySem.W.fnOf "_law_same" "_law_same" (defArgs s_law_same) (defBody s_law_same) (defScope s_law_same) .none kV_law_same dc_law_same pm_law_same an_law_same cd_law_same ct_law_same), sl_law_same⟩)
    (c_law_same : PySem.W.codeIn K cd_law_same "_law_same" = true) (k_law_same : PySem.W.keepIn K (.ref f_law_same) = true)
    {oc_law_bad_case kV_law_bad_case dc_law_bad_case pm_law_bad_case cd_law_bad_case ct_law_bad_case : Value} {od_law_bad_case an_law_bad_case : Option Addr} {sl_law_bad_case : Array (Option Value)}
    (a_law_bad_case : PySem.W.nsIn K mainGlobals "_law_bad_case" = some (some (.ref f_law_bad_case)))
    (l_law_bad_case : K.lookup f_law_bad_case = some ⟨oc_law_bad_case, od_law_bad_case, .func (PySem.W.fnOf "_law_bad_case" "_law_bad_case" (defArgs s_law_bad_case) (defBody s_law_bad_case) (defScope s_law_bad_case) .none kV_law_bad_case dc_law_bad_case pm_law_bad_case an_law_bad_case cd_law_bad_case ct_law_bad_case), sl_law_bad_case⟩)
    (c_law_bad_case : PySem.W.codeIn K cd_law_bad_case "_law_bad_case" = true) (k_law_bad_case : PySem.W.keepIn K (.ref f_law_bad_case) = true)
    {oc_law_told kV_law_told dc_law_told pm_law_told cd_law_told ct_law_told : Value} {od_law_told an_law_told : Option Addr} {sl_law_told : Array (Option Value)}
    (a_law_told : PySem.W.nsIn K mainGlobals "_law_told" = some (some (.ref f_law_told)))
    (l_law_told : K.lookup f_law_told = some ⟨oc_law_told, od_law_told, .func (PySem.W.fnOf "_law_told" "_law_told" (defArgs s_law_told) (defBody s_law_told) (defScope s_law_told) .none kV_law_told dc_law_told pm_law_told an_law_told cd_law_told ct_law_told), sl_law_told⟩)
    (c_law_told : PySem.W.codeIn K cd_law_told "_law_told" = true) (k_law_told : PySem.W.keepIn K (.ref f_law_told) = true)
    {f_law : Addr}
    {oc_law kV_law dc_law pm_law cd_law ct_law : Value} {od_law an_law : Option Addr} {sl_law : Array (Option Value)}
    (a_law : PySem.W.nsIn K mainGlobals "law" = some (some (.ref f_law)))
    (l_law : K.lookup f_law = some ⟨oc_law, od_law, .func (PySem.W.fnOf "law" "law" (defArgs s_law) (defBody s_law) (defScope s_law) .none kV_law dc_law pm_law an_law cd_law ct_law), sl_law⟩)
    (c_law : PySem.W.codeIn K cd_law "law" = true) (k_law : PySem.W.keepIn K (.ref f_law) = true)
    (z_ValueError : PySem.W.nsIn K mainGlobals "ValueError" = some none)
    (z_all : PySem.W.nsIn K mainGlobals "all" = some none)
    (z_bool : PySem.W.nsIn K mainGlobals "bool" = some none)
    (z_int : PySem.W.nsIn K mainGlobals "int" = some none)
    (z_isinstance : PySem.W.nsIn K mainGlobals "isinstance" = some none)
    (z_len : PySem.W.nsIn K mainGlobals "len" = some none)
    (z_list : PySem.W.nsIn K mainGlobals "list" = some none)
    (z_range : PySem.W.nsIn K mainGlobals "range" = some none)
    (z_str : PySem.W.nsIn K mainGlobals "str" = some none)
    (z_tuple : PySem.W.nsIn K mainGlobals "tuple" = some none)
    (z_zip : PySem.W.nsIn K mainGlobals "zip" = some none)
    {t_GREATEST_OF_COUNTS : Tok} (a_GREATEST_OF_COUNTS : PySem.W.nsIn K mainGlobals "GREATEST_OF_COUNTS" = some (some (.int 4 t_GREATEST_OF_COUNTS)))
    {od_REFUSALS : Option Addr} {ns_REFUSALS : Nat} {sl_REFUSALS : Array (Option Value)} {t0_REFUSALS : Tok} {t1_REFUSALS : Tok}
    (a_REFUSALS : PySem.W.nsIn K mainGlobals "REFUSALS" = some (some (.ref c_REFUSALS)))
    (l_REFUSALS : K.lookup c_REFUSALS = some ⟨.type "tuple", od_REFUSALS, .seq #[.str "back" t0_REFUSALS, .str "lost" t1_REFUSALS] ns_REFUSALS, sl_REFUSALS⟩)
    {od_NOTINGS : Option Addr} {ns_NOTINGS : Nat} {sl_NOTINGS : Array (Option Value)} {t0_NOTINGS : Tok} {t1_NOTINGS : Tok} {t2_NOTINGS : Tok}
    (a_NOTINGS : PySem.W.nsIn K mainGlobals "NOTINGS" = some (some (.ref c_NOTINGS)))
    (l_NOTINGS : K.lookup c_NOTINGS = some ⟨.type "tuple", od_NOTINGS, .seq #[.str "behind" t0_NOTINGS, .str "first" t1_NOTINGS, .str "with" t2_NOTINGS] ns_NOTINGS, sl_NOTINGS⟩)
    {od_WORDS : Option Addr} {ns_WORDS : Nat} {sl_WORDS : Array (Option Value)} {t0_WORDS : Tok} {t1_WORDS : Tok} {t2_WORDS : Tok} {t3_WORDS : Tok} {t4_WORDS : Tok} {t5_WORDS : Tok} {t6_WORDS : Tok} {t7_WORDS : Tok} {t8_WORDS : Tok}
    (a_WORDS : PySem.W.nsIn K mainGlobals "WORDS" = some (some (.ref c_WORDS)))
    (l_WORDS : K.lookup c_WORDS = some ⟨.type "tuple", od_WORDS, .seq #[.str "show" t0_WORDS, .str "tell" t1_WORDS, .str "agree" t2_WORDS, .str "close" t3_WORDS, .str "clear" t4_WORDS, .str "drain" t5_WORDS, .str "copy" t6_WORDS, .str "open" t7_WORDS, .str "drop" t8_WORDS] ns_WORDS, sl_WORDS⟩)
    {t_MOST_WORDS : Tok} (a_MOST_WORDS : PySem.W.nsIn K mainGlobals "MOST_WORDS" = some (some (.int 15 t_MOST_WORDS)))
    {t_MOST_SHOWS : Tok} (a_MOST_SHOWS : PySem.W.nsIn K mainGlobals "MOST_SHOWS" = some (some (.int 2 t_MOST_SHOWS)))
    {t_MOST_KEYS : Tok} (a_MOST_KEYS : PySem.W.nsIn K mainGlobals "MOST_KEYS" = some (some (.int 3 t_MOST_KEYS)))
    {t_MOST_LETTERS : Tok} (a_MOST_LETTERS : PySem.W.nsIn K mainGlobals "MOST_LETTERS" = some (some (.int 3 t_MOST_LETTERS)))
    {t_MOST_SENDERS : Tok} (a_MOST_SENDERS : PySem.W.nsIn K mainGlobals "MOST_SENDERS" = some (some (.int 3 t_MOST_SENDERS)))
    {t_LETTERS_OF_A_CASE : Tok} (a_LETTERS_OF_A_CASE : PySem.W.nsIn K mainGlobals "LETTERS_OF_A_CASE" = some (some (.int 2 t_LETTERS_OF_A_CASE)))
    {t_SENDERS_OF_A_CASE : Tok} (a_SENDERS_OF_A_CASE : PySem.W.nsIn K mainGlobals "SENDERS_OF_A_CASE" = some (some (.int 2 t_SENDERS_OF_A_CASE)))
    (ag_LaneError : PySem.W.nsIn K mainGlobals "LaneError" = some (some (.ref C_LaneError)))
    (ax_LaneError : PySem.W.excIn K C_LaneError [.type "ValueError", .type "Exception", .type "BaseException", .type "object"] "ValueError.__new__" = true)
    (ak_LaneError : PySem.W.keepIn K (.ref C_LaneError) = true) (ap_LaneError : PySem.W.subIn K (.ref C_LaneError) (.type "BaseException") = some true) (at_LaneError : PySem.W.typeIn K (.ref C_LaneError) = some (.type "type")) (ai_LaneError : PySem.W.isClsIn K C_LaneError = true)
    (ag_BadHouse : PySem.W.nsIn K mainGlobals "BadHouse" = some (some (.ref C_BadHouse)))
    (ax_BadHouse : PySem.W.excIn K C_BadHouse [.type "ValueError", .type "Exception", .type "BaseException", .type "object"] "ValueError.__new__" = true)
    (ak_BadHouse : PySem.W.keepIn K (.ref C_BadHouse) = true) (ap_BadHouse : PySem.W.subIn K (.ref C_BadHouse) (.type "BaseException") = some true) (at_BadHouse : PySem.W.typeIn K (.ref C_BadHouse) = some (.type "type")) (ai_BadHouse : PySem.W.isClsIn K C_BadHouse = true)
    (ag_BadCase : PySem.W.nsIn K mainGlobals "BadCase" = some (some (.ref C_BadCase)))
    (ax_BadCase : PySem.W.excIn K C_BadCase [.type "ValueError", .type "Exception", .type "BaseException", .type "object"] "ValueError.__new__" = true)
    (ak_BadCase : PySem.W.keepIn K (.ref C_BadCase) = true) (ap_BadCase : PySem.W.subIn K (.ref C_BadCase) (.type "BaseException") = some true) (at_BadCase : PySem.W.typeIn K (.ref C_BadCase) = some (.type "type")) (ai_BadCase : PySem.W.isClsIn K C_BadCase = true)
    (q_BadCase_BadHouse : PySem.W.subIn K (.ref C_BadCase) (.ref C_BadHouse) = some false)
    (q_BadCase_BadCase : PySem.W.subIn K (.ref C_BadCase) (.ref C_BadCase) = some true)
    (q_BadCase_LaneError : PySem.W.subIn K (.ref C_BadCase) (.ref C_LaneError) = some true)
    (hn : PySem.W.specialIn K (.builtin "object.__class__") "__get__" = some (some (.builtin "getset_descriptor.__get__"))) (ht : PySem.W.takesIn K (.builtin "object.__class__") = some true)
    (e1_BadCase : PySem.W.findIn K (.ref C_BadCase) "__getattribute__" = some (some (.builtin "BaseException.__getattribute__"))) (e2_BadCase : PySem.W.findIn K (.ref C_BadCase) "__getattr__" = some none) (e3_BadCase : PySem.W.hasDictIn K C_BadCase = true)
    (e4_BadCase : PySem.W.findIn K (.ref C_BadCase) "__class__" = some (some (.builtin "object.__class__"))) (e5_BadCase : PySem.W.mroIn K C_BadCase (.type "object") = some true) (v_BadCase : PySem.W.subIn K (.ref C_BadCase) (.type "ValueError") = some true) :
    ∃ fd : FuncData, (∀ (s : Shared) (v : Value), BindsTo s fd ⟨[v], []⟩ [("_law_script", v)]) ∧ ∀ base : Heap, K.In base → base.Ns mainGlobals mg → FnOk P w K mg base CX0 9 fa fd ["_law_script"] (spLaw K) := by
  have e := hfa.symm.trans (PySem.W.mg_of X G a_law)
  cases e
  have F_is_whole := fun_mk (st := s_is_whole) l_is_whole c_is_whole k_is_whole
  have b_is_whole := F_is_whole.binds (ps := ["thing", "low", "high"]) fun _ _ _ _ _ _ us hl => match us, hl with | [_, _, _], _ => rfl
  have F_is_word := fun_mk (st := s_is_word) l_is_word c_is_word k_is_word
  have b_is_word := F_is_word.binds (ps := ["thing", "words"]) fun _ _ _ _ _ _ us hl => match us, hl with | [_, _], _ => rfl
  have F_is_row := fun_mk (st := s_is_row) l_is_row c_is_row k_is_row
  have b_is_row := F_is_row.binds (ps := ["thing", "low", "high"]) fun _ _ _ _ _ _ us hl => match us, hl with | [_, _, _], _ => rfl
  have F_is_counts := fun_mk (st := s_is_counts) l_is_counts c_is_counts k_is_counts
  have b_is_counts := F_is_counts.binds (ps := ["thing"]) fun _ _ _ _ _ _ us hl => match us, hl with | [_], _ => rfl
  have F_is_course := fun_mk (st := s_is_course) l_is_course c_is_course k_is_course
  have b_is_course := F_is_course.binds (ps := ["thing", "counts"]) fun _ _ _ _ _ _ us hl => match us, hl with | [_, _], _ => rfl
  have F_is_house := fun_mk (st := s_is_house) l_is_house c_is_house k_is_house
  have b_is_house := F_is_house.binds (ps := ["thing"]) fun _ _ _ _ _ _ us hl => match us, hl with | [_], _ => rfl
  have F_is_case := fun_mk (st := s_is_case) l_is_case c_is_case k_is_case
  have b_is_case := F_is_case.binds (ps := ["thing"]) fun _ _ _ _ _ _ us hl => match us, hl with | [_], _ => rfl
  have F_house_of := fun_mk (st := s_house_of) l_house_of c_house_of k_house_of
  have b_house_of := F_house_of.binds (ps := ["case"]) fun _ _ _ _ _ _ us hl => match us, hl with | [_], _ => rfl
  have F_is_frame := fun_mk (st := s_is_frame) l_is_frame c_is_frame k_is_frame
  have b_is_frame := F_is_frame.binds (ps := ["scheme", "plan", "counts"]) fun _ _ _ _ _ _ us hl => match us, hl with | [_, _, _], _ => rfl
  have F_are_fitting := fun_mk (st := s_are_fitting) l_are_fitting c_are_fitting k_are_fitting
  have b_are_fitting := F_are_fitting.binds (ps := ["counts", "plan"]) fun _ _ _ _ _ _ us hl => match us, hl with | [_, _], _ => rfl
  have F_is_scheme := fun_mk (st := s_is_scheme) l_is_scheme c_is_scheme k_is_scheme
  have b_is_scheme := F_is_scheme.binds (ps := ["thing"]) fun _ _ _ _ _ _ us hl => match us, hl with | [_], _ => rfl
  have F_is_plan := fun_mk (st := s_is_plan) l_is_plan c_is_plan k_is_plan
  have b_is_plan := F_is_plan.binds (ps := ["thing"]) fun _ _ _ _ _ _ us hl => match us, hl with | [_], _ => rfl
  have F_check_case := fun_mk (st := s_check_case) l_check_case c_check_case k_check_case
  have b_check_case := F_check_case.binds (ps := ["case"]) fun _ _ _ _ _ _ us hl => match us, hl with | [_], _ => rfl
  have F_are_keys := fun_mk (st := s_are_keys) l_are_keys c_are_keys k_are_keys
  have b_are_keys := F_are_keys.binds (ps := ["courses", "letters", "counts"]) fun _ _ _ _ _ _ us hl => match us, hl with | [_, _, _], _ => rfl
  have F_law_source := fun_mk (st := s_law_source) l_law_source c_law_source k_law_source
  have b_law_source := F_law_source.binds (ps := ["_law_script"]) fun _ _ _ _ _ _ us hl => match us, hl with | [_], _ => rfl
  have F_law_draw := fun_mk (st := s_law_draw) l_law_draw c_law_draw k_law_draw
  have b_law_draw := F_law_draw.binds (ps := ["_law_source_here", "_law_limit"]) fun _ _ _ _ _ _ us hl => match us, hl with | [_, _], _ => rfl
  have F_law_words := fun_mk (st := s_law_words) l_law_words c_law_words k_law_words
  have b_law_words := F_law_words.binds (ps := ["_law_source_here", "_law_room"]) fun _ _ _ _ _ _ us hl => match us, hl with | [_, _], _ => rfl
  have F_law_scheme := fun_mk (st := s_law_scheme) l_law_scheme c_law_scheme k_law_scheme
  have b_law_scheme := F_law_scheme.binds (ps := ["_law_source_here"]) fun _ _ _ _ _ _ us hl => match us, hl with | [_], _ => rfl
  have F_law_house := fun_mk (st := s_law_house) l_law_house c_law_house k_law_house
  have b_law_house := F_law_house.binds (ps := ["_law_source_here", "_law_least", "_law_keys"]) fun _ _ _ _ _ _ us hl => match us, hl with | [_, _, _], _ => rfl
  have F_law_put := fun_mk (st := s_law_put) l_law_put c_law_put k_law_put
  have b_law_put := F_law_put.binds (ps := ["_law_row", "_law_at", "_law_thing"]) fun _ _ _ _ _ _ us hl => match us, hl with | [_, _, _], _ => rfl
  have F_law_bad_scheme := fun_mk (st := s_law_bad_scheme) l_law_bad_scheme c_law_bad_scheme k_law_bad_scheme
  have b_law_bad_scheme := F_law_bad_scheme.binds (ps := ["_law_scheme_here", "_law_which"]) fun _ _ _ _ _ _ us hl => match us, hl with | [_, _], _ => rfl
  have F_law_bad_plan := fun_mk (st := s_law_bad_plan) l_law_bad_plan c_law_bad_plan k_law_bad_plan
  have b_law_bad_plan := F_law_bad_plan.binds (ps := ["_law_plan", "_law_which", "_law_at"]) fun _ _ _ _ _ _ us hl => match us, hl with | [_, _, _], _ => rfl
  have F_law_bad_counts := fun_mk (st := s_law_bad_counts) l_law_bad_counts c_law_bad_counts k_law_bad_counts
  have b_law_bad_counts := F_law_bad_counts.binds (ps := ["_law_counts", "_law_which", "_law_at"]) fun _ _ _ _ _ _ us hl => match us, hl with | [_, _, _], _ => rfl
  have F_law_bad_course := fun_mk (st := s_law_bad_course) l_law_bad_course c_law_bad_course k_law_bad_course
  have b_law_bad_course := F_law_bad_course.binds (ps := ["_law_counts", "_law_course", "_law_which", "_law_at"]) fun _ _ _ _ _ _ us hl => match us, hl with | [_, _, _, _], _ => rfl
  have F_law_same := fun_mk (st := s_law_same) l_law_same c_law_same k_law_same
  have b_law_same := F_law_same.binds (ps := ["_law_found", "_law_due"]) fun _ _ _ _ _ _ us hl => match us, hl with | [_, _], _ => rfl
  have F_law_bad_case := fun_mk (st := s_law_bad_case) l_law_bad_case c_law_bad_case k_law_bad_case
  have b_law_bad_case := F_law_bad_case.binds (ps := ["_law_case", "_law_part", "_law_which", "_law_at"]) fun _ _ _ _ _ _ us hl => match us, hl with | [_, _, _, _], _ => rfl
  have F_law_told := fun_mk (st := s_law_told) l_law_told c_law_told k_law_told
  have b_law_told := F_law_told.binds (ps := ["_law_case"]) fun _ _ _ _ _ _ us hl => match us, hl with | [_], _ => rfl
  have F_law := fun_mk (st := s_law) l_law c_law k_law
  have b_law := F_law.binds (ps := ["_law_script"]) fun _ _ _ _ _ _ us hl => match us, hl with | [_], _ => rfl
  exact ⟨PySem.W.fnOf "law" "law" (defArgs s_law) (defBody s_law) (defScope s_law) .none kV_law dc_law pm_law an_law cd_law ct_law, fun s v => .of_eq rfl, fun base _ _ => ok_law (P := P) (w := w) (mg := mg) (base := base) ({ a_is_whole := _, d_is_whole := _, F_is_whole := F_is_whole, g_is_whole := PySem.W.mg_of X G a_is_whole, b_is_whole := b_is_whole, a_is_word := _, d_is_word := _, F_is_word := F_is_word, g_is_word := PySem.W.mg_of X G a_is_word, b_is_word := b_is_word, a_is_row := _, d_is_row := _, F_is_row := F_is_row, g_is_row := PySem.W.mg_of X G a_is_row, b_is_row := b_is_row, a_is_counts := _, d_is_counts := _, F_is_counts := F_is_counts, g_is_counts := PySem.W.mg_of X G a_is_counts, b_is_counts := b_is_counts, a_is_course := _, d_is_course := _, F_is_course := F_is_course, g_is_course := PySem.W.mg_of X G a_is_course, b_is_course := b_is_course, a_is_house := _, d_is_house := _, F_is_house := F_is_house, g_is_house := PySem.W.mg_of X G a_is_house, b_is_house := b_is_house, a_is_case := _, d_is_case := _, F_is_case := F_is_case, g_is_case := PySem.W.mg_of X G a_is_case, b_is_case := b_is_case, a_house_of := _, d_house_of := _, F_house_of := F_house_of, g_house_of := PySem.W.mg_of X G a_house_of, b_house_of := b_house_of, a_is_frame := _, d_is_frame := _, F_is_frame := F_is_frame, g_is_frame := PySem.W.mg_of X G a_is_frame, b_is_frame := b_is_frame, a_are_fitting := _, d_are_fitting := _, F_are_fitting := F_are_fitting, g_are_fitting := PySem.W.mg_of X G a_are_fitting, b_are_fitting := b_are_fitting, a_is_scheme := _, d_is_scheme := _, F_is_scheme := F_is_scheme, g_is_scheme := PySem.W.mg_of X G a_is_scheme, b_is_scheme := b_is_scheme, a_is_plan := _, d_is_plan := _, F_is_plan := F_is_plan, g_is_plan := PySem.W.mg_of X G a_is_plan, b_is_plan := b_is_plan, a_check_case := _, d_check_case := _, F_check_case := F_check_case, g_check_case := PySem.W.mg_of X G a_check_case, b_check_case := b_check_case, a_are_keys := _, d_are_keys := _, F_are_keys := F_are_keys, g_are_keys := PySem.W.mg_of X G a_are_keys, b_are_keys := b_are_keys, a_law_source := _, d_law_source := _, F_law_source := F_law_source, g_law_source := PySem.W.mg_of X G a_law_source, b_law_source := b_law_source, a_law_draw := _, d_law_draw := _, F_law_draw := F_law_draw, g_law_draw := PySem.W.mg_of X G a_law_draw, b_law_draw := b_law_draw, a_law_words := _, d_law_words := _, F_law_words := F_law_words, g_law_words := PySem.W.mg_of X G a_law_words, b_law_words := b_law_words, a_law_scheme := _, d_law_scheme := _, F_law_scheme := F_law_scheme, g_law_scheme := PySem.W.mg_of X G a_law_scheme, b_law_scheme := b_law_scheme, a_law_house := _, d_law_house := _, F_law_house := F_law_house, g_law_house := PySem.W.mg_of X G a_law_house, b_law_house := b_law_house, a_law_put := _, d_law_put := _, F_law_put := F_law_put, g_law_put := PySem.W.mg_of X G a_law_put, b_law_put := b_law_put, a_law_bad_scheme := _, d_law_bad_scheme := _, F_law_bad_scheme := F_law_bad_scheme, g_law_bad_scheme := PySem.W.mg_of X G a_law_bad_scheme, b_law_bad_scheme := b_law_bad_scheme, a_law_bad_plan := _, d_law_bad_plan := _, F_law_bad_plan := F_law_bad_plan, g_law_bad_plan := PySem.W.mg_of X G a_law_bad_plan, b_law_bad_plan := b_law_bad_plan, a_law_bad_counts := _, d_law_bad_counts := _, F_law_bad_counts := F_law_bad_counts, g_law_bad_counts := PySem.W.mg_of X G a_law_bad_counts, b_law_bad_counts := b_law_bad_counts, a_law_bad_course := _, d_law_bad_course := _, F_law_bad_course := F_law_bad_course, g_law_bad_course := PySem.W.mg_of X G a_law_bad_course, b_law_bad_course := b_law_bad_course, a_law_same := _, d_law_same := _, F_law_same := F_law_same, g_law_same := PySem.W.mg_of X G a_law_same, b_law_same := b_law_same, a_law_bad_case := _, d_law_bad_case := _, F_law_bad_case := F_law_bad_case, g_law_bad_case := PySem.W.mg_of X G a_law_bad_case, b_law_bad_case := b_law_bad_case, a_law_told := _, d_law_told := _, F_law_told := F_law_told, g_law_told := PySem.W.mg_of X G a_law_told, b_law_told := b_law_told, a_law := _, d_law := _, F_law := F_law, g_law := PySem.W.mg_of X G a_law, b_law := b_law, z_ValueError := PySem.W.mg_none_of X G z_ValueError, z_all := PySem.W.mg_none_of X G z_all, z_bool := PySem.W.mg_none_of X G z_bool, z_int := PySem.W.mg_none_of X G z_int, z_isinstance := PySem.W.mg_none_of X G z_isinstance, z_len := PySem.W.mg_none_of X G z_len, z_list := PySem.W.mg_none_of X G z_list, z_range := PySem.W.mg_none_of X G z_range, z_str := PySem.W.mg_none_of X G z_str, z_tuple := PySem.W.mg_none_of X G z_tuple, z_zip := PySem.W.mg_none_of X G z_zip, u_GREATEST_OF_COUNTS := _, g_GREATEST_OF_COUNTS := PySem.W.mg_of X G a_GREATEST_OF_COUNTS, r_GREATEST_OF_COUNTS := ⟨_, rfl⟩, c_REFUSALS := _, g_REFUSALS := PySem.W.mg_of X G a_REFUSALS, r_REFUSALS := rfl, q_REFUSALS := fun _ => .inr ⟨_, _, _, l_REFUSALS, rfl, rfl, by show 2 ≤ sizeLine; decide, .cons ⟨_, rfl⟩ (.cons ⟨_, rfl⟩ (.nil))⟩, c_NOTINGS := _, g_NOTINGS := PySem.W.mg_of X G a_NOTINGS, r_NOTINGS := rfl, q_NOTINGS := fun _ => .inr ⟨_, _, _, l_NOTINGS, rfl, rfl, by show 3 ≤ sizeLine; decide, .cons ⟨_, rfl⟩ (.cons ⟨_, rfl⟩ (.cons ⟨_, rfl⟩ (.nil)))⟩, c_WORDS := _, g_WORDS := PySem.W.mg_of X G a_WORDS, r_WORDS := rfl, q_WORDS := fun _ => .inr ⟨_, _, _, l_WORDS, rfl, rfl, by show 9 ≤ sizeLine; decide, .cons ⟨_, rfl⟩ (.cons ⟨_, rfl⟩ (.cons ⟨_, rfl⟩ (.cons ⟨_, rfl⟩ (.cons ⟨_, rfl⟩ (.cons ⟨_, rfl⟩ (.cons ⟨_, rfl⟩ (.cons ⟨_, rfl⟩ (.cons ⟨_, rfl⟩ (.nil)))))))))⟩, u_MOST_WORDS := _, g_MOST_WORDS := PySem.W.mg_of X G a_MOST_WORDS, r_MOST_WORDS := ⟨_, rfl⟩, u_MOST_SHOWS := _, g_MOST_SHOWS := PySem.W.mg_of X G a_MOST_SHOWS, r_MOST_SHOWS := ⟨_, rfl⟩, u_MOST_KEYS := _, g_MOST_KEYS := PySem.W.mg_of X G a_MOST_KEYS, r_MOST_KEYS := ⟨_, rfl⟩, u_MOST_LETTERS := _, g_MOST_LETTERS := PySem.W.mg_of X G a_MOST_LETTERS, r_MOST_LETTERS := ⟨_, rfl⟩, u_MOST_SENDERS := _, g_MOST_SENDERS := PySem.W.mg_of X G a_MOST_SENDERS, r_MOST_SENDERS := ⟨_, rfl⟩, u_LETTERS_OF_A_CASE := _, g_LETTERS_OF_A_CASE := PySem.W.mg_of X G a_LETTERS_OF_A_CASE, r_LETTERS_OF_A_CASE := ⟨_, rfl⟩, u_SENDERS_OF_A_CASE := _, g_SENDERS_OF_A_CASE := PySem.W.mg_of X G a_SENDERS_OF_A_CASE, r_SENDERS_OF_A_CASE := ⟨_, rfl⟩, C_LaneError := _, g_LaneError := PySem.W.mg_of X G ag_LaneError, x_LaneError := ax_LaneError, k_LaneError := ak_LaneError, p_LaneError := ap_LaneError, t_LaneError := at_LaneError, i_LaneError := ai_LaneError, C_BadHouse := _, g_BadHouse := PySem.W.mg_of X G ag_BadHouse, x_BadHouse := ax_BadHouse, k_BadHouse := ak_BadHouse, p_BadHouse := ap_BadHouse, t_BadHouse := at_BadHouse, i_BadHouse := ai_BadHouse, C_BadCase := _, g_BadCase := PySem.W.mg_of X G ag_BadCase, x_BadCase := ax_BadCase, k_BadCase := ak_BadCase, p_BadCase := ap_BadCase, t_BadCase := at_BadCase, i_BadCase := ai_BadCase, q_BadCase_BadHouse := q_BadCase_BadHouse, q_BadCase_BadCase := q_BadCase_BadCase, q_BadCase_LaneError := q_BadCase_LaneError, e_BadCase := ⟨e1_BadCase, e2_BadCase, ap_BadCase, e3_BadCase, e4_BadCase, hn, ht, e5_BadCase⟩, v_BadCase := v_BadCase } : Txt K mg)⟩
end K09
open PySem PySem.W PyProof.Rows
set_option maxRecDepth 100000 in
set_option maxHeartbeats 0 in
theorem PySem.Challenge.cw_lanescounted_k09_what_is_a_case_holds : PySem.Challenge.rw_lanescounted_k09_what_is_a_case.Holds := by
  w_on; o_law; k_head; (case hw => w_witness2)
  k_fill
  refine L2.walk_ofB (l := PySem.Challenge.rw_lanescounted_k09_what_is_a_case) (n := 63) (k := 9) (x := "_law_script") (CX := fun w => L2.CX0) (sp := fun w => K09.spLaw _) rfl (by decide) rfl ⟨rfl, by decide, by decide⟩ (fun w h Y => PySem.W.kIn_of Y) ?F (fun _ _ a ns hl hb _ hS => ⟨a, ns, rfl, hS, hl, hb, fun _ => rfl⟩) (fun _ _ _ _ _ h => h)
  case F =>
    intro w mg fa h KX G hmg
    refine' K09.all_mk KX G hmg ?a_is_whole ?l_is_whole ?c_is_whole ?k_is_whole ?a_is_word ?l_is_word ?c_is_word ?k_is_word ?a_is_row ?l_is_row ?c_is_row ?k_is_row ?a_is_counts ?l_is_counts ?c_is_counts ?k_is_counts ?a_is_course ?l_is_course ?c_is_course ?k_is_course ?a_is_house ?l_is_house ?c_is_house ?k_is_house ?a_is_case ?l_is_case ?c_is_case ?k_is_case ?a_house_of ?l_house_of ?c_house_of ?k_house_of ?a_is_frame ?l_is_frame ?c_is_frame ?k_is_frame ?a_are_fitting ?l_are_fitting ?c_are_fitting ?k_are_fitting ?a_is_scheme ?l_is_scheme ?c_is_scheme ?k_is_scheme ?a_is_plan ?l_is_plan ?c_is_plan ?k_is_plan ?a_check_case ?l_check_case ?c_check_case ?k_check_case ?a_are_keys ?l_are_keys ?c_are_keys ?k_are_keys ?a_law_source ?l_law_source ?c_law_source ?k_law_source ?a_law_draw ?l_law_draw ?c_law_draw ?k_law_draw ?a_law_words ?l_law_words ?c_law_words ?k_law_words ?a_law_scheme ?l_law_scheme ?c_law_scheme ?k_law_scheme ?a_law_house ?l_law_house ?c_law_house ?k_law_house ?a_law_put ?l_law_put ?c_law_put ?k_law_put ?a_law_bad_scheme ?l_law_bad_scheme ?c_law_bad_scheme ?k_law_bad_scheme ?a_law_bad_plan ?l_law_bad_plan ?c_law_bad_plan ?k_law_bad_plan ?a_law_bad_counts ?l_law_bad_counts ?c_law_bad_counts ?k_law_bad_counts ?a_law_bad_course ?l_law_bad_course ?c_law_bad_course ?k_law_bad_course ?a_law_same ?l_law_same ?c_law_same ?k_law_same ?a_law_bad_case ?l_law_bad_case ?c_law_bad_case ?k_law_bad_case ?a_law_told ?l_law_told ?c_law_told ?k_law_told ?a_law ?l_law ?c_law ?k_law ?z_ValueError ?z_all ?z_bool ?z_int ?z_isinstance ?z_len ?z_list ?z_range ?z_str ?z_tuple ?z_zip ?a_GREATEST_OF_COUNTS ?a_REFUSALS ?l_REFUSALS ?a_NOTINGS ?l_NOTINGS ?a_WORDS ?l_WORDS ?a_MOST_WORDS ?a_MOST_SHOWS ?a_MOST_KEYS ?a_MOST_LETTERS ?a_MOST_SENDERS ?a_LETTERS_OF_A_CASE ?a_SENDERS_OF_A_CASE ?ag_LaneError ?ax_LaneError ?ak_LaneError ?ap_LaneError ?at_LaneError ?ai_LaneError ?ag_BadHouse ?ax_BadHouse ?ak_BadHouse ?ap_BadHouse ?at_BadHouse ?ai_BadHouse ?ag_BadCase ?ax_BadCase ?ak_BadCase ?ap_BadCase ?at_BadCase ?ai_BadCase ?q_BadCase_BadHouse ?q_BadCase_BadCase ?q_BadCase_LaneError ?hn ?ht ?e1_BadCase ?e2_BadCase ?e3_BadCase ?e4_BadCase ?e5_BadCase ?v_BadCase
    (case a_is_whole => k_is)
    (case l_is_whole => k_is)
    (case c_is_whole => k_is)
    (case k_is_whole => k_is)
    (case a_is_word => k_is)
    (case l_is_word => k_is)
    (case c_is_word => k_is)
    (case k_is_word => k_is)
    (case a_is_row => k_is)
    (case l_is_row => k_is)
    (case c_is_row => k_is)
    (case k_is_row => k_is)
    (case a_is_counts => k_is)
    (case l_is_counts => k_is)
    (case c_is_counts => k_is)
    (case k_is_counts => k_is)
    (case a_is_course => k_is)
    (case l_is_course => k_is)
    (case c_is_course => k_is)
    (case k_is_course => k_is)
    (case a_is_house => k_is)
    (case l_is_house => k_is)
    (case c_is_house => k_is)
    (case k_is_house => k_is)
    (case a_is_case => k_is)
    (case l_is_case => k_is)
    (case c_is_case => k_is)
    (case k_is_case => k_is)
    (case a_house_of => k_is)
    (case l_house_of => k_is)
    (case c_house_of => k_is)
    (case k_house_of => k_is)
    (case a_is_frame => k_is)
    (case l_is_frame => k_is)
    (case c_is_frame => k_is)
    (case k_is_frame => k_is)
    (case a_are_fitting => k_is)
    (case l_are_fitting => k_is)
    (case c_are_fitting => k_is)
    (case k_are_fitting => k_is)
    (case a_is_scheme => k_is)
    (case l_is_scheme => k_is)
    (case c_is_scheme => k_is)
    (case k_is_scheme => k_is)
    (case a_is_plan => k_is)
    (case l_is_plan => k_is)
    (case c_is_plan => k_is)
    (case k_is_plan => k_is)
    (case a_check_case => k_is)
    (case l_check_case => k_is)
    (case c_check_case => k_is)
    (case k_check_case => k_is)
    (case a_are_keys => k_is)
    (case l_are_keys => k_is)
    (case c_are_keys => k_is)
    (case k_are_keys => k_is)
    (case a_law_source => k_is)
    (case l_law_source => k_is)
    (case c_law_source => k_is)
    (case k_law_source => k_is)
    (case a_law_draw => k_is)
    (case l_law_draw => k_is)
    (case c_law_draw => k_is)
    (case k_law_draw => k_is)
    (case a_law_words => k_is)
    (case l_law_words => k_is)
    (case c_law_words => k_is)
    (case k_law_words => k_is)
    (case a_law_scheme => k_is)
    (case l_law_scheme => k_is)
    (case c_law_scheme => k_is)
    (case k_law_scheme => k_is)
    (case a_law_house => k_is)
    (case l_law_house => k_is)
    (case c_law_house => k_is)
    (case k_law_house => k_is)
    (case a_law_put => k_is)
    (case l_law_put => k_is)
    (case c_law_put => k_is)
    (case k_law_put => k_is)
    (case a_law_bad_scheme => k_is)
    (case l_law_bad_scheme => k_is)
    (case c_law_bad_scheme => k_is)
    (case k_law_bad_scheme => k_is)
    (case a_law_bad_plan => k_is)
    (case l_law_bad_plan => k_is)
    (case c_law_bad_plan => k_is)
    (case k_law_bad_plan => k_is)
    (case a_law_bad_counts => k_is)
    (case l_law_bad_counts => k_is)
    (case c_law_bad_counts => k_is)
    (case k_law_bad_counts => k_is)
    (case a_law_bad_course => k_is)
    (case l_law_bad_course => k_is)
    (case c_law_bad_course => k_is)
    (case k_law_bad_course => k_is)
    (case a_law_same => k_is)
    (case l_law_same => k_is)
    (case c_law_same => k_is)
    (case k_law_same => k_is)
    (case a_law_bad_case => k_is)
    (case l_law_bad_case => k_is)
    (case c_law_bad_case => k_is)
    (case k_law_bad_case => k_is)
    (case a_law_told => k_is)
    (case l_law_told => k_is)
    (case c_law_told => k_is)
    (case k_law_told => k_is)
    (case a_law => k_is)
    (case l_law => k_is)
    (case c_law => k_is)
    (case k_law => k_is)
    (case z_ValueError => k_is)
    (case z_all => k_is)
    (case z_bool => k_is)
    (case z_int => k_is)
    (case z_isinstance => k_is)
    (case z_len => k_is)
    (case z_list => k_is)
    (case z_range => k_is)
    (case z_str => k_is)
    (case z_tuple => k_is)
    (case z_zip => k_is)
    (case a_GREATEST_OF_COUNTS => k_is)
    (case a_REFUSALS => k_is)
    (case l_REFUSALS => k_is)
    (case a_NOTINGS => k_is)
    (case l_NOTINGS => k_is)
    (case a_WORDS => k_is)
    (case l_WORDS => k_is)
    (case a_MOST_WORDS => k_is)
    (case a_MOST_SHOWS => k_is)
    (case a_MOST_KEYS => k_is)
    (case a_MOST_LETTERS => k_is)
    (case a_MOST_SENDERS => k_is)
    (case a_LETTERS_OF_A_CASE => k_is)
    (case a_SENDERS_OF_A_CASE => k_is)
    (case ag_LaneError => k_is)
    (case ax_LaneError => k_exc)
    (case ak_LaneError => k_is)
    (case ap_LaneError => k_is)
    (case at_LaneError => k_is)
    (case ai_LaneError => k_is)
    (case ag_BadHouse => k_is)
    (case ax_BadHouse => k_exc)
    (case ak_BadHouse => k_is)
    (case ap_BadHouse => k_is)
    (case at_BadHouse => k_is)
    (case ai_BadHouse => k_is)
    (case ag_BadCase => k_is)
    (case ax_BadCase => k_exc)
    (case ak_BadCase => k_is)
    (case ap_BadCase => k_is)
    (case at_BadCase => k_is)
    (case ai_BadCase => k_is)
    (case q_BadCase_BadHouse => k_is)
    (case q_BadCase_BadCase => k_is)
    (case q_BadCase_LaneError => k_is)
    (case hn => k_is)
    (case ht => k_is)
    (case e1_BadCase => k_is)
    (case e2_BadCase => k_is)
    (case e3_BadCase => k_is)
    (case e4_BadCase => k_is)
    (case e5_BadCase => k_is)
    (case v_BadCase => k_is)
