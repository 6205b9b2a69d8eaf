import PyProof.Rows.All
import Wide.All
import OpenK.AllK
import Wide.FinOn
import HandS.ForMost
import HandS.Evl
import HandS.Wide
import HandS.WideBits
import HandS.IsInst
import HandS.Gcd
import PySem.Challenge.RW_polyarith_k01_value
set_option Elab.async false
set_option linter.all false
set_option maxRecDepth 100000
set_option maxHeartbeats 4000000
/-! Pre: short words over the hand layer: operators' readings by name, rules for what evaluates, promises of pure defs. -/
namespace PP
open PySem PySem.Spec PyProof.Rows L2 Evl

/-! ### operators by short names -/
abbrev oAdd : R2 := rI0 fun i j => .int (i + j)
abbrev oSub : R2 := rI0 fun i j => .int (i - j)
abbrev oMul : R2 := rI CMulX fun i j => .int (i * j)
abbrev oDiv : R2 := rI CDivW fun i j => .int (i / j)
abbrev oMod : R2 := rI (fun _ j => 0 < j) fun i j => .int (i % j)
abbrev oPow : R2 := rI CPow fun i j => .int (i ^ j.toNat)
abbrev oLt : R2 := rI0 fun i j => .bl (decide (i < j))
abbrev oLe : R2 := rI0 fun i j => .bl (decide (i ≤ j))
abbrev oGt : R2 := rI0 fun i j => .bl (decide (j < i))
abbrev oGe : R2 := rI0 fun i j => .bl (decide (j ≤ i))
abbrev uNeg : V → Hp → VK → Prop := rU fun i => .int (-i)
abbrev rAbs : List V → Hp → VK → Prop := fun xs H Q => ∃ i, xs = [.int i] ∧ Q (.int (if i < 0 then -i else i)) H
abbrev rMin2 : List V → Hp → VK → Prop := fun xs H Q => ∃ i j, xs = [.int i, .int j] ∧ Q (.int (if j < i then j else i)) H

/-! ### a def that is called by its name -/
structure Cl (P : Program) (w : World) (K : PySem.W.Frag) (mg : Str → Option Value) (base : Heap) (k : Nat) (x : Str) (sp : Sp) : Prop where
  ex : ∃ (f : Addr) (fd : FuncData) (ps : List Str), FnOk P w K mg base CX0 k f fd ps sp ∧ mg x = some (.ref f) ∧ PySem.W.keepIn K (.ref f) = true ∧ Binds K fd ps []
section
variable {X : Cx} {k j : Nat} {x : Str} {sp : Sp} {p pos : Pos} {e : Expr} {es : List Expr} {t : TA}
theorem pcl (c : Cl X.prog X.w X.K X.mg X.base k x sp) (hr : Room j X.A) (hk : k ≤ j) (hg : Gl X x) (ha : PA X (e :: es) t)
    (hdb : (x == ("__debug__" : Str)) = false := by decide) (he : starEach (e :: es) X.env = (false, eval e X.env) :: starEach es X.env := by rfl) (hpl : (backTo pos (starEach es X.env)).any (·.1) = false := by rfl) :
    PE X (.Call (.Name x p) (e :: es) [] pos) (tCall sp [] E0 t) := by
  obtain ⟨f, fd, ps, F, hm, kp, b⟩ := c.ex
  exact pe_call F (hr.mono hk) hg hm kp b .nil pass0 ha hdb he hpl
end

/-! ### more of what evaluates -/
section
variable {K : PySem.W.Frag} {σ : L2.St} {H H' : Hp} {ta tb te tx : TE} {t u : TT} {x y z v : V} {r : R2}
/-- what a value satisfies behind: the general form -/
def EvP (te : TE) (σ : L2.St) (H : Hp) (P : V → Hp → Prop) : Prop := ∀ H1, Ex H H1 → ∀ Q : VK, (∀ v H2, Ex H1 H2 → P v H2 → Q v H2) → te σ H1 Q
theorem ev_abs {i : Int} (ha : Ev ta σ H (.int i)) : Ev (tCB rAbs (tCons ta tNil)) σ H (.int (if i < 0 then -i else i)) := fun H1 e Q q =>
  ha H1 e _ fun H2 e2 => ⟨i, rfl, q H2 e2⟩
theorem ev_min2 {i j : Int} (ha : Ev ta σ H (.int i)) (hb : Ev tb σ H (.int j)) : Ev (tCB rMin2 (tCons ta (tCons tb tNil))) σ H (.int (if j < i then j else i)) := fun H1 e Q q =>
  ha H1 e _ fun H2 e2 => hb H2 (e.trans e2) _ fun H3 e3 => ⟨i, j, rfl, q H3 (e2.trans e3)⟩
/-- isinstance(x, T), both built in -/
theorem tyx_ex {K : PySem.W.Frag} {T : String} {a : Addr} {xs : List V} (e : Ex H H') (h : H a = some (.lst xs)) : TyX K H' (.ref a) (.type "list") := .base (.lst (e _ _ h))
theorem ev_isinst {T U : String} {b : Bool} (ha : Ev ta σ H x) (ty : ∀ H1, Ex H H1 → TyX K H1 x (.type T)) (hb : kitB T U = some b) : Ev (tCB (rIsi K) (tCons ta (tCons (tC (.ty U)) tNil))) σ H (.bl b) := fun H1 e Q q =>
  ha H1 e _ fun H2 e2 => ⟨x, .ty U, .type T, .type U, b, rfl, .ty U, ty H2 (e.trans e2), kit_ty hb, q H2 e2⟩
theorem ty_int {K : PySem.W.Frag} {i : Int} : ∀ H1, Ex H H1 → TyX K H1 (.int i) (.type "int") := fun _ _ => .base (.int i)
theorem ty_lst {K : PySem.W.Frag} {a : Addr} {xs : List V} (h : H a = some (.lst xs)) : ∀ H1, Ex H H1 → TyX K H1 (.ref a) (.type "list") := fun _ e => .base (.lst (e _ _ h))
theorem ty_tup {K : PySem.W.Frag} {a : Addr} {xs : List V} (h : H a = some (.tup xs)) : ∀ H1, Ex H H1 → TyX K H1 (.ref a) (.type "tuple") := fun _ e => .base (.tup (e _ _ h))
/-- products, quotients with their conditions -/
theorem ev_mul {i j : Int} (ha : Ev ta σ H (.int i)) (hb : Ev tb σ H (.int j)) (hc : CMulX i j) : Ev (tOp oMul ta tb) σ H (.int (i * j)) := ev_op ha hb (rv_I hc)
theorem ev_div {i j : Int} (ha : Ev ta σ H (.int i)) (hb : Ev tb σ H (.int j)) (hc : CDivW i j) : Ev (tOp oDiv ta tb) σ H (.int (i / j)) := ev_op ha hb (rv_I hc)
theorem ev_mod {i j : Int} (ha : Ev ta σ H (.int i)) (hb : Ev tb σ H (.int j)) (hc : 0 < j) : Ev (tOp oMod ta tb) σ H (.int (i % j)) := ev_op ha hb (rv_I hc)
theorem ev_pow {i j : Int} (ha : Ev ta σ H (.int i)) (hb : Ev tb σ H (.int j)) (hc : CPow i j) : Ev (tOp oPow ta tb) σ H (.int (i ^ j.toNat)) := ev_op ha hb (rv_I hc)
theorem ev_neg {i : Int} (ha : Ev ta σ H (.int i)) : Ev (tUn uNeg ta) σ H (.int (-i)) := ev_un ha ru_neg
theorem ev_add {i j : Int} (ha : Ev ta σ H (.int i)) (hb : Ev tb σ H (.int j)) : Ev (tOp oAdd ta tb) σ H (.int (i + j)) := ev_op ha hb rv_I0
theorem ev_sub {i j : Int} (ha : Ev ta σ H (.int i)) (hb : Ev tb σ H (.int j)) : Ev (tOp oSub ta tb) σ H (.int (i - j)) := ev_op ha hb rv_I0
theorem ev_lt {i j : Int} (ha : Ev ta σ H (.int i)) (hb : Ev tb σ H (.int j)) : Ev (tOp oLt ta tb) σ H (.bl (decide (i < j))) := ev_op ha hb rv_I0
theorem ev_le {i j : Int} (ha : Ev ta σ H (.int i)) (hb : Ev tb σ H (.int j)) : Ev (tOp oLe ta tb) σ H (.bl (decide (i ≤ j))) := ev_op ha hb rv_I0
theorem ev_gt {i j : Int} (ha : Ev ta σ H (.int i)) (hb : Ev tb σ H (.int j)) : Ev (tOp oGt ta tb) σ H (.bl (decide (j < i))) := ev_op ha hb rv_I0
theorem ev_ge {i j : Int} (ha : Ev ta σ H (.int i)) (hb : Ev tb σ H (.int j)) : Ev (tOp oGe ta tb) σ H (.bl (decide (j ≤ i))) := ev_op ha hb rv_I0
theorem ev_eqI {i j : Int} (ha : Ev ta σ H (.int i)) (hb : Ev tb σ H (.int j)) : Ev (tOp rEq ta tb) σ H (.bl (decide (i = j))) := by
  have h := ev_op ha hb (rv_eq (x := .int i) (y := .int j) rfl)
  have e : decide ((V.int i) = V.int j) = decide (i = j) := by
    by_cases h : i = j
    · subst h
      simp
    · simp [h]
  rw [e] at h
  exact h
theorem ev_neI {i j : Int} (ha : Ev ta σ H (.int i)) (hb : Ev tb σ H (.int j)) : Ev (tOp rNe ta tb) σ H (.bl (!decide (i = j))) := by
  have h := ev_op ha hb (rv_ne (x := .int i) (y := .int j) rfl)
  have e : decide ((V.int i) = V.int j) = decide (i = j) := by
    by_cases h : i = j
    · subst h
      simp
    · simp [h]
  rw [e] at h
  exact h
/-- an item of a list of ints -/
theorem ev_ixI {p : Addr} {ns : List Int} {i : Int} {j : Nat} (ha : Ev ta σ H (.ref p)) (hb : Ev tb σ H (.int i)) (h : SqL K H p (ns.map V.int)) (hi : i = (j : Int)) (hj : j < ns.length) : Ev (tOp (rIxL K) ta tb) σ H (.int (ns.getD j 0)) := by
  refine ev_op ha hb (rv_ixL h ?_)
  subst hi
  refine atI_nat ?_
  rw [List.getElem?_map, List.getElem?_eq_getElem hj, List.getD_eq_getElem?_getD, List.getElem?_eq_getElem hj]
  rfl
end

/-! ### sizes -/
theorem mulx {i j : Int} {a b : Nat} (ha : i.natAbs < 2 ^ a) (hb : j.natAbs < 2 ^ b) (h : a + b ≤ 134217728) : CMulX i j := mulx_ok ha hb h
theorem div_small {i j : Int} (h : 0 < j) (hb : j < 2 ^ 200) : CDivW i j := wide_div (b := 200) h (by omega) (by decide) (by decide)
theorem cut_take (ns : List Int) (k : Nat) : cutV (ns.map V.int) none (some (k : Int)) = (ns.take k).map V.int := by
  unfold cutV
  rw [HT.sIx_none, show HT.sIx (ns.map V.int).length (ns.map V.int).length (some (k : Int)) = min k (ns.map V.int).length from HT.sIx_nat (ns.map V.int).length _ k]
  rw [List.drop_zero, Nat.sub_zero, ← List.map_take]
  congr 1
  rw [List.length_map, List.take_eq_take_iff]
  omega
end PP
/-! Math: the plain functions that the defs compute, over lists of ints; no Python here. -/
namespace PP

/-- a row without the noughts at its end -/
def trimI : List Int → List Int
  | [] => []
  | x :: r => if trimI r = [] ∧ x = 0 then [] else x :: trimI r
theorem trim_take : ∀ (ns : List Int) (s : Nat), s ≤ ns.length → (∀ i, s ≤ i → i < ns.length → ns.getD i 0 = 0) → (s = 0 ∨ ns.getD (s - 1) 0 ≠ 0) → trimI ns = ns.take s
  | [], s, _, _, _ => by simp [trimI]
  | x :: r, 0, _, hz, _ => by
    have ih := trim_take r 0 (Nat.zero_le _) (fun i h1 h2 => by
      have := hz (i + 1) (by omega) (by simp; omega)
      simpa using this) (.inl rfl)
    have hx : x = 0 := by
      have := hz 0 (by omega) (by simp)
      simpa using this
    simp [trimI, ih, hx]
  | x :: r, k + 1, hs, hz, hn => by
    have hk : k ≤ r.length := by simpa using hs
    have h2 : k = 0 ∨ r.getD (k - 1) 0 ≠ 0 := by
      rcases k with _ | k
      · exact .inl rfl
      · right
        rcases hn with h | h
        · omega
        · simpa using h
    have ih := trim_take r k hk (fun i h1 h2 => by
      have := hz (i + 1) (by omega) (by simp; omega)
      simpa using this) h2
    have hne : ¬ (trimI r = [] ∧ x = 0) := by
      rintro ⟨e, hx⟩
      rcases k with _ | k
      · rcases hn with h | h
        · omega
        · simp at h
          exact h hx
      · rw [ih] at e
        have := congrArg List.length e
        rw [List.length_take, List.length_nil] at this
        omega
    show (if trimI r = [] ∧ x = 0 then [] else x :: trimI r) = _
    rw [if_neg hne, ih]
    rfl
theorem trim_len : ∀ ns : List Int, (trimI ns).length ≤ ns.length
  | [] => by simp [trimI]
  | x :: r => by
    have := trim_len r
    unfold trimI
    split
    · simp
    · simp
      omega
theorem trim_mem : ∀ (ns : List Int) (x : Int), x ∈ trimI ns → x ∈ ns
  | [], x, h => by simp [trimI] at h
  | y :: r, x, h => by
    unfold trimI at h
    split at h
    · simp at h
    · rcases List.mem_cons.mp h with h | h
      · exact h ▸ List.mem_cons_self
      · exact List.mem_cons_of_mem _ (trim_mem r x h)

theorem modN {i j : Int} (h : 0 < j) : i % j = ((i % j).toNat : Int) ∧ ((i % j).toNat : Int) < j := by
  have h1 : 0 ≤ i % j := Int.emod_nonneg _ (by omega)
  have h2 : i % j < j := Int.emod_lt_of_pos _ h
  omega
/-- the script's cell -/
def cellI (ns : List Int) (j : Nat) : Int := ns.getD j 0

/-- a number of a cell -/
def numI (c : Int) : Int := if c % 7 = 0 then 0 else if c % 7 = 1 then (1 - c / 7 % 2 * 2) * (c / 14 % 10 ^ 40) else c / 7 % 19 - 9
theorem num_lt (c : Int) : (numI c).natAbs < 2 ^ 133 := by
  unfold numI
  split
  · decide
  · split
    · rw [Int.natAbs_mul]
      have h1 : 0 ≤ c / 7 % 2 := Int.emod_nonneg _ (by decide)
      have h2 : c / 7 % 2 < 2 := Int.emod_lt_of_pos _ (by decide)
      have h3 : 0 ≤ c / 14 % 10 ^ 40 := Int.emod_nonneg _ (by decide)
      have h4 : c / 14 % 10 ^ 40 < 10 ^ 40 := Int.emod_lt_of_pos _ (by decide)
      have e1 : (1 - c / 7 % 2 * 2).natAbs = 1 := by omega
      rw [e1, Nat.one_mul]
      have : (10 : Int) ^ 40 < 2 ^ 133 := by decide
      omega
    · have h1 : 0 ≤ c / 7 % 19 := Int.emod_nonneg _ (by decide)
      have h2 : c / 7 % 19 < 19 := Int.emod_lt_of_pos _ (by decide)
      have : (2 : Nat) ^ 133 > 100 := by decide
      omega

/-- a drawn row -/
def drawnI (num : Int → Int) (ns : List Int) (place size many : Nat) : List Int :=
  trimI (if 0 < many then (List.range many).map fun (k : Nat) => num (cellI ns place + 97 * (k : Int) * (k : Int) + 13 * (k : Int)) else (List.range size).map fun (k : Nat) => num (cellI ns (place + k)))
theorem drawn_len (num : Int → Int) (ns : List Int) (place size many : Nat) : (drawnI num ns place size many).length ≤ max size many := by
  unfold drawnI
  refine Nat.le_trans (trim_len _) ?_
  split
  · rw [List.length_map, List.length_range]
    omega
  · rw [List.length_map, List.length_range]
    omega
theorem drawn_lt {num : Int → Int} {b : Nat} (hb : ∀ c, (num c).natAbs < b) (ns : List Int) (place size many : Nat) : ∀ x ∈ drawnI num ns place size many, x.natAbs < b := by
  intro x hx
  have h := trim_mem _ _ hx
  split at h
  · obtain ⟨k, _, e⟩ := List.mem_map.mp h
    rw [← e]
    exact hb _
  · obtain ⟨k, _, e⟩ := List.mem_map.mp h
    rw [← e]
    exact hb _

/-- what a row comes to at a place -/
def valI : List Int → Int → Int
  | [], _ => 0
  | x :: r, p => x + p * valI r p
theorem val_append (a b : List Int) (p : Int) : valI (a ++ b) p = valI a p + p ^ a.length * valI b p := by
  induction a with
  | nil => simp [valI]
  | cons x r ih =>
    simp only [List.cons_append, valI, ih, List.length_cons, Int.pow_succ]
    rw [Int.mul_add, ← Int.add_assoc, Int.mul_comm (p ^ r.length) p, Int.mul_assoc]
theorem val_lt {b c n : Nat} {p : Int} (hp : p.natAbs < 2 ^ c) : ∀ (ns : List Int), (∀ x ∈ ns, x.natAbs < 2 ^ b) → ns.length ≤ n → (valI ns p).natAbs < 2 ^ (b + n * (c + 1) + 1)
  | [], _, _ => by simp [valI]; exact Nat.two_pow_pos _
  | x :: r, h, hl => by
    rcases n with _ | n
    · simp at hl
    have ih := val_lt (n := n) hp r (fun y hy => h y (List.mem_cons_of_mem _ hy)) (by simpa using hl)
    have hx := h x List.mem_cons_self
    have h1 : (p * valI r p).natAbs < 2 ^ (c + (b + n * (c + 1) + 1)) := by
      rw [Int.natAbs_mul, Nat.pow_add]
      exact Nat.mul_lt_mul'' hp ih
    have h2 : b ≤ c + (b + n * (c + 1) + 1) := by omega
    have h3 : 2 ^ b ≤ 2 ^ (c + (b + n * (c + 1) + 1)) := Nat.pow_le_pow_right (by decide) h2
    have e : b + (n + 1) * (c + 1) + 1 = (c + (b + n * (c + 1) + 1)) + 1 := by rw [Nat.succ_mul]; omega
    show (x + p * valI r p).natAbs < _
    rw [e, Nat.pow_succ]
    have := Int.natAbs_add_le x (p * valI r p)
    omega
theorem pow_lt {c : Nat} {p : Int} (hp : p.natAbs < 2 ^ c) : ∀ k : Nat, (p ^ k).natAbs < 2 ^ (c * k + 1)
  | 0 => by simp
  | k + 1 => by
    have ih := pow_lt hp k
    rw [Int.pow_succ, Int.natAbs_mul, show c * (k + 1) + 1 = (c * k + 1) + c by rw [Nat.mul_succ]; omega, Nat.pow_add]
    exact Nat.mul_lt_mul'' ih hp
end PP
namespace PP
open PySem PySem.Spec PyProof.Rows L2 Evl
/-! value: a row of numbers below 2^b at a place below 2^c -/
def sp_P_value (K : PySem.W.Frag) : Sp := fun vs H Q _ => ∃ (a : Addr) (ns : List Int) (p : Int) (b c : Nat), vs = [.ref a, .int p] ∧ SqL K H a (ns.map V.int) ∧ (∀ x ∈ ns, x.natAbs < 2 ^ b) ∧ p.natAbs < 2 ^ c ∧ b + ns.length * (c + 1) + c + 1 ≤ 100000000 ∧ RetV (.int (valI ns p)) H Q
def t_P_value (K : PySem.W.Frag) : TS :=
  (tSeq (tAsg (tC (.int 0)) (gName 2)) (tSeq (tFor (iRev K (tCons (tVar 0) tNil)) (gName 3) (tAsg (tOp oAdd (tOp oMul (tVar 2) (tVar 1)) (tVar 3)) (gName 2))) (tRet (tVar 2))))
/-- for x in reversed(xs), the target a name -/
theorem q_forRev {K : PySem.W.Frag} {σ : L2.St} {H : Hp} {D : Ends} {tu tz : TS} {a : Addr} {xs : List V} {ta : TA} {j : Nat} (h : EvA ta σ H [.ref a]) (hx : SqL K H a xs) (Pv : Nat → L2.St → Hp → Prop) (h0 : ∀ H1, Ex H H1 → Pv 0 σ H1) (hl : ∀ i σ' H', i ≤ xs.length → Pv i σ' H' → SqL K H' a xs)
    (hs : ∀ i x σ' H', i < xs.length → xs[xs.length - 1 - i]? = some x → Pv i σ' H' → tu { D with nx := Pv (i + 1), ct := Pv (i + 1), bk := tz D } (σ'.set j (some x)) H') (hd : ∀ σ' H', Pv xs.length σ' H' → tz D σ' H') : tSeq (tFor (iRev K ta) (gName j) tu) tz D σ H := by
  refine h H (Ex.refl H) _ fun H1 e => ⟨a, xs, rfl, ex_l e hx, fun i m σ' H' => m = xs.length - i ∧ i ≤ xs.length ∧ Pv i σ' H', ⟨xs.length, by simp, Nat.zero_le _, h0 H1 e⟩, fun i m σ' H' hW => ?_⟩
  obtain ⟨rfl, hi, p⟩ := hW
  by_cases hlt : i < xs.length
  · have hg : xs[xs.length - 1 - i]? = some xs[xs.length - 1 - i] := List.getElem?_eq_getElem (by omega)
    refine .inr ⟨⟨hlt, xs, _, hl i σ' H' hi p, hg⟩, Pv (i + 1), fun σ2 H2 p2 => ⟨xs.length - (i + 1), by omega, rfl, by omega, p2⟩, fun x H2 hy => ?_⟩
    obtain ⟨rfl, hy⟩ := hy
    exact hs i x σ' H2 hlt (hy xs (hl i σ' H2 hi p)) p
  · have e : i = xs.length := by omega
    subst e
    exact .inl ⟨Nat.le_refl _, hd σ' H' p⟩
theorem val_drop {ns : List Int} {k : Nat} {p : Int} (h : k < ns.length) : valI (ns.drop k) p = valI (ns.drop (k + 1)) p * p + ns[k] := by
  rw [List.drop_eq_getElem_cons h]
  show ns[k] + p * valI (ns.drop (k + 1)) p = _
  rw [Int.mul_comm, Int.add_comm]
theorem run_P_value {K : PySem.W.Frag} {vs : List V} {H : Hp} {Q : VK} {E : XK} (h : sp_P_value K vs H Q E) : t_P_value K { nx := fun _ H' => Q .non H', rt := Q } (start ["row", "place", "total", "number"] vs) H := by
  obtain ⟨a, ns, p, b, c, rfl, hS, hx, hp, hbc, q⟩ := h
  refine q_asg ev_c fun H1 e1 => ?_
  refine q_forRev (ea_cons (ev_var rfl) ea_nil) (ex_l e1 hS) (fun i σ' H' => ∃ y, σ' = [some (.ref a), some (.int p), some (.int (valI (ns.drop (ns.length - i)) p)), y] ∧ Ex H H')
    (fun H3 e3 => ⟨none, by rw [Nat.sub_zero, List.drop_length] <;> rfl, e1.trans e3⟩) (fun i σ' H' hi hP => ex_l hP.choose_spec.2 hS) (fun i x σ' H' hlt hi hP => ?_) (fun σ' H' hP => ?_)
  · obtain ⟨y, rfl, e3⟩ := hP
    rw [List.length_map] at hi hlt
    rw [List.getElem?_map, List.getElem?_eq_getElem (by omega)] at hi
    cases hi
    have hv : (valI (ns.drop (ns.length - i)) p).natAbs < 2 ^ (b + ns.length * (c + 1) + 1) := val_lt (n := ns.length) hp _ (fun z hz => hx z (List.mem_of_mem_drop hz)) (by rw [List.length_drop]; omega)
    refine s_asg (ev_add (ev_mul (ev_var rfl) (ev_var rfl) (mulx (a := b + ns.length * (c + 1) + 1) (b := c) hv hp (by omega))) (ev_var rfl)) fun H4 e4 => ⟨some (.int ns[ns.length - 1 - i]), ?_, e3.trans e4⟩
    have e : valI (ns.drop (ns.length - (i + 1))) p = valI (ns.drop (ns.length - i)) p * p + ns[ns.length - 1 - i] := by
      have h := val_drop (ns := ns) (k := ns.length - 1 - i) (p := p) (by omega)
      rw [show ns.length - 1 - i + 1 = ns.length - i by omega] at h
      rw [show ns.length - (i + 1) = ns.length - 1 - i by omega]
      exact h
    rw [e]
    rfl
  · obtain ⟨y, rfl, e3⟩ := hP
    refine s_ret (ev_var rfl) fun H4 e4 => ?_
    rw [List.length_map, Nat.sub_self, List.drop_zero]
    exact q H4 (e3.trans e4)
theorem sv_P_value {K : PySem.W.Frag} {H : Hp} {a : Addr} {ns : List Int} {p : Int} (b c : Nat) (hS : SqL K H a (ns.map V.int)) (hx : ∀ x ∈ ns, x.natAbs < 2 ^ b) (hp : p.natAbs < 2 ^ c) (hbc : b + ns.length * (c + 1) + c + 1 ≤ 100000000) :
    SpV (sp_P_value K) [.ref a, .int p] H (.int (valI ns p)) := fun H1 e Q q E => ⟨a, ns, p, b, c, rfl, ex_l e hS, hx, hp, hbc, q⟩

/-! _law_whole: of an int, True -/
def sp_L_whole (K : PySem.W.Frag) : Sp := fun vs H Q _ => ∃ i : Int, vs = [.int i] ∧ RetV (.bl true) H Q
def t_L_whole (K : PySem.W.Frag) : TS :=
  (tRet (tAndV (tCB (rIsi K) (tCons (tVar 0) (tCons (tC (.ty "int")) tNil))) (tNotV (tCB (rIsi K) (tCons (tVar 0) (tCons (tC (.ty "bool")) tNil))))))
theorem run_L_whole {K : PySem.W.Frag} {vs : List V} {H : Hp} {Q : VK} {E : XK} (h : sp_L_whole K vs H Q E) : t_L_whole K { nx := fun _ H' => Q .non H', rt := Q } (start ["_law_found"] vs) H := by
  obtain ⟨i, rfl, q⟩ := h
  refine s_ret (v := .bl true) (ev_is (ev_andV (a := true) (b := true) ?_ fun _ => ?_) rfl) q
  · exact ev_isinst (ev_var rfl) ty_int (by decide +kernel)
  · exact ev_is (ev_notV (a := false) (ev_isinst (ev_var rfl) ty_int (by decide +kernel))) rfl
theorem sv_L_whole {K : PySem.W.Frag} {H : Hp} (i : Int) : SpV (sp_L_whole K) [.int i] H (.bl true) := fun H1 e Q q E => ⟨i, rfl, q⟩

/-! _law_cell_at -/
def sp_L_cell_at (K : PySem.W.Frag) : Sp := fun vs H Q _ => ∃ (a : Addr) (ns : List Int) (j : Nat), vs = [.ref a, .int (j : Int)] ∧ SqL K H a (ns.map V.int) ∧ RetV (.int (cellI ns j)) H Q
def t_L_cell_at (K : PySem.W.Frag) : TS :=
  (tSeq (tIfS (tTest (tOp oLt (tVar 1) (tCB (rLenS K) (tCons (tVar 0) tNil)))) (tRet (tOp (rIxL K) (tVar 0) (tVar 1))) tNext) (tRet (tC (.int 0))))
theorem run_L_cell_at {K : PySem.W.Frag} {vs : List V} {H : Hp} {Q : VK} {E : XK} (h : sp_L_cell_at K vs H Q E) : t_L_cell_at K { nx := fun _ H' => Q .non H', rt := Q } (start ["_law_script", "_law_k"] vs) H := by
  obtain ⟨a, ns, j, rfl, hS, q⟩ := h
  refine q_when (et_test (ev_lt (ev_var rfl) (ev_len (ev_var rfl) hS))) (fun hb H1 e1 => ?_) (fun hb H1 e1 => ?_)
  · have hj : j < ns.length := by
      have := of_decide_eq_true hb
      rw [List.length_map] at this
      omega
    exact s_ret (ev_ixI (ev_var rfl) (ev_var rfl) (ex_l e1 hS) rfl hj) fun H2 e2 => q H2 (e1.trans e2)
  · have hj : ¬ j < ns.length := fun hj => by
      have := of_decide_eq_false hb
      rw [List.length_map] at this
      omega
    refine s_ret ev_c fun H2 e2 => ?_
    have e : cellI ns j = 0 := by
      unfold cellI
      rw [List.getD_eq_getElem?_getD, List.getElem?_eq_none (by omega)]
      rfl
    rw [e] at q
    exact q H2 (e1.trans e2)
theorem sv_L_cell_at {K : PySem.W.Frag} {H : Hp} {a : Addr} {ns : List Int} {i : Int} (j : Nat) (hS : SqL K H a (ns.map V.int)) (hi : i = (j : Int)) : SpV (sp_L_cell_at K) [.ref a, .int i] H (.int (cellI ns j)) := fun H1 e Q q E =>
  ⟨a, ns, j, by rw [hi], ex_l e hS, q⟩

/-! _law_trim -/
def sp_L_trim (K : PySem.W.Frag) : Sp := fun vs H Q _ => ∃ (a : Addr) (ns : List Int), vs = [.ref a] ∧ SqL K H a (ns.map V.int) ∧ RetL ((trimI ns).map V.int) H Q
def t_L_trim (K : PySem.W.Frag) : TS :=
  (tSeq (tAsg (tCB (rLenS K) (tCons (tVar 0) tNil)) (gName 1)) (tSeq (tWhile (tAnd (tTest (tOp oGt (tVar 1) (tC (.int 0)))) (tTest (tOp rEq (tOp (rIxL K) (tVar 0) (tOp oSub (tVar 1) (tC (.int 1)))) (tC (.int 0))))) (tAsg (tOp oSub (tVar 1) (tC (.int 1))) (gName 1))) (tRet (tSl (rSlL K) (tVar 0) tNoPart (tPart (tVar 1))))))
theorem run_L_trim {K : PySem.W.Frag} {vs : List V} {H : Hp} {Q : VK} {E : XK} (h : sp_L_trim K vs H Q E) : t_L_trim K { nx := fun _ H' => Q .non H', rt := Q } (start ["_law_row", "_law_size"] vs) H := by
  obtain ⟨a, ns, rfl, hS, q⟩ := h
  refine q_asg (ev_len (ev_var rfl) hS) fun H1 e1 => ?_
  refine q_while (fun m σ' H' => σ' = [some (.ref a), some (.int (m : Int))] ∧ Ex H H' ∧ m ≤ ns.length ∧ ∀ i, m ≤ i → i < ns.length → ns.getD i 0 = 0) ns.length
    ⟨by rw [List.length_map]; rfl, e1, Nat.le_refl _, fun i h1 h2 => by omega⟩ fun m σ' H' hW => ?_
  obtain ⟨rfl, e2, hm, hz⟩ := hW
  refine ⟨_, et_and (et_test (ev_gt (ev_var rfl) ev_c)) (fun hb => et_test (ev_eqI (ev_ixI (j := m - 1) (ev_var rfl) (ev_sub (ev_var rfl) ev_c) (ex_l e2 hS) ?_ ?_) ev_c)), fun hb H3 e3 => ?_, fun hb H3 e3 => ?_⟩
  · have := of_decide_eq_true hb
    omega
  · have := of_decide_eq_true hb
    omega
  · rw [Bool.and_eq_true] at hb
    have h1 := of_decide_eq_true hb.1
    have h2 := of_decide_eq_true hb.2
    refine ⟨fun σ2 H2 => σ2 = [some (.ref a), some (.int ((m - 1 : Nat) : Int))] ∧ Ex H H2, fun σ2 H2 hN => ⟨m - 1, by omega, hN.1, hN.2, by omega, fun i h3 h4 => ?_⟩, ?_⟩
    · by_cases e : i = m - 1
      · rw [e]
        exact h2
      · exact hz i (by omega) h4
    · refine s_asg (ev_sub (ev_var rfl) ev_c) fun H4 e4 => ⟨?_, (e2.trans e3).trans e4⟩
      have e : ((m : Int) - 1) = ((m - 1 : Nat) : Int) := by omega
      rw [e]
      rfl
  · refine s_retL (el_sl (ev_var rfl) eo_none (eo_some (ev_var rfl)) (ex_l (e2.trans e3) hS)) fun p H4 hp e4 h4 => ?_
    have hn : m = 0 ∨ ns.getD (m - 1) 0 ≠ 0 := by
      by_cases h0 : m = 0
      · exact .inl h0
      · right
        intro hc
        rw [decide_eq_true (show (0 : Int) < m by omega), decide_eq_true hc] at hb
        cases hb
    have e := trim_take ns m hm hz hn
    rw [cut_take, ← e] at h4
    exact q.go (e2.trans e3) hp e4 h4
theorem sl_L_trim {K : PySem.W.Frag} {H : Hp} {a : Addr} {ns : List Int} (hS : SqL K H a (ns.map V.int)) : SpL (sp_L_trim K) [.ref a] H ((trimI ns).map V.int) := fun H1 e Q q E =>
  ⟨a, ns, rfl, ex_l e hS, q⟩

-- USES: L_whole
/-! _law_same: of two lists of ints -/
def sp_L_same (K : PySem.W.Frag) : Sp := fun vs H Q _ => ∃ (a b : Addr) (ns ms : List Int), vs = [.ref a, .ref b] ∧ H a = some (.lst (ns.map V.int)) ∧ SqL K H b (ms.map V.int) ∧ ms.length ≤ 90000 ∧ RetV (.bl (decide (ns = ms))) H Q
def t_L_same (K : PySem.W.Frag) : TS :=
  (tSeq (tIfS (tOr (tNot (tB (tCB (rIsi K) (tCons (tVar 0) (tCons (tC (.ty "list")) tNil))))) (tTest (tOp rNe (tCB (rLenS K) (tCons (tVar 0) tNil)) (tCB (rLenS K) (tCons (tVar 1) tNil))))) (tRet (tC (.bl false))) tNext) (tSeq (tFor (iRng1 (tCons (tCB (rLenS K) (tCons (tVar 1) tNil)) tNil)) (gName 2) (tIfS (tOr (tNot (tB (tCall (sp_L_whole K) [] E0 (tCons (tOp (rIxL K) (tVar 0) (tVar 2)) tNil)))) (tTest (tOp rNe (tOp (rIxL K) (tVar 0) (tVar 2)) (tOp (rIxL K) (tVar 1) (tVar 2))))) (tRet (tC (.bl false))) tNext)) (tRet (tC (.bl true)))))
theorem eq_of_getD {ns ms : List Int} (hl : ns.length = ms.length) (h : ∀ i, i < ms.length → ns.getD i 0 = ms.getD i 0) : ns = ms := by
  refine List.ext_getElem hl fun i h1 h2 => ?_
  have := h i h2
  rw [List.getD_eq_getElem?_getD, List.getD_eq_getElem?_getD, List.getElem?_eq_getElem h1, List.getElem?_eq_getElem h2] at this
  exact this
theorem run_L_same {K : PySem.W.Frag} {vs : List V} {H : Hp} {Q : VK} {E : XK} (h : sp_L_same K vs H Q E) : t_L_same K { nx := fun _ H' => Q .non H', rt := Q } (start ["_law_found", "_law_due", "_law_k"] vs) H := by
  obtain ⟨a, b, ns, ms, rfl, hA, hB, hl, q⟩ := h
  have hAs : SqL K H a (ns.map V.int) := sq_of hA
  refine q_when (et_or (a := false) (et_is (et_not (et_B (ev_isinst (ev_var rfl) (ty_lst hA) (b := true) (by decide +kernel)))) rfl) (fun _ => et_test (ev_neI (ev_len (ev_var rfl) hAs) (ev_len (ev_var rfl) hB)))) (fun hb H1 e1 => ?_) (fun hb H1 e1 => ?_)
  · refine s_ret ev_c fun H2 e2 => ?_
    have hne : ns ≠ ms := fun e => by
      subst e
      simp at hb
    rw [decide_eq_false hne] at q
    exact q H2 (e1.trans e2)
  · have hlen : ns.length = ms.length := by
      simp at hb
      omega
    refine q_forR1 (n := (ms.length : Int)) (ea_cons (ev_is (ev_len (ev_var rfl) (ex_l e1 hB)) (by rw [List.length_map])) ea_nil) ⟨by omega, by omega⟩
      (fun i σ' H' => ∃ y, σ' = [some (.ref a), some (.ref b), y] ∧ Ex H H' ∧ ∀ j, j < i → ns.getD j 0 = ms.getD j 0) (fun H2 e2 => ⟨_, rfl, e1.trans e2, fun j hj => by omega⟩) (fun i σ' H' hi hP => ?_) (fun σ' H' hP => ?_)
    · obtain ⟨y, rfl, e2, hs⟩ := hP
      have hi' : i < ms.length := by omega
      refine s_when (et_or (a := false) (et_is (et_not (et_B (ev_call (ea_cons (ev_ixI (ev_var rfl) (ev_var rfl) (ex_l e2 hAs) rfl (by omega)) ea_nil) (sv_L_whole _)))) rfl) (fun _ => et_test (ev_neI (ev_ixI (ev_var rfl) (ev_var rfl) (ex_l e2 hAs) rfl (by omega)) (ev_ixI (ev_var rfl) (ev_var rfl) (ex_l e2 hB) rfl hi')))) (fun hb H3 e3 => ?_) (fun hb H3 e3 => ?_)
      · refine s_ret ev_c fun H4 e4 => ?_
        have hne : ns ≠ ms := fun e => by
          subst e
          simp at hb
        rw [decide_eq_false hne] at q
        exact q H4 ((e2.trans e3).trans e4)
      · refine ⟨_, rfl, e2.trans e3, fun j hj => ?_⟩
        by_cases e : j = i
        · subst e
          simpa using hb
        · exact hs j (by omega)
    · obtain ⟨y, rfl, e2, hs⟩ := hP
      refine s_ret ev_c fun H4 e4 => ?_
      have he : ns = ms := eq_of_getD hlen fun j hj => hs j (by omega)
      rw [decide_eq_true he] at q
      exact q H4 (e2.trans e4)
theorem sv_L_same {K : PySem.W.Frag} {H : Hp} {a b : Addr} {ns ms : List Int} (hA : H a = some (.lst (ns.map V.int))) (hB : SqL K H b (ms.map V.int)) (hl : ms.length ≤ 90000) : SpV (sp_L_same K) [.ref a, .ref b] H (.bl (decide (ns = ms))) := fun H1 e Q q E =>
  ⟨a, b, ns, ms, rfl, e _ _ hA, ex_l e hB, hl, q⟩

/-! _law_number -/
def sp_L_number (K : PySem.W.Frag) : Sp := fun vs H Q _ => ∃ c : Int, vs = [.int c] ∧ RetV (.int (numI c)) H Q
def t_L_number (K : PySem.W.Frag) : TS :=
  (tSeq (tIfS (tTest (tOp rEq (tOp oMod (tVar 0) (tC (.int 7))) (tC (.int 0)))) (tRet (tC (.int 0))) tNext) (tSeq (tIfS (tTest (tOp rEq (tOp oMod (tVar 0) (tC (.int 7))) (tC (.int 1)))) (tRet (tOp oMul (tOp oSub (tC (.int 1)) (tOp oMul (tOp oMod (tOp oDiv (tVar 0) (tC (.int 7))) (tC (.int 2))) (tC (.int 2)))) (tOp oMod (tOp oDiv (tVar 0) (tC (.int 14))) (tOp oPow (tC (.int 10)) (tC (.int 40)))))) tNext) (tRet (tOp oSub (tOp oMod (tOp oDiv (tVar 0) (tC (.int 7))) (tC (.int 19))) (tC (.int 9))))))
theorem mod2x {i : Int} : (i % 2).natAbs < 2 ^ 1 := by
  have h1 : 0 ≤ i % 2 := Int.emod_nonneg _ (by decide)
  have h2 : i % 2 < 2 := Int.emod_lt_of_pos _ (by decide)
  omega
theorem sgnx {i : Int} : (1 - i % 2 * 2).natAbs < 2 ^ 2 := by
  have h1 : 0 ≤ i % 2 := Int.emod_nonneg _ (by decide)
  have h2 : i % 2 < 2 := Int.emod_lt_of_pos _ (by decide)
  omega
theorem modx {i j : Int} {b : Nat} (h0 : 0 < j) (h : j ≤ 2 ^ b) : (i % j).natAbs < 2 ^ b := by
  have h1 : 0 ≤ i % j := Int.emod_nonneg _ (by omega)
  have h2 : i % j < j := Int.emod_lt_of_pos _ h0
  have h3 : ((2 ^ b : Nat) : Int) = 2 ^ b := by simp
  omega
theorem run_L_number {K : PySem.W.Frag} {vs : List V} {H : Hp} {Q : VK} {E : XK} (h : sp_L_number K vs H Q E) : t_L_number K { nx := fun _ H' => Q .non H', rt := Q } (start ["_law_cell"] vs) H := by
  obtain ⟨c, rfl, q⟩ := h
  unfold numI at q
  refine q_when (et_test (ev_eqI (ev_mod (ev_var rfl) ev_c (by decide)) ev_c)) (fun hb H1 e1 => ?_) (fun hb H1 e1 => ?_)
  · have hc := of_decide_eq_true hb
    rw [if_pos hc] at q
    exact s_ret ev_c fun H2 e2 => q H2 (e1.trans e2)
  · have hc := of_decide_eq_false hb
    rw [if_neg hc] at q
    refine q_when (et_test (ev_eqI (ev_mod (ev_var rfl) ev_c (by decide)) ev_c)) (fun hb2 H2 e2 => ?_) (fun hb2 H2 e2 => ?_)
    · have hc2 := of_decide_eq_true hb2
      rw [if_pos hc2] at q
      refine s_ret (ev_mul (ev_sub ev_c (ev_mul (ev_mod (ev_div (ev_var rfl) ev_c (div_small (by decide) (by decide))) ev_c (by decide)) ev_c (mulx (a := 1) (b := 3) mod2x (by decide) (by decide))))
        (ev_mod (ev_div (ev_var rfl) ev_c (div_small (by decide) (by decide))) (ev_pow ev_c ev_c ⟨by decide, by decide, by decide⟩) (by decide)) (mulx (a := 2) (b := 133) sgnx (modx (by decide) (by decide)) (by decide))) fun H3 e3 => q H3 ((e1.trans e2).trans e3)
    · have hc2 := of_decide_eq_false hb2
      rw [if_neg hc2] at q
      exact s_ret (ev_sub (ev_mod (ev_div (ev_var rfl) ev_c (div_small (by decide) (by decide))) ev_c (by decide)) ev_c) fun H3 e3 => q H3 ((e1.trans e2).trans e3)
theorem sv_L_number {K : PySem.W.Frag} {H : Hp} (c : Int) : SpV (sp_L_number K) [.int c] H (.int (numI c)) := fun H1 e Q q E => ⟨c, rfl, q⟩

-- USES: L_number L_cell_at L_trim
/-! _law_drawn -/
def sp_L_drawn (K : PySem.W.Frag) : Sp := fun vs H Q _ => ∃ (a : Addr) (ns : List Int) (p s m : Nat), vs = [.ref a, .int (p : Int), .int (s : Int), .int (m : Int)] ∧ SqL K H a (ns.map V.int) ∧ s ≤ 1000 ∧ m ≤ 1000 ∧ RetL ((drawnI numI ns p s m).map V.int) H Q
def t_L_drawn (K : PySem.W.Frag) : TS :=
  (tSeq (tAsg (tLc (iRng1 (tCons (tVar 2) tNil)) (gName 5) tYes (tCall (sp_L_number K) [] E0 (tCons (tCall (sp_L_cell_at K) [] E0 (tCons (tVar 0) (tCons (tOp oAdd (tVar 1) (tVar 5)) tNil))) tNil)) [5]) (gName 4)) (tSeq (tIfS (tTest (tOp oGt (tVar 3) (tC (.int 0)))) (tAsg (tLc (iRng1 (tCons (tVar 3) tNil)) (gName 5) tYes (tCall (sp_L_number K) [] E0 (tCons (tOp oAdd (tOp oAdd (tCall (sp_L_cell_at K) [] E0 (tCons (tVar 0) (tCons (tVar 1) tNil))) (tOp oMul (tOp oMul (tC (.int 97)) (tVar 5)) (tVar 5))) (tOp oMul (tC (.int 13)) (tVar 5))) tNil)) [5]) (gName 4)) tNext) (tRet (tCall (sp_L_trim K) [] E0 (tCons (tVar 4) tNil)))))
theorem given_all (n : Nat) (v : Nat → V) : given n (fun _ => true) v = (List.range n).map v := by
  unfold given
  rw [List.filter_eq_self.mpr (fun _ _ => rfl)]
theorem et_yes {σ : L2.St} {H : Hp} : EvT tYes σ H true := fun H1 _ _ q => q H1 (Ex.refl H1)
theorem kx {i n : Nat} (h : i < n) (hn : n ≤ 1000) : ((i : Nat) : Int).natAbs < 2 ^ 10 := by
  rw [Int.natAbs_natCast]
  omega
theorem run_L_drawn {K : PySem.W.Frag} {vs : List V} {H : Hp} {Q : VK} {E : XK} (h : sp_L_drawn K vs H Q E) : t_L_drawn K { nx := fun _ H' => Q .non H', rt := Q } (start ["_law_script", "_law_place", "_law_size", "_law_many", "_law_row", "_law_k"] vs) H := by
  obtain ⟨a, ns, p, s, m, rfl, hS, hs, hm, q⟩ := h
  refine q_asgL (el_lcR1 (n := (s : Int)) (fun _ => true) (fun i => .int (numI (cellI ns (p + i)))) (ea_cons (ev_var rfl) ea_nil) ⟨by omega, by omega⟩ (fun _ => rfl) (fun i H1 e1 hi => et_yes)
    (fun i H1 e1 hi _ => ev_call (ea_cons (ev_call (ea_cons (ev_var rfl) (ea_cons (ev_add (ev_var rfl) (ev_var rfl)) ea_nil)) (sv_L_cell_at (p + i) (ex_l e1 hS) (by omega))) ea_nil) (sv_L_number _))) fun r H1 nr e1 hr => ?_
  rw [given_all, Int.toNat_natCast] at hr
  refine q_when (et_test (ev_gt (ev_var rfl) ev_c)) (fun hb H2 e2 => ?_) (fun hb H2 e2 => ?_)
  · have h0 := of_decide_eq_true hb
    refine s_asgL (el_lcR1 (n := (m : Int)) (fun _ => true) (fun i => .int (numI (cellI ns p + 97 * (i : Int) * (i : Int) + 13 * (i : Int)))) (ea_cons (ev_var rfl) ea_nil) ⟨by omega, by omega⟩ (fun _ => rfl) (fun i H1 e1 hi => et_yes)
      (fun i H3 e3 hi _ => ev_call (ea_cons (ev_add (ev_add (ev_call (ea_cons (ev_var rfl) (ea_cons (ev_var rfl) ea_nil)) (sv_L_cell_at p (ex_l (e2.trans e3) (ex_l e1 hS)) rfl))
        (ev_mul (ev_mul ev_c (ev_var rfl) (mulx (a := 7) (b := 10) (by decide) (kx (n := m) (by omega) hm) (by decide))) (ev_var rfl) (mulx (a := 17) (b := 10) (wide_lt (a := 7) (b := 10) (by decide) (kx (n := m) (by omega) hm)) (kx (n := m) (by omega) hm) (by decide))))
        (ev_mul ev_c (ev_var rfl) (mulx (a := 4) (b := 10) (by decide) (kx (n := m) (by omega) hm) (by decide)))) ea_nil) (sv_L_number _))) fun r2 H3 nr2 e3 hr2 => ?_
    rw [given_all, Int.toNat_natCast] at hr2
    refine s_retL (el_call (xs := (drawnI numI ns p s m).map V.int) (ea_cons (ev_var rfl) ea_nil) ?_) fun p4 H4 n4 e4 h4 => q.go ((e1.trans e2).trans e3) n4 e4 h4
    unfold drawnI
    rw [if_pos (by omega)]
    refine sl_L_trim (sq_of ?_)
    rw [hr2, List.map_map]
    rfl
  · have h0 := of_decide_eq_false hb
    refine s_retL (el_call (xs := (drawnI numI ns p s m).map V.int) (ea_cons (ev_var rfl) ea_nil) ?_) fun p4 H4 n4 e4 h4 => q.go (e1.trans e2) n4 e4 h4
    unfold drawnI
    rw [if_neg (by omega)]
    refine sl_L_trim (sq_of (e2 _ _ ?_))
    rw [hr, List.map_map]
    rfl
theorem sl_L_drawn {K : PySem.W.Frag} {H : Hp} {a : Addr} {ns : List Int} {i j k : Int} (p s m : Nat) (hS : SqL K H a (ns.map V.int)) (hs : s ≤ 1000) (hm : m ≤ 1000) (hi : i = (p : Int)) (hj : j = (s : Int)) (hk : k = (m : Int)) :
    SpL (sp_L_drawn K) [.ref a, .int i, .int j, .int k] H ((drawnI numI ns p s m).map V.int) := fun H1 e Q q E =>
  ⟨a, ns, p, s, m, by rw [hi, hj, hk], ex_l e hS, hs, hm, q⟩

/-! _law_value: a row of numbers below 2^b at a place below 2^c -/
def sp_L_value (K : PySem.W.Frag) : Sp := fun vs H Q _ => ∃ (a : Addr) (ns : List Int) (p : Int) (b c : Nat), vs = [.ref a, .int p] ∧ SqL K H a (ns.map V.int) ∧ (∀ x ∈ ns, x.natAbs < 2 ^ b) ∧ p.natAbs < 2 ^ c ∧ b + c * ns.length + c + 1 ≤ 100000000 ∧ RetV (.int (valI ns p)) H Q
def t_L_value (K : PySem.W.Frag) : TS :=
  (tSeq (tAsg (tC (.int 0)) (gName 2)) (tSeq (tAsg (tC (.int 1)) (gName 3)) (tSeq (tFor (iList K (tVar 0)) (gName 4) (tSeq (tAsg (tOp oAdd (tVar 2) (tOp oMul (tVar 4) (tVar 3))) (gName 2)) (tAsg (tOp oMul (tVar 3) (tVar 1)) (gName 3)))) (tRet (tVar 2)))))
theorem val_take {ns : List Int} {i : Nat} {p : Int} (h : i < ns.length) : valI (ns.take (i + 1)) p = valI (ns.take i) p + ns[i] * p ^ i := by
  rw [List.take_succ_eq_append_getElem h, val_append, List.length_take, Nat.min_eq_left (by omega)]
  simp only [valI, Int.mul_zero, Int.add_zero]
  rw [Int.mul_comm]
theorem run_L_value {K : PySem.W.Frag} {vs : List V} {H : Hp} {Q : VK} {E : XK} (h : sp_L_value K vs H Q E) : t_L_value K { nx := fun _ H' => Q .non H', rt := Q } (start ["_law_row", "_law_place", "_law_found", "_law_power", "_law_number_here"] vs) H := by
  obtain ⟨a, ns, p, b, c, rfl, hS, hx, hp, hbc, q⟩ := h
  refine q_asg ev_c fun H1 e1 => q_asg ev_c fun H2 e2 => ?_
  refine q_forLn (ev_var rfl) (ex_l (e1.trans e2) hS) (fun i σ' H' => ∃ y, σ' = [some (.ref a), some (.int p), some (.int (valI (ns.take i) p)), some (.int (p ^ i)), y] ∧ Ex H H')
    (fun H3 e3 => ⟨none, by rw [show p ^ 0 = 1 from Int.pow_zero p] <;> rfl, (e1.trans e2).trans e3⟩) (fun i σ' H' hi hP => ex_l hP.choose_spec.2 hS) (fun i x σ' H' hi hP => ?_) (fun σ' H' hP => ?_)
  · obtain ⟨y, rfl, e3⟩ := hP
    rw [List.getElem?_map] at hi
    have hl : i < ns.length := by
      by_cases h : i < ns.length
      · exact h
      · rw [List.getElem?_eq_none (by omega)] at hi
        cases hi
    rw [List.getElem?_eq_getElem hl] at hi
    cases hi
    have h1 : (c * i + 1) ≤ c * ns.length + 1 := by
      have := Nat.mul_le_mul_left c (Nat.le_of_lt hl)
      omega
    refine q_asg (ev_add (ev_var rfl) (ev_mul (ev_var rfl) (ev_var rfl) (mulx (a := b) (b := c * i + 1) (hx _ (List.getElem_mem hl)) (pow_lt hp i) (by omega)))) fun H4 e4 => ?_
    refine s_asg (ev_mul (ev_var rfl) (ev_var rfl) (mulx (a := c * i + 1) (b := c) (pow_lt hp i) hp (by omega))) fun H5 e5 => ⟨some (.int ns[i]), ?_, (e3.trans e4).trans e5⟩
    rw [val_take hl, Int.pow_succ]
    rfl
  · obtain ⟨y, rfl, e3⟩ := hP
    refine s_ret (ev_var rfl) fun H4 e4 => ?_
    rw [List.length_map, List.take_length]
    exact q H4 (e3.trans e4)
theorem sv_L_value {K : PySem.W.Frag} {H : Hp} {a : Addr} {ns : List Int} {p : Int} (b c : Nat) (hS : SqL K H a (ns.map V.int)) (hx : ∀ x ∈ ns, x.natAbs < 2 ^ b) (hp : p.natAbs < 2 ^ c) (hbc : b + c * ns.length + c + 1 ≤ 100000000) :
    SpV (sp_L_value K) [.ref a, .int p] H (.int (valI ns p)) := fun H1 e Q q E => ⟨a, ns, p, b, c, rfl, ex_l e hS, hx, hp, hbc, q⟩

-- USES: L_cell_at L_drawn L_whole L_value L_same P_value
def sp_law (K : PySem.W.Frag) : Sp := fun vs H Q _ => ∃ (a : Addr) (ns : List Int), vs = [.ref a] ∧ SqL K H a (ns.map V.int) ∧ RetV (.bl true) H Q
def t_law (K : PySem.W.Frag) : TS :=
  (tSeq (tAsg (tCall (sp_L_cell_at K) [] E0 (tCons (tVar 0) (tCons (tC (.int 0)) tNil))) (gName 1)) (tSeq (tAsg (tC (.int 0)) (gName 2)) (tSeq (tIfS (tTest (tOp rEq (tOp oMod (tVar 1) (tC (.int 4))) (tC (.int 1)))) (tAsg (tOp oMod (tOp oDiv (tVar 1) (tC (.int 4))) (tC (.int 101))) (gName 2)) tNext) (tSeq (tAsg (tCall (sp_L_drawn K) [] E0 (tCons (tVar 0) (tCons (tC (.int 2)) (tCons (tOp oMod (tOp oDiv (tVar 1) (tC (.int 4))) (tC (.int 8))) (tCons (tVar 2) tNil))))) (gName 3)) (tSeq (tAsg (tCall (sp_L_cell_at K) [] E0 (tCons (tVar 0) (tCons (tC (.int 1)) tNil))) (gName 4)) (tSeq (tAsg (tOp oSub (tOp oMod (tOp oDiv (tVar 4) (tC (.int 5))) (tC (.int 41))) (tC (.int 20))) (gName 5)) (tSeq (tIfS (tTest (tOp rEq (tOp oMod (tVar 4) (tC (.int 5))) (tC (.int 0)))) (tAsg (tOp oMul (tOp oSub (tC (.int 1)) (tOp oMul (tOp oMod (tOp oDiv (tVar 4) (tC (.int 5))) (tC (.int 2))) (tC (.int 2)))) (tOp oMod (tOp oDiv (tVar 4) (tC (.int 10))) (tOp oPow (tC (.int 10)) (tC (.int 30))))) (gName 5)) tNext) (tSeq (tAsg (tCB (rListS K) (tCons (tVar 3) tNil)) (gName 6)) (tSeq (tAsg (tCall (sp_P_value K) [] E0 (tCons (tVar 6) (tCons (tVar 5) tNil))) (gName 7)) (tRet (tAndV (tCall (sp_L_whole K) [] E0 (tCons (tVar 7) tNil)) (tAndV (tOp rEq (tVar 7) (tCall (sp_L_value K) [] E0 (tCons (tVar 3) (tCons (tVar 5) tNil)))) (tCall (sp_L_same K) [] E0 (tCons (tVar 6) (tCons (tVar 3) tNil)))))))))))))))
theorem run_law {K : PySem.W.Frag} {vs : List V} {H : Hp} {Q : VK} {E : XK} (h : sp_law K vs H Q E) : t_law K { nx := fun _ H' => Q .non H', rt := Q } (start ["_law_script", "_law_first", "_law_many", "_law_row", "_law_cell", "_law_place", "_law_handed", "_law_found"] vs) H := by
  obtain ⟨a, ns, rfl, hS, q⟩ := h
  refine q_asg (ev_call (ea_cons (ev_var rfl) (ea_cons ev_c ea_nil)) (sv_L_cell_at 0 hS rfl)) fun H1 e1 => q_asg ev_c fun H2 e2 => ?_
  have e12 := e1.trans e2
  generalize hf : cellI ns 0 = first
  refine q_ifAsg (v := .int (((if first % 4 = 1 then (first / 4 % 101).toNat else 0) : Nat) : Int)) (et_test (ev_eqI (ev_mod (ev_var rfl) ev_c (by decide)) ev_c)) (fun hb => ?_) (fun hb => ?_) fun H3 e3 => ?_
  · rw [if_pos (of_decide_eq_true hb), ← (modN (i := first / 4) (j := 101) (by decide)).1]
    exact ev_mod (ev_div (ev_var rfl) ev_c (div_small (by decide) (by decide))) ev_c (by decide)
  · rw [if_neg (of_decide_eq_false hb)]
    rfl
  generalize hm : (if first % 4 = 1 then (first / 4 % 101).toNat else 0) = many
  have hm1 : many ≤ 100 := by
    rw [← hm]
    split
    · have := (modN (i := first / 4) (j := 101) (by decide)).2
      omega
    · omega
  have hs := modN (i := first / 4) (j := 8) (by decide)
  generalize hz : (first / 4 % 8).toNat = size at hs
  have e13 := e12.trans e3
  refine q_asgL (el_call (ea_cons (ev_var rfl) (ea_cons ev_c (ea_cons (ev_mod (ev_div (ev_var rfl) ev_c (div_small (by decide) (by decide))) ev_c (by decide)) (ea_cons (ev_var rfl) ea_nil)))) (sl_L_drawn 2 size many (ex_l e13 hS) (by omega) (by omega) rfl hs.1 rfl)) fun r H4 nr e4 hr => ?_
  have hl : (drawnI numI ns 2 size many).length ≤ 100 := Nat.le_trans (drawn_len _ _ _ _ _) (by omega)
  have hx : ∀ x ∈ drawnI numI ns 2 size many, x.natAbs < 2 ^ 133 := drawn_lt num_lt _ _ _ _
  generalize drawnI numI ns 2 size many = row at hr hl hx
  refine q_asg (ev_call (ea_cons (ev_var rfl) (ea_cons ev_c ea_nil)) (sv_L_cell_at 1 (ex_l (e13.trans e4) hS) rfl)) fun H5 e5 => ?_
  generalize cellI ns 1 = cell
  refine q_asg (ev_sub (ev_mod (ev_div (ev_var rfl) ev_c (div_small (by decide) (by decide))) ev_c (by decide)) ev_c) fun H6 e6 => ?_
  refine q_ifAsg (v := .int (if cell % 5 = 0 then (1 - cell / 5 % 2 * 2) * (cell / 10 % 10 ^ 30) else cell / 5 % 41 - 20)) (et_test (ev_eqI (ev_mod (ev_var rfl) ev_c (by decide)) ev_c)) (fun hb => ?_) (fun hb => ?_) fun H7 e7 => ?_
  · rw [if_pos (of_decide_eq_true hb)]
    exact ev_mul (ev_sub ev_c (ev_mul (ev_mod (ev_div (ev_var rfl) ev_c (div_small (by decide) (by decide))) ev_c (by decide)) ev_c (mulx (a := 1) (b := 3) mod2x (by decide) (by decide))))
        (ev_mod (ev_div (ev_var rfl) ev_c (div_small (by decide) (by decide))) (ev_pow ev_c ev_c ⟨by decide, by decide, by decide⟩) (by decide)) (mulx (a := 2) (b := 100) sgnx (modx (by decide) (by decide)) (by decide))
  · rw [if_neg (of_decide_eq_false hb)]
    rfl
  have hp : (if cell % 5 = 0 then (1 - cell / 5 % 2 * 2) * (cell / 10 % 10 ^ 30) else cell / 5 % 41 - 20).natAbs < 2 ^ 102 := by
    split
    · exact wide_lt (a := 2) (b := 100) sgnx (modx (by decide) (by decide))
    · have h1 : 0 ≤ cell / 5 % 41 := Int.emod_nonneg _ (by decide)
      have h2 : cell / 5 % 41 < 41 := Int.emod_lt_of_pos _ (by decide)
      omega
  generalize (if cell % 5 = 0 then (1 - cell / 5 % 2 * 2) * (cell / 10 % 10 ^ 30) else cell / 5 % 41 - 20) = place at hp
  have hR := (sq_of (K := K) hr)
  have e57 := (e5.trans e6).trans e7
  refine q_asgL (el_list (ev_var rfl) (ex_l e57 hR)) fun l H8 nl e8 hl8 => ?_
  refine q_asg (ev_call (ea_cons (ev_var rfl) (ea_cons (ev_var rfl) ea_nil)) (sv_P_value 133 102 (sq_of hl8) hx hp (by omega))) fun H9 e9 => ?_
  refine s_ret (v := .bl true) (ev_is (ev_andV (ev_call (ea_cons (ev_var rfl) ea_nil) (sv_L_whole _)) fun _ => ev_andV (ev_eqI (ev_var rfl) (ev_call (ea_cons (ev_var rfl) (ea_cons (ev_var rfl) ea_nil)) (sv_L_value 133 102 (ex_l ((e57.trans e8).trans e9) hR) hx hp (by omega)))) fun _ =>
    ev_call (ea_cons (ev_var rfl) (ea_cons (ev_var rfl) ea_nil)) (sv_L_same (e9 _ _ hl8) (ex_l ((e57.trans e8).trans e9) hR) (by omega))) ?_) fun H10 e10 => q H10 ((((e13.trans e4).trans e57).trans e8).trans (e9.trans e10))
  simp

/-! the text's defs by their places, and their derivations -/
def topS (i : Nat) : Stmt := PySem.Challenge.pw_polyarith_k01_value.main.body.getD i (.Pass ⟨0, 0, 0, 0⟩)
abbrev s_P_value : Stmt := topS 1
theorem sc_P_value : FnScope ["row", "place", "total", "number"] ["row", "place"] (defScope s_P_value) := ⟨rfl, rfl, rfl, by decide +kernel, rfl, by decide +kernel, by decide +kernel⟩
abbrev s_L_whole : Stmt := topS 3
theorem sc_L_whole : FnScope ["_law_found"] ["_law_found"] (defScope s_L_whole) := ⟨rfl, rfl, rfl, by decide +kernel, rfl, by decide +kernel, by decide +kernel⟩
abbrev s_L_cell_at : Stmt := topS 4
theorem sc_L_cell_at : FnScope ["_law_script", "_law_k"] ["_law_script", "_law_k"] (defScope s_L_cell_at) := ⟨rfl, rfl, rfl, by decide +kernel, rfl, by decide +kernel, by decide +kernel⟩
abbrev s_L_trim : Stmt := topS 5
theorem sc_L_trim : FnScope ["_law_row", "_law_size"] ["_law_row"] (defScope s_L_trim) := ⟨rfl, rfl, rfl, by decide +kernel, rfl, by decide +kernel, by decide +kernel⟩
abbrev s_L_same : Stmt := topS 6
theorem sc_L_same : FnScope ["_law_found", "_law_due", "_law_k"] ["_law_found", "_law_due"] (defScope s_L_same) := ⟨rfl, rfl, rfl, by decide +kernel, rfl, by decide +kernel, by decide +kernel⟩
abbrev s_L_number : Stmt := topS 7
theorem sc_L_number : FnScope ["_law_cell"] ["_law_cell"] (defScope s_L_number) := ⟨rfl, rfl, rfl, by decide +kernel, rfl, by decide +kernel, by decide +kernel⟩
abbrev s_L_drawn : Stmt := topS 8
theorem sc_L_drawn : FnScope ["_law_script", "_law_place", "_law_size", "_law_many", "_law_row", "_law_k"] ["_law_script", "_law_place", "_law_size", "_law_many"] (defScope s_L_drawn) := ⟨rfl, rfl, rfl, by decide +kernel, rfl, by decide +kernel, by decide +kernel⟩
abbrev s_L_value : Stmt := topS 9
theorem sc_L_value : FnScope ["_law_row", "_law_place", "_law_found", "_law_power", "_law_number_here"] ["_law_row", "_law_place"] (defScope s_L_value) := ⟨rfl, rfl, rfl, by decide +kernel, rfl, by decide +kernel, by decide +kernel⟩
abbrev s_law : Stmt := topS 10
theorem sc_law : FnScope ["_law_script", "_law_first", "_law_many", "_law_row", "_law_cell", "_law_place", "_law_handed", "_law_found"] ["_law_script"] (defScope s_law) := ⟨rfl, rfl, rfl, by decide +kernel, rfl, by decide +kernel, by decide +kernel⟩
section
variable {P : Program} {w : World} {K : PySem.W.Frag} {mg : Str → Option Value} {base : Heap}
theorem ok_P_value {f : Addr} {fd : FuncData} (F : Fun K "value" "value" s_P_value f fd)  (m_reversed : mg "reversed" = none) : FnOk P w K mg base CX0 1 f fd ["row", "place"] (sp_P_value K) := by
  refine F.ok sc_P_value (fun vs H Q E h => ?_) (fun cdv A outer s H vs Q E hr h => ⟨t_P_value K, ?_, run_P_value h⟩)
  · first | (obtain ⟨_, rfl, _⟩ := h; rfl) | (obtain ⟨_, _, rfl, _⟩ := h; rfl) | (obtain ⟨_, _, _, rfl, _⟩ := h; rfl) | (obtain ⟨_, _, _, _, rfl, _⟩ := h; rfl) | (obtain ⟨_, _, _, _, _, rfl, _⟩ := h; rfl) | (obtain ⟨_, _, _, _, _, _, rfl, _⟩ := h; rfl) | (obtain ⟨_, _, _, _, _, _, _, rfl, _⟩ := h; rfl) | (obtain ⟨_, _, _, _, _, _, _, _, rfl, _⟩ := h; rfl) | (obtain ⟨_, _, _, _, _, _, _, _, _, rfl, _⟩ := h; rfl) | (obtain ⟨_, _, _, _, _, _, _, _, _, _, rfl, _⟩ := h; rfl) | (obtain ⟨_, _, _, _, _, _, _, _, _, _, _, rfl, _⟩ := h; rfl) | (obtain ⟨_, _, _, _, _, _, _, _, _, _, _, _, rfl, _⟩ := h; rfl) | (obtain ⟨_, _, _, _, _, _, _, _, _, _, _, _, _, rfl, _⟩ := h; rfl)
  · exact (pss_cons (ps_set (i := 2) sc_P_value.nd rfl (Or.inl rfl) pe_int)
      (pss_cons (ps_for PassesOwn.never rfl (pi_reversed (by rfl) m_reversed (pa_cons (pv 0) pa_nil)) (pg_name (i := 3) sc_P_value.nd rfl (Or.inl rfl)) (pss_one (ps_set (i := 2) sc_P_value.nd rfl (Or.inl rfl) (pe_op op_add (pe_op op_mulX (pv 2) (pv 1)) (pv 3)))))
      (pss_one (ps_ret (pv 2)))))
theorem ok_L_whole {f : Addr} {fd : FuncData} (F : Fun K "_law_whole" "_law_whole" s_L_whole f fd)  (m_bool : mg "bool" = none) (m_int : mg "int" = none) (m_isinstance : mg "isinstance" = none) : FnOk P w K mg base CX0 1 f fd ["_law_found"] (sp_L_whole K) := by
  refine F.ok sc_L_whole (fun vs H Q E h => ?_) (fun cdv A outer s H vs Q E hr h => ⟨t_L_whole K, ?_, run_L_whole h⟩)
  · first | (obtain ⟨_, rfl, _⟩ := h; rfl) | (obtain ⟨_, _, rfl, _⟩ := h; rfl) | (obtain ⟨_, _, _, rfl, _⟩ := h; rfl) | (obtain ⟨_, _, _, _, rfl, _⟩ := h; rfl) | (obtain ⟨_, _, _, _, _, rfl, _⟩ := h; rfl) | (obtain ⟨_, _, _, _, _, _, rfl, _⟩ := h; rfl) | (obtain ⟨_, _, _, _, _, _, _, rfl, _⟩ := h; rfl) | (obtain ⟨_, _, _, _, _, _, _, _, rfl, _⟩ := h; rfl) | (obtain ⟨_, _, _, _, _, _, _, _, _, rfl, _⟩ := h; rfl) | (obtain ⟨_, _, _, _, _, _, _, _, _, _, rfl, _⟩ := h; rfl) | (obtain ⟨_, _, _, _, _, _, _, _, _, _, _, rfl, _⟩ := h; rfl) | (obtain ⟨_, _, _, _, _, _, _, _, _, _, _, _, rfl, _⟩ := h; rfl) | (obtain ⟨_, _, _, _, _, _, _, _, _, _, _, _, _, rfl, _⟩ := h; rfl)
  · exact (pss_one (ps_ret (pe_and (pe_callB call_isi (by rfl) m_isinstance (by decide +kernel) (pa_cons (pv 0) (pa_cons (pe_bltn (by rfl) m_int (by decide +kernel) rfl) pa_nil))) (pe_one (pe_not (pe_callB call_isi (by rfl) m_isinstance (by decide +kernel) (pa_cons (pv 0) (pa_cons (pe_bltn (by rfl) m_bool (by decide +kernel) rfl) pa_nil))))))))
theorem ok_L_cell_at {f : Addr} {fd : FuncData} (F : Fun K "_law_cell_at" "_law_cell_at" s_L_cell_at f fd)  (m_len : mg "len" = none) : FnOk P w K mg base CX0 1 f fd ["_law_script", "_law_k"] (sp_L_cell_at K) := by
  refine F.ok sc_L_cell_at (fun vs H Q E h => ?_) (fun cdv A outer s H vs Q E hr h => ⟨t_L_cell_at K, ?_, run_L_cell_at h⟩)
  · first | (obtain ⟨_, rfl, _⟩ := h; rfl) | (obtain ⟨_, _, rfl, _⟩ := h; rfl) | (obtain ⟨_, _, _, rfl, _⟩ := h; rfl) | (obtain ⟨_, _, _, _, rfl, _⟩ := h; rfl) | (obtain ⟨_, _, _, _, _, rfl, _⟩ := h; rfl) | (obtain ⟨_, _, _, _, _, _, rfl, _⟩ := h; rfl) | (obtain ⟨_, _, _, _, _, _, _, rfl, _⟩ := h; rfl) | (obtain ⟨_, _, _, _, _, _, _, _, rfl, _⟩ := h; rfl) | (obtain ⟨_, _, _, _, _, _, _, _, _, rfl, _⟩ := h; rfl) | (obtain ⟨_, _, _, _, _, _, _, _, _, _, rfl, _⟩ := h; rfl) | (obtain ⟨_, _, _, _, _, _, _, _, _, _, _, rfl, _⟩ := h; rfl) | (obtain ⟨_, _, _, _, _, _, _, _, _, _, _, _, rfl, _⟩ := h; rfl) | (obtain ⟨_, _, _, _, _, _, _, _, _, _, _, _, _, rfl, _⟩ := h; rfl)
  · exact (pss_cons (ps_if (pt_cmpR op_lt (pv 1) (pe_callB call_len_seq (by rfl) m_len PySem.boot_len (pa_cons (pv 0) pa_nil)) (nomark _)) (pss_one (ps_ret (pe_ix ix_list (pv 0) (pv 1) (fun _ _ => rfl)))) pss_nil)
      (pss_one (ps_ret pe_int)))
theorem ok_L_trim {f : Addr} {fd : FuncData} (F : Fun K "_law_trim" "_law_trim" s_L_trim f fd)  (m_len : mg "len" = none) : FnOk P w K mg base CX0 1 f fd ["_law_row"] (sp_L_trim K) := by
  refine F.ok sc_L_trim (fun vs H Q E h => ?_) (fun cdv A outer s H vs Q E hr h => ⟨t_L_trim K, ?_, run_L_trim h⟩)
  · first | (obtain ⟨_, rfl, _⟩ := h; rfl) | (obtain ⟨_, _, rfl, _⟩ := h; rfl) | (obtain ⟨_, _, _, rfl, _⟩ := h; rfl) | (obtain ⟨_, _, _, _, rfl, _⟩ := h; rfl) | (obtain ⟨_, _, _, _, _, rfl, _⟩ := h; rfl) | (obtain ⟨_, _, _, _, _, _, rfl, _⟩ := h; rfl) | (obtain ⟨_, _, _, _, _, _, _, rfl, _⟩ := h; rfl) | (obtain ⟨_, _, _, _, _, _, _, _, rfl, _⟩ := h; rfl) | (obtain ⟨_, _, _, _, _, _, _, _, _, rfl, _⟩ := h; rfl) | (obtain ⟨_, _, _, _, _, _, _, _, _, _, rfl, _⟩ := h; rfl) | (obtain ⟨_, _, _, _, _, _, _, _, _, _, _, rfl, _⟩ := h; rfl) | (obtain ⟨_, _, _, _, _, _, _, _, _, _, _, _, rfl, _⟩ := h; rfl) | (obtain ⟨_, _, _, _, _, _, _, _, _, _, _, _, _, rfl, _⟩ := h; rfl)
  · exact (pss_cons (ps_set (i := 1) sc_L_trim.nd rfl (Or.inl rfl) (pe_callB call_len_seq (by rfl) m_len PySem.boot_len (pa_cons (pv 0) pa_nil)))
      (pss_cons (ps_while PassesOwn.never (PW.pt (pw_and (pt_cmpR op_gt (pv 1) pe_int (nomark _)) (pw_and1 (pt_cmpR op_eq (pe_ix ix_list (pv 0) (pe_op op_sub (pv 1) pe_int) (fun _ _ => rfl)) pe_int (nomark _))))) (pss_one (ps_set (i := 1) sc_L_trim.nd rfl (Or.inl rfl) (pe_op op_sub (pv 1) pe_int))))
      (pss_one (ps_ret (pe_slice sl_list (pv 0) po_none (po_some (pv 1)))))))
theorem ok_L_same {f : Addr} {fd : FuncData} (F : Fun K "_law_same" "_law_same" s_L_same f fd) (c_L_whole : Cl P w K mg base 1 "_law_whole" (sp_L_whole K)) (m_isinstance : mg "isinstance" = none) (m_len : mg "len" = none) (m_list : mg "list" = none) (m_range : mg "range" = none) : FnOk P w K mg base CX0 2 f fd ["_law_found", "_law_due"] (sp_L_same K) := by
  refine F.ok sc_L_same (fun vs H Q E h => ?_) (fun cdv A outer s H vs Q E hr h => ⟨t_L_same K, ?_, run_L_same h⟩)
  · first | (obtain ⟨_, rfl, _⟩ := h; rfl) | (obtain ⟨_, _, rfl, _⟩ := h; rfl) | (obtain ⟨_, _, _, rfl, _⟩ := h; rfl) | (obtain ⟨_, _, _, _, rfl, _⟩ := h; rfl) | (obtain ⟨_, _, _, _, _, rfl, _⟩ := h; rfl) | (obtain ⟨_, _, _, _, _, _, rfl, _⟩ := h; rfl) | (obtain ⟨_, _, _, _, _, _, _, rfl, _⟩ := h; rfl) | (obtain ⟨_, _, _, _, _, _, _, _, rfl, _⟩ := h; rfl) | (obtain ⟨_, _, _, _, _, _, _, _, _, rfl, _⟩ := h; rfl) | (obtain ⟨_, _, _, _, _, _, _, _, _, _, rfl, _⟩ := h; rfl) | (obtain ⟨_, _, _, _, _, _, _, _, _, _, _, rfl, _⟩ := h; rfl) | (obtain ⟨_, _, _, _, _, _, _, _, _, _, _, _, rfl, _⟩ := h; rfl) | (obtain ⟨_, _, _, _, _, _, _, _, _, _, _, _, _, rfl, _⟩ := h; rfl)
  · exact (pss_cons (ps_if (PW.pt (pw_or (pt_not (pt_val (pe_callB call_isi (by rfl) m_isinstance (by decide +kernel) (pa_cons (pv 0) (pa_cons (pe_bltn (by rfl) m_list (by decide +kernel) rfl) pa_nil))))) (pw_or1 (pt_cmpR op_ne (pe_callB call_len_seq (by rfl) m_len PySem.boot_len (pa_cons (pv 0) pa_nil)) (pe_callB call_len_seq (by rfl) m_len PySem.boot_len (pa_cons (pv 1) pa_nil)) (nomark _))))) (pss_one (ps_ret pe_bl)) pss_nil)
      (pss_cons (ps_for PassesOwn.never rfl (pi_range1 (by rfl) m_range (pa_cons (pe_callB call_len_seq (by rfl) m_len PySem.boot_len (pa_cons (pv 1) pa_nil)) pa_nil)) (pg_name (i := 2) sc_L_same.nd rfl (Or.inl rfl)) (pss_one (ps_if (PW.pt (pw_or (pt_not (pt_val (pcl c_L_whole hr (by decide) (by rfl) (pa_cons (pe_ix ix_list (pv 0) (pv 2) (fun _ _ => rfl)) pa_nil)))) (pw_or1 (pt_cmpR op_ne (pe_ix ix_list (pv 0) (pv 2) (fun _ _ => rfl)) (pe_ix ix_list (pv 1) (pv 2) (fun _ _ => rfl)) (nomark _))))) (pss_one (ps_ret pe_bl)) pss_nil)))
      (pss_one (ps_ret pe_bl))))
theorem ok_L_number {f : Addr} {fd : FuncData} (F : Fun K "_law_number" "_law_number" s_L_number f fd)   : FnOk P w K mg base CX0 1 f fd ["_law_cell"] (sp_L_number K) := by
  refine F.ok sc_L_number (fun vs H Q E h => ?_) (fun cdv A outer s H vs Q E hr h => ⟨t_L_number K, ?_, run_L_number h⟩)
  · first | (obtain ⟨_, rfl, _⟩ := h; rfl) | (obtain ⟨_, _, rfl, _⟩ := h; rfl) | (obtain ⟨_, _, _, rfl, _⟩ := h; rfl) | (obtain ⟨_, _, _, _, rfl, _⟩ := h; rfl) | (obtain ⟨_, _, _, _, _, rfl, _⟩ := h; rfl) | (obtain ⟨_, _, _, _, _, _, rfl, _⟩ := h; rfl) | (obtain ⟨_, _, _, _, _, _, _, rfl, _⟩ := h; rfl) | (obtain ⟨_, _, _, _, _, _, _, _, rfl, _⟩ := h; rfl) | (obtain ⟨_, _, _, _, _, _, _, _, _, rfl, _⟩ := h; rfl) | (obtain ⟨_, _, _, _, _, _, _, _, _, _, rfl, _⟩ := h; rfl) | (obtain ⟨_, _, _, _, _, _, _, _, _, _, _, rfl, _⟩ := h; rfl) | (obtain ⟨_, _, _, _, _, _, _, _, _, _, _, _, rfl, _⟩ := h; rfl) | (obtain ⟨_, _, _, _, _, _, _, _, _, _, _, _, _, rfl, _⟩ := h; rfl)
  · exact (pss_cons (ps_if (pt_cmpR op_eq (pe_op op_mod (pv 0) pe_int) pe_int (nomark _)) (pss_one (ps_ret pe_int)) pss_nil)
      (pss_cons (ps_if (pt_cmpR op_eq (pe_op op_mod (pv 0) pe_int) pe_int (nomark _)) (pss_one (ps_ret (pe_op op_mulX (pe_op op_sub pe_int (pe_op op_mulX (pe_op op_mod (pe_op op_fdivW (pv 0) pe_int) pe_int) pe_int)) (pe_op op_mod (pe_op op_fdivW (pv 0) pe_int) (pe_op op_pow pe_int pe_int))))) pss_nil)
      (pss_one (ps_ret (pe_op op_sub (pe_op op_mod (pe_op op_fdivW (pv 0) pe_int) pe_int) pe_int)))))
theorem ok_L_drawn {f : Addr} {fd : FuncData} (F : Fun K "_law_drawn" "_law_drawn" s_L_drawn f fd) (c_L_trim : Cl P w K mg base 1 "_law_trim" (sp_L_trim K)) (c_L_cell_at : Cl P w K mg base 1 "_law_cell_at" (sp_L_cell_at K)) (c_L_number : Cl P w K mg base 1 "_law_number" (sp_L_number K)) (m_range : mg "range" = none) : FnOk P w K mg base CX0 2 f fd ["_law_script", "_law_place", "_law_size", "_law_many"] (sp_L_drawn K) := by
  refine F.ok sc_L_drawn (fun vs H Q E h => ?_) (fun cdv A outer s H vs Q E hr h => ⟨t_L_drawn K, ?_, run_L_drawn h⟩)
  · first | (obtain ⟨_, rfl, _⟩ := h; rfl) | (obtain ⟨_, _, rfl, _⟩ := h; rfl) | (obtain ⟨_, _, _, rfl, _⟩ := h; rfl) | (obtain ⟨_, _, _, _, rfl, _⟩ := h; rfl) | (obtain ⟨_, _, _, _, _, rfl, _⟩ := h; rfl) | (obtain ⟨_, _, _, _, _, _, rfl, _⟩ := h; rfl) | (obtain ⟨_, _, _, _, _, _, _, rfl, _⟩ := h; rfl) | (obtain ⟨_, _, _, _, _, _, _, _, rfl, _⟩ := h; rfl) | (obtain ⟨_, _, _, _, _, _, _, _, _, rfl, _⟩ := h; rfl) | (obtain ⟨_, _, _, _, _, _, _, _, _, _, rfl, _⟩ := h; rfl) | (obtain ⟨_, _, _, _, _, _, _, _, _, _, _, rfl, _⟩ := h; rfl) | (obtain ⟨_, _, _, _, _, _, _, _, _, _, _, _, rfl, _⟩ := h; rfl) | (obtain ⟨_, _, _, _, _, _, _, _, _, _, _, _, _, rfl, _⟩ := h; rfl)
  · exact (pss_cons (ps_setLc (i := 4) (own := [("_law_k", 5)]) (g := gName 5) (by rfl) sc_L_drawn.nd rfl rfl (sw_true rfl rfl rfl (by decide +kernel)) (pi_range1 (by rfl) m_range (pa_cons (pv 2) pa_nil)) (blkOk_by (own := [("_law_k", 5)]) (N := ["_law_script", "_law_place", "_law_size", "_law_many", "_law_row", "_law_k"]) (sc := defScope s_L_drawn) (by decide +kernel)) (fun _ _ _ _ _ => pg_name (i := 5) sc_L_drawn.nd rfl (Or.inl rfl)) (fun _ _ _ _ _ => pts_nil) (fun _ _ _ _ _ => (pcl c_L_number hr (by decide) (by rfl) (pa_cons (pcl c_L_cell_at hr (by decide) (by rfl) (pa_cons (pv 0) (pa_cons (pe_op op_add (pv 1) (pv 5)) pa_nil))) pa_nil))))
      (pss_cons (ps_if (pt_cmpR op_gt (pv 3) pe_int (nomark _)) (pss_one (ps_setLc (i := 4) (own := [("_law_k", 5)]) (g := gName 5) (by rfl) sc_L_drawn.nd rfl rfl (sw_true rfl rfl rfl (by decide +kernel)) (pi_range1 (by rfl) m_range (pa_cons (pv 3) pa_nil)) (blkOk_by (own := [("_law_k", 5)]) (N := ["_law_script", "_law_place", "_law_size", "_law_many", "_law_row", "_law_k"]) (sc := defScope s_L_drawn) (by decide +kernel)) (fun _ _ _ _ _ => pg_name (i := 5) sc_L_drawn.nd rfl (Or.inl rfl)) (fun _ _ _ _ _ => pts_nil) (fun _ _ _ _ _ => (pcl c_L_number hr (by decide) (by rfl) (pa_cons (pe_op op_add (pe_op op_add (pcl c_L_cell_at hr (by decide) (by rfl) (pa_cons (pv 0) (pa_cons (pv 1) pa_nil))) (pe_op op_mulX (pe_op op_mulX pe_int (pv 5)) (pv 5))) (pe_op op_mulX pe_int (pv 5))) pa_nil))))) pss_nil)
      (pss_one (ps_ret (pcl c_L_trim hr (by decide) (by rfl) (pa_cons (pv 4) pa_nil))))))
theorem ok_L_value {f : Addr} {fd : FuncData} (F : Fun K "_law_value" "_law_value" s_L_value f fd)   : FnOk P w K mg base CX0 1 f fd ["_law_row", "_law_place"] (sp_L_value K) := by
  refine F.ok sc_L_value (fun vs H Q E h => ?_) (fun cdv A outer s H vs Q E hr h => ⟨t_L_value K, ?_, run_L_value h⟩)
  · first | (obtain ⟨_, rfl, _⟩ := h; rfl) | (obtain ⟨_, _, rfl, _⟩ := h; rfl) | (obtain ⟨_, _, _, rfl, _⟩ := h; rfl) | (obtain ⟨_, _, _, _, rfl, _⟩ := h; rfl) | (obtain ⟨_, _, _, _, _, rfl, _⟩ := h; rfl) | (obtain ⟨_, _, _, _, _, _, rfl, _⟩ := h; rfl) | (obtain ⟨_, _, _, _, _, _, _, rfl, _⟩ := h; rfl) | (obtain ⟨_, _, _, _, _, _, _, _, rfl, _⟩ := h; rfl) | (obtain ⟨_, _, _, _, _, _, _, _, _, rfl, _⟩ := h; rfl) | (obtain ⟨_, _, _, _, _, _, _, _, _, _, rfl, _⟩ := h; rfl) | (obtain ⟨_, _, _, _, _, _, _, _, _, _, _, rfl, _⟩ := h; rfl) | (obtain ⟨_, _, _, _, _, _, _, _, _, _, _, _, rfl, _⟩ := h; rfl) | (obtain ⟨_, _, _, _, _, _, _, _, _, _, _, _, _, rfl, _⟩ := h; rfl)
  · exact (pss_cons (ps_set (i := 2) sc_L_value.nd rfl (Or.inl rfl) pe_int)
      (pss_cons (ps_set (i := 3) sc_L_value.nd rfl (Or.inl rfl) pe_int)
      (pss_cons (ps_for PassesOwn.never rfl (pi_list (pv 0)) (pg_name (i := 4) sc_L_value.nd rfl (Or.inl rfl)) (pss_cons (ps_set (i := 2) sc_L_value.nd rfl (Or.inl rfl) (pe_op op_add (pv 2) (pe_op op_mulX (pv 4) (pv 3))))
      (pss_one (ps_set (i := 3) sc_L_value.nd rfl (Or.inl rfl) (pe_op op_mulX (pv 3) (pv 1))))))
      (pss_one (ps_ret (pv 2))))))
theorem ok_law {f : Addr} {fd : FuncData} (F : Fun K "law" "law" s_law f fd) (c_L_whole : Cl P w K mg base 1 "_law_whole" (sp_L_whole K)) (c_L_value : Cl P w K mg base 1 "_law_value" (sp_L_value K)) (c_L_same : Cl P w K mg base 2 "_law_same" (sp_L_same K)) (c_P_value : Cl P w K mg base 1 "value" (sp_P_value K)) (c_L_cell_at : Cl P w K mg base 1 "_law_cell_at" (sp_L_cell_at K)) (c_L_drawn : Cl P w K mg base 2 "_law_drawn" (sp_L_drawn K)) (m_list : mg "list" = none) : FnOk P w K mg base CX0 3 f fd ["_law_script"] (sp_law K) := by
  refine F.ok sc_law (fun vs H Q E h => ?_) (fun cdv A outer s H vs Q E hr h => ⟨t_law K, ?_, run_law h⟩)
  · first | (obtain ⟨_, rfl, _⟩ := h; rfl) | (obtain ⟨_, _, rfl, _⟩ := h; rfl) | (obtain ⟨_, _, _, rfl, _⟩ := h; rfl) | (obtain ⟨_, _, _, _, rfl, _⟩ := h; rfl) | (obtain ⟨_, _, _, _, _, rfl, _⟩ := h; rfl) | (obtain ⟨_, _, _, _, _, _, rfl, _⟩ := h; rfl) | (obtain ⟨_, _, _, _, _, _, _, rfl, _⟩ := h; rfl) | (obtain ⟨_, _, _, _, _, _, _, _, rfl, _⟩ := h; rfl) | (obtain ⟨_, _, _, _, _, _, _, _, _, rfl, _⟩ := h; rfl) | (obtain ⟨_, _, _, _, _, _, _, _, _, _, rfl, _⟩ := h; rfl) | (obtain ⟨_, _, _, _, _, _, _, _, _, _, _, rfl, _⟩ := h; rfl) | (obtain ⟨_, _, _, _, _, _, _, _, _, _, _, _, rfl, _⟩ := h; rfl) | (obtain ⟨_, _, _, _, _, _, _, _, _, _, _, _, _, rfl, _⟩ := h; rfl)
  · exact (pss_cons (ps_set (i := 1) sc_law.nd rfl (Or.inl rfl) (pcl c_L_cell_at hr (by decide) (by rfl) (pa_cons (pv 0) (pa_cons pe_int pa_nil))))
      (pss_cons (ps_set (i := 2) sc_law.nd rfl (Or.inl rfl) pe_int)
      (pss_cons (ps_if (pt_cmpR op_eq (pe_op op_mod (pv 1) pe_int) pe_int (nomark _)) (pss_one (ps_set (i := 2) sc_law.nd rfl (Or.inl rfl) (pe_op op_mod (pe_op op_fdivW (pv 1) pe_int) pe_int))) pss_nil)
      (pss_cons (ps_set (i := 3) sc_law.nd rfl (Or.inl rfl) (pcl c_L_drawn hr (by decide) (by rfl) (pa_cons (pv 0) (pa_cons pe_int (pa_cons (pe_op op_mod (pe_op op_fdivW (pv 1) pe_int) pe_int) (pa_cons (pv 2) pa_nil))))))
      (pss_cons (ps_set (i := 4) sc_law.nd rfl (Or.inl rfl) (pcl c_L_cell_at hr (by decide) (by rfl) (pa_cons (pv 0) (pa_cons pe_int pa_nil))))
      (pss_cons (ps_set (i := 5) sc_law.nd rfl (Or.inl rfl) (pe_op op_sub (pe_op op_mod (pe_op op_fdivW (pv 4) pe_int) pe_int) pe_int))
      (pss_cons (ps_if (pt_cmpR op_eq (pe_op op_mod (pv 4) pe_int) pe_int (nomark _)) (pss_one (ps_set (i := 5) sc_law.nd rfl (Or.inl rfl) (pe_op op_mulX (pe_op op_sub pe_int (pe_op op_mulX (pe_op op_mod (pe_op op_fdivW (pv 4) pe_int) pe_int) pe_int)) (pe_op op_mod (pe_op op_fdivW (pv 4) pe_int) (pe_op op_pow pe_int pe_int))))) pss_nil)
      (pss_cons (ps_set (i := 6) sc_law.nd rfl (Or.inl rfl) (pe_callTy call_list_of (by rfl) m_list (by decide +kernel) (pa_cons (pv 3) pa_nil)))
      (pss_cons (ps_set (i := 7) sc_law.nd rfl (Or.inl rfl) (pcl c_P_value hr (by decide) (by rfl) (pa_cons (pv 6) (pa_cons (pv 5) pa_nil))))
      (pss_one (ps_ret (pe_and (pcl c_L_whole hr (by decide) (by rfl) (pa_cons (pv 7) pa_nil)) (pe_and (pe_cmpR op_eq (pv 7) (pcl c_L_value hr (by decide) (by rfl) (pa_cons (pv 3) (pa_cons (pv 5) pa_nil))) (nomark _)) (pe_one (pcl c_L_same hr (by decide) (by rfl) (pa_cons (pv 6) (pa_cons (pv 3) pa_nil)))))))))))))))))
end
theorem all_mk {l : PySem.W.OpenLaw} {w : World} {K : PySem.W.Frag} {h : Heap} {mg : Str → Option Value} {fa f_P_value f_L_whole f_L_cell_at f_L_trim f_L_same f_L_number f_L_drawn f_L_value f_law : Addr} (X : K.In h) (G : h.Ns mainGlobals mg) (hfa : mg "law" = some (.ref fa))
    {od_P_value an_P_value : Option Addr} {sl_P_value : Array (Option Value)} {oc_P_value kV_P_value dc_P_value pm_P_value cd_P_value ct_P_value : Value}
    {od_L_whole an_L_whole : Option Addr} {sl_L_whole : Array (Option Value)} {oc_L_whole kV_L_whole dc_L_whole pm_L_whole cd_L_whole ct_L_whole : Value}
    {od_L_cell_at an_L_cell_at : Option Addr} {sl_L_cell_at : Array (Option Value)} {oc_L_cell_at kV_L_cell_at dc_L_cell_at pm_L_cell_at cd_L_cell_at ct_L_cell_at : Value}
    {od_L_trim an_L_trim : Option Addr} {sl_L_trim : Array (Option Value)} {oc_L_trim kV_L_trim dc_L_trim pm_L_trim cd_L_trim ct_L_trim : Value}
    {od_L_same an_L_same : Option Addr} {sl_L_same : Array (Option Value)} {oc_L_same kV_L_same dc_L_same pm_L_same cd_L_same ct_L_same : Value}
    {od_L_number an_L_number : Option Addr} {sl_L_number : Array (Option Value)} {oc_L_number kV_L_number dc_L_number pm_L_number cd_L_number ct_L_number : Value}
    {od_L_drawn an_L_drawn : Option Addr} {sl_L_drawn : Array (Option Value)} {oc_L_drawn kV_L_drawn dc_L_drawn pm_L_drawn cd_L_drawn ct_L_drawn : Value}
    {od_L_value an_L_value : Option Addr} {sl_L_value : Array (Option Value)} {oc_L_value kV_L_value dc_L_value pm_L_value cd_L_value ct_L_value : Value}
    {od_law an_law : Option Addr} {sl_law : Array (Option Value)} {oc_law kV_law dc_law pm_law cd_law ct_law : Value}
    (a_P_value : PySem.W.nsIn K mainGlobals "value" = some (some (.ref f_P_value))) (l_P_value : K.lookup f_P_value = some ⟨oc_P_value, od_P_value, .func (PySem.W.fnOf "value" "value" (defArgs s_P_value) (defBody s_P_value) (defScope s_P_value) .none kV_P_value dc_P_value pm_P_value an_P_value cd_P_value ct_P_value), sl_P_value⟩) (e_P_value : PySem.W.codeIn K cd_P_value "value" = true) (k_P_value : PySem.W.keepIn K (.ref f_P_value) = true)
    (a_L_whole : PySem.W.nsIn K mainGlobals "_law_whole" = some (some (.ref f_L_whole))) (l_L_whole : K.lookup f_L_whole = some ⟨oc_L_whole, od_L_whole, .func (PySem.W.fnOf "_law_whole" "_law_whole" (defArgs s_L_whole) (defBody s_L_whole) (defScope s_L_whole) .none kV_L_whole dc_L_whole pm_L_whole an_L_whole cd_L_whole ct_L_whole), sl_L_whole⟩) (e_L_whole : PySem.W.codeIn K cd_L_whole "_law_whole" = true) (k_L_whole : PySem.W.keepIn K (.ref f_L_whole) = true)
    (a_L_cell_at : PySem.W.nsIn K mainGlobals "_law_cell_at" = some (some (.ref f_L_cell_at))) (l_L_cell_at : K.lookup f_L_cell_at = some ⟨oc_L_cell_at, od_L_cell_at, .func (PySem.W.fnOf "_law_cell_at" "_law_cell_at" (defArgs s_L_cell_at) (defBody s_L_cell_at) (defScope s_L_cell_at) .none kV_L_cell_at dc_L_cell_at pm_L_cell_at an_L_cell_at cd_L_cell_at ct_L_cell_at), sl_L_cell_at⟩) (e_L_cell_at : PySem.W.codeIn K cd_L_cell_at "_law_cell_at" = true) (k_L_cell_at : PySem.W.keepIn K (.ref f_L_cell_at) = true)
    (a_L_trim : PySem.W.nsIn K mainGlobals "_law_trim" = some (some (.ref f_L_trim))) (l_L_trim : K.lookup f_L_trim = some ⟨oc_L_trim, od_L_trim, .func (PySem.W.fnOf "_law_trim" "_law_trim" (defArgs s_L_trim) (defBody s_L_trim) (defScope s_L_trim) .none kV_L_trim dc_L_trim pm_L_trim an_L_trim cd_L_trim ct_L_trim), sl_L_trim⟩) (e_L_trim : PySem.W.codeIn K cd_L_trim "_law_trim" = true) (k_L_trim : PySem.W.keepIn K (.ref f_L_trim) = true)
    (a_L_same : PySem.W.nsIn K mainGlobals "_law_same" = some (some (.ref f_L_same))) (l_L_same : K.lookup f_L_same = some ⟨oc_L_same, od_L_same, .func (PySem.W.fnOf "_law_same" "_law_same" (defArgs s_L_same) (defBody s_L_same) (defScope s_L_same) .none kV_L_same dc_L_same pm_L_same an_L_same cd_L_same ct_L_same), sl_L_same⟩) (e_L_same : PySem.W.codeIn K cd_L_same "_law_same" = true) (k_L_same : PySem.W.keepIn K (.ref f_L_same) = true)
    (a_L_number : PySem.W.nsIn K mainGlobals "_law_number" = some (some (.ref f_L_number))) (l_L_number : K.lookup f_L_number = some ⟨oc_L_number, od_L_number, .func (PySem.W.fnOf "_law_number" "_law_number" (defArgs s_L_number) (defBody s_L_number) (defScope s_L_number) .none kV_L_number dc_L_number pm_L_number an_L_number cd_L_number ct_L_number), sl_L_number⟩) (e_L_number : PySem.W.codeIn K cd_L_number "_law_number" = true) (k_L_number : PySem.W.keepIn K (.ref f_L_number) = true)
    (a_L_drawn : PySem.W.nsIn K mainGlobals "_law_drawn" = some (some (.ref f_L_drawn))) (l_L_drawn : K.lookup f_L_drawn = some ⟨oc_L_drawn, od_L_drawn, .func (PySem.W.fnOf "_law_drawn" "_law_drawn" (defArgs s_L_drawn) (defBody s_L_drawn) (defScope s_L_drawn) .none kV_L_drawn dc_L_drawn pm_L_drawn an_L_drawn cd_L_drawn ct_L_drawn), sl_L_drawn⟩) (e_L_drawn : PySem.W.codeIn K cd_L_drawn "_law_drawn" = true) (k_L_drawn : PySem.W.keepIn K (.ref f_L_drawn) = true)
    (a_L_value : PySem.W.nsIn K mainGlobals "_law_value" = some (some (.ref f_L_value))) (l_L_value : K.lookup f_L_value = some ⟨oc_L_value, od_L_value, .func (PySem.W.fnOf "_law_value" "_law_value" (defArgs s_L_value) (defBody s_L_value) (defScope s_L_value) .none kV_L_value dc_L_value pm_L_value an_L_value cd_L_value ct_L_value), sl_L_value⟩) (e_L_value : PySem.W.codeIn K cd_L_value "_law_value" = true) (k_L_value : PySem.W.keepIn K (.ref f_L_value) = true)
    (a_law : PySem.W.nsIn K mainGlobals "law" = some (some (.ref f_law))) (l_law : K.lookup f_law = some ⟨oc_law, od_law, .func (PySem.W.fnOf "law" "law" (defArgs s_law) (defBody s_law) (defScope s_law) .none kV_law dc_law pm_law an_law cd_law ct_law), sl_law⟩) (e_law : PySem.W.codeIn K cd_law "law" = true) (k_law : PySem.W.keepIn K (.ref f_law) = true)
    (z_bool : PySem.W.nsIn K mainGlobals "bool" = some none)
    (z_int : PySem.W.nsIn K mainGlobals "int" = some none)
    (z_isinstance : PySem.W.nsIn K mainGlobals "isinstance" = some none)
    (z_len : PySem.W.nsIn K mainGlobals "len" = some none)
    (z_list : PySem.W.nsIn K mainGlobals "list" = some none)
    (z_range : PySem.W.nsIn K mainGlobals "range" = some none)
    (z_reversed : PySem.W.nsIn K mainGlobals "reversed" = some none)
    : ∃ fd : FuncData, (∀ (s : Shared) (v : Value), BindsTo s fd ⟨[v], []⟩ [("_law_script", v)]) ∧ ∀ base : Heap, K.In base → base.Ns mainGlobals mg → FnOk l.prog w K mg base CX0 3 fa fd ["_law_script"] (sp_law K) := by
  have e := hfa.symm.trans (PySem.W.mg_of X G a_law)
  cases e
  have F_P_value := fun_mk (st := s_P_value) l_P_value e_P_value k_P_value
  have b_P_value := F_P_value.binds (ps := ["row", "place"]) fun _ _ _ _ _ _ us hl => match us, hl with | [_, _], _ => rfl
  have F_L_whole := fun_mk (st := s_L_whole) l_L_whole e_L_whole k_L_whole
  have b_L_whole := F_L_whole.binds (ps := ["_law_found"]) fun _ _ _ _ _ _ us hl => match us, hl with | [_], _ => rfl
  have F_L_cell_at := fun_mk (st := s_L_cell_at) l_L_cell_at e_L_cell_at k_L_cell_at
  have b_L_cell_at := F_L_cell_at.binds (ps := ["_law_script", "_law_k"]) fun _ _ _ _ _ _ us hl => match us, hl with | [_, _], _ => rfl
  have F_L_trim := fun_mk (st := s_L_trim) l_L_trim e_L_trim k_L_trim
  have b_L_trim := F_L_trim.binds (ps := ["_law_row"]) fun _ _ _ _ _ _ us hl => match us, hl with | [_], _ => rfl
  have F_L_same := fun_mk (st := s_L_same) l_L_same e_L_same k_L_same
  have b_L_same := F_L_same.binds (ps := ["_law_found", "_law_due"]) fun _ _ _ _ _ _ us hl => match us, hl with | [_, _], _ => rfl
  have F_L_number := fun_mk (st := s_L_number) l_L_number e_L_number k_L_number
  have b_L_number := F_L_number.binds (ps := ["_law_cell"]) fun _ _ _ _ _ _ us hl => match us, hl with | [_], _ => rfl
  have F_L_drawn := fun_mk (st := s_L_drawn) l_L_drawn e_L_drawn k_L_drawn
  have b_L_drawn := F_L_drawn.binds (ps := ["_law_script", "_law_place", "_law_size", "_law_many"]) fun _ _ _ _ _ _ us hl => match us, hl with | [_, _, _, _], _ => rfl
  have F_L_value := fun_mk (st := s_L_value) l_L_value e_L_value k_L_value
  have b_L_value := F_L_value.binds (ps := ["_law_row", "_law_place"]) fun _ _ _ _ _ _ us hl => match us, hl with | [_, _], _ => rfl
  have F_law := fun_mk (st := s_law) l_law e_law k_law
  refine ⟨PySem.W.fnOf "law" "law" (defArgs s_law) (defBody s_law) (defScope s_law) .none kV_law dc_law pm_law an_law cd_law ct_law, fun s v => .of_eq rfl, fun base _ _ => ?_⟩
  have m_bool := PySem.W.mg_none_of X G z_bool
  have m_int := PySem.W.mg_none_of X G z_int
  have m_isinstance := PySem.W.mg_none_of X G z_isinstance
  have m_len := PySem.W.mg_none_of X G z_len
  have m_list := PySem.W.mg_none_of X G z_list
  have m_range := PySem.W.mg_none_of X G z_range
  have m_reversed := PySem.W.mg_none_of X G z_reversed
  have c_P_value : Cl l.prog w K mg base 1 "value" (sp_P_value K) := ⟨f_P_value, _, _, ok_P_value F_P_value m_reversed, PySem.W.mg_of X G a_P_value, k_P_value, b_P_value⟩
  have c_L_whole : Cl l.prog w K mg base 1 "_law_whole" (sp_L_whole K) := ⟨f_L_whole, _, _, ok_L_whole F_L_whole m_bool m_int m_isinstance, PySem.W.mg_of X G a_L_whole, k_L_whole, b_L_whole⟩
  have c_L_cell_at : Cl l.prog w K mg base 1 "_law_cell_at" (sp_L_cell_at K) := ⟨f_L_cell_at, _, _, ok_L_cell_at F_L_cell_at m_len, PySem.W.mg_of X G a_L_cell_at, k_L_cell_at, b_L_cell_at⟩
  have c_L_trim : Cl l.prog w K mg base 1 "_law_trim" (sp_L_trim K) := ⟨f_L_trim, _, _, ok_L_trim F_L_trim m_len, PySem.W.mg_of X G a_L_trim, k_L_trim, b_L_trim⟩
  have c_L_same : Cl l.prog w K mg base 2 "_law_same" (sp_L_same K) := ⟨f_L_same, _, _, ok_L_same F_L_same c_L_whole m_isinstance m_len m_list m_range, PySem.W.mg_of X G a_L_same, k_L_same, b_L_same⟩
  have c_L_number : Cl l.prog w K mg base 1 "_law_number" (sp_L_number K) := ⟨f_L_number, _, _, ok_L_number F_L_number, PySem.W.mg_of X G a_L_number, k_L_number, b_L_number⟩
  have c_L_drawn : Cl l.prog w K mg base 2 "_law_drawn" (sp_L_drawn K) := ⟨f_L_drawn, _, _, ok_L_drawn F_L_drawn c_L_trim c_L_cell_at c_L_number m_range, PySem.W.mg_of X G a_L_drawn, k_L_drawn, b_L_drawn⟩
  have c_L_value : Cl l.prog w K mg base 1 "_law_value" (sp_L_value K) := ⟨f_L_value, _, _, ok_L_value F_L_value, PySem.W.mg_of X G a_L_value, k_L_value, b_L_value⟩
  exact ok_law (P := l.prog) (w := w) (base := base) F_law c_L_whole c_L_value c_L_same c_P_value c_L_cell_at c_L_drawn m_list
end PP
open PySem PySem.W PyProof.Rows
set_option maxHeartbeats 0 in
theorem PySem.Challenge.cw_polyarith_k01_value_holds : PySem.Challenge.rw_polyarith_k01_value.Holds := by
  w_on; o_law; k_head; (case hw => w_witness2)
  k_fill
  refine L2.walk_of (l := PySem.Challenge.rw_polyarith_k01_value) (n := 63) (k := 3) (x := "_law_script") (CX := fun _ => L2.CX0) (sp := fun w => PP.sp_law _) rfl (by decide) rfl ⟨rfl, by decide, by decide⟩ (fun w h Y => PySem.W.kIn_of Y) ?F (fun _ _ a ns hl _ hS => ⟨a, ns, rfl, hS, fun _ _ => rfl⟩) (fun _ _ _ _ _ h => h)
  case F =>
    intro w mg fa h KX G hmg
    refine' PP.all_mk KX G hmg ?a_P_value ?l_P_value ?e_P_value ?k_P_value ?a_L_whole ?l_L_whole ?e_L_whole ?k_L_whole ?a_L_cell_at ?l_L_cell_at ?e_L_cell_at ?k_L_cell_at ?a_L_trim ?l_L_trim ?e_L_trim ?k_L_trim ?a_L_same ?l_L_same ?e_L_same ?k_L_same ?a_L_number ?l_L_number ?e_L_number ?k_L_number ?a_L_drawn ?l_L_drawn ?e_L_drawn ?k_L_drawn ?a_L_value ?l_L_value ?e_L_value ?k_L_value ?a_law ?l_law ?e_law ?k_law ?z_bool ?z_int ?z_isinstance ?z_len ?z_list ?z_range ?z_reversed
    (case a_P_value => k_is); (case l_P_value => k_is); (case e_P_value => k_is); (case k_P_value => k_is); (case a_L_whole => k_is); (case l_L_whole => k_is); (case e_L_whole => k_is); (case k_L_whole => k_is); (case a_L_cell_at => k_is); (case l_L_cell_at => k_is); (case e_L_cell_at => k_is); (case k_L_cell_at => k_is); (case a_L_trim => k_is); (case l_L_trim => k_is); (case e_L_trim => k_is); (case k_L_trim => k_is); (case a_L_same => k_is); (case l_L_same => k_is); (case e_L_same => k_is); (case k_L_same => k_is); (case a_L_number => k_is); (case l_L_number => k_is); (case e_L_number => k_is); (case k_L_number => k_is); (case a_L_drawn => k_is); (case l_L_drawn => k_is); (case e_L_drawn => k_is); (case k_L_drawn => k_is); (case a_L_value => k_is); (case l_L_value => k_is); (case e_L_value => k_is); (case k_L_value => k_is); (case a_law => k_is); (case l_law => k_is); (case e_law => k_is); (case k_law => k_is); (case z_bool => k_is); (case z_int => k_is); (case z_isinstance => k_is); (case z_len => k_is); (case z_list => k_is); (case z_range => k_is); (case z_reversed => k_is)
