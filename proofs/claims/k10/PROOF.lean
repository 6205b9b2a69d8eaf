import PyProof.Rows.All
import Wide.All
import OpenK.AllK
import Wide.FinOn
import HandS.ForMost
import HandS.ForExc
import HandS.Evl
import HandS.Wide
import HandS.WideBits
import HandS.IsInst
import HandS.Gcd
import HandS.Deep
import HandS.ExcIs
import HandS.TryMany
import HandS.RaiseMore
import HandS.FStr
import HandS.TupAny
import HandS.Style
import HandS.AnyAll
import KE.GoesMore
import HandS.Codes
import HandS.Flow
import HandS.RevRange
import HandS.StrMore
import HandS.Zip
import PySem.Challenge.RW_polyarith_k10_written
set_option Elab.async false
set_option linter.all false
set_option maxRecDepth 100000
set_option maxHeartbeats 4000000
/-! Pre: short words over the hand layer: operators' readings by name, rules for what evaluates, promises of pure defs. -/
namespace PP
open PySem PySem.Spec PyProof.Rows L2 Evl

/-! ### operators by short names -/
abbrev oAdd : R2 := rI0 fun i j => .int (i + j)
abbrev oSub : R2 := rI0 fun i j => .int (i - j)
abbrev oMul : R2 := rI CMulX fun i j => .int (i * j)
abbrev oDiv : R2 := rI CDivW fun i j => .int (i / j)
abbrev oMod : R2 := rI (fun _ j => 0 < j) fun i j => .int (i % j)
abbrev oPow : R2 := rI CPow fun i j => .int (i ^ j.toNat)
abbrev oLt : R2 := rI0 fun i j => .bl (decide (i < j))
abbrev oLe : R2 := rI0 fun i j => .bl (decide (i ≤ j))
abbrev oGt : R2 := rI0 fun i j => .bl (decide (j < i))
abbrev oGe : R2 := rI0 fun i j => .bl (decide (j ≤ i))
abbrev uNeg : V → Hp → VK → Prop := rU fun i => .int (-i)
abbrev rAbs : List V → Hp → VK → Prop := fun xs H Q => ∃ i, xs = [.int i] ∧ Q (.int (if i < 0 then -i else i)) H
abbrev rMin2 : List V → Hp → VK → Prop := fun xs H Q => ∃ i j, xs = [.int i, .int j] ∧ Q (.int (if j < i then j else i)) H

/-! ### a def that is called by its name -/
structure Cl (P : Program) (w : World) (K : PySem.W.Frag) (mg : Str → Option Value) (base : Heap) (k : Nat) (x : Str) (sp : Sp) : Prop where
  ex : ∃ (f : Addr) (fd : FuncData) (ps : List Str), FnOk P w K mg base CX0 k f fd ps sp ∧ mg x = some (.ref f) ∧ PySem.W.keepIn K (.ref f) = true ∧ Binds K fd ps []
section
variable {X : Cx} {k j : Nat} {x : Str} {sp : Sp} {p pos : Pos} {e : Expr} {es : List Expr} {t : TA}
theorem pcl (c : Cl X.prog X.w X.K X.mg X.base k x sp) (hr : Room j X.A) (hk : k ≤ j) (hg : Gl X x) (ha : PA X (e :: es) t)
    (hdb : (x == ("__debug__" : Str)) = false := by decide) (he : starEach (e :: es) X.env = (false, eval e X.env) :: starEach es X.env := by rfl) (hpl : (backTo pos (starEach es X.env)).any (·.1) = false := by rfl) :
    PE X (.Call (.Name x p) (e :: es) [] pos) (tCall sp [] E0 t) := by
  obtain ⟨f, fd, ps, F, hm, kp, b⟩ := c.ex
  exact pe_call F (hr.mono hk) hg hm kp b .nil pass0 ha hdb he hpl
end

/-! ### more of what evaluates -/
section
variable {K : PySem.W.Frag} {σ : L2.St} {H H' : Hp} {ta tb te tx : TE} {t u : TT} {x y z v : V} {r : R2}
/-- what a value satisfies behind: the general form -/
def EvP (te : TE) (σ : L2.St) (H : Hp) (P : V → Hp → Prop) : Prop := ∀ H1, Ex H H1 → ∀ Q : VK, (∀ v H2, Ex H1 H2 → P v H2 → Q v H2) → te σ H1 Q
theorem ev_abs {i : Int} (ha : Ev ta σ H (.int i)) : Ev (tCB rAbs (tCons ta tNil)) σ H (.int (if i < 0 then -i else i)) := fun H1 e Q q =>
  ha H1 e _ fun H2 e2 => ⟨i, rfl, q H2 e2⟩
theorem ev_min2 {i j : Int} (ha : Ev ta σ H (.int i)) (hb : Ev tb σ H (.int j)) : Ev (tCB rMin2 (tCons ta (tCons tb tNil))) σ H (.int (if j < i then j else i)) := fun H1 e Q q =>
  ha H1 e _ fun H2 e2 => hb H2 (e.trans e2) _ fun H3 e3 => ⟨i, j, rfl, q H3 (e2.trans e3)⟩
/-- isinstance(x, T), both built in -/
theorem tyx_ex {K : PySem.W.Frag} {T : String} {a : Addr} {xs : List V} (e : Ex H H') (h : H a = some (.lst xs)) : TyX K H' (.ref a) (.type "list") := .base (.lst (e _ _ h))
theorem ev_isinst {T U : String} {b : Bool} (ha : Ev ta σ H x) (ty : ∀ H1, Ex H H1 → TyX K H1 x (.type T)) (hb : kitB T U = some b) : Ev (tCB (rIsi K) (tCons ta (tCons (tC (.ty U)) tNil))) σ H (.bl b) := fun H1 e Q q =>
  ha H1 e _ fun H2 e2 => ⟨x, .ty U, .type T, .type U, b, rfl, .ty U, ty H2 (e.trans e2), kit_ty hb, q H2 e2⟩
theorem ty_int {K : PySem.W.Frag} {i : Int} : ∀ H1, Ex H H1 → TyX K H1 (.int i) (.type "int") := fun _ _ => .base (.int i)
theorem ty_lst {K : PySem.W.Frag} {a : Addr} {xs : List V} (h : H a = some (.lst xs)) : ∀ H1, Ex H H1 → TyX K H1 (.ref a) (.type "list") := fun _ e => .base (.lst (e _ _ h))
theorem ty_tup {K : PySem.W.Frag} {a : Addr} {xs : List V} (h : H a = some (.tup xs)) : ∀ H1, Ex H H1 → TyX K H1 (.ref a) (.type "tuple") := fun _ e => .base (.tup (e _ _ h))
/-- products, quotients with their conditions -/
theorem ev_mul {i j : Int} (ha : Ev ta σ H (.int i)) (hb : Ev tb σ H (.int j)) (hc : CMulX i j) : Ev (tOp oMul ta tb) σ H (.int (i * j)) := ev_op ha hb (rv_I hc)
theorem ev_div {i j : Int} (ha : Ev ta σ H (.int i)) (hb : Ev tb σ H (.int j)) (hc : CDivW i j) : Ev (tOp oDiv ta tb) σ H (.int (i / j)) := ev_op ha hb (rv_I hc)
theorem ev_mod {i j : Int} (ha : Ev ta σ H (.int i)) (hb : Ev tb σ H (.int j)) (hc : 0 < j) : Ev (tOp oMod ta tb) σ H (.int (i % j)) := ev_op ha hb (rv_I hc)
theorem ev_pow {i j : Int} (ha : Ev ta σ H (.int i)) (hb : Ev tb σ H (.int j)) (hc : CPow i j) : Ev (tOp oPow ta tb) σ H (.int (i ^ j.toNat)) := ev_op ha hb (rv_I hc)
theorem ev_neg {i : Int} (ha : Ev ta σ H (.int i)) : Ev (tUn uNeg ta) σ H (.int (-i)) := ev_un ha ru_neg
theorem ev_add {i j : Int} (ha : Ev ta σ H (.int i)) (hb : Ev tb σ H (.int j)) : Ev (tOp oAdd ta tb) σ H (.int (i + j)) := ev_op ha hb rv_I0
theorem ev_sub {i j : Int} (ha : Ev ta σ H (.int i)) (hb : Ev tb σ H (.int j)) : Ev (tOp oSub ta tb) σ H (.int (i - j)) := ev_op ha hb rv_I0
theorem ev_lt {i j : Int} (ha : Ev ta σ H (.int i)) (hb : Ev tb σ H (.int j)) : Ev (tOp oLt ta tb) σ H (.bl (decide (i < j))) := ev_op ha hb rv_I0
theorem ev_le {i j : Int} (ha : Ev ta σ H (.int i)) (hb : Ev tb σ H (.int j)) : Ev (tOp oLe ta tb) σ H (.bl (decide (i ≤ j))) := ev_op ha hb rv_I0
theorem ev_gt {i j : Int} (ha : Ev ta σ H (.int i)) (hb : Ev tb σ H (.int j)) : Ev (tOp oGt ta tb) σ H (.bl (decide (j < i))) := ev_op ha hb rv_I0
theorem ev_ge {i j : Int} (ha : Ev ta σ H (.int i)) (hb : Ev tb σ H (.int j)) : Ev (tOp oGe ta tb) σ H (.bl (decide (j ≤ i))) := ev_op ha hb rv_I0
theorem ev_eqI {i j : Int} (ha : Ev ta σ H (.int i)) (hb : Ev tb σ H (.int j)) : Ev (tOp rEq ta tb) σ H (.bl (decide (i = j))) := by
  have h := ev_op ha hb (rv_eq (x := .int i) (y := .int j) rfl)
  have e : decide ((V.int i) = V.int j) = decide (i = j) := by
    by_cases h : i = j
    · subst h
      simp
    · simp [h]
  rw [e] at h
  exact h
theorem ev_neI {i j : Int} (ha : Ev ta σ H (.int i)) (hb : Ev tb σ H (.int j)) : Ev (tOp rNe ta tb) σ H (.bl (!decide (i = j))) := by
  have h := ev_op ha hb (rv_ne (x := .int i) (y := .int j) rfl)
  have e : decide ((V.int i) = V.int j) = decide (i = j) := by
    by_cases h : i = j
    · subst h
      simp
    · simp [h]
  rw [e] at h
  exact h
/-- an item of a list of ints -/
theorem ev_ixI {p : Addr} {ns : List Int} {i : Int} {j : Nat} (ha : Ev ta σ H (.ref p)) (hb : Ev tb σ H (.int i)) (h : SqL K H p (ns.map V.int)) (hi : i = (j : Int)) (hj : j < ns.length) : Ev (tOp (rIxL K) ta tb) σ H (.int (ns.getD j 0)) := by
  refine ev_op ha hb (rv_ixL h ?_)
  subst hi
  refine atI_nat ?_
  rw [List.getElem?_map, List.getElem?_eq_getElem hj, List.getD_eq_getElem?_getD, List.getElem?_eq_getElem hj]
  rfl
end

/-! ### ranges as values, an item of a list changed by an operator -/
section
variable {X : Cx}
def rRng1 : List V → Hp → VK → Prop := fun vs H Q => ∃ i : Int, vs = [.int i] ∧ ∀ p, H p = none → Q (.ref p) (upd H p (.rng 0 i))
theorem cr_range1 : CallR X (.type "range") rRng1 := by
  intro pins s σ H vs us Q I r h
  obtain ⟨i, rfl, q⟩ := h
  obtain ⟨u1, rfl, ri⟩ := vals1 r
  obtain ⟨t, rfl⟩ := ri
  refine call_range_1 ⟨.ref s.heap.objs.size, upd H s.heap.objs.size (.rng 0 i), I.laid (t' := s.toks + 1 + 1) (fun b o e => Heap.get?_push_of_some _ e) (Nat.le_refl _) ?_, rfl, q _ (I.hok.fresh (Nat.le_refl _))⟩
  exact ⟨s.toks, t, s.toks + 1, Heap.get?_push_size _ rfl⟩
def iRngV (tl : TE) : TI := fun σ H R => tl σ H fun x H1 => ∃ a lo hi, x = .ref a ∧ H1 a = some (.rng lo hi) ∧ (-(2 ^ 62) ≤ lo ∧ lo < 2 ^ 62 ∧ -(2 ^ 62) ≤ hi ∧ hi < 2 ^ 62) ∧ R (Itr lo (hi - lo).toNat) H1
theorem pi_rngV {tg l : Expr} {tl : TE} (hl : PE X l tl) : PI X tg l (iRngV tl) := by
  refine ⟨fun pins s σ H R I h => ?_⟩
  refine thn (hl.run pins s σ H _ I h) fun v s1 ⟨x, H1, I1, r1, q1⟩ => ?_
  obtain ⟨a, lo, hi, e, ha, ⟨q1, q2, q3, q4⟩, q⟩ := q1
  subst e
  cases r1
  obtain ⟨t, u, v, ho⟩ := (show ObjOk X.prog X.w H1 s1.heap a (.rng lo hi) from I1.hok a _ ha)
  refine wpAny_pyIter_range ho (small_one q1 q2 q3 q4) ?_
  refine ⟨s1.heap.objs.size, [s1.heap.objs.size], _, _, H1, rfl, I1.kept (t' := s1.toks) fun b o e => Heap.get?_push_of_some _ e, turn_range _ lo (hi - lo).toNat, ?_, fun b hb => ?_, q⟩
  · have e1 : lo + ((0 : Nat) : Int) * 1 = lo := by simp
    have e2 : (((hi - lo).toNat : Nat) : Int) - ((0 : Nat) : Int) = Builtin.Range.rangeSize lo hi 1 := by rw [rangeSize_one]; split <;> omega
    show IsRangeIter _ _ (lo + ((0 : Nat) : Int) * 1) ((((hi - lo).toNat : Nat) : Int) - ((0 : Nat) : Int)) 1
    rw [e1, e2]
    exact Heap.get?_push_size _ rfl
  · have e : b = s1.heap.objs.size := by simpa using hb
    subst e
    exact I1.fpOk (Nat.le_refl _) (I1.hok.fresh (Nat.le_refl _))
def rGetL : V → V → Hp → VK → Prop := fun o i H Q => ∃ p xs k v, o = .ref p ∧ i = .int k ∧ H p = some (.lst xs) ∧ 0 ≤ k ∧ xs[k.toNat]? = some v ∧ Q v H
theorem get_list : PGet X rGetL := by
  intro pins s σ H o i ov iv Q I ro ri h
  obtain ⟨p, xs, k, z, rfl, rfl, hp, h0, he, q⟩ := h
  cases ro
  obtain ⟨t, rfl⟩ := ri
  obtain ⟨its, r, pl, hz⟩ := I.list (.inl (.inl hp))
  obtain ⟨w, ew, rw'⟩ := r.get he
  have hn := line63
  have hj : k.toNat < xs.length := (List.getElem?_eq_some_iff.mp he).1
  exact wpAny_getItem_list pl.isList h0 (by omega) (by simpa using ew) ⟨z, H, I, rw', q⟩
end
/-! ### new objects of any kind; new lists as arguments; lists of new lists -/
section
variable {K : PySem.W.Frag} {σ : L2.St} {H H' : Hp} {ta tb te tx : TE} {t u : TT} {x y z v : V} {r : R2} {D : Ends} {tu tw tz : TS}
def EvN (te : TE) (σ : L2.St) (H : Hp) (o : HO) : Prop := ∀ H1, Ex H H1 → ∀ Q : VK, (∀ p H2, H1 p = none → Ex H1 H2 → H2 p = some o → Q (.ref p) H2) → te σ H1 Q
theorem q_asgN {i : Nat} {o : HO} (h : EvN te σ H o) (k : ∀ p H1, H p = none → Ex H H1 → H1 p = some o → tz D (σ.set i (some (.ref p))) H1) : tSeq (tAsg te (gName i)) tz D σ H := h H (Ex.refl H) _ fun p H1 hp e h1 => k p H1 hp e h1
theorem en_range1 {n : Int} (ha : Ev ta σ H (.int n)) : EvN (tCB rRng1 (tCons ta tNil)) σ H (.rng 0 n) := fun H1 e Q q =>
  ha H1 e _ fun H2 e2 => ⟨n, rfl, fun p hp => q p _ (fresh_back e2 hp) (e2.trans (Ex.new hp)) upd_same⟩
theorem el_lcRV {a : Addr} {tl : TE} {j : Nat} {vs : List Nat} {n : Int} (f : Nat → Bool) (v : Nat → V) (h : Ev tl σ H (.ref a)) (hr : H a = some (.rng 0 n)) (hn : 0 ≤ n ∧ n ≤ 40000) (hw : ∀ x, wipe ((wipe σ vs).set j (some x)) vs = wipe σ vs)
    (ht : ∀ (i : Nat) H1, Ex H H1 → (i : Int) < n → EvT t ((wipe σ vs).set j (some (.int (i : Int)))) H1 (f i)) (he : ∀ (i : Nat) H1, Ex H H1 → (i : Int) < n → f i = true → Ev te ((wipe σ vs).set j (some (.int (i : Int)))) H1 (v i)) :
    EvL (tLc (iRngV tl) (gName j) t te vs) σ H (given n.toNat f v) := fun H0 e Q q => h H0 e _ fun H1 e1 => ⟨a, 0, n, rfl, (e.trans e1) _ _ hr, ⟨by omega, by omega, by omega, by omega⟩, fun Dl hD => by
  rw [Int.sub_zero]
  exact lc_range (lo := 0) (n := n.toNat) (Cw H1 f v Dl) ⟨hD, Ex.new hD, upd_same⟩ (fun i H' hi p => by
    have e0 : (0 : Int) + (i : Int) = (i : Int) := Int.zero_add _
    show wipe ((wipe σ vs).set j (some (.int ((0 : Int) + (i : Int))))) vs = wipe σ vs ∧ t ((wipe σ vs).set j (some (.int ((0 : Int) + (i : Int))))) H' fun b H3 => if b = true then te ((wipe σ vs).set j (some (.int ((0 : Int) + (i : Int))))) H3 fun y H4 => ∃ acc, H4 Dl = some (.lst acc) ∧ acc.length < sizeLine ∧ Cw H1 f v Dl (i + 1) (upd H4 Dl (.lst (acc ++ [y]))) else Cw H1 f v Dl (i + 1) H3
    rw [e0]
    exact ⟨hw _, cw_turn p (by omega) (ht i H1 (e.trans e1) (by omega)) (fun hf => he i H1 (e.trans e1) (by omega) hf)⟩) (fun H' p => q Dl H' (fresh_back e1 p.1) (e1.trans p.2.1) p.2.2)⟩
/-- calls whose one argument is a new list -/
theorem el_callN {sp : Sp} {E : XK} {xs ys : List V} (h : EvL te σ H xs) (hs : ∀ p H1, H1 p = some (.lst xs) → Ex H H1 → SpL sp [.ref p] H1 ys) : EvL (tCall sp [] E (tCons te tNil)) σ H ys := fun H1 e Q q =>
  h H1 e _ fun p H2 hp e2 h2 => hs p H2 h2 (e.trans e2) H2 (Ex.refl H2) Q (fun p3 H3 hp3 e3 h3 => q p3 H3 (fresh_back e2 hp3) (e2.trans e3) h3) E
theorem ev_callN {sp : Sp} {E : XK} {xs : List V} (h : EvL te σ H xs) (hs : ∀ p H1, H1 p = some (.lst xs) → Ex H H1 → SpV sp [.ref p] H1 z) : Ev (tCall sp [] E (tCons te tNil)) σ H z := fun H1 e Q q =>
  h H1 e _ fun p H2 hp e2 h2 => hs p H2 h2 (e.trans e2) H2 (Ex.refl H2) Q (fun H3 e3 => q H3 (e2.trans e3)) E
theorem el_listN {xs : List V} (h : EvL te σ H xs) : EvL (tCB (rListS K) (tCons te tNil)) σ H xs := fun H1 e Q q =>
  h H1 e _ fun p H2 _ e2 h2 => ⟨p, xs, rfl, Or.inl (sq_of h2), fun l hl => q l _ (fresh_back e2 hl) (e2.trans (Ex.new hl)) upd_same⟩
/-- lists that are new, each its own -/
def News (H H2 : Hp) : List Addr → List (List V) → Prop
  | [], [] => True
  | p :: ps, xs :: xss => H p = none ∧ H2 p = some (.lst xs) ∧ p ∉ ps ∧ News H H2 ps xss
  | _, _ => False
theorem News.mono : ∀ {ps : List Addr} {xss : List (List V)} {H H0 H1 H2 : Hp}, News H H1 ps xss → Ex H0 H → Ex H1 H2 → News H0 H2 ps xss
  | [], [], _, _, _, _, _, _, _ => trivial
  | p :: ps, xs :: xss, _, _, _, _, h, e0, e => ⟨fresh_back e0 h.1, e _ _ h.2.1, h.2.2.1, News.mono h.2.2.2 e0 e⟩
  | [], _ :: _, _, _, _, _, h, _, _ => h.elim
  | _ :: _, [], _, _, _, _, h, _, _ => h.elim
theorem News.free : ∀ {ps : List Addr} {xss : List (List V)} {H H2 : Hp}, News H H2 ps xss → ∀ p ∈ ps, H p = none
  | [], [], _, _, _, p, hp => by simp at hp
  | a :: ps, xs :: xss, _, _, h, p, hp => by
    rcases List.mem_cons.mp hp with e | hp
    · rw [e]
      exact h.1
    · exact News.free h.2.2.2 p hp
  | [], _ :: _, _, _, h, _, _ => h.elim
  | _ :: _, [], _, _, h, _, _ => h.elim
def EvLs (ta : TA) (σ : L2.St) (H : Hp) (xss : List (List V)) : Prop := ∀ H1, Ex H H1 → ∀ Q : List V → Hp → Prop, (∀ ps H2, Ex H1 H2 → News H1 H2 ps xss → Q (ps.map V.ref) H2) → ta σ H1 Q
theorem els_nil : EvLs tNil σ H [] := fun H1 e Q q => q [] H1 (Ex.refl H1) trivial
theorem els_cons {tr : TA} {xs : List V} {xss : List (List V)} (h : EvL te σ H xs) (hr : EvLs tr σ H xss) : EvLs (tCons te tr) σ H (xs :: xss) := fun H1 e Q q =>
  h H1 e _ fun p H2 hp e2 h2 => hr H2 (e.trans e2) _ fun ps H3 e3 n3 => q (p :: ps) H3 (e2.trans e3) ⟨hp, e3 _ _ h2, (fun hm => by
    rw [n3.free p hm] at h2
    cases h2), n3.mono e2 (Ex.refl H3)⟩
/-- a new list of new lists -/
def EvLL (te : TE) (σ : L2.St) (H : Hp) (xss : List (List V)) : Prop := ∀ H1, Ex H H1 → ∀ Q : VK, (∀ p ps H2, H1 p = none → p ∉ ps → Ex H1 H2 → News H1 H2 ps xss → H2 p = some (.lst (ps.map V.ref)) → Q (.ref p) H2) → te σ H1 Q
theorem News.len : ∀ {ps : List Addr} {xss : List (List V)} {H H2 : Hp}, News H H2 ps xss → ps.length = xss.length
  | [], [], _, _, _ => rfl
  | _ :: ps, _ :: xss, _, _, h => by
    have := News.len h.2.2.2
    simp [this]
  | [], _ :: _, _, _, h => h.elim
  | _ :: _, [], _, _, h => h.elim
theorem News.ex : ∀ {ps : List Addr} {xss : List (List V)} {H H2 : Hp}, News H H2 ps xss → ∀ p ∈ ps, ∃ xs, H2 p = some (.lst xs)
  | [], [], _, _, _, p, hp => by simp at hp
  | a :: ps, xs :: xss, _, _, h, p, hp => by
    rcases List.mem_cons.mp hp with e | hp
    · rw [e]
      exact ⟨xs, h.2.1⟩
    · exact News.ex h.2.2.2 p hp
  | [], _ :: _, _, _, h, _, _ => h.elim
  | _ :: _, [], _, _, h, _, _ => h.elim
theorem ell_lst {ta : TA} {xss : List (List V)} (h : EvLs ta σ H xss) (hz : xss.length ≤ 1000) : EvLL (tLst ta) σ H xss := fun H1 e Q q =>
  h H1 e _ fun ps H2 e2 n2 => ⟨by
    rw [List.length_map, n2.len]
    exact sz_of (by omega), fun p hp => q p ps _ (fresh_back e2 hp) (fun hm => by
    obtain ⟨xs, h3⟩ := n2.ex p hm
    rw [hp] at h3
    cases h3) (e2.trans (Ex.new hp)) (n2.mono (Ex.refl H1) (Ex.new hp)) upd_same⟩
def RetLL (xss : List (List V)) (H : Hp) (Q : VK) : Prop := ∀ p ps H2, H p = none → p ∉ ps → Ex H H2 → News H H2 ps xss → H2 p = some (.lst (ps.map V.ref)) → Q (.ref p) H2
theorem RetLL.go {xss : List (List V)} {Q : VK} (k : RetLL xss H Q) (e : Ex H H') {p : Addr} {ps : List Addr} {H2 : Hp} (hp : H' p = none) (hm : p ∉ ps) (e2 : Ex H' H2) (n : News H' H2 ps xss) (h : H2 p = some (.lst (ps.map V.ref))) : Q (.ref p) H2 :=
  k p ps H2 (fresh_back e hp) hm (e.trans e2) (n.mono e (Ex.refl H2)) h
theorem s_retLL {xss : List (List V)} (h : EvLL te σ H xss) (k : ∀ p ps H1, H p = none → p ∉ ps → Ex H H1 → News H H1 ps xss → H1 p = some (.lst (ps.map V.ref)) → D.rt (.ref p) H1) : tRet te D σ H := h H (Ex.refl H) _ k
theorem q_asgLL {i : Nat} {xss : List (List V)} (h : EvLL te σ H xss) (k : ∀ p ps H1, H p = none → p ∉ ps → Ex H H1 → News H H1 ps xss → H1 p = some (.lst (ps.map V.ref)) → tz D (σ.set i (some (.ref p))) H1) : tSeq (tAsg te (gName i)) tz D σ H := h H (Ex.refl H) _ k
def SpLL (sp : Sp) (vs : List V) (H : Hp) (xss : List (List V)) : Prop := ∀ H1, Ex H H1 → ∀ Q : VK, RetLL xss H1 Q → ∀ E : XK, sp vs H1 Q E
theorem ell_call {sp : Sp} {vs : List V} {xss : List (List V)} {E : XK} {ta : TA} (h : EvA ta σ H vs) (hs : SpLL sp vs H xss) : EvLL (tCall sp [] E ta) σ H xss := fun H1 e Q q =>
  h H1 e _ fun H2 e2 => by
    rw [List.append_nil]
    exact hs H2 (e.trans e2) Q (fun p ps H3 hp hm e3 n3 h3 => q p ps H3 (fresh_back e2 hp) hm (e2.trans e3) (n3.mono e2 (Ex.refl H3)) h3) E
/-- an item of a list of addresses -/
theorem ev_ixR {p : Addr} {ps : List Addr} {i : Int} {j : Nat} {a : Addr} (ha : Ev ta σ H (.ref p)) (hb : Ev tb σ H (.int i)) (h : H p = some (.lst (ps.map V.ref))) (hi : i = (j : Int)) (hj : ps[j]? = some a) : Ev (tOp (rIxL K) ta tb) σ H (.ref a) := by
  refine ev_op ha hb (rv_ixL (sq_of h) ?_)
  subst hi
  refine atI_nat ?_
  rw [List.getElem?_map, hj]
  rfl
end

theorem News.get : ∀ {ps : List Addr} {xss : List (List V)} {H H2 : Hp} {j : Nat} {p : Addr} {xs : List V}, News H H2 ps xss → ps[j]? = some p → xss[j]? = some xs → H p = none ∧ H2 p = some (.lst xs)
  | [], _, _, _, _, _, _, _, h, _ => by simp at h
  | _ :: _, [], _, _, _, _, _, h, _, _ => h.elim
  | a :: ps, ys :: xss, _, _, 0, _, _, h, e1, e2 => by
    simp at e1 e2
    subst e1 e2
    exact ⟨h.1, h.2.1⟩
  | a :: ps, ys :: xss, _, _, j + 1, _, _, h, e1, e2 => News.get h.2.2.2 (by simpa using e1) (by simpa using e2)
theorem News.nodup : ∀ {ps : List Addr} {xss : List (List V)} {H H2 : Hp}, News H H2 ps xss → ps.Nodup
  | [], _, _, _, _ => List.nodup_nil
  | _ :: _, [], _, _, h => h.elim
  | a :: ps, ys :: xss, _, _, h => List.nodup_cons.mpr ⟨h.2.2.1, News.nodup h.2.2.2⟩
theorem News.at {ps : List Addr} {xss : List (List V)} {H H2 : Hp} {j : Nat} (h : News H H2 ps xss) (hj : j < xss.length) : ∃ p, ps[j]? = some p :=
  ⟨ps[j]'(by rw [h.len]; exact hj), List.getElem?_eq_getElem _⟩
section
variable {K : PySem.W.Frag} {σ : L2.St} {H H' : Hp} {ta tb te tx : TE} {t u : TT} {x y z v : V} {r : R2} {D : Ends} {tu tw tz : TS}
theorem evp_L {xs : List V} (h : EvL te σ H xs) : EvP te σ H (fun v H2 => ∃ p, v = .ref p ∧ H2 p = some (.lst xs)) := fun H1 e Q q => h H1 e _ fun p H2 _ e2 h2 => q _ H2 e2 ⟨p, rfl, h2⟩
theorem EvP.imp {P P' : V → Hp → Prop} (h : EvP te σ H P) (i : ∀ v H1, P v H1 → P' v H1) : EvP te σ H P' := fun H1 e Q q => h H1 e _ fun v H2 e2 hp => q v H2 e2 (i v H2 hp)
/-- if c: x = e, what x holds behind told by P -/
theorem q_whenAsg {b : Bool} {i : Nat} {P : V → Hp → Prop} (h : EvT t σ H b) (h1 : b = true → EvP te σ H P) (h2 : b = false → ∃ v, σ.set i (some v) = σ ∧ ∀ H1, Ex H H1 → P v H1) (k : ∀ v H1, Ex H H1 → P v H1 → tz D (σ.set i (some v)) H1) : tSeq (tIfS t (tAsg te (gName i)) tNext) tz D σ H :=
  q_when h (fun hb H1 e1 => h1 hb H1 e1 _ fun v H2 e2 hp => k v H2 (e1.trans e2) hp) (fun hb H1 e1 => by
    obtain ⟨v, e, hp⟩ := h2 hb
    have g := k v H1 e1 (hp H1 e1)
    rw [e] at g
    exact g)
theorem q_asgP {i : Nat} {P : V → Hp → Prop} (h : EvP te σ H P) (k : ∀ v H1, Ex H H1 → P v H1 → tz D (σ.set i (some v)) H1) : tSeq (tAsg te (gName i)) tz D σ H := h H (Ex.refl H) _ fun v H1 e hp => k v H1 e hp
theorem el_cat {xs ys : List V} (h1 : EvL ta σ H xs) (h2 : EvL tb σ H ys) (hz : xs.length + ys.length ≤ 100000) : EvL (tOp rCat ta tb) σ H (xs ++ ys) := fun H1 e Q q =>
  h1 H1 e _ fun p H2 hp e2 hx => h2 H2 (e.trans e2) _ fun p2 H3 hp2 e3 hy => ⟨p, p2, xs, ys, rfl, rfl, e3 _ _ hx, hy, sz_of hz, fun l hl => q l _ (fresh_back (e2.trans e3) hl) ((e2.trans e3).trans (Ex.new hl)) upd_same⟩
end
theorem cut_drop (ns : List Int) (k : Nat) : cutV (ns.map V.int) (some (k : Int)) none = (ns.drop k).map V.int := by
  unfold cutV
  rw [HT.sIx_none, show HT.sIx (ns.map V.int).length 0 (some (k : Int)) = min k (ns.map V.int).length from HT.sIx_nat (ns.map V.int).length _ k]
  rw [← List.map_drop, ← List.map_take, List.length_map]
  congr 1
  by_cases h : k ≤ ns.length
  · rw [Nat.min_eq_left h]
    refine List.take_of_length_le ?_
    rw [List.length_drop]
    exact Nat.le_refl _
  · rw [Nat.min_eq_right (by omega), List.drop_length, List.drop_of_length_le (by omega)]
    simp
/-! ### truth of lists, repeated lists, enumerate, items changed -/
abbrev tTruth (K : PySem.W.Frag) (ta : TE) : TT := fun σ H Q => ta σ H fun x H' => ∃ k, TruV K x H' k ∧ Q k H'
section
variable {K : PySem.W.Frag} {σ : L2.St} {H H' : Hp} {ta tb te tx : TE} {t u : TT} {x y z v : V} {r : R2} {D : Ends} {tu tw tz : TS}
theorem et_truthL {a : Addr} {xs : List V} (h : Ev te σ H (.ref a)) (hx : SqL K H a xs) : EvT (tTruth K te) σ H (!xs.isEmpty) := fun H1 e Q q =>
  h H1 e _ fun H2 e2 => ⟨_, .inl ⟨xs, ex_l (e.trans e2) hx, rfl⟩, q H2 e2⟩
theorem et_truthI {i : Int} (h : Ev te σ H (.int i)) : EvT (tTruth K te) σ H (i != 0) := fun H1 e Q q =>
  h H1 e _ fun H2 e2 => ⟨_, rfl, q H2 e2⟩
theorem rep_flat (k : Nat) (v : V) : (List.replicate k [v]).flatten = List.replicate k v := by
  induction k with
  | zero => rfl
  | succ k ih => rw [List.replicate_succ, List.flatten_cons, ih, List.replicate_succ] <;> rfl
theorem el_rep {i : Int} {k : Nat} (h : EvL ta σ H [v]) (hb : Ev tb σ H (.int i)) (hi : i = (k : Int)) (hk : k ≤ 100000) : EvL (tOp rRep ta tb) σ H (List.replicate k v) := fun H1 e Q q =>
  h H1 e _ fun p H2 hp e2 hx => hb H2 (e.trans e2) _ fun H3 e3 => ⟨p, i, [v], rfl, rfl, e3 _ _ hx, by omega, by omega, by
    rw [hi, Int.toNat_natCast]
    show 1 * k ≤ _
    rw [Nat.one_mul]
    exact sz_of hk, fun l hl => by
    rw [hi, Int.toNat_natCast, rep_flat]
    exact q l _ (fresh_back (e2.trans e3) hl) ((e2.trans e3).trans (Ex.new hl)) upd_same⟩
theorem q_setI {l : Addr} {ns : List Int} {i w : Int} {j : Nat} (hl : H l = some (.lst (ns.map V.int))) (h : Ev te σ H (.int w)) (ho : Ev ta σ H (.ref l)) (hi : Ev tb σ H (.int i)) (he : i = (j : Int)) (hj : j < ns.length) (k : ∀ H1, Ex H H1 → D.nx σ (upd H1 l (.lst ((ns.set j w).map V.int)))) :
    tAsg te (gSub ta tb rSetL) D σ H := by
  subst he
  refine s_setL hl h ho hi (by rw [List.length_map]; exact hj) fun H1 e1 => ?_
  have := k H1 e1
  rw [List.map_set] at this
  exact this
theorem s_augI {l : Addr} {ns : List Int} {i w : Int} {j : Nat} (hl : H l = some (.lst (ns.map V.int))) (ho : Ev ta σ H (.ref l)) (hi : Ev tb σ H (.int i)) (he : i = (j : Int)) (hj : j < ns.length) (h : Ev te σ H (.int w)) (k : ∀ H1, Ex H H1 → D.nx σ (upd H1 l (.lst ((ns.set j (ns.getD j 0 + w)).map V.int)))) :
    tAugS ta tb te rGetL (ipI fun i j => i + j) rSetL D σ H := by
  subst he
  refine ho H (Ex.refl H) _ fun H1 e1 => hi H1 e1 _ fun H2 e2 => ?_
  have h2 := (e1.trans e2) _ _ hl
  refine ⟨l, _, _, .int (ns.getD j 0), rfl, rfl, h2, by omega, ?_, ?_⟩
  · rw [Int.toNat_natCast, List.getElem?_map, List.getElem?_eq_getElem hj, List.getD_eq_getElem?_getD, List.getElem?_eq_getElem hj]
    rfl
  refine h H2 (e1.trans e2) _ fun H3 e3 => ⟨_, _, rfl, rfl, l, _, _, j, rfl, rfl, e3 _ _ h2, ixN_nat (by rw [List.length_map]; exact hj), ?_⟩
  have := k H3 ((e1.trans e2).trans e3)
  rw [List.map_set] at this
  exact this
/-- for i, x in enumerate(xs) -/
theorem s_forEnum {a : Addr} {xs : List V} {ta : TA} {n1 n2 : Nat} (h : EvA ta σ H [.ref a]) (hx : SqL K H a xs) (Pv : Nat → L2.St → Hp → Prop) (h0 : ∀ H1, Ex H H1 → Pv 0 σ H1) (hl : ∀ i σ' H', i ≤ xs.length → Pv i σ' H' → SqL K H' a xs)
    (hs : ∀ (i : Nat) x σ' H' H'', xs[i]? = some x → Pv i σ' H' → Ex H' H'' → tu { D with nx := Pv (i + 1), ct := Pv (i + 1), bk := D.nx } ((σ'.set n1 (some (.int (i : Int)))).set n2 (some x)) H'') (hd : ∀ σ' H', Pv xs.length σ' H' → D.nx σ' H') :
    tFor (iEnum K ta) (gTup K 2 (gCons (gName n1) (gCons (gName n2) gNil))) tu D σ H := by
  refine h H (Ex.refl H) _ fun H1 e => ⟨a, xs, rfl, ex_l e hx, fun i m σ' H' => m = xs.length - i ∧ i ≤ xs.length ∧ Pv i σ' H', ⟨xs.length, by simp, Nat.zero_le _, h0 H1 e⟩, fun i m σ' H' hW => ?_⟩
  obtain ⟨rfl, hi, p⟩ := hW
  have hq := hl i σ' H' hi p
  by_cases hlt : i < xs.length
  · have hg : xs[i]? = some xs[i] := List.getElem?_eq_getElem hlt
    refine .inr ⟨⟨xs, _, hq, hg⟩, Pv (i + 1), fun σ2 H2 p2 => ⟨xs.length - (i + 1), by omega, rfl, by omega, p2⟩, fun w H2 hy => ?_⟩
    obtain ⟨T, x, rfl, hT, rfl, hxx⟩ := hy
    refine ⟨T, [.int (i : Int), x], rfl, .inl (.inl upd_same), rfl, .int (i : Int), [x], rfl, x, [], rfl, rfl, ?_⟩
    exact hs i x σ' H' _ (hxx xs hq) p (Ex.new hT)
  · have e : i = xs.length := by omega
    subst e
    exact .inl ⟨⟨xs, hq, Nat.le_refl _⟩, hd σ' H' p⟩
theorem q_forEnum {a : Addr} {xs : List V} {ta : TA} {n1 n2 : Nat} (h : EvA ta σ H [.ref a]) (hx : SqL K H a xs) (Pv : Nat → L2.St → Hp → Prop) (h0 : ∀ H1, Ex H H1 → Pv 0 σ H1) (hl : ∀ i σ' H', i ≤ xs.length → Pv i σ' H' → SqL K H' a xs)
    (hs : ∀ (i : Nat) x σ' H' H'', xs[i]? = some x → Pv i σ' H' → Ex H' H'' → tu { D with nx := Pv (i + 1), ct := Pv (i + 1), bk := tz D } ((σ'.set n1 (some (.int (i : Int)))).set n2 (some x)) H'') (hd : ∀ σ' H', Pv xs.length σ' H' → tz D σ' H') :
    tSeq (tFor (iEnum K ta) (gTup K 2 (gCons (gName n1) (gCons (gName n2) gNil))) tu) tz D σ H := s_forEnum (D := { D with nx := tz D }) h hx Pv h0 hl hs hd
end
/-! ### arguments told by what holds of them; pairs -/
def Stable (P : V → Hp → Prop) : Prop := ∀ v H1 H2, Ex H1 H2 → P v H1 → P v H2
/-- a list of its own at the value's address; a value -/
def IsL (xs : List V) : V → Hp → Prop := fun v H => ∃ p, v = .ref p ∧ H p = some (.lst xs)
def IsV (z : V) : V → Hp → Prop := fun v _ => v = z
theorem st_L {xs : List V} : Stable (IsL xs) := fun _ _ _ e ⟨p, h, h2⟩ => ⟨p, h, e _ _ h2⟩
theorem st_V {z : V} : Stable (IsV z) := fun _ _ _ _ h => h
def All2 : List (V → Hp → Prop) → List V → Hp → Prop
  | [], [], _ => True
  | P :: Ps, v :: vs, H => P v H ∧ All2 Ps vs H
  | _, _, _ => False
section
variable {K : PySem.W.Frag} {σ : L2.St} {H H' : Hp} {ta tb te tx : TE} {t u : TT} {x y z v : V} {r : R2} {D : Ends} {tu tw tz : TS}
def EvPs (ta : TA) (σ : L2.St) (H : Hp) (Ps : List (V → Hp → Prop)) : Prop := ∀ H1, Ex H H1 → ∀ Q : List V → Hp → Prop, (∀ vs H2, Ex H1 H2 → All2 Ps vs H2 → Q vs H2) → ta σ H1 Q
theorem evp_V (h : Ev te σ H z) : EvP te σ H (IsV z) := fun H1 e Q q => h H1 e _ fun H2 e2 => q z H2 e2 rfl
theorem evp_l {xs : List V} (h : EvL te σ H xs) : EvP te σ H (IsL xs) := fun H1 e Q q => h H1 e _ fun p H2 _ e2 h2 => q _ H2 e2 ⟨p, rfl, h2⟩
theorem evp_at {a : Addr} {xs : List V} (h : Ev te σ H (.ref a)) (hx : H a = some (.lst xs)) : EvP te σ H (IsL xs) := fun H1 e Q q => h H1 e _ fun H2 e2 => q _ H2 e2 ⟨a, rfl, (e.trans e2) _ _ hx⟩
theorem eps_nil : EvPs tNil σ H [] := fun H1 e Q q => q [] H1 (Ex.refl H1) trivial
theorem eps_cons {tr : TA} {P : V → Hp → Prop} {Ps : List (V → Hp → Prop)} (h : EvP te σ H P) (st : Stable P) (hr : EvPs tr σ H Ps) : EvPs (tCons te tr) σ H (P :: Ps) := fun H1 e Q q =>
  h H1 e _ fun v H2 e2 hv => hr H2 (e.trans e2) _ fun vs H3 e3 hvs => q _ H3 (e2.trans e3) ⟨st _ _ _ e3 hv, hvs⟩
theorem eps_l {tr : TA} {xs : List V} {Ps : List (V → Hp → Prop)} (h : EvL te σ H xs) (hr : EvPs tr σ H Ps) : EvPs (tCons te tr) σ H (IsL xs :: Ps) := eps_cons (evp_l h) st_L hr
theorem eps_at {tr : TA} {a : Addr} {xs : List V} {Ps : List (V → Hp → Prop)} (h : Ev te σ H (.ref a)) (hx : H a = some (.lst xs)) (hr : EvPs tr σ H Ps) : EvPs (tCons te tr) σ H (IsL xs :: Ps) := eps_cons (evp_at h hx) st_L hr
theorem eps_V {tr : TA} {Ps : List (V → Hp → Prop)} (h : Ev te σ H z) (hr : EvPs tr σ H Ps) : EvPs (tCons te tr) σ H (IsV z :: Ps) := eps_cons (evp_V h) st_V hr
theorem el_callP {sp : Sp} {E : XK} {ta : TA} {Ps : List (V → Hp → Prop)} {xs : List V} (h : EvPs ta σ H Ps) (hs : ∀ vs H1, Ex H H1 → All2 Ps vs H1 → SpL sp vs H1 xs) : EvL (tCall sp [] E ta) σ H xs := fun H1 e Q q =>
  h H1 e _ fun vs H2 e2 hvs => by
    rw [List.append_nil]
    exact hs vs H2 (e.trans e2) hvs H2 (Ex.refl H2) Q (fun p H3 hp e3 h3 => q p H3 (fresh_back e2 hp) (e2.trans e3) h3) E
theorem ev_callP {sp : Sp} {E : XK} {ta : TA} {Ps : List (V → Hp → Prop)} (h : EvPs ta σ H Ps) (hs : ∀ vs H1, Ex H H1 → All2 Ps vs H1 → SpV sp vs H1 z) : Ev (tCall sp [] E ta) σ H z := fun H1 e Q q =>
  h H1 e _ fun vs H2 e2 hvs => by
    rw [List.append_nil]
    exact hs vs H2 (e.trans e2) hvs H2 (Ex.refl H2) Q (fun H3 e3 => q H3 (e2.trans e3)) E
theorem all2_two {P1 P2 : V → Hp → Prop} {vs : List V} {H : Hp} (h : All2 [P1, P2] vs H) : ∃ v w, vs = [v, w] ∧ P1 v H ∧ P2 w H := by
  match vs, h with
  | [v, w], ⟨a, b, _⟩ => exact ⟨v, w, rfl, a, b⟩
theorem all2_one {P1 : V → Hp → Prop} {vs : List V} {H : Hp} (h : All2 [P1] vs H) : ∃ v, vs = [v] ∧ P1 v H := by
  match vs, h with
  | [v], ⟨a, _⟩ => exact ⟨v, rfl, a⟩
theorem all2_three {P1 P2 P3 : V → Hp → Prop} {vs : List V} {H : Hp} (h : All2 [P1, P2, P3] vs H) : ∃ v w u, vs = [v, w, u] ∧ P1 v H ∧ P2 w H ∧ P3 u H := by
  match vs, h with
  | [v, w, u], ⟨a, b, c, _⟩ => exact ⟨v, w, u, rfl, a, b, c⟩
/-- two lists: a binary call -/
theorem el_call2 {sp : Sp} {E : XK} {xs ys zs : List V} (ha : EvP ta σ H (IsL xs)) (hb : EvP tb σ H (IsL ys)) (hs : ∀ a b H1, Ex H H1 → H1 a = some (.lst xs) → H1 b = some (.lst ys) → SpL sp [.ref a, .ref b] H1 zs) : EvL (tCall sp [] E (tCons ta (tCons tb tNil))) σ H zs :=
  el_callP (eps_cons ha st_L (eps_cons hb st_L eps_nil)) fun vs H1 e1 h => by
    obtain ⟨v, w, rfl, ⟨a, rfl, h1⟩, b, rfl, h2⟩ := all2_two h
    exact hs a b H1 e1 h1 h2
theorem ev_call2 {sp : Sp} {E : XK} {xs ys : List V} (ha : EvP ta σ H (IsL xs)) (hb : EvP tb σ H (IsL ys)) (hs : ∀ a b H1, Ex H H1 → H1 a = some (.lst xs) → H1 b = some (.lst ys) → SpV sp [.ref a, .ref b] H1 z) : Ev (tCall sp [] E (tCons ta (tCons tb tNil))) σ H z :=
  ev_callP (eps_cons ha st_L (eps_cons hb st_L eps_nil)) fun vs H1 e1 h => by
    obtain ⟨v, w, rfl, ⟨a, rfl, h1⟩, b, rfl, h2⟩ := all2_two h
    exact hs a b H1 e1 h1 h2
def RetP (P : V → Hp → Prop) (H : Hp) (Q : VK) : Prop := ∀ v H2, Ex H H2 → P v H2 → Q v H2
theorem RetP.go {P : V → Hp → Prop} {Q : VK} (k : RetP P H Q) (e : Ex H H') {v : V} {H2 : Hp} (e2 : Ex H' H2) (h : P v H2) : Q v H2 := k v H2 (e.trans e2) h
theorem s_retP {P : V → Hp → Prop} (h : EvP te σ H P) (k : ∀ v H1, Ex H H1 → P v H1 → D.rt v H1) : tRet te D σ H := h H (Ex.refl H) _ k
def SpP (sp : Sp) (vs : List V) (H : Hp) (P : V → Hp → Prop) : Prop := ∀ H1, Ex H H1 → ∀ Q : VK, RetP P H1 Q → ∀ E : XK, sp vs H1 Q E
theorem evp_call {sp : Sp} {E : XK} {ta : TA} {vs : List V} {P : V → Hp → Prop} (h : EvA ta σ H vs) (hs : SpP sp vs H P) : EvP (tCall sp [] E ta) σ H P := fun H1 e Q q =>
  h H1 e _ fun H2 e2 => by
    rw [List.append_nil]
    exact hs H2 (e.trans e2) Q (fun v H3 e3 hv => q v H3 (e2.trans e3) hv) E
/-- a pair of two lists, that may be known or new -/
def IsPair (P : List V → List V → Prop) : V → Hp → Prop := fun v H => ∃ t a b xs ys, v = .ref t ∧ H t = some (.tup [.ref a, .ref b]) ∧ H a = some (.lst xs) ∧ H b = some (.lst ys) ∧ P xs ys
theorem evp_pair {xs ys : List V} {P : List V → List V → Prop} (ha : EvP ta σ H (IsL xs)) (hb : EvP tb σ H (IsL ys)) (hp : P xs ys) : EvP (tTup (tCons ta (tCons tb tNil))) σ H (IsPair P) := fun H1 e Q q =>
  ha H1 e _ fun v H2 e2 ⟨a, ea, h1⟩ => hb H2 (e.trans e2) _ fun w H3 e3 ⟨b, eb, h2⟩ => ⟨sz_of (by show 2 ≤ 100000; decide), fun t ht => by
    subst ea
    subst eb
    exact q _ _ ((e2.trans e3).trans (Ex.new ht)) ⟨t, a, b, xs, ys, rfl, upd_same, (e3.trans (Ex.new ht)) _ _ h1, (Ex.new ht) _ _ h2, hp⟩⟩
/-- x, y = a pair -/
theorem q_unpack {n1 n2 : Nat} {P : List V → List V → Prop} (h : EvP te σ H (IsPair P)) (k : ∀ a b xs ys H1, Ex H H1 → H1 a = some (.lst xs) → H1 b = some (.lst ys) → P xs ys → tz D ((σ.set n1 (some (.ref a))).set n2 (some (.ref b))) H1) :
    tSeq (tAsg te (gTup K 2 (gCons (gName n1) (gCons (gName n2) gNil)))) tz D σ H := h H (Ex.refl H) _ fun v H1 e ⟨t, a, b, xs, ys, ev, ht, h1, h2, hp⟩ => by
  subst ev
  exact ⟨t, _, rfl, .inl (.inl ht), rfl, .ref a, _, rfl, .ref b, _, rfl, rfl, k a b xs ys H1 e h1 h2 hp⟩
/-- comprehensions over range(a, b), and over enumerate -/
theorem el_lcR2 {ta : TA} {j : Nat} {vs : List Nat} {lo hi : Int} (f : Nat → Bool) (v : Nat → V) (h : EvA ta σ H [.int lo, .int hi]) (hn : 0 ≤ lo ∧ lo ≤ 40000 ∧ 0 ≤ hi ∧ hi ≤ 40000) (hw : ∀ x, wipe ((wipe σ vs).set j (some x)) vs = wipe σ vs)
    (ht : ∀ (i : Nat) H1, Ex H H1 → lo + (i : Int) < hi → EvT t ((wipe σ vs).set j (some (.int (lo + (i : Int))))) H1 (f i)) (he : ∀ (i : Nat) H1, Ex H H1 → lo + (i : Int) < hi → f i = true → Ev te ((wipe σ vs).set j (some (.int (lo + (i : Int))))) H1 (v i)) :
    EvL (tLc (iRng2 ta) (gName j) t te vs) σ H (given (hi - lo).toNat f v) := fun H0 e Q q => h H0 e _ fun H1 e1 => ⟨lo, hi, rfl, ⟨by omega, by omega, by omega, by omega⟩, fun Dl hD =>
  lc_range (lo := lo) (n := (hi - lo).toNat) (Cw H1 f v Dl) ⟨hD, Ex.new hD, upd_same⟩ (fun i H' hi p =>
    ⟨hw _, cw_turn p (by omega) (ht i H1 (e.trans e1) (by omega)) (fun hf => he i H1 (e.trans e1) (by omega) hf)⟩) (fun H' p => q Dl H' (fresh_back e1 p.1) (e1.trans p.2.1) p.2.2)⟩
theorem el_lcEnum {a : Addr} {xs : List V} {ta : TA} {n1 n2 : Nat} {vs : List Nat} (v : Nat → V) (h : EvA ta σ H [.ref a]) (hx : SqL K H a xs) (hz : xs.length ≤ 40000) (hw : ∀ x y, wipe (((wipe σ vs).set n1 (some x)).set n2 (some y)) vs = wipe σ vs)
    (he : ∀ (i : Nat) (x : V) H1, Ex H H1 → xs[i]? = some x → Ev te (((wipe σ vs).set n1 (some (.int (i : Int)))).set n2 (some x)) H1 (v i)) :
    EvL (tLc (iEnum K ta) (gTup K 2 (gCons (gName n1) (gCons (gName n2) gNil))) tYes te vs) σ H ((List.range xs.length).map v) := fun H0 e Q q => h H0 e _ fun H1 e1 => by
  refine ⟨a, xs, rfl, ex_l (e.trans e1) hx, fun Dl hD => ⟨fun i m H' => m = xs.length - i ∧ i ≤ xs.length ∧ Ex H1 H' ∧ H' Dl = some (.lst ((List.range i).map v)), ⟨xs.length, by simp, Nat.zero_le _, Ex.new hD, upd_same⟩, fun i m H' hW => ?_⟩⟩
  obtain ⟨rfl, hi, e2, hd⟩ := hW
  have hq := ex_l ((e.trans e1).trans e2) hx
  by_cases hlt : i < xs.length
  · refine .inr ⟨⟨xs, _, hq, List.getElem?_eq_getElem hlt⟩, fun H2 => Ex H1 H2 ∧ H2 Dl = some (.lst ((List.range (i + 1)).map v)), fun H2 hN => ⟨xs.length - (i + 1), by omega, rfl, by omega, hN⟩, fun w H2 hy => ?_⟩
    obtain ⟨T, x, rfl, hT, rfl, hxx⟩ := hy
    have hxi := hxx xs hq
    refine ⟨T, [.int (i : Int), x], rfl, .inl (.inl upd_same), rfl, .int (i : Int), [x], rfl, x, [], rfl, rfl, hw _ _, ?_⟩
    refine he i x _ (((e.trans e1).trans e2).trans (Ex.new hT)) hxi _ (Ex.refl _) _ fun H3 e3 => ?_
    refine ⟨(List.range i).map v, e3 _ _ ((Ex.new hT) _ _ hd), sz_lt (by rw [List.length_map, List.length_range]; omega), Ex.mut ((e2.trans (Ex.new hT)).trans e3) hD, ?_⟩
    rw [upd_same, List.range_succ, List.map_append]
    rfl
  · have e5 : i = xs.length := by omega
    subst e5
    exact .inl ⟨⟨xs, hq, Nat.le_refl _⟩, q Dl H' (fresh_back e1 hD) (e1.trans e2) hd⟩
end
/-! ### sizes -/
theorem mulx {i j : Int} {a b : Nat} (ha : i.natAbs < 2 ^ a) (hb : j.natAbs < 2 ^ b) (h : a + b ≤ 134217728) : CMulX i j := mulx_ok ha hb h
theorem div_small {i j : Int} (h : 0 < j) (hb : j < 2 ^ 200) : CDivW i j := wide_div (b := 200) h (by omega) (by decide) (by decide)
theorem cut_take (ns : List Int) (k : Nat) : cutV (ns.map V.int) none (some (k : Int)) = (ns.take k).map V.int := by
  unfold cutV
  rw [HT.sIx_none, show HT.sIx (ns.map V.int).length (ns.map V.int).length (some (k : Int)) = min k (ns.map V.int).length from HT.sIx_nat (ns.map V.int).length _ k]
  rw [List.drop_zero, Nat.sub_zero, ← List.map_take]
  congr 1
  rw [List.length_map, List.take_eq_take_iff]
  omega
section
variable {K : PySem.W.Frag} {σ : L2.St} {H : Hp} {te tb : TE} {a : Addr} {ns : List Int} {i : Int} {k : Nat}
theorem el_take (h : Ev te σ H (.ref a)) (h2 : Ev tb σ H (.int i)) (hs : SqL K H a (ns.map V.int)) (hi : i = (k : Int)) : EvL (tSl (rSlL K) te tNoPart (tPart tb)) σ H ((ns.take k).map V.int) := by
  subst hi
  rw [← cut_take]
  exact el_sl h eo_none (eo_some h2) hs
theorem el_drop (h : Ev te σ H (.ref a)) (h2 : Ev tb σ H (.int i)) (hs : SqL K H a (ns.map V.int)) (hi : i = (k : Int)) : EvL (tSl (rSlL K) te (tPart tb) tNoPart) σ H ((ns.drop k).map V.int) := by
  subst hi
  rw [← cut_drop]
  exact el_sl h (eo_some h2) eo_none hs
end
section
variable {K : PySem.W.Frag} {σ : L2.St} {H : Hp} {te tb : TE} {a : Addr} {ns : List Int} {i : Int} {k : Nat}
theorem el_slN {xs : List V} {tl th : TO} {lo hi : Option Int} (h : EvL te σ H xs) (h1 : EvO tl σ H lo) (h2 : EvO th σ H hi) : EvL (tSl (rSlL K) te tl th) σ H (cutV xs lo hi) := fun H1 e _ q =>
  h H1 e _ fun a H2 _ e2 hx => h1 H2 (e.trans e2) _ fun H3 e3 => h2 H3 ((e.trans e2).trans e3) _ fun H4 e4 =>
    ⟨a, xs, rfl, ex_l (e3.trans e4) (sq_of hx), fun p hp => q p _ (fresh_back ((e2.trans e3).trans e4) hp) (((e2.trans e3).trans e4).trans (Ex.new hp)) upd_same⟩
theorem el_dropN (h : EvL te σ H (ns.map V.int)) (h2 : Ev tb σ H (.int i)) (hi : i = (k : Int)) : EvL (tSl (rSlL K) te (tPart tb) tNoPart) σ H ((ns.drop k).map V.int) := by
  subst hi
  rw [← cut_drop]
  exact el_slN h (eo_some h2) eo_none
end

/-! ### == of lists of ints -/
def dI (ns : List Int) : PyData := .list (ns.map PyData.int)
theorem canLay_ints : ∀ ns : List Int, PyData.canLayAll0 (ns.map PyData.int) = true
  | [] => by simp [PyData.canLayAll0]
  | n :: r => by simp [PyData.canLayAll0, PyData.canLay0, canLay_ints r]
theorem depth_ints : ∀ ns : List Int, PyData.depthAll (ns.map PyData.int) = 0
  | [] => by simp [PyData.depthAll]
  | n :: r => by simp [PyData.depthAll, PyData.depth, depth_ints r]
theorem shaped_dI (ns : List Int) : SeqAt.shaped (dI ns) = true := by
  unfold SeqAt.shaped dI
  simp [PyData.canLay0, PyData.depth, canLay_ints, depth_ints]
theorem eqvAll_ints : ∀ ns ms : List Int, PyData.eqvAll (ns.map PyData.int) (ms.map PyData.int) = decide (ns = ms)
  | [], [] => by simp [PyData.eqvAll]
  | [], m :: s => by simp [PyData.eqvAll]
  | n :: r, [] => by simp [PyData.eqvAll]
  | n :: r, m :: s => by
    simp only [List.map_cons, PyData.eqvAll, PyData.eqv, eqvAll_ints r s]
    by_cases h : n = m
    · subst h
      simp
    · simp [h]
theorem eqv_dI (ns ms : List Int) : PyData.eqv (dI ns) (dI ms) = decide (ns = ms) := by
  unfold dI
  simp [PyData.eqv, eqvAll_ints]
theorem dpAll_ints {K : PySem.W.Frag} {H : Hp} : ∀ ns : List Int, DpAll K H (ns.map V.int) (ns.map PyData.int)
  | [] => .nil
  | n :: r => .cons (.int n) (dpAll_ints r)
theorem dp_I {K : PySem.W.Frag} {H : Hp} {a : Addr} {ns : List Int} (h : SqL K H a (ns.map V.int)) : Dp K H (.ref a) (dI ns) := .lst h (dpAll_ints ns)
section
variable {K : PySem.W.Frag} {σ : L2.St} {H H' : Hp} {ta tb te tx : TE} {t u : TT} {x y z v : V} {r : R2} {D : Ends} {tu tw tz : TS}
theorem evp_op {r : R2} {P1 P2 : V → Hp → Prop} (ha : EvP ta σ H P1) (hb : EvP tb σ H P2) (st : Stable P1) (hr : ∀ v w H1, Ex H H1 → P1 v H1 → P2 w H1 → RV r v w H1 z) : Ev (tOp r ta tb) σ H z := fun H1 e Q q =>
  ha H1 e _ fun v H2 e2 hv => hb H2 (e.trans e2) _ fun w H3 e3 hw => hr v w H3 ((e.trans e2).trans e3) (st _ _ _ e3 hv) hw H3 (Ex.refl H3) Q fun H4 e4 => q H4 ((e2.trans e3).trans e4)
theorem ev_eqD {ns ms : List Int} (ha : EvP ta σ H (IsL (ns.map V.int))) (hb : EvP tb σ H (IsL (ms.map V.int))) : Ev (tOp (rEqD K) ta tb) σ H (.bl (decide (ns = ms))) :=
  evp_op ha hb st_L fun v w H1 e1 ⟨a, ea, h1⟩ ⟨b, eb, h2⟩ H2 e2 Q q => ⟨dI ns, dI ms, by rw [ea]; exact dp_I (sq_of (e2 _ _ h1)), by rw [eb]; exact dp_I (sq_of (e2 _ _ h2)), shaped_dI ns, shaped_dI ms, by rw [eqv_dI]; exact q H2 (Ex.refl H2)⟩
theorem ev_neD {ns ms : List Int} (ha : EvP ta σ H (IsL (ns.map V.int))) (hb : EvP tb σ H (IsL (ms.map V.int))) : Ev (tOp (rNeD K) ta tb) σ H (.bl (!decide (ns = ms))) :=
  evp_op ha hb st_L fun v w H1 e1 ⟨a, ea, h1⟩ ⟨b, eb, h2⟩ H2 e2 Q q => ⟨dI ns, dI ms, by rw [ea]; exact dp_I (sq_of (e2 _ _ h1)), by rw [eb]; exact dp_I (sq_of (e2 _ _ h2)), shaped_dI ns, shaped_dI ms, by rw [eqv_dI]; exact q H2 (Ex.refl H2)⟩
theorem evp_nil {P : List Int} : EvP (tLst tNil) σ H (IsL (([] : List Int).map V.int)) := evp_l (el_lst ea_nil (by simp))
theorem evp_lf {xs : List V} (h : EvL te σ H xs) : EvP te σ H (fun v H2 => ∃ p, v = .ref p ∧ H p = none ∧ H2 p = some (.lst xs)) := fun H1 e Q q => h H1 e _ fun p H2 hp e2 h2 => q _ H2 e2 ⟨p, rfl, fresh_back e hp, h2⟩
/-- an if behind which a word holds -/
theorem q_whenM {Mid : L2.St → Hp → Prop} {b : Bool} (k : ∀ σ' H', Mid σ' H' → tz D σ' H') (h : EvT t σ H b) (h1 : b = true → (∀ σ' H', Mid σ' H' → tz D σ' H') → ∀ H1, Ex H H1 → tu { D with nx := tz D } σ H1) (h2 : b = false → ∀ H1, Ex H H1 → Mid σ H1) : tSeq (tIfS t tu tNext) tz D σ H :=
  q_when h (fun hb H1 e1 => h1 hb k H1 e1) (fun hb H1 e1 => k _ _ (h2 hb H1 e1))
theorem s_whenM {Mid : L2.St → Hp → Prop} {b : Bool} (k : ∀ σ' H', Mid σ' H' → D.nx σ' H') (h : EvT t σ H b) (h1 : b = true → (∀ σ' H', Mid σ' H' → D.nx σ' H') → ∀ H1, Ex H H1 → tu D σ H1) (h2 : b = false → ∀ H1, Ex H H1 → Mid σ H1) : tIfS t tu tNext D σ H :=
  s_when h (fun hb H1 e1 => h1 hb k H1 e1) (fun hb H1 e1 => k _ _ (h2 hb H1 e1))
/-- the last item -/
theorem ev_last {p : Addr} {ns : List Int} (ha : Ev ta σ H (.ref p)) (h : SqL K H p (ns.map V.int)) (hn : ns ≠ []) : Ev (tOp (rIxL K) ta (tUn uNeg (tC (.int 1)))) σ H (.int (ns.getD (ns.length - 1) 0)) := by
  refine ev_op ha (ev_neg ev_c) (rv_ixL h ?_)
  have hl : 0 < ns.length := List.length_pos_iff.mpr hn
  have e : ns.map V.int = ns.dropLast.map V.int ++ [.int (ns.getD (ns.length - 1) 0)] := by
    conv => lhs; rw [← List.dropLast_concat_getLast hn]
    rw [List.map_append, List.getLast_eq_getElem, List.getD_eq_getElem?_getD, List.getElem?_eq_getElem (by omega)]
    rfl
  rw [e]
  exact atI_last _ _
end
/-! // by any number but nought, below 2 ^ 9000 in size -/
section
variable {X : Cx}
def CDivG (_ j : Int) : Prop := j ≠ 0 ∧ j.natAbs.log2 < 9000
abbrev oModN : R2 := rI (fun _ j => j ≠ 0) fun i j => .int (i.fmod j)
abbrev oDivN : R2 := rI CDivG fun i j => .int (i.fdiv j)
theorem op_fdivWN : OpR X (binaryOp .FloorDiv) oDivN := opI fun i j _ _ _ _ _ hc q => floordiv_int hc.1 q (.inl (PyProof.noPylong_of_log2 hc.2))
end

/-! ### own errors: their classes by name, raising, catching -/
structure Cs where
  (PolyError NoNumber NoPower ByNought NotWhole NoMeet NoParts NotWritten tab : Addr)
/-- what the written part says of an own error's class at C -/
structure ExK (K : PySem.W.Frag) (C : Addr) : Prop where
  b : PySem.W.subIn K (.ref C) (.type "BaseException") = some true
  t : PySem.W.typeIn K (.ref C) = some (.type "type")
  c : ExcC K C
  v : PySem.W.kitOne K (.ref C) (.type "ValueError") = some true
theorem kit_sub {K : PySem.W.Frag} {D : Addr} {b : Bool} (h : PySem.W.subIn K (.ref D) (.type "ValueError") = some b) : PySem.W.kitOne K (.ref D) (.type "ValueError") = some b := by
  have e1 : ((Value.ref D) == Value.type "ValueError") = false := by
    rw [beq_eq_false_iff_ne]
    exact fun z => by cases z
  have e2 : PySem.W.kitMeta "ValueError" = true := by decide +kernel
  show (if ((Value.ref D) == Value.type "ValueError") = true then some true else if PySem.W.kitMeta "ValueError" = true then PySem.W.subIn K (.ref D) (.type "ValueError") else none) = some b
  rw [e1, if_neg Bool.false_ne_true, if_pos e2]
  exact h
/-- the classes at l, each below the one at p, and none below another -/
structure Tx (K : PySem.W.Frag) (p : Addr) (l : List Addr) : Prop where
  base : ExK K p
  cls : ∀ c ∈ l, ExK K c ∧ PySem.W.subIn K (.ref c) (.ref p) = some true ∧ PySem.W.subIn K (.ref c) (.ref c) = some true
  nd : l.Pairwise fun c d => PySem.W.subIn K (.ref c) (.ref d) = some false ∧ PySem.W.subIn K (.ref d) (.ref c) = some false
section
variable {K : PySem.W.Frag} {p : Addr} {l : List Addr} {c d : Addr}
theorem ExK.exm (x : ExK K d) {b : Bool} (h : PySem.W.subIn K (.ref c) (.ref d) = some b) : PySem.W.exmOne K (.ref c) (.ref d) = some b := PySem.W.exm_ref x.b x.c.hd x.t h
theorem Tx.self (T : Tx K p l) (h : c ∈ l) : PySem.W.exmOne K (.ref c) (.ref c) = some true := (T.cls c h).1.exm (T.cls c h).2.2
theorem Tx.up (T : Tx K p l) (h : c ∈ l) : PySem.W.exmOne K (.ref c) (.ref p) = some true := T.base.exm (T.cls c h).2.1
end
/-- a def that may raise, called by its name -/
structure ClX (P : Program) (w : World) (K : PySem.W.Frag) (mg : Str → Option Value) (base : Heap) (k : Nat) (x : Str) (sp : Sp) : Prop where
  ex : ∃ (f : Addr) (fd : FuncData) (ps : List Str), FnOk P w K mg base (L2.CX P w) k f fd ps sp ∧ mg x = some (.ref f) ∧ PySem.W.keepIn K (.ref f) = true ∧ Binds K fd ps []
/-- an own error's class, raised here -/
structure RsX (K : PySem.W.Frag) (mg : Str → Option Value) (x : Str) (C : Addr) : Prop where
  g : mg x = some (.ref C)
  q : PySem.W.excIn K C [.type "ValueError", .type "Exception", .type "BaseException", .type "object"] "ValueError.__new__" = true
  k : PySem.W.keepIn K (.ref C) = true
  b : PySem.W.subIn K (.ref C) (.type "BaseException") = some true
  t : PySem.W.typeIn K (.ref C) = some (.type "type")
def tRaiseC (C : Addr) (W : WX) : TS := fun _ σ H => W (.ref C) none σ H
/-- raise X(e), X of one argument -/
def tRaise1 (C : Addr) (W : WX) (te : TE) : TS := fun _ σ H => te σ H fun _ H1 => W (.ref C) none σ H1
def tTryO (K : PySem.W.Frag) (c : Value) (tb : WX → TS) (ts : Addr → Value → Option Addr → TS) (Wout : WX) : TS := fun D σ H => tb (wOnly K c ts Wout D) D σ H
def tTryA (K : PySem.W.Frag) (c : Value) (i : Nat) (tb : WX → TS) (ts : Addr → Value → Option Addr → TS) (Wout : WX) : TS := fun D σ H => tb (wAs K c i ts Wout D) D σ H
def tTryM (K : PySem.W.Frag) (l : List (Value × (Addr → Value → Option Addr → TS))) (tb : WX → TS) (Wout : WX) : TS := fun D σ H => tb (wMany K Wout D l) D σ H
/-- isinstance(e, U), e the exception that the suite holds at a -/
def tIsE (K : PySem.W.Frag) (a : Addr) (cls : Value) (d : Option Addr) (te : TE) (U : String) : TE := fun σ H Q => ∃ D, cls = .ref D ∧ d = none ∧ ExcC K D ∧ tCB (rIsE K D a) (tCons te (tCons (tC (.ty U)) tNil)) σ H Q
theorem ev_isE {K : PySem.W.Frag} {a D : Addr} {te : TE} {U : String} {σ : L2.St} {H : Hp} {b : Bool} (h : Ev te σ H (.ref a)) (hC : ExcC K D) (hk : PySem.W.kitOne K (.ref D) (.type U) = some b) : Ev (tIsE K a (.ref D) none te U) σ H (.bl b) := fun H1 e Q q =>
  ⟨D, rfl, rfl, hC, h H1 e _ fun H2 e2 => ⟨.ty U, .type U, b, rfl, fun u r => r, hk, q H2 e2⟩⟩
abbrev wNone : WX := fun _ _ _ _ => False
abbrev wOf (E : XK) : WX := fun cls d _ H => E cls d H
section
variable {X : Cx} {k j : Nat} {x : Str} {sp : Sp} {p pos pos' p2 : Pos} {e : Expr} {es : List Expr} {t : TA} {C : Addr} {W : WX} {m : Str} {jj : Nat}
theorem pclX (c : ClX X.prog X.w X.K X.mg X.base k x sp) (hr : Room j X.A) (hk : k ≤ j) (hg : Gl X x) (ha : PA X (e :: es) t)
    (hdb : (x == ("__debug__" : Str)) = false := by decide) (he : starEach (e :: es) X.env = (false, eval e X.env) :: starEach es X.env := by rfl) (hpl : (backTo pos (starEach es X.env)).any (·.1) = false := by rfl) :
    PE X (.Call (.Name x p) (e :: es) [] pos) (tCall sp [] E0 t) := by
  obtain ⟨f, fd, ps, F, hm, kp, b⟩ := c.ex
  exact pe_call F (hr.mono hk) hg hm kp b .nil passL ha hdb he hpl
theorem pclS (c : ClX X.prog X.w X.K X.mg X.base k x sp) (tk : Takes X W) (hr : Room j X.A) (hk : k ≤ j) (hg : Gl X x) (ha : PA X (e :: es) t)
    (hdb : (x == ("__debug__" : Str)) = false := by decide) (he : starEach (e :: es) X.env = (false, eval e X.env) :: starEach es X.env := by rfl) (hpl : (backTo pos (starEach es X.env)).any (·.1) = false := by rfl) :
    PE X (.Call (.Name x p) (e :: es) [] pos) (tCallS sp (WE W) t) := by
  obtain ⟨f, fd, ps, F, hm, kp, b⟩ := c.ex
  exact pe_callS F (hr.mono hk) hg hm kp b (fun σ => passAt tk σ) ha hdb he hpl
theorem ps_raiseC (R : RsX X.K X.mg x C) (hc : X.calm = true) (tk : Takes X W) (hg : Gl X x) (hdb : (x == ("__debug__" : Str)) = false := by decide) : PS X (.Raise (some (.Call (.Name x p) [.Constant (.str m) jj p2] [] pos)) none pos') (tRaiseC C W) :=
  ps_raise hc tk (pmk_own PySem.F.excBase_ValueError R.q R.g R.k (raises_own R.b R.t) hg hdb)
theorem ps_raise1 {te : TE} (R : RsX X.K X.mg x C) (hc : X.calm = true) (tk : Takes X W) (hg : Gl X x) (he : PE X e te) (hs : starEach [e] X.env = (false, eval e X.env) :: starEach [] X.env := by rfl) (hdb : (x == ("__debug__" : Str)) = false := by decide) : PS X (.Raise (some (.Call (.Name x p) [e] [] pos)) none pos') (tRaise1 C W te) :=
  ps_raise hc tk (SkE.pmk_own1 PySem.F.excBase_ValueError R.q R.g R.k (raises_own R.b R.t) hg he hs hdb)
theorem pe_isE {a : Addr} {oe : Obj} {cls : Value} {d : Option Addr} {pn : List (Addr × Obj)} {te : TE} {n U : Str} {u : String} {pu pf pnn : Pos} (hz : Zc cls d oe) (hf : ∃ vs, oe.data = .fields vs) (he : PE (X.suite a ((a, oe) :: pn)) (.Name n pnn) te) (hg : Gl X "isinstance") (hm : X.mg "isinstance" = none) (hgU : Gl X U) (hmU : X.mg U = none) (hvU : bootBuiltins U = some (.type u)) (hnU : U ≠ "__name__" := by decide) (hdU : (U == ("__debug__" : Str)) = false := by decide) :
    PE (X.suite a ((a, oe) :: pn)) (.Call (.Name "isinstance" pf) [.Name n pnn, .Name U pu] [] pos) (tIsE X.K a cls d te u) := by
  refine ⟨fun pins s σ H Q I h => ?_⟩
  obtain ⟨D, rfl, rfl, hC, h⟩ := h
  have hu : PE (X.suite a ((a, oe) :: pn)) (.Name U pu) (tC (.ty u)) := pe_bltn hgU hmU hvU rfl hnU hdU
  exact (pe_callB (call_isE hC hz hf) hg hm (by decide +kernel) (pa_cons he (pa_cons hu pa_nil))).run pins s σ H Q I h
end

/-! ### odd, half, in a tuple of data, tuples of what holds -/
abbrev oOdd : R2 := fun x y H Q => ∃ n : Nat, x = .int (n : Int) ∧ y = .int 1 ∧ Q (.int ((n % 2 : Nat) : Int)) H
abbrev oHalf : R2 := fun x y H Q => ∃ n : Nat, x = .int (n : Int) ∧ y = .int 1 ∧ Q (.int ((n / 2 : Nat) : Int)) H
theorem units1 {k : Nat} {A : Around} (r : Room k A) : A.units + 65 < cLine := by
  have := r.un
  omega
def rInDT (K : PySem.W.Frag) : R2 := fun x y H Q => ∃ d ds, Dp K H x d ∧ Dp K H y (.tuple ds) ∧ SeqAt.shaped d = true ∧ SeqAt.shaped (.tuple ds) = true ∧ Q (.bl (ds.any fun z => PyData.eqv z d)) H
theorem op_inDT {X : Cx} (hu : X.A.units + 65 < cLine) : OpR X (compareOp .In) (rInDT X.K) := by
  intro pins s σ H x y v u Q I rx ry h
  obtain ⟨d, ds, hd, he, sd, se, q⟩ := h
  obtain ⟨as, r1⟩ := Dp.reads I d x v hd rx
  obtain ⟨bs, r2⟩ := Dp.reads I (.tuple ds) y u he ry
  exact SeqAt.in_tuple_reads r2 r1 (SeqAt.canLay_of_shaped se) (SeqAt.canLay_of_shaped sd) (room_in_shaped sd hu) ⟨.bl _, H, I, rfl, q⟩
def IsT (Ps : List (V → Hp → Prop)) : V → Hp → Prop := fun v H => ∃ t vs, v = .ref t ∧ H t = some (.tup vs) ∧ All2 Ps vs H
theorem All2.mono : ∀ {Ps : List (V → Hp → Prop)} {vs : List V} {H H' : Hp}, (∀ P ∈ Ps, Stable P) → Ex H H' → All2 Ps vs H → All2 Ps vs H'
  | [], [], _, _, _, _, _ => trivial
  | P :: Ps, v :: vs, _, _, st, e, h => ⟨st P List.mem_cons_self _ _ _ e h.1, All2.mono (fun Q hQ => st Q (List.mem_cons_of_mem _ hQ)) e h.2⟩
  | [], _ :: _, _, _, _, _, h => h.elim
  | _ :: _, [], _, _, _, _, h => h.elim
theorem All2.len : ∀ {Ps : List (V → Hp → Prop)} {vs : List V} {H : Hp}, All2 Ps vs H → vs.length = Ps.length
  | [], [], _, _ => rfl
  | P :: Ps, v :: vs, _, h => by
    have := All2.len h.2
    simp [this]
  | [], _ :: _, _, h => h.elim
  | _ :: _, [], _, h => h.elim
theorem st_T {Ps : List (V → Hp → Prop)} (st : ∀ P ∈ Ps, Stable P) : Stable (IsT Ps) := fun _ _ _ e ⟨t, vs, h1, h2, h3⟩ => ⟨t, vs, h1, e _ _ h2, h3.mono st e⟩
def dLs (xss : List (List Int)) : List PyData := xss.map dI
theorem canLay_dLs : ∀ xss : List (List Int), PyData.canLayAll0 (dLs xss) = true
  | [] => by simp [dLs, PyData.canLayAll0]
  | n :: r => by
    have := canLay_dLs r
    unfold dLs at this
    simp [dLs, PyData.canLayAll0, PyData.canLay0, dI, canLay_ints, this]
theorem depth_dLs : ∀ xss : List (List Int), PyData.depthAll (dLs xss) ≤ 1
  | [] => by simp [dLs, PyData.depthAll]
  | n :: r => by
    have := depth_dLs r
    unfold dLs at this
    simp [dLs, PyData.depthAll, PyData.depth, dI, depth_ints, this]
theorem shaped_tup (xss : List (List Int)) : SeqAt.shaped (.tuple (dLs xss)) = true := by
  unfold SeqAt.shaped
  have := depth_dLs xss
  simp [PyData.canLay0, PyData.depth, canLay_dLs]
  omega
theorem shaped_lst (xss : List (List Int)) : SeqAt.shaped (.list (dLs xss)) = true := by
  unfold SeqAt.shaped
  have := depth_dLs xss
  simp [PyData.canLay0, PyData.depth, canLay_dLs]
  omega
theorem any_dLs (ns : List Int) : ∀ xss : List (List Int), (dLs xss).any (fun z => PyData.eqv z (dI ns)) = decide (ns ∈ xss)
  | [] => by simp [dLs]
  | m :: r => by
    have := any_dLs ns r
    unfold dLs at this
    simp only [dLs, List.map_cons, List.any_cons, this, eqv_dI, List.mem_cons]
    by_cases h : m = ns
    · subst h
      simp
    · have h2 : ¬ ns = m := fun e => h e.symm
      simp [h, h2]
theorem dpAll_Ls {K : PySem.W.Frag} {H : Hp} : ∀ {xss : List (List Int)} {vs : List V}, All2 (xss.map fun xs => IsL (xs.map V.int)) vs H → DpAll K H vs (dLs xss)
  | [], [], _ => .nil
  | xs :: xss, v :: vs, h => by
    obtain ⟨⟨a, rfl, ha⟩, h2⟩ := h
    exact .cons (dp_I (sq_of ha)) (dpAll_Ls h2)
  | [], _ :: _, h => h.elim
  | _ :: _, [], h => h.elim
section
variable {K : PySem.W.Frag} {σ : L2.St} {H H' : Hp} {ta tb te tx : TE} {t u : TT} {x y z v : V} {r : R2} {D : Ends} {tu tw tz : TS}
theorem ev_odd {n : Nat} (h : Ev te σ H (.int (n : Int))) : Ev (tOp oOdd te (tC (.int 1))) σ H (.int ((n % 2 : Nat) : Int)) := fun H1 e Q q => h H1 e _ fun H2 e2 => ⟨n, rfl, rfl, q H2 e2⟩
theorem ev_half {n : Nat} (h : Ev te σ H (.int (n : Int))) : Ev (tOp oHalf te (tC (.int 1))) σ H (.int ((n / 2 : Nat) : Int)) := fun H1 e Q q => h H1 e _ fun H2 e2 => ⟨n, rfl, rfl, q H2 e2⟩
theorem evp_tup {tt : TA} {Ps : List (V → Hp → Prop)} (h : EvPs tt σ H Ps) (st : ∀ P ∈ Ps, Stable P) (hl : Ps.length ≤ 1000) : EvP (tTup tt) σ H (IsT Ps) := fun H1 e Q q =>
  h H1 e _ fun vs H2 e2 hvs => ⟨sz_of (by rw [hvs.len]; omega), fun p hp => q _ _ (e2.trans (Ex.new hp)) ⟨p, vs, rfl, upd_same, hvs.mono st (Ex.new hp)⟩⟩
theorem ev_inDT {ns : List Int} {xss : List (List Int)} (ha : EvP ta σ H (IsL (ns.map V.int))) (hb : EvP tb σ H (IsT (xss.map fun xs => IsL (xs.map V.int)))) : Ev (tOp (rInDT K) ta tb) σ H (.bl (decide (ns ∈ xss))) :=
  evp_op ha hb st_L fun v w H1 e1 ⟨a, ea, h1⟩ ⟨b, vs, eb, h2, h3⟩ H2 e2 Q q => ⟨dI ns, dLs xss, by rw [ea]; exact dp_I (sq_of (e2 _ _ h1)), by
    rw [eb]
    refine .tup (st_of (e2 _ _ h2)) (dpAll_Ls (h3.mono ?_ e2))
    intro P hP
    obtain ⟨xs, _, rfl⟩ := List.mem_map.mp hP
    exact st_L, shaped_dI ns, shaped_tup xss, by rw [any_dLs]; exact q H2 (Ex.refl H2)⟩
/-- statements in a try's body: a call that comes back, one that raises -/
theorem s_dropS {sp : Sp} {W : WX} {tt : TA} {vs : List V} (h : EvA tt σ H vs) (k : ∀ H1, Ex H H1 → sp vs H1 (fun _ H2 => D.nx σ H2) (fun cls d H2 => W cls d σ H2)) : tDrop (tCallS sp (WE W) tt) D σ H :=
  h H (Ex.refl H) _ fun H1 e1 => k H1 e1
end
section
variable {K : PySem.W.Frag} {σ : L2.St} {H : Hp} {D : Ends} {tz : TS} {c : Value} {tb : WX → TS} {ts : Addr → Value → Option Addr → TS} {Wout : WX} {i : Nat} {l : List (Value × (Addr → Value → Option Addr → TS))}
theorem q_tryO (h : tb (wOnly K c ts Wout { D with nx := tz D }) { D with nx := tz D } σ H) : tSeq (tTryO K c tb ts Wout) tz D σ H := h
theorem s_tryO (h : tb (wOnly K c ts Wout D) D σ H) : tTryO K c tb ts Wout D σ H := h
theorem q_tryA (h : tb (wAs K c i ts Wout { D with nx := tz D }) { D with nx := tz D } σ H) : tSeq (tTryA K c i tb ts Wout) tz D σ H := h
theorem s_tryA (h : tb (wAs K c i ts Wout D) D σ H) : tTryA K c i tb ts Wout D σ H := h
theorem q_tryM (h : tb (wMany K Wout { D with nx := tz D } l) { D with nx := tz D } σ H) : tSeq (tTryM K l tb Wout) tz D σ H := h
theorem s_tryM (h : tb (wMany K Wout D l) D σ H) : tTryM K l tb Wout D σ H := h
end
abbrev tJoin (ts : List TE) : TE := fun σ H Q => tJs ts Str.empty σ H fun out H1 => Q (.str out) H1
section
variable {K : PySem.W.Frag} {σ : L2.St} {H H' : Hp} {ta tb te tx : TE} {x y z v : V} {r : R2}
theorem evp_opP {P1 P2 P : V → Hp → Prop} (ha : EvP ta σ H P1) (hb : EvP tb σ H P2) (st : Stable P1) (hr : ∀ v w H1, Ex H H1 → P1 v H1 → P2 w H1 → ∀ Q : VK, (∀ z H2, Ex H1 H2 → P z H2 → Q z H2) → r v w H1 Q) : EvP (tOp r ta tb) σ H P := fun H1 e Q q =>
  ha H1 e _ fun v H2 e2 hv => hb H2 (e.trans e2) _ fun w H3 e3 hw => hr v w H3 ((e.trans e2).trans e3) (st _ _ _ e3 hv) hw Q fun z H4 e4 hz => q z H4 ((e2.trans e3).trans e4) hz
def IsS (Ps : List (V → Hp → Prop)) : V → Hp → Prop := fun v H => ∃ l vs, v = .ref l ∧ H l = some (.lst vs) ∧ All2 Ps vs H
theorem st_S {Ps : List (V → Hp → Prop)} (st : ∀ P ∈ Ps, Stable P) : Stable (IsS Ps) := fun _ _ _ e ⟨t, vs, h1, h2, h3⟩ => ⟨t, vs, h1, e _ _ h2, h3.mono st e⟩
theorem evp_lst {tt : TA} {Ps : List (V → Hp → Prop)} (h : EvPs tt σ H Ps) (st : ∀ P ∈ Ps, Stable P) (hl : Ps.length ≤ 1000) : EvP (tLst tt) σ H (IsS Ps) := fun H1 e Q q =>
  h H1 e _ fun vs H2 e2 hvs => ⟨sz_of (by rw [hvs.len]; omega), fun p hp => q _ _ (e2.trans (Ex.new hp)) ⟨p, vs, rfl, upd_same, hvs.mono st (Ex.new hp)⟩⟩
end
abbrev oIsN : R2 := fun x y H Q => y = .non ∧ Q (.bl (decide (x = .non))) H
section
variable {K : PySem.W.Frag} {σ : L2.St} {H H' : Hp} {ta tb te tx : TE} {x y z v : V} {r : R2}
theorem ev_isN (ha : Ev ta σ H v) : Ev (tOp oIsN ta (tC .non)) σ H (.bl (decide (v = .non))) := ev_op ha ev_c (rv_val fun H1 e Q q => ⟨rfl, q⟩)
theorem ev_eqS {s t : Str} (ha : Ev ta σ H (.str s)) (hb : Ev tb σ H (.str t)) : Ev (tOp rEq ta tb) σ H (.bl (decide (V.str s = V.str t))) := ev_op ha hb (rv_eq rfl)
theorem ev_neS {s t : Str} (ha : Ev ta σ H (.str s)) (hb : Ev tb σ H (.str t)) : Ev (tOp rNe ta tb) σ H (.bl (!decide (V.str s = V.str t))) := ev_op ha hb (rv_ne rfl)
/-- an item of a tuple -/
theorem ev_ixT {p : Addr} {xs : List V} {i : Int} {j : Nat} (ha : Ev ta σ H (.ref p)) (hb : Ev tb σ H (.int i)) (h : H p = some (.tup xs)) (hi : i = (j : Int)) (hj : xs[j]? = some v) : Ev (tOp (rIxT K) ta tb) σ H v := by
  subst hi
  exact ev_op ha hb (rv_ixT (st_of h) (atI_nat hj))
theorem ev_lenT {p : Addr} {xs : List V} (ha : Ev ta σ H (.ref p)) (h : SqT K H p xs) : Ev (tCB (rLenS K) (tCons ta tNil)) σ H (.int (xs.length : Int)) := fun H1 e Q q =>
  ha H1 e _ fun H2 e2 => ⟨p, xs, rfl, Or.inr (ex_t (e.trans e2) h), q H2 e2⟩
end
section
variable {σ : L2.St} {H : Hp} {D : Ends}
theorem s_dropSP {sp : Sp} {W : WX} {tt : TA} {Ps : List (V → Hp → Prop)} (h : EvPs tt σ H Ps) (k : ∀ vs H1, Ex H H1 → All2 Ps vs H1 → sp vs H1 (fun _ H2 => D.nx σ H2) (fun cls d H2 => W cls d σ H2)) : tDrop (tCallS sp (WE W) tt) D σ H :=
  h H (Ex.refl H) _ fun vs H1 e1 hv => k vs H1 e1 hv
end
section
variable {K : PySem.W.Frag} {σ : L2.St} {H H' : Hp} {ta tb te tx : TE} {x y z v : V}
/-- an item of a new list -/
theorem ev_ixN {i : Int} {j : Nat} {ns : List Int} (ha : EvL ta σ H (ns.map V.int)) (hb : Ev tb σ H (.int i)) (hi : i = (j : Int)) (hj : j < ns.length) : Ev (tOp (rIxL K) ta tb) σ H (.int (ns.getD j 0)) := fun H1 e Q q =>
  ha H1 e _ fun p H2 hp e2 h2 => hb H2 (e.trans e2) _ fun H3 e3 => by
    subst hi
    refine rv_ixL (K := K) (sq_of (e3 _ _ h2)) (atI_nat (v := .int (ns.getD j 0)) ?_) H3 (Ex.refl H3) Q fun H4 e4 => q H4 ((e2.trans e3).trans e4)
    rw [List.getElem?_map, List.getElem?_eq_getElem hj, List.getD_eq_getElem?_getD, List.getElem?_eq_getElem hj]
    rfl
end
end PP
/-! Math: the plain functions that the defs compute, over lists of ints; no Python here. -/
namespace PP

/-- a row without the noughts at its end -/
def trimI : List Int → List Int
  | [] => []
  | x :: r => if trimI r = [] ∧ x = 0 then [] else x :: trimI r
theorem trim_take : ∀ (ns : List Int) (s : Nat), s ≤ ns.length → (∀ i, s ≤ i → i < ns.length → ns.getD i 0 = 0) → (s = 0 ∨ ns.getD (s - 1) 0 ≠ 0) → trimI ns = ns.take s
  | [], s, _, _, _ => by simp [trimI]
  | x :: r, 0, _, hz, _ => by
    have ih := trim_take r 0 (Nat.zero_le _) (fun i h1 h2 => by
      have := hz (i + 1) (by omega) (by simp; omega)
      simpa using this) (.inl rfl)
    have hx : x = 0 := by
      have := hz 0 (by omega) (by simp)
      simpa using this
    simp [trimI, ih, hx]
  | x :: r, k + 1, hs, hz, hn => by
    have hk : k ≤ r.length := by simpa using hs
    have h2 : k = 0 ∨ r.getD (k - 1) 0 ≠ 0 := by
      rcases k with _ | k
      · exact .inl rfl
      · right
        rcases hn with h | h
        · omega
        · simpa using h
    have ih := trim_take r k hk (fun i h1 h2 => by
      have := hz (i + 1) (by omega) (by simp; omega)
      simpa using this) h2
    have hne : ¬ (trimI r = [] ∧ x = 0) := by
      rintro ⟨e, hx⟩
      rcases k with _ | k
      · rcases hn with h | h
        · omega
        · simp at h
          exact h hx
      · rw [ih] at e
        have := congrArg List.length e
        rw [List.length_take, List.length_nil] at this
        omega
    show (if trimI r = [] ∧ x = 0 then [] else x :: trimI r) = _
    rw [if_neg hne, ih]
    rfl
theorem trim_len : ∀ ns : List Int, (trimI ns).length ≤ ns.length
  | [] => by simp [trimI]
  | x :: r => by
    have := trim_len r
    unfold trimI
    split
    · simp
    · simp
      omega
theorem trim_mem : ∀ (ns : List Int) (x : Int), x ∈ trimI ns → x ∈ ns
  | [], x, h => by simp [trimI] at h
  | y :: r, x, h => by
    unfold trimI at h
    split at h
    · simp at h
    · rcases List.mem_cons.mp h with h | h
      · exact h ▸ List.mem_cons_self
      · exact List.mem_cons_of_mem _ (trim_mem r x h)

theorem modN {i j : Int} (h : 0 < j) : i % j = ((i % j).toNat : Int) ∧ ((i % j).toNat : Int) < j := by
  have h1 : 0 ≤ i % j := Int.emod_nonneg _ (by omega)
  have h2 : i % j < j := Int.emod_lt_of_pos _ h
  omega
/-- the script's cell -/
def cellI (ns : List Int) (j : Nat) : Int := ns.getD j 0

/-- a number of a cell -/
def numI (c : Int) : Int := if c % 7 = 0 then 0 else if c % 7 = 1 then (1 - c / 7 % 2 * 2) * (c / 14 % 10 ^ 40) else c / 7 % 19 - 9
theorem num_lt (c : Int) : (numI c).natAbs < 2 ^ 133 := by
  unfold numI
  split
  · decide
  · split
    · rw [Int.natAbs_mul]
      have h1 : 0 ≤ c / 7 % 2 := Int.emod_nonneg _ (by decide)
      have h2 : c / 7 % 2 < 2 := Int.emod_lt_of_pos _ (by decide)
      have h3 : 0 ≤ c / 14 % 10 ^ 40 := Int.emod_nonneg _ (by decide)
      have h4 : c / 14 % 10 ^ 40 < 10 ^ 40 := Int.emod_lt_of_pos _ (by decide)
      have e1 : (1 - c / 7 % 2 * 2).natAbs = 1 := by omega
      rw [e1, Nat.one_mul]
      have : (10 : Int) ^ 40 < 2 ^ 133 := by decide
      omega
    · have h1 : 0 ≤ c / 7 % 19 := Int.emod_nonneg _ (by decide)
      have h2 : c / 7 % 19 < 19 := Int.emod_lt_of_pos _ (by decide)
      have : (2 : Nat) ^ 133 > 100 := by decide
      omega

/-- a drawn row -/
def drawnI (num : Int → Int) (ns : List Int) (place size many : Nat) : List Int :=
  trimI (if 0 < many then (List.range many).map fun (k : Nat) => num (cellI ns place + 97 * (k : Int) * (k : Int) + 13 * (k : Int)) else (List.range size).map fun (k : Nat) => num (cellI ns (place + k)))
theorem drawn_len (num : Int → Int) (ns : List Int) (place size many : Nat) : (drawnI num ns place size many).length ≤ max size many := by
  unfold drawnI
  refine Nat.le_trans (trim_len _) ?_
  split
  · rw [List.length_map, List.length_range]
    omega
  · rw [List.length_map, List.length_range]
    omega
theorem drawn_lt {num : Int → Int} {b : Nat} (hb : ∀ c, (num c).natAbs < b) (ns : List Int) (place size many : Nat) : ∀ x ∈ drawnI num ns place size many, x.natAbs < b := by
  intro x hx
  have h := trim_mem _ _ hx
  split at h
  · obtain ⟨k, _, e⟩ := List.mem_map.mp h
    rw [← e]
    exact hb _
  · obtain ⟨k, _, e⟩ := List.mem_map.mp h
    rw [← e]
    exact hb _

/-- what a row comes to at a place -/
def valI : List Int → Int → Int
  | [], _ => 0
  | x :: r, p => x + p * valI r p
theorem val_append (a b : List Int) (p : Int) : valI (a ++ b) p = valI a p + p ^ a.length * valI b p := by
  induction a with
  | nil => simp [valI]
  | cons x r ih =>
    simp only [List.cons_append, valI, ih, List.length_cons, Int.pow_succ]
    rw [Int.mul_add, ← Int.add_assoc, Int.mul_comm (p ^ r.length) p, Int.mul_assoc]
theorem val_lt {b c n : Nat} {p : Int} (hp : p.natAbs < 2 ^ c) : ∀ (ns : List Int), (∀ x ∈ ns, x.natAbs < 2 ^ b) → ns.length ≤ n → (valI ns p).natAbs < 2 ^ (b + n * (c + 1) + 1)
  | [], _, _ => by simp [valI]; exact Nat.two_pow_pos _
  | x :: r, h, hl => by
    rcases n with _ | n
    · simp at hl
    have ih := val_lt (n := n) hp r (fun y hy => h y (List.mem_cons_of_mem _ hy)) (by simpa using hl)
    have hx := h x List.mem_cons_self
    have h1 : (p * valI r p).natAbs < 2 ^ (c + (b + n * (c + 1) + 1)) := by
      rw [Int.natAbs_mul, Nat.pow_add]
      exact Nat.mul_lt_mul'' hp ih
    have h2 : b ≤ c + (b + n * (c + 1) + 1) := by omega
    have h3 : 2 ^ b ≤ 2 ^ (c + (b + n * (c + 1) + 1)) := Nat.pow_le_pow_right (by decide) h2
    have e : b + (n + 1) * (c + 1) + 1 = (c + (b + n * (c + 1) + 1)) + 1 := by rw [Nat.succ_mul]; omega
    show (x + p * valI r p).natAbs < _
    rw [e, Nat.pow_succ]
    have := Int.natAbs_add_le x (p * valI r p)
    omega
theorem pow_lt {c : Nat} {p : Int} (hp : p.natAbs < 2 ^ c) : ∀ k : Nat, (p ^ k).natAbs < 2 ^ (c * k + 1)
  | 0 => by simp
  | k + 1 => by
    have ih := pow_lt hp k
    rw [Int.pow_succ, Int.natAbs_mul, show c * (k + 1) + 1 = (c * k + 1) + c by rw [Nat.mul_succ]; omega, Nat.pow_add]
    exact Nat.mul_lt_mul'' ih hp

/-! ### sums, number by number -/
def zipI (f : Int → Int → Int) (ns ms : List Int) : List Int := (List.range (max ns.length ms.length)).map fun k => f (ns.getD k 0) (ms.getD k 0)
def plusI (ns ms : List Int) : List Int := trimI (zipI (· + ·) ns ms)
def minusI (ns ms : List Int) : List Int := trimI (zipI (· - ·) ns ms)
def scaledI (m : Int) (ns : List Int) : List Int := trimI (ns.map (m * ·))
theorem zip_len (f : Int → Int → Int) (ns ms : List Int) : (zipI f ns ms).length = max ns.length ms.length := by
  unfold zipI
  rw [List.length_map, List.length_range]
theorem plus_len (ns ms : List Int) : (plusI ns ms).length ≤ max ns.length ms.length := Nat.le_trans (trim_len _) (Nat.le_of_eq (zip_len _ _ _))
theorem minus_len (ns ms : List Int) : (minusI ns ms).length ≤ max ns.length ms.length := Nat.le_trans (trim_len _) (Nat.le_of_eq (zip_len _ _ _))
theorem scaled_len (m : Int) (ns : List Int) : (scaledI m ns).length ≤ ns.length := Nat.le_trans (trim_len _) (by rw [List.length_map]; exact Nat.le_refl _)
theorem max_if (i j : Nat) : (if (j : Int) > (i : Int) then (j : Int) else (i : Int)) = ((max i j : Nat) : Int) := by
  split <;> omega
end PP
/-! Ring: polynomials as rows of ints, by their coefficients; products, powers, sizes. -/
namespace PP
def cf (p : List Int) (k : Nat) : Int := p.getD k 0
@[simp] theorem cf_nil (k : Nat) : cf [] k = 0 := by simp [cf]
@[simp] theorem cf_zero (x : Int) (r : List Int) : cf (x :: r) 0 = x := by simp [cf]
@[simp] theorem cf_succ (x : Int) (r : List Int) (k : Nat) : cf (x :: r) (k + 1) = cf r k := by simp [cf]
theorem cf_ge {p : List Int} {k : Nat} (h : p.length ≤ k) : cf p k = 0 := by
  unfold cf
  rw [List.getD_eq_getElem?_getD, List.getElem?_eq_none h]
  rfl
theorem cf_lt {p : List Int} {k : Nat} (h : k < p.length) : cf p k = p[k] := by
  unfold cf
  rw [List.getD_eq_getElem?_getD, List.getElem?_eq_getElem h]
  rfl
theorem cf_trim : ∀ (p : List Int) (k : Nat), cf (trimI p) k = cf p k
  | [], k => rfl
  | x :: r, k => by
    have ih := cf_trim r
    unfold trimI
    split
    · rename_i h
      rcases k with _ | k
      · simp [h.2]
      · rw [cf_succ, ← ih k, h.1]
        simp
    · rcases k with _ | k
      · simp
      · rw [cf_succ, cf_succ, ih k]
theorem trim_ext : ∀ {p q : List Int}, (∀ k, cf p k = cf q k) → trimI p = trimI q
  | [], [], _ => rfl
  | [], y :: s, h => by
    have ih : trimI [] = trimI s := trim_ext fun k => by
      have := h (k + 1)
      simpa using this
    have hy : y = 0 := by
      have := h 0
      simpa using this.symm
    have : trimI s = [] := ih.symm
    simp [trimI, this, hy]
  | x :: r, [], h => by
    have ih : trimI r = trimI [] := trim_ext fun k => by
      have := h (k + 1)
      simpa using this
    have hx : x = 0 := by
      have := h 0
      simpa using this
    have : trimI r = [] := ih
    simp [trimI, this, hx]
  | x :: r, y :: s, h => by
    have ih : trimI r = trimI s := trim_ext fun k => by
      have := h (k + 1)
      simpa using this
    have hx : x = y := by
      have := h 0
      simpa using this
    unfold trimI
    rw [ih, hx]
theorem trim_idem (p : List Int) : trimI (trimI p) = trimI p := trim_ext (cf_trim p)
/-- a row without noughts at its end -/
def Nf (p : List Int) : Prop := trimI p = p
theorem nf_trim (p : List Int) : Nf (trimI p) := trim_idem p
theorem nf_ext {p q : List Int} (hp : Nf p) (hq : Nf q) (h : ∀ k, cf p k = cf q k) : p = q := by
  rw [← hp, ← hq]
  exact trim_ext h
theorem nf_nil : Nf [] := rfl
theorem nf_tail {x : Int} {r : List Int} (h : Nf (x :: r)) : Nf r := by
  unfold Nf trimI at h
  split at h
  · cases h
  · exact (List.cons.inj h).2
theorem nf_last : ∀ {p : List Int}, Nf p → p ≠ [] → cf p (p.length - 1) ≠ 0
  | [], _, h => (h rfl).elim
  | [x], h, _ => by
    unfold Nf at h
    simp [trimI] at h
    simpa using h
  | x :: y :: r, h, _ => by
    have := nf_last (nf_tail h) (by simp)
    simpa using this
theorem nf_of_last : ∀ {p : List Int}, (p = [] ∨ cf p (p.length - 1) ≠ 0) → Nf p
  | [], _ => rfl
  | [x], h => by
    rcases h with h | h
    · cases h
    · simp at h
      simp [Nf, trimI, h]
  | x :: y :: r, h => by
    rcases h with h | h
    · cases h
    · have ih : Nf (y :: r) := nf_of_last (.inr (by simpa using h))
      unfold Nf at ih ⊢
      unfold trimI
      rw [ih]
      simp

def addL : List Int → List Int → List Int
  | [], q => q
  | p, [] => p
  | x :: p, y :: q => (x + y) :: addL p q
theorem cf_addL : ∀ (p q : List Int) (k : Nat), cf (addL p q) k = cf p k + cf q k
  | [], q, k => by simp [addL]
  | x :: p, [], k => by simp [addL]
  | x :: p, y :: q, 0 => by simp [addL]
  | x :: p, y :: q, k + 1 => by simp [addL, cf_addL p q k]
theorem cf_map {c : Int} : ∀ (p : List Int) (k : Nat), cf (p.map (c * ·)) k = c * cf p k
  | [], k => by simp
  | x :: p, 0 => by simp
  | x :: p, k + 1 => by
    rw [List.map_cons, cf_succ, cf_succ]
    exact cf_map p k
def mulL : List Int → List Int → List Int
  | [], _ => []
  | x :: r, q => addL (q.map (x * ·)) (0 :: mulL r q)
theorem cf_mul_zero (x : Int) (r q : List Int) : cf (mulL (x :: r) q) 0 = x * cf q 0 := by
  show cf (addL _ _) 0 = _
  rw [cf_addL, cf_map, cf_zero, Int.add_zero]
theorem cf_mul_succ (x : Int) (r q : List Int) (k : Nat) : cf (mulL (x :: r) q) (k + 1) = x * cf q (k + 1) + cf (mulL r q) k := by
  show cf (addL _ _) (k + 1) = _
  rw [cf_addL, cf_map, cf_succ]
/-- the product hangs on the coefficients alone -/
theorem cf_mul_congr {q q' : List Int} (h : ∀ k, cf q k = cf q' k) : ∀ (p : List Int) (k : Nat), cf (mulL p q) k = cf (mulL p q') k
  | [], k => rfl
  | x :: r, 0 => by rw [cf_mul_zero, cf_mul_zero, h]
  | x :: r, k + 1 => by rw [cf_mul_succ, cf_mul_succ, h, cf_mul_congr h r k]
theorem cf_mul_nil : ∀ (p : List Int) (k : Nat), cf (mulL p []) k = 0
  | [], k => by simp [mulL]
  | x :: r, 0 => by rw [cf_mul_zero]; simp
  | x :: r, k + 1 => by rw [cf_mul_succ, cf_mul_nil r k]; simp
theorem cf_mul_cons0 (y : Int) (s : List Int) : ∀ (p : List Int), cf (mulL p (y :: s)) 0 = y * cf p 0
  | [] => by simp [mulL]
  | x :: r => by rw [cf_mul_zero, cf_zero, cf_zero, Int.mul_comm]
theorem cf_mul_cons (y : Int) (s : List Int) : ∀ (p : List Int) (k : Nat), cf (mulL p (y :: s)) (k + 1) = y * cf p (k + 1) + cf (mulL p s) k
  | [], k => by simp [mulL]
  | x :: r, 0 => by
    rw [cf_mul_succ, cf_succ, cf_succ, cf_mul_cons0, cf_mul_zero, Int.add_comm]
  | x :: r, k + 1 => by
    rw [cf_mul_succ, cf_succ, cf_succ, cf_mul_cons y s r k, cf_mul_succ]
    omega
theorem cf_mul_comm : ∀ (p q : List Int) (k : Nat), cf (mulL p q) k = cf (mulL q p) k
  | [], q, k => by rw [cf_mul_nil]; simp [mulL]
  | x :: r, q, 0 => by rw [cf_mul_zero, cf_mul_cons0]
  | x :: r, q, k + 1 => by rw [cf_mul_succ, cf_mul_cons, cf_mul_comm r q k]
theorem cf_mul_add (p q : List Int) : ∀ (s : List Int) (k : Nat), cf (mulL s (addL p q)) k = cf (mulL s p) k + cf (mulL s q) k
  | [], k => by simp [mulL]
  | x :: r, 0 => by rw [cf_mul_zero, cf_mul_zero, cf_mul_zero, cf_addL, Int.mul_add]
  | x :: r, k + 1 => by
    rw [cf_mul_succ, cf_mul_succ, cf_mul_succ, cf_addL, Int.mul_add, cf_mul_add p q r k]
    omega
theorem cf_mul_map (c : Int) (q : List Int) : ∀ (p : List Int) (k : Nat), cf (mulL p (q.map (c * ·))) k = c * cf (mulL p q) k
  | [], k => by simp [mulL]
  | x :: r, 0 => by
    rw [cf_mul_zero, cf_mul_zero, cf_map, Int.mul_left_comm]
  | x :: r, k + 1 => by
    rw [cf_mul_succ, cf_mul_succ, cf_map, cf_mul_map c q r k, Int.mul_add, Int.mul_left_comm]
theorem cf_mul_sh (q : List Int) : ∀ (p : List Int) (k : Nat), cf (mulL p (0 :: q)) k = cf (0 :: mulL p q) k
  | p, 0 => by rw [cf_mul_cons0]; simp
  | p, k + 1 => by rw [cf_mul_cons, cf_succ]; simp
theorem cf_mul_assoc (p q : List Int) : ∀ (s : List Int) (k : Nat), cf (mulL s (mulL p q)) k = cf (mulL (mulL s p) q) k
  | [], k => rfl
  | x :: r, k => by
    have e : ∀ k, cf (mulL (mulL (x :: r) p) q) k = cf (addL ((mulL p q).map (x * ·)) (0 :: mulL r (mulL p q))) k := fun k => by
      rw [cf_mul_comm]
      show cf (mulL q (addL (p.map (x * ·)) (0 :: mulL r p))) k = _
      rw [cf_mul_add, cf_mul_map, cf_mul_sh, cf_addL, cf_map, cf_mul_comm q p]
      congr 1
      rcases k with _ | k
      · simp
      · rw [cf_succ, cf_succ, cf_mul_comm q, ← cf_mul_assoc p q r k]
    rw [e]
    rfl
theorem mul_len : ∀ (p q : List Int), (mulL p q).length ≤ p.length + q.length
  | [], q => by simp [mulL]
  | x :: r, q => by
    have add_len : ∀ a b : List Int, (addL a b).length = max a.length b.length := by
      intro a
      induction a with
      | nil => intro b; simp [addL]
      | cons x a ih =>
        intro b
        cases b with
        | nil => simp [addL]
        | cons y b =>
          simp only [addL, List.length_cons, ih]
          omega
    have := mul_len r q
    show (addL _ _).length ≤ _
    rw [add_len, List.length_map, List.length_cons, List.length_cons]
    omega

/-- the product of two rows -/
def mulI (p q : List Int) : List Int := trimI (mulL p q)
theorem cf_mulI (p q : List Int) (k : Nat) : cf (mulI p q) k = cf (mulL p q) k := cf_trim _ _
theorem mulI_comm (p q : List Int) : mulI p q = mulI q p := trim_ext (cf_mul_comm p q)
theorem cf_mul_congrL {p p' : List Int} (h : ∀ k, cf p k = cf p' k) (q : List Int) (k : Nat) : cf (mulL p q) k = cf (mulL p' q) k := by
  rw [cf_mul_comm, cf_mul_comm p']
  exact cf_mul_congr h q k
theorem mulI_assoc (p q s : List Int) : mulI (mulI p q) s = mulI p (mulI q s) := trim_ext fun k => by
  rw [cf_mul_congrL (cf_mulI p q), cf_mul_congr (cf_mulI q s), cf_mul_assoc]
theorem mulI_one {p : List Int} (h : Nf p) : mulI p [1] = p := by
  refine nf_ext (nf_trim _) h fun k => ?_
  rw [cf_mulI, cf_mul_comm]
  show cf (addL _ _) k = _
  rw [cf_addL, cf_map, Int.one_mul]
  show cf p k + cf (0 :: []) k = _
  rcases k with _ | k <;> simp
theorem mulI_nil (p : List Int) : mulI p [] = [] := by
  refine nf_ext (nf_trim _) nf_nil fun k => ?_
  rw [cf_mulI, cf_mul_nil, cf_nil]
theorem nf_mulI (p q : List Int) : Nf (mulI p q) := nf_trim _
theorem mulI_len (p q : List Int) : (mulI p q).length ≤ p.length + q.length := Nat.le_trans (trim_len _) (mul_len p q)

/-- so many like ones -/
def powI (p : List Int) : Nat → List Int
  | 0 => [1]
  | n + 1 => mulI (powI p n) p
theorem nf_one : Nf [1] := by simp [Nf, trimI]
theorem nf_powI (p : List Int) : ∀ n, Nf (powI p n)
  | 0 => nf_one
  | _ + 1 => nf_mulI _ _
theorem powI_add (p : List Int) (m : Nat) : ∀ n, powI p (m + n) = mulI (powI p m) (powI p n)
  | 0 => (mulI_one (nf_powI p m)).symm
  | n + 1 => by
    show mulI (powI p (m + n)) p = mulI (powI p m) (mulI (powI p n) p)
    rw [powI_add p m n, mulI_assoc]
theorem powI_sq (p : List Int) : ∀ n, powI (mulI p p) n = powI p (2 * n)
  | 0 => rfl
  | n + 1 => by
    show mulI (powI (mulI p p) n) (mulI p p) = powI p (2 * n + 2)
    rw [powI_sq p n]
    show _ = mulI (mulI (powI p (2 * n)) p) p
    rw [mulI_assoc]

/-! ### sizes -/
def nrm (p : List Int) : Nat := (p.map Int.natAbs).sum
theorem nrm_cons (x : Int) (r : List Int) : nrm (x :: r) = x.natAbs + nrm r := by simp [nrm]
theorem mem_nrm : ∀ {p : List Int} {x : Int}, x ∈ p → x.natAbs ≤ nrm p
  | y :: r, x, h => by
    rw [nrm_cons]
    rcases List.mem_cons.mp h with h | h
    · rw [h]
      omega
    · have := mem_nrm h
      omega
theorem cf_nrm (p : List Int) (k : Nat) : (cf p k).natAbs ≤ nrm p := by
  by_cases h : k < p.length
  · rw [cf_lt h]
    exact mem_nrm (List.getElem_mem h)
  · rw [cf_ge (by omega)]
    simp
theorem nrm_trim : ∀ p : List Int, nrm (trimI p) ≤ nrm p
  | [] => Nat.le_refl _
  | x :: r => by
    have := nrm_trim r
    unfold trimI
    split
    · simp [nrm]
    · rw [nrm_cons, nrm_cons]
      omega
theorem nrm_add : ∀ p q : List Int, nrm (addL p q) ≤ nrm p + nrm q
  | [], q => by simp [addL, nrm]
  | x :: p, [] => by simp [addL, nrm]
  | x :: p, y :: q => by
    have := nrm_add p q
    have h := Int.natAbs_add_le x y
    show nrm ((x + y) :: addL p q) ≤ _
    rw [nrm_cons, nrm_cons, nrm_cons]
    omega
theorem nrm_map (c : Int) : ∀ p : List Int, nrm (p.map (c * ·)) = c.natAbs * nrm p
  | [] => by simp [nrm]
  | x :: p => by
    rw [List.map_cons, nrm_cons, nrm_cons, nrm_map c p, Int.natAbs_mul, Nat.mul_add]
theorem nrm_mul : ∀ p q : List Int, nrm (mulL p q) ≤ nrm p * nrm q
  | [], q => by simp [mulL, nrm]
  | x :: r, q => by
    have := nrm_mul r q
    show nrm (addL _ _) ≤ _
    refine Nat.le_trans (nrm_add _ _) ?_
    rw [nrm_map, nrm_cons, nrm_cons, Nat.add_mul]
    simp
    omega
theorem nrm_mulI (p q : List Int) : nrm (mulI p q) ≤ nrm p * nrm q := Nat.le_trans (nrm_trim _) (nrm_mul p q)
theorem nrm_powI {p : List Int} {b : Nat} (h : nrm p ≤ 2 ^ b) : ∀ n, nrm (powI p n) ≤ 2 ^ (b * n)
  | 0 => by simp [powI, nrm]
  | n + 1 => by
    refine Nat.le_trans (nrm_mulI _ _) ?_
    rw [Nat.mul_succ, Nat.pow_add]
    exact Nat.mul_le_mul (nrm_powI h n) h
theorem nrm_bound {b : Nat} : ∀ {p : List Int} {n : Nat}, (∀ x ∈ p, x.natAbs < 2 ^ b) → p.length ≤ 2 ^ n → nrm p ≤ 2 ^ (n + b)
  | p, n, h, hl => by
    have key : ∀ p : List Int, (∀ x ∈ p, x.natAbs < 2 ^ b) → nrm p ≤ p.length * 2 ^ b := by
      intro p
      induction p with
      | nil => intro _; simp [nrm]
      | cons x r ih =>
        intro h
        have h1 := ih fun y hy => h y (List.mem_cons_of_mem _ hy)
        have h2 := h x List.mem_cons_self
        rw [nrm_cons, List.length_cons, Nat.succ_mul]
        omega
    refine Nat.le_trans (key p h) ?_
    rw [Nat.pow_add]
    exact Nat.mul_le_mul_right _ hl
/-- taking one more of the first factor -/
theorem cf_mul_take (p q : List Int) : ∀ (i : Nat), i < p.length → ∀ k, cf (mulL (p.take (i + 1)) q) k = cf (mulL (p.take i) q) k + (if i ≤ k then cf p i * cf q (k - i) else 0) := by
  induction p with
  | nil => intro i h; simp at h
  | cons x r ih =>
    intro i hi k
    rcases i with _ | i
    · show cf (mulL [x] q) k = cf (mulL [] q) k + _
      rcases k with _ | k
      · rw [cf_mul_zero]
        simp [mulL]
      · rw [cf_mul_succ]
        simp [mulL]
    · rw [List.take_succ_cons, List.take_succ_cons]
      rcases k with _ | k
      · rw [cf_mul_zero, cf_mul_zero]
        simp
      · rw [cf_mul_succ, cf_mul_succ, ih i (by simpa using hi) k, cf_succ, Nat.add_sub_add_right]
        by_cases h : i ≤ k
        · rw [if_pos h, if_pos (by omega)]
          omega
        · rw [if_neg h, if_neg (by omega)]
          omega
/-- products of rows that are not nought have no nought ahead -/
theorem cf_mul_top : ∀ (p q : List Int), p ≠ [] → q ≠ [] → cf (mulL p q) (p.length - 1 + (q.length - 1)) = cf p (p.length - 1) * cf q (q.length - 1)
  | [x], q, _, hq => by
    rcases q with _ | ⟨y, s⟩
    · exact (hq rfl).elim
    · show cf (addL _ (0 :: [])) _ = _
      rw [cf_addL, cf_map]
      simp only [List.length_cons, List.length_nil, Nat.zero_add, Nat.sub_self, Nat.add_sub_cancel, cf_zero]
      rcases s.length with _ | k <;> simp
  | x :: y :: r, q, _, hq => by
    have ih := cf_mul_top (y :: r) q (by simp) hq
    have e : (x :: y :: r).length - 1 + (q.length - 1) = ((y :: r).length - 1 + (q.length - 1)) + 1 := by simp; omega
    rw [e, cf_mul_succ, ih]
    have h0 : cf q ((y :: r).length - 1 + (q.length - 1) + 1) = 0 := cf_ge (by simp; omega)
    rw [h0, Int.mul_zero, Int.zero_add]
    simp
theorem cf_set (p : List Int) (i : Nat) (v : Int) (hi : i < p.length) (k : Nat) : cf (p.set i v) k = if k = i then v else cf p k := by
  unfold cf
  rw [List.getD_eq_getElem?_getD, List.getElem?_set, List.getD_eq_getElem?_getD]
  by_cases h : i = k
  · subst h
    rw [if_pos rfl, if_pos hi, if_pos rfl]
    rfl
  · rw [if_neg h, if_neg (fun e => h e.symm)]
theorem cf_rep (n k : Nat) : cf (List.replicate n 0) k = 0 := by
  unfold cf
  rw [List.getD_eq_getElem?_getD, List.getElem?_replicate]
  split <;> rfl
/-- one step of the inner loop -/
theorem mul_step {p q tot : List Int} {i j : Nat} (hi : i < p.length) (hj : j < q.length) (hl : i + j < tot.length)
    (h : ∀ k, cf tot k = cf (mulL (p.take i) q) k + (if i ≤ k ∧ k < i + j then cf p i * cf q (k - i) else 0)) :
    ∀ k, cf (tot.set (i + j) (tot.getD (i + j) 0 + cf p i * cf q j)) k = cf (mulL (p.take i) q) k + (if i ≤ k ∧ k < i + (j + 1) then cf p i * cf q (k - i) else 0) := by
  intro k
  rw [cf_set _ _ _ hl]
  by_cases e : k = i + j
  · subst e
    rw [if_pos rfl, if_pos (by omega)]
    have := h (i + j)
    rw [if_neg (by omega)] at this
    show cf tot (i + j) + _ = _
    rw [this, Nat.add_sub_cancel_left]
    omega
  · rw [if_neg e, h k]
    congr 1
    by_cases c : i ≤ k ∧ k < i + j
    · rw [if_pos c, if_pos (by omega)]
    · rw [if_neg c, if_neg (by omega)]
/-- the inner loop's end -/
theorem mul_row {p q tot : List Int} {i : Nat} (hi : i < p.length)
    (h : ∀ k, cf tot k = cf (mulL (p.take i) q) k + (if i ≤ k ∧ k < i + q.length then cf p i * cf q (k - i) else 0)) : ∀ k, cf tot k = cf (mulL (p.take (i + 1)) q) k := by
  intro k
  rw [h k, cf_mul_take p q i hi]
  congr 1
  by_cases c : i ≤ k
  · rw [if_pos c]
    by_cases d : k < i + q.length
    · rw [if_pos ⟨c, d⟩]
    · rw [if_neg (by omega), cf_ge (p := q) (k := k - i) (by omega), Int.mul_zero]
  · rw [if_neg c, if_neg (by omega)]
theorem tot_mul {p q tot : List Int} (hp : Nf p) (hq : Nf q) (h1 : p ≠ []) (h2 : q ≠ []) (hl : tot.length = p.length + q.length - 1) (h : ∀ k, cf tot k = cf (mulL p q) k) : tot = mulI p q := by
  have lp : 0 < p.length := List.length_pos_iff.mpr h1
  have lq : 0 < q.length := List.length_pos_iff.mpr h2
  refine nf_ext (nf_of_last (.inr ?_)) (nf_mulI p q) fun k => by rw [h k, cf_mulI]
  rw [h, hl, show p.length + q.length - 1 - 1 = p.length - 1 + (q.length - 1) by omega, cf_mul_top p q h1 h2]
  exact Int.mul_ne_zero (nf_last hp h1) (nf_last hq h2)

/-! ### sums over products -/
theorem cf_zip {f : Int → Int → Int} (h0 : f 0 0 = 0) (p q : List Int) (k : Nat) : cf (zipI f p q) k = f (cf p k) (cf q k) := by
  by_cases h : k < max p.length q.length
  · rw [cf_lt (by rw [zip_len]; exact h)]
    unfold zipI
    rw [List.getElem_map, List.getElem_range]
    rfl
  · rw [cf_ge (by rw [zip_len]; omega), cf_ge (p := p) (by omega), cf_ge (p := q) (by omega), h0]
theorem cf_plus (p q : List Int) (k : Nat) : cf (plusI p q) k = cf p k + cf q k := (cf_trim _ _).trans (cf_zip (f := (· + ·)) rfl p q k)
theorem cf_minus (p q : List Int) (k : Nat) : cf (minusI p q) k = cf p k - cf q k := (cf_trim _ _).trans (cf_zip (f := (· - ·)) rfl p q k)
theorem cf_scaled (c : Int) (p : List Int) (k : Nat) : cf (scaledI c p) k = c * cf p k := (cf_trim _ _).trans (cf_map p k)
theorem nf_plus (p q : List Int) : Nf (plusI p q) := nf_trim _
theorem plus_eq (p q : List Int) : plusI p q = trimI (addL p q) := trim_ext fun k => by rw [cf_addL]; exact cf_zip (f := (· + ·)) rfl p q k
theorem nrm_plus (p q : List Int) : nrm (plusI p q) ≤ nrm p + nrm q := by
  rw [plus_eq]
  exact Nat.le_trans (nrm_trim _) (nrm_add p q)
theorem plusI_nil {p : List Int} (h : Nf p) : plusI p [] = p := nf_ext (nf_plus _ _) h fun k => by rw [cf_plus, cf_nil, Int.add_zero]
theorem plusI_comm (p q : List Int) : plusI p q = plusI q p := nf_ext (nf_plus _ _) (nf_plus _ _) fun k => by rw [cf_plus, cf_plus, Int.add_comm]
theorem plusI_assoc (p q r : List Int) : plusI (plusI p q) r = plusI p (plusI q r) := nf_ext (nf_plus _ _) (nf_plus _ _) fun k => by rw [cf_plus, cf_plus, cf_plus, cf_plus, Int.add_assoc]
theorem mulI_plus (p q r : List Int) : mulI p (plusI q r) = plusI (mulI p q) (mulI p r) := nf_ext (nf_mulI _ _) (nf_plus _ _) fun k => by
  rw [cf_mulI, cf_plus, cf_mulI, cf_mulI, cf_mul_congr (q' := addL q r) (fun j => by rw [cf_plus, cf_addL]), cf_mul_add]
theorem plus_mulI (p q r : List Int) : mulI (plusI q r) p = plusI (mulI q p) (mulI r p) := by
  rw [mulI_comm, mulI_plus, mulI_comm p q, mulI_comm p r]
theorem mulI_trim (p q : List Int) : mulI p (trimI q) = mulI p q := nf_ext (nf_mulI _ _) (nf_mulI _ _) fun k => by rw [cf_mulI, cf_mulI, cf_mul_congr (cf_trim q)]
theorem trim_mulI (p q : List Int) : mulI (trimI p) q = mulI p q := by rw [mulI_comm, mulI_trim, mulI_comm]

def slopeI (ns : List Int) : List Int := (List.range (ns.length - 1)).map fun k => ((k + 1 : Nat) : Int) * cf ns (k + 1)

/-- a polynomial in the letter's place -/
def compI : List Int → List Int → List Int
  | [], _ => []
  | x :: r, q => plusI (mulI (compI r q) q) (trimI [x])
theorem nf_comp : ∀ (p q : List Int), Nf (compI p q)
  | [], _ => nf_nil
  | _ :: _, _ => nf_plus _ _
theorem trim1_len (x : Int) : (trimI [x]).length ≤ 1 := trim_len _
theorem nrm1 (x : Int) : nrm (trimI [x]) ≤ x.natAbs := Nat.le_trans (nrm_trim _) (by simp [nrm])
theorem comp_len : ∀ (p q : List Int), (compI p q).length ≤ p.length * q.length + 1
  | [], _ => by simp [compI]
  | x :: r, q => by
    have h1 := comp_len r q
    have h2 := plus_len (mulI (compI r q) q) (trimI [x])
    have h3 := mulI_len (compI r q) q
    have h4 := trim1_len x
    show (plusI _ _).length ≤ _
    rw [List.length_cons, Nat.succ_mul]
    have h5 := mul_len (compI r q) q
    omega
theorem comp_nrm {b y : Nat} {q : List Int} (hq : nrm q ≤ 2 ^ y) : ∀ (p : List Int), (∀ x ∈ p, x.natAbs ≤ 2 ^ b) → nrm (compI p q) ≤ 2 ^ (b + p.length * (y + 1))
  | [], _ => by simp [compI, nrm]
  | x :: r, h => by
    have ih := comp_nrm hq r fun z hz => h z (List.mem_cons_of_mem _ hz)
    have hx := h x List.mem_cons_self
    have h2 := nrm_plus (mulI (compI r q) q) (trimI [x])
    have h3 := nrm_mulI (compI r q) q
    have h4 := nrm1 x
    have h5 : nrm (compI r q) * nrm q ≤ 2 ^ (b + r.length * (y + 1)) * 2 ^ y := Nat.mul_le_mul ih hq
    rw [← Nat.pow_add] at h5
    have h6 : 2 ^ b ≤ 2 ^ (b + r.length * (y + 1) + y) := Nat.pow_le_pow_right (by decide) (by omega)
    have e : b + (x :: r).length * (y + 1) = (b + r.length * (y + 1) + y) + 1 := by
      rw [List.length_cons, Nat.succ_mul]
      omega
    show nrm (plusI _ _) ≤ _
    rw [e, Nat.pow_succ]
    omega
/-- the sum from the front: one more -/
theorem comp_front (p q due : List Int) (i : Nat) (hi : i < p.length) (hd : Nf due) :
    plusI (plusI due (mulI [p.getD i 0] (powI q i))) (mulI (powI q (i + 1)) (compI (p.drop (i + 1)) q)) = plusI due (mulI (powI q i) (compI (p.drop i) q)) := by
  rw [List.drop_eq_getElem_cons hi]
  show _ = plusI due (mulI (powI q i) (plusI (mulI (compI (p.drop (i + 1)) q) q) (trimI [p[i]])))
  have e : p.getD i 0 = p[i] := cf_lt hi
  rw [e, mulI_plus, mulI_trim, plusI_assoc]
  congr 1
  show plusI _ (mulI (mulI (powI q i) q) _) = _
  rw [mulI_comm [p[i]], plusI_comm, mulI_assoc, mulI_comm q]
theorem powI_len (p : List Int) : ∀ n, (powI p n).length ≤ p.length * n + 1
  | 0 => by simp [powI]
  | n + 1 => by
    have h1 := powI_len p n
    have h2 := mulI_len (powI p n) p
    show (mulI (powI p n) p).length ≤ _
    rw [Nat.mul_succ]
    omega
/-! sizes of rows told by their numbers -/
theorem mem_cf {b : Nat} {ns : List Int} (h : ∀ k, (cf ns k).natAbs < 2 ^ b) : ∀ x ∈ ns, x.natAbs < 2 ^ b := fun x hx => by
  obtain ⟨i, hi, e⟩ := List.getElem_of_mem hx
  have := h i
  rw [cf_lt hi, e] at this
  exact this
theorem nrm_cf {b n : Nat} {ns : List Int} (h : ∀ k, (cf ns k).natAbs < 2 ^ b) (hl : ns.length ≤ 2 ^ n) : nrm ns ≤ 2 ^ (n + b) := nrm_bound (mem_cf h) hl
end PP
/-! Nums: greatest common divisors of rows -/
namespace PP
def cont (ns : List Int) : Nat := ns.foldl (fun g x => Nat.gcd g x.natAbs) 0
theorem foldl_gcd (ns : List Int) : ∀ g : Nat, ns.foldl (fun g x => Nat.gcd g x.natAbs) g = Nat.gcd g (cont ns) := by
  unfold cont
  induction ns with
  | nil => intro g; simp
  | cons x r ih =>
    intro g
    rw [List.foldl_cons, List.foldl_cons, ih, ih (Nat.gcd 0 x.natAbs), Nat.gcd_zero_left, Nat.gcd_assoc]
theorem cont_nil : cont [] = 0 := rfl
theorem cont_cons (x : Int) (r : List Int) : cont (x :: r) = Nat.gcd x.natAbs (cont r) := by
  show (x :: r).foldl _ 0 = _
  rw [List.foldl_cons, foldl_gcd, Nat.gcd_zero_left]
theorem cont_snoc (x : Int) (r : List Int) : cont (r ++ [x]) = Nat.gcd (cont r) x.natAbs := by
  unfold cont
  rw [List.foldl_append] <;> rfl
theorem cont_take {ns : List Int} {i : Nat} (h : i < ns.length) : cont (ns.take (i + 1)) = Nat.gcd (cont (ns.take i)) (ns.getD i 0).natAbs := by
  rw [List.take_succ_eq_append_getElem h, cont_snoc, List.getD_eq_getElem?_getD, List.getElem?_eq_getElem h]
  rfl
theorem cont_dvd : ∀ {ns : List Int} {x : Int}, x ∈ ns → (cont ns : Int) ∣ x
  | y :: r, x, h => by
    rw [cont_cons]
    rcases List.mem_cons.mp h with h | h
    · rw [h]
      exact Int.dvd_natAbs.mp (Int.natCast_dvd_natCast.mpr (Nat.gcd_dvd_left _ _))
    · exact Int.dvd_trans (Int.natCast_dvd_natCast.mpr (Nat.gcd_dvd_right _ _)) (cont_dvd h)
theorem dvd_cont : ∀ {ns : List Int} {d : Nat}, (∀ x ∈ ns, (d : Int) ∣ x) → d ∣ cont ns
  | [], d, _ => Nat.dvd_zero d
  | y :: r, d, h => by
    rw [cont_cons]
    refine Nat.dvd_gcd ?_ (dvd_cont fun x hx => h x (List.mem_cons_of_mem _ hx))
    exact Int.natCast_dvd_natCast.mp (Int.dvd_natAbs.mpr (h y List.mem_cons_self))
theorem cont_pos {ns : List Int} (h : ∃ x ∈ ns, x ≠ 0) : 0 < cont ns := by
  obtain ⟨x, hx, h0⟩ := h
  rcases Nat.eq_zero_or_pos (cont ns) with e | e
  · have := cont_dvd hx
    rw [e] at this
    exact (h0 (Int.zero_dvd.mp this)).elim
  · exact e
/-- what is left of a row by its content -/
theorem cont_left {ns : List Int} {c : Nat} (hc : c = cont ns) (h0 : 0 < c) : cont (ns.map fun x => x / (c : Int)) = 1 := by
  have hd : (cont (ns.map fun x => x / (c : Int))) * c ∣ cont ns := by
    refine dvd_cont fun x hx => ?_
    have h1 : (cont (ns.map fun x => x / (c : Int)) : Int) ∣ x / (c : Int) := cont_dvd (List.mem_map.mpr ⟨x, hx, rfl⟩)
    have h2 : (c : Int) ∣ x := hc ▸ cont_dvd hx
    have h3 : x / (c : Int) * (c : Int) = x := Int.ediv_mul_cancel h2
    rw [Int.natCast_mul]
    calc (cont (ns.map fun x => x / (c : Int)) : Int) * (c : Int) ∣ x / (c : Int) * (c : Int) := Int.mul_dvd_mul_right _ h1
      _ = x := h3
  rw [← hc] at hd
  have h4 : cont (ns.map fun x => x / (c : Int)) * c ≤ 1 * c := by
    rw [Nat.one_mul]
    exact Nat.le_of_dvd h0 hd
  have h5 := Nat.le_of_mul_le_mul_right h4 h0
  have h6 : cont (ns.map fun x => x / (c : Int)) ≠ 0 := fun e => by
    rw [e, Nat.zero_mul] at hd
    have := Nat.eq_zero_of_zero_dvd hd
    omega
  omega
theorem cont_neg (ns : List Int) : cont (ns.map fun x => -x) = cont ns := by
  induction ns with
  | nil => rfl
  | cons x r ih => rw [List.map_cons, cont_cons, cont_cons, ih, Int.natAbs_neg]
theorem cont_le {ns : List Int} {x : Int} (h : x ∈ ns) (h0 : x ≠ 0) : cont ns ≤ x.natAbs := by
  have := cont_dvd h
  exact Nat.le_of_dvd (Int.natAbs_pos.mpr h0) (Int.natCast_dvd_natCast.mp (Int.dvd_natAbs.mpr this))
/-- simple -/
def simpleI (ns : List Int) : List Int := if ns.getD (ns.length - 1) 0 < 0 then (ns.map fun x => x / (cont ns : Int)).map fun x => -x else ns.map fun x => x / (cont ns : Int)
theorem fdiv_neg' {x c : Int} (hd : c ∣ x) (h0 : 0 < c) : x.fdiv (-c) = -(x / c) := by
  obtain ⟨y, rfl⟩ := hd
  rw [Int.mul_ediv_cancel_left _ (by omega), show c * y = (-y) * (-c) by rw [Int.neg_mul_neg, Int.mul_comm], Int.mul_fdiv_cancel _ (by omega)]
theorem fdiv_pos' {x c : Int} (h0 : 0 < c) : x.fdiv c = x / c := Int.fdiv_eq_ediv_of_nonneg x (by omega)
theorem simple_len (ns : List Int) : (simpleI ns).length = ns.length := by
  unfold simpleI
  split <;> simp
theorem last_mem {ns : List Int} (h : ns ≠ []) : ns.getD (ns.length - 1) 0 ∈ ns := by
  have := List.length_pos_iff.mpr h
  show cf ns _ ∈ ns
  rw [cf_lt (by omega)]
  exact List.getElem_mem _
theorem simple_eq {ns : List Int} (h : 0 < cont ns) : (ns.map fun x => x.fdiv (if ns.getD (ns.length - 1) 0 < 0 then -(cont ns : Int) else (cont ns : Int))) = simpleI ns := by
  unfold simpleI
  split
  · rw [List.map_map]
    exact List.map_congr_left fun x hx => fdiv_neg' (cont_dvd hx) (by omega)
  · exact List.map_congr_left fun x hx => fdiv_pos' (by omega)
def scI (ns : List Int) : Int := if ns.getD (ns.length - 1) 0 < 0 then -(cont ns : Int) else (cont ns : Int)
theorem sc_abs (ns : List Int) : (scI ns).natAbs = cont ns := by
  unfold scI
  split <;> omega
theorem simple_sc {ns : List Int} (h : Nf ns) : (ns.map fun x => x.fdiv (scI ns)) = simpleI ns := by
  by_cases e : ns = []
  · rw [e]
    rfl
  · exact simple_eq (cont_pos ⟨_, last_mem e, nf_last h e⟩)
theorem sc_ne {ns : List Int} (h : Nf ns) : ns = [] ∨ scI ns ≠ 0 := by
  by_cases e : ns = []
  · exact .inl e
  · have h1 := cont_pos ⟨_, last_mem e, nf_last h e⟩
    have h2 := sc_abs ns
    exact .inr (by omega)
end PP
namespace PP
open PySem PySem.Spec PyProof.Rows L2 Evl
/-! small lemmas about lists of ints -/
theorem given_all (n : Nat) (v : Nat → V) : given n (fun _ => true) v = (List.range n).map v := by
  unfold given
  rw [List.filter_eq_self.mpr (fun _ _ => rfl)]
theorem et_yes {σ : L2.St} {H : Hp} : EvT tYes σ H true := fun H1 _ _ q => q H1 (Ex.refl H1)
theorem kx {i n : Nat} (h : i < n) (hn : n ≤ 1000) : ((i : Nat) : Int).natAbs < 2 ^ 10 := by
  rw [Int.natAbs_natCast]
  omega
theorem given_map (ns : List Int) (f : Int → Int) : given (ns.map V.int).length (fun _ => true) (fun i => V.int (f (ns.getD i 0))) = (ns.map f).map V.int := by
  rw [given_all, List.length_map]
  refine List.ext_getElem (by simp) fun i h1 h2 => ?_
  have h3 : i < ns.length := by simpa using h2
  simp [List.getD_eq_getElem?_getD, List.getElem?_eq_getElem h3]
theorem int_at {ns : List Int} {i : Nat} {x : V} (h : (ns.map V.int)[i]? = some x) : i < ns.length ∧ x = .int (ns.getD i 0) ∧ ns.getD i 0 ∈ ns := by
  rw [List.getElem?_map] at h
  by_cases hi : i < ns.length
  · rw [List.getElem?_eq_getElem hi] at h
    rw [List.getD_eq_getElem?_getD, List.getElem?_eq_getElem hi]
    exact ⟨hi, (Option.some.inj h).symm, List.getElem_mem hi⟩
  · rw [List.getElem?_eq_none (by omega)] at h
    cases h
theorem nrm_mulx {ns ms : List Int} {x y : Nat} {i j : Int} (h1 : nrm ns ≤ 2 ^ x) (h2 : nrm ms ≤ 2 ^ y) (hx : x + y + 2 ≤ 100000000) (hi : i.natAbs ≤ nrm ns) (hj : j.natAbs ≤ nrm ms) : CMulX i j := by
  have e1 : 2 ^ (x + 1) = 2 ^ x * 2 := Nat.pow_succ ..
  have e2 : 2 ^ (y + 1) = 2 ^ y * 2 := Nat.pow_succ ..
  have p1 := Nat.two_pow_pos x
  have p2 := Nat.two_pow_pos y
  exact mulx (a := x + 1) (b := y + 1) (by omega) (by omega) (by omega)
theorem map_empty {ns : List Int} : (ns.map V.int).isEmpty = ns.isEmpty := by cases ns <;> rfl
theorem cf_getD (p : List Int) (k : Nat) : p.getD k 0 = cf p k := rfl
theorem st_is {t : TS} {D : Ends} {σ : L2.St} {H : Hp} (σ' : L2.St) (e : σ = σ') (h : t D σ' H) : t D σ H := e ▸ h
theorem evp_tup2 {σ : L2.St} {H : Hp} {ta tb : TE} {x y : V} (ha : Ev ta σ H x) (hb : Ev tb σ H y) : EvP (tTup (tCons ta (tCons tb tNil))) σ H (fun v H2 => ∃ t, v = .ref t ∧ H2 t = some (.tup [x, y])) := fun H1 e Q q =>
  ha H1 e _ fun H2 e2 => hb H2 (e.trans e2) _ fun H3 e3 => ⟨sz_of (by simp), fun t ht => q _ _ ((e2.trans e3).trans (Ex.new ht)) ⟨t, rfl, upd_same⟩⟩

-- USES: Lists
-- IMPORT: HandS.StrMore HandS.RevRange HandS.Zip HandS.Flow HandS.Codes
/-! texts: readings by name, rules for what evaluates -/
open SX in
section
abbrev oCatS : R2 := fun x y H Q => ∃ i j : Str, x = .str i ∧ y = .str j ∧ i.length + j.length ≤ sizeLine ∧ Q (.str (i ++ j)) H
abbrev rStrI : List V → Hp → VK → Prop := fun xs H Q => ∃ i : Int, xs = [.int i] ∧ i.natAbs.log2 < 1920 ∧ Q (.str (toString i)) H
abbrev rIntS : List V → Hp → VK → Prop := fun xs H Q => ∃ (a : Str) (n : Int), xs = [.str a] ∧ PySem.intText? a = some n ∧ a.length ≤ 640 ∧ Q (.int n) H
abbrev rAscii : V → List V → Hp → VK → Prop := fun x xs H Q => ∃ a : Str, x = .str a ∧ xs = [] ∧ True ∧ Q (.bl (Txt.isascii a)) H
abbrev rDigit : V → List V → Hp → VK → Prop := fun x xs H Q => ∃ a : Str, x = .str a ∧ xs = [] ∧ True ∧ Q (.bl (Txt.isdigit a)) H
abbrev rStarts : V → List V → Hp → VK → Prop := fun x xs H Q => ∃ a b : Str, x = .str a ∧ xs = [.str b] ∧ Q (.bl (Txt.startswith a b)) H
abbrev rPartn : V → List V → Hp → VK → Prop := fun x xs H Q => ∃ a b : Str, x = .str a ∧ xs = [.str b] ∧ (b.length == 0) = false ∧ a.length ≤ sizeLine ∧
    ∀ p, H p = none → Q (.ref p) (upd H p (.tup [.str (Txt.partition a b).1, .str (Txt.partition a b).2.1, .str (Txt.partition a b).2.2]))
abbrev rSplit : V → List V → Hp → VK → Prop := fun x xs H Q => ∃ a b : Str, x = .str a ∧ xs = [.str b] ∧ (b.length == 0) = false ∧ a.length + 2 ≤ sizeLine ∧ rNewStrs (Txt.split a b) H Q
def ipS : TIp := fun x y H Q => ∃ i j : Str, x = .str i ∧ y = .str j ∧ i.length + j.length ≤ sizeLine ∧ Q (.str (i ++ j)) H
theorem ip_addS {X : Cx} : PIp X .Add ipS := fun pins s σ H x y v u Q I rx ry h => iop_add_str pins s σ H x y v u Q I rx ry h
/-! xs[0::2], xs[1::2] -/
def evn : List α → List α
  | [] => []
  | [a] => [a]
  | a :: _ :: r => a :: evn r
theorem Vals.evn : ∀ {xs : List V} {us : List Value}, Vals xs us → Vals (PP.evn xs) (PP.evn us)
  | [], _, .nil => .nil
  | [_], _, .cons r .nil => .cons r .nil
  | _ :: _ :: xs, _, .cons r (.cons _ t) => .cons r (Vals.evn t)
theorem evn_get : ∀ (xs : List α) (i : Nat), (evn xs)[i]? = xs[2 * i]?
  | [], i => by simp [evn]
  | [a], 0 => rfl
  | [a], i + 1 => by simp [evn]
  | a :: b :: r, 0 => rfl
  | a :: b :: r, i + 1 => by
    show (evn r)[i]? = _
    rw [evn_get r i, show 2 * (i + 1) = 2 * i + 1 + 1 by omega]
    rfl
theorem evn_len : ∀ xs : List α, (evn xs).length = (xs.length + 1) / 2
  | [] => by simp [evn]
  | [a] => by simp [evn]
  | a :: b :: r => by
    have := evn_len r
    show (evn r).length + 1 = _
    rw [this, List.length_cons, List.length_cons]
    omega
theorem fm_congr {f g : α → Option β} : ∀ {l : List α}, (∀ x, x ∈ l → f x = g x) → l.filterMap f = l.filterMap g
  | [], _ => rfl
  | x :: l, h => by
    rw [List.filterMap_cons, List.filterMap_cons, h x List.mem_cons_self, fm_congr fun y hy => h y (List.mem_cons_of_mem _ hy)]
theorem range2 (c n : Nat) (h : c ≤ n) : sliceRange (c : Int) (n : Int) 2 = (List.range ((n - c + 1) / 2)).map fun k => c + 2 * k := by
  unfold sliceRange
  by_cases hc : (c : Int) < (n : Int)
  · have e : ((n : Int) - (c : Int) + 2 - 1) / 2 = (((n - c + 1) / 2 : Nat) : Int) := by omega
    simp only [show (2 : Int) > 0 by decide, if_true, hc, e, Int.toNat_natCast]
    apply List.map_congr_left
    intro k _
    omega
  · have e : (n - c + 1) / 2 = 0 := by omega
    simp only [show (2 : Int) > 0 by decide, if_true, hc, if_false, e]
    rfl
theorem pick2 (us : List Value) (c : Nat) (hc : c ≤ 1) : slicePick us.toArray (some (c : Int)) none (some 2) = (evn (us.drop c)).toArray := by
  unfold slicePick
  have hb : sliceBounds (some (c : Int)) none (some 2) us.toArray.size = (((min c us.length : Nat) : Int), (us.length : Int), 2) := by
    unfold sliceBounds
    simp only [Option.getD_some, List.size_toArray]
    have e : max 0 (min (if (c : Int) < 0 then (c : Int) + (us.length : Int) else (c : Int)) (us.length : Int)) = ((min c us.length : Nat) : Int) := by
      rw [if_neg (by omega)]
      omega
    simp [e]
  rw [hb]
  show ((sliceRange ((min c us.length : Nat) : Int) (us.length : Int) 2).filterMap (us.toArray[·]?)).toArray = _
  congr 1
  rw [range2 _ _ (Nat.min_le_right _ _), List.filterMap_map]
  have hl : ∀ k, k ∈ List.range ((us.length - min c us.length + 1) / 2) → ((fun x => us.toArray[x]?) ∘ fun k => min c us.length + 2 * k) k = (evn (us.drop c))[k]? := fun k hk => by
    have hk := List.mem_range.mp hk
    show us.toArray[min c us.length + 2 * k]? = _
    rw [evn_get, List.getElem?_drop, List.getElem?_toArray]
    congr 1
    omega
  rw [fm_congr hl]
  have e2 : (us.length - min c us.length + 1) / 2 = (evn (us.drop c)).length := by
    rw [evn_len, List.length_drop]
    omega
  rw [e2]
  generalize evn (us.drop c) = l
  have key := PySem.W.krv_all l.toArray
  simpa using key
def tStepL (K : PySem.W.Frag) (c : Nat) (te : TE) : TE := fun σ H Q => te σ H fun x H1 => ∃ a xs, x = .ref a ∧ SqL K H1 a xs ∧ ∀ p, H1 p = none → Q (.ref p) (upd H1 p (.lst (evn (xs.drop c))))
theorem Vals.dropC : ∀ {xs : List V} {us : List Value} (c : Nat), Vals xs us → Vals (xs.drop c) (us.drop c)
  | _, _, 0, h => h
  | [], _, _ + 1, .nil => .nil
  | _ :: _, _, c + 1, .cons _ t => Vals.dropC c t
theorem pe_stepL {X : Cx} {e : Expr} {te : TE} {c : Nat} {k k2 : Nat} {p1 p2 p3 pos : Pos} (he : PE X e te) (hc : c ≤ 1 := by decide) : PE X (.Subscript e (.Slice (some (.Constant (.int (c : Int)) k p1)) none (some (.Constant (.int 2) k2 p2)) p3) pos) (tStepL X.K c te) := by
  refine ⟨fun pins s σ H Q I h => ?_⟩
  refine Subscript_ (thn (he.run pins s σ H _ I h) fun v s1 ⟨x, H1, I1, r1, q1⟩ => ?_)
  obtain ⟨a, xs, ex, hx, q⟩ := q1
  subst ex
  cases r1
  have hlo : PO X (some (.Constant (.int (c : Int)) k p1)) (tPart (tC (.int (c : Int)))) := po_some pe_int
  have hst : PO X (some (.Constant (.int 2) k2 p2)) (tPart (tC (.int 2))) := po_some pe_int
  refine wpAny_Slice (thn (hlo.run pins s1 σ H1 (fun o H2 => o = some (c : Int) ∧ H2 = H1) I1 ⟨(c : Int), rfl, rfl, rfl⟩) fun vl s2 ⟨l, H2, I2, pl, el, e2⟩ => ?_)
  subst el e2
  refine thn (po_none.run pins s2 σ H2 (fun o H3 => o = none ∧ H3 = H2) I2 ⟨rfl, rfl⟩) fun vu s3 ⟨u, H3, I3, pu, eu, e3⟩ => ?_
  subst eu e3
  refine thn (hst.run pins s3 σ H3 (fun o H4 => o = some 2 ∧ H4 = H3) I3 ⟨2, rfl, rfl, rfl⟩) fun vs s4 ⟨o, H4, I4, ps, eo, e4⟩ => ?_
  subst eo e4
  have I5 : Inv X pins σ H4 { s4 with heap := s4.heap.push { cls := .type "slice", data := .fields #[vl, vu, vs] } } := I4.kept (t' := s4.toks) fun b ob q => Heap.get?_push_of_some _ q
  obtain ⟨its, r, ht, hz⟩ := I5.list hx
  have hlen := r.length
  show wpAny (model X.prog X.w) X.A (subscriptTail e (.Slice (some (.Constant (.int (c : Int)) k p1)) none (some (.Constant (.int 2) k2 p2)) p3) (.ref a) (.ref s4.heap.objs.size)) (EP X pins σ Q) X.xe { s4 with heap := s4.heap.push { cls := .type "slice", data := .fields #[vl, vu, vs] } }
  refine tail_any (ops := [.ref a, .ref s4.heap.objs.size]) ht.isList.typeIs (PySem.slot_list_getitem.lookup) ?_ (by with_unfolding_all rfl)
  refine wpAny_getItem_list_slice ht.isList (Heap.IsSliceOf.new _ vl vu vs) pl pu ps (by decide) ?_ (by rw [List.size_toArray]; omega)
  rw [pick2 _ _ hc]
  refine ⟨.ref _, _, I5.laid (t' := s4.toks) (o := .lst (evn (xs.drop c))) (fun b ob q => Heap.get?_push_of_some _ q) (Nat.le_refl _) ?_, rfl, q _ (I5.hok.fresh (Nat.le_refl _))⟩
  refine ⟨?_, _, 0, Vals.evn (Vals.dropC c r), Heap.get?_push_size _ rfl⟩
  rw [evn_len, List.length_drop]
  omega
end

-- USES: TextX
/-! how polynomials are written, as lists of signs -/
abbrev S (l : List Nat) : Str := SX.S l
abbrev numL (n : Nat) : List Nat := TL.numL n
theorem str_num (n : Nat) : (toString ((n : Nat) : Int) : Str) = S (numL n) := TL.ext_tl (TL.tl_num n)
/-- a term without its sign -/
def termL (s p : Nat) : List Nat := if p = 0 then numL s else (if s = 1 then [] else numL s) ++ (if p = 1 then [120] else [120, 94] ++ numL p)
/-- what stands ahead of a term -/
def signL (neg first : Bool) : List Nat := if first = true then (if neg = true then [45] else []) else (if neg = true then [32, 45, 32] else [32, 43, 32])
/-- the text of the i greatest powers -/
def lineT (ns : List Int) : Nat → List Nat
  | 0 => []
  | i + 1 => if ns.getD (ns.length - 1 - i) 0 = 0 then lineT ns i else lineT ns i ++ (signL (decide (ns.getD (ns.length - 1 - i) 0 < 0)) (decide (lineT ns i = [])) ++ termL (ns.getD (ns.length - 1 - i) 0).natAbs (ns.length - 1 - i))
def shownL (ns : List Int) : List Nat := if lineT ns ns.length = [] then [48] else lineT ns ns.length
theorem numL_len (n k : Nat) (hk : 0 < k) (h : n < 10 ^ k) : (numL n).length ≤ k := TL.numL_len hk h
theorem termL_len {s p : Nat} (hs : s < 10 ^ 60) (hp : p < 10 ^ 3) : (termL s p).length ≤ 65 := by
  have h1 := numL_len s 60 (by decide) hs
  have h2 := numL_len p 3 (by decide) hp
  unfold termL
  split
  · omega
  · split <;> split <;> simp only [List.length_append, List.length_cons, List.length_nil] <;> omega
theorem signL_len (a b : Bool) : (signL a b).length ≤ 3 := by cases a <;> cases b <;> decide
theorem lineT_len {ns : List Int} (hx : ∀ k, (ns.getD k 0).natAbs < 10 ^ 60) (hl : ns.length ≤ 1000) : ∀ i, (lineT ns i).length ≤ 68 * i
  | 0 => by simp [lineT]
  | i + 1 => by
    have ih := lineT_len hx hl i
    unfold lineT
    split
    · omega
    · have h1 := termL_len (hx (ns.length - 1 - i)) (p := ns.length - 1 - i) (by omega)
      have h2 := signL_len (decide (ns.getD (ns.length - 1 - i) 0 < 0)) (decide (lineT ns i = []))
      rw [List.length_append, List.length_append]
      omega
theorem log_small {n : Nat} (h : n < 10 ^ 60) : ((n : Nat) : Int).natAbs.log2 < 1920 := by
  rw [Int.natAbs_natCast]
  have h1 : n < 2 ^ 200 := Nat.lt_trans h (by decide +kernel)
  exact Nat.lt_of_lt_of_le (PySem.Flt.log2_lt_of (by decide) h1) (by decide)
section
variable {K : PySem.W.Frag} {σ : L2.St} {H : Hp} {ta tb te : TE}
theorem S_length (l : List Nat) : (S l).length = l.length := SX.S_len l
theorem ev_fmtI {n : Nat} (h : Ev te σ H (.int (n : Int))) (hn : n < 10 ^ 60) : Ev (tFmt te) σ H (.str (S (numL n))) := fun H1 e Q q => h H1 e _ fun H2 e2 => .inr ⟨n, rfl, log_small hn, by
  rw [str_num]
  exact q H2 e2⟩
theorem ev_fmtS {l : List Nat} (h : Ev te σ H (.str (S l))) (hl : l.length ≤ 90000) : Ev (tFmt te) σ H (.str (S l)) := fun H1 e Q q => h H1 e _ fun H2 e2 => .inl ⟨S l, rfl, sz_of (by rw [S_length]; omega), q H2 e2⟩
theorem ev_join2 {x y : List Nat} (h1 : Ev ta σ H (.str (S x))) (h2 : Ev tb σ H (.str (S y))) (hl : x.length + y.length ≤ 90000) : Ev (tJoin [ta, tb]) σ H (.str (S (x ++ y))) := fun H1 e Q q => by
  refine h1 H1 e _ fun H2 e2 => ⟨S x, rfl, ?_, ?_⟩
  · have e0 : Str.empty ++ S x = S x := SX.S_cat [] x
    rw [e0]
    exact sz_of (by rw [S_length]; omega)
  · have e0 : Str.empty ++ S x = S x := SX.S_cat [] x
    rw [e0]
    refine h2 H2 (e.trans e2) _ fun H3 e3 => ⟨S y, rfl, ?_, ?_⟩
    · rw [SX.S_cat]
      exact sz_of (by rw [S_length, List.length_append]; omega)
    · show Q (.str (S x ++ S y)) H3
      rw [SX.S_cat]
      exact q H3 (e2.trans e3)
theorem ev_catS {x y : List Nat} (h1 : Ev ta σ H (.str (S x))) (h2 : Ev tb σ H (.str (S y))) (hl : x.length + y.length ≤ 90000) : Ev (tOp oCatS ta tb) σ H (.str (S (x ++ y))) := ev_op h1 h2 fun H2 e2 Q q => ⟨S x, S y, rfl, rfl, sz_of (by rw [S_length, S_length]; omega), by
  rw [SX.S_cat]
  exact q H2 (Ex.refl H2)⟩
theorem ev_strI {n : Nat} (h : Ev te σ H (.int (n : Int))) (hn : n < 10 ^ 60) : Ev (tCB rStrI (tCons te tNil)) σ H (.str (S (numL n))) := fun H1 e Q q => h H1 e _ fun H2 e2 => ⟨n, rfl, log_small hn, by
  rw [str_num]
  exact q H2 e2⟩
theorem S_eq {x y : List Nat} : decide (V.str (S x) = V.str (S y)) = decide (x = y) := by
  by_cases h : x = y
  · subst h
    rw [decide_eq_true rfl, decide_eq_true rfl]
  · rw [decide_eq_false h, decide_eq_false]
    intro e
    exact h (SX.S_inj (V.str.inj e))
theorem ev_eqT {x y : List Nat} (h1 : Ev ta σ H (.str (S x))) (h2 : Ev tb σ H (.str (S y))) : Ev (tOp rEq ta tb) σ H (.bl (decide (x = y))) := ev_is (ev_eqS h1 h2) (by rw [S_eq])
theorem ev_neT {x y : List Nat} (h1 : Ev ta σ H (.str (S x))) (h2 : Ev tb σ H (.str (S y))) : Ev (tOp rNe ta tb) σ H (.bl (!decide (x = y))) := ev_is (ev_neS h1 h2) (by rw [S_eq])
theorem ev_cS {s : Str} {l : List Nat} (h : s = S l) : Ev (tC (.str s)) σ H (.str (S l)) := by
  rw [h]
  exact ev_c
end

-- USES: TxtM
/-! _term -/
def sp_P_term (K : PySem.W.Frag) : Sp := fun vs H Q _ => ∃ s p : Nat, vs = [.int (s : Int), .int (p : Int)] ∧ s < 10 ^ 60 ∧ p < 10 ^ 3 ∧ RetV (.str (S (termL s p))) H Q
def t_P_term (K : PySem.W.Frag) : TS :=
  (tSeq (tIfS (tTest (tOp rEq (tVar 1) (tC (.int 0)))) (tRet (tFmt (tVar 0))) tNext) (tSeq (tAsg (tIf (tTest (tOp rEq (tVar 1) (tC (.int 1)))) (tC (.str "x")) (tJoin [(tC (.str "x^")), (tFmt (tVar 1))])) (gName 2)) (tRet (tIf (tTest (tOp rEq (tVar 0) (tC (.int 1)))) (tVar 2) (tJoin [(tFmt (tVar 0)), (tFmt (tVar 2))])))))
theorem run_P_term {K : PySem.W.Frag} {vs : List V} {H : Hp} {Q : VK} {E : XK} (h : sp_P_term K vs H Q E) : t_P_term K { nx := fun _ H' => Q .non H', rt := Q } (start ["size", "power", "letter"] vs) H := by
  obtain ⟨s, p, rfl, hs, hp, q⟩ := h
  have hp60 : p < 10 ^ 60 := Nat.lt_trans hp (by decide +kernel)
  have l1 := numL_len s 60 (by decide) hs
  have l2 := numL_len p 3 (by decide) hp
  refine q_when (et_test (ev_eqI (ev_var rfl) ev_c)) (fun hb H1 e1 => ?_) (fun hb H1 e1 => ?_)
  · have h0 : p = 0 := by
      have := of_decide_eq_true hb
      omega
    refine s_ret (ev_fmtI (ev_var rfl) hs) fun H2 e2 => ?_
    unfold termL at q
    rw [if_pos h0] at q
    exact q H2 (e1.trans e2)
  · have h0 : p ≠ 0 := by
      have := of_decide_eq_false hb
      omega
    have q2 := q
    unfold termL at q2
    rw [if_neg h0] at q2
    refine q_asg (v := .str (S (if p = 1 then [120] else [120, 94] ++ numL p))) (ev_if (et_test (ev_eqI (ev_var rfl) ev_c)) (fun hb => ?_) (fun hb => ?_)) fun H2 e2 => ?_
    · have h1 : p = 1 := by
        have := of_decide_eq_true hb
        omega
      rw [if_pos h1]
      exact ev_cS (by decide +kernel)
    · have h1 : p ≠ 1 := by
        have := of_decide_eq_false hb
        omega
      rw [if_neg h1]
      exact ev_join2 (ev_cS (by decide +kernel)) (ev_fmtI (ev_var rfl) hp60) (by simp only [List.length_cons, List.length_nil]; omega)
    have l3 : (if p = 1 then [120] else [120, 94] ++ numL p).length ≤ 10 := by
      split <;> simp only [List.length_append, List.length_cons, List.length_nil] <;> omega
    generalize (if p = 1 then [120] else [120, 94] ++ numL p) = w at q2 l3 ⊢
    refine s_ret (v := .str (S ((if s = 1 then [] else numL s) ++ w))) (ev_if (et_test (ev_eqI (ev_var rfl) ev_c)) (fun hb => ?_) (fun hb => ?_)) fun H3 e3 => q2 H3 ((e1.trans e2).trans e3)
    · have h1 : s = 1 := by
        have := of_decide_eq_true hb
        omega
      rw [if_pos h1]
      exact ev_var rfl
    · have h1 : s ≠ 1 := by
        have := of_decide_eq_false hb
        omega
      rw [if_neg h1]
      exact ev_join2 (ev_fmtI (ev_var rfl) hs) (ev_fmtS (ev_var rfl) (by omega)) (by omega)
theorem sv_P_term {K : PySem.W.Frag} {H : Hp} {i j : Int} (s p : Nat) (hi : i = (s : Int)) (hj : j = (p : Int)) (hs : s < 10 ^ 60) (hp : p < 10 ^ 3) : SpV (sp_P_term K) [.int i, .int j] H (.str (S (termL s p))) := fun H1 e Q q E => ⟨s, p, by rw [hi, hj], hs, hp, q⟩

-- USES: TxtM
/-! _sign -/
def sp_P_sign (K : PySem.W.Frag) : Sp := fun vs H Q _ => ∃ (i : Int) (b : Bool), vs = [.int i, .bl b] ∧ RetV (.str (S (signL (decide (i < 0)) b))) H Q
def t_P_sign (K : PySem.W.Frag) : TS :=
  (tSeq (tIfS (tB (tVar 1)) (tRet (tIf (tTest (tOp oLt (tVar 0) (tC (.int 0)))) (tC (.str "-")) (tC (.str "")))) tNext) (tRet (tIf (tTest (tOp oLt (tVar 0) (tC (.int 0)))) (tC (.str " - ")) (tC (.str " + ")))))
theorem run_P_sign {K : PySem.W.Frag} {vs : List V} {H : Hp} {Q : VK} {E : XK} (h : sp_P_sign K vs H Q E) : t_P_sign K { nx := fun _ H' => Q .non H', rt := Q } (start ["number", "is_first"] vs) H := by
  obtain ⟨i, b, rfl, q⟩ := h
  refine q_when (et_B (ev_var rfl)) (fun hb H1 e1 => ?_) (fun hb H1 e1 => ?_)
  · subst hb
    refine s_ret (v := .str (S (signL (decide (i < 0)) true))) (ev_if (et_test (ev_lt (ev_var rfl) ev_c)) (fun hb => ?_) (fun hb => ?_)) fun H2 e2 => q H2 (e1.trans e2)
    · rw [hb]
      exact ev_cS (by decide +kernel)
    · rw [hb]
      exact ev_cS (by decide +kernel)
  · subst hb
    refine s_ret (v := .str (S (signL (decide (i < 0)) false))) (ev_if (et_test (ev_lt (ev_var rfl) ev_c)) (fun hb => ?_) (fun hb => ?_)) fun H2 e2 => q H2 (e1.trans e2)
    · rw [hb]
      exact ev_cS (by decide +kernel)
    · rw [hb]
      exact ev_cS (by decide +kernel)
theorem sv_P_sign {K : PySem.W.Frag} {H : Hp} {i : Int} {b : Bool} : SpV (sp_P_sign K) [.int i, .bl b] H (.str (S (signL (decide (i < 0)) b))) := fun H1 e Q q E => ⟨i, b, rfl, q⟩

-- USES: Lists P_term P_sign
/-! shown -/
def sp_P_shown (K : PySem.W.Frag) : Sp := fun vs H Q _ => ∃ (a : Addr) (ns : List Int), vs = [.ref a] ∧ SqL K H a (ns.map V.int) ∧ ns.length ≤ 1000 ∧ (∀ k, (ns.getD k 0).natAbs < 10 ^ 60) ∧ RetV (.str (S (shownL ns))) H Q
def t_P_shown (K : PySem.W.Frag) : TS :=
  (tSeq (tAsg (tC (.str "")) (gName 1)) (tSeq (tFor (iRevR (tRg1 (tCB (rLenS K) (tCons (tVar 0) tNil)))) (gName 2) (tSeq (tAsg (tOp (rIxL K) (tVar 0) (tVar 2)) (gName 3)) (tIfS (tTest (tOp rNe (tVar 3) (tC (.int 0)))) (tAug 1 (tOp oCatS (tCall (sp_P_sign K) [] E0 (tCons (tVar 3) (tCons (tOp rEq (tVar 1) (tC (.str ""))) tNil))) (tCall (sp_P_term K) [] E0 (tCons (tCB rAbs (tCons (tVar 3) tNil)) (tCons (tVar 2) tNil)))) ipS) tNext))) (tRet (tOrT K (tVar 1) (tC (.str "0"))))))
theorem s_augS {σ : L2.St} {H : Hp} {D : Ends} {te : TE} {i : Nat} {x y : List Nat} (hx : σ[i]? = some (some (.str (S x)))) (h : Ev te σ H (.str (S y))) (hl : x.length + y.length ≤ 90000) (k : ∀ H1, Ex H H1 → D.nx (σ.set i (some (.str (S (x ++ y))))) H1) : tAug i te ipS D σ H := ⟨.str (S x), hx, h H (Ex.refl H) _ fun H1 e1 => ⟨S x, S y, rfl, rfl, sz_of (by rw [S_length, S_length]; omega), by
  rw [SX.S_cat]
  exact k H1 e1⟩⟩
theorem run_P_shown {K : PySem.W.Frag} {vs : List V} {H : Hp} {Q : VK} {E : XK} (h : sp_P_shown K vs H Q E) : t_P_shown K { nx := fun _ H' => Q .non H', rt := Q } (start ["row", "line", "power", "number"] vs) H := by
  obtain ⟨a, ns, rfl, hS, hl, hx, q⟩ := h
  have ln := lineT_len hx hl
  refine q_asg (ev_cS (l := []) (by decide +kernel)) fun H1 e1 => ?_
  have hS1 := ex_l e1 hS
  refine (ev_is (ev_len (ev_var rfl) hS1) (by rw [List.length_map])) H1 (Ex.refl H1) _ fun H2 e2 => ⟨(ns.length : Int), rfl, by omega, by omega, by omega, by omega, ?_⟩
  have e12 := e1.trans e2
  refine for_rangeC (fun i σ' H' => (∃ y2 y3 : Option V, σ' = [some (.ref a), some (.str (S (lineT ns i))), y2, y3]) ∧ Ex H H') ⟨⟨none, none, rfl⟩, e12⟩ (fun i σ' H3 hi hP => ?_) (fun σ' H3 hP => ?_)
  · obtain ⟨⟨y2, y3, rfl⟩, e3⟩ := hP
    have hin : i < ns.length := by omega
    have hp : (0 : Int) + ((((ns.length : Int) - 0).toNat : Nat) : Int) - 1 + ((i : Nat) : Int) * (-1) = ((ns.length - 1 - i : Nat) : Int) := by omega
    show tSeq _ _ _ (([some (.ref a), some (.str (S (lineT ns i))), y2, y3] : L2.St).set 2 (some (.int ((0 : Int) + ((((ns.length : Int) - 0).toNat : Nat) : Int) - 1 + ((i : Nat) : Int) * (-1))))) H3
    rw [hp]
    have lni := ln i
    have lni1 := ln (i + 1)
    have hxp := hx (ns.length - 1 - i)
    have hstep : lineT ns (i + 1) = if ns.getD (ns.length - 1 - i) 0 = 0 then lineT ns i else lineT ns i ++ (signL (decide (ns.getD (ns.length - 1 - i) 0 < 0)) (decide (lineT ns i = [])) ++ termL (ns.getD (ns.length - 1 - i) 0).natAbs (ns.length - 1 - i)) := rfl
    refine q_asg (ev_ixI (j := ns.length - 1 - i) (ev_var rfl) (ev_var rfl) (ex_l e3 hS) rfl (by omega)) fun H4 e4 => ?_
    have tl := termL_len hxp (p := ns.length - 1 - i) (by omega)
    generalize ns.getD (ns.length - 1 - i) 0 = x at *
    have sl := signL_len (decide (x < 0)) (decide (lineT ns i = []))
    refine s_when (et_test (ev_neI (ev_var rfl) ev_c)) (fun hb H5 e5 => ?_) (fun hb H5 e5 => ?_)
    · have hx0 : x ≠ 0 := by
        rw [Bool.not_eq_true', decide_eq_false_iff_not] at hb
        exact hb
      rw [if_neg hx0] at hstep
      refine s_augS rfl (ev_catS (ev_call (ea_cons (ev_var rfl) (ea_cons (ev_eqT (ev_var rfl) (ev_cS (l := []) (by decide +kernel))) ea_nil)) sv_P_sign) (ev_call (ea_cons (ev_abs (ev_var rfl)) (ea_cons (ev_var rfl) ea_nil)) (sv_P_term x.natAbs (ns.length - 1 - i) (by split <;> omega) rfl hxp (by omega))) (by omega)) (by rw [List.length_append]; omega) fun H6 e6 => ⟨⟨some (.int ((ns.length - 1 - i : Nat) : Int)), some (.int x), ?_⟩, ((e3.trans e4).trans e5).trans e6⟩
      rw [hstep]
      rfl
    · have hx0 : x = 0 := by
        rw [Bool.not_eq_false', decide_eq_true_iff] at hb
        exact hb
      rw [if_pos hx0] at hstep
      refine ⟨⟨some (.int ((ns.length - 1 - i : Nat) : Int)), some (.int x), ?_⟩, (e3.trans e4).trans e5⟩
      rw [hstep]
      rfl
  · obtain ⟨⟨y2, y3, rfl⟩, e3⟩ := hP
    have en : ((ns.length : Int) - 0).toNat = ns.length := by omega
    rw [en]
    have lnn := ln ns.length
    unfold shownL at q
    show tOrT K (tVar 1) (tC (.str "0")) _ H3 _
    refine (ev_var (v := V.str (S (lineT ns ns.length))) rfl) H3 (Ex.refl H3) _ fun H4 e4 => ⟨!decide (lineT ns ns.length = []), (show (S (lineT ns ns.length)).length ≤ sizeLine ∧ (!decide (lineT ns ns.length = [])) = (((S (lineT ns ns.length)).length : Int) != 0) from ⟨sz_of (by rw [S_length]; omega), ?_⟩), ?_⟩
    · rw [S_length]
      cases lineT ns ns.length with
      | nil => rfl
      | cons x l =>
        rw [decide_eq_false (by simp)]
        exact (bne_iff_ne.mpr (by rw [List.length_cons]; omega)).symm
    · by_cases h0 : lineT ns ns.length = []
      · rw [if_pos h0] at q
        rw [h0]
        show Q (.str "0") H4
        exact q H4 (e3.trans e4)
      · rw [if_neg h0] at q
        rw [decide_eq_false h0]
        exact q H4 (e3.trans e4)
theorem sv_P_shown {K : PySem.W.Frag} {H : Hp} {a : Addr} {ns : List Int} (hS : SqL K H a (ns.map V.int)) (hl : ns.length ≤ 1000) (hx : ∀ k, (ns.getD k 0).natAbs < 10 ^ 60) : SpV (sp_P_shown K) [.ref a] H (.str (S (shownL ns))) := fun H1 e Q q E => ⟨a, ns, rfl, ex_l e hS, hl, hx, q⟩

-- USES: TxtM
/-! texts read: what is told or refused -/
abbrev rLenT : List V → Hp → VK → Prop := fun xs H Q => ∃ z : Str, xs = [.str z] ∧ z.length ≤ sizeLine ∧ Q (.int z.length) H
theorem rLenT_S {l : List Nat} {H : Hp} {Q : VK} (hl : l.length ≤ 90000) (q : Q (.int (l.length : Int)) H) : rLenT [.str (S l)] H Q := ⟨S l, rfl, sz_of (by rw [S_length]; omega), by
  rw [S_length]
  exact q⟩
/-- evaluating goes another way -/
def EvR (te : TE) (σ : L2.St) (H : Hp) : Prop := ∀ H1, Ex H H1 → ∀ Q : VK, te σ H1 Q
section
variable {K : PySem.W.Frag} {σ : L2.St} {H : Hp} {ta tb te : TE} {D : Ends} {tz : TS}
theorem ev_callS {sp : Sp} {W : WX} {tt : TA} {vs : List V} {v : V} (h : EvA tt σ H vs) (hs : ∀ H1, Ex H H1 → ∀ Q : VK, RetV v H1 Q → sp vs H1 Q (fun cls d H2 => W cls d σ H2)) : Ev (tCallS sp (WE W) tt) σ H v := fun H1 e Q q => h H1 e _ fun H2 e2 => hs H2 (e.trans e2) Q fun H3 e3 => q H3 (e2.trans e3)
theorem er_callS {sp : Sp} {W : WX} {tt : TA} {vs : List V} (h : EvA tt σ H vs) (hs : ∀ H1, Ex H H1 → ∀ Q : VK, sp vs H1 Q (fun cls d H2 => W cls d σ H2)) : EvR (tCallS sp (WE W) tt) σ H := fun H1 e Q => h H1 e _ fun H2 e2 => hs H2 (e.trans e2) Q
theorem r_ret (h : EvR te σ H) : tRet te D σ H := h H (Ex.refl H) _
theorem r_asg {g : TG} (h : EvR te σ H) : tSeq (tAsg te g) tz D σ H := h H (Ex.refl H) _
theorem er_tup1 {tt : TA} (h : EvR ta σ H) : EvR (tTup (tCons ta tt)) σ H := fun H1 e _ => h H1 e _
theorem er_tup2 {v : V} (h1 : Ev ta σ H v) (h : EvR tb σ H) : EvR (tTup (tCons ta (tCons tb tNil))) σ H := fun H1 e _ => h1 H1 e _ fun H2 e2 => h H2 (e.trans e2) _
theorem ty_S {x : Str} : tyV K "str" (.str x) H := by
  show "str" = "str"
  rfl
theorem ev_ascii {l : List Nat} (h : Ev te σ H (.str (S l))) : Ev (tBM0 K "str" rAscii te) σ H (.bl (l.all (· < 128))) := fun H1 e Q q => h H1 e _ fun H2 e2 => ⟨ty_S, S l, rfl, rfl, trivial, by
  have e0 : Txt.isascii (S l) = l.all (· < 128) := by
    show (S l).cps.all (· < 128) = _
    rw [← Array.all_toList]
  rw [e0]
  exact q H2 e2⟩
theorem ev_digit {l : List Nat} (h : Ev te σ H (.str (S l))) : Ev (tBM0 K "str" rDigit te) σ H (.bl (decide (0 < l.length) && l.all Unicode.isDigit)) := fun H1 e Q q => h H1 e _ fun H2 e2 => ⟨ty_S, S l, rfl, rfl, trivial, by
  have e0 : Txt.isdigit (S l) = (decide (0 < l.length) && l.all Unicode.isDigit) := by
    show (decide ((S l).length > 0) && (S l).cps.all Unicode.isDigit) = _
    rw [← Array.all_toList, S_length]
  rw [e0]
  exact q H2 e2⟩
theorem starts_S (l : List Nat) (c : Nat) : Txt.startswith (S l) (S [c]) = decide (l.head? = some c) := by
  unfold Txt.startswith
  rw [StrLaws.subAt_eq, S_length, S_length]
  show (decide (0 + 1 ≤ l.length) && ((l.drop 0).take 1 == [c])) = _
  rw [List.drop_zero]
  cases l with
  | nil => rfl
  | cons x l =>
    rw [List.head?_cons, List.length_cons]
    show (decide (0 + 1 ≤ l.length + 1) && ([x] == [c])) = _
    rw [decide_eq_true (by omega), Bool.true_and]
    by_cases h : x = c
    · subst h
      simp
    · rw [decide_eq_false (by intro e; exact h (Option.some.inj e))]
      simp [h]
theorem ev_starts {l : List Nat} {s : Str} (c : Nat) (hs : s = S [c]) (h : Ev te σ H (.str (S l))) : Ev (tBM K "str" rStarts te (tCons (tC (.str s)) tNil)) σ H (.bl (decide (l.head? = some c))) := fun H1 e Q q => h H1 e _ fun H2 e2 => ⟨ty_S, ⟨S l, s, rfl, rfl, by
  rw [hs, starts_S]
  exact q H2 e2⟩⟩
theorem cut_tail (l : List Nat) : cutS (S l) (some 1) none = S l.tail := by
  unfold cutS
  congr 1
  rw [S_length]
  have h1 : HT.sIx l.length 0 (some ((1 : Nat) : Int)) = min 1 l.length := HT.sIx_nat l.length _ 1
  have h2 : HT.sIx l.length l.length none = l.length := HT.sIx_none ..
  show ((l.drop (HT.sIx l.length 0 (some ((1 : Nat) : Int)))).take (HT.sIx l.length l.length none - HT.sIx l.length 0 (some ((1 : Nat) : Int)))).toArray = _
  rw [h1, h2]
  cases l with
  | nil => rfl
  | cons x l =>
    rw [List.length_cons, Nat.min_eq_left (by omega), List.drop_succ_cons, List.drop_zero, List.take_of_length_le (by omega)]
    rfl
theorem ev_tail {l : List Nat} (h : Ev te σ H (.str (S l))) (hl : l.length ≤ 90000) : Ev (tSl rSlS te (tPart (tC (.int 1))) tNoPart) σ H (.str (S l.tail)) := fun H1 e Q q => h H1 e _ fun H2 e2 => (eo_some (ev_c (v := .int 1)) : EvO (tPart (tC (.int 1))) σ H2 (some 1)) H2 (Ex.refl H2) _ fun H3 e3 => (eo_none : EvO tNoPart σ H3 none) H3 (Ex.refl H3) _ fun H4 e4 => ⟨S l, rfl, sz_of (by rw [S_length]; omega), by
  rw [cut_tail]
  exact q H4 ((e2.trans e3).trans e4)⟩
theorem et_truthT {l : List Nat} (h : Ev te σ H (.str (S l))) (hl : l.length ≤ 90000) : EvT (tTruth K te) σ H (!decide (l = [])) := fun H1 e Q q => h H1 e _ fun H2 e2 => ⟨!decide (l = []), (show (S l).length ≤ sizeLine ∧ (!decide (l = [])) = (((S l).length : Int) != 0) from ⟨sz_of (by rw [S_length]; omega), by
  rw [S_length]
  cases l with
  | nil => rfl
  | cons x l =>
    rw [decide_eq_false (by simp)]
    exact (bne_iff_ne.mpr (by rw [List.length_cons]; omega)).symm⟩), q H2 e2⟩
theorem ev_lenS {l : List Nat} (h : Ev te σ H (.str (S l))) (hl : l.length ≤ 90000) : Ev (tCB rLenT (tCons te tNil)) σ H (.int (l.length : Int)) := fun H1 e Q q => h H1 e _ fun H2 e2 => rLenT_S hl (q H2 e2)
end
/-! ### numbers, sizes, powers -/
def digL (l : List Nat) : Bool := l.all fun c => decide (48 ≤ c) && decide (c ≤ 57)
theorem dig_ascii : ∀ c : Nat, c < 128 → PySem.Unicode.isDigit c = (decide (48 ≤ c) && decide (c ≤ 57)) := by
  have h : (List.range 128).all (fun c => PySem.Unicode.isDigit c == (decide (48 ≤ c) && decide (c ≤ 57))) = true := by decide +kernel
  intro c hc
  exact eq_of_beq (List.all_eq_true.mp h c (List.mem_range.mpr hc))
theorem dig_one (c : Nat) : (decide (48 ≤ c) && decide (c ≤ 57)) = (decide (c < 128) && PySem.Unicode.isDigit c) := by
  by_cases hc : c < 128
  · rw [dig_ascii c hc, decide_eq_true hc, Bool.true_and]
  · rw [decide_eq_false hc, decide_eq_false (show ¬ c ≤ 57 by omega), Bool.and_false, Bool.false_and]
theorem dig_all : ∀ l : List Nat, digL l = (l.all (fun c => decide (c < 128)) && l.all PySem.Unicode.isDigit)
  | [] => rfl
  | c :: l => by
    have ih := dig_all l
    unfold digL at ih ⊢
    rw [List.all_cons, List.all_cons, List.all_cons, ih, dig_one]
    cases decide (c < 128) <;> cases PySem.Unicode.isDigit c <;> cases l.all (fun c => decide (c < 128)) <;> cases l.all PySem.Unicode.isDigit <;> rfl
def wholeN (l : List Nat) : Option Nat := if (decide (l ≠ []) && digL l) = true ∧ l.head? ≠ some 48 then some (NumText.digitsVal l) else none

-- USES: ReadX
-- EXC: NotWritten
/-! _whole_number, _size_of, _power_of -/
theorem whole_cond (l : List Nat) : (!(l.all fun c => decide (c < 128)) || (!(decide (0 < l.length) && l.all PySem.Unicode.isDigit) || decide (l.head? = some 48))) = decide (wholeN l = none) := by
  have hd := dig_all l
  have e1 : decide (0 < l.length) = decide (l ≠ []) := by cases l <;> simp
  unfold wholeN
  rw [e1, hd]
  cases (l.all fun c => decide (c < 128)) <;> cases decide (l ≠ []) <;> cases (l.all PySem.Unicode.isDigit) <;> by_cases h : l.head? = some 48 <;> simp [h]
theorem whole_dig {l : List Nat} {n : Nat} (h : wholeN l = some n) : NumText.AllDigits l ∧ l ≠ [] ∧ n = NumText.digitsVal l := by
  unfold wholeN at h
  split at h
  · rename_i hc
    rw [Bool.and_eq_true] at hc
    refine ⟨fun c hm => ?_, of_decide_eq_true hc.1.1, (Option.some.inj h).symm⟩
    have h1 := List.all_eq_true.mp hc.1.2 c hm
    rw [Bool.and_eq_true] at h1
    exact ⟨of_decide_eq_true h1.1, of_decide_eq_true h1.2⟩
  · cases h
def sp_P_whole_number (K : PySem.W.Frag) (cs : Cs) : Sp := fun vs H Q E => ∃ l : List Nat, vs = [.str (S l)] ∧ l.length ≤ 640 ∧ ((wholeN l = none ∧ ∀ H', Ex H H' → E (.ref cs.NotWritten) none H') ∨ ∃ n : Nat, wholeN l = some n ∧ RetV (.int (n : Int)) H Q)
def t_P_whole_number (K : PySem.W.Frag) (cs : Cs) (E : XK) : TS :=
  (tSeq (tIfS (tOr (tNot (tB (tBM0 K "str" rAscii (tVar 0)))) (tOr (tNot (tB (tBM0 K "str" rDigit (tVar 0)))) (tB (tBM K "str" rStarts (tVar 0) (tCons (tC (.str "0")) tNil))))) (tRaiseC cs.NotWritten (wOf E)) tNext) (tRet (tCB rIntS (tCons (tVar 0) tNil))))
theorem run_P_whole_number {K : PySem.W.Frag} {cs : Cs} {vs : List V} {H : Hp} {Q : VK} {E : XK} {l : List Addr} (_ : Tx K cs.PolyError l) (_ : cs.NotWritten ∈ l) (h : sp_P_whole_number K cs vs H Q E) : t_P_whole_number K cs E { nx := fun _ H' => Q .non H', rt := Q } (start ["figures"] vs) H := by
  obtain ⟨l, rfl, hl, h⟩ := h
  refine q_when (b := decide (wholeN l = none)) (et_is (et_or (et_not (et_B (ev_ascii (ev_var rfl)))) fun _ => et_or (et_not (et_B (ev_digit (ev_var rfl)))) fun _ => et_B (ev_starts 48 (by decide +kernel) (ev_var rfl))) (whole_cond l)) (fun hb H1 e1 => ?_) (fun hb H1 e1 => ?_)
  · have h0 := of_decide_eq_true hb
    rcases h with ⟨_, h⟩ | ⟨n, h, _⟩
    · exact h H1 e1
    · rw [h0] at h
      cases h
  · have h0 := of_decide_eq_false hb
    rcases h with ⟨h, _⟩ | ⟨n, h, q⟩
    · exact absurd h h0
    · obtain ⟨d1, d2, d3⟩ := whole_dig h
      have hi : PySem.intText? (S l) = some ((n : Nat) : Int) := by
        rw [d3]
        exact PySem.intText_digits (x := S l) d1 d2 (by rw [S_length]; omega)
      refine (ev_var (v := V.str (S l)) rfl) H1 (Ex.refl H1) _ fun H2 e2 => ?_
      exact ⟨S l, (n : Int), rfl, hi, by rw [S_length]; exact hl, q H2 (e1.trans e2)⟩
theorem ev_whole {K : PySem.W.Frag} {cs : Cs} {σ : L2.St} {H : Hp} {W : WX} {tt : TA} {l : List Nat} {n : Nat} (h : EvA tt σ H [.str (S l)]) (hl : l.length ≤ 640) (hn : wholeN l = some n) : Ev (tCallS (sp_P_whole_number K cs) (WE W) tt) σ H (.int (n : Int)) := ev_callS h fun H1 e Q q => ⟨l, rfl, hl, .inr ⟨n, hn, q⟩⟩
theorem er_whole {K : PySem.W.Frag} {cs : Cs} {σ : L2.St} {H : Hp} {W : WX} {tt : TA} {l : List Nat} (h : EvA tt σ H [.str (S l)]) (hl : l.length ≤ 640) (hn : wholeN l = none) (hW : ∀ H', Ex H H' → W (.ref cs.NotWritten) none σ H') : EvR (tCallS (sp_P_whole_number K cs) (WE W) tt) σ H := er_callS h fun H1 e Q => ⟨l, rfl, hl, .inl ⟨hn, fun H' e' => hW H' (e.trans e')⟩⟩

-- USES: ReadX P_whole_number
-- EXC: NotWritten
def sizeN (l : List Nat) : Option Nat := if l = [] then some 1 else if l = [49] then none else wholeN l
def sp_P_size_of (K : PySem.W.Frag) (cs : Cs) : Sp := fun vs H Q E => ∃ l : List Nat, vs = [.str (S l)] ∧ l.length ≤ 640 ∧ ((sizeN l = none ∧ ∀ H', Ex H H' → E (.ref cs.NotWritten) none H') ∨ ∃ n : Nat, sizeN l = some n ∧ RetV (.int (n : Int)) H Q)
def t_P_size_of (K : PySem.W.Frag) (cs : Cs) (E : XK) : TS :=
  (tSeq (tIfS (tNot (tTruth K (tVar 0))) (tRet (tC (.int 1))) tNext) (tSeq (tIfS (tTest (tOp rEq (tVar 0) (tC (.str "1")))) (tRaiseC cs.NotWritten (wOf E)) tNext) (tRet (tCallS (sp_P_whole_number K cs) (WE (wOf E)) (tCons (tVar 0) tNil)))))
theorem run_P_size_of {K : PySem.W.Frag} {cs : Cs} {vs : List V} {H : Hp} {Q : VK} {E : XK} {l : List Addr} (_ : Tx K cs.PolyError l) (_ : cs.NotWritten ∈ l) (h : sp_P_size_of K cs vs H Q E) : t_P_size_of K cs E { nx := fun _ H' => Q .non H', rt := Q } (start ["figures"] vs) H := by
  obtain ⟨l, rfl, hl, h⟩ := h
  unfold sizeN at h
  refine q_when (et_not (et_truthT (ev_var rfl) (by omega))) (fun hb H1 e1 => ?_) (fun hb H1 e1 => ?_)
  · have h0 : l = [] := by simpa using hb
    rw [if_pos h0] at h
    rcases h with ⟨h, _⟩ | ⟨n, h, q⟩
    · cases h
    · cases h
      exact s_ret ev_c fun H2 e2 => q H2 (e1.trans e2)
  have h0 : l ≠ [] := by simpa using hb
  rw [if_neg h0] at h
  refine q_when (et_test (ev_eqT (ev_var rfl) (ev_cS (l := [49]) (by decide +kernel)))) (fun hb H2 e2 => ?_) (fun hb H2 e2 => ?_)
  · have h1 := of_decide_eq_true hb
    rw [if_pos h1] at h
    rcases h with ⟨_, h⟩ | ⟨n, h, _⟩
    · exact h H2 (e1.trans e2)
    · cases h
  have h1 := of_decide_eq_false hb
  rw [if_neg h1] at h
  rcases h with ⟨hn, h⟩ | ⟨n, hn, q⟩
  · exact r_ret (er_whole (ea_cons (ev_var rfl) ea_nil) hl hn fun H' e' => h H' ((e1.trans e2).trans e'))
  · exact s_ret (ev_whole (ea_cons (ev_var rfl) ea_nil) hl hn) fun H3 e3 => q H3 ((e1.trans e2).trans e3)
theorem ev_size {K : PySem.W.Frag} {cs : Cs} {σ : L2.St} {H : Hp} {W : WX} {tt : TA} {l : List Nat} {n : Nat} (h : EvA tt σ H [.str (S l)]) (hl : l.length ≤ 640) (hn : sizeN l = some n) : Ev (tCallS (sp_P_size_of K cs) (WE W) tt) σ H (.int (n : Int)) := ev_callS h fun H1 e Q q => ⟨l, rfl, hl, .inr ⟨n, hn, q⟩⟩
theorem er_size {K : PySem.W.Frag} {cs : Cs} {σ : L2.St} {H : Hp} {W : WX} {tt : TA} {l : List Nat} (h : EvA tt σ H [.str (S l)]) (hl : l.length ≤ 640) (hn : sizeN l = none) (hW : ∀ H', Ex H H' → W (.ref cs.NotWritten) none σ H') : EvR (tCallS (sp_P_size_of K cs) (WE W) tt) σ H := er_callS h fun H1 e Q => ⟨l, rfl, hl, .inl ⟨hn, fun H' e' => hW H' (e.trans e')⟩⟩

-- USES: ReadX P_whole_number
-- EXC: NotWritten
def powerN (l : List Nat) : Option Nat := if l = [] then some 1 else if (!decide (l.head? = some 94) || decide ((3 : Int) < (l.length : Int))) = true then none else if wholeN l.tail = some 1 then none else wholeN l.tail
def sp_P_power_of (K : PySem.W.Frag) (cs : Cs) : Sp := fun vs H Q E => ∃ l : List Nat, vs = [.str (S l)] ∧ l.length ≤ 90000 ∧ ((powerN l = none ∧ ∀ H', Ex H H' → E (.ref cs.NotWritten) none H') ∨ ∃ n : Nat, powerN l = some n ∧ RetV (.int (n : Int)) H Q)
def t_P_power_of (K : PySem.W.Frag) (cs : Cs) (E : XK) : TS :=
  (tSeq (tIfS (tNot (tTruth K (tVar 0))) (tRet (tC (.int 1))) tNext) (tSeq (tIfS (tOr (tNot (tB (tBM K "str" rStarts (tVar 0) (tCons (tC (.str "^")) tNil)))) (tTest (tOp oGt (tCB rLenT (tCons (tVar 0) tNil)) (tC (.int 3))))) (tRaiseC cs.NotWritten (wOf E)) tNext) (tSeq (tAsg (tCallS (sp_P_whole_number K cs) (WE (wOf E)) (tCons (tSl rSlS (tVar 0) (tPart (tC (.int 1))) tNoPart) tNil)) (gName 1)) (tSeq (tIfS (tTest (tOp rEq (tVar 1) (tC (.int 1)))) (tRaiseC cs.NotWritten (wOf E)) tNext) (tRet (tVar 1))))))
theorem run_P_power_of {K : PySem.W.Frag} {cs : Cs} {vs : List V} {H : Hp} {Q : VK} {E : XK} {l : List Addr} (_ : Tx K cs.PolyError l) (_ : cs.NotWritten ∈ l) (h : sp_P_power_of K cs vs H Q E) : t_P_power_of K cs E { nx := fun _ H' => Q .non H', rt := Q } (start ["tail", "power"] vs) H := by
  obtain ⟨l, rfl, hl, h⟩ := h
  unfold powerN at h
  refine q_when (et_not (et_truthT (ev_var rfl) hl)) (fun hb H1 e1 => ?_) (fun hb H1 e1 => ?_)
  · have h0 : l = [] := by simpa using hb
    rw [if_pos h0] at h
    rcases h with ⟨h, _⟩ | ⟨n, h, q⟩
    · cases h
    · cases h
      exact s_ret ev_c fun H2 e2 => q H2 (e1.trans e2)
  have h0 : l ≠ [] := by simpa using hb
  rw [if_neg h0] at h
  refine q_when (et_or (et_not (et_B (ev_starts 94 (by decide +kernel) (ev_var rfl)))) fun _ => et_test (ev_gt (ev_lenS (ev_var rfl) hl) ev_c)) (fun hb H2 e2 => ?_) (fun hb H2 e2 => ?_)
  · rw [if_pos hb] at h
    rcases h with ⟨_, h⟩ | ⟨n, h, _⟩
    · exact h H2 (e1.trans e2)
    · cases h
  rw [hb, if_neg (by decide)] at h
  have e12 := e1.trans e2
  have hl3 : l.length ≤ 3 := by
    rw [Bool.or_eq_false_iff] at hb
    have := of_decide_eq_false hb.2
    omega
  have htl : l.tail.length ≤ 640 := by
    rw [List.length_tail]
    omega
  cases hw : wholeN l.tail with
  | none =>
    rw [hw, if_neg (by decide)] at h
    rcases h with ⟨_, h⟩ | ⟨n, h, _⟩
    · exact r_asg (er_whole (ea_cons (ev_tail (ev_var rfl) hl) ea_nil) htl hw fun H' e' => h H' (e12.trans e'))
    · cases h
  | some n =>
    rw [hw] at h
    refine q_asg (ev_whole (ea_cons (ev_tail (ev_var rfl) hl) ea_nil) htl hw) fun H3 e3 => ?_
    refine q_when (et_test (ev_eqI (ev_var rfl) ev_c)) (fun hb H4 e4 => ?_) (fun hb H4 e4 => ?_)
    · have hn : n = 1 := by
        have := of_decide_eq_true hb
        omega
      rw [if_pos (by rw [hn])] at h
      rcases h with ⟨_, h⟩ | ⟨n, h, _⟩
      · exact h H4 ((e12.trans e3).trans e4)
      · cases h
    · have hn : n ≠ 1 := by
        have := of_decide_eq_false hb
        omega
      rw [if_neg (by intro e; exact hn (Option.some.inj e))] at h
      rcases h with ⟨h, _⟩ | ⟨m, h, q⟩
      · cases h
      · cases h
        exact s_ret (ev_var rfl) fun H5 e5 => q H5 (((e12.trans e3).trans e4).trans e5)
theorem ev_power {K : PySem.W.Frag} {cs : Cs} {σ : L2.St} {H : Hp} {W : WX} {tt : TA} {l : List Nat} {n : Nat} (h : EvA tt σ H [.str (S l)]) (hl : l.length ≤ 90000) (hn : powerN l = some n) : Ev (tCallS (sp_P_power_of K cs) (WE W) tt) σ H (.int (n : Int)) := ev_callS h fun H1 e Q q => ⟨l, rfl, hl, .inr ⟨n, hn, q⟩⟩
theorem er_power {K : PySem.W.Frag} {cs : Cs} {σ : L2.St} {H : Hp} {W : WX} {tt : TA} {l : List Nat} (h : EvA tt σ H [.str (S l)]) (hl : l.length ≤ 90000) (hn : powerN l = none) (hW : ∀ H', Ex H H' → W (.ref cs.NotWritten) none σ H') : EvR (tCallS (sp_P_power_of K cs) (WE W) tt) σ H := er_callS h fun H1 e Q => ⟨l, rfl, hl, .inl ⟨hn, fun H' e' => hW H' (e.trans e')⟩⟩

-- USES: ReadX P_size_of P_power_of
-- EXC: NotWritten
def pairN : Option Nat → Option Nat → Option (Nat × Nat)
  | none, _ => none
  | some _, none => none
  | some n, some p => some (n, p)
/-- size and power of a term -/
def termN (l : List Nat) : Option (Nat × Nat) := match TL.par [120] [] l with
  | none => (wholeN l).map fun n => (n, 0)
  | some ab => pairN (sizeN ab.1) (powerN ab.2)
theorem termN_none {l : List Nat} (h : TL.par [120] [] l = none) : termN l = (wholeN l).map fun n => (n, 0) := by
  unfold termN
  rw [h]
theorem termN_some {l a b : List Nat} (h : TL.par [120] [] l = some (a, b)) : termN l = pairN (sizeN a) (powerN b) := by
  unfold termN
  rw [h]
def IntPr (n p : Nat) : V → Hp → Prop := fun v H => ∃ t, v = .ref t ∧ H t = some (.tup [.int (n : Int), .int (p : Int)])
def sp_P_size_and_power (K : PySem.W.Frag) (cs : Cs) : Sp := fun vs H Q E => ∃ l : List Nat, vs = [.str (S l)] ∧ l.length ≤ 640 ∧ ((termN l = none ∧ ∀ H', Ex H H' → E (.ref cs.NotWritten) none H') ∨ ∃ n p : Nat, termN l = some (n, p) ∧ RetP (IntPr n p) H Q)
def t_P_size_and_power (K : PySem.W.Frag) (cs : Cs) (E : XK) : TS :=
  (tSeq (tAsg (tBM K "str" rPartn (tVar 0) (tCons (tC (.str "x")) tNil)) (gTup K 3 (gCons (gName 1) (gCons (gName 2) (gCons (gName 3) gNil))))) (tSeq (tIfS (tNot (tTruth K (tVar 2))) (tRet (tTup (tCons (tCallS (sp_P_whole_number K cs) (WE (wOf E)) (tCons (tVar 1) tNil)) (tCons (tC (.int 0)) tNil)))) tNext) (tRet (tTup (tCons (tCallS (sp_P_size_of K cs) (WE (wOf E)) (tCons (tVar 1) tNil)) (tCons (tCallS (sp_P_power_of K cs) (WE (wOf E)) (tCons (tVar 3) tNil)) tNil))))))
theorem par_lens : ∀ (l acc a b : List Nat), TL.par [120] acc l = some (a, b) → a.length + b.length ≤ acc.length + l.length
  | [], acc, a, b, h => by cases h
  | c :: l, acc, a, b, h => by
    unfold TL.par at h
    split at h
    · cases h
      simp
    · have := par_lens l _ a b h
      simp at this ⊢
      omega
theorem q_part {K : PySem.W.Frag} {σ : L2.St} {H : Hp} {D : Ends} {tz : TS} {te : TE} {l x y z : List Nat} {s : Str} {c n1 n2 n3 : Nat} (hs : s = S [c]) (h : Ev te σ H (.str (S l))) (hl : l.length ≤ 90000) (hp : Txt.partition (S l) (S [c]) = (S x, S y, S z)) (k : ∀ H1, Ex H H1 → tz D (((σ.set n1 (some (.str (S x)))).set n2 (some (.str (S y)))).set n3 (some (.str (S z)))) H1) :
    tSeq (tAsg (tBM K "str" rPartn te (tCons (tC (.str s)) tNil)) (gTup K 3 (gCons (gName n1) (gCons (gName n2) (gCons (gName n3) gNil))))) tz D σ H := h H (Ex.refl H) _ fun H1 e1 => ⟨ty_S, ⟨S l, s, rfl, rfl, by rw [hs]; rfl, sz_of (by rw [S_length]; omega), fun p np => by
  rw [hs, hp]
  exact ⟨p, _, rfl, .inl (.inl upd_same), rfl, _, _, rfl, _, _, rfl, _, _, rfl, rfl, k _ (e1.trans (Ex.new np))⟩⟩⟩
theorem run_P_size_and_power {K : PySem.W.Frag} {cs : Cs} {vs : List V} {H : Hp} {Q : VK} {E : XK} {l : List Addr} (_ : Tx K cs.PolyError l) (_ : cs.NotWritten ∈ l) (h : sp_P_size_and_power K cs vs H Q E) : t_P_size_and_power K cs E { nx := fun _ H' => Q .non H', rt := Q } (start ["term", "figures", "letter", "tail"] vs) H := by
  obtain ⟨l, rfl, hl, h⟩ := h
  cases hp : TL.par [120] [] l with
  | none =>
    rw [termN_none hp] at h
    refine q_part (c := 120) (by decide +kernel) (ev_var rfl) (by omega) (SX.partition_none (by simp) hp) fun H1 e1 => ?_
    refine q_when (b := true) (et_is (et_not (et_truthT (l := []) (ev_var rfl) (by decide))) rfl) (fun _ H2 e2 => ?_) (fun hb => nomatch hb)
    have e12 := e1.trans e2
    rcases h with ⟨hn, h⟩ | ⟨n, p, hn, q⟩
    · have hw : wholeN l = none := by simpa using hn
      exact r_ret (er_tup1 (er_whole (ea_cons (ev_var rfl) ea_nil) hl hw fun H' e' => h H' (e12.trans e')))
    · cases hw : wholeN l with
      | none => rw [hw] at hn; cases hn
      | some m =>
        rw [hw] at hn
        cases hn
        refine s_retP (evp_tup2 (ev_whole (ea_cons (ev_var rfl) ea_nil) hl hw) ev_c) fun v H3 e3 hv => ?_
        obtain ⟨t, rfl, ht⟩ := hv
        exact q _ H3 (e12.trans e3) ⟨t, rfl, ht⟩
  | some ab =>
    obtain ⟨a, b⟩ := ab
    rw [termN_some hp] at h
    have hlen := par_lens l [] a b hp
    simp only [List.length_nil, Nat.zero_add] at hlen
    refine q_part (c := 120) (by decide +kernel) (ev_var rfl) (by omega) (SX.partition_some (by simp) hp) fun H1 e1 => ?_
    refine q_when (b := false) (et_is (et_not (et_truthT (l := [120]) (ev_var rfl) (by decide))) rfl) (fun hb => nomatch hb) (fun _ H2 e2 => ?_)
    have e12 := e1.trans e2
    cases hs : sizeN a with
    | none =>
      rw [hs] at h
      rcases h with ⟨_, h⟩ | ⟨n, p, hn, _⟩
      · exact r_ret (er_tup1 (er_size (ea_cons (ev_var rfl) ea_nil) (by omega) hs fun H' e' => h H' (e12.trans e')))
      · cases hn
    | some n =>
      rw [hs] at h
      cases hw : powerN b with
      | none =>
        rw [hw] at h
        rcases h with ⟨_, h⟩ | ⟨n, p, hn, _⟩
        · exact r_ret (er_tup2 (ev_size (ea_cons (ev_var rfl) ea_nil) (by omega) hs) (er_power (ea_cons (ev_var rfl) ea_nil) (by omega) hw fun H' e' => h H' (e12.trans e')))
        · cases hn
      | some p =>
        rw [hw] at h
        rcases h with ⟨h, _⟩ | ⟨n', p', hn, q⟩
        · cases h
        · cases hn
          refine s_retP (evp_tup2 (ev_size (ea_cons (ev_var rfl) ea_nil) (by omega) hs) (ev_power (ea_cons (ev_var rfl) ea_nil) (by omega) hw)) fun v H3 e3 hv => ?_
          obtain ⟨t, rfl, ht⟩ := hv
          exact q _ H3 (e12.trans e3) ⟨t, rfl, ht⟩

-- USES: ReadX
/-! _signs_and_terms -/
def wordsN (l : List Nat) : List (List Nat) := if l.head? = some 45 then [45] :: TL.spl [32] 0 [] l.tail else [43] :: TL.spl [32] 0 [] l
def strV (ws : List (List Nat)) : List V := ws.map fun w => V.str (S w)
theorem spl_len (l : List Nat) : (TL.spl [32] 0 [] l).length ≤ l.length + 2 := by
  have h := PyProof.Rows.split_le (S l) (S [32])
  rw [SX.split_S (by simp) (by decide), List.length_map, S_length] at h
  exact h
theorem wordsN_len (l : List Nat) : (wordsN l).length ≤ l.length + 3 := by
  unfold wordsN
  have h1 := spl_len l
  have h2 := spl_len l.tail
  have h3 : l.tail.length ≤ l.length := by rw [List.length_tail]; omega
  split <;> rw [List.length_cons] <;> omega
theorem el_split {K : PySem.W.Frag} {σ : L2.St} {H : Hp} {te : TE} {l : List Nat} {s : Str} (hs : s = S [32]) (h : Ev te σ H (.str (S l))) (hl : l.length ≤ 90000) : EvL (tBM K "str" rSplit te (tCons (tC (.str s)) tNil)) σ H (strV (TL.spl [32] 0 [] l)) := fun H1 e Q q => h H1 e _ fun H2 e2 => ⟨ty_S, ⟨S l, s, rfl, rfl, by rw [hs]; rfl, sz_of (by rw [S_length]; omega), fun p np => by
  have e0 : (Txt.split (S l) s).map V.str = strV (TL.spl [32] 0 [] l) := by
    rw [hs, SX.split_S (by simp) (by decide), List.map_map]
    rfl
  rw [e0]
  exact q p _ (fresh_back e2 np) (e2.trans (Ex.new np)) upd_same⟩⟩
def sp_P_signs_and_terms (K : PySem.W.Frag) : Sp := fun vs H Q _ => ∃ l : List Nat, vs = [.str (S l)] ∧ l.length ≤ 80000 ∧ RetL (strV (wordsN l)) H Q
def t_P_signs_and_terms (K : PySem.W.Frag) : TS :=
  (tSeq (tIfS (tB (tBM K "str" rStarts (tVar 0) (tCons (tC (.str "-")) tNil))) (tRet (tOp rCat (tLst (tCons (tC (.str "-")) tNil)) (tBM K "str" rSplit (tSl rSlS (tVar 0) (tPart (tC (.int 1))) tNoPart) (tCons (tC (.str " ")) tNil)))) tNext) (tRet (tOp rCat (tLst (tCons (tC (.str "+")) tNil)) (tBM K "str" rSplit (tVar 0) (tCons (tC (.str " ")) tNil)))))
theorem run_P_signs_and_terms {K : PySem.W.Frag} {vs : List V} {H : Hp} {Q : VK} {E : XK} (h : sp_P_signs_and_terms K vs H Q E) : t_P_signs_and_terms K { nx := fun _ H' => Q .non H', rt := Q } (start ["line"] vs) H := by
  obtain ⟨l, rfl, hl, q⟩ := h
  unfold wordsN at q
  have h1 := spl_len l
  have h2 := spl_len l.tail
  have h3 : l.tail.length ≤ l.length := by rw [List.length_tail]; omega
  refine q_when (et_B (ev_starts 45 (by decide +kernel) (ev_var rfl))) (fun hb H1 e1 => ?_) (fun hb H1 e1 => ?_)
  · rw [if_pos (of_decide_eq_true hb)] at q
    refine s_retL (el_cat (xs := [.str (S [45])]) (el_lst (ea_cons (ev_cS (by decide +kernel)) ea_nil) (by simp)) (el_split (by decide +kernel) (ev_tail (ev_var rfl) (by omega)) (by omega)) (by unfold strV; rw [List.length_map]; show 1 + _ ≤ _; omega)) fun p H2 np e2 hp => q p H2 (fresh_back e1 np) (e1.trans e2) hp
  · rw [if_neg (of_decide_eq_false hb)] at q
    refine s_retL (el_cat (xs := [.str (S [43])]) (el_lst (ea_cons (ev_cS (by decide +kernel)) ea_nil) (by simp)) (el_split (by decide +kernel) (ev_var rfl) (by omega)) (by unfold strV; rw [List.length_map]; show 1 + _ ≤ _; omega)) fun p H2 np e2 hp => q p H2 (fresh_back e1 np) (e1.trans e2) hp
theorem sl_P_signs_and_terms {K : PySem.W.Frag} {H : Hp} {l : List Nat} (hl : l.length ≤ 80000) : SpL (sp_P_signs_and_terms K) [.str (S l)] H (strV (wordsN l)) := fun H1 e Q q E => ⟨l, rfl, hl, q⟩

-- USES: Lists ReadX P_size_and_power P_signs_and_terms
-- EXC: NotWritten
/-! read -/
def stepN (st : List Int × Nat) (sg t : List Nat) : Option (List Int × Nat) := match termN t with
  | none => none
  | some np => if (!(decide (sg = [43]) || decide (sg = [45])) || decide (st.2 ≤ np.2)) = true then none else some ((if st.1 = [] then List.replicate (np.2 + 1) 0 else st.1).set np.2 (if sg = [45] then -(np.1 : Int) else (np.1 : Int)), np.2)
def runN : List (List Nat × List Nat) → List Int × Nat → Option (List Int × Nat)
  | [], st => some st
  | w :: r, st => match stepN st w.1 w.2 with
    | none => none
    | some st' => runN r st'
def prN (ws : List (List Nat)) : List (List Nat × List Nat) := (evn ws).zip (evn (ws.drop 1))
def readN (l : List Nat) : Option (List Int) := if l = [48] then some [] else if (wordsN l).length % 2 = 1 then none else (runN (prN (wordsN l)) ([], 100)).map fun st => st.1
theorem evn_map (f : α → β) : ∀ l : List α, evn (l.map f) = (evn l).map f
  | [] => rfl
  | [a] => rfl
  | a :: b :: r => by
    show f a :: evn (r.map f) = f a :: (evn r).map f
    rw [evn_map f r]
theorem evn_mem : ∀ {l : List α} {x : α}, x ∈ evn l → x ∈ l
  | [], _, h => h
  | [a], _, h => h
  | a :: b :: r, x, h => by
    rcases List.mem_cons.mp h with e | h
    · rw [e]
      exact List.mem_cons_self
    · exact List.mem_cons_of_mem _ (List.mem_cons_of_mem _ (evn_mem h))
def sp_P_read (K : PySem.W.Frag) (cs : Cs) : Sp := fun vs H Q E => ∃ l : List Nat, vs = [.str (S l)] ∧ l.length ≤ 80000 ∧ (∀ w ∈ wordsN l, w.length ≤ 640) ∧ ((readN l = none ∧ ∀ H', Ex H H' → E (.ref cs.NotWritten) none H') ∨ ∃ ns, readN l = some ns ∧ RetL (ns.map V.int) H Q)
def t_P_read (K : PySem.W.Frag) (cs : Cs) (E : XK) : TS :=
  (tSeq (tIfS (tTest (tOp rEq (tVar 0) (tC (.str "0")))) (tRet (tLst tNil)) tNext) (tSeq (tAsg (tCall (sp_P_signs_and_terms K) [] E0 (tCons (tVar 0) tNil)) (gName 1)) (tSeq (tIfS (tTruth K (tOp oOdd (tCB (rLenS K) (tCons (tVar 1) tNil)) (tC (.int 1)))) (tRaiseC cs.NotWritten (wOf E)) tNext) (tSeq (tAsg (tLst tNil) (gName 2)) (tSeq (tAsg (tOp oAdd (tC (.int 99)) (tC (.int 1))) (gName 3)) (tSeq (tFor (RZ.iZipA K (tCons (tStepL K 0 (tVar 1)) (tCons (tStepL K 1 (tVar 1)) tNil))) (gTup K 2 (gCons (gName 4) (gCons (gName 5) gNil))) (tSeq (tAsg (tCallS (sp_P_size_and_power K cs) (WE (wOf E)) (tCons (tVar 5) tNil)) (gTup K 2 (gCons (gName 6) (gCons (gName 7) gNil)))) (tSeq (tIfS (tOr (tTest (tOp (rIn K true) (tVar 4) (tTup (tCons (tC (.str "+")) (tCons (tC (.str "-")) tNil))))) (tTest (tOp oGe (tVar 7) (tVar 3)))) (tRaiseC cs.NotWritten (wOf E)) tNext) (tSeq (tAsg (tVar 7) (gName 3)) (tSeq (tIfS (tNot (tTruth K (tVar 2))) (tAsg (tOp rRep (tLst (tCons (tC (.int 0)) tNil)) (tOp oAdd (tVar 7) (tC (.int 1)))) (gName 2)) tNext) (tAsg (tIf (tTest (tOp rEq (tVar 4) (tC (.str "-")))) (tUn uNeg (tVar 6)) (tVar 6)) (gSub (tVar 2) (tVar 7) rSetL))))))) (tRet (tVar 2))))))))
theorem q_zip {K : PySem.W.Frag} {σ : L2.St} {H : Hp} {D : Ends} {tu tz : TS} {t1 t2 : TE} {xs ys : List V} {n1 n2 : Nat} (h1 : EvL t1 σ H xs) (h2 : ∀ H1, Ex H H1 → EvL t2 σ H1 ys) (hl : xs.length = ys.length) (Pv : Hp → Nat → L2.St → Hp → Prop) (h0 : ∀ H1, Ex H H1 → Pv H1 0 σ H1) (hq : ∀ H1 i σ' H', Pv H1 i σ' H' → Ex H1 H')
    (hs : ∀ H1, Ex H H1 → ∀ (i : Nat) (x y : V) (T : Addr) (σ' : L2.St) (H' : Hp), xs[i]? = some x → ys[i]? = some y → Pv H1 i σ' H' → H' T = none → tu { D with nx := Pv H1 (i + 1), ct := Pv H1 (i + 1), bk := tz D } ((σ'.set n1 (some x)).set n2 (some y)) (upd H' T (.tup [x, y]))) (hd : ∀ H1, Ex H H1 → ∀ σ' H', Pv H1 xs.length σ' H' → tz D σ' H') :
    tSeq (tFor (RZ.iZipA K (tCons t1 (tCons t2 tNil))) (gTup K 2 (gCons (gName n1) (gCons (gName n2) gNil))) tu) tz D σ H := h1 H (Ex.refl H) _ fun a H1 na e1 ha => h2 H1 e1 H1 (Ex.refl H1) _ fun b H2 nb e2 hb =>
  ⟨a, b, xs, ys, rfl, .inl ⟨sq_of (e2 _ _ ha), sq_of hb, RZ.for_zipL (D := { D with nx := tz D }) hl (Pv H2) (h0 H2 (e1.trans e2)) (fun i σ' H' hP => ⟨sq_of ((hq H2 i σ' H' hP) _ _ (e2 _ _ ha)), sq_of ((hq H2 i σ' H' hP) _ _ hb)⟩) (fun i x y T σ' H' hx hy hP nT => ⟨T, _, rfl, .inl (.inl upd_same), rfl, x, _, rfl, y, _, rfl, rfl, hs H2 (e1.trans e2) i x y T σ' H' hx hy hP nT⟩) (hd H2 (e1.trans e2))⟩⟩
theorem el_step {K : PySem.W.Frag} {σ : L2.St} {H : Hp} {te : TE} {c : Nat} {a : Addr} {xs : List V} (h : Ev te σ H (.ref a)) (ha : H a = some (.lst xs)) : EvL (tStepL K c te) σ H (evn (xs.drop c)) := fun H1 e Q q => h H1 e _ fun H2 e2 => ⟨a, xs, rfl, sq_of ((e.trans e2) _ _ ha), fun p np => q p _ (fresh_back e2 np) (e2.trans (Ex.new np)) upd_same⟩
theorem sg_in (sg : List Nat) : inV (.str (S sg)) [.str (S [43]), .str (S [45])] = (decide (sg = [43]) || decide (sg = [45])) := by
  show (S [43] == S sg || (S [45] == S sg || false)) = _
  rw [SX.S_beq_eq, SX.S_beq_eq, Bool.or_false, show decide ([43] = sg) = decide (sg = [43]) from decide_eq_decide.mpr eq_comm, show decide ([45] = sg) = decide (sg = [45]) from decide_eq_decide.mpr eq_comm]
theorem runN_drop {ps : List (List Nat × List Nat)} {i : Nat} {st : List Int × Nat} {w : List Nat × List Nat} (h : ps[i]? = some w) : runN (ps.drop i) st = match stepN st w.1 w.2 with
    | none => none
    | some st' => runN (ps.drop (i + 1)) st' := by
  obtain ⟨hi, e⟩ := List.getElem?_eq_some_iff.mp h
  rw [List.drop_eq_getElem_cons hi, e]
  rfl
theorem stepN_term {st : List Int × Nat} {sg t : List Nat} {n p : Nat} (h : termN t = some (n, p)) : stepN st sg t = if (!(decide (sg = [43]) || decide (sg = [45])) || decide (st.2 ≤ p)) = true then none else some ((if st.1 = [] then List.replicate (p + 1) 0 else st.1).set p (if sg = [45] then -(n : Int) else (n : Int)), p) := by
  unfold stepN
  rw [h]
theorem stepN_no {st : List Int × Nat} {sg t : List Nat} (h : termN t = none) : stepN st sg t = none := by
  unfold stepN
  rw [h]
theorem run_P_read {K : PySem.W.Frag} {cs : Cs} {vs : List V} {H : Hp} {Q : VK} {E : XK} {l : List Addr} (_ : Tx K cs.PolyError l) (_ : cs.NotWritten ∈ l) (h : sp_P_read K cs vs H Q E) : t_P_read K cs E { nx := fun _ H' => Q .non H', rt := Q } (start ["line", "words", "row", "lowest", "sign", "term", "size", "power"] vs) H := by
  obtain ⟨l, rfl, hl, hw, h⟩ := h
  unfold readN at h
  refine q_when (et_test (ev_eqT (ev_var rfl) (ev_cS (l := [48]) (by decide +kernel)))) (fun hb H1 e1 => ?_) (fun hb H1 e1 => ?_)
  · rw [if_pos (of_decide_eq_true hb)] at h
    rcases h with ⟨h, _⟩ | ⟨ns, h, q⟩
    · cases h
    · cases h
      exact s_retL (el_lst ea_nil (by simp)) fun p H2 np e2 hp => q p H2 (fresh_back e1 np) (e1.trans e2) hp
  rw [if_neg (of_decide_eq_false hb)] at h
  have wl := wordsN_len l
  refine q_asgL (el_call (ea_cons (ev_var rfl) ea_nil) (sl_P_signs_and_terms hl)) fun wa H2 nwa e2 hwa => ?_
  generalize wordsN l = ws at *
  have e12 := e1.trans e2
  have sl : (strV ws).length = ws.length := by
    unfold strV
    rw [List.length_map]
  have hodd : EvT (tTruth K (tOp oOdd (tCB (rLenS K) (tCons (tVar 1) tNil)) (tC (.int 1)))) ([some (.str (S l)), some (.ref wa), none, none, none, none, none, none] : L2.St) H2 (decide (ws.length % 2 = 1)) := by
    have h1 : EvT (tTruth K (tOp oOdd (tCB (rLenS K) (tCons (tVar 1) tNil)) (tC (.int 1)))) ([some (.str (S l)), some (.ref wa), none, none, none, none, none, none] : L2.St) H2 (((ws.length % 2 : Nat) : Int) != 0) := et_truthI (ev_odd (n := ws.length) (ev_is (ev_len (ev_var rfl) (sq_of (K := K) hwa)) (by rw [sl])))
    have e : (((ws.length % 2 : Nat) : Int) != 0) = decide (ws.length % 2 = 1) := by
      rcases Nat.mod_two_eq_zero_or_one ws.length with h | h
      · rw [h]; rfl
      · rw [h]; rfl
    rw [e] at h1
    exact h1
  refine q_when hodd (fun hb H3 e3 => ?_) (fun hb H3 e3 => ?_)
  · rw [if_pos (of_decide_eq_true hb)] at h
    rcases h with ⟨_, h⟩ | ⟨ns, h, _⟩
    · exact h H3 (e12.trans e3)
    · cases h
  have hev := of_decide_eq_false hb
  rw [if_neg hev] at h
  refine q_asgL (el_lst ea_nil (by simp)) fun r0 H4 nr0 e4 hr0 => ?_
  refine q_asg (v := .int ((100 : Nat) : Int)) (ev_is (ev_add ev_c ev_c) (by rfl)) fun H5 e5 => ?_
  have e13 := e12.trans e3
  have e15 := (e13.trans e4).trans e5
  have hwa5 := ((e3.trans e4).trans e5) _ _ hwa
  have hr5 := e5 _ _ hr0
  have nr0H := fresh_back e13 nr0
  refine st_is [some (.str (S l)), some (.ref wa), some (.ref r0), some (.int ((100 : Nat) : Int)), none, none, none, none] rfl ?_
  have hev0 : evn ((strV ws).drop 0) = strV (evn ws) := by
    rw [List.drop_zero]
    unfold strV
    exact evn_map _ ws
  have hev1 : evn ((strV ws).drop 1) = strV (evn (ws.drop 1)) := by
    unfold strV
    rw [← List.map_drop]
    exact evn_map _ _
  have le : (evn ws).length = (evn (ws.drop 1)).length := by
    rw [evn_len, evn_len, List.length_drop]
    omega
  have pl : (prN ws).length = (evn ws).length := by
    unfold prN
    rw [List.length_zip, ← le, Nat.min_self]
  have hat : ∀ (i : Nat) (x y : V), (strV (evn ws))[i]? = some x → (strV (evn (ws.drop 1)))[i]? = some y → ∃ sg t, (prN ws)[i]? = some (sg, t) ∧ x = .str (S sg) ∧ y = .str (S t) ∧ t.length ≤ 640 := fun i x y hx hy => by
    unfold strV at hx hy
    rw [List.getElem?_map] at hx hy
    cases h1 : (evn ws)[i]? with
    | none => rw [h1] at hx; cases hx
    | some sg =>
      cases h2 : (evn (ws.drop 1))[i]? with
      | none => rw [h2] at hy; cases hy
      | some t =>
        rw [h1] at hx
        rw [h2] at hy
        refine ⟨sg, t, ?_, (Option.some.inj hx).symm, (Option.some.inj hy).symm, hw t (List.mem_of_mem_drop (evn_mem (List.mem_of_getElem? h2)))⟩
        unfold prN
        rw [List.getElem?_zip_eq_some]
        exact ⟨h1, h2⟩
  generalize prN ws = ps at *
  have lz : (strV (evn ws)).length = ps.length := by
    unfold strV
    rw [List.length_map, pl]
  have z0 : EvL (tStepL K 0 (tVar 1)) ([some (.str (S l)), some (.ref wa), some (.ref r0), some (.int ((100 : Nat) : Int)), none, none, none, none] : L2.St) H5 (strV (evn ws)) := by
    rw [← hev0]
    exact el_step (ev_var rfl) hwa5
  have z1 : ∀ H6, Ex H5 H6 → EvL (tStepL K 1 (tVar 1)) ([some (.str (S l)), some (.ref wa), some (.ref r0), some (.int ((100 : Nat) : Int)), none, none, none, none] : L2.St) H6 (strV (evn (ws.drop 1))) := fun H6 e6 => by
    rw [← hev1]
    exact el_step (ev_var rfl) (e6 _ _ hwa5)
  refine q_zip z0 z1 (by unfold strV; rw [List.length_map, List.length_map]; exact le) (fun H7 i σ' H' => ∃ (y4 y5 y6 y7 : Option V) (r : Addr) (row : List Int) (low : Nat), σ' = [some (.str (S l)), some (.ref wa), some (.ref r), some (.int (low : Int)), y4, y5, y6, y7] ∧ Ex H7 H' ∧ H' r = some (.lst (row.map V.int)) ∧ H r = none ∧ (row = [] ∨ H7 r = none) ∧ (row = [] ∨ low < row.length) ∧ low ≤ 100 ∧ row.length ≤ 200 ∧ runN (ps.drop i) (row, low) = runN ps ([], 100))
    (fun H7 e7 => ⟨none, none, none, none, r0, [], 100, rfl, Ex.refl H7, e7 _ _ hr5, nr0H, .inl rfl, .inl rfl, Nat.le_refl _, by simp, by rw [List.drop_zero]⟩) (fun H7 i σ' H' hP => ?_) (fun H7 e7 i x y T σ' H8 hx hy hP nT => ?_) (fun H7 e7 σ' H8 hP => ?_)
  · obtain ⟨_, _, _, _, _, _, _, _, e8, _⟩ := hP
    exact e8
  · obtain ⟨y4, y5, y6, y7, r, row, low, rfl, e8, hr, nrH, nr7, hlow, l100, rl, hrun⟩ := hP
    obtain ⟨sg, t, hpi, rfl, rfl, ht⟩ := hat i x y hx hy
    have e16 := e15.trans e7
    have eT : Ex H8 (upd H8 T (.tup [.str (S sg), .str (S t)])) := Ex.new nT
    generalize upd H8 T (.tup [.str (S sg), .str (S t)]) = H9 at *
    refine st_is [some (.str (S l)), some (.ref wa), some (.ref r), some (.int (low : Int)), some (.str (S sg)), some (.str (S t)), y6, y7] rfl ?_
    rw [runN_drop hpi] at hrun
    have e79 := e8.trans eT
    have e19 := e16.trans e79
    cases hterm : termN t with
    | none =>
      rw [stepN_no hterm] at hrun
      rw [← hrun] at h
      rcases h with ⟨_, h⟩ | ⟨ns, h, _⟩
      · exact r_asg (er_callS (ea_cons (ev_var rfl) ea_nil) fun H10 e10 Q10 => ⟨t, rfl, ht, .inl ⟨hterm, fun H' e' => h H' ((e19.trans e10).trans e')⟩⟩)
      · cases h
    | some np =>
      obtain ⟨n, p⟩ := np
      rw [stepN_term hterm] at hrun
      have hcall : EvP (tCallS (sp_P_size_and_power K cs) (WE (wOf E)) (tCons (tVar 5) tNil)) ([some (.str (S l)), some (.ref wa), some (.ref r), some (.int (low : Int)), some (.str (S sg)), some (.str (S t)), y6, y7] : L2.St) H9 (IntPr n p) := fun H10 e10 Q10 q10 => (ea_cons (ev_var rfl) ea_nil : EvA (tCons (tVar 5) tNil) _ H9 [.str (S t)]) H10 e10 _ fun H11 e11 => ⟨t, rfl, ht, .inr ⟨n, p, hterm, fun v H12 e12 hv => q10 v H12 (e11.trans e12) hv⟩⟩
      refine hcall H9 (Ex.refl H9) _ fun v H10 e10 hv => ?_
      obtain ⟨tt, rfl, htt⟩ := hv
      refine ⟨tt, _, rfl, .inl (.inl htt), rfl, _, _, rfl, _, _, rfl, rfl, ?_⟩
      refine st_is [some (.str (S l)), some (.ref wa), some (.ref r), some (.int (low : Int)), some (.str (S sg)), some (.str (S t)), some (.int (n : Int)), some (.int (p : Int))] rfl ?_
      have hsg : Ev (tOp (rIn K true) (tVar 4) (tTup (tCons (tC (.str "+")) (tCons (tC (.str "-")) tNil)))) ([some (.str (S l)), some (.ref wa), some (.ref r), some (.int (low : Int)), some (.str (S sg)), some (.str (S t)), some (.int (n : Int)), some (.int (p : Int))] : L2.St) H10 (.bl (!(decide (sg = [43]) || decide (sg = [45])))) := by
        rw [← sg_in sg]
        exact ev_niU (ev_var rfl) (eu_tup (ea_cons (ev_cS (l := [43]) (by decide +kernel)) (ea_cons (ev_cS (l := [45]) (by decide +kernel)) ea_nil)) (by simp)) rfl rfl
      refine q_when (et_is (et_or (et_test hsg) fun _ => et_test (ev_ge (ev_var rfl) (ev_var rfl))) (b := (!(decide (sg = [43]) || decide (sg = [45])) || decide (low ≤ p))) (by
        congr 1
        exact decide_eq_decide.mpr (by omega))) (fun hb H11 e11 => ?_) (fun hb H11 e11 => ?_)
      · rw [if_pos hb] at hrun
        rw [← hrun] at h
        rcases h with ⟨_, h⟩ | ⟨ns, h, _⟩
        · exact h H11 ((e19.trans e10).trans e11)
        · cases h
      rw [if_neg (by rw [hb]; decide)] at hrun
      have hplow : p < low := by
        rw [Bool.or_eq_false_iff] at hb
        have := of_decide_eq_false hb.2
        omega
      refine q_asg (ev_var rfl) fun H12 e12 => ?_
      refine st_is [some (.str (S l)), some (.ref wa), some (.ref r), some (.int (p : Int)), some (.str (S sg)), some (.str (S t)), some (.int (n : Int)), some (.int (p : Int))] rfl ?_
      have e912 := (e10.trans e11).trans e12
      have hr12 := (eT.trans e912) _ _ hr
      have e712 := e79.trans e912
      refine q_whenAsg (P := fun v H' => ∃ r2, v = .ref r2 ∧ H' r2 = some (.lst ((if row = [] then List.replicate (p + 1) 0 else row).map V.int)) ∧ H r2 = none ∧ H7 r2 = none) (et_not (et_truthL (ev_var rfl) (sq_of (K := K) hr12))) (fun hb => ?_) (fun hb => ?_) fun v H13 e13' hv => ?_
      · have h0 : row = [] := by simpa using hb
        refine (evp_lf (el_rep (k := p + 1) (el_lst (ea_cons ev_c ea_nil) (by simp)) (ev_add (ev_var rfl) ev_c) (by omega) (by omega))).imp fun v H' hv => ?_
        obtain ⟨r2, rfl, nr2, hr2⟩ := hv
        refine ⟨r2, rfl, ?_, fresh_back (e16.trans e712) nr2, fresh_back e712 nr2⟩
        rw [if_pos h0, List.map_replicate]
        exact hr2
      · have h0 : row ≠ [] := by simpa using hb
        refine ⟨.ref r, rfl, fun H' e' => ⟨r, rfl, ?_, nrH, nr7.resolve_left h0⟩⟩
        rw [if_neg h0]
        exact e' _ _ hr12
      obtain ⟨r2, rfl, hr2, nr2H, nr27⟩ := hv
      refine st_is [some (.str (S l)), some (.ref wa), some (.ref r2), some (.int (p : Int)), some (.str (S sg)), some (.str (S t)), some (.int (n : Int)), some (.int (p : Int))] rfl ?_
      have hlen : p < (if row = [] then List.replicate (p + 1) (0 : Int) else row).length ∧ (if row = [] then List.replicate (p + 1) (0 : Int) else row).length ≤ 200 := by
        split
        · rw [List.length_replicate]
          omega
        · rename_i h0
          have := hlow.resolve_left h0
          omega
      generalize (if row = [] then List.replicate (p + 1) (0 : Int) else row) = row2 at hr2 hlen hrun
      refine s_setL (j := p) hr2 (v := .int (if sg = [45] then -(n : Int) else (n : Int))) (ev_if (et_test (ev_eqT (ev_var rfl) (ev_cS (l := [45]) (by decide +kernel)))) (fun hb => ?_) (fun hb => ?_)) (ev_var rfl) (ev_var rfl) (by rw [List.length_map]; exact hlen.1) fun H14 e14 => ?_
      · rw [if_pos (of_decide_eq_true hb)]
        exact ev_neg (ev_var rfl)
      · rw [if_neg (of_decide_eq_false hb)]
        exact ev_var rfl
      refine ⟨some (.str (S sg)), some (.str (S t)), some (.int (n : Int)), some (.int (p : Int)), r2, row2.set p (if sg = [45] then -(n : Int) else (n : Int)), p, rfl, Ex.mut ((e712.trans e13').trans e14) nr27, ?_, nr2H, .inr nr27, .inr (by rw [List.length_set]; exact hlen.1), by omega, by rw [List.length_set]; exact hlen.2, hrun⟩
      rw [List.map_set]
      exact upd_same
  · obtain ⟨y4, y5, y6, y7, r, row, low, rfl, e8, hr, nrH, nr7, hlow, l100, rl, hrun⟩ := hP
    have e16 := e15.trans e7
    rw [lz, List.drop_length] at hrun
    rw [← hrun] at h
    rcases h with ⟨h, _⟩ | ⟨ns, h, q⟩
    · cases h
    · cases h
      exact s_ret (ev_var rfl) fun H9 e9 => q r H9 nrH ((e16.trans e8).trans e9) (e9 _ _ hr)

/-! _law_whole: of an int, True -/
def sp_L_whole (K : PySem.W.Frag) : Sp := fun vs H Q _ => ∃ i : Int, vs = [.int i] ∧ RetV (.bl true) H Q
def t_L_whole (K : PySem.W.Frag) : TS :=
  (tRet (tAndV (tCB (rIsi K) (tCons (tVar 0) (tCons (tC (.ty "int")) tNil))) (tNotV (tCB (rIsi K) (tCons (tVar 0) (tCons (tC (.ty "bool")) tNil))))))
theorem run_L_whole {K : PySem.W.Frag} {vs : List V} {H : Hp} {Q : VK} {E : XK} (h : sp_L_whole K vs H Q E) : t_L_whole K { nx := fun _ H' => Q .non H', rt := Q } (start ["_law_found"] vs) H := by
  obtain ⟨i, rfl, q⟩ := h
  refine s_ret (v := .bl true) (ev_is (ev_andV (a := true) (b := true) ?_ fun _ => ?_) rfl) q
  · exact ev_isinst (ev_var rfl) ty_int (by decide +kernel)
  · exact ev_is (ev_notV (a := false) (ev_isinst (ev_var rfl) ty_int (by decide +kernel))) rfl
theorem sv_L_whole {K : PySem.W.Frag} {H : Hp} (i : Int) : SpV (sp_L_whole K) [.int i] H (.bl true) := fun H1 e Q q E => ⟨i, rfl, q⟩

/-! _law_cell_at -/
def sp_L_cell_at (K : PySem.W.Frag) : Sp := fun vs H Q _ => ∃ (a : Addr) (ns : List Int) (j : Nat), vs = [.ref a, .int (j : Int)] ∧ SqL K H a (ns.map V.int) ∧ RetV (.int (cellI ns j)) H Q
def t_L_cell_at (K : PySem.W.Frag) : TS :=
  (tSeq (tIfS (tTest (tOp oLt (tVar 1) (tCB (rLenS K) (tCons (tVar 0) tNil)))) (tRet (tOp (rIxL K) (tVar 0) (tVar 1))) tNext) (tRet (tC (.int 0))))
theorem run_L_cell_at {K : PySem.W.Frag} {vs : List V} {H : Hp} {Q : VK} {E : XK} (h : sp_L_cell_at K vs H Q E) : t_L_cell_at K { nx := fun _ H' => Q .non H', rt := Q } (start ["_law_script", "_law_k"] vs) H := by
  obtain ⟨a, ns, j, rfl, hS, q⟩ := h
  refine q_when (et_test (ev_lt (ev_var rfl) (ev_len (ev_var rfl) hS))) (fun hb H1 e1 => ?_) (fun hb H1 e1 => ?_)
  · have hj : j < ns.length := by
      have := of_decide_eq_true hb
      rw [List.length_map] at this
      omega
    exact s_ret (ev_ixI (ev_var rfl) (ev_var rfl) (ex_l e1 hS) rfl hj) fun H2 e2 => q H2 (e1.trans e2)
  · have hj : ¬ j < ns.length := fun hj => by
      have := of_decide_eq_false hb
      rw [List.length_map] at this
      omega
    refine s_ret ev_c fun H2 e2 => ?_
    have e : cellI ns j = 0 := by
      unfold cellI
      rw [List.getD_eq_getElem?_getD, List.getElem?_eq_none (by omega)]
      rfl
    rw [e] at q
    exact q H2 (e1.trans e2)
theorem sv_L_cell_at {K : PySem.W.Frag} {H : Hp} {a : Addr} {ns : List Int} {i : Int} (j : Nat) (hS : SqL K H a (ns.map V.int)) (hi : i = (j : Int)) : SpV (sp_L_cell_at K) [.ref a, .int i] H (.int (cellI ns j)) := fun H1 e Q q E =>
  ⟨a, ns, j, by rw [hi], ex_l e hS, q⟩

/-! _law_trim -/
def sp_L_trim (K : PySem.W.Frag) : Sp := fun vs H Q _ => ∃ (a : Addr) (ns : List Int), vs = [.ref a] ∧ SqL K H a (ns.map V.int) ∧ RetL ((trimI ns).map V.int) H Q
def t_L_trim (K : PySem.W.Frag) : TS :=
  (tSeq (tAsg (tCB (rLenS K) (tCons (tVar 0) tNil)) (gName 1)) (tSeq (tWhile (tAnd (tTest (tOp oGt (tVar 1) (tC (.int 0)))) (tTest (tOp rEq (tOp (rIxL K) (tVar 0) (tOp oSub (tVar 1) (tC (.int 1)))) (tC (.int 0))))) (tAsg (tOp oSub (tVar 1) (tC (.int 1))) (gName 1))) (tRet (tSl (rSlL K) (tVar 0) tNoPart (tPart (tVar 1))))))
theorem run_L_trim {K : PySem.W.Frag} {vs : List V} {H : Hp} {Q : VK} {E : XK} (h : sp_L_trim K vs H Q E) : t_L_trim K { nx := fun _ H' => Q .non H', rt := Q } (start ["_law_row", "_law_size"] vs) H := by
  obtain ⟨a, ns, rfl, hS, q⟩ := h
  refine q_asg (ev_len (ev_var rfl) hS) fun H1 e1 => ?_
  refine q_while (fun m σ' H' => σ' = [some (.ref a), some (.int (m : Int))] ∧ Ex H H' ∧ m ≤ ns.length ∧ ∀ i, m ≤ i → i < ns.length → ns.getD i 0 = 0) ns.length
    ⟨by rw [List.length_map]; rfl, e1, Nat.le_refl _, fun i h1 h2 => by omega⟩ fun m σ' H' hW => ?_
  obtain ⟨rfl, e2, hm, hz⟩ := hW
  refine ⟨_, et_and (et_test (ev_gt (ev_var rfl) ev_c)) (fun hb => et_test (ev_eqI (ev_ixI (j := m - 1) (ev_var rfl) (ev_sub (ev_var rfl) ev_c) (ex_l e2 hS) ?_ ?_) ev_c)), fun hb H3 e3 => ?_, fun hb H3 e3 => ?_⟩
  · have := of_decide_eq_true hb
    omega
  · have := of_decide_eq_true hb
    omega
  · rw [Bool.and_eq_true] at hb
    have h1 := of_decide_eq_true hb.1
    have h2 := of_decide_eq_true hb.2
    refine ⟨fun σ2 H2 => σ2 = [some (.ref a), some (.int ((m - 1 : Nat) : Int))] ∧ Ex H H2, fun σ2 H2 hN => ⟨m - 1, by omega, hN.1, hN.2, by omega, fun i h3 h4 => ?_⟩, ?_⟩
    · by_cases e : i = m - 1
      · rw [e]
        exact h2
      · exact hz i (by omega) h4
    · refine s_asg (ev_sub (ev_var rfl) ev_c) fun H4 e4 => ⟨?_, (e2.trans e3).trans e4⟩
      have e : ((m : Int) - 1) = ((m - 1 : Nat) : Int) := by omega
      rw [e]
      rfl
  · refine s_retL (el_sl (ev_var rfl) eo_none (eo_some (ev_var rfl)) (ex_l (e2.trans e3) hS)) fun p H4 hp e4 h4 => ?_
    have hn : m = 0 ∨ ns.getD (m - 1) 0 ≠ 0 := by
      by_cases h0 : m = 0
      · exact .inl h0
      · right
        intro hc
        rw [decide_eq_true (show (0 : Int) < m by omega), decide_eq_true hc] at hb
        cases hb
    have e := trim_take ns m hm hz hn
    rw [cut_take, ← e] at h4
    exact q.go (e2.trans e3) hp e4 h4
theorem sl_L_trim {K : PySem.W.Frag} {H : Hp} {a : Addr} {ns : List Int} (hS : SqL K H a (ns.map V.int)) : SpL (sp_L_trim K) [.ref a] H ((trimI ns).map V.int) := fun H1 e Q q E =>
  ⟨a, ns, rfl, ex_l e hS, q⟩

-- USES: L_whole
/-! _law_same: of two lists of ints -/
def sp_L_same (K : PySem.W.Frag) : Sp := fun vs H Q _ => ∃ (a b : Addr) (ns ms : List Int), vs = [.ref a, .ref b] ∧ H a = some (.lst (ns.map V.int)) ∧ SqL K H b (ms.map V.int) ∧ ms.length ≤ 90000 ∧ RetV (.bl (decide (ns = ms))) H Q
def t_L_same (K : PySem.W.Frag) : TS :=
  (tSeq (tIfS (tOr (tNot (tB (tCB (rIsi K) (tCons (tVar 0) (tCons (tC (.ty "list")) tNil))))) (tTest (tOp rNe (tCB (rLenS K) (tCons (tVar 0) tNil)) (tCB (rLenS K) (tCons (tVar 1) tNil))))) (tRet (tC (.bl false))) tNext) (tSeq (tFor (iRng1 (tCons (tCB (rLenS K) (tCons (tVar 1) tNil)) tNil)) (gName 2) (tIfS (tOr (tNot (tB (tCall (sp_L_whole K) [] E0 (tCons (tOp (rIxL K) (tVar 0) (tVar 2)) tNil)))) (tTest (tOp rNe (tOp (rIxL K) (tVar 0) (tVar 2)) (tOp (rIxL K) (tVar 1) (tVar 2))))) (tRet (tC (.bl false))) tNext)) (tRet (tC (.bl true)))))
theorem eq_of_getD {ns ms : List Int} (hl : ns.length = ms.length) (h : ∀ i, i < ms.length → ns.getD i 0 = ms.getD i 0) : ns = ms := by
  refine List.ext_getElem hl fun i h1 h2 => ?_
  have := h i h2
  rw [List.getD_eq_getElem?_getD, List.getD_eq_getElem?_getD, List.getElem?_eq_getElem h1, List.getElem?_eq_getElem h2] at this
  exact this
theorem run_L_same {K : PySem.W.Frag} {vs : List V} {H : Hp} {Q : VK} {E : XK} (h : sp_L_same K vs H Q E) : t_L_same K { nx := fun _ H' => Q .non H', rt := Q } (start ["_law_found", "_law_due", "_law_k"] vs) H := by
  obtain ⟨a, b, ns, ms, rfl, hA, hB, hl, q⟩ := h
  have hAs : SqL K H a (ns.map V.int) := sq_of hA
  refine q_when (et_or (a := false) (et_is (et_not (et_B (ev_isinst (ev_var rfl) (ty_lst hA) (b := true) (by decide +kernel)))) rfl) (fun _ => et_test (ev_neI (ev_len (ev_var rfl) hAs) (ev_len (ev_var rfl) hB)))) (fun hb H1 e1 => ?_) (fun hb H1 e1 => ?_)
  · refine s_ret ev_c fun H2 e2 => ?_
    have hne : ns ≠ ms := fun e => by
      subst e
      simp at hb
    rw [decide_eq_false hne] at q
    exact q H2 (e1.trans e2)
  · have hlen : ns.length = ms.length := by
      simp at hb
      omega
    refine q_forR1 (n := (ms.length : Int)) (ea_cons (ev_is (ev_len (ev_var rfl) (ex_l e1 hB)) (by rw [List.length_map])) ea_nil) ⟨by omega, by omega⟩
      (fun i σ' H' => ∃ y, σ' = [some (.ref a), some (.ref b), y] ∧ Ex H H' ∧ ∀ j, j < i → ns.getD j 0 = ms.getD j 0) (fun H2 e2 => ⟨_, rfl, e1.trans e2, fun j hj => by omega⟩) (fun i σ' H' hi hP => ?_) (fun σ' H' hP => ?_)
    · obtain ⟨y, rfl, e2, hs⟩ := hP
      have hi' : i < ms.length := by omega
      refine s_when (et_or (a := false) (et_is (et_not (et_B (ev_call (ea_cons (ev_ixI (ev_var rfl) (ev_var rfl) (ex_l e2 hAs) rfl (by omega)) ea_nil) (sv_L_whole _)))) rfl) (fun _ => et_test (ev_neI (ev_ixI (ev_var rfl) (ev_var rfl) (ex_l e2 hAs) rfl (by omega)) (ev_ixI (ev_var rfl) (ev_var rfl) (ex_l e2 hB) rfl hi')))) (fun hb H3 e3 => ?_) (fun hb H3 e3 => ?_)
      · refine s_ret ev_c fun H4 e4 => ?_
        have hne : ns ≠ ms := fun e => by
          subst e
          simp at hb
        rw [decide_eq_false hne] at q
        exact q H4 ((e2.trans e3).trans e4)
      · refine ⟨_, rfl, e2.trans e3, fun j hj => ?_⟩
        by_cases e : j = i
        · subst e
          simpa using hb
        · exact hs j (by omega)
    · obtain ⟨y, rfl, e2, hs⟩ := hP
      refine s_ret ev_c fun H4 e4 => ?_
      have he : ns = ms := eq_of_getD hlen fun j hj => hs j (by omega)
      rw [decide_eq_true he] at q
      exact q H4 (e2.trans e4)
theorem sv_L_same {K : PySem.W.Frag} {H : Hp} {a b : Addr} {ns ms : List Int} (hA : H a = some (.lst (ns.map V.int))) (hB : SqL K H b (ms.map V.int)) (hl : ms.length ≤ 90000) : SpV (sp_L_same K) [.ref a, .ref b] H (.bl (decide (ns = ms))) := fun H1 e Q q E =>
  ⟨a, b, ns, ms, rfl, e _ _ hA, ex_l e hB, hl, q⟩

/-! bounds of signs and rests -/
theorem mod2x {i : Int} : (i % 2).natAbs < 2 ^ 1 := by
  have h1 : 0 ≤ i % 2 := Int.emod_nonneg _ (by decide)
  have h2 : i % 2 < 2 := Int.emod_lt_of_pos _ (by decide)
  omega
theorem sgnx {i : Int} : (1 - i % 2 * 2).natAbs < 2 ^ 2 := by
  have h1 : 0 ≤ i % 2 := Int.emod_nonneg _ (by decide)
  have h2 : i % 2 < 2 := Int.emod_lt_of_pos _ (by decide)
  omega
theorem modx {i j : Int} {b : Nat} (h0 : 0 < j) (h : j ≤ 2 ^ b) : (i % j).natAbs < 2 ^ b := by
  have h1 : 0 ≤ i % j := Int.emod_nonneg _ (by omega)
  have h2 : i % j < j := Int.emod_lt_of_pos _ h0
  have h3 : ((2 ^ b : Nat) : Int) = 2 ^ b := by simp
  omega

-- USES: Lists NumX
/-! _law_number: up to sixty figures -/
def num10I (c : Int) : Int := if c % 7 = 0 then 0 else if c % 7 = 1 then (1 - c / 7 % 2 * 2) * (c / 14 % 10 ^ 60) else if c % 7 < 4 then c / 7 % 3 - 1 else c / 7 % 19 - 9
theorem num10_lt (c : Int) : (num10I c).natAbs < 10 ^ 60 := by
  have hp : (100 : Nat) < 10 ^ 60 := by decide +kernel
  unfold num10I
  split
  · exact Nat.lt_trans (by decide) hp
  split
  · have h1 : 0 ≤ c / 7 % 2 := Int.emod_nonneg _ (by decide)
    have h2 : c / 7 % 2 < 2 := Int.emod_lt_of_pos _ (by decide)
    have e1 : (1 - c / 7 % 2 * 2).natAbs = 1 := by omega
    rw [Int.natAbs_mul, e1, Nat.one_mul]
    have hP : (0 : Int) < 10 ^ 60 := by decide +kernel
    have h3 : 0 ≤ c / 14 % 10 ^ 60 := Int.emod_nonneg _ (by omega)
    have h4 : c / 14 % 10 ^ 60 < 10 ^ 60 := Int.emod_lt_of_pos _ hP
    have h5 : ((10 ^ 60 : Nat) : Int) = 10 ^ 60 := by decide +kernel
    generalize (10 : Int) ^ 60 = P at *
    generalize (10 : Nat) ^ 60 = R at *
    omega
  split
  · have h1 : 0 ≤ c / 7 % 3 := Int.emod_nonneg _ (by decide)
    have h2 : c / 7 % 3 < 3 := Int.emod_lt_of_pos _ (by decide)
    omega
  · have h1 : 0 ≤ c / 7 % 19 := Int.emod_nonneg _ (by decide)
    have h2 : c / 7 % 19 < 19 := Int.emod_lt_of_pos _ (by decide)
    omega
def sp_L_number (K : PySem.W.Frag) : Sp := fun vs H Q _ => ∃ c : Int, vs = [.int c] ∧ RetV (.int (num10I c)) H Q
def t_L_number (K : PySem.W.Frag) : TS :=
  (tSeq (tIfS (tTest (tOp rEq (tOp oMod (tVar 0) (tC (.int 7))) (tC (.int 0)))) (tRet (tC (.int 0))) tNext) (tSeq (tIfS (tTest (tOp rEq (tOp oMod (tVar 0) (tC (.int 7))) (tC (.int 1)))) (tRet (tOp oMul (tOp oSub (tC (.int 1)) (tOp oMul (tOp oMod (tOp oDiv (tVar 0) (tC (.int 7))) (tC (.int 2))) (tC (.int 2)))) (tOp oMod (tOp oDiv (tVar 0) (tC (.int 14))) (tOp oPow (tC (.int 10)) (tC (.int 60)))))) tNext) (tSeq (tIfS (tTest (tOp oLt (tOp oMod (tVar 0) (tC (.int 7))) (tC (.int 4)))) (tRet (tOp oSub (tOp oMod (tOp oDiv (tVar 0) (tC (.int 7))) (tC (.int 3))) (tC (.int 1)))) tNext) (tRet (tOp oSub (tOp oMod (tOp oDiv (tVar 0) (tC (.int 7))) (tC (.int 19))) (tC (.int 9)))))))
theorem run_L_number {K : PySem.W.Frag} {vs : List V} {H : Hp} {Q : VK} {E : XK} (h : sp_L_number K vs H Q E) : t_L_number K { nx := fun _ H' => Q .non H', rt := Q } (start ["_law_cell"] vs) H := by
  obtain ⟨c, rfl, q⟩ := h
  unfold num10I at q
  refine q_when (et_test (ev_eqI (ev_mod (ev_var rfl) ev_c (by decide)) ev_c)) (fun hb H1 e1 => ?_) (fun hb H1 e1 => ?_)
  · rw [if_pos (of_decide_eq_true hb)] at q
    exact s_ret ev_c fun H2 e2 => q H2 (e1.trans e2)
  rw [if_neg (of_decide_eq_false hb)] at q
  refine q_when (et_test (ev_eqI (ev_mod (ev_var rfl) ev_c (by decide)) ev_c)) (fun hb2 H2 e2 => ?_) (fun hb2 H2 e2 => ?_)
  · rw [if_pos (of_decide_eq_true hb2)] at q
    refine s_ret (ev_mul (ev_sub ev_c (ev_mul (ev_mod (ev_div (ev_var rfl) ev_c (div_small (by decide) (by decide))) ev_c (by decide)) ev_c (mulx (a := 1) (b := 3) mod2x (by decide) (by decide))))
      (ev_mod (ev_div (ev_var rfl) ev_c (div_small (by decide) (by decide))) (ev_pow ev_c ev_c ⟨by decide, by decide, by decide⟩) (by decide +kernel)) (mulx (a := 2) (b := 200) sgnx (modx (by decide +kernel) (by decide +kernel)) (by decide))) fun H3 e3 => q H3 ((e1.trans e2).trans e3)
  rw [if_neg (of_decide_eq_false hb2)] at q
  refine q_when (et_test (ev_lt (ev_mod (ev_var rfl) ev_c (by decide)) ev_c)) (fun hb3 H3 e3 => ?_) (fun hb3 H3 e3 => ?_)
  · rw [if_pos (of_decide_eq_true hb3)] at q
    exact s_ret (ev_sub (ev_mod (ev_div (ev_var rfl) ev_c (div_small (by decide) (by decide))) ev_c (by decide)) ev_c) fun H4 e4 => q H4 (((e1.trans e2).trans e3).trans e4)
  · rw [if_neg (of_decide_eq_false hb3)] at q
    exact s_ret (ev_sub (ev_mod (ev_div (ev_var rfl) ev_c (div_small (by decide) (by decide))) ev_c (by decide)) ev_c) fun H4 e4 => q H4 (((e1.trans e2).trans e3).trans e4)
theorem sv_L_number {K : PySem.W.Frag} {H : Hp} (c : Int) : SpV (sp_L_number K) [.int c] H (.int (num10I c)) := fun H1 e Q q E => ⟨c, rfl, q⟩

-- USES: Lists L_number_k10 L_cell_at L_trim
/-! _law_drawn -/
def sp_L_drawn (K : PySem.W.Frag) : Sp := fun vs H Q _ => ∃ (a : Addr) (ns : List Int) (p s m : Nat), vs = [.ref a, .int (p : Int), .int (s : Int), .int (m : Int)] ∧ SqL K H a (ns.map V.int) ∧ s ≤ 1000 ∧ m ≤ 1000 ∧ RetL ((drawnI num10I ns p s m).map V.int) H Q
def t_L_drawn (K : PySem.W.Frag) : TS :=
  (tSeq (tAsg (tLc (iRng1 (tCons (tVar 2) tNil)) (gName 5) tYes (tCall (sp_L_number K) [] E0 (tCons (tCall (sp_L_cell_at K) [] E0 (tCons (tVar 0) (tCons (tOp oAdd (tVar 1) (tVar 5)) tNil))) tNil)) [5]) (gName 4)) (tSeq (tIfS (tTest (tOp oGt (tVar 3) (tC (.int 0)))) (tAsg (tLc (iRng1 (tCons (tVar 3) tNil)) (gName 5) tYes (tCall (sp_L_number K) [] E0 (tCons (tOp oAdd (tOp oAdd (tCall (sp_L_cell_at K) [] E0 (tCons (tVar 0) (tCons (tVar 1) tNil))) (tOp oMul (tOp oMul (tC (.int 97)) (tVar 5)) (tVar 5))) (tOp oMul (tC (.int 13)) (tVar 5))) tNil)) [5]) (gName 4)) tNext) (tRet (tCall (sp_L_trim K) [] E0 (tCons (tVar 4) tNil)))))
theorem run_L_drawn {K : PySem.W.Frag} {vs : List V} {H : Hp} {Q : VK} {E : XK} (h : sp_L_drawn K vs H Q E) : t_L_drawn K { nx := fun _ H' => Q .non H', rt := Q } (start ["_law_script", "_law_place", "_law_size", "_law_many", "_law_row", "_law_k"] vs) H := by
  obtain ⟨a, ns, p, s, m, rfl, hS, hs, hm, q⟩ := h
  refine q_asgL (el_lcR1 (n := (s : Int)) (fun _ => true) (fun i => .int (num10I (cellI ns (p + i)))) (ea_cons (ev_var rfl) ea_nil) ⟨by omega, by omega⟩ (fun _ => rfl) (fun i H1 e1 hi => et_yes)
    (fun i H1 e1 hi _ => ev_call (ea_cons (ev_call (ea_cons (ev_var rfl) (ea_cons (ev_add (ev_var rfl) (ev_var rfl)) ea_nil)) (sv_L_cell_at (p + i) (ex_l e1 hS) (by omega))) ea_nil) (sv_L_number _))) fun r H1 nr e1 hr => ?_
  rw [given_all, Int.toNat_natCast] at hr
  refine q_when (et_test (ev_gt (ev_var rfl) ev_c)) (fun hb H2 e2 => ?_) (fun hb H2 e2 => ?_)
  · have h0 := of_decide_eq_true hb
    refine s_asgL (el_lcR1 (n := (m : Int)) (fun _ => true) (fun i => .int (num10I (cellI ns p + 97 * (i : Int) * (i : Int) + 13 * (i : Int)))) (ea_cons (ev_var rfl) ea_nil) ⟨by omega, by omega⟩ (fun _ => rfl) (fun i H1 e1 hi => et_yes)
      (fun i H3 e3 hi _ => ev_call (ea_cons (ev_add (ev_add (ev_call (ea_cons (ev_var rfl) (ea_cons (ev_var rfl) ea_nil)) (sv_L_cell_at p (ex_l (e2.trans e3) (ex_l e1 hS)) rfl))
        (ev_mul (ev_mul ev_c (ev_var rfl) (mulx (a := 7) (b := 10) (by decide) (kx (n := m) (by omega) hm) (by decide))) (ev_var rfl) (mulx (a := 17) (b := 10) (wide_lt (a := 7) (b := 10) (by decide) (kx (n := m) (by omega) hm)) (kx (n := m) (by omega) hm) (by decide))))
        (ev_mul ev_c (ev_var rfl) (mulx (a := 4) (b := 10) (by decide) (kx (n := m) (by omega) hm) (by decide)))) ea_nil) (sv_L_number _))) fun r2 H3 nr2 e3 hr2 => ?_
    rw [given_all, Int.toNat_natCast] at hr2
    refine s_retL (el_call (xs := (drawnI num10I ns p s m).map V.int) (ea_cons (ev_var rfl) ea_nil) ?_) fun p4 H4 n4 e4 h4 => q.go ((e1.trans e2).trans e3) n4 e4 h4
    unfold drawnI
    rw [if_pos (by omega)]
    refine sl_L_trim (sq_of ?_)
    rw [hr2, List.map_map]
    rfl
  · have h0 := of_decide_eq_false hb
    refine s_retL (el_call (xs := (drawnI num10I ns p s m).map V.int) (ea_cons (ev_var rfl) ea_nil) ?_) fun p4 H4 n4 e4 h4 => q.go (e1.trans e2) n4 e4 h4
    unfold drawnI
    rw [if_neg (by omega)]
    refine sl_L_trim (sq_of (e2 _ _ ?_))
    rw [hr, List.map_map]
    rfl
theorem sl_L_drawn {K : PySem.W.Frag} {H : Hp} {a : Addr} {ns : List Int} {i j k : Int} (p s m : Nat) (hS : SqL K H a (ns.map V.int)) (hs : s ≤ 1000) (hm : m ≤ 1000) (hi : i = (p : Int)) (hj : j = (s : Int)) (hk : k = (m : Int)) :
    SpL (sp_L_drawn K) [.ref a, .int i, .int j, .int k] H ((drawnI num10I ns p s m).map V.int) := fun H1 e Q q E =>
  ⟨a, ns, p, s, m, by rw [hi, hj, hk], ex_l e hS, hs, hm, q⟩
theorem drawn_all {P : Int → Prop} {num : Int → Int} (h : ∀ c, P (num c)) (ns : List Int) (p s m : Nat) : ∀ x ∈ drawnI num ns p s m, P x := fun x hx => by
  unfold drawnI at hx
  have h1 := trim_mem _ _ hx
  split at h1
  · obtain ⟨k, _, rfl⟩ := List.mem_map.mp h1
    exact h _
  · obtain ⟨k, _, rfl⟩ := List.mem_map.mp h1
    exact h _

-- USES: Lists TxtM
/-! _law_written -/
def sp_L_written (K : PySem.W.Frag) : Sp := fun vs H Q _ => ∃ (a : Addr) (ns : List Int), vs = [.ref a] ∧ SqL K H a (ns.map V.int) ∧ ns.length ≤ 1000 ∧ (∀ k, (ns.getD k 0).natAbs < 10 ^ 60) ∧ RetV (.str (S (shownL ns))) H Q
def t_L_written (K : PySem.W.Frag) : TS :=
  (tSeq (tAsg (tC (.str "")) (gName 1)) (tSeq (tFor (iRng1 (tCons (tCB (rLenS K) (tCons (tVar 0) tNil)) tNil)) (gName 2) (tSeq (tAsg (tOp oSub (tOp oSub (tCB (rLenS K) (tCons (tVar 0) tNil)) (tC (.int 1))) (tVar 2)) (gName 3)) (tIfS (tTest (tOp rNe (tOp (rIxL K) (tVar 0) (tVar 3)) (tC (.int 0)))) (tSeq (tAsg (tCB rStrI (tCons (tCB rAbs (tCons (tOp (rIxL K) (tVar 0) (tVar 3)) tNil)) tNil)) (gName 4)) (tSeq (tIfS (tAnd (tTest (tOp oGt (tVar 3) (tC (.int 0)))) (tTest (tOp rEq (tVar 4) (tC (.str "1"))))) (tAsg (tC (.str "")) (gName 4)) tNext) (tSeq (tIfS (tTest (tOp rEq (tVar 3) (tC (.int 1)))) (tAsg (tOp oCatS (tVar 4) (tC (.str "x"))) (gName 4)) tNext) (tSeq (tIfS (tTest (tOp oGt (tVar 3) (tC (.int 1)))) (tAsg (tOp oCatS (tOp oCatS (tVar 4) (tC (.str "x^"))) (tCB rStrI (tCons (tVar 3) tNil))) (gName 4)) tNext) (tSeq (tIfS (tAnd (tTest (tOp rNe (tVar 1) (tC (.str "")))) (tTest (tOp oGt (tOp (rIxL K) (tVar 0) (tVar 3)) (tC (.int 0))))) (tAsg (tOp oCatS (tC (.str " + ")) (tVar 4)) (gName 4)) tNext) (tSeq (tIfS (tAnd (tTest (tOp rNe (tVar 1) (tC (.str "")))) (tTest (tOp oLt (tOp (rIxL K) (tVar 0) (tVar 3)) (tC (.int 0))))) (tAsg (tOp oCatS (tC (.str " - ")) (tVar 4)) (gName 4)) tNext) (tSeq (tIfS (tAnd (tTest (tOp rEq (tVar 1) (tC (.str "")))) (tTest (tOp oLt (tOp (rIxL K) (tVar 0) (tVar 3)) (tC (.int 0))))) (tAsg (tOp oCatS (tC (.str "-")) (tVar 4)) (gName 4)) tNext) (tAsg (tOp oCatS (tVar 1) (tVar 4)) (gName 1))))))))) tNext))) (tSeq (tIfS (tTest (tOp rEq (tVar 1) (tC (.str "")))) (tRet (tC (.str "0"))) tNext) (tRet (tVar 1)))))
theorem numL_one {n : Nat} : numL n = [49] ↔ n = 1 := by
  have e : numL 1 = [49] := TL.numL_lt (by decide)
  constructor
  · intro h
    exact TL.numL_inj (h.trans e.symm)
  · intro h
    rw [h]
    exact e
def wd1 (n p : Nat) : List Nat := if (decide ((0 : Int) < (p : Int)) && decide (numL n = [49])) = true then [] else numL n
def wd2 (n p : Nat) : List Nat := if (decide ((p : Int) = 1)) = true then wd1 n p ++ [120] else wd1 n p
def wd3 (n p : Nat) : List Nat := if (decide ((1 : Int) < (p : Int))) = true then (wd2 n p ++ [120, 94]) ++ numL p else wd2 n p
theorem wd_term (n p : Nat) : wd3 n p = termL n p := by
  unfold wd3 wd2 wd1 termL
  rcases Nat.lt_trichotomy p 1 with h | h | h
  · have h0 : p = 0 := by omega
    subst h0
    simp
  · subst h
    by_cases h1 : n = 1
    · subst h1
      have := numL_one.mpr (rfl : 1 = 1)
      simp [this]
    · have : ¬numL n = [49] := fun h => h1 (numL_one.mp h)
      simp [this, h1]
  · have e1 : ¬ ((p : Int) = 1) := by omega
    have e2 : (1 : Int) < (p : Int) := by omega
    have e3 : (0 : Int) < (p : Int) := by omega
    have e4 : p ≠ 0 := by omega
    have e5 : p ≠ 1 := by omega
    by_cases h1 : n = 1
    · subst h1
      have := numL_one.mpr (rfl : 1 = 1)
      have e6 : 0 < p := by omega
      simp [this, e1, e2, e4, e5, e6]
    · have : ¬numL n = [49] := fun h => h1 (numL_one.mp h)
      simp [this, h1, e1, e2, e4, e5]
def wd4 (x : Int) (f w : List Nat) : List Nat := if (!decide (f = []) && decide (0 < x)) = true then [32, 43, 32] ++ w else w
def wd5 (x : Int) (f w : List Nat) : List Nat := if (!decide (f = []) && decide (x < 0)) = true then [32, 45, 32] ++ w else w
def wd6 (x : Int) (f w : List Nat) : List Nat := if (decide (f = []) && decide (x < 0)) = true then [45] ++ w else w
theorem wd_sign {x : Int} (hx : x ≠ 0) (f w : List Nat) : wd6 x f (wd5 x f (wd4 x f w)) = signL (decide (x < 0)) (decide (f = [])) ++ w := by
  unfold wd6 wd5 wd4 signL
  by_cases hf : f = []
  · by_cases h : x < 0
    · simp [hf, h]
    · simp [hf, h]
  · by_cases h : x < 0
    · have : ¬ 0 < x := by omega
      simp [hf, h, this]
    · have : 0 < x := by omega
      simp [hf, h, this]
theorem wd4_len (x : Int) (f w : List Nat) : (wd4 x f w).length ≤ w.length + 3 := by
  unfold wd4
  split
  · rw [List.length_append]
    simp
    omega
  · omega
theorem wd5_len (x : Int) (f w : List Nat) : (wd5 x f w).length ≤ w.length + 3 := by
  unfold wd5
  split
  · rw [List.length_append]
    simp
    omega
  · omega
theorem run_L_written {K : PySem.W.Frag} {vs : List V} {H : Hp} {Q : VK} {E : XK} (h : sp_L_written K vs H Q E) : t_L_written K { nx := fun _ H' => Q .non H', rt := Q } (start ["_law_row", "_law_found", "_law_step", "_law_power", "_law_word"] vs) H := by
  obtain ⟨a, ns, rfl, hS, hl, hx, q⟩ := h
  have ln := lineT_len hx hl
  refine q_asg (ev_cS (l := []) (by decide +kernel)) fun H1 e1 => ?_
  refine q_forR1 (n := (ns.length : Int)) (ea_cons (ev_is (ev_len (ev_var rfl) (ex_l e1 hS)) (by rw [List.length_map])) ea_nil) ⟨by omega, by omega⟩ (fun i σ' H' => (∃ y2 y3 y4 : Option V, σ' = [some (.ref a), some (.str (S (lineT ns i))), y2, y3, y4]) ∧ Ex H H') (fun H2 e2 => ⟨⟨none, none, none, rfl⟩, e1.trans e2⟩) (fun i σ' H2 hi hP => ?_) (fun σ' H2 hP => ?_)
  · obtain ⟨⟨y2, y3, y4, rfl⟩, e2⟩ := hP
    have hin : i < ns.length := by omega
    have lni := ln i
    have hxp := hx (ns.length - 1 - i)
    have hstep : lineT ns (i + 1) = if ns.getD (ns.length - 1 - i) 0 = 0 then lineT ns i else lineT ns i ++ (signL (decide (ns.getD (ns.length - 1 - i) 0 < 0)) (decide (lineT ns i = [])) ++ termL (ns.getD (ns.length - 1 - i) 0).natAbs (ns.length - 1 - i)) := rfl
    refine q_asg (v := .int ((ns.length - 1 - i : Nat) : Int)) (ev_is (ev_sub (ev_sub (ev_is (ev_len (ev_var rfl) (ex_l e2 hS)) (by rw [List.length_map])) ev_c) (ev_var rfl)) (by
      have : (ns.length : Int) - 1 - (i : Int) = ((ns.length - 1 - i : Nat) : Int) := by omega
      rw [this])) fun H3 e3 => ?_
    have e23 := e2.trans e3
    have ix : ∀ {H' : Hp} {σ : L2.St}, Ex H H' → σ[0]? = some (some (.ref a)) → σ[3]? = some (some (.int ((ns.length - 1 - i : Nat) : Int))) → Ev (tOp (rIxL K) (tVar 0) (tVar 3)) σ H' (.int (ns.getD (ns.length - 1 - i) 0)) := fun e z1 z2 => ev_ixI (j := ns.length - 1 - i) (ev_var z1) (ev_var z2) (ex_l e hS) rfl (by omega)
    have tl := termL_len hxp (p := ns.length - 1 - i) (by omega)
    have hp3 : ns.length - 1 - i < 10 ^ 3 := by omega
    have hp60 : ns.length - 1 - i < 10 ^ 60 := Nat.lt_trans hp3 (by decide +kernel)
    generalize ns.getD (ns.length - 1 - i) 0 = x at *
    generalize ns.length - 1 - i = p at *
    refine s_when (et_test (ev_neI (ix e23 rfl rfl) ev_c)) (fun hb H4 e4 => ?_) (fun hb H4 e4 => ?_)
    · have hx0 : x ≠ 0 := by
        rw [Bool.not_eq_true', decide_eq_false_iff_not] at hb
        exact hb
      rw [if_neg hx0] at hstep
      have e24 := e23.trans e4
      have nl := numL_len x.natAbs 60 (by decide) hxp
      have pl := numL_len p 3 (by decide) hp3
      refine q_asg (ev_strI (n := x.natAbs) (ev_is (ev_abs (ix e24 rfl rfl)) (by congr 1; split <;> omega)) hxp) fun H5 e5 => ?_
      refine q_ifAsg (v := .str (S (wd1 x.natAbs p))) (et_and (a := decide ((0 : Int) < (p : Int))) (et_test (ev_gt (ev_var rfl) ev_c)) fun _ => et_test (ev_eqT (x := numL x.natAbs) (y := [49]) (ev_var rfl) (ev_cS (by decide +kernel)))) (fun hb => ?_) (fun hb => ?_) fun H6 e6 => ?_
      · unfold wd1
        rw [if_pos hb]
        exact ev_cS (by decide +kernel)
      · unfold wd1
        rw [hb, if_neg (by decide)]
        rfl
      have l1 : (wd1 x.natAbs p).length ≤ 60 := by
        unfold wd1
        split
        · exact Nat.zero_le _
        · exact nl
      refine q_ifAsg (v := .str (S (wd2 x.natAbs p))) (et_test (ev_eqI (ev_var rfl) ev_c)) (fun hb => ?_) (fun hb => ?_) fun H7 e7 => ?_
      · unfold wd2
        rw [if_pos hb]
        exact ev_catS (ev_var rfl) (ev_cS (by decide +kernel)) (by simp only [List.length_cons, List.length_nil]; omega)
      · unfold wd2
        rw [hb, if_neg (by decide)]
        rfl
      have l2 : (wd2 x.natAbs p).length ≤ 61 := by
        unfold wd2
        split
        · rw [List.length_append]
          simp only [List.length_cons, List.length_nil]
          omega
        · omega
      refine q_ifAsg (v := .str (S (wd3 x.natAbs p))) (et_test (ev_gt (ev_var rfl) ev_c)) (fun hb => ?_) (fun hb => ?_) fun H8 e8 => ?_
      · unfold wd3
        rw [if_pos hb]
        exact ev_catS (ev_catS (ev_var rfl) (ev_cS (by decide +kernel)) (by simp only [List.length_cons, List.length_nil]; omega)) (ev_strI (ev_var rfl) hp60) (by simp only [List.length_append, List.length_cons, List.length_nil]; omega)
      · unfold wd3
        rw [hb, if_neg (by decide)]
        rfl
      rw [wd_term]
      have e28 := ((e24.trans e5).trans e6).trans (e7.trans e8)
      generalize hw : termL x.natAbs p = w at *
      generalize hf : lineT ns i = f at *
      have l4 := wd4_len x f w
      have l5 := wd5_len x f (wd4 x f w)
      refine q_ifAsg (v := .str (S (wd4 x f w))) (et_and (a := !decide (f = [])) (et_test (ev_neT (x := f) (y := []) (ev_var rfl) (ev_cS (by decide +kernel)))) fun _ => et_test (ev_gt (ix e28 rfl rfl) ev_c)) (fun hb => ?_) (fun hb => ?_) fun H9 e9 => ?_
      · unfold wd4
        rw [if_pos hb]
        exact ev_catS (ev_cS (by decide +kernel)) (ev_var rfl) (by simp only [List.length_cons, List.length_nil]; omega)
      · unfold wd4
        rw [hb, if_neg (by decide)]
        rfl
      refine q_ifAsg (v := .str (S (wd5 x f (wd4 x f w)))) (et_and (a := !decide (f = [])) (et_test (ev_neT (x := f) (y := []) (ev_var rfl) (ev_cS (by decide +kernel)))) fun _ => et_test (ev_lt (ix (e28.trans e9) rfl rfl) ev_c)) (fun hb => ?_) (fun hb => ?_) fun H10 e10 => ?_
      · unfold wd5
        rw [if_pos hb]
        exact ev_catS (ev_cS (by decide +kernel)) (ev_var rfl) (by simp only [List.length_cons, List.length_nil]; omega)
      · unfold wd5
        rw [hb, if_neg (by decide)]
        rfl
      refine q_ifAsg (v := .str (S (wd6 x f (wd5 x f (wd4 x f w))))) (et_and (a := decide (f = [])) (et_test (ev_eqT (x := f) (y := []) (ev_var rfl) (ev_cS (by decide +kernel)))) fun _ => et_test (ev_lt (ix ((e28.trans e9).trans e10) rfl rfl) ev_c)) (fun hb => ?_) (fun hb => ?_) fun H11 e11 => ?_
      · unfold wd6
        rw [if_pos hb]
        exact ev_catS (ev_cS (by decide +kernel)) (ev_var rfl) (by simp only [List.length_cons, List.length_nil]; omega)
      · unfold wd6
        rw [hb, if_neg (by decide)]
        rfl
      rw [wd_sign hx0]
      have sl := signL_len (decide (x < 0)) (decide (f = []))
      refine s_asg (ev_catS (x := f) (ev_var rfl) (ev_var rfl) (by rw [List.length_append]; omega)) fun H12 e12 => ⟨⟨some (.int (i : Int)), some (.int (p : Int)), some (.str (S (signL (decide (x < 0)) (decide (f = [])) ++ w))), ?_⟩, (((e28.trans e9).trans e10).trans e11).trans e12⟩
      rw [hstep]
      rfl
    · have hx0 : x = 0 := by
        rw [Bool.not_eq_false', decide_eq_true_iff] at hb
        exact hb
      rw [if_pos hx0] at hstep
      refine ⟨⟨some (.int (i : Int)), some (.int (p : Int)), y4, ?_⟩, e23.trans e4⟩
      rw [hstep]
      rfl
  · obtain ⟨⟨y2, y3, y4, rfl⟩, e2⟩ := hP
    rw [Int.toNat_natCast]
    unfold shownL at q
    refine q_when (et_test (ev_eqT (ev_var rfl) (ev_cS (l := []) (by decide +kernel)))) (fun hb H3 e3 => ?_) (fun hb H3 e3 => ?_)
    · have h0 := of_decide_eq_true hb
      rw [if_pos h0] at q
      exact s_ret (ev_cS (by decide +kernel)) fun H4 e4 => q H4 ((e2.trans e3).trans e4)
    · have h0 := of_decide_eq_false hb
      rw [if_neg h0] at q
      exact s_ret (ev_var rfl) fun H4 e4 => q H4 ((e2.trans e3).trans e4)
theorem sv_L_written {K : PySem.W.Frag} {H : Hp} {a : Addr} {ns : List Int} (hS : SqL K H a (ns.map V.int)) (hl : ns.length ≤ 1000) (hx : ∀ k, (ns.getD k 0).natAbs < 10 ^ 60) : SpV (sp_L_written K) [.ref a] H (.str (S (shownL ns))) := fun H1 e Q q E => ⟨a, ns, rfl, ex_l e hS, hl, hx, q⟩

-- USES: P_read
/-! what is shown is read again -/
theorem numL_head : ∀ n : Nat, 1 ≤ n → (numL n).head? ≠ some 48 := by
  intro n
  induction n using Nat.strongRecOn with
  | _ n ih =>
    intro h1 hc
    by_cases h : n < 10
    · rw [show numL n = [48 + n] from TL.numL_lt h] at hc
      have := Option.some.inj hc
      omega
    · rw [show numL n = numL (n / 10) ++ [48 + n % 10] from TL.numL_step (by omega), List.head?_append] at hc
      have h2 := ih (n / 10) (by omega) (by omega)
      cases h3 : (numL (n / 10)).head? with
      | none => exact absurd (List.head?_eq_none_iff.mp h3) (TL.numL_ne _)
      | some c =>
        rw [h3] at hc h2
        exact h2 hc
theorem whole_num {n : Nat} (h : 1 ≤ n) : wholeN (numL n) = some n := by
  unfold wholeN
  have h1 : digL (numL n) = true := List.all_eq_true.mpr fun c hc => by
    have := TL.numL_digits n c hc
    rw [Bool.and_eq_true]
    exact ⟨decide_eq_true this.1, decide_eq_true this.2⟩
  rw [if_pos ⟨by rw [h1, decide_eq_true (TL.numL_ne n)]; rfl, numL_head n h⟩, TL.numL_val]
theorem size_num {n : Nat} (h : 1 ≤ n) : sizeN (if n = 1 then [] else numL n) = some n := by
  by_cases h1 : n = 1
  · rw [if_pos h1, h1]
    rfl
  · rw [if_neg h1]
    unfold sizeN
    have e : numL n ≠ [49] := fun e => by
      have e2 : numL 1 = [49] := TL.numL_lt (by decide)
      exact h1 (TL.numL_inj (e.trans e2.symm))
    rw [if_neg (TL.numL_ne n), if_neg e, whole_num h]
theorem power_num {p : Nat} (h : 1 ≤ p) (hp : p < 100) : powerN (if p = 1 then [] else [94] ++ numL p) = some p := by
  by_cases h1 : p = 1
  · rw [if_pos h1, h1]
    rfl
  · rw [if_neg h1]
    unfold powerN
    have hl := numL_len p 2 (by decide) (by omega)
    have e : (!decide (([94] ++ numL p).head? = some 94) || decide ((3 : Int) < ((([94] ++ numL p).length : Nat) : Int))) = false := by
      have e1 : decide (([94] ++ numL p).head? = some 94) = true := decide_eq_true rfl
      have e2 : decide ((3 : Int) < ((([94] ++ numL p).length : Nat) : Int)) = false := decide_eq_false (by rw [List.length_append]; simp only [List.length_cons, List.length_nil]; omega)
      rw [e1, e2]
      rfl
    rw [if_neg (by simp), e, if_neg (by decide)]
    show (if wholeN (numL p) = some 1 then none else wholeN (numL p)) = some p
    rw [whole_num h, if_neg (by intro e; exact h1 (Option.some.inj e))]
theorem term_num {s p : Nat} (h : 1 ≤ s) (hp : p < 100) : termN (termL s p) = some (s, p) := by
  by_cases h0 : p = 0
  · have e : termL s p = numL s := by
      unfold termL
      rw [if_pos h0]
    rw [e, termN_none (TL.par_none1 (TL.numL_free (by decide))), whole_num h, h0]
    rfl
  · have e : termL s p = (if s = 1 then [] else numL s) ++ ([120] ++ (if p = 1 then [] else [94] ++ numL p)) := by
      unfold termL
      rw [if_neg h0]
      congr 1
      split <;> rfl
    have hn : 120 ∉ (if s = 1 then [] else numL s) := by
      split
      · simp
      · exact TL.numL_free (by decide)
    have hpar : TL.par [120] [] (termL s p) = some ((if s = 1 then [] else numL s), (if p = 1 then [] else [94] ++ numL p)) := by
      rw [e]
      have := TL.par_part1 (s := 120) (S := []) (acc := []) (rest := (if p = 1 then [] else [94] ++ numL p)) hn
      rw [List.nil_append] at this
      exact this
    rw [termN_some hpar, size_num h, power_num (by omega) hp]
    rfl
theorem term_ne (s p : Nat) : termL s p ≠ [] := by
  unfold termL
  split
  · exact TL.numL_ne s
  · intro e
    have := (List.append_eq_nil_iff.mp e).2
    split at this <;> simp at this
theorem term_free {s p c : Nat} (h : c < 48 ∨ 57 < c) (h1 : c ≠ 120) (h2 : c ≠ 94) : c ∉ termL s p := by
  unfold termL
  intro hm
  split at hm
  · exact TL.numL_free h hm
  · rcases List.mem_append.mp hm with hm | hm
    · split at hm
      · simp at hm
      · exact TL.numL_free h hm
    · split at hm
      · simp at hm
        exact h1 hm
      · rcases List.mem_append.mp hm with hm | hm
        · simp at hm
          rcases hm with hm | hm
          · exact h1 hm
          · exact h2 hm
        · exact TL.numL_free h hm
theorem term_head {s p : Nat} (h : 1 ≤ s) : (termL s p).head? ≠ some 48 := by
  unfold termL
  split
  · exact numL_head s h
  · by_cases h1 : s = 1
    · rw [if_pos h1, List.nil_append]
      split <;> simp
    · rw [if_neg h1, List.head?_append]
      have h2 := numL_head s h
      cases h3 : (numL s).head? with
      | none => exact absurd (List.head?_eq_none_iff.mp h3) (TL.numL_ne _)
      | some c =>
        rw [h3] at h2
        exact h2
/-- signs and terms, from the greatest power down -/
def sgL (x : Int) : List Nat := if x < 0 then [45] else [43]
def wT (ns : List Int) : Nat → List (List Nat × List Nat)
  | 0 => []
  | i + 1 => if ns.getD (ns.length - 1 - i) 0 = 0 then wT ns i else wT ns i ++ [(sgL (ns.getD (ns.length - 1 - i) 0), termL (ns.getD (ns.length - 1 - i) 0).natAbs (ns.length - 1 - i))]
def flatW : List (List Nat × List Nat) → List (List Nat)
  | [] => []
  | w :: r => w.1 :: w.2 :: flatW r
theorem flat_app : ∀ a b : List (List Nat × List Nat), flatW (a ++ b) = flatW a ++ flatW b
  | [], b => rfl
  | w :: a, b => by
    show w.1 :: w.2 :: flatW (a ++ b) = w.1 :: w.2 :: (flatW a ++ flatW b)
    rw [flat_app a b]
theorem flat_len : ∀ a : List (List Nat × List Nat), (flatW a).length = 2 * a.length
  | [] => rfl
  | w :: a => by
    have := flat_len a
    show (flatW a).length + 1 + 1 = _
    rw [this, List.length_cons]
    omega
theorem flat_evn : ∀ a : List (List Nat × List Nat), evn (flatW a) = a.map fun w => w.1
  | [] => rfl
  | w :: a => by
    show w.1 :: evn (flatW a) = _
    rw [flat_evn a]
    rfl
theorem evn_tail : ∀ a : List (List Nat × List Nat), evn ((flatW a).drop 1) = a.map fun w => w.2
  | [] => rfl
  | [w] => rfl
  | w :: v :: a => by
    have := evn_tail (v :: a)
    show w.2 :: evn ((flatW (v :: a)).drop 1) = _
    rw [this]
    rfl
theorem pr_flat (a : List (List Nat × List Nat)) : prN (flatW a) = a := by
  unfold prN
  rw [flat_evn, evn_tail]
  induction a with
  | nil => rfl
  | cons w a ih =>
    rw [List.map_cons, List.map_cons, List.zip_cons_cons, ih]
theorem join_snoc2 : ∀ (ps : List (List Nat)) (a b : List Nat), ps ≠ [] → TL.joinL [32] (ps ++ [a, b]) = TL.joinL [32] ps ++ ([32] ++ (a ++ ([32] ++ b)))
  | [], _, _, h => absurd rfl h
  | [p], a, b, _ => rfl
  | p :: q :: r, a, b, _ => by
    have ih := join_snoc2 (q :: r) a b (by simp)
    show p ++ ([32] ++ TL.joinL [32] (q :: r ++ [a, b])) = p ++ ([32] ++ TL.joinL [32] (q :: r)) ++ _
    rw [ih]
    simp
def preL (ws : List (List Nat × List Nat)) : List Nat := match ws with
  | [] => []
  | w :: _ => if w.1 = [45] then [45] else []
theorem pre_app {a b : List (List Nat × List Nat)} (h : a ≠ []) : preL (a ++ b) = preL a := by
  cases a with
  | nil => exact absurd rfl h
  | cons w r => rfl
theorem line_w (ns : List Int) : ∀ i : Nat, (wT ns i = [] ↔ lineT ns i = []) ∧ lineT ns i = preL (wT ns i) ++ TL.joinL [32] ((flatW (wT ns i)).drop 1)
  | 0 => ⟨⟨fun _ => rfl, fun _ => rfl⟩, rfl⟩
  | i + 1 => by
    obtain ⟨h1, h2⟩ := line_w ns i
    unfold wT lineT
    generalize ns.getD (ns.length - 1 - i) 0 = x
    by_cases hx : x = 0
    · rw [if_pos hx, if_pos hx]
      exact ⟨h1, h2⟩
    · rw [if_neg hx, if_neg hx]
      have ht := term_ne x.natAbs (ns.length - 1 - i)
      generalize termL x.natAbs (ns.length - 1 - i) = t at *
      refine ⟨⟨fun h => by simp at h, fun h => by
        have := (List.append_eq_nil_iff.mp (List.append_eq_nil_iff.mp h).2).2
        exact absurd this ht⟩, ?_⟩
      by_cases hw : wT ns i = []
      · have hl := h1.mp hw
        rw [hw, hl, decide_eq_true rfl]
        show [] ++ (signL (decide (x < 0)) true ++ t) = (if sgL x = [45] then [45] else []) ++ t
        unfold signL sgL
        by_cases hn : x < 0
        · simp [hn]
        · simp [hn]
      · have hl : lineT ns i ≠ [] := fun h => hw (h1.mpr h)
        rw [decide_eq_false hl, pre_app hw, flat_app]
        have hf : (flatW (wT ns i)).drop 1 ≠ [] := by
          have := flat_len (wT ns i)
          have h3 : 0 < (wT ns i).length := List.length_pos_iff.mpr hw
          intro h4
          have := congrArg List.length h4
          rw [List.length_drop] at this
          simp at this
          omega
        have hd : (flatW (wT ns i) ++ flatW [(sgL x, t)]).drop 1 = (flatW (wT ns i)).drop 1 ++ [sgL x, t] := by
          rw [List.drop_append_of_le_length (by have := flat_len (wT ns i); have h3 : 0 < (wT ns i).length := List.length_pos_iff.mpr hw; omega)]
          rfl
        have ea : ∀ R : List Nat, preL (wT ns i) ++ (TL.joinL [32] ((flatW (wT ns i)).drop 1) ++ R) = lineT ns i ++ R := fun R => by rw [← List.append_assoc, ← h2]
        rw [hd, join_snoc2 _ _ _ hf, ea]
        congr 1
        unfold signL sgL
        by_cases hn : x < 0
        · simp [hn]
        · simp [hn]
theorem wT_mem (ns : List Int) : ∀ (i : Nat) (w : List Nat × List Nat), w ∈ wT ns i → ∃ (x : Int) (p : Nat), x ≠ 0 ∧ w = (sgL x, termL x.natAbs p) ∧ x = ns.getD p 0 ∧ p ≤ ns.length - 1
  | 0, w, h => by simp [wT] at h
  | i + 1, w, h => by
    unfold wT at h
    split at h
    · exact wT_mem ns i w h
    · rename_i hx
      rcases List.mem_append.mp h with h | h
      · exact wT_mem ns i w h
      · rw [List.mem_singleton] at h
        exact ⟨_, ns.length - 1 - i, hx, h, rfl, by omega⟩
theorem sg_free (x : Int) : 32 ∉ sgL x := by
  unfold sgL
  split <;> simp
theorem flat_mem : ∀ {a : List (List Nat × List Nat)} {v : List Nat}, v ∈ flatW a → ∃ w ∈ a, v = w.1 ∨ v = w.2
  | w :: a, v, h => by
    rcases List.mem_cons.mp h with e | h
    · exact ⟨w, List.mem_cons_self, .inl e⟩
    · rcases List.mem_cons.mp h with e | h
      · exact ⟨w, List.mem_cons_self, .inr e⟩
      · obtain ⟨y, hy, h2⟩ := flat_mem h
        exact ⟨y, List.mem_cons_of_mem _ hy, h2⟩
theorem words_line {ns : List Int} (h : lineT ns ns.length ≠ []) : wordsN (lineT ns ns.length) = flatW (wT ns ns.length) := by
  obtain ⟨h1, h2⟩ := line_w ns ns.length
  have hm := wT_mem ns ns.length
  cases hw : wT ns ns.length with
  | nil => exact absurd (h1.mp hw) h
  | cons w r =>
    rw [hw] at h2 hm
    obtain ⟨x, p, hx, ew, _, _⟩ := hm w List.mem_cons_self
    have hfree : ∀ v ∈ w.2 :: flatW r, 32 ∉ v := fun v hv => by
      have hv2 : v ∈ flatW (w :: r) := List.mem_cons_of_mem _ hv
      obtain ⟨y, hy, h3⟩ := flat_mem hv2
      obtain ⟨x2, p2, _, e2, _, _⟩ := hm y hy
      rcases h3 with h3 | h3
      · rw [h3, e2]
        exact sg_free x2
      · rw [h3, e2]
        exact term_free (by decide) (by decide) (by decide)
    have hspl := TL.spl_join (s := 32) (S := []) (parts := w.2 :: flatW r) (by simp) hfree
    have hj : lineT ns ns.length = (if w.1 = [45] then [45] else []) ++ TL.joinL [32] (w.2 :: flatW r) := h2
    have hne : w.2 ≠ [] := by
      rw [ew]
      exact term_ne _ _
    have hhead : ∀ c, (TL.joinL [32] (w.2 :: flatW r)).head? = some c → c ∈ w.2 := fun c hc => by
      have key : (TL.joinL [32] (w.2 :: flatW r)).head? = w.2.head? := by
        cases h4 : w.2 with
        | nil => exact absurd h4 hne
        | cons d l =>
          cases flatW r with
          | nil => rfl
          | cons e f => rfl
      rw [key] at hc
      exact List.mem_of_mem_head? hc
    have hw1 : w.1 = sgL x := by rw [ew]
    have h45 : (TL.joinL [32] (w.2 :: flatW r)).head? ≠ some 45 := fun hc => by
      have := hhead 45 hc
      rw [ew] at this
      exact term_free (by decide) (by decide) (by decide) this
    show _ = w.1 :: w.2 :: flatW r
    generalize TL.joinL [32] (w.2 :: flatW r) = J at *
    by_cases hn : x < 0
    · have e1 : w.1 = [45] := by
        rw [hw1]
        unfold sgL
        rw [if_pos hn]
      rw [hj, e1, if_pos rfl]
      show wordsN (45 :: J) = [45] :: w.2 :: flatW r
      unfold wordsN
      rw [if_pos (show (45 :: J).head? = some 45 from rfl)]
      show [45] :: TL.spl [32] 0 [] J = _
      rw [hspl]
    · have e1 : w.1 = [43] := by
        rw [hw1]
        unfold sgL
        rw [if_neg hn]
      rw [hj, e1, if_neg (by decide), List.nil_append]
      unfold wordsN
      rw [if_neg h45, hspl]
theorem runN_app : ∀ (a b : List (List Nat × List Nat)) (st : List Int × Nat), runN (a ++ b) st = (runN a st).bind (runN b)
  | [], b, st => rfl
  | w :: a, b, st => by
    show (match stepN st w.1 w.2 with | none => none | some st' => runN (a ++ b) st') = (match stepN st w.1 w.2 with | none => none | some st' => runN a st').bind (runN b)
    cases stepN st w.1 w.2 with
    | none => rfl
    | some st' => exact runN_app a b st'
/-- the row as far as it is read -/
def rowP (ns : List Int) (i : Nat) : List Int := (List.range ns.length).map fun k => if ns.length - i ≤ k then ns.getD k 0 else 0
theorem rowP_len (ns : List Int) (i : Nat) : (rowP ns i).length = ns.length := by
  unfold rowP
  rw [List.length_map, List.length_range]
theorem rowP_at (ns : List Int) (i k : Nat) (h : k < ns.length) : (rowP ns i)[k]'(by rw [rowP_len]; exact h) = if ns.length - i ≤ k then ns.getD k 0 else 0 := by
  unfold rowP
  rw [List.getElem_map, List.getElem_range]
theorem rowP_step {ns : List Int} {i : Nat} (hi : i < ns.length) : rowP ns (i + 1) = (rowP ns i).set (ns.length - 1 - i) (ns.getD (ns.length - 1 - i) 0) := by
  refine List.ext_getElem (by rw [List.length_set, rowP_len, rowP_len]) fun k h1 h2 => ?_
  have hk : k < ns.length := by rw [rowP_len] at h1; exact h1
  rw [rowP_at ns (i + 1) k hk, List.getElem_set]
  by_cases he : ns.length - 1 - i = k
  · rw [if_pos he, if_pos (by omega), he]
  · rw [if_neg he, rowP_at ns i k hk]
    by_cases h3 : ns.length - i ≤ k
    · rw [if_pos (by omega), if_pos h3]
    · rw [if_neg (by omega), if_neg h3]
theorem rowP_zero {ns : List Int} {i : Nat} (hi : i < ns.length) (h : ns.getD (ns.length - 1 - i) 0 = 0) : rowP ns (i + 1) = rowP ns i := by
  rw [rowP_step hi, h]
  refine List.ext_getElem (by rw [List.length_set]) fun k h1 h2 => ?_
  have hk : k < ns.length := by rw [rowP_len] at h2; exact h2
  rw [List.getElem_set]
  by_cases he : ns.length - 1 - i = k
  · rw [if_pos he, rowP_at ns i k hk, if_neg (by omega)]
  · rw [if_neg he]
theorem rowP_none (ns : List Int) : rowP ns 0 = List.replicate ns.length 0 := by
  refine List.ext_getElem (by rw [rowP_len, List.length_replicate]) fun k h1 h2 => ?_
  have hk : k < ns.length := by rw [rowP_len] at h1; exact h1
  rw [rowP_at ns 0 k hk, if_neg (by omega), List.getElem_replicate]
theorem rowP_all (ns : List Int) : rowP ns ns.length = ns := by
  refine List.ext_getElem (rowP_len ns _) fun k h1 h2 => ?_
  rw [rowP_at ns ns.length k h2, if_pos (by omega), List.getD_eq_getElem?_getD, List.getElem?_eq_getElem h2]
  rfl
theorem sg_size (x : Int) : (if sgL x = [45] then -(x.natAbs : Int) else (x.natAbs : Int)) = x := by
  unfold sgL
  by_cases h : x < 0
  · rw [if_pos h, if_pos rfl]
    omega
  · rw [if_neg h, if_neg (by decide)]
    omega
theorem sg_ok (x : Int) : (decide (sgL x = [43]) || decide (sgL x = [45])) = true := by
  unfold sgL
  by_cases h : x < 0
  · rw [if_pos h]
    rfl
  · rw [if_neg h]
    rfl
theorem step_num {row : List Int} {low p : Nat} {x : Int} (hx : x ≠ 0) (hp : p < low) (hl : low ≤ 100) : stepN (row, low) (sgL x) (termL x.natAbs p) = some ((if row = [] then List.replicate (p + 1) 0 else row).set p x, p) := by
  rw [stepN_term (term_num (s := x.natAbs) (p := p) (by omega) (by omega)), sg_ok, decide_eq_false (show ¬ (low ≤ p) by omega), sg_size]
  rfl
theorem run_w {ns : List Int} (hn : Nf ns) (h0 : ns ≠ []) (hl : ns.length ≤ 100) : ∀ i : Nat, i < ns.length → ∃ low, runN (wT ns (i + 1)) ([], 100) = some (rowP ns (i + 1), low) ∧ ns.length - 1 - i ≤ low ∧ low ≤ ns.length - 1
  | 0, hi => by
    have hlast := nf_last hn h0
    have hx : ns.getD (ns.length - 1 - 0) 0 ≠ 0 := hlast
    refine ⟨ns.length - 1, ?_, by omega, Nat.le_refl _⟩
    have e : wT ns 1 = [(sgL (ns.getD (ns.length - 1 - 0) 0), termL (ns.getD (ns.length - 1 - 0) 0).natAbs (ns.length - 1 - 0))] := by
      show (if ns.getD (ns.length - 1 - 0) 0 = 0 then [] else [] ++ [_]) = _
      rw [if_neg hx]
      rfl
    rw [e, rowP_step hi, rowP_none]
    show (match stepN ([], 100) _ _ with | none => none | some st' => runN [] st') = _
    rw [step_num hx (by omega) (Nat.le_refl _), if_pos rfl]
    show some (_, _) = _
    rw [show ns.length - 1 - 0 + 1 = ns.length by omega]
    rfl
  | i + 1, hi => by
    obtain ⟨low, h1, h2, h3⟩ := run_w hn h0 hl i (by omega)
    have hstep : wT ns (i + 1 + 1) = if ns.getD (ns.length - 1 - (i + 1)) 0 = 0 then wT ns (i + 1) else wT ns (i + 1) ++ [(sgL (ns.getD (ns.length - 1 - (i + 1)) 0), termL (ns.getD (ns.length - 1 - (i + 1)) 0).natAbs (ns.length - 1 - (i + 1)))] := rfl
    by_cases hx : ns.getD (ns.length - 1 - (i + 1)) 0 = 0
    · rw [if_pos hx] at hstep
      refine ⟨low, ?_, by omega, h3⟩
      rw [hstep, h1, rowP_zero hi hx]
    · rw [if_neg hx] at hstep
      refine ⟨ns.length - 1 - (i + 1), ?_, Nat.le_refl _, by omega⟩
      rw [hstep, runN_app, h1, rowP_step hi]
      show (match stepN (rowP ns (i + 1), low) _ _ with | none => none | some st' => runN [] st') = _
      have hne : rowP ns (i + 1) ≠ [] := fun h => by
        have := rowP_len ns (i + 1)
        rw [h] at this
        simp at this
        omega
      rw [step_num hx (by omega) (by omega), if_neg hne]
      rfl
theorem line_head {ns : List Int} (h : lineT ns ns.length ≠ []) : lineT ns ns.length ≠ [48] := fun e => by
  have hw := words_line h
  rw [e] at hw
  have h2 : wordsN [48] = [[43], [48]] := by decide +kernel
  rw [h2] at hw
  have hm := wT_mem ns ns.length
  cases h3 : wT ns ns.length with
  | nil =>
    rw [h3] at hw
    cases hw
  | cons w r =>
    rw [h3] at hw hm
    have h4 : [[43], [48]] = w.1 :: w.2 :: flatW r := hw
    obtain ⟨x, p, hx, ew, _, _⟩ := hm w List.mem_cons_self
    have h5 : w.2 = [48] := by
      injection h4 with _ h4
      injection h4 with h4 _
      exact h4.symm
    rw [ew] at h5
    have h6 := term_head (s := x.natAbs) (p := p) (by omega)
    have h5 : termL x.natAbs p = [48] := h5
    rw [h5] at h6
    exact h6 rfl
theorem line_ne {ns : List Int} (hn : Nf ns) (h0 : ns ≠ []) : lineT ns ns.length ≠ [] := fun e => by
  have hl : 0 < ns.length := List.length_pos_iff.mpr h0
  have key : ∀ i, lineT ns (i + 1) ≠ [] := fun i => by
    induction i with
    | zero =>
      intro hc
      have hx : ns.getD (ns.length - 1 - 0) 0 ≠ 0 := nf_last hn h0
      have : lineT ns 1 = [] ++ (signL (decide (ns.getD (ns.length - 1 - 0) 0 < 0)) (decide (([] : List Nat) = [])) ++ termL (ns.getD (ns.length - 1 - 0) 0).natAbs (ns.length - 1 - 0)) := if_neg hx
      rw [this] at hc
      exact term_ne _ _ (List.append_eq_nil_iff.mp (List.append_eq_nil_iff.mp hc).2).2
    | succ i ih =>
      intro hc
      have hs : lineT ns (i + 1 + 1) = if ns.getD (ns.length - 1 - (i + 1)) 0 = 0 then lineT ns (i + 1) else lineT ns (i + 1) ++ (signL (decide (ns.getD (ns.length - 1 - (i + 1)) 0 < 0)) (decide (lineT ns (i + 1) = [])) ++ termL (ns.getD (ns.length - 1 - (i + 1)) 0).natAbs (ns.length - 1 - (i + 1))) := rfl
      rw [hs] at hc
      split at hc
      · exact ih hc
      · exact ih (List.append_eq_nil_iff.mp hc).1
  have := key (ns.length - 1)
  rw [show ns.length - 1 + 1 = ns.length by omega] at this
  exact this e
/-- what is shown is read again -/
theorem read_shown {ns : List Int} (hn : Nf ns) (hl : ns.length ≤ 100) : readN (shownL ns) = some ns := by
  by_cases h0 : ns = []
  · subst h0
    rfl
  have hne := line_ne hn h0
  have e : shownL ns = lineT ns ns.length := if_neg hne
  have hlen : 0 < ns.length := List.length_pos_iff.mpr h0
  obtain ⟨low, h1, _, _⟩ := run_w hn h0 hl (ns.length - 1) (by omega)
  rw [show ns.length - 1 + 1 = ns.length by omega, rowP_all] at h1
  unfold readN
  rw [e, if_neg (line_head hne), words_line hne, flat_len, if_neg (by omega), pr_flat, h1]
  rfl
theorem shown_words {ns : List Int} (hx : ∀ k, (ns.getD k 0).natAbs < 10 ^ 60) (hl : ns.length ≤ 100) : ∀ w ∈ wordsN (shownL ns), w.length ≤ 640 := by
  by_cases hne : lineT ns ns.length = []
  · have e : shownL ns = [48] := if_pos hne
    rw [e]
    decide +kernel
  · have e : shownL ns = lineT ns ns.length := if_neg hne
    rw [e, words_line hne]
    intro v hv
    obtain ⟨y, hy, h3⟩ := flat_mem hv
    obtain ⟨x, p, _, e2, hxe, hp⟩ := wT_mem ns ns.length y hy
    rcases h3 with h3 | h3
    · rw [h3, e2]
      show (sgL x).length ≤ 640
      unfold sgL
      split <;> decide
    · rw [h3, e2]
      have := termL_len (s := x.natAbs) (p := p) (by rw [hxe]; exact hx p) (by omega)
      show (termL x.natAbs p).length ≤ 640
      omega

-- USES: Lists L_cell_at L_drawn_k10 L_same L_written P_shown P_read RdM
-- EXC: NotWritten
def sp_law (K : PySem.W.Frag) : Sp := fun vs H Q _ => ∃ (a : Addr) (ns : List Int), vs = [.ref a] ∧ SqL K H a (ns.map V.int) ∧ RetV (.bl true) H Q
def t_law (K : PySem.W.Frag) (cs : Cs) : TS :=
  (tSeq (tAsg (tCall (sp_L_cell_at K) [] E0 (tCons (tVar 0) (tCons (tC (.int 0)) tNil))) (gName 1)) (tSeq (tAsg (tC (.int 0)) (gName 2)) (tSeq (tIfS (tTest (tOp rEq (tOp oMod (tVar 1) (tC (.int 4))) (tC (.int 1)))) (tAsg (tOp oMod (tOp oDiv (tVar 1) (tC (.int 4))) (tC (.int 101))) (gName 2)) tNext) (tSeq (tAsg (tCall (sp_L_drawn K) [] E0 (tCons (tVar 0) (tCons (tC (.int 1)) (tCons (tOp oMod (tOp oDiv (tVar 1) (tC (.int 4))) (tC (.int 8))) (tCons (tVar 2) tNil))))) (gName 3)) (tSeq (tAsg (tCB (rListS K) (tCons (tVar 3) tNil)) (gName 4)) (tSeq (tAsg (tCall (sp_P_shown K) [] E0 (tCons (tVar 4) tNil)) (gName 5)) (tSeq (tIfS (tOr (tNot (tB (tCB (rIsi K) (tCons (tVar 5) (tCons (tC (.ty "str")) tNil))))) (tOr (tTest (tOp rNe (tVar 5) (tCall (sp_L_written K) [] E0 (tCons (tVar 3) tNil)))) (tNot (tB (tCall (sp_L_same K) [] E0 (tCons (tVar 4) (tCons (tVar 3) tNil))))))) (tRet (tC (.bl false))) tNext) (tRet (tCall (sp_L_same K) [] E0 (tCons (tCall (sp_P_read K cs) [] E0 (tCons (tVar 5) tNil)) (tCons (tVar 3) tNil)))))))))))
theorem ty_strV {K : PySem.W.Frag} {H : Hp} {s : Str} : ∀ H1, Ex H H1 → TyX K H1 (.str s) (.type "str") := fun _ _ => .base (.str s)
theorem run_law {K : PySem.W.Frag} {cs : Cs} {vs : List V} {H : Hp} {Q : VK} {E : XK} {l : List Addr} (_ : Tx K cs.PolyError l) (_ : cs.NotWritten ∈ l) (h : sp_law K vs H Q E) : t_law K cs { nx := fun _ H' => Q .non H', rt := Q } (start ["_law_script", "_law_first", "_law_many", "_law_row", "_law_handed", "_law_found"] vs) H := by
  obtain ⟨a, script, rfl, hS, q⟩ := h
  refine q_asg (ev_call (ea_cons (ev_var rfl) (ea_cons ev_c ea_nil)) (sv_L_cell_at 0 hS rfl)) fun H1 e1 => ?_
  generalize cellI script 0 = c
  refine q_asg ev_c fun H2 e2 => ?_
  have many : ∃ m : Nat, m ≤ 100 ∧ (m : Int) = if c % 4 = 1 then c / 4 % 101 else 0 := by
    have h1 := Int.emod_nonneg (c / 4) (show (101 : Int) ≠ 0 by decide)
    have h2 := Int.emod_lt_of_pos (c / 4) (show (0 : Int) < 101 by decide)
    refine ⟨(if c % 4 = 1 then c / 4 % 101 else 0).toNat, ?_, ?_⟩
    · split <;> omega
    · split <;> omega
  obtain ⟨m, hm, em⟩ := many
  refine q_ifAsg (v := .int (m : Int)) (et_test (ev_eqI (ev_mod (ev_var rfl) ev_c (by decide)) ev_c)) (fun hb => ?_) (fun hb => ?_) fun H3 e3 => ?_
  · rw [if_pos (of_decide_eq_true hb)] at em
    rw [em]
    exact ev_mod (ev_div (ev_var rfl) ev_c (div_small (by decide) (by decide))) ev_c (by decide)
  · rw [if_neg (of_decide_eq_false hb)] at em
    rw [em]
    rfl
  have e13 := (e1.trans e2).trans e3
  have h8 := modN (i := c / 4) (j := 8) (by decide)
  refine q_asgL (el_call (ea_cons (ev_var rfl) (ea_cons ev_c (ea_cons (ev_mod (ev_div (ev_var rfl) ev_c (div_small (by decide) (by decide))) ev_c (by decide)) (ea_cons (ev_var rfl) ea_nil)))) (sl_L_drawn 1 (c / 4 % 8).toNat m (ex_l e13 hS) (by omega) (by omega) rfl h8.1 rfl)) fun r H4 nr e4 hr => ?_
  have hnf : Nf (drawnI num10I script 1 (c / 4 % 8).toNat m) := nf_trim _
  have hlen : (drawnI num10I script 1 (c / 4 % 8).toNat m).length ≤ 100 := Nat.le_trans (drawn_len _ _ _ _ _) (by omega)
  have hall := drawn_all (P := fun x => x.natAbs < 10 ^ 60) num10_lt script 1 (c / 4 % 8).toNat m
  generalize drawnI num10I script 1 (c / 4 % 8).toNat m = ns at *
  have hx : ∀ k, (ns.getD k 0).natAbs < 10 ^ 60 := fun k => by
    by_cases hk : k < ns.length
    · rw [List.getD_eq_getElem?_getD, List.getElem?_eq_getElem hk]
      exact hall _ (List.getElem_mem hk)
    · rw [List.getD_eq_getElem?_getD, List.getElem?_eq_none (by omega)]
      show (0 : Int).natAbs < 10 ^ 60
      decide +kernel
  refine q_asgL (el_list (ev_var rfl) (sq_of (K := K) hr)) fun g H5 ng e5 hg => ?_
  have hr5 := e5 _ _ hr
  refine q_asg (ev_call (ea_cons (ev_var rfl) ea_nil) (sv_P_shown (sq_of hg) (by omega) hx)) fun H6 e6 => ?_
  have hr6 := e6 _ _ hr5
  have hg6 := e6 _ _ hg
  have slen : (shownL ns).length ≤ 80000 := by
    have := lineT_len hx (by omega) ns.length
    unfold shownL
    split
    · decide
    · omega
  have same : SpV (sp_L_same K) [.ref g, .ref r] H6 (.bl true) := by
    have h := sv_L_same (K := K) hg6 (sq_of hr6) (by omega)
    rw [decide_eq_true rfl] at h
    exact h
  refine st_is [some (.ref a), some (.int c), some (.int (m : Int)), some (.ref r), some (.ref g), some (.str (S (shownL ns)))] rfl ?_
  refine q_when (b := false) (et_is (et_or (a := false) (et_is (et_not (et_B (ev_isinst (ev_var rfl) ty_strV (b := true) (by decide +kernel)))) rfl) fun _ => et_or (a := false) (et_is (et_test (ev_neT (ev_var rfl) (ev_call (ea_cons (ev_var rfl) ea_nil) (sv_L_written (sq_of hr6) (by omega) hx)))) (by simp)) fun _ => et_not (et_B (ev_call (ea_cons (ev_var rfl) (ea_cons (ev_var rfl) ea_nil)) same))) rfl) (fun hb => nomatch hb) (fun _ H7 e7 => ?_)
  have hread : SpL (sp_P_read K cs) [.str (S (shownL ns))] H7 (ns.map V.int) := fun H8 e8 Q8 q8 E8 => ⟨shownL ns, rfl, slen, shown_words hx hlen, .inr ⟨ns, read_shown hnf hlen, q8⟩⟩
  refine s_ret (v := .bl true) (ev_callP (eps_l (el_call (ea_cons (ev_var rfl) ea_nil) hread) (eps_V (ev_var rfl) eps_nil)) fun vs H8 e8 hvs => ?_) fun H8 e8 => q H8 ((((((e13.trans e4).trans e5).trans e6).trans e7)).trans e8)
  obtain ⟨v1, v2, rfl, ⟨q1, rfl, hq1⟩, rfl⟩ := all2_two hvs
  have h := sv_L_same (K := K) hq1 (sq_of ((e7.trans e8) _ _ hr6)) (by omega)
  rw [decide_eq_true rfl] at h
  exact h

/-! the text's defs by their places, and their derivations -/
def topS (i : Nat) : Stmt := PySem.Challenge.pw_polyarith_k10_written.main.body.getD i (.Pass ⟨0, 0, 0, 0⟩)
abbrev s_P_term : Stmt := topS 6
theorem sc_P_term : FnScope ["size", "power", "letter"] ["size", "power"] (defScope s_P_term) := ⟨rfl, rfl, rfl, by decide +kernel, rfl, by decide +kernel, by decide +kernel⟩
abbrev s_P_sign : Stmt := topS 7
theorem sc_P_sign : FnScope ["number", "is_first"] ["number", "is_first"] (defScope s_P_sign) := ⟨rfl, rfl, rfl, by decide +kernel, rfl, by decide +kernel, by decide +kernel⟩
abbrev s_P_shown : Stmt := topS 8
theorem sc_P_shown : FnScope ["row", "line", "power", "number"] ["row"] (defScope s_P_shown) := ⟨rfl, rfl, rfl, by decide +kernel, rfl, by decide +kernel, by decide +kernel⟩
abbrev s_P_whole_number : Stmt := topS 9
theorem sc_P_whole_number : FnScope ["figures"] ["figures"] (defScope s_P_whole_number) := ⟨rfl, rfl, rfl, by decide +kernel, rfl, by decide +kernel, by decide +kernel⟩
abbrev s_P_size_of : Stmt := topS 10
theorem sc_P_size_of : FnScope ["figures"] ["figures"] (defScope s_P_size_of) := ⟨rfl, rfl, rfl, by decide +kernel, rfl, by decide +kernel, by decide +kernel⟩
abbrev s_P_power_of : Stmt := topS 11
theorem sc_P_power_of : FnScope ["tail", "power"] ["tail"] (defScope s_P_power_of) := ⟨rfl, rfl, rfl, by decide +kernel, rfl, by decide +kernel, by decide +kernel⟩
abbrev s_P_size_and_power : Stmt := topS 12
theorem sc_P_size_and_power : FnScope ["term", "figures", "letter", "tail"] ["term"] (defScope s_P_size_and_power) := ⟨rfl, rfl, rfl, by decide +kernel, rfl, by decide +kernel, by decide +kernel⟩
abbrev s_P_signs_and_terms : Stmt := topS 13
theorem sc_P_signs_and_terms : FnScope ["line"] ["line"] (defScope s_P_signs_and_terms) := ⟨rfl, rfl, rfl, by decide +kernel, rfl, by decide +kernel, by decide +kernel⟩
abbrev s_P_read : Stmt := topS 14
theorem sc_P_read : FnScope ["line", "words", "row", "lowest", "sign", "term", "size", "power"] ["line"] (defScope s_P_read) := ⟨rfl, rfl, rfl, by decide +kernel, rfl, by decide +kernel, by decide +kernel⟩
abbrev s_L_whole : Stmt := topS 16
theorem sc_L_whole : FnScope ["_law_found"] ["_law_found"] (defScope s_L_whole) := ⟨rfl, rfl, rfl, by decide +kernel, rfl, by decide +kernel, by decide +kernel⟩
abbrev s_L_cell_at : Stmt := topS 17
theorem sc_L_cell_at : FnScope ["_law_script", "_law_k"] ["_law_script", "_law_k"] (defScope s_L_cell_at) := ⟨rfl, rfl, rfl, by decide +kernel, rfl, by decide +kernel, by decide +kernel⟩
abbrev s_L_trim : Stmt := topS 18
theorem sc_L_trim : FnScope ["_law_row", "_law_size"] ["_law_row"] (defScope s_L_trim) := ⟨rfl, rfl, rfl, by decide +kernel, rfl, by decide +kernel, by decide +kernel⟩
abbrev s_L_same : Stmt := topS 19
theorem sc_L_same : FnScope ["_law_found", "_law_due", "_law_k"] ["_law_found", "_law_due"] (defScope s_L_same) := ⟨rfl, rfl, rfl, by decide +kernel, rfl, by decide +kernel, by decide +kernel⟩
abbrev s_L_number : Stmt := topS 20
theorem sc_L_number : FnScope ["_law_cell"] ["_law_cell"] (defScope s_L_number) := ⟨rfl, rfl, rfl, by decide +kernel, rfl, by decide +kernel, by decide +kernel⟩
abbrev s_L_drawn : Stmt := topS 21
theorem sc_L_drawn : FnScope ["_law_script", "_law_place", "_law_size", "_law_many", "_law_row", "_law_k"] ["_law_script", "_law_place", "_law_size", "_law_many"] (defScope s_L_drawn) := ⟨rfl, rfl, rfl, by decide +kernel, rfl, by decide +kernel, by decide +kernel⟩
abbrev s_L_written : Stmt := topS 22
theorem sc_L_written : FnScope ["_law_row", "_law_found", "_law_step", "_law_power", "_law_word"] ["_law_row"] (defScope s_L_written) := ⟨rfl, rfl, rfl, by decide +kernel, rfl, by decide +kernel, by decide +kernel⟩
abbrev s_law : Stmt := topS 23
theorem sc_law : FnScope ["_law_script", "_law_first", "_law_many", "_law_row", "_law_handed", "_law_found"] ["_law_script"] (defScope s_law) := ⟨rfl, rfl, rfl, by decide +kernel, rfl, by decide +kernel, by decide +kernel⟩
section
variable {P : Program} {w : World} {K : PySem.W.Frag} {mg : Str → Option Value} {base : Heap}
theorem ok_P_term {f : Addr} {fd : FuncData} (F : Fun K "_term" "_term" s_P_term f fd)     : FnOk P w K mg base CX0 1 f fd ["size", "power"] (sp_P_term K) := by
  refine F.ok sc_P_term (fun vs H Q E h => ?_) (fun cdv A outer s H vs Q E hr h => ⟨t_P_term K, ?_, run_P_term  h⟩)
  · first | (obtain ⟨_, rfl, _⟩ := h; rfl) | (obtain ⟨_, _, rfl, _⟩ := h; rfl) | (obtain ⟨_, _, _, rfl, _⟩ := h; rfl) | (obtain ⟨_, _, _, _, rfl, _⟩ := h; rfl) | (obtain ⟨_, _, _, _, _, rfl, _⟩ := h; rfl) | (obtain ⟨_, _, _, _, _, _, rfl, _⟩ := h; rfl) | (obtain ⟨_, _, _, _, _, _, _, rfl, _⟩ := h; rfl) | (obtain ⟨_, _, _, _, _, _, _, _, rfl, _⟩ := h; rfl) | (obtain ⟨_, _, _, _, _, _, _, _, _, rfl, _⟩ := h; rfl) | (obtain ⟨_, _, _, _, _, _, _, _, _, _, rfl, _⟩ := h; rfl) | (obtain ⟨_, _, _, _, _, _, _, _, _, _, _, rfl, _⟩ := h; rfl) | (obtain ⟨_, _, _, _, _, _, _, _, _, _, _, _, rfl, _⟩ := h; rfl) | (obtain ⟨_, _, _, _, _, _, _, _, _, _, _, _, _, rfl, _⟩ := h; rfl) | (obtain ⟨_, _, _, _, _, _, _, _, _, _, _, _, _, _, rfl, _⟩ := h; rfl) | (obtain ⟨_, _, _, _, _, _, _, _, _, _, _, _, _, _, _, rfl, _⟩ := h; rfl) | (obtain ⟨_, _, _, _, _, _, _, _, _, _, _, _, _, _, _, _, rfl, _⟩ := h; rfl) | (obtain ⟨_, _, _, _, _, _, _, _, _, _, _, _, _, _, _, _, _, rfl, _⟩ := h; rfl) | (obtain ⟨_, _, _, _, _, _, _, _, _, _, _, _, _, _, _, _, _, _, rfl, _⟩ := h; rfl) | (obtain ⟨_, _, _, _, _, _, _, _, _, _, _, _, _, _, _, _, _, _, _, rfl, _⟩ := h; rfl) | (obtain ⟨_, _, _, _, _, _, _, _, _, _, _, _, _, _, _, _, _, _, _, _, rfl, _⟩ := h; rfl) | (obtain ⟨_, _, _, _, _, _, _, _, _, _, _, _, _, _, _, _, _, _, _, _, _, rfl, _⟩ := h; rfl) | (obtain ⟨_, _, _, _, _, _, _, _, _, _, _, _, _, _, _, _, _, _, _, _, _, _, rfl, _⟩ := h; rfl) | (obtain ⟨_, _, _, _, _, _, _, _, _, _, _, _, _, _, _, _, _, _, _, _, _, _, _, rfl, _⟩ := h; rfl) | (obtain ⟨_, _, _, _, _, _, _, _, _, _, _, _, _, _, _, _, _, _, _, _, _, _, _, _, rfl, _⟩ := h; rfl) | (obtain ⟨_, _, _, _, _, _, _, _, _, _, _, _, _, _, _, _, _, _, _, _, _, _, _, _, _, rfl, _⟩ := h; rfl) | (obtain ⟨_, _, _, _, _, _, _, _, _, _, _, _, _, _, _, _, _, _, _, _, _, _, _, _, _, _, rfl, _⟩ := h; rfl) | (obtain ⟨_, _, _, _, _, _, _, _, _, _, _, _, _, _, _, _, _, _, _, _, _, _, _, _, _, _, _, rfl, _⟩ := h; rfl) | (obtain ⟨_, _, _, _, _, _, _, _, _, _, _, _, _, _, _, _, _, _, _, _, _, _, _, _, _, _, _, _, rfl, _⟩ := h; rfl) | (obtain ⟨_, _, _, _, _, _, _, _, _, _, _, _, _, _, _, _, _, _, _, _, _, _, _, _, _, _, _, _, _, rfl, _⟩ := h; rfl) | (obtain ⟨_, _, _, _, _, _, _, _, _, _, _, _, _, _, _, _, _, _, _, _, _, _, _, _, _, _, _, _, _, _, rfl, _⟩ := h; rfl)
  · exact (pss_cons (ps_if (pt_cmpR op_eq (pv 1) pe_int (nomark _)) (pss_one (ps_ret (pe_joined1 (pe_fmt (pv 0))))) pss_nil)
      (pss_cons (ps_set (i := 2) sc_P_term.nd rfl (Or.inl rfl) (pe_ifExp (pt_cmpR op_eq (pv 1) pe_int (nomark _)) pe_str (pe_joined (PJ.cons pe_str (PJ.cons (pe_fmt (pv 1)) PJ.nil)))))
      (pss_one (ps_ret (pe_ifExp (pt_cmpR op_eq (pv 0) pe_int (nomark _)) (pv 2) (pe_joined (PJ.cons (pe_fmt (pv 0)) (PJ.cons (pe_fmt (pv 2)) PJ.nil))))))))
theorem ok_P_sign {f : Addr} {fd : FuncData} (F : Fun K "_sign" "_sign" s_P_sign f fd)     : FnOk P w K mg base CX0 1 f fd ["number", "is_first"] (sp_P_sign K) := by
  refine F.ok sc_P_sign (fun vs H Q E h => ?_) (fun cdv A outer s H vs Q E hr h => ⟨t_P_sign K, ?_, run_P_sign  h⟩)
  · first | (obtain ⟨_, rfl, _⟩ := h; rfl) | (obtain ⟨_, _, rfl, _⟩ := h; rfl) | (obtain ⟨_, _, _, rfl, _⟩ := h; rfl) | (obtain ⟨_, _, _, _, rfl, _⟩ := h; rfl) | (obtain ⟨_, _, _, _, _, rfl, _⟩ := h; rfl) | (obtain ⟨_, _, _, _, _, _, rfl, _⟩ := h; rfl) | (obtain ⟨_, _, _, _, _, _, _, rfl, _⟩ := h; rfl) | (obtain ⟨_, _, _, _, _, _, _, _, rfl, _⟩ := h; rfl) | (obtain ⟨_, _, _, _, _, _, _, _, _, rfl, _⟩ := h; rfl) | (obtain ⟨_, _, _, _, _, _, _, _, _, _, rfl, _⟩ := h; rfl) | (obtain ⟨_, _, _, _, _, _, _, _, _, _, _, rfl, _⟩ := h; rfl) | (obtain ⟨_, _, _, _, _, _, _, _, _, _, _, _, rfl, _⟩ := h; rfl) | (obtain ⟨_, _, _, _, _, _, _, _, _, _, _, _, _, rfl, _⟩ := h; rfl) | (obtain ⟨_, _, _, _, _, _, _, _, _, _, _, _, _, _, rfl, _⟩ := h; rfl) | (obtain ⟨_, _, _, _, _, _, _, _, _, _, _, _, _, _, _, rfl, _⟩ := h; rfl) | (obtain ⟨_, _, _, _, _, _, _, _, _, _, _, _, _, _, _, _, rfl, _⟩ := h; rfl) | (obtain ⟨_, _, _, _, _, _, _, _, _, _, _, _, _, _, _, _, _, rfl, _⟩ := h; rfl) | (obtain ⟨_, _, _, _, _, _, _, _, _, _, _, _, _, _, _, _, _, _, rfl, _⟩ := h; rfl) | (obtain ⟨_, _, _, _, _, _, _, _, _, _, _, _, _, _, _, _, _, _, _, rfl, _⟩ := h; rfl) | (obtain ⟨_, _, _, _, _, _, _, _, _, _, _, _, _, _, _, _, _, _, _, _, rfl, _⟩ := h; rfl) | (obtain ⟨_, _, _, _, _, _, _, _, _, _, _, _, _, _, _, _, _, _, _, _, _, rfl, _⟩ := h; rfl) | (obtain ⟨_, _, _, _, _, _, _, _, _, _, _, _, _, _, _, _, _, _, _, _, _, _, rfl, _⟩ := h; rfl) | (obtain ⟨_, _, _, _, _, _, _, _, _, _, _, _, _, _, _, _, _, _, _, _, _, _, _, rfl, _⟩ := h; rfl) | (obtain ⟨_, _, _, _, _, _, _, _, _, _, _, _, _, _, _, _, _, _, _, _, _, _, _, _, rfl, _⟩ := h; rfl) | (obtain ⟨_, _, _, _, _, _, _, _, _, _, _, _, _, _, _, _, _, _, _, _, _, _, _, _, _, rfl, _⟩ := h; rfl) | (obtain ⟨_, _, _, _, _, _, _, _, _, _, _, _, _, _, _, _, _, _, _, _, _, _, _, _, _, _, rfl, _⟩ := h; rfl) | (obtain ⟨_, _, _, _, _, _, _, _, _, _, _, _, _, _, _, _, _, _, _, _, _, _, _, _, _, _, _, rfl, _⟩ := h; rfl) | (obtain ⟨_, _, _, _, _, _, _, _, _, _, _, _, _, _, _, _, _, _, _, _, _, _, _, _, _, _, _, _, rfl, _⟩ := h; rfl) | (obtain ⟨_, _, _, _, _, _, _, _, _, _, _, _, _, _, _, _, _, _, _, _, _, _, _, _, _, _, _, _, _, rfl, _⟩ := h; rfl) | (obtain ⟨_, _, _, _, _, _, _, _, _, _, _, _, _, _, _, _, _, _, _, _, _, _, _, _, _, _, _, _, _, _, rfl, _⟩ := h; rfl)
  · exact (pss_cons (ps_if (pt_val (pv 1)) (pss_one (ps_ret (pe_ifExp (pt_cmpR op_lt (pv 0) pe_int (nomark _)) pe_str pe_str))) pss_nil)
      (pss_one (ps_ret (pe_ifExp (pt_cmpR op_lt (pv 0) pe_int (nomark _)) pe_str pe_str))))
theorem ok_P_shown {f : Addr} {fd : FuncData} (F : Fun K "shown" "shown" s_P_shown f fd)   (c_P_sign : Cl P w K mg base 1 "_sign" (sp_P_sign K)) (c_P_term : Cl P w K mg base 1 "_term" (sp_P_term K)) (m_abs : mg "abs" = none) (m_len : mg "len" = none) (m_range : mg "range" = none) (m_reversed : mg "reversed" = none) : FnOk P w K mg base CX0 2 f fd ["row"] (sp_P_shown K) := by
  refine F.ok sc_P_shown (fun vs H Q E h => ?_) (fun cdv A outer s H vs Q E hr h => ⟨t_P_shown K, ?_, run_P_shown  h⟩)
  · first | (obtain ⟨_, rfl, _⟩ := h; rfl) | (obtain ⟨_, _, rfl, _⟩ := h; rfl) | (obtain ⟨_, _, _, rfl, _⟩ := h; rfl) | (obtain ⟨_, _, _, _, rfl, _⟩ := h; rfl) | (obtain ⟨_, _, _, _, _, rfl, _⟩ := h; rfl) | (obtain ⟨_, _, _, _, _, _, rfl, _⟩ := h; rfl) | (obtain ⟨_, _, _, _, _, _, _, rfl, _⟩ := h; rfl) | (obtain ⟨_, _, _, _, _, _, _, _, rfl, _⟩ := h; rfl) | (obtain ⟨_, _, _, _, _, _, _, _, _, rfl, _⟩ := h; rfl) | (obtain ⟨_, _, _, _, _, _, _, _, _, _, rfl, _⟩ := h; rfl) | (obtain ⟨_, _, _, _, _, _, _, _, _, _, _, rfl, _⟩ := h; rfl) | (obtain ⟨_, _, _, _, _, _, _, _, _, _, _, _, rfl, _⟩ := h; rfl) | (obtain ⟨_, _, _, _, _, _, _, _, _, _, _, _, _, rfl, _⟩ := h; rfl) | (obtain ⟨_, _, _, _, _, _, _, _, _, _, _, _, _, _, rfl, _⟩ := h; rfl) | (obtain ⟨_, _, _, _, _, _, _, _, _, _, _, _, _, _, _, rfl, _⟩ := h; rfl) | (obtain ⟨_, _, _, _, _, _, _, _, _, _, _, _, _, _, _, _, rfl, _⟩ := h; rfl) | (obtain ⟨_, _, _, _, _, _, _, _, _, _, _, _, _, _, _, _, _, rfl, _⟩ := h; rfl) | (obtain ⟨_, _, _, _, _, _, _, _, _, _, _, _, _, _, _, _, _, _, rfl, _⟩ := h; rfl) | (obtain ⟨_, _, _, _, _, _, _, _, _, _, _, _, _, _, _, _, _, _, _, rfl, _⟩ := h; rfl) | (obtain ⟨_, _, _, _, _, _, _, _, _, _, _, _, _, _, _, _, _, _, _, _, rfl, _⟩ := h; rfl) | (obtain ⟨_, _, _, _, _, _, _, _, _, _, _, _, _, _, _, _, _, _, _, _, _, rfl, _⟩ := h; rfl) | (obtain ⟨_, _, _, _, _, _, _, _, _, _, _, _, _, _, _, _, _, _, _, _, _, _, rfl, _⟩ := h; rfl) | (obtain ⟨_, _, _, _, _, _, _, _, _, _, _, _, _, _, _, _, _, _, _, _, _, _, _, rfl, _⟩ := h; rfl) | (obtain ⟨_, _, _, _, _, _, _, _, _, _, _, _, _, _, _, _, _, _, _, _, _, _, _, _, rfl, _⟩ := h; rfl) | (obtain ⟨_, _, _, _, _, _, _, _, _, _, _, _, _, _, _, _, _, _, _, _, _, _, _, _, _, rfl, _⟩ := h; rfl) | (obtain ⟨_, _, _, _, _, _, _, _, _, _, _, _, _, _, _, _, _, _, _, _, _, _, _, _, _, _, rfl, _⟩ := h; rfl) | (obtain ⟨_, _, _, _, _, _, _, _, _, _, _, _, _, _, _, _, _, _, _, _, _, _, _, _, _, _, _, rfl, _⟩ := h; rfl) | (obtain ⟨_, _, _, _, _, _, _, _, _, _, _, _, _, _, _, _, _, _, _, _, _, _, _, _, _, _, _, _, rfl, _⟩ := h; rfl) | (obtain ⟨_, _, _, _, _, _, _, _, _, _, _, _, _, _, _, _, _, _, _, _, _, _, _, _, _, _, _, _, _, rfl, _⟩ := h; rfl) | (obtain ⟨_, _, _, _, _, _, _, _, _, _, _, _, _, _, _, _, _, _, _, _, _, _, _, _, _, _, _, _, _, _, rfl, _⟩ := h; rfl)
  · exact (pss_cons (ps_set (i := 1) sc_P_shown.nd rfl (Or.inl rfl) pe_str)
      (pss_cons (ps_for PassesOwn.never rfl (pi_revR (by rfl) m_reversed (prg_1 (by rfl) m_range (pe_callB call_len_seq (by rfl) m_len PySem.boot_len (pa_cons (pv 0) pa_nil)))) (pg_name (i := 2) sc_P_shown.nd rfl (Or.inl rfl)) (pss_cons (ps_set (i := 3) sc_P_shown.nd rfl (Or.inl rfl) (pe_ix ix_list (pv 0) (pv 2) (fun _ _ => rfl)))
      (pss_one (ps_if (pt_cmpR op_ne (pv 3) pe_int (nomark _)) (pss_one (ps_aug (i := 1) sc_P_shown.nd rfl (Or.inl rfl) (pe_op op_add_str (pcl c_P_sign hr (by decide) (by rfl) (pa_cons (pv 3) (pa_cons (pe_cmpR op_eq (pv 1) pe_str (nomark _)) pa_nil))) (pcl c_P_term hr (by decide) (by rfl) (pa_cons (pe_callB call_abs (by rfl) m_abs (by decide +kernel) (pa_cons (pv 3) pa_nil)) (pa_cons (pv 2) pa_nil)))) ip_addS)) pss_nil))))
      (pss_one (ps_ret (pe_orT (pv 1) (pe_one pe_str))))))
theorem ok_P_whole_number {cs : Cs} {f : Addr} {fd : FuncData} (F : Fun K "_whole_number" "_whole_number" s_P_whole_number f fd) (T : Tx K cs.PolyError [cs.NotWritten]) (r_NotWritten : RsX K mg "NotWritten" cs.NotWritten)   (m_int : mg "int" = none) : FnOk P w K mg base (L2.CX P w) 1 f fd ["figures"] (sp_P_whole_number K cs) := by
  refine F.okX sc_P_whole_number (fun vs H Q E h => ?_) (fun cdv A outer s H vs Q E hr h => ⟨t_P_whole_number K cs E, ?_, run_P_whole_number T (by simp) h⟩)
  · first | (obtain ⟨_, rfl, _⟩ := h; rfl) | (obtain ⟨_, _, rfl, _⟩ := h; rfl) | (obtain ⟨_, _, _, rfl, _⟩ := h; rfl) | (obtain ⟨_, _, _, _, rfl, _⟩ := h; rfl) | (obtain ⟨_, _, _, _, _, rfl, _⟩ := h; rfl) | (obtain ⟨_, _, _, _, _, _, rfl, _⟩ := h; rfl) | (obtain ⟨_, _, _, _, _, _, _, rfl, _⟩ := h; rfl) | (obtain ⟨_, _, _, _, _, _, _, _, rfl, _⟩ := h; rfl) | (obtain ⟨_, _, _, _, _, _, _, _, _, rfl, _⟩ := h; rfl) | (obtain ⟨_, _, _, _, _, _, _, _, _, _, rfl, _⟩ := h; rfl) | (obtain ⟨_, _, _, _, _, _, _, _, _, _, _, rfl, _⟩ := h; rfl) | (obtain ⟨_, _, _, _, _, _, _, _, _, _, _, _, rfl, _⟩ := h; rfl) | (obtain ⟨_, _, _, _, _, _, _, _, _, _, _, _, _, rfl, _⟩ := h; rfl) | (obtain ⟨_, _, _, _, _, _, _, _, _, _, _, _, _, _, rfl, _⟩ := h; rfl) | (obtain ⟨_, _, _, _, _, _, _, _, _, _, _, _, _, _, _, rfl, _⟩ := h; rfl) | (obtain ⟨_, _, _, _, _, _, _, _, _, _, _, _, _, _, _, _, rfl, _⟩ := h; rfl) | (obtain ⟨_, _, _, _, _, _, _, _, _, _, _, _, _, _, _, _, _, rfl, _⟩ := h; rfl) | (obtain ⟨_, _, _, _, _, _, _, _, _, _, _, _, _, _, _, _, _, _, rfl, _⟩ := h; rfl) | (obtain ⟨_, _, _, _, _, _, _, _, _, _, _, _, _, _, _, _, _, _, _, rfl, _⟩ := h; rfl) | (obtain ⟨_, _, _, _, _, _, _, _, _, _, _, _, _, _, _, _, _, _, _, _, rfl, _⟩ := h; rfl) | (obtain ⟨_, _, _, _, _, _, _, _, _, _, _, _, _, _, _, _, _, _, _, _, _, rfl, _⟩ := h; rfl) | (obtain ⟨_, _, _, _, _, _, _, _, _, _, _, _, _, _, _, _, _, _, _, _, _, _, rfl, _⟩ := h; rfl) | (obtain ⟨_, _, _, _, _, _, _, _, _, _, _, _, _, _, _, _, _, _, _, _, _, _, _, rfl, _⟩ := h; rfl) | (obtain ⟨_, _, _, _, _, _, _, _, _, _, _, _, _, _, _, _, _, _, _, _, _, _, _, _, rfl, _⟩ := h; rfl) | (obtain ⟨_, _, _, _, _, _, _, _, _, _, _, _, _, _, _, _, _, _, _, _, _, _, _, _, _, rfl, _⟩ := h; rfl) | (obtain ⟨_, _, _, _, _, _, _, _, _, _, _, _, _, _, _, _, _, _, _, _, _, _, _, _, _, _, rfl, _⟩ := h; rfl) | (obtain ⟨_, _, _, _, _, _, _, _, _, _, _, _, _, _, _, _, _, _, _, _, _, _, _, _, _, _, _, rfl, _⟩ := h; rfl) | (obtain ⟨_, _, _, _, _, _, _, _, _, _, _, _, _, _, _, _, _, _, _, _, _, _, _, _, _, _, _, _, rfl, _⟩ := h; rfl) | (obtain ⟨_, _, _, _, _, _, _, _, _, _, _, _, _, _, _, _, _, _, _, _, _, _, _, _, _, _, _, _, _, rfl, _⟩ := h; rfl) | (obtain ⟨_, _, _, _, _, _, _, _, _, _, _, _, _, _, _, _, _, _, _, _, _, _, _, _, _, _, _, _, _, _, rfl, _⟩ := h; rfl)
  · exact (pss_cons (ps_if (PW.pt (pw_or (pt_not (pt_val (pe_bm0 PySem.F.plainAttrs_str PySem.F.slot_str_isascii PySem.F.type_str_isascii mt_isascii (pv 0)))) (pw_or (pt_not (pt_val (pe_bm0 PySem.F.plainAttrs_str PySem.F.slot_str_isdigit PySem.F.type_str_isdigit mt_isdigit (pv 0)))) (pw_or1 (pt_val (pe_bm PySem.F.plainAttrs_str PySem.F.slot_str_startswith PySem.F.type_str_startswith mt_startswith (pv 0) (pa_cons pe_str pa_nil))))))) (pss_one (ps_raiseC r_NotWritten rfl (takes_of rfl rfl rfl rfl) (by rfl))) pss_nil)
      (pss_one (ps_ret (pe_callTy call_int_str (by rfl) m_int (by decide +kernel) (pa_cons (pv 0) pa_nil)))))
theorem ok_P_size_of {cs : Cs} {f : Addr} {fd : FuncData} (F : Fun K "_size_of" "_size_of" s_P_size_of f fd) (T : Tx K cs.PolyError [cs.NotWritten]) (r_NotWritten : RsX K mg "NotWritten" cs.NotWritten)  (c_P_whole_number : ClX P w K mg base 1 "_whole_number" (sp_P_whole_number K cs))  : FnOk P w K mg base (L2.CX P w) 2 f fd ["figures"] (sp_P_size_of K cs) := by
  refine F.okX sc_P_size_of (fun vs H Q E h => ?_) (fun cdv A outer s H vs Q E hr h => ⟨t_P_size_of K cs E, ?_, run_P_size_of T (by simp) h⟩)
  · first | (obtain ⟨_, rfl, _⟩ := h; rfl) | (obtain ⟨_, _, rfl, _⟩ := h; rfl) | (obtain ⟨_, _, _, rfl, _⟩ := h; rfl) | (obtain ⟨_, _, _, _, rfl, _⟩ := h; rfl) | (obtain ⟨_, _, _, _, _, rfl, _⟩ := h; rfl) | (obtain ⟨_, _, _, _, _, _, rfl, _⟩ := h; rfl) | (obtain ⟨_, _, _, _, _, _, _, rfl, _⟩ := h; rfl) | (obtain ⟨_, _, _, _, _, _, _, _, rfl, _⟩ := h; rfl) | (obtain ⟨_, _, _, _, _, _, _, _, _, rfl, _⟩ := h; rfl) | (obtain ⟨_, _, _, _, _, _, _, _, _, _, rfl, _⟩ := h; rfl) | (obtain ⟨_, _, _, _, _, _, _, _, _, _, _, rfl, _⟩ := h; rfl) | (obtain ⟨_, _, _, _, _, _, _, _, _, _, _, _, rfl, _⟩ := h; rfl) | (obtain ⟨_, _, _, _, _, _, _, _, _, _, _, _, _, rfl, _⟩ := h; rfl) | (obtain ⟨_, _, _, _, _, _, _, _, _, _, _, _, _, _, rfl, _⟩ := h; rfl) | (obtain ⟨_, _, _, _, _, _, _, _, _, _, _, _, _, _, _, rfl, _⟩ := h; rfl) | (obtain ⟨_, _, _, _, _, _, _, _, _, _, _, _, _, _, _, _, rfl, _⟩ := h; rfl) | (obtain ⟨_, _, _, _, _, _, _, _, _, _, _, _, _, _, _, _, _, rfl, _⟩ := h; rfl) | (obtain ⟨_, _, _, _, _, _, _, _, _, _, _, _, _, _, _, _, _, _, rfl, _⟩ := h; rfl) | (obtain ⟨_, _, _, _, _, _, _, _, _, _, _, _, _, _, _, _, _, _, _, rfl, _⟩ := h; rfl) | (obtain ⟨_, _, _, _, _, _, _, _, _, _, _, _, _, _, _, _, _, _, _, _, rfl, _⟩ := h; rfl) | (obtain ⟨_, _, _, _, _, _, _, _, _, _, _, _, _, _, _, _, _, _, _, _, _, rfl, _⟩ := h; rfl) | (obtain ⟨_, _, _, _, _, _, _, _, _, _, _, _, _, _, _, _, _, _, _, _, _, _, rfl, _⟩ := h; rfl) | (obtain ⟨_, _, _, _, _, _, _, _, _, _, _, _, _, _, _, _, _, _, _, _, _, _, _, rfl, _⟩ := h; rfl) | (obtain ⟨_, _, _, _, _, _, _, _, _, _, _, _, _, _, _, _, _, _, _, _, _, _, _, _, rfl, _⟩ := h; rfl) | (obtain ⟨_, _, _, _, _, _, _, _, _, _, _, _, _, _, _, _, _, _, _, _, _, _, _, _, _, rfl, _⟩ := h; rfl) | (obtain ⟨_, _, _, _, _, _, _, _, _, _, _, _, _, _, _, _, _, _, _, _, _, _, _, _, _, _, rfl, _⟩ := h; rfl) | (obtain ⟨_, _, _, _, _, _, _, _, _, _, _, _, _, _, _, _, _, _, _, _, _, _, _, _, _, _, _, rfl, _⟩ := h; rfl) | (obtain ⟨_, _, _, _, _, _, _, _, _, _, _, _, _, _, _, _, _, _, _, _, _, _, _, _, _, _, _, _, rfl, _⟩ := h; rfl) | (obtain ⟨_, _, _, _, _, _, _, _, _, _, _, _, _, _, _, _, _, _, _, _, _, _, _, _, _, _, _, _, _, rfl, _⟩ := h; rfl) | (obtain ⟨_, _, _, _, _, _, _, _, _, _, _, _, _, _, _, _, _, _, _, _, _, _, _, _, _, _, _, _, _, _, rfl, _⟩ := h; rfl)
  · exact (pss_cons (ps_if (pt_not (pt_truth (pv 0) (by intro _; rfl))) (pss_one (ps_ret pe_int)) pss_nil)
      (pss_cons (ps_if (pt_cmpR op_eq (pv 0) pe_str (nomark _)) (pss_one (ps_raiseC r_NotWritten rfl (takes_of rfl rfl rfl rfl) (by rfl))) pss_nil)
      (pss_one (ps_ret (pclS c_P_whole_number (takes_of rfl rfl rfl rfl) hr (by decide) (by rfl) (pa_cons (pv 0) pa_nil))))))
theorem ok_P_power_of {cs : Cs} {f : Addr} {fd : FuncData} (F : Fun K "_power_of" "_power_of" s_P_power_of f fd) (T : Tx K cs.PolyError [cs.NotWritten]) (r_NotWritten : RsX K mg "NotWritten" cs.NotWritten)  (c_P_whole_number : ClX P w K mg base 1 "_whole_number" (sp_P_whole_number K cs)) (m_LONGEST_TAIL : ∃ t, mg "LONGEST_TAIL" = some (.int 3 t)) (m_len : mg "len" = none) : FnOk P w K mg base (L2.CX P w) 2 f fd ["tail"] (sp_P_power_of K cs) := by
  refine F.okX sc_P_power_of (fun vs H Q E h => ?_) (fun cdv A outer s H vs Q E hr h => ⟨t_P_power_of K cs E, ?_, run_P_power_of T (by simp) h⟩)
  · first | (obtain ⟨_, rfl, _⟩ := h; rfl) | (obtain ⟨_, _, rfl, _⟩ := h; rfl) | (obtain ⟨_, _, _, rfl, _⟩ := h; rfl) | (obtain ⟨_, _, _, _, rfl, _⟩ := h; rfl) | (obtain ⟨_, _, _, _, _, rfl, _⟩ := h; rfl) | (obtain ⟨_, _, _, _, _, _, rfl, _⟩ := h; rfl) | (obtain ⟨_, _, _, _, _, _, _, rfl, _⟩ := h; rfl) | (obtain ⟨_, _, _, _, _, _, _, _, rfl, _⟩ := h; rfl) | (obtain ⟨_, _, _, _, _, _, _, _, _, rfl, _⟩ := h; rfl) | (obtain ⟨_, _, _, _, _, _, _, _, _, _, rfl, _⟩ := h; rfl) | (obtain ⟨_, _, _, _, _, _, _, _, _, _, _, rfl, _⟩ := h; rfl) | (obtain ⟨_, _, _, _, _, _, _, _, _, _, _, _, rfl, _⟩ := h; rfl) | (obtain ⟨_, _, _, _, _, _, _, _, _, _, _, _, _, rfl, _⟩ := h; rfl) | (obtain ⟨_, _, _, _, _, _, _, _, _, _, _, _, _, _, rfl, _⟩ := h; rfl) | (obtain ⟨_, _, _, _, _, _, _, _, _, _, _, _, _, _, _, rfl, _⟩ := h; rfl) | (obtain ⟨_, _, _, _, _, _, _, _, _, _, _, _, _, _, _, _, rfl, _⟩ := h; rfl) | (obtain ⟨_, _, _, _, _, _, _, _, _, _, _, _, _, _, _, _, _, rfl, _⟩ := h; rfl) | (obtain ⟨_, _, _, _, _, _, _, _, _, _, _, _, _, _, _, _, _, _, rfl, _⟩ := h; rfl) | (obtain ⟨_, _, _, _, _, _, _, _, _, _, _, _, _, _, _, _, _, _, _, rfl, _⟩ := h; rfl) | (obtain ⟨_, _, _, _, _, _, _, _, _, _, _, _, _, _, _, _, _, _, _, _, rfl, _⟩ := h; rfl) | (obtain ⟨_, _, _, _, _, _, _, _, _, _, _, _, _, _, _, _, _, _, _, _, _, rfl, _⟩ := h; rfl) | (obtain ⟨_, _, _, _, _, _, _, _, _, _, _, _, _, _, _, _, _, _, _, _, _, _, rfl, _⟩ := h; rfl) | (obtain ⟨_, _, _, _, _, _, _, _, _, _, _, _, _, _, _, _, _, _, _, _, _, _, _, rfl, _⟩ := h; rfl) | (obtain ⟨_, _, _, _, _, _, _, _, _, _, _, _, _, _, _, _, _, _, _, _, _, _, _, _, rfl, _⟩ := h; rfl) | (obtain ⟨_, _, _, _, _, _, _, _, _, _, _, _, _, _, _, _, _, _, _, _, _, _, _, _, _, rfl, _⟩ := h; rfl) | (obtain ⟨_, _, _, _, _, _, _, _, _, _, _, _, _, _, _, _, _, _, _, _, _, _, _, _, _, _, rfl, _⟩ := h; rfl) | (obtain ⟨_, _, _, _, _, _, _, _, _, _, _, _, _, _, _, _, _, _, _, _, _, _, _, _, _, _, _, rfl, _⟩ := h; rfl) | (obtain ⟨_, _, _, _, _, _, _, _, _, _, _, _, _, _, _, _, _, _, _, _, _, _, _, _, _, _, _, _, rfl, _⟩ := h; rfl) | (obtain ⟨_, _, _, _, _, _, _, _, _, _, _, _, _, _, _, _, _, _, _, _, _, _, _, _, _, _, _, _, _, rfl, _⟩ := h; rfl) | (obtain ⟨_, _, _, _, _, _, _, _, _, _, _, _, _, _, _, _, _, _, _, _, _, _, _, _, _, _, _, _, _, _, rfl, _⟩ := h; rfl)
  · exact (pss_cons (ps_if (pt_not (pt_truth (pv 0) (by intro _; rfl))) (pss_one (ps_ret pe_int)) pss_nil)
      (pss_cons (ps_if (PW.pt (pw_or (pt_not (pt_val (pe_bm PySem.F.plainAttrs_str PySem.F.slot_str_startswith PySem.F.type_str_startswith mt_startswith (pv 0) (pa_cons pe_str pa_nil)))) (pw_or1 (pt_cmpR op_gt (pe_callB call_len_str (by rfl) m_len PySem.boot_len (pa_cons (pv 0) pa_nil)) (pe_glob (by rfl) m_LONGEST_TAIL.choose_spec ⟨_, rfl⟩) (nomark _))))) (pss_one (ps_raiseC r_NotWritten rfl (takes_of rfl rfl rfl rfl) (by rfl))) pss_nil)
      (pss_cons (ps_set (i := 1) sc_P_power_of.nd rfl (Or.inl rfl) (pclS c_P_whole_number (takes_of rfl rfl rfl rfl) hr (by decide) (by rfl) (pa_cons (pe_slice sl_str (pv 0) (po_some pe_int) po_none) pa_nil)))
      (pss_cons (ps_if (pt_cmpR op_eq (pv 1) pe_int (nomark _)) (pss_one (ps_raiseC r_NotWritten rfl (takes_of rfl rfl rfl rfl) (by rfl))) pss_nil)
      (pss_one (ps_ret (pv 1)))))))
theorem ok_P_size_and_power {cs : Cs} {f : Addr} {fd : FuncData} (F : Fun K "_size_and_power" "_size_and_power" s_P_size_and_power f fd) (T : Tx K cs.PolyError [cs.NotWritten])   (c_P_power_of : ClX P w K mg base 2 "_power_of" (sp_P_power_of K cs)) (c_P_size_of : ClX P w K mg base 2 "_size_of" (sp_P_size_of K cs)) (c_P_whole_number : ClX P w K mg base 1 "_whole_number" (sp_P_whole_number K cs))  : FnOk P w K mg base (L2.CX P w) 3 f fd ["term"] (sp_P_size_and_power K cs) := by
  refine F.okX sc_P_size_and_power (fun vs H Q E h => ?_) (fun cdv A outer s H vs Q E hr h => ⟨t_P_size_and_power K cs E, ?_, run_P_size_and_power T (by simp) h⟩)
  · first | (obtain ⟨_, rfl, _⟩ := h; rfl) | (obtain ⟨_, _, rfl, _⟩ := h; rfl) | (obtain ⟨_, _, _, rfl, _⟩ := h; rfl) | (obtain ⟨_, _, _, _, rfl, _⟩ := h; rfl) | (obtain ⟨_, _, _, _, _, rfl, _⟩ := h; rfl) | (obtain ⟨_, _, _, _, _, _, rfl, _⟩ := h; rfl) | (obtain ⟨_, _, _, _, _, _, _, rfl, _⟩ := h; rfl) | (obtain ⟨_, _, _, _, _, _, _, _, rfl, _⟩ := h; rfl) | (obtain ⟨_, _, _, _, _, _, _, _, _, rfl, _⟩ := h; rfl) | (obtain ⟨_, _, _, _, _, _, _, _, _, _, rfl, _⟩ := h; rfl) | (obtain ⟨_, _, _, _, _, _, _, _, _, _, _, rfl, _⟩ := h; rfl) | (obtain ⟨_, _, _, _, _, _, _, _, _, _, _, _, rfl, _⟩ := h; rfl) | (obtain ⟨_, _, _, _, _, _, _, _, _, _, _, _, _, rfl, _⟩ := h; rfl) | (obtain ⟨_, _, _, _, _, _, _, _, _, _, _, _, _, _, rfl, _⟩ := h; rfl) | (obtain ⟨_, _, _, _, _, _, _, _, _, _, _, _, _, _, _, rfl, _⟩ := h; rfl) | (obtain ⟨_, _, _, _, _, _, _, _, _, _, _, _, _, _, _, _, rfl, _⟩ := h; rfl) | (obtain ⟨_, _, _, _, _, _, _, _, _, _, _, _, _, _, _, _, _, rfl, _⟩ := h; rfl) | (obtain ⟨_, _, _, _, _, _, _, _, _, _, _, _, _, _, _, _, _, _, rfl, _⟩ := h; rfl) | (obtain ⟨_, _, _, _, _, _, _, _, _, _, _, _, _, _, _, _, _, _, _, rfl, _⟩ := h; rfl) | (obtain ⟨_, _, _, _, _, _, _, _, _, _, _, _, _, _, _, _, _, _, _, _, rfl, _⟩ := h; rfl) | (obtain ⟨_, _, _, _, _, _, _, _, _, _, _, _, _, _, _, _, _, _, _, _, _, rfl, _⟩ := h; rfl) | (obtain ⟨_, _, _, _, _, _, _, _, _, _, _, _, _, _, _, _, _, _, _, _, _, _, rfl, _⟩ := h; rfl) | (obtain ⟨_, _, _, _, _, _, _, _, _, _, _, _, _, _, _, _, _, _, _, _, _, _, _, rfl, _⟩ := h; rfl) | (obtain ⟨_, _, _, _, _, _, _, _, _, _, _, _, _, _, _, _, _, _, _, _, _, _, _, _, rfl, _⟩ := h; rfl) | (obtain ⟨_, _, _, _, _, _, _, _, _, _, _, _, _, _, _, _, _, _, _, _, _, _, _, _, _, rfl, _⟩ := h; rfl) | (obtain ⟨_, _, _, _, _, _, _, _, _, _, _, _, _, _, _, _, _, _, _, _, _, _, _, _, _, _, rfl, _⟩ := h; rfl) | (obtain ⟨_, _, _, _, _, _, _, _, _, _, _, _, _, _, _, _, _, _, _, _, _, _, _, _, _, _, _, rfl, _⟩ := h; rfl) | (obtain ⟨_, _, _, _, _, _, _, _, _, _, _, _, _, _, _, _, _, _, _, _, _, _, _, _, _, _, _, _, rfl, _⟩ := h; rfl) | (obtain ⟨_, _, _, _, _, _, _, _, _, _, _, _, _, _, _, _, _, _, _, _, _, _, _, _, _, _, _, _, _, rfl, _⟩ := h; rfl) | (obtain ⟨_, _, _, _, _, _, _, _, _, _, _, _, _, _, _, _, _, _, _, _, _, _, _, _, _, _, _, _, _, _, rfl, _⟩ := h; rfl)
  · exact (pss_cons (ps_asg (pe_bm PySem.F.plainAttrs_str PySem.F.slot_str_partition PySem.F.type_str_partition mt_partition (pv 0) (pa_cons pe_str pa_nil)) (pg_tup rfl (pgs_cons (pg_name (i := 1) sc_P_size_and_power.nd rfl (Or.inl rfl)) (pgs_cons (pg_name (i := 2) sc_P_size_and_power.nd rfl (Or.inl rfl)) (pgs_cons (pg_name (i := 3) sc_P_size_and_power.nd rfl (Or.inl rfl)) pgs_nil)))))
      (pss_cons (ps_if (pt_not (pt_truth (pv 2) (by intro _; rfl))) (pss_one (ps_ret (pe_tup (pa_cons (pclS c_P_whole_number (takes_of rfl rfl rfl rfl) hr (by decide) (by rfl) (pa_cons (pv 1) pa_nil)) (pa_cons pe_int pa_nil))))) pss_nil)
      (pss_one (ps_ret (pe_tup (pa_cons (pclS c_P_size_of (takes_of rfl rfl rfl rfl) hr (by decide) (by rfl) (pa_cons (pv 1) pa_nil)) (pa_cons (pclS c_P_power_of (takes_of rfl rfl rfl rfl) hr (by decide) (by rfl) (pa_cons (pv 3) pa_nil)) pa_nil)))))))
theorem ok_P_signs_and_terms {f : Addr} {fd : FuncData} (F : Fun K "_signs_and_terms" "_signs_and_terms" s_P_signs_and_terms f fd)     : FnOk P w K mg base CX0 1 f fd ["line"] (sp_P_signs_and_terms K) := by
  refine F.ok sc_P_signs_and_terms (fun vs H Q E h => ?_) (fun cdv A outer s H vs Q E hr h => ⟨t_P_signs_and_terms K, ?_, run_P_signs_and_terms  h⟩)
  · first | (obtain ⟨_, rfl, _⟩ := h; rfl) | (obtain ⟨_, _, rfl, _⟩ := h; rfl) | (obtain ⟨_, _, _, rfl, _⟩ := h; rfl) | (obtain ⟨_, _, _, _, rfl, _⟩ := h; rfl) | (obtain ⟨_, _, _, _, _, rfl, _⟩ := h; rfl) | (obtain ⟨_, _, _, _, _, _, rfl, _⟩ := h; rfl) | (obtain ⟨_, _, _, _, _, _, _, rfl, _⟩ := h; rfl) | (obtain ⟨_, _, _, _, _, _, _, _, rfl, _⟩ := h; rfl) | (obtain ⟨_, _, _, _, _, _, _, _, _, rfl, _⟩ := h; rfl) | (obtain ⟨_, _, _, _, _, _, _, _, _, _, rfl, _⟩ := h; rfl) | (obtain ⟨_, _, _, _, _, _, _, _, _, _, _, rfl, _⟩ := h; rfl) | (obtain ⟨_, _, _, _, _, _, _, _, _, _, _, _, rfl, _⟩ := h; rfl) | (obtain ⟨_, _, _, _, _, _, _, _, _, _, _, _, _, rfl, _⟩ := h; rfl) | (obtain ⟨_, _, _, _, _, _, _, _, _, _, _, _, _, _, rfl, _⟩ := h; rfl) | (obtain ⟨_, _, _, _, _, _, _, _, _, _, _, _, _, _, _, rfl, _⟩ := h; rfl) | (obtain ⟨_, _, _, _, _, _, _, _, _, _, _, _, _, _, _, _, rfl, _⟩ := h; rfl) | (obtain ⟨_, _, _, _, _, _, _, _, _, _, _, _, _, _, _, _, _, rfl, _⟩ := h; rfl) | (obtain ⟨_, _, _, _, _, _, _, _, _, _, _, _, _, _, _, _, _, _, rfl, _⟩ := h; rfl) | (obtain ⟨_, _, _, _, _, _, _, _, _, _, _, _, _, _, _, _, _, _, _, rfl, _⟩ := h; rfl) | (obtain ⟨_, _, _, _, _, _, _, _, _, _, _, _, _, _, _, _, _, _, _, _, rfl, _⟩ := h; rfl) | (obtain ⟨_, _, _, _, _, _, _, _, _, _, _, _, _, _, _, _, _, _, _, _, _, rfl, _⟩ := h; rfl) | (obtain ⟨_, _, _, _, _, _, _, _, _, _, _, _, _, _, _, _, _, _, _, _, _, _, rfl, _⟩ := h; rfl) | (obtain ⟨_, _, _, _, _, _, _, _, _, _, _, _, _, _, _, _, _, _, _, _, _, _, _, rfl, _⟩ := h; rfl) | (obtain ⟨_, _, _, _, _, _, _, _, _, _, _, _, _, _, _, _, _, _, _, _, _, _, _, _, rfl, _⟩ := h; rfl) | (obtain ⟨_, _, _, _, _, _, _, _, _, _, _, _, _, _, _, _, _, _, _, _, _, _, _, _, _, rfl, _⟩ := h; rfl) | (obtain ⟨_, _, _, _, _, _, _, _, _, _, _, _, _, _, _, _, _, _, _, _, _, _, _, _, _, _, rfl, _⟩ := h; rfl) | (obtain ⟨_, _, _, _, _, _, _, _, _, _, _, _, _, _, _, _, _, _, _, _, _, _, _, _, _, _, _, rfl, _⟩ := h; rfl) | (obtain ⟨_, _, _, _, _, _, _, _, _, _, _, _, _, _, _, _, _, _, _, _, _, _, _, _, _, _, _, _, rfl, _⟩ := h; rfl) | (obtain ⟨_, _, _, _, _, _, _, _, _, _, _, _, _, _, _, _, _, _, _, _, _, _, _, _, _, _, _, _, _, rfl, _⟩ := h; rfl) | (obtain ⟨_, _, _, _, _, _, _, _, _, _, _, _, _, _, _, _, _, _, _, _, _, _, _, _, _, _, _, _, _, _, rfl, _⟩ := h; rfl)
  · exact (pss_cons (ps_if (pt_val (pe_bm PySem.F.plainAttrs_str PySem.F.slot_str_startswith PySem.F.type_str_startswith mt_startswith (pv 0) (pa_cons pe_str pa_nil))) (pss_one (ps_ret (pe_op op_cat (pe_lst (pa_cons pe_str pa_nil)) (pe_bm PySem.F.plainAttrs_str PySem.F.slot_str_split PySem.F.type_str_split mt_split (pe_slice sl_str (pv 0) (po_some pe_int) po_none) (pa_cons pe_str pa_nil))))) pss_nil)
      (pss_one (ps_ret (pe_op op_cat (pe_lst (pa_cons pe_str pa_nil)) (pe_bm PySem.F.plainAttrs_str PySem.F.slot_str_split PySem.F.type_str_split mt_split (pv 0) (pa_cons pe_str pa_nil))))))
theorem ok_P_read {cs : Cs} {f : Addr} {fd : FuncData} (F : Fun K "read" "read" s_P_read f fd) (T : Tx K cs.PolyError [cs.NotWritten]) (r_NotWritten : RsX K mg "NotWritten" cs.NotWritten)  (c_P_size_and_power : ClX P w K mg base 3 "_size_and_power" (sp_P_size_and_power K cs)) (c_P_signs_and_terms : Cl P w K mg base 1 "_signs_and_terms" (sp_P_signs_and_terms K)) (m_GREATEST_POWER : ∃ t, mg "GREATEST_POWER" = some (.int 99 t)) (m_len : mg "len" = none) (m_zip : mg "zip" = none) : FnOk P w K mg base (L2.CX P w) 4 f fd ["line"] (sp_P_read K cs) := by
  refine F.okX sc_P_read (fun vs H Q E h => ?_) (fun cdv A outer s H vs Q E hr h => ⟨t_P_read K cs E, ?_, run_P_read T (by simp) h⟩)
  · first | (obtain ⟨_, rfl, _⟩ := h; rfl) | (obtain ⟨_, _, rfl, _⟩ := h; rfl) | (obtain ⟨_, _, _, rfl, _⟩ := h; rfl) | (obtain ⟨_, _, _, _, rfl, _⟩ := h; rfl) | (obtain ⟨_, _, _, _, _, rfl, _⟩ := h; rfl) | (obtain ⟨_, _, _, _, _, _, rfl, _⟩ := h; rfl) | (obtain ⟨_, _, _, _, _, _, _, rfl, _⟩ := h; rfl) | (obtain ⟨_, _, _, _, _, _, _, _, rfl, _⟩ := h; rfl) | (obtain ⟨_, _, _, _, _, _, _, _, _, rfl, _⟩ := h; rfl) | (obtain ⟨_, _, _, _, _, _, _, _, _, _, rfl, _⟩ := h; rfl) | (obtain ⟨_, _, _, _, _, _, _, _, _, _, _, rfl, _⟩ := h; rfl) | (obtain ⟨_, _, _, _, _, _, _, _, _, _, _, _, rfl, _⟩ := h; rfl) | (obtain ⟨_, _, _, _, _, _, _, _, _, _, _, _, _, rfl, _⟩ := h; rfl) | (obtain ⟨_, _, _, _, _, _, _, _, _, _, _, _, _, _, rfl, _⟩ := h; rfl) | (obtain ⟨_, _, _, _, _, _, _, _, _, _, _, _, _, _, _, rfl, _⟩ := h; rfl) | (obtain ⟨_, _, _, _, _, _, _, _, _, _, _, _, _, _, _, _, rfl, _⟩ := h; rfl) | (obtain ⟨_, _, _, _, _, _, _, _, _, _, _, _, _, _, _, _, _, rfl, _⟩ := h; rfl) | (obtain ⟨_, _, _, _, _, _, _, _, _, _, _, _, _, _, _, _, _, _, rfl, _⟩ := h; rfl) | (obtain ⟨_, _, _, _, _, _, _, _, _, _, _, _, _, _, _, _, _, _, _, rfl, _⟩ := h; rfl) | (obtain ⟨_, _, _, _, _, _, _, _, _, _, _, _, _, _, _, _, _, _, _, _, rfl, _⟩ := h; rfl) | (obtain ⟨_, _, _, _, _, _, _, _, _, _, _, _, _, _, _, _, _, _, _, _, _, rfl, _⟩ := h; rfl) | (obtain ⟨_, _, _, _, _, _, _, _, _, _, _, _, _, _, _, _, _, _, _, _, _, _, rfl, _⟩ := h; rfl) | (obtain ⟨_, _, _, _, _, _, _, _, _, _, _, _, _, _, _, _, _, _, _, _, _, _, _, rfl, _⟩ := h; rfl) | (obtain ⟨_, _, _, _, _, _, _, _, _, _, _, _, _, _, _, _, _, _, _, _, _, _, _, _, rfl, _⟩ := h; rfl) | (obtain ⟨_, _, _, _, _, _, _, _, _, _, _, _, _, _, _, _, _, _, _, _, _, _, _, _, _, rfl, _⟩ := h; rfl) | (obtain ⟨_, _, _, _, _, _, _, _, _, _, _, _, _, _, _, _, _, _, _, _, _, _, _, _, _, _, rfl, _⟩ := h; rfl) | (obtain ⟨_, _, _, _, _, _, _, _, _, _, _, _, _, _, _, _, _, _, _, _, _, _, _, _, _, _, _, rfl, _⟩ := h; rfl) | (obtain ⟨_, _, _, _, _, _, _, _, _, _, _, _, _, _, _, _, _, _, _, _, _, _, _, _, _, _, _, _, rfl, _⟩ := h; rfl) | (obtain ⟨_, _, _, _, _, _, _, _, _, _, _, _, _, _, _, _, _, _, _, _, _, _, _, _, _, _, _, _, _, rfl, _⟩ := h; rfl) | (obtain ⟨_, _, _, _, _, _, _, _, _, _, _, _, _, _, _, _, _, _, _, _, _, _, _, _, _, _, _, _, _, _, rfl, _⟩ := h; rfl)
  · exact (pss_cons (ps_if (pt_cmpR op_eq (pv 0) pe_str (nomark _)) (pss_one (ps_ret (pe_lst pa_nil))) pss_nil)
      (pss_cons (ps_set (i := 1) sc_P_read.nd rfl (Or.inl rfl) (pcl c_P_signs_and_terms hr (by decide) (by rfl) (pa_cons (pv 0) pa_nil)))
      (pss_cons (ps_if (pt_truth (pe_op op_odd (pe_callB call_len_seq (by rfl) m_len PySem.boot_len (pa_cons (pv 1) pa_nil)) pe_int) (by intro _; rfl)) (pss_one (ps_raiseC r_NotWritten rfl (takes_of rfl rfl rfl rfl) (by rfl))) pss_nil)
      (pss_cons (ps_set (i := 2) sc_P_read.nd rfl (Or.inl rfl) (pe_lst pa_nil))
      (pss_cons (ps_set (i := 3) sc_P_read.nd rfl (Or.inl rfl) (pe_op op_add (pe_glob (by rfl) m_GREATEST_POWER.choose_spec ⟨_, rfl⟩) pe_int))
      (pss_cons (ps_for (passes_of rfl) rfl (RZ.pi_zipA (by rfl) m_zip (pa_cons (pe_stepL (pv 1)) (pa_cons (pe_stepL (pv 1)) pa_nil))) (pg_tup rfl (pgs_cons (pg_name (i := 4) sc_P_read.nd rfl (Or.inl rfl)) (pgs_cons (pg_name (i := 5) sc_P_read.nd rfl (Or.inl rfl)) pgs_nil))) (pss_cons (ps_asg (pclS c_P_size_and_power (takes_of rfl rfl rfl rfl) hr (by decide) (by rfl) (pa_cons (pv 5) pa_nil)) (pg_tup rfl (pgs_cons (pg_name (i := 6) sc_P_read.nd rfl (Or.inl rfl)) (pgs_cons (pg_name (i := 7) sc_P_read.nd rfl (Or.inl rfl)) pgs_nil))))
      (pss_cons (ps_if (PW.pt (pw_or (pt_cmpR op_notIn_seq (pv 4) (pe_tup (pa_cons pe_str (pa_cons pe_str pa_nil))) (by rfl)) (pw_or1 (pt_cmpR op_ge (pv 7) (pv 3) (nomark _))))) (pss_one (ps_raiseC r_NotWritten rfl (takes_of rfl rfl rfl rfl) (by rfl))) pss_nil)
      (pss_cons (ps_set (i := 3) sc_P_read.nd rfl (Or.inl rfl) (pv 7))
      (pss_cons (ps_if (pt_not (pt_truth (pv 2) (by intro _; rfl))) (pss_one (ps_set (i := 2) sc_P_read.nd rfl (Or.inl rfl) (pe_op op_rep (pe_lst (pa_cons pe_int pa_nil)) (pe_op op_add (pv 7) pe_int)))) pss_nil)
      (pss_one (ps_asg (pe_ifExp (pt_cmpR op_eq (pv 4) pe_str (nomark _)) (pe_un un_neg (pv 6)) (pv 6)) (pg_sub (pv 2) (pv 7) set_list))))))))
      (pss_one (ps_ret (pv 2)))))))))
theorem ok_L_whole {f : Addr} {fd : FuncData} (F : Fun K "_law_whole" "_law_whole" s_L_whole f fd)    (m_bool : mg "bool" = none) (m_int : mg "int" = none) (m_isinstance : mg "isinstance" = none) : FnOk P w K mg base CX0 1 f fd ["_law_found"] (sp_L_whole K) := by
  refine F.ok sc_L_whole (fun vs H Q E h => ?_) (fun cdv A outer s H vs Q E hr h => ⟨t_L_whole K, ?_, run_L_whole  h⟩)
  · first | (obtain ⟨_, rfl, _⟩ := h; rfl) | (obtain ⟨_, _, rfl, _⟩ := h; rfl) | (obtain ⟨_, _, _, rfl, _⟩ := h; rfl) | (obtain ⟨_, _, _, _, rfl, _⟩ := h; rfl) | (obtain ⟨_, _, _, _, _, rfl, _⟩ := h; rfl) | (obtain ⟨_, _, _, _, _, _, rfl, _⟩ := h; rfl) | (obtain ⟨_, _, _, _, _, _, _, rfl, _⟩ := h; rfl) | (obtain ⟨_, _, _, _, _, _, _, _, rfl, _⟩ := h; rfl) | (obtain ⟨_, _, _, _, _, _, _, _, _, rfl, _⟩ := h; rfl) | (obtain ⟨_, _, _, _, _, _, _, _, _, _, rfl, _⟩ := h; rfl) | (obtain ⟨_, _, _, _, _, _, _, _, _, _, _, rfl, _⟩ := h; rfl) | (obtain ⟨_, _, _, _, _, _, _, _, _, _, _, _, rfl, _⟩ := h; rfl) | (obtain ⟨_, _, _, _, _, _, _, _, _, _, _, _, _, rfl, _⟩ := h; rfl) | (obtain ⟨_, _, _, _, _, _, _, _, _, _, _, _, _, _, rfl, _⟩ := h; rfl) | (obtain ⟨_, _, _, _, _, _, _, _, _, _, _, _, _, _, _, rfl, _⟩ := h; rfl) | (obtain ⟨_, _, _, _, _, _, _, _, _, _, _, _, _, _, _, _, rfl, _⟩ := h; rfl) | (obtain ⟨_, _, _, _, _, _, _, _, _, _, _, _, _, _, _, _, _, rfl, _⟩ := h; rfl) | (obtain ⟨_, _, _, _, _, _, _, _, _, _, _, _, _, _, _, _, _, _, rfl, _⟩ := h; rfl) | (obtain ⟨_, _, _, _, _, _, _, _, _, _, _, _, _, _, _, _, _, _, _, rfl, _⟩ := h; rfl) | (obtain ⟨_, _, _, _, _, _, _, _, _, _, _, _, _, _, _, _, _, _, _, _, rfl, _⟩ := h; rfl) | (obtain ⟨_, _, _, _, _, _, _, _, _, _, _, _, _, _, _, _, _, _, _, _, _, rfl, _⟩ := h; rfl) | (obtain ⟨_, _, _, _, _, _, _, _, _, _, _, _, _, _, _, _, _, _, _, _, _, _, rfl, _⟩ := h; rfl) | (obtain ⟨_, _, _, _, _, _, _, _, _, _, _, _, _, _, _, _, _, _, _, _, _, _, _, rfl, _⟩ := h; rfl) | (obtain ⟨_, _, _, _, _, _, _, _, _, _, _, _, _, _, _, _, _, _, _, _, _, _, _, _, rfl, _⟩ := h; rfl) | (obtain ⟨_, _, _, _, _, _, _, _, _, _, _, _, _, _, _, _, _, _, _, _, _, _, _, _, _, rfl, _⟩ := h; rfl) | (obtain ⟨_, _, _, _, _, _, _, _, _, _, _, _, _, _, _, _, _, _, _, _, _, _, _, _, _, _, rfl, _⟩ := h; rfl) | (obtain ⟨_, _, _, _, _, _, _, _, _, _, _, _, _, _, _, _, _, _, _, _, _, _, _, _, _, _, _, rfl, _⟩ := h; rfl) | (obtain ⟨_, _, _, _, _, _, _, _, _, _, _, _, _, _, _, _, _, _, _, _, _, _, _, _, _, _, _, _, rfl, _⟩ := h; rfl) | (obtain ⟨_, _, _, _, _, _, _, _, _, _, _, _, _, _, _, _, _, _, _, _, _, _, _, _, _, _, _, _, _, rfl, _⟩ := h; rfl) | (obtain ⟨_, _, _, _, _, _, _, _, _, _, _, _, _, _, _, _, _, _, _, _, _, _, _, _, _, _, _, _, _, _, rfl, _⟩ := h; rfl)
  · exact (pss_one (ps_ret (pe_and (pe_callB call_isi (by rfl) m_isinstance (by decide +kernel) (pa_cons (pv 0) (pa_cons (pe_bltn (by rfl) m_int (by decide +kernel) rfl) pa_nil))) (pe_one (pe_not (pe_callB call_isi (by rfl) m_isinstance (by decide +kernel) (pa_cons (pv 0) (pa_cons (pe_bltn (by rfl) m_bool (by decide +kernel) rfl) pa_nil))))))))
theorem ok_L_cell_at {f : Addr} {fd : FuncData} (F : Fun K "_law_cell_at" "_law_cell_at" s_L_cell_at f fd)    (m_len : mg "len" = none) : FnOk P w K mg base CX0 1 f fd ["_law_script", "_law_k"] (sp_L_cell_at K) := by
  refine F.ok sc_L_cell_at (fun vs H Q E h => ?_) (fun cdv A outer s H vs Q E hr h => ⟨t_L_cell_at K, ?_, run_L_cell_at  h⟩)
  · first | (obtain ⟨_, rfl, _⟩ := h; rfl) | (obtain ⟨_, _, rfl, _⟩ := h; rfl) | (obtain ⟨_, _, _, rfl, _⟩ := h; rfl) | (obtain ⟨_, _, _, _, rfl, _⟩ := h; rfl) | (obtain ⟨_, _, _, _, _, rfl, _⟩ := h; rfl) | (obtain ⟨_, _, _, _, _, _, rfl, _⟩ := h; rfl) | (obtain ⟨_, _, _, _, _, _, _, rfl, _⟩ := h; rfl) | (obtain ⟨_, _, _, _, _, _, _, _, rfl, _⟩ := h; rfl) | (obtain ⟨_, _, _, _, _, _, _, _, _, rfl, _⟩ := h; rfl) | (obtain ⟨_, _, _, _, _, _, _, _, _, _, rfl, _⟩ := h; rfl) | (obtain ⟨_, _, _, _, _, _, _, _, _, _, _, rfl, _⟩ := h; rfl) | (obtain ⟨_, _, _, _, _, _, _, _, _, _, _, _, rfl, _⟩ := h; rfl) | (obtain ⟨_, _, _, _, _, _, _, _, _, _, _, _, _, rfl, _⟩ := h; rfl) | (obtain ⟨_, _, _, _, _, _, _, _, _, _, _, _, _, _, rfl, _⟩ := h; rfl) | (obtain ⟨_, _, _, _, _, _, _, _, _, _, _, _, _, _, _, rfl, _⟩ := h; rfl) | (obtain ⟨_, _, _, _, _, _, _, _, _, _, _, _, _, _, _, _, rfl, _⟩ := h; rfl) | (obtain ⟨_, _, _, _, _, _, _, _, _, _, _, _, _, _, _, _, _, rfl, _⟩ := h; rfl) | (obtain ⟨_, _, _, _, _, _, _, _, _, _, _, _, _, _, _, _, _, _, rfl, _⟩ := h; rfl) | (obtain ⟨_, _, _, _, _, _, _, _, _, _, _, _, _, _, _, _, _, _, _, rfl, _⟩ := h; rfl) | (obtain ⟨_, _, _, _, _, _, _, _, _, _, _, _, _, _, _, _, _, _, _, _, rfl, _⟩ := h; rfl) | (obtain ⟨_, _, _, _, _, _, _, _, _, _, _, _, _, _, _, _, _, _, _, _, _, rfl, _⟩ := h; rfl) | (obtain ⟨_, _, _, _, _, _, _, _, _, _, _, _, _, _, _, _, _, _, _, _, _, _, rfl, _⟩ := h; rfl) | (obtain ⟨_, _, _, _, _, _, _, _, _, _, _, _, _, _, _, _, _, _, _, _, _, _, _, rfl, _⟩ := h; rfl) | (obtain ⟨_, _, _, _, _, _, _, _, _, _, _, _, _, _, _, _, _, _, _, _, _, _, _, _, rfl, _⟩ := h; rfl) | (obtain ⟨_, _, _, _, _, _, _, _, _, _, _, _, _, _, _, _, _, _, _, _, _, _, _, _, _, rfl, _⟩ := h; rfl) | (obtain ⟨_, _, _, _, _, _, _, _, _, _, _, _, _, _, _, _, _, _, _, _, _, _, _, _, _, _, rfl, _⟩ := h; rfl) | (obtain ⟨_, _, _, _, _, _, _, _, _, _, _, _, _, _, _, _, _, _, _, _, _, _, _, _, _, _, _, rfl, _⟩ := h; rfl) | (obtain ⟨_, _, _, _, _, _, _, _, _, _, _, _, _, _, _, _, _, _, _, _, _, _, _, _, _, _, _, _, rfl, _⟩ := h; rfl) | (obtain ⟨_, _, _, _, _, _, _, _, _, _, _, _, _, _, _, _, _, _, _, _, _, _, _, _, _, _, _, _, _, rfl, _⟩ := h; rfl) | (obtain ⟨_, _, _, _, _, _, _, _, _, _, _, _, _, _, _, _, _, _, _, _, _, _, _, _, _, _, _, _, _, _, rfl, _⟩ := h; rfl)
  · exact (pss_cons (ps_if (pt_cmpR op_lt (pv 1) (pe_callB call_len_seq (by rfl) m_len PySem.boot_len (pa_cons (pv 0) pa_nil)) (nomark _)) (pss_one (ps_ret (pe_ix ix_list (pv 0) (pv 1) (fun _ _ => rfl)))) pss_nil)
      (pss_one (ps_ret pe_int)))
theorem ok_L_trim {f : Addr} {fd : FuncData} (F : Fun K "_law_trim" "_law_trim" s_L_trim f fd)    (m_len : mg "len" = none) : FnOk P w K mg base CX0 1 f fd ["_law_row"] (sp_L_trim K) := by
  refine F.ok sc_L_trim (fun vs H Q E h => ?_) (fun cdv A outer s H vs Q E hr h => ⟨t_L_trim K, ?_, run_L_trim  h⟩)
  · first | (obtain ⟨_, rfl, _⟩ := h; rfl) | (obtain ⟨_, _, rfl, _⟩ := h; rfl) | (obtain ⟨_, _, _, rfl, _⟩ := h; rfl) | (obtain ⟨_, _, _, _, rfl, _⟩ := h; rfl) | (obtain ⟨_, _, _, _, _, rfl, _⟩ := h; rfl) | (obtain ⟨_, _, _, _, _, _, rfl, _⟩ := h; rfl) | (obtain ⟨_, _, _, _, _, _, _, rfl, _⟩ := h; rfl) | (obtain ⟨_, _, _, _, _, _, _, _, rfl, _⟩ := h; rfl) | (obtain ⟨_, _, _, _, _, _, _, _, _, rfl, _⟩ := h; rfl) | (obtain ⟨_, _, _, _, _, _, _, _, _, _, rfl, _⟩ := h; rfl) | (obtain ⟨_, _, _, _, _, _, _, _, _, _, _, rfl, _⟩ := h; rfl) | (obtain ⟨_, _, _, _, _, _, _, _, _, _, _, _, rfl, _⟩ := h; rfl) | (obtain ⟨_, _, _, _, _, _, _, _, _, _, _, _, _, rfl, _⟩ := h; rfl) | (obtain ⟨_, _, _, _, _, _, _, _, _, _, _, _, _, _, rfl, _⟩ := h; rfl) | (obtain ⟨_, _, _, _, _, _, _, _, _, _, _, _, _, _, _, rfl, _⟩ := h; rfl) | (obtain ⟨_, _, _, _, _, _, _, _, _, _, _, _, _, _, _, _, rfl, _⟩ := h; rfl) | (obtain ⟨_, _, _, _, _, _, _, _, _, _, _, _, _, _, _, _, _, rfl, _⟩ := h; rfl) | (obtain ⟨_, _, _, _, _, _, _, _, _, _, _, _, _, _, _, _, _, _, rfl, _⟩ := h; rfl) | (obtain ⟨_, _, _, _, _, _, _, _, _, _, _, _, _, _, _, _, _, _, _, rfl, _⟩ := h; rfl) | (obtain ⟨_, _, _, _, _, _, _, _, _, _, _, _, _, _, _, _, _, _, _, _, rfl, _⟩ := h; rfl) | (obtain ⟨_, _, _, _, _, _, _, _, _, _, _, _, _, _, _, _, _, _, _, _, _, rfl, _⟩ := h; rfl) | (obtain ⟨_, _, _, _, _, _, _, _, _, _, _, _, _, _, _, _, _, _, _, _, _, _, rfl, _⟩ := h; rfl) | (obtain ⟨_, _, _, _, _, _, _, _, _, _, _, _, _, _, _, _, _, _, _, _, _, _, _, rfl, _⟩ := h; rfl) | (obtain ⟨_, _, _, _, _, _, _, _, _, _, _, _, _, _, _, _, _, _, _, _, _, _, _, _, rfl, _⟩ := h; rfl) | (obtain ⟨_, _, _, _, _, _, _, _, _, _, _, _, _, _, _, _, _, _, _, _, _, _, _, _, _, rfl, _⟩ := h; rfl) | (obtain ⟨_, _, _, _, _, _, _, _, _, _, _, _, _, _, _, _, _, _, _, _, _, _, _, _, _, _, rfl, _⟩ := h; rfl) | (obtain ⟨_, _, _, _, _, _, _, _, _, _, _, _, _, _, _, _, _, _, _, _, _, _, _, _, _, _, _, rfl, _⟩ := h; rfl) | (obtain ⟨_, _, _, _, _, _, _, _, _, _, _, _, _, _, _, _, _, _, _, _, _, _, _, _, _, _, _, _, rfl, _⟩ := h; rfl) | (obtain ⟨_, _, _, _, _, _, _, _, _, _, _, _, _, _, _, _, _, _, _, _, _, _, _, _, _, _, _, _, _, rfl, _⟩ := h; rfl) | (obtain ⟨_, _, _, _, _, _, _, _, _, _, _, _, _, _, _, _, _, _, _, _, _, _, _, _, _, _, _, _, _, _, rfl, _⟩ := h; rfl)
  · exact (pss_cons (ps_set (i := 1) sc_L_trim.nd rfl (Or.inl rfl) (pe_callB call_len_seq (by rfl) m_len PySem.boot_len (pa_cons (pv 0) pa_nil)))
      (pss_cons (ps_while PassesOwn.never (PW.pt (pw_and (pt_cmpR op_gt (pv 1) pe_int (nomark _)) (pw_and1 (pt_cmpR op_eq (pe_ix ix_list (pv 0) (pe_op op_sub (pv 1) pe_int) (fun _ _ => rfl)) pe_int (nomark _))))) (pss_one (ps_set (i := 1) sc_L_trim.nd rfl (Or.inl rfl) (pe_op op_sub (pv 1) pe_int))))
      (pss_one (ps_ret (pe_slice sl_list (pv 0) po_none (po_some (pv 1)))))))
theorem ok_L_same {f : Addr} {fd : FuncData} (F : Fun K "_law_same" "_law_same" s_L_same f fd)   (c_L_whole : Cl P w K mg base 1 "_law_whole" (sp_L_whole K)) (m_isinstance : mg "isinstance" = none) (m_len : mg "len" = none) (m_list : mg "list" = none) (m_range : mg "range" = none) : FnOk P w K mg base CX0 2 f fd ["_law_found", "_law_due"] (sp_L_same K) := by
  refine F.ok sc_L_same (fun vs H Q E h => ?_) (fun cdv A outer s H vs Q E hr h => ⟨t_L_same K, ?_, run_L_same  h⟩)
  · first | (obtain ⟨_, rfl, _⟩ := h; rfl) | (obtain ⟨_, _, rfl, _⟩ := h; rfl) | (obtain ⟨_, _, _, rfl, _⟩ := h; rfl) | (obtain ⟨_, _, _, _, rfl, _⟩ := h; rfl) | (obtain ⟨_, _, _, _, _, rfl, _⟩ := h; rfl) | (obtain ⟨_, _, _, _, _, _, rfl, _⟩ := h; rfl) | (obtain ⟨_, _, _, _, _, _, _, rfl, _⟩ := h; rfl) | (obtain ⟨_, _, _, _, _, _, _, _, rfl, _⟩ := h; rfl) | (obtain ⟨_, _, _, _, _, _, _, _, _, rfl, _⟩ := h; rfl) | (obtain ⟨_, _, _, _, _, _, _, _, _, _, rfl, _⟩ := h; rfl) | (obtain ⟨_, _, _, _, _, _, _, _, _, _, _, rfl, _⟩ := h; rfl) | (obtain ⟨_, _, _, _, _, _, _, _, _, _, _, _, rfl, _⟩ := h; rfl) | (obtain ⟨_, _, _, _, _, _, _, _, _, _, _, _, _, rfl, _⟩ := h; rfl) | (obtain ⟨_, _, _, _, _, _, _, _, _, _, _, _, _, _, rfl, _⟩ := h; rfl) | (obtain ⟨_, _, _, _, _, _, _, _, _, _, _, _, _, _, _, rfl, _⟩ := h; rfl) | (obtain ⟨_, _, _, _, _, _, _, _, _, _, _, _, _, _, _, _, rfl, _⟩ := h; rfl) | (obtain ⟨_, _, _, _, _, _, _, _, _, _, _, _, _, _, _, _, _, rfl, _⟩ := h; rfl) | (obtain ⟨_, _, _, _, _, _, _, _, _, _, _, _, _, _, _, _, _, _, rfl, _⟩ := h; rfl) | (obtain ⟨_, _, _, _, _, _, _, _, _, _, _, _, _, _, _, _, _, _, _, rfl, _⟩ := h; rfl) | (obtain ⟨_, _, _, _, _, _, _, _, _, _, _, _, _, _, _, _, _, _, _, _, rfl, _⟩ := h; rfl) | (obtain ⟨_, _, _, _, _, _, _, _, _, _, _, _, _, _, _, _, _, _, _, _, _, rfl, _⟩ := h; rfl) | (obtain ⟨_, _, _, _, _, _, _, _, _, _, _, _, _, _, _, _, _, _, _, _, _, _, rfl, _⟩ := h; rfl) | (obtain ⟨_, _, _, _, _, _, _, _, _, _, _, _, _, _, _, _, _, _, _, _, _, _, _, rfl, _⟩ := h; rfl) | (obtain ⟨_, _, _, _, _, _, _, _, _, _, _, _, _, _, _, _, _, _, _, _, _, _, _, _, rfl, _⟩ := h; rfl) | (obtain ⟨_, _, _, _, _, _, _, _, _, _, _, _, _, _, _, _, _, _, _, _, _, _, _, _, _, rfl, _⟩ := h; rfl) | (obtain ⟨_, _, _, _, _, _, _, _, _, _, _, _, _, _, _, _, _, _, _, _, _, _, _, _, _, _, rfl, _⟩ := h; rfl) | (obtain ⟨_, _, _, _, _, _, _, _, _, _, _, _, _, _, _, _, _, _, _, _, _, _, _, _, _, _, _, rfl, _⟩ := h; rfl) | (obtain ⟨_, _, _, _, _, _, _, _, _, _, _, _, _, _, _, _, _, _, _, _, _, _, _, _, _, _, _, _, rfl, _⟩ := h; rfl) | (obtain ⟨_, _, _, _, _, _, _, _, _, _, _, _, _, _, _, _, _, _, _, _, _, _, _, _, _, _, _, _, _, rfl, _⟩ := h; rfl) | (obtain ⟨_, _, _, _, _, _, _, _, _, _, _, _, _, _, _, _, _, _, _, _, _, _, _, _, _, _, _, _, _, _, rfl, _⟩ := h; rfl)
  · exact (pss_cons (ps_if (PW.pt (pw_or (pt_not (pt_val (pe_callB call_isi (by rfl) m_isinstance (by decide +kernel) (pa_cons (pv 0) (pa_cons (pe_bltn (by rfl) m_list (by decide +kernel) rfl) pa_nil))))) (pw_or1 (pt_cmpR op_ne (pe_callB call_len_seq (by rfl) m_len PySem.boot_len (pa_cons (pv 0) pa_nil)) (pe_callB call_len_seq (by rfl) m_len PySem.boot_len (pa_cons (pv 1) pa_nil)) (nomark _))))) (pss_one (ps_ret pe_bl)) pss_nil)
      (pss_cons (ps_for PassesOwn.never rfl (pi_range1 (by rfl) m_range (pa_cons (pe_callB call_len_seq (by rfl) m_len PySem.boot_len (pa_cons (pv 1) pa_nil)) pa_nil)) (pg_name (i := 2) sc_L_same.nd rfl (Or.inl rfl)) (pss_one (ps_if (PW.pt (pw_or (pt_not (pt_val (pcl c_L_whole hr (by decide) (by rfl) (pa_cons (pe_ix ix_list (pv 0) (pv 2) (fun _ _ => rfl)) pa_nil)))) (pw_or1 (pt_cmpR op_ne (pe_ix ix_list (pv 0) (pv 2) (fun _ _ => rfl)) (pe_ix ix_list (pv 1) (pv 2) (fun _ _ => rfl)) (nomark _))))) (pss_one (ps_ret pe_bl)) pss_nil)))
      (pss_one (ps_ret pe_bl))))
theorem ok_L_number {f : Addr} {fd : FuncData} (F : Fun K "_law_number" "_law_number" s_L_number f fd)     : FnOk P w K mg base CX0 1 f fd ["_law_cell"] (sp_L_number K) := by
  refine F.ok sc_L_number (fun vs H Q E h => ?_) (fun cdv A outer s H vs Q E hr h => ⟨t_L_number K, ?_, run_L_number  h⟩)
  · first | (obtain ⟨_, rfl, _⟩ := h; rfl) | (obtain ⟨_, _, rfl, _⟩ := h; rfl) | (obtain ⟨_, _, _, rfl, _⟩ := h; rfl) | (obtain ⟨_, _, _, _, rfl, _⟩ := h; rfl) | (obtain ⟨_, _, _, _, _, rfl, _⟩ := h; rfl) | (obtain ⟨_, _, _, _, _, _, rfl, _⟩ := h; rfl) | (obtain ⟨_, _, _, _, _, _, _, rfl, _⟩ := h; rfl) | (obtain ⟨_, _, _, _, _, _, _, _, rfl, _⟩ := h; rfl) | (obtain ⟨_, _, _, _, _, _, _, _, _, rfl, _⟩ := h; rfl) | (obtain ⟨_, _, _, _, _, _, _, _, _, _, rfl, _⟩ := h; rfl) | (obtain ⟨_, _, _, _, _, _, _, _, _, _, _, rfl, _⟩ := h; rfl) | (obtain ⟨_, _, _, _, _, _, _, _, _, _, _, _, rfl, _⟩ := h; rfl) | (obtain ⟨_, _, _, _, _, _, _, _, _, _, _, _, _, rfl, _⟩ := h; rfl) | (obtain ⟨_, _, _, _, _, _, _, _, _, _, _, _, _, _, rfl, _⟩ := h; rfl) | (obtain ⟨_, _, _, _, _, _, _, _, _, _, _, _, _, _, _, rfl, _⟩ := h; rfl) | (obtain ⟨_, _, _, _, _, _, _, _, _, _, _, _, _, _, _, _, rfl, _⟩ := h; rfl) | (obtain ⟨_, _, _, _, _, _, _, _, _, _, _, _, _, _, _, _, _, rfl, _⟩ := h; rfl) | (obtain ⟨_, _, _, _, _, _, _, _, _, _, _, _, _, _, _, _, _, _, rfl, _⟩ := h; rfl) | (obtain ⟨_, _, _, _, _, _, _, _, _, _, _, _, _, _, _, _, _, _, _, rfl, _⟩ := h; rfl) | (obtain ⟨_, _, _, _, _, _, _, _, _, _, _, _, _, _, _, _, _, _, _, _, rfl, _⟩ := h; rfl) | (obtain ⟨_, _, _, _, _, _, _, _, _, _, _, _, _, _, _, _, _, _, _, _, _, rfl, _⟩ := h; rfl) | (obtain ⟨_, _, _, _, _, _, _, _, _, _, _, _, _, _, _, _, _, _, _, _, _, _, rfl, _⟩ := h; rfl) | (obtain ⟨_, _, _, _, _, _, _, _, _, _, _, _, _, _, _, _, _, _, _, _, _, _, _, rfl, _⟩ := h; rfl) | (obtain ⟨_, _, _, _, _, _, _, _, _, _, _, _, _, _, _, _, _, _, _, _, _, _, _, _, rfl, _⟩ := h; rfl) | (obtain ⟨_, _, _, _, _, _, _, _, _, _, _, _, _, _, _, _, _, _, _, _, _, _, _, _, _, rfl, _⟩ := h; rfl) | (obtain ⟨_, _, _, _, _, _, _, _, _, _, _, _, _, _, _, _, _, _, _, _, _, _, _, _, _, _, rfl, _⟩ := h; rfl) | (obtain ⟨_, _, _, _, _, _, _, _, _, _, _, _, _, _, _, _, _, _, _, _, _, _, _, _, _, _, _, rfl, _⟩ := h; rfl) | (obtain ⟨_, _, _, _, _, _, _, _, _, _, _, _, _, _, _, _, _, _, _, _, _, _, _, _, _, _, _, _, rfl, _⟩ := h; rfl) | (obtain ⟨_, _, _, _, _, _, _, _, _, _, _, _, _, _, _, _, _, _, _, _, _, _, _, _, _, _, _, _, _, rfl, _⟩ := h; rfl) | (obtain ⟨_, _, _, _, _, _, _, _, _, _, _, _, _, _, _, _, _, _, _, _, _, _, _, _, _, _, _, _, _, _, rfl, _⟩ := h; rfl)
  · exact (pss_cons (ps_if (pt_cmpR op_eq (pe_op op_mod (pv 0) pe_int) pe_int (nomark _)) (pss_one (ps_ret pe_int)) pss_nil)
      (pss_cons (ps_if (pt_cmpR op_eq (pe_op op_mod (pv 0) pe_int) pe_int (nomark _)) (pss_one (ps_ret (pe_op op_mulX (pe_op op_sub pe_int (pe_op op_mulX (pe_op op_mod (pe_op op_fdivW (pv 0) pe_int) pe_int) pe_int)) (pe_op op_mod (pe_op op_fdivW (pv 0) pe_int) (pe_op op_pow pe_int pe_int))))) pss_nil)
      (pss_cons (ps_if (pt_cmpR op_lt (pe_op op_mod (pv 0) pe_int) pe_int (nomark _)) (pss_one (ps_ret (pe_op op_sub (pe_op op_mod (pe_op op_fdivW (pv 0) pe_int) pe_int) pe_int))) pss_nil)
      (pss_one (ps_ret (pe_op op_sub (pe_op op_mod (pe_op op_fdivW (pv 0) pe_int) pe_int) pe_int))))))
theorem ok_L_drawn {f : Addr} {fd : FuncData} (F : Fun K "_law_drawn" "_law_drawn" s_L_drawn f fd)   (c_L_trim : Cl P w K mg base 1 "_law_trim" (sp_L_trim K)) (c_L_cell_at : Cl P w K mg base 1 "_law_cell_at" (sp_L_cell_at K)) (c_L_number : Cl P w K mg base 1 "_law_number" (sp_L_number K)) (m_range : mg "range" = none) : FnOk P w K mg base CX0 2 f fd ["_law_script", "_law_place", "_law_size", "_law_many"] (sp_L_drawn K) := by
  refine F.ok sc_L_drawn (fun vs H Q E h => ?_) (fun cdv A outer s H vs Q E hr h => ⟨t_L_drawn K, ?_, run_L_drawn  h⟩)
  · first | (obtain ⟨_, rfl, _⟩ := h; rfl) | (obtain ⟨_, _, rfl, _⟩ := h; rfl) | (obtain ⟨_, _, _, rfl, _⟩ := h; rfl) | (obtain ⟨_, _, _, _, rfl, _⟩ := h; rfl) | (obtain ⟨_, _, _, _, _, rfl, _⟩ := h; rfl) | (obtain ⟨_, _, _, _, _, _, rfl, _⟩ := h; rfl) | (obtain ⟨_, _, _, _, _, _, _, rfl, _⟩ := h; rfl) | (obtain ⟨_, _, _, _, _, _, _, _, rfl, _⟩ := h; rfl) | (obtain ⟨_, _, _, _, _, _, _, _, _, rfl, _⟩ := h; rfl) | (obtain ⟨_, _, _, _, _, _, _, _, _, _, rfl, _⟩ := h; rfl) | (obtain ⟨_, _, _, _, _, _, _, _, _, _, _, rfl, _⟩ := h; rfl) | (obtain ⟨_, _, _, _, _, _, _, _, _, _, _, _, rfl, _⟩ := h; rfl) | (obtain ⟨_, _, _, _, _, _, _, _, _, _, _, _, _, rfl, _⟩ := h; rfl) | (obtain ⟨_, _, _, _, _, _, _, _, _, _, _, _, _, _, rfl, _⟩ := h; rfl) | (obtain ⟨_, _, _, _, _, _, _, _, _, _, _, _, _, _, _, rfl, _⟩ := h; rfl) | (obtain ⟨_, _, _, _, _, _, _, _, _, _, _, _, _, _, _, _, rfl, _⟩ := h; rfl) | (obtain ⟨_, _, _, _, _, _, _, _, _, _, _, _, _, _, _, _, _, rfl, _⟩ := h; rfl) | (obtain ⟨_, _, _, _, _, _, _, _, _, _, _, _, _, _, _, _, _, _, rfl, _⟩ := h; rfl) | (obtain ⟨_, _, _, _, _, _, _, _, _, _, _, _, _, _, _, _, _, _, _, rfl, _⟩ := h; rfl) | (obtain ⟨_, _, _, _, _, _, _, _, _, _, _, _, _, _, _, _, _, _, _, _, rfl, _⟩ := h; rfl) | (obtain ⟨_, _, _, _, _, _, _, _, _, _, _, _, _, _, _, _, _, _, _, _, _, rfl, _⟩ := h; rfl) | (obtain ⟨_, _, _, _, _, _, _, _, _, _, _, _, _, _, _, _, _, _, _, _, _, _, rfl, _⟩ := h; rfl) | (obtain ⟨_, _, _, _, _, _, _, _, _, _, _, _, _, _, _, _, _, _, _, _, _, _, _, rfl, _⟩ := h; rfl) | (obtain ⟨_, _, _, _, _, _, _, _, _, _, _, _, _, _, _, _, _, _, _, _, _, _, _, _, rfl, _⟩ := h; rfl) | (obtain ⟨_, _, _, _, _, _, _, _, _, _, _, _, _, _, _, _, _, _, _, _, _, _, _, _, _, rfl, _⟩ := h; rfl) | (obtain ⟨_, _, _, _, _, _, _, _, _, _, _, _, _, _, _, _, _, _, _, _, _, _, _, _, _, _, rfl, _⟩ := h; rfl) | (obtain ⟨_, _, _, _, _, _, _, _, _, _, _, _, _, _, _, _, _, _, _, _, _, _, _, _, _, _, _, rfl, _⟩ := h; rfl) | (obtain ⟨_, _, _, _, _, _, _, _, _, _, _, _, _, _, _, _, _, _, _, _, _, _, _, _, _, _, _, _, rfl, _⟩ := h; rfl) | (obtain ⟨_, _, _, _, _, _, _, _, _, _, _, _, _, _, _, _, _, _, _, _, _, _, _, _, _, _, _, _, _, rfl, _⟩ := h; rfl) | (obtain ⟨_, _, _, _, _, _, _, _, _, _, _, _, _, _, _, _, _, _, _, _, _, _, _, _, _, _, _, _, _, _, rfl, _⟩ := h; rfl)
  · exact (pss_cons (ps_setLc (i := 4) (own := [("_law_k", 5)]) (g := (gName 5)) (by rfl) sc_L_drawn.nd rfl rfl (sw_true rfl rfl rfl (by decide +kernel)) (pi_range1 (by rfl) m_range (pa_cons (pv 2) pa_nil)) (blkOk_by (own := [("_law_k", 5)]) (N := ["_law_script", "_law_place", "_law_size", "_law_many", "_law_row", "_law_k"]) (sc := defScope s_L_drawn) (by decide +kernel)) (fun _ _ _ _ _ => (pg_name (i := 5) sc_L_drawn.nd rfl (Or.inl rfl))) (fun _ _ _ _ _ => pts_nil) (fun _ _ _ _ _ => (pcl c_L_number hr (by decide) (by rfl) (pa_cons (pcl c_L_cell_at hr (by decide) (by rfl) (pa_cons (pv 0) (pa_cons (pe_op op_add (pv 1) (pv 5)) pa_nil))) pa_nil))))
      (pss_cons (ps_if (pt_cmpR op_gt (pv 3) pe_int (nomark _)) (pss_one (ps_setLc (i := 4) (own := [("_law_k", 5)]) (g := (gName 5)) (by rfl) sc_L_drawn.nd rfl rfl (sw_true rfl rfl rfl (by decide +kernel)) (pi_range1 (by rfl) m_range (pa_cons (pv 3) pa_nil)) (blkOk_by (own := [("_law_k", 5)]) (N := ["_law_script", "_law_place", "_law_size", "_law_many", "_law_row", "_law_k"]) (sc := defScope s_L_drawn) (by decide +kernel)) (fun _ _ _ _ _ => (pg_name (i := 5) sc_L_drawn.nd rfl (Or.inl rfl))) (fun _ _ _ _ _ => pts_nil) (fun _ _ _ _ _ => (pcl c_L_number hr (by decide) (by rfl) (pa_cons (pe_op op_add (pe_op op_add (pcl c_L_cell_at hr (by decide) (by rfl) (pa_cons (pv 0) (pa_cons (pv 1) pa_nil))) (pe_op op_mulX (pe_op op_mulX pe_int (pv 5)) (pv 5))) (pe_op op_mulX pe_int (pv 5))) pa_nil))))) pss_nil)
      (pss_one (ps_ret (pcl c_L_trim hr (by decide) (by rfl) (pa_cons (pv 4) pa_nil))))))
theorem ok_L_written {f : Addr} {fd : FuncData} (F : Fun K "_law_written" "_law_written" s_L_written f fd)    (m_abs : mg "abs" = none) (m_len : mg "len" = none) (m_range : mg "range" = none) (m_str : mg "str" = none) : FnOk P w K mg base CX0 1 f fd ["_law_row"] (sp_L_written K) := by
  refine F.ok sc_L_written (fun vs H Q E h => ?_) (fun cdv A outer s H vs Q E hr h => ⟨t_L_written K, ?_, run_L_written  h⟩)
  · first | (obtain ⟨_, rfl, _⟩ := h; rfl) | (obtain ⟨_, _, rfl, _⟩ := h; rfl) | (obtain ⟨_, _, _, rfl, _⟩ := h; rfl) | (obtain ⟨_, _, _, _, rfl, _⟩ := h; rfl) | (obtain ⟨_, _, _, _, _, rfl, _⟩ := h; rfl) | (obtain ⟨_, _, _, _, _, _, rfl, _⟩ := h; rfl) | (obtain ⟨_, _, _, _, _, _, _, rfl, _⟩ := h; rfl) | (obtain ⟨_, _, _, _, _, _, _, _, rfl, _⟩ := h; rfl) | (obtain ⟨_, _, _, _, _, _, _, _, _, rfl, _⟩ := h; rfl) | (obtain ⟨_, _, _, _, _, _, _, _, _, _, rfl, _⟩ := h; rfl) | (obtain ⟨_, _, _, _, _, _, _, _, _, _, _, rfl, _⟩ := h; rfl) | (obtain ⟨_, _, _, _, _, _, _, _, _, _, _, _, rfl, _⟩ := h; rfl) | (obtain ⟨_, _, _, _, _, _, _, _, _, _, _, _, _, rfl, _⟩ := h; rfl) | (obtain ⟨_, _, _, _, _, _, _, _, _, _, _, _, _, _, rfl, _⟩ := h; rfl) | (obtain ⟨_, _, _, _, _, _, _, _, _, _, _, _, _, _, _, rfl, _⟩ := h; rfl) | (obtain ⟨_, _, _, _, _, _, _, _, _, _, _, _, _, _, _, _, rfl, _⟩ := h; rfl) | (obtain ⟨_, _, _, _, _, _, _, _, _, _, _, _, _, _, _, _, _, rfl, _⟩ := h; rfl) | (obtain ⟨_, _, _, _, _, _, _, _, _, _, _, _, _, _, _, _, _, _, rfl, _⟩ := h; rfl) | (obtain ⟨_, _, _, _, _, _, _, _, _, _, _, _, _, _, _, _, _, _, _, rfl, _⟩ := h; rfl) | (obtain ⟨_, _, _, _, _, _, _, _, _, _, _, _, _, _, _, _, _, _, _, _, rfl, _⟩ := h; rfl) | (obtain ⟨_, _, _, _, _, _, _, _, _, _, _, _, _, _, _, _, _, _, _, _, _, rfl, _⟩ := h; rfl) | (obtain ⟨_, _, _, _, _, _, _, _, _, _, _, _, _, _, _, _, _, _, _, _, _, _, rfl, _⟩ := h; rfl) | (obtain ⟨_, _, _, _, _, _, _, _, _, _, _, _, _, _, _, _, _, _, _, _, _, _, _, rfl, _⟩ := h; rfl) | (obtain ⟨_, _, _, _, _, _, _, _, _, _, _, _, _, _, _, _, _, _, _, _, _, _, _, _, rfl, _⟩ := h; rfl) | (obtain ⟨_, _, _, _, _, _, _, _, _, _, _, _, _, _, _, _, _, _, _, _, _, _, _, _, _, rfl, _⟩ := h; rfl) | (obtain ⟨_, _, _, _, _, _, _, _, _, _, _, _, _, _, _, _, _, _, _, _, _, _, _, _, _, _, rfl, _⟩ := h; rfl) | (obtain ⟨_, _, _, _, _, _, _, _, _, _, _, _, _, _, _, _, _, _, _, _, _, _, _, _, _, _, _, rfl, _⟩ := h; rfl) | (obtain ⟨_, _, _, _, _, _, _, _, _, _, _, _, _, _, _, _, _, _, _, _, _, _, _, _, _, _, _, _, rfl, _⟩ := h; rfl) | (obtain ⟨_, _, _, _, _, _, _, _, _, _, _, _, _, _, _, _, _, _, _, _, _, _, _, _, _, _, _, _, _, rfl, _⟩ := h; rfl) | (obtain ⟨_, _, _, _, _, _, _, _, _, _, _, _, _, _, _, _, _, _, _, _, _, _, _, _, _, _, _, _, _, _, rfl, _⟩ := h; rfl)
  · exact (pss_cons (ps_set (i := 1) sc_L_written.nd rfl (Or.inl rfl) pe_str)
      (pss_cons (ps_for PassesOwn.never rfl (pi_range1 (by rfl) m_range (pa_cons (pe_callB call_len_seq (by rfl) m_len PySem.boot_len (pa_cons (pv 0) pa_nil)) pa_nil)) (pg_name (i := 2) sc_L_written.nd rfl (Or.inl rfl)) (pss_cons (ps_set (i := 3) sc_L_written.nd rfl (Or.inl rfl) (pe_op op_sub (pe_op op_sub (pe_callB call_len_seq (by rfl) m_len PySem.boot_len (pa_cons (pv 0) pa_nil)) pe_int) (pv 2)))
      (pss_one (ps_if (pt_cmpR op_ne (pe_ix ix_list (pv 0) (pv 3) (fun _ _ => rfl)) pe_int (nomark _)) (pss_cons (ps_set (i := 4) sc_L_written.nd rfl (Or.inl rfl) (pe_callTy call_str_int (by rfl) m_str (by decide +kernel) (pa_cons (pe_callB call_abs (by rfl) m_abs (by decide +kernel) (pa_cons (pe_ix ix_list (pv 0) (pv 3) (fun _ _ => rfl)) pa_nil)) pa_nil)))
      (pss_cons (ps_if (PW.pt (pw_and (pt_cmpR op_gt (pv 3) pe_int (nomark _)) (pw_and1 (pt_cmpR op_eq (pv 4) pe_str (nomark _))))) (pss_one (ps_set (i := 4) sc_L_written.nd rfl (Or.inl rfl) pe_str)) pss_nil)
      (pss_cons (ps_if (pt_cmpR op_eq (pv 3) pe_int (nomark _)) (pss_one (ps_set (i := 4) sc_L_written.nd rfl (Or.inl rfl) (pe_op op_add_str (pv 4) pe_str))) pss_nil)
      (pss_cons (ps_if (pt_cmpR op_gt (pv 3) pe_int (nomark _)) (pss_one (ps_set (i := 4) sc_L_written.nd rfl (Or.inl rfl) (pe_op op_add_str (pe_op op_add_str (pv 4) pe_str) (pe_callTy call_str_int (by rfl) m_str (by decide +kernel) (pa_cons (pv 3) pa_nil))))) pss_nil)
      (pss_cons (ps_if (PW.pt (pw_and (pt_cmpR op_ne (pv 1) pe_str (nomark _)) (pw_and1 (pt_cmpR op_gt (pe_ix ix_list (pv 0) (pv 3) (fun _ _ => rfl)) pe_int (nomark _))))) (pss_one (ps_set (i := 4) sc_L_written.nd rfl (Or.inl rfl) (pe_op op_add_str pe_str (pv 4)))) pss_nil)
      (pss_cons (ps_if (PW.pt (pw_and (pt_cmpR op_ne (pv 1) pe_str (nomark _)) (pw_and1 (pt_cmpR op_lt (pe_ix ix_list (pv 0) (pv 3) (fun _ _ => rfl)) pe_int (nomark _))))) (pss_one (ps_set (i := 4) sc_L_written.nd rfl (Or.inl rfl) (pe_op op_add_str pe_str (pv 4)))) pss_nil)
      (pss_cons (ps_if (PW.pt (pw_and (pt_cmpR op_eq (pv 1) pe_str (nomark _)) (pw_and1 (pt_cmpR op_lt (pe_ix ix_list (pv 0) (pv 3) (fun _ _ => rfl)) pe_int (nomark _))))) (pss_one (ps_set (i := 4) sc_L_written.nd rfl (Or.inl rfl) (pe_op op_add_str pe_str (pv 4)))) pss_nil)
      (pss_one (ps_set (i := 1) sc_L_written.nd rfl (Or.inl rfl) (pe_op op_add_str (pv 1) (pv 4))))))))))) pss_nil))))
      (pss_cons (ps_if (pt_cmpR op_eq (pv 1) pe_str (nomark _)) (pss_one (ps_ret pe_str)) pss_nil)
      (pss_one (ps_ret (pv 1))))))
theorem ok_law {cs : Cs} {f : Addr} {fd : FuncData} (F : Fun K "law" "law" s_law f fd) (T : Tx K cs.PolyError [cs.NotWritten])   (c_P_read : ClX P w K mg base 4 "read" (sp_P_read K cs)) (c_L_same : Cl P w K mg base 2 "_law_same" (sp_L_same K)) (c_L_written : Cl P w K mg base 1 "_law_written" (sp_L_written K)) (c_P_shown : Cl P w K mg base 2 "shown" (sp_P_shown K)) (c_L_drawn : Cl P w K mg base 2 "_law_drawn" (sp_L_drawn K)) (c_L_cell_at : Cl P w K mg base 1 "_law_cell_at" (sp_L_cell_at K)) (m_isinstance : mg "isinstance" = none) (m_list : mg "list" = none) (m_str : mg "str" = none) : FnOk P w K mg base CX0 5 f fd ["_law_script"] (sp_law K) := by
  refine F.ok sc_law (fun vs H Q E h => ?_) (fun cdv A outer s H vs Q E hr h => ⟨t_law K cs, ?_, run_law T (by simp) h⟩)
  · first | (obtain ⟨_, rfl, _⟩ := h; rfl) | (obtain ⟨_, _, rfl, _⟩ := h; rfl) | (obtain ⟨_, _, _, rfl, _⟩ := h; rfl) | (obtain ⟨_, _, _, _, rfl, _⟩ := h; rfl) | (obtain ⟨_, _, _, _, _, rfl, _⟩ := h; rfl) | (obtain ⟨_, _, _, _, _, _, rfl, _⟩ := h; rfl) | (obtain ⟨_, _, _, _, _, _, _, rfl, _⟩ := h; rfl) | (obtain ⟨_, _, _, _, _, _, _, _, rfl, _⟩ := h; rfl) | (obtain ⟨_, _, _, _, _, _, _, _, _, rfl, _⟩ := h; rfl) | (obtain ⟨_, _, _, _, _, _, _, _, _, _, rfl, _⟩ := h; rfl) | (obtain ⟨_, _, _, _, _, _, _, _, _, _, _, rfl, _⟩ := h; rfl) | (obtain ⟨_, _, _, _, _, _, _, _, _, _, _, _, rfl, _⟩ := h; rfl) | (obtain ⟨_, _, _, _, _, _, _, _, _, _, _, _, _, rfl, _⟩ := h; rfl) | (obtain ⟨_, _, _, _, _, _, _, _, _, _, _, _, _, _, rfl, _⟩ := h; rfl) | (obtain ⟨_, _, _, _, _, _, _, _, _, _, _, _, _, _, _, rfl, _⟩ := h; rfl) | (obtain ⟨_, _, _, _, _, _, _, _, _, _, _, _, _, _, _, _, rfl, _⟩ := h; rfl) | (obtain ⟨_, _, _, _, _, _, _, _, _, _, _, _, _, _, _, _, _, rfl, _⟩ := h; rfl) | (obtain ⟨_, _, _, _, _, _, _, _, _, _, _, _, _, _, _, _, _, _, rfl, _⟩ := h; rfl) | (obtain ⟨_, _, _, _, _, _, _, _, _, _, _, _, _, _, _, _, _, _, _, rfl, _⟩ := h; rfl) | (obtain ⟨_, _, _, _, _, _, _, _, _, _, _, _, _, _, _, _, _, _, _, _, rfl, _⟩ := h; rfl) | (obtain ⟨_, _, _, _, _, _, _, _, _, _, _, _, _, _, _, _, _, _, _, _, _, rfl, _⟩ := h; rfl) | (obtain ⟨_, _, _, _, _, _, _, _, _, _, _, _, _, _, _, _, _, _, _, _, _, _, rfl, _⟩ := h; rfl) | (obtain ⟨_, _, _, _, _, _, _, _, _, _, _, _, _, _, _, _, _, _, _, _, _, _, _, rfl, _⟩ := h; rfl) | (obtain ⟨_, _, _, _, _, _, _, _, _, _, _, _, _, _, _, _, _, _, _, _, _, _, _, _, rfl, _⟩ := h; rfl) | (obtain ⟨_, _, _, _, _, _, _, _, _, _, _, _, _, _, _, _, _, _, _, _, _, _, _, _, _, rfl, _⟩ := h; rfl) | (obtain ⟨_, _, _, _, _, _, _, _, _, _, _, _, _, _, _, _, _, _, _, _, _, _, _, _, _, _, rfl, _⟩ := h; rfl) | (obtain ⟨_, _, _, _, _, _, _, _, _, _, _, _, _, _, _, _, _, _, _, _, _, _, _, _, _, _, _, rfl, _⟩ := h; rfl) | (obtain ⟨_, _, _, _, _, _, _, _, _, _, _, _, _, _, _, _, _, _, _, _, _, _, _, _, _, _, _, _, rfl, _⟩ := h; rfl) | (obtain ⟨_, _, _, _, _, _, _, _, _, _, _, _, _, _, _, _, _, _, _, _, _, _, _, _, _, _, _, _, _, rfl, _⟩ := h; rfl) | (obtain ⟨_, _, _, _, _, _, _, _, _, _, _, _, _, _, _, _, _, _, _, _, _, _, _, _, _, _, _, _, _, _, rfl, _⟩ := h; rfl)
  · exact (pss_cons (ps_set (i := 1) sc_law.nd rfl (Or.inl rfl) (pcl c_L_cell_at hr (by decide) (by rfl) (pa_cons (pv 0) (pa_cons pe_int pa_nil))))
      (pss_cons (ps_set (i := 2) sc_law.nd rfl (Or.inl rfl) pe_int)
      (pss_cons (ps_if (pt_cmpR op_eq (pe_op op_mod (pv 1) pe_int) pe_int (nomark _)) (pss_one (ps_set (i := 2) sc_law.nd rfl (Or.inl rfl) (pe_op op_mod (pe_op op_fdivW (pv 1) pe_int) pe_int))) pss_nil)
      (pss_cons (ps_set (i := 3) sc_law.nd rfl (Or.inl rfl) (pcl c_L_drawn hr (by decide) (by rfl) (pa_cons (pv 0) (pa_cons pe_int (pa_cons (pe_op op_mod (pe_op op_fdivW (pv 1) pe_int) pe_int) (pa_cons (pv 2) pa_nil))))))
      (pss_cons (ps_set (i := 4) sc_law.nd rfl (Or.inl rfl) (pe_callTy call_list_of (by rfl) m_list (by decide +kernel) (pa_cons (pv 3) pa_nil)))
      (pss_cons (ps_set (i := 5) sc_law.nd rfl (Or.inl rfl) (pcl c_P_shown hr (by decide) (by rfl) (pa_cons (pv 4) pa_nil)))
      (pss_cons (ps_if (PW.pt (pw_or (pt_not (pt_val (pe_callB call_isi (by rfl) m_isinstance (by decide +kernel) (pa_cons (pv 5) (pa_cons (pe_bltn (by rfl) m_str (by decide +kernel) rfl) pa_nil))))) (pw_or (pt_cmpR op_ne (pv 5) (pcl c_L_written hr (by decide) (by rfl) (pa_cons (pv 3) pa_nil)) (nomark _)) (pw_or1 (pt_not (pt_val (pcl c_L_same hr (by decide) (by rfl) (pa_cons (pv 4) (pa_cons (pv 3) pa_nil))))))))) (pss_one (ps_ret pe_bl)) pss_nil)
      (pss_one (ps_ret (pcl c_L_same hr (by decide) (by rfl) (pa_cons (pclX c_P_read hr (by decide) (by rfl) (pa_cons (pv 5) pa_nil)) (pa_cons (pv 3) pa_nil))))))))))))
end
theorem all_mk {l : PySem.W.OpenLaw} {w : World} {K : PySem.W.Frag} {h : Heap} {mg : Str → Option Value} {fa f_P_term f_P_sign f_P_shown f_P_whole_number f_P_size_of f_P_power_of f_P_size_and_power f_P_signs_and_terms f_P_read f_L_whole f_L_cell_at f_L_trim f_L_same f_L_number f_L_drawn f_L_written f_law x_PolyError x_NotWritten : Addr} (X : K.In h) (G : h.Ns mainGlobals mg) (hfa : mg "law" = some (.ref fa))
    {od_P_term an_P_term : Option Addr} {sl_P_term : Array (Option Value)} {oc_P_term kV_P_term dc_P_term pm_P_term cd_P_term ct_P_term : Value}
    {od_P_sign an_P_sign : Option Addr} {sl_P_sign : Array (Option Value)} {oc_P_sign kV_P_sign dc_P_sign pm_P_sign cd_P_sign ct_P_sign : Value}
    {od_P_shown an_P_shown : Option Addr} {sl_P_shown : Array (Option Value)} {oc_P_shown kV_P_shown dc_P_shown pm_P_shown cd_P_shown ct_P_shown : Value}
    {od_P_whole_number an_P_whole_number : Option Addr} {sl_P_whole_number : Array (Option Value)} {oc_P_whole_number kV_P_whole_number dc_P_whole_number pm_P_whole_number cd_P_whole_number ct_P_whole_number : Value}
    {od_P_size_of an_P_size_of : Option Addr} {sl_P_size_of : Array (Option Value)} {oc_P_size_of kV_P_size_of dc_P_size_of pm_P_size_of cd_P_size_of ct_P_size_of : Value}
    {od_P_power_of an_P_power_of : Option Addr} {sl_P_power_of : Array (Option Value)} {oc_P_power_of kV_P_power_of dc_P_power_of pm_P_power_of cd_P_power_of ct_P_power_of : Value}
    {od_P_size_and_power an_P_size_and_power : Option Addr} {sl_P_size_and_power : Array (Option Value)} {oc_P_size_and_power kV_P_size_and_power dc_P_size_and_power pm_P_size_and_power cd_P_size_and_power ct_P_size_and_power : Value}
    {od_P_signs_and_terms an_P_signs_and_terms : Option Addr} {sl_P_signs_and_terms : Array (Option Value)} {oc_P_signs_and_terms kV_P_signs_and_terms dc_P_signs_and_terms pm_P_signs_and_terms cd_P_signs_and_terms ct_P_signs_and_terms : Value}
    {od_P_read an_P_read : Option Addr} {sl_P_read : Array (Option Value)} {oc_P_read kV_P_read dc_P_read pm_P_read cd_P_read ct_P_read : Value}
    {od_L_whole an_L_whole : Option Addr} {sl_L_whole : Array (Option Value)} {oc_L_whole kV_L_whole dc_L_whole pm_L_whole cd_L_whole ct_L_whole : Value}
    {od_L_cell_at an_L_cell_at : Option Addr} {sl_L_cell_at : Array (Option Value)} {oc_L_cell_at kV_L_cell_at dc_L_cell_at pm_L_cell_at cd_L_cell_at ct_L_cell_at : Value}
    {od_L_trim an_L_trim : Option Addr} {sl_L_trim : Array (Option Value)} {oc_L_trim kV_L_trim dc_L_trim pm_L_trim cd_L_trim ct_L_trim : Value}
    {od_L_same an_L_same : Option Addr} {sl_L_same : Array (Option Value)} {oc_L_same kV_L_same dc_L_same pm_L_same cd_L_same ct_L_same : Value}
    {od_L_number an_L_number : Option Addr} {sl_L_number : Array (Option Value)} {oc_L_number kV_L_number dc_L_number pm_L_number cd_L_number ct_L_number : Value}
    {od_L_drawn an_L_drawn : Option Addr} {sl_L_drawn : Array (Option Value)} {oc_L_drawn kV_L_drawn dc_L_drawn pm_L_drawn cd_L_drawn ct_L_drawn : Value}
    {od_L_written an_L_written : Option Addr} {sl_L_written : Array (Option Value)} {oc_L_written kV_L_written dc_L_written pm_L_written cd_L_written ct_L_written : Value}
    {od_law an_law : Option Addr} {sl_law : Array (Option Value)} {oc_law kV_law dc_law pm_law cd_law ct_law : Value}
    {tk_GREATEST_POWER : Tok}
    {tk_LONGEST_TAIL : Tok}
    (a_P_term : PySem.W.nsIn K mainGlobals "_term" = some (some (.ref f_P_term))) (l_P_term : K.lookup f_P_term = some ⟨oc_P_term, od_P_term, .func (PySem.W.fnOf "_term" "_term" (defArgs s_P_term) (defBody s_P_term) (defScope s_P_term) .none kV_P_term dc_P_term pm_P_term an_P_term cd_P_term ct_P_term), sl_P_term⟩) (e_P_term : PySem.W.codeIn K cd_P_term "_term" = true) (k_P_term : PySem.W.keepIn K (.ref f_P_term) = true)
    (a_P_sign : PySem.W.nsIn K mainGlobals "_sign" = some (some (.ref f_P_sign))) (l_P_sign : K.lookup f_P_sign = some ⟨oc_P_sign, od_P_sign, .func (PySem.W.fnOf "_sign" "_sign" (defArgs s_P_sign) (defBody s_P_sign) (defScope s_P_sign) .none kV_P_sign dc_P_sign pm_P_sign an_P_sign cd_P_sign ct_P_sign), sl_P_sign⟩) (e_P_sign : PySem.W.codeIn K cd_P_sign "_sign" = true) (k_P_sign : PySem.W.keepIn K (.ref f_P_sign) = true)
    (a_P_shown : PySem.W.nsIn K mainGlobals "shown" = some (some (.ref f_P_shown))) (l_P_shown : K.lookup f_P_shown = some ⟨oc_P_shown, od_P_shown, .func (PySem.W.fnOf "shown" "shown" (defArgs s_P_shown) (defBody s_P_shown) (defScope s_P_shown) .none kV_P_shown dc_P_shown pm_P_shown an_P_shown cd_P_shown ct_P_shown), sl_P_shown⟩) (e_P_shown : PySem.W.codeIn K cd_P_shown "shown" = true) (k_P_shown : PySem.W.keepIn K (.ref f_P_shown) = true)
    (a_P_whole_number : PySem.W.nsIn K mainGlobals "_whole_number" = some (some (.ref f_P_whole_number))) (l_P_whole_number : K.lookup f_P_whole_number = some ⟨oc_P_whole_number, od_P_whole_number, .func (PySem.W.fnOf "_whole_number" "_whole_number" (defArgs s_P_whole_number) (defBody s_P_whole_number) (defScope s_P_whole_number) .none kV_P_whole_number dc_P_whole_number pm_P_whole_number an_P_whole_number cd_P_whole_number ct_P_whole_number), sl_P_whole_number⟩) (e_P_whole_number : PySem.W.codeIn K cd_P_whole_number "_whole_number" = true) (k_P_whole_number : PySem.W.keepIn K (.ref f_P_whole_number) = true)
    (a_P_size_of : PySem.W.nsIn K mainGlobals "_size_of" = some (some (.ref f_P_size_of))) (l_P_size_of : K.lookup f_P_size_of = some ⟨oc_P_size_of, od_P_size_of, .func (PySem.W.fnOf "_size_of" "_size_of" (defArgs s_P_size_of) (defBody s_P_size_of) (defScope s_P_size_of) .none kV_P_size_of dc_P_size_of pm_P_size_of an_P_size_of cd_P_size_of ct_P_size_of), sl_P_size_of⟩) (e_P_size_of : PySem.W.codeIn K cd_P_size_of "_size_of" = true) (k_P_size_of : PySem.W.keepIn K (.ref f_P_size_of) = true)
    (a_P_power_of : PySem.W.nsIn K mainGlobals "_power_of" = some (some (.ref f_P_power_of))) (l_P_power_of : K.lookup f_P_power_of = some ⟨oc_P_power_of, od_P_power_of, .func (PySem.W.fnOf "_power_of" "_power_of" (defArgs s_P_power_of) (defBody s_P_power_of) (defScope s_P_power_of) .none kV_P_power_of dc_P_power_of pm_P_power_of an_P_power_of cd_P_power_of ct_P_power_of), sl_P_power_of⟩) (e_P_power_of : PySem.W.codeIn K cd_P_power_of "_power_of" = true) (k_P_power_of : PySem.W.keepIn K (.ref f_P_power_of) = true)
    (a_P_size_and_power : PySem.W.nsIn K mainGlobals "_size_and_power" = some (some (.ref f_P_size_and_power))) (l_P_size_and_power : K.lookup f_P_size_and_power = some ⟨oc_P_size_and_power, od_P_size_and_power, .func (PySem.W.fnOf "_size_and_power" "_size_and_power" (defArgs s_P_size_and_power) (defBody s_P_size_and_power) (defScope s_P_size_and_power) .none kV_P_size_and_power dc_P_size_and_power pm_P_size_and_power an_P_size_and_power cd_P_size_and_power ct_P_size_and_power), sl_P_size_and_power⟩) (e_P_size_and_power : PySem.W.codeIn K cd_P_size_and_power "_size_and_power" = true) (k_P_size_and_power : PySem.W.keepIn K (.ref f_P_size_and_power) = true)
    (a_P_signs_and_terms : PySem.W.nsIn K mainGlobals "_signs_and_terms" = some (some (.ref f_P_signs_and_terms))) (l_P_signs_and_terms : K.lookup f_P_signs_and_terms = some ⟨oc_P_signs_and_terms, od_P_signs_and_terms, .func (PySem.W.fnOf "_signs_and_terms" "_signs_and_terms" (defArgs s_P_signs_and_terms) (defBody s_P_signs_and_terms) (defScope s_P_signs_and_terms) .none kV_P_signs_and_terms dc_P_signs_and_terms pm_P_signs_and_terms an_P_signs_and_terms cd_P_signs_and_terms ct_P_signs_and_terms), sl_P_signs_and_terms⟩) (e_P_signs_and_terms : PySem.W.codeIn K cd_P_signs_and_terms "_signs_and_terms" = true) (k_P_signs_and_terms : PySem.W.keepIn K (.ref f_P_signs_and_terms) = true)
    (a_P_read : PySem.W.nsIn K mainGlobals "read" = some (some (.ref f_P_read))) (l_P_read : K.lookup f_P_read = some ⟨oc_P_read, od_P_read, .func (PySem.W.fnOf "read" "read" (defArgs s_P_read) (defBody s_P_read) (defScope s_P_read) .none kV_P_read dc_P_read pm_P_read an_P_read cd_P_read ct_P_read), sl_P_read⟩) (e_P_read : PySem.W.codeIn K cd_P_read "read" = true) (k_P_read : PySem.W.keepIn K (.ref f_P_read) = true)
    (a_L_whole : PySem.W.nsIn K mainGlobals "_law_whole" = some (some (.ref f_L_whole))) (l_L_whole : K.lookup f_L_whole = some ⟨oc_L_whole, od_L_whole, .func (PySem.W.fnOf "_law_whole" "_law_whole" (defArgs s_L_whole) (defBody s_L_whole) (defScope s_L_whole) .none kV_L_whole dc_L_whole pm_L_whole an_L_whole cd_L_whole ct_L_whole), sl_L_whole⟩) (e_L_whole : PySem.W.codeIn K cd_L_whole "_law_whole" = true) (k_L_whole : PySem.W.keepIn K (.ref f_L_whole) = true)
    (a_L_cell_at : PySem.W.nsIn K mainGlobals "_law_cell_at" = some (some (.ref f_L_cell_at))) (l_L_cell_at : K.lookup f_L_cell_at = some ⟨oc_L_cell_at, od_L_cell_at, .func (PySem.W.fnOf "_law_cell_at" "_law_cell_at" (defArgs s_L_cell_at) (defBody s_L_cell_at) (defScope s_L_cell_at) .none kV_L_cell_at dc_L_cell_at pm_L_cell_at an_L_cell_at cd_L_cell_at ct_L_cell_at), sl_L_cell_at⟩) (e_L_cell_at : PySem.W.codeIn K cd_L_cell_at "_law_cell_at" = true) (k_L_cell_at : PySem.W.keepIn K (.ref f_L_cell_at) = true)
    (a_L_trim : PySem.W.nsIn K mainGlobals "_law_trim" = some (some (.ref f_L_trim))) (l_L_trim : K.lookup f_L_trim = some ⟨oc_L_trim, od_L_trim, .func (PySem.W.fnOf "_law_trim" "_law_trim" (defArgs s_L_trim) (defBody s_L_trim) (defScope s_L_trim) .none kV_L_trim dc_L_trim pm_L_trim an_L_trim cd_L_trim ct_L_trim), sl_L_trim⟩) (e_L_trim : PySem.W.codeIn K cd_L_trim "_law_trim" = true) (k_L_trim : PySem.W.keepIn K (.ref f_L_trim) = true)
    (a_L_same : PySem.W.nsIn K mainGlobals "_law_same" = some (some (.ref f_L_same))) (l_L_same : K.lookup f_L_same = some ⟨oc_L_same, od_L_same, .func (PySem.W.fnOf "_law_same" "_law_same" (defArgs s_L_same) (defBody s_L_same) (defScope s_L_same) .none kV_L_same dc_L_same pm_L_same an_L_same cd_L_same ct_L_same), sl_L_same⟩) (e_L_same : PySem.W.codeIn K cd_L_same "_law_same" = true) (k_L_same : PySem.W.keepIn K (.ref f_L_same) = true)
    (a_L_number : PySem.W.nsIn K mainGlobals "_law_number" = some (some (.ref f_L_number))) (l_L_number : K.lookup f_L_number = some ⟨oc_L_number, od_L_number, .func (PySem.W.fnOf "_law_number" "_law_number" (defArgs s_L_number) (defBody s_L_number) (defScope s_L_number) .none kV_L_number dc_L_number pm_L_number an_L_number cd_L_number ct_L_number), sl_L_number⟩) (e_L_number : PySem.W.codeIn K cd_L_number "_law_number" = true) (k_L_number : PySem.W.keepIn K (.ref f_L_number) = true)
    (a_L_drawn : PySem.W.nsIn K mainGlobals "_law_drawn" = some (some (.ref f_L_drawn))) (l_L_drawn : K.lookup f_L_drawn = some ⟨oc_L_drawn, od_L_drawn, .func (PySem.W.fnOf "_law_drawn" "_law_drawn" (defArgs s_L_drawn) (defBody s_L_drawn) (defScope s_L_drawn) .none kV_L_drawn dc_L_drawn pm_L_drawn an_L_drawn cd_L_drawn ct_L_drawn), sl_L_drawn⟩) (e_L_drawn : PySem.W.codeIn K cd_L_drawn "_law_drawn" = true) (k_L_drawn : PySem.W.keepIn K (.ref f_L_drawn) = true)
    (a_L_written : PySem.W.nsIn K mainGlobals "_law_written" = some (some (.ref f_L_written))) (l_L_written : K.lookup f_L_written = some ⟨oc_L_written, od_L_written, .func (PySem.W.fnOf "_law_written" "_law_written" (defArgs s_L_written) (defBody s_L_written) (defScope s_L_written) .none kV_L_written dc_L_written pm_L_written an_L_written cd_L_written ct_L_written), sl_L_written⟩) (e_L_written : PySem.W.codeIn K cd_L_written "_law_written" = true) (k_L_written : PySem.W.keepIn K (.ref f_L_written) = true)
    (a_law : PySem.W.nsIn K mainGlobals "law" = some (some (.ref f_law))) (l_law : K.lookup f_law = some ⟨oc_law, od_law, .func (PySem.W.fnOf "law" "law" (defArgs s_law) (defBody s_law) (defScope s_law) .none kV_law dc_law pm_law an_law cd_law ct_law), sl_law⟩) (e_law : PySem.W.codeIn K cd_law "law" = true) (k_law : PySem.W.keepIn K (.ref f_law) = true)
    (n0_PolyError : PySem.W.nsIn K mainGlobals "PolyError" = some (some (.ref x_PolyError)))
    (b0_PolyError : PySem.W.subIn K (.ref x_PolyError) (.type "BaseException") = some true) (t0_PolyError : PySem.W.typeIn K (.ref x_PolyError) = some (.type "type"))
    (hg_PolyError : PySem.W.findIn K (.ref x_PolyError) "__getattribute__" = some (some (.builtin "BaseException.__getattribute__")))
    (hk_PolyError : PySem.W.findIn K (.ref x_PolyError) "__getattr__" = some none)
    (hd_PolyError : PySem.W.hasDictIn K x_PolyError = true)
    (ha_PolyError : PySem.W.findIn K (.ref x_PolyError) "__class__" = some (some (.builtin "object.__class__")))
    (hm_PolyError : PySem.W.mroIn K x_PolyError (.type "object") = some true)
    (kv_PolyError : PySem.W.subIn K (.ref x_PolyError) (.type "ValueError") = some true)
    (n0_NotWritten : PySem.W.nsIn K mainGlobals "NotWritten" = some (some (.ref x_NotWritten)))
    (b0_NotWritten : PySem.W.subIn K (.ref x_NotWritten) (.type "BaseException") = some true) (t0_NotWritten : PySem.W.typeIn K (.ref x_NotWritten) = some (.type "type"))
    (q0_NotWritten : PySem.W.excIn K x_NotWritten [.type "ValueError", .type "Exception", .type "BaseException", .type "object"] "ValueError.__new__" = true) (k0_NotWritten : PySem.W.keepIn K (.ref x_NotWritten) = true)
    (hg_NotWritten : PySem.W.findIn K (.ref x_NotWritten) "__getattribute__" = some (some (.builtin "BaseException.__getattribute__")))
    (hk_NotWritten : PySem.W.findIn K (.ref x_NotWritten) "__getattr__" = some none)
    (hd_NotWritten : PySem.W.hasDictIn K x_NotWritten = true)
    (ha_NotWritten : PySem.W.findIn K (.ref x_NotWritten) "__class__" = some (some (.builtin "object.__class__")))
    (hm_NotWritten : PySem.W.mroIn K x_NotWritten (.type "object") = some true)
    (kv_NotWritten : PySem.W.subIn K (.ref x_NotWritten) (.type "ValueError") = some true)
    (up_NotWritten : PySem.W.subIn K (.ref x_NotWritten) (.ref x_PolyError) = some true)
    (sf_NotWritten : PySem.W.subIn K (.ref x_NotWritten) (.ref x_NotWritten) = some true)
    (hn_ : PySem.W.specialIn K (.builtin "object.__class__") "__get__" = some (some (.builtin "getset_descriptor.__get__"))) (ht_ : PySem.W.takesIn K (.builtin "object.__class__") = some true)
    (z_GREATEST_POWER : PySem.W.nsIn K mainGlobals "GREATEST_POWER" = some (some (.int 99 tk_GREATEST_POWER)))
    (z_LONGEST_TAIL : PySem.W.nsIn K mainGlobals "LONGEST_TAIL" = some (some (.int 3 tk_LONGEST_TAIL)))
    (z_abs : PySem.W.nsIn K mainGlobals "abs" = some none)
    (z_bool : PySem.W.nsIn K mainGlobals "bool" = some none)
    (z_int : PySem.W.nsIn K mainGlobals "int" = some none)
    (z_isinstance : PySem.W.nsIn K mainGlobals "isinstance" = some none)
    (z_len : PySem.W.nsIn K mainGlobals "len" = some none)
    (z_list : PySem.W.nsIn K mainGlobals "list" = some none)
    (z_range : PySem.W.nsIn K mainGlobals "range" = some none)
    (z_reversed : PySem.W.nsIn K mainGlobals "reversed" = some none)
    (z_str : PySem.W.nsIn K mainGlobals "str" = some none)
    (z_zip : PySem.W.nsIn K mainGlobals "zip" = some none)
    : ∃ fd : FuncData, (∀ (s : Shared) (v : Value), BindsTo s fd ⟨[v], []⟩ [("_law_script", v)]) ∧ ∀ base : Heap, K.In base → base.Ns mainGlobals mg → FnOk l.prog w K mg base CX0 5 fa fd ["_law_script"] (sp_law K) := by
  have e := hfa.symm.trans (PySem.W.mg_of X G a_law)
  cases e
  have F_P_term := fun_mk (st := s_P_term) l_P_term e_P_term k_P_term
  have b_P_term := F_P_term.binds (ps := ["size", "power"]) fun _ _ _ _ _ _ us hl => match us, hl with | [_, _], _ => rfl
  have F_P_sign := fun_mk (st := s_P_sign) l_P_sign e_P_sign k_P_sign
  have b_P_sign := F_P_sign.binds (ps := ["number", "is_first"]) fun _ _ _ _ _ _ us hl => match us, hl with | [_, _], _ => rfl
  have F_P_shown := fun_mk (st := s_P_shown) l_P_shown e_P_shown k_P_shown
  have b_P_shown := F_P_shown.binds (ps := ["row"]) fun _ _ _ _ _ _ us hl => match us, hl with | [_], _ => rfl
  have F_P_whole_number := fun_mk (st := s_P_whole_number) l_P_whole_number e_P_whole_number k_P_whole_number
  have b_P_whole_number := F_P_whole_number.binds (ps := ["figures"]) fun _ _ _ _ _ _ us hl => match us, hl with | [_], _ => rfl
  have F_P_size_of := fun_mk (st := s_P_size_of) l_P_size_of e_P_size_of k_P_size_of
  have b_P_size_of := F_P_size_of.binds (ps := ["figures"]) fun _ _ _ _ _ _ us hl => match us, hl with | [_], _ => rfl
  have F_P_power_of := fun_mk (st := s_P_power_of) l_P_power_of e_P_power_of k_P_power_of
  have b_P_power_of := F_P_power_of.binds (ps := ["tail"]) fun _ _ _ _ _ _ us hl => match us, hl with | [_], _ => rfl
  have F_P_size_and_power := fun_mk (st := s_P_size_and_power) l_P_size_and_power e_P_size_and_power k_P_size_and_power
  have b_P_size_and_power := F_P_size_and_power.binds (ps := ["term"]) fun _ _ _ _ _ _ us hl => match us, hl with | [_], _ => rfl
  have F_P_signs_and_terms := fun_mk (st := s_P_signs_and_terms) l_P_signs_and_terms e_P_signs_and_terms k_P_signs_and_terms
  have b_P_signs_and_terms := F_P_signs_and_terms.binds (ps := ["line"]) fun _ _ _ _ _ _ us hl => match us, hl with | [_], _ => rfl
  have F_P_read := fun_mk (st := s_P_read) l_P_read e_P_read k_P_read
  have b_P_read := F_P_read.binds (ps := ["line"]) fun _ _ _ _ _ _ us hl => match us, hl with | [_], _ => rfl
  have F_L_whole := fun_mk (st := s_L_whole) l_L_whole e_L_whole k_L_whole
  have b_L_whole := F_L_whole.binds (ps := ["_law_found"]) fun _ _ _ _ _ _ us hl => match us, hl with | [_], _ => rfl
  have F_L_cell_at := fun_mk (st := s_L_cell_at) l_L_cell_at e_L_cell_at k_L_cell_at
  have b_L_cell_at := F_L_cell_at.binds (ps := ["_law_script", "_law_k"]) fun _ _ _ _ _ _ us hl => match us, hl with | [_, _], _ => rfl
  have F_L_trim := fun_mk (st := s_L_trim) l_L_trim e_L_trim k_L_trim
  have b_L_trim := F_L_trim.binds (ps := ["_law_row"]) fun _ _ _ _ _ _ us hl => match us, hl with | [_], _ => rfl
  have F_L_same := fun_mk (st := s_L_same) l_L_same e_L_same k_L_same
  have b_L_same := F_L_same.binds (ps := ["_law_found", "_law_due"]) fun _ _ _ _ _ _ us hl => match us, hl with | [_, _], _ => rfl
  have F_L_number := fun_mk (st := s_L_number) l_L_number e_L_number k_L_number
  have b_L_number := F_L_number.binds (ps := ["_law_cell"]) fun _ _ _ _ _ _ us hl => match us, hl with | [_], _ => rfl
  have F_L_drawn := fun_mk (st := s_L_drawn) l_L_drawn e_L_drawn k_L_drawn
  have b_L_drawn := F_L_drawn.binds (ps := ["_law_script", "_law_place", "_law_size", "_law_many"]) fun _ _ _ _ _ _ us hl => match us, hl with | [_, _, _, _], _ => rfl
  have F_L_written := fun_mk (st := s_L_written) l_L_written e_L_written k_L_written
  have b_L_written := F_L_written.binds (ps := ["_law_row"]) fun _ _ _ _ _ _ us hl => match us, hl with | [_], _ => rfl
  have F_law := fun_mk (st := s_law) l_law e_law k_law
  refine ⟨PySem.W.fnOf "law" "law" (defArgs s_law) (defBody s_law) (defScope s_law) .none kV_law dc_law pm_law an_law cd_law ct_law, fun s v => .of_eq rfl, fun base _ _ => ?_⟩
  have m_GREATEST_POWER : ∃ t, mg "GREATEST_POWER" = some (.int 99 t) := ⟨_, PySem.W.mg_of X G z_GREATEST_POWER⟩
  have m_LONGEST_TAIL : ∃ t, mg "LONGEST_TAIL" = some (.int 3 t) := ⟨_, PySem.W.mg_of X G z_LONGEST_TAIL⟩
  have m_abs := PySem.W.mg_none_of X G z_abs
  have m_bool := PySem.W.mg_none_of X G z_bool
  have m_int := PySem.W.mg_none_of X G z_int
  have m_isinstance := PySem.W.mg_none_of X G z_isinstance
  have m_len := PySem.W.mg_none_of X G z_len
  have m_list := PySem.W.mg_none_of X G z_list
  have m_range := PySem.W.mg_none_of X G z_range
  have m_reversed := PySem.W.mg_none_of X G z_reversed
  have m_str := PySem.W.mg_none_of X G z_str
  have m_zip := PySem.W.mg_none_of X G z_zip
  let cs : Cs := ⟨x_PolyError, 0, 0, 0, 0, 0, 0, x_NotWritten, 0⟩
  have n_PolyError : mg "PolyError" = some (.ref cs.PolyError) := PySem.W.mg_of X G n0_PolyError
  have y_PolyError : ExK K cs.PolyError := ⟨b0_PolyError, t0_PolyError, ⟨hg_PolyError, hk_PolyError, b0_PolyError, hd_PolyError, ha_PolyError, hn_, ht_, hm_PolyError⟩, kit_sub kv_PolyError⟩
  have n_NotWritten : mg "NotWritten" = some (.ref cs.NotWritten) := PySem.W.mg_of X G n0_NotWritten
  have r_NotWritten : RsX K mg "NotWritten" cs.NotWritten := ⟨n_NotWritten, q0_NotWritten, k0_NotWritten, b0_NotWritten, t0_NotWritten⟩
  have y_NotWritten : ExK K cs.NotWritten := ⟨b0_NotWritten, t0_NotWritten, ⟨hg_NotWritten, hk_NotWritten, b0_NotWritten, hd_NotWritten, ha_NotWritten, hn_, ht_, hm_NotWritten⟩, kit_sub kv_NotWritten⟩
  have T : Tx K cs.PolyError [cs.NotWritten] := ⟨y_PolyError, List.forall_mem_cons.mpr ⟨⟨y_NotWritten, up_NotWritten, sf_NotWritten⟩, List.forall_mem_nil _⟩, List.Pairwise.cons (List.forall_mem_nil _) (List.Pairwise.nil)⟩
  have c_P_term : Cl l.prog w K mg base 1 "_term" (sp_P_term K) := ⟨f_P_term, _, _, ok_P_term F_P_term, PySem.W.mg_of X G a_P_term, k_P_term, b_P_term⟩
  have c_P_sign : Cl l.prog w K mg base 1 "_sign" (sp_P_sign K) := ⟨f_P_sign, _, _, ok_P_sign F_P_sign, PySem.W.mg_of X G a_P_sign, k_P_sign, b_P_sign⟩
  have c_P_shown : Cl l.prog w K mg base 2 "shown" (sp_P_shown K) := ⟨f_P_shown, _, _, ok_P_shown F_P_shown c_P_sign c_P_term m_abs m_len m_range m_reversed, PySem.W.mg_of X G a_P_shown, k_P_shown, b_P_shown⟩
  have c_P_whole_number : ClX l.prog w K mg base 1 "_whole_number" (sp_P_whole_number K cs) := ⟨f_P_whole_number, _, _, ok_P_whole_number F_P_whole_number T r_NotWritten m_int, PySem.W.mg_of X G a_P_whole_number, k_P_whole_number, b_P_whole_number⟩
  have c_P_size_of : ClX l.prog w K mg base 2 "_size_of" (sp_P_size_of K cs) := ⟨f_P_size_of, _, _, ok_P_size_of F_P_size_of T r_NotWritten c_P_whole_number, PySem.W.mg_of X G a_P_size_of, k_P_size_of, b_P_size_of⟩
  have c_P_power_of : ClX l.prog w K mg base 2 "_power_of" (sp_P_power_of K cs) := ⟨f_P_power_of, _, _, ok_P_power_of F_P_power_of T r_NotWritten c_P_whole_number m_LONGEST_TAIL m_len, PySem.W.mg_of X G a_P_power_of, k_P_power_of, b_P_power_of⟩
  have c_P_size_and_power : ClX l.prog w K mg base 3 "_size_and_power" (sp_P_size_and_power K cs) := ⟨f_P_size_and_power, _, _, ok_P_size_and_power F_P_size_and_power T c_P_power_of c_P_size_of c_P_whole_number, PySem.W.mg_of X G a_P_size_and_power, k_P_size_and_power, b_P_size_and_power⟩
  have c_P_signs_and_terms : Cl l.prog w K mg base 1 "_signs_and_terms" (sp_P_signs_and_terms K) := ⟨f_P_signs_and_terms, _, _, ok_P_signs_and_terms F_P_signs_and_terms, PySem.W.mg_of X G a_P_signs_and_terms, k_P_signs_and_terms, b_P_signs_and_terms⟩
  have c_P_read : ClX l.prog w K mg base 4 "read" (sp_P_read K cs) := ⟨f_P_read, _, _, ok_P_read F_P_read T r_NotWritten c_P_size_and_power c_P_signs_and_terms m_GREATEST_POWER m_len m_zip, PySem.W.mg_of X G a_P_read, k_P_read, b_P_read⟩
  have c_L_whole : Cl l.prog w K mg base 1 "_law_whole" (sp_L_whole K) := ⟨f_L_whole, _, _, ok_L_whole F_L_whole m_bool m_int m_isinstance, PySem.W.mg_of X G a_L_whole, k_L_whole, b_L_whole⟩
  have c_L_cell_at : Cl l.prog w K mg base 1 "_law_cell_at" (sp_L_cell_at K) := ⟨f_L_cell_at, _, _, ok_L_cell_at F_L_cell_at m_len, PySem.W.mg_of X G a_L_cell_at, k_L_cell_at, b_L_cell_at⟩
  have c_L_trim : Cl l.prog w K mg base 1 "_law_trim" (sp_L_trim K) := ⟨f_L_trim, _, _, ok_L_trim F_L_trim m_len, PySem.W.mg_of X G a_L_trim, k_L_trim, b_L_trim⟩
  have c_L_same : Cl l.prog w K mg base 2 "_law_same" (sp_L_same K) := ⟨f_L_same, _, _, ok_L_same F_L_same c_L_whole m_isinstance m_len m_list m_range, PySem.W.mg_of X G a_L_same, k_L_same, b_L_same⟩
  have c_L_number : Cl l.prog w K mg base 1 "_law_number" (sp_L_number K) := ⟨f_L_number, _, _, ok_L_number F_L_number, PySem.W.mg_of X G a_L_number, k_L_number, b_L_number⟩
  have c_L_drawn : Cl l.prog w K mg base 2 "_law_drawn" (sp_L_drawn K) := ⟨f_L_drawn, _, _, ok_L_drawn F_L_drawn c_L_trim c_L_cell_at c_L_number m_range, PySem.W.mg_of X G a_L_drawn, k_L_drawn, b_L_drawn⟩
  have c_L_written : Cl l.prog w K mg base 1 "_law_written" (sp_L_written K) := ⟨f_L_written, _, _, ok_L_written F_L_written m_abs m_len m_range m_str, PySem.W.mg_of X G a_L_written, k_L_written, b_L_written⟩
  exact ok_law (P := l.prog) (w := w) (base := base) F_law T c_P_read c_L_same c_L_written c_P_shown c_L_drawn c_L_cell_at m_isinstance m_list m_str
end PP
open PySem PySem.W PyProof.Rows
set_option maxHeartbeats 0 in
theorem PySem.Challenge.cw_polyarith_k10_written_holds : PySem.Challenge.rw_polyarith_k10_written.Holds := by
  w_on; o_law; k_head; (case hw => w_witness2)
  k_fill
  refine L2.walk_of (l := PySem.Challenge.rw_polyarith_k10_written) (n := 63) (k := 5) (x := "_law_script") (CX := fun _ => L2.CX0) (sp := fun w => PP.sp_law _) rfl (by decide) rfl ⟨rfl, by decide, by decide⟩ (fun w h Y => PySem.W.kIn_of Y) ?F (fun _ _ a ns hl _ hS => ⟨a, ns, rfl, hS, fun _ _ => rfl⟩) (fun _ _ _ _ _ h => h)
  case F =>
    intro w mg fa h KX G hmg
    refine' PP.all_mk KX G hmg ?a_P_term ?l_P_term ?e_P_term ?k_P_term ?a_P_sign ?l_P_sign ?e_P_sign ?k_P_sign ?a_P_shown ?l_P_shown ?e_P_shown ?k_P_shown ?a_P_whole_number ?l_P_whole_number ?e_P_whole_number ?k_P_whole_number ?a_P_size_of ?l_P_size_of ?e_P_size_of ?k_P_size_of ?a_P_power_of ?l_P_power_of ?e_P_power_of ?k_P_power_of ?a_P_size_and_power ?l_P_size_and_power ?e_P_size_and_power ?k_P_size_and_power ?a_P_signs_and_terms ?l_P_signs_and_terms ?e_P_signs_and_terms ?k_P_signs_and_terms ?a_P_read ?l_P_read ?e_P_read ?k_P_read ?a_L_whole ?l_L_whole ?e_L_whole ?k_L_whole ?a_L_cell_at ?l_L_cell_at ?e_L_cell_at ?k_L_cell_at ?a_L_trim ?l_L_trim ?e_L_trim ?k_L_trim ?a_L_same ?l_L_same ?e_L_same ?k_L_same ?a_L_number ?l_L_number ?e_L_number ?k_L_number ?a_L_drawn ?l_L_drawn ?e_L_drawn ?k_L_drawn ?a_L_written ?l_L_written ?e_L_written ?k_L_written ?a_law ?l_law ?e_law ?k_law ?n0_PolyError ?b0_PolyError ?t0_PolyError ?hg_PolyError ?hk_PolyError ?hd_PolyError ?ha_PolyError ?hm_PolyError ?kv_PolyError ?n0_NotWritten ?b0_NotWritten ?t0_NotWritten ?q0_NotWritten ?k0_NotWritten ?hg_NotWritten ?hk_NotWritten ?hd_NotWritten ?ha_NotWritten ?hm_NotWritten ?kv_NotWritten ?up_NotWritten ?sf_NotWritten ?hn_ ?ht_ ?z_GREATEST_POWER ?z_LONGEST_TAIL ?z_abs ?z_bool ?z_int ?z_isinstance ?z_len ?z_list ?z_range ?z_reversed ?z_str ?z_zip
    (case a_P_term => k_is); (case l_P_term => k_is); (case e_P_term => k_is); (case k_P_term => k_is); (case a_P_sign => k_is); (case l_P_sign => k_is); (case e_P_sign => k_is); (case k_P_sign => k_is); (case a_P_shown => k_is); (case l_P_shown => k_is); (case e_P_shown => k_is); (case k_P_shown => k_is); (case a_P_whole_number => k_is); (case l_P_whole_number => k_is); (case e_P_whole_number => k_is); (case k_P_whole_number => k_is); (case a_P_size_of => k_is); (case l_P_size_of => k_is); (case e_P_size_of => k_is); (case k_P_size_of => k_is); (case a_P_power_of => k_is); (case l_P_power_of => k_is); (case e_P_power_of => k_is); (case k_P_power_of => k_is); (case a_P_size_and_power => k_is); (case l_P_size_and_power => k_is); (case e_P_size_and_power => k_is); (case k_P_size_and_power => k_is); (case a_P_signs_and_terms => k_is); (case l_P_signs_and_terms => k_is); (case e_P_signs_and_terms => k_is); (case k_P_signs_and_terms => k_is); (case a_P_read => k_is); (case l_P_read => k_is); (case e_P_read => k_is); (case k_P_read => k_is); (case a_L_whole => k_is); (case l_L_whole => k_is); (case e_L_whole => k_is); (case k_L_whole => k_is); (case a_L_cell_at => k_is); (case l_L_cell_at => k_is); (case e_L_cell_at => k_is); (case k_L_cell_at => k_is); (case a_L_trim => k_is); (case l_L_trim => k_is); (case e_L_trim => k_is); (case k_L_trim => k_is); (case a_L_same => k_is); (case l_L_same => k_is); (case e_L_same => k_is); (case k_L_same => k_is); (case a_L_number => k_is); (case l_L_number => k_is); (case e_L_number => k_is); (case k_L_number => k_is); (case a_L_drawn => k_is); (case l_L_drawn => k_is); (case e_L_drawn => k_is); (case k_L_drawn => k_is); (case a_L_written => k_is); (case l_L_written => k_is); (case e_L_written => k_is); (case k_L_written => k_is); (case a_law => k_is); (case l_law => k_is); (case e_law => k_is); (case k_law => k_is); (case n0_PolyError => k_is); (case b0_PolyError => k_is); (case t0_PolyError => k_is); (case hg_PolyError => k_is); (case hk_PolyError => k_is); (case hd_PolyError => k_is); (case ha_PolyError => k_is); (case hm_PolyError => k_is); (case kv_PolyError => k_is); (case n0_NotWritten => k_is); (case b0_NotWritten => k_is); (case t0_NotWritten => k_is); (case q0_NotWritten => k_exc); (case k0_NotWritten => k_is); (case hg_NotWritten => k_is); (case hk_NotWritten => k_is); (case hd_NotWritten => k_is); (case ha_NotWritten => k_is); (case hm_NotWritten => k_is); (case kv_NotWritten => k_is); (case up_NotWritten => k_is); (case sf_NotWritten => k_is); (case hn_ => k_is); (case ht_ => k_is); (case z_GREATEST_POWER => k_is); (case z_LONGEST_TAIL => k_is); (case z_abs => k_is); (case z_bool => k_is); (case z_int => k_is); (case z_isinstance => k_is); (case z_len => k_is); (case z_list => k_is); (case z_range => k_is); (case z_reversed => k_is); (case z_str => k_is); (case z_zip => k_is)
