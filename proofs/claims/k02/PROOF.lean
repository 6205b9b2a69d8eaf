import PyProof.Rows.All
import Wide.All
import OpenK.AllK
import Wide.FinOn
import HandS.ForMost
import HandS.ForExc
import HandS.Evl
import HandS.Wide
import HandS.WideBits
import HandS.IsInst
import HandS.Gcd
import HandS.Deep
import HandS.ExcIs
import HandS.TryMany
import HandS.RaiseMore
import HandS.FStr
import HandS.TupAny
import KE.GoesMore
import PySem.Challenge.RW_polyarith_k02_sums
set_option Elab.async false
set_option linter.all false
set_option maxRecDepth 100000
set_option maxHeartbeats 4000000
/-! Pre: short words over the hand layer: operators' readings by name, rules for what evaluates, promises of pure defs. -/
namespace PP
open PySem PySem.Spec PyProof.Rows L2 Evl

/-! ### operators by short names -/
abbrev oAdd : R2 := rI0 fun i j => .int (i + j)
abbrev oSub : R2 := rI0 fun i j => .int (i - j)
abbrev oMul : R2 := rI CMulX fun i j => .int (i * j)
abbrev oDiv : R2 := rI CDivW fun i j => .int (i / j)
abbrev oMod : R2 := rI (fun _ j => 0 < j) fun i j => .int (i % j)
abbrev oPow : R2 := rI CPow fun i j => .int (i ^ j.toNat)
abbrev oLt : R2 := rI0 fun i j => .bl (decide (i < j))
abbrev oLe : R2 := rI0 fun i j => .bl (decide (i ≤ j))
abbrev oGt : R2 := rI0 fun i j => .bl (decide (j < i))
abbrev oGe : R2 := rI0 fun i j => .bl (decide (j ≤ i))
abbrev uNeg : V → Hp → VK → Prop := rU fun i => .int (-i)
abbrev rAbs : List V → Hp → VK → Prop := fun xs H Q => ∃ i, xs = [.int i] ∧ Q (.int (if i < 0 then -i else i)) H
abbrev rMin2 : List V → Hp → VK → Prop := fun xs H Q => ∃ i j, xs = [.int i, .int j] ∧ Q (.int (if j < i then j else i)) H

/-! ### a def that is called by its name -/
structure Cl (P : Program) (w : World) (K : PySem.W.Frag) (mg : Str → Option Value) (base : Heap) (k : Nat) (x : Str) (sp : Sp) : Prop where
  ex : ∃ (f : Addr) (fd : FuncData) (ps : List Str), FnOk P w K mg base CX0 k f fd ps sp ∧ mg x = some (.ref f) ∧ PySem.W.keepIn K (.ref f) = true ∧ Binds K fd ps []
section
variable {X : Cx} {k j : Nat} {x : Str} {sp : Sp} {p pos : Pos} {e : Expr} {es : List Expr} {t : TA}
theorem pcl (c : Cl X.prog X.w X.K X.mg X.base k x sp) (hr : Room j X.A) (hk : k ≤ j) (hg : Gl X x) (ha : PA X (e :: es) t)
    (hdb : (x == ("__debug__" : Str)) = false := by decide) (he : starEach (e :: es) X.env = (false, eval e X.env) :: starEach es X.env := by rfl) (hpl : (backTo pos (starEach es X.env)).any (·.1) = false := by rfl) :
    PE X (.Call (.Name x p) (e :: es) [] pos) (tCall sp [] E0 t) := by
  obtain ⟨f, fd, ps, F, hm, kp, b⟩ := c.ex
  exact pe_call F (hr.mono hk) hg hm kp b .nil pass0 ha hdb he hpl
end

/-! ### more of what evaluates -/
section
variable {K : PySem.W.Frag} {σ : L2.St} {H H' : Hp} {ta tb te tx : TE} {t u : TT} {x y z v : V} {r : R2}
/-- what a value satisfies behind: the general form -/
def EvP (te : TE) (σ : L2.St) (H : Hp) (P : V → Hp → Prop) : Prop := ∀ H1, Ex H H1 → ∀ Q : VK, (∀ v H2, Ex H1 H2 → P v H2 → Q v H2) → te σ H1 Q
theorem ev_abs {i : Int} (ha : Ev ta σ H (.int i)) : Ev (tCB rAbs (tCons ta tNil)) σ H (.int (if i < 0 then -i else i)) := fun H1 e Q q =>
  ha H1 e _ fun H2 e2 => ⟨i, rfl, q H2 e2⟩
theorem ev_min2 {i j : Int} (ha : Ev ta σ H (.int i)) (hb : Ev tb σ H (.int j)) : Ev (tCB rMin2 (tCons ta (tCons tb tNil))) σ H (.int (if j < i then j else i)) := fun H1 e Q q =>
  ha H1 e _ fun H2 e2 => hb H2 (e.trans e2) _ fun H3 e3 => ⟨i, j, rfl, q H3 (e2.trans e3)⟩
/-- isinstance(x, T), both built in -/
theorem tyx_ex {K : PySem.W.Frag} {T : String} {a : Addr} {xs : List V} (e : Ex H H') (h : H a = some (.lst xs)) : TyX K H' (.ref a) (.type "list") := .base (.lst (e _ _ h))
theorem ev_isinst {T U : String} {b : Bool} (ha : Ev ta σ H x) (ty : ∀ H1, Ex H H1 → TyX K H1 x (.type T)) (hb : kitB T U = some b) : Ev (tCB (rIsi K) (tCons ta (tCons (tC (.ty U)) tNil))) σ H (.bl b) := fun H1 e Q q =>
  ha H1 e _ fun H2 e2 => ⟨x, .ty U, .type T, .type U, b, rfl, .ty U, ty H2 (e.trans e2), kit_ty hb, q H2 e2⟩
theorem ty_int {K : PySem.W.Frag} {i : Int} : ∀ H1, Ex H H1 → TyX K H1 (.int i) (.type "int") := fun _ _ => .base (.int i)
theorem ty_lst {K : PySem.W.Frag} {a : Addr} {xs : List V} (h : H a = some (.lst xs)) : ∀ H1, Ex H H1 → TyX K H1 (.ref a) (.type "list") := fun _ e => .base (.lst (e _ _ h))
theorem ty_tup {K : PySem.W.Frag} {a : Addr} {xs : List V} (h : H a = some (.tup xs)) : ∀ H1, Ex H H1 → TyX K H1 (.ref a) (.type "tuple") := fun _ e => .base (.tup (e _ _ h))
/-- products, quotients with their conditions -/
theorem ev_mul {i j : Int} (ha : Ev ta σ H (.int i)) (hb : Ev tb σ H (.int j)) (hc : CMulX i j) : Ev (tOp oMul ta tb) σ H (.int (i * j)) := ev_op ha hb (rv_I hc)
theorem ev_div {i j : Int} (ha : Ev ta σ H (.int i)) (hb : Ev tb σ H (.int j)) (hc : CDivW i j) : Ev (tOp oDiv ta tb) σ H (.int (i / j)) := ev_op ha hb (rv_I hc)
theorem ev_mod {i j : Int} (ha : Ev ta σ H (.int i)) (hb : Ev tb σ H (.int j)) (hc : 0 < j) : Ev (tOp oMod ta tb) σ H (.int (i % j)) := ev_op ha hb (rv_I hc)
theorem ev_pow {i j : Int} (ha : Ev ta σ H (.int i)) (hb : Ev tb σ H (.int j)) (hc : CPow i j) : Ev (tOp oPow ta tb) σ H (.int (i ^ j.toNat)) := ev_op ha hb (rv_I hc)
theorem ev_neg {i : Int} (ha : Ev ta σ H (.int i)) : Ev (tUn uNeg ta) σ H (.int (-i)) := ev_un ha ru_neg
theorem ev_add {i j : Int} (ha : Ev ta σ H (.int i)) (hb : Ev tb σ H (.int j)) : Ev (tOp oAdd ta tb) σ H (.int (i + j)) := ev_op ha hb rv_I0
theorem ev_sub {i j : Int} (ha : Ev ta σ H (.int i)) (hb : Ev tb σ H (.int j)) : Ev (tOp oSub ta tb) σ H (.int (i - j)) := ev_op ha hb rv_I0
theorem ev_lt {i j : Int} (ha : Ev ta σ H (.int i)) (hb : Ev tb σ H (.int j)) : Ev (tOp oLt ta tb) σ H (.bl (decide (i < j))) := ev_op ha hb rv_I0
theorem ev_le {i j : Int} (ha : Ev ta σ H (.int i)) (hb : Ev tb σ H (.int j)) : Ev (tOp oLe ta tb) σ H (.bl (decide (i ≤ j))) := ev_op ha hb rv_I0
theorem ev_gt {i j : Int} (ha : Ev ta σ H (.int i)) (hb : Ev tb σ H (.int j)) : Ev (tOp oGt ta tb) σ H (.bl (decide (j < i))) := ev_op ha hb rv_I0
theorem ev_ge {i j : Int} (ha : Ev ta σ H (.int i)) (hb : Ev tb σ H (.int j)) : Ev (tOp oGe ta tb) σ H (.bl (decide (j ≤ i))) := ev_op ha hb rv_I0
theorem ev_eqI {i j : Int} (ha : Ev ta σ H (.int i)) (hb : Ev tb σ H (.int j)) : Ev (tOp rEq ta tb) σ H (.bl (decide (i = j))) := by
  have h := ev_op ha hb (rv_eq (x := .int i) (y := .int j) rfl)
  have e : decide ((V.int i) = V.int j) = decide (i = j) := by
    by_cases h : i = j
    · subst h
      simp
    · simp [h]
  rw [e] at h
  exact h
theorem ev_neI {i j : Int} (ha : Ev ta σ H (.int i)) (hb : Ev tb σ H (.int j)) : Ev (tOp rNe ta tb) σ H (.bl (!decide (i = j))) := by
  have h := ev_op ha hb (rv_ne (x := .int i) (y := .int j) rfl)
  have e : decide ((V.int i) = V.int j) = decide (i = j) := by
    by_cases h : i = j
    · subst h
      simp
    · simp [h]
  rw [e] at h
  exact h
/-- an item of a list of ints -/
theorem ev_ixI {p : Addr} {ns : List Int} {i : Int} {j : Nat} (ha : Ev ta σ H (.ref p)) (hb : Ev tb σ H (.int i)) (h : SqL K H p (ns.map V.int)) (hi : i = (j : Int)) (hj : j < ns.length) : Ev (tOp (rIxL K) ta tb) σ H (.int (ns.getD j 0)) := by
  refine ev_op ha hb (rv_ixL h ?_)
  subst hi
  refine atI_nat ?_
  rw [List.getElem?_map, List.getElem?_eq_getElem hj, List.getD_eq_getElem?_getD, List.getElem?_eq_getElem hj]
  rfl
end

/-! ### ranges as values, an item of a list changed by an operator -/
section
variable {X : Cx}
def rRng1 : List V → Hp → VK → Prop := fun vs H Q => ∃ i : Int, vs = [.int i] ∧ ∀ p, H p = none → Q (.ref p) (upd H p (.rng 0 i))
theorem cr_range1 : CallR X (.type "range") rRng1 := by
  intro pins s σ H vs us Q I r h
  obtain ⟨i, rfl, q⟩ := h
  obtain ⟨u1, rfl, ri⟩ := vals1 r
  obtain ⟨t, rfl⟩ := ri
  refine call_range_1 ⟨.ref s.heap.objs.size, upd H s.heap.objs.size (.rng 0 i), I.laid (t' := s.toks + 1 + 1) (fun b o e => Heap.get?_push_of_some _ e) (Nat.le_refl _) ?_, rfl, q _ (I.hok.fresh (Nat.le_refl _))⟩
  exact ⟨s.toks, t, s.toks + 1, Heap.get?_push_size _ rfl⟩
def iRngV (tl : TE) : TI := fun σ H R => tl σ H fun x H1 => ∃ a lo hi, x = .ref a ∧ H1 a = some (.rng lo hi) ∧ (-(2 ^ 62) ≤ lo ∧ lo < 2 ^ 62 ∧ -(2 ^ 62) ≤ hi ∧ hi < 2 ^ 62) ∧ R (Itr lo (hi - lo).toNat) H1
theorem pi_rngV {tg l : Expr} {tl : TE} (hl : PE X l tl) : PI X tg l (iRngV tl) := by
  refine ⟨fun pins s σ H R I h => ?_⟩
  refine thn (hl.run pins s σ H _ I h) fun v s1 ⟨x, H1, I1, r1, q1⟩ => ?_
  obtain ⟨a, lo, hi, e, ha, ⟨q1, q2, q3, q4⟩, q⟩ := q1
  subst e
  cases r1
  obtain ⟨t, u, v, ho⟩ := (show ObjOk X.prog X.w H1 s1.heap a (.rng lo hi) from I1.hok a _ ha)
  refine wpAny_pyIter_range ho (small_one q1 q2 q3 q4) ?_
  refine ⟨s1.heap.objs.size, [s1.heap.objs.size], _, _, H1, rfl, I1.kept (t' := s1.toks) fun b o e => Heap.get?_push_of_some _ e, turn_range _ lo (hi - lo).toNat, ?_, fun b hb => ?_, q⟩
  · have e1 : lo + ((0 : Nat) : Int) * 1 = lo := by simp
    have e2 : (((hi - lo).toNat : Nat) : Int) - ((0 : Nat) : Int) = Builtin.Range.rangeSize lo hi 1 := by rw [rangeSize_one]; split <;> omega
    show IsRangeIter _ _ (lo + ((0 : Nat) : Int) * 1) ((((hi - lo).toNat : Nat) : Int) - ((0 : Nat) : Int)) 1
    rw [e1, e2]
    exact Heap.get?_push_size _ rfl
  · have e : b = s1.heap.objs.size := by simpa using hb
    subst e
    exact I1.fpOk (Nat.le_refl _) (I1.hok.fresh (Nat.le_refl _))
def rGetL : V → V → Hp → VK → Prop := fun o i H Q => ∃ p xs k v, o = .ref p ∧ i = .int k ∧ H p = some (.lst xs) ∧ 0 ≤ k ∧ xs[k.toNat]? = some v ∧ Q v H
theorem get_list : PGet X rGetL := by
  intro pins s σ H o i ov iv Q I ro ri h
  obtain ⟨p, xs, k, z, rfl, rfl, hp, h0, he, q⟩ := h
  cases ro
  obtain ⟨t, rfl⟩ := ri
  obtain ⟨its, r, pl, hz⟩ := I.list (.inl (.inl hp))
  obtain ⟨w, ew, rw'⟩ := r.get he
  have hn := line63
  have hj : k.toNat < xs.length := (List.getElem?_eq_some_iff.mp he).1
  exact wpAny_getItem_list pl.isList h0 (by omega) (by simpa using ew) ⟨z, H, I, rw', q⟩
end
/-! ### new objects of any kind; new lists as arguments; lists of new lists -/
section
variable {K : PySem.W.Frag} {σ : L2.St} {H H' : Hp} {ta tb te tx : TE} {t u : TT} {x y z v : V} {r : R2} {D : Ends} {tu tw tz : TS}
def EvN (te : TE) (σ : L2.St) (H : Hp) (o : HO) : Prop := ∀ H1, Ex H H1 → ∀ Q : VK, (∀ p H2, H1 p = none → Ex H1 H2 → H2 p = some o → Q (.ref p) H2) → te σ H1 Q
theorem q_asgN {i : Nat} {o : HO} (h : EvN te σ H o) (k : ∀ p H1, H p = none → Ex H H1 → H1 p = some o → tz D (σ.set i (some (.ref p))) H1) : tSeq (tAsg te (gName i)) tz D σ H := h H (Ex.refl H) _ fun p H1 hp e h1 => k p H1 hp e h1
theorem en_range1 {n : Int} (ha : Ev ta σ H (.int n)) : EvN (tCB rRng1 (tCons ta tNil)) σ H (.rng 0 n) := fun H1 e Q q =>
  ha H1 e _ fun H2 e2 => ⟨n, rfl, fun p hp => q p _ (fresh_back e2 hp) (e2.trans (Ex.new hp)) upd_same⟩
theorem el_lcRV {a : Addr} {tl : TE} {j : Nat} {vs : List Nat} {n : Int} (f : Nat → Bool) (v : Nat → V) (h : Ev tl σ H (.ref a)) (hr : H a = some (.rng 0 n)) (hn : 0 ≤ n ∧ n ≤ 40000) (hw : ∀ x, wipe ((wipe σ vs).set j (some x)) vs = wipe σ vs)
    (ht : ∀ (i : Nat) H1, Ex H H1 → (i : Int) < n → EvT t ((wipe σ vs).set j (some (.int (i : Int)))) H1 (f i)) (he : ∀ (i : Nat) H1, Ex H H1 → (i : Int) < n → f i = true → Ev te ((wipe σ vs).set j (some (.int (i : Int)))) H1 (v i)) :
    EvL (tLc (iRngV tl) (gName j) t te vs) σ H (given n.toNat f v) := fun H0 e Q q => h H0 e _ fun H1 e1 => ⟨a, 0, n, rfl, (e.trans e1) _ _ hr, ⟨by omega, by omega, by omega, by omega⟩, fun Dl hD => by
  rw [Int.sub_zero]
  exact lc_range (lo := 0) (n := n.toNat) (Cw H1 f v Dl) ⟨hD, Ex.new hD, upd_same⟩ (fun i H' hi p => by
    have e0 : (0 : Int) + (i : Int) = (i : Int) := Int.zero_add _
    show wipe ((wipe σ vs).set j (some (.int ((0 : Int) + (i : Int))))) vs = wipe σ vs ∧ t ((wipe σ vs).set j (some (.int ((0 : Int) + (i : Int))))) H' fun b H3 => if b = true then te ((wipe σ vs).set j (some (.int ((0 : Int) + (i : Int))))) H3 fun y H4 => ∃ acc, H4 Dl = some (.lst acc) ∧ acc.length < sizeLine ∧ Cw H1 f v Dl (i + 1) (upd H4 Dl (.lst (acc ++ [y]))) else Cw H1 f v Dl (i + 1) H3
    rw [e0]
    exact ⟨hw _, cw_turn p (by omega) (ht i H1 (e.trans e1) (by omega)) (fun hf => he i H1 (e.trans e1) (by omega) hf)⟩) (fun H' p => q Dl H' (fresh_back e1 p.1) (e1.trans p.2.1) p.2.2)⟩
/-- calls whose one argument is a new list -/
theorem el_callN {sp : Sp} {E : XK} {xs ys : List V} (h : EvL te σ H xs) (hs : ∀ p H1, H1 p = some (.lst xs) → Ex H H1 → SpL sp [.ref p] H1 ys) : EvL (tCall sp [] E (tCons te tNil)) σ H ys := fun H1 e Q q =>
  h H1 e _ fun p H2 hp e2 h2 => hs p H2 h2 (e.trans e2) H2 (Ex.refl H2) Q (fun p3 H3 hp3 e3 h3 => q p3 H3 (fresh_back e2 hp3) (e2.trans e3) h3) E
theorem ev_callN {sp : Sp} {E : XK} {xs : List V} (h : EvL te σ H xs) (hs : ∀ p H1, H1 p = some (.lst xs) → Ex H H1 → SpV sp [.ref p] H1 z) : Ev (tCall sp [] E (tCons te tNil)) σ H z := fun H1 e Q q =>
  h H1 e _ fun p H2 hp e2 h2 => hs p H2 h2 (e.trans e2) H2 (Ex.refl H2) Q (fun H3 e3 => q H3 (e2.trans e3)) E
theorem el_listN {xs : List V} (h : EvL te σ H xs) : EvL (tCB (rListS K) (tCons te tNil)) σ H xs := fun H1 e Q q =>
  h H1 e _ fun p H2 _ e2 h2 => ⟨p, xs, rfl, Or.inl (sq_of h2), fun l hl => q l _ (fresh_back e2 hl) (e2.trans (Ex.new hl)) upd_same⟩
/-- lists that are new, each its own -/
def News (H H2 : Hp) : List Addr → List (List V) → Prop
  | [], [] => True
  | p :: ps, xs :: xss => H p = none ∧ H2 p = some (.lst xs) ∧ p ∉ ps ∧ News H H2 ps xss
  | _, _ => False
theorem News.mono : ∀ {ps : List Addr} {xss : List (List V)} {H H0 H1 H2 : Hp}, News H H1 ps xss → Ex H0 H → Ex H1 H2 → News H0 H2 ps xss
  | [], [], _, _, _, _, _, _, _ => trivial
  | p :: ps, xs :: xss, _, _, _, _, h, e0, e => ⟨fresh_back e0 h.1, e _ _ h.2.1, h.2.2.1, News.mono h.2.2.2 e0 e⟩
  | [], _ :: _, _, _, _, _, h, _, _ => h.elim
  | _ :: _, [], _, _, _, _, h, _, _ => h.elim
theorem News.free : ∀ {ps : List Addr} {xss : List (List V)} {H H2 : Hp}, News H H2 ps xss → ∀ p ∈ ps, H p = none
  | [], [], _, _, _, p, hp => by simp at hp
  | a :: ps, xs :: xss, _, _, h, p, hp => by
    rcases List.mem_cons.mp hp with e | hp
    · rw [e]
      exact h.1
    · exact News.free h.2.2.2 p hp
  | [], _ :: _, _, _, h, _, _ => h.elim
  | _ :: _, [], _, _, h, _, _ => h.elim
def EvLs (ta : TA) (σ : L2.St) (H : Hp) (xss : List (List V)) : Prop := ∀ H1, Ex H H1 → ∀ Q : List V → Hp → Prop, (∀ ps H2, Ex H1 H2 → News H1 H2 ps xss → Q (ps.map V.ref) H2) → ta σ H1 Q
theorem els_nil : EvLs tNil σ H [] := fun H1 e Q q => q [] H1 (Ex.refl H1) trivial
theorem els_cons {tr : TA} {xs : List V} {xss : List (List V)} (h : EvL te σ H xs) (hr : EvLs tr σ H xss) : EvLs (tCons te tr) σ H (xs :: xss) := fun H1 e Q q =>
  h H1 e _ fun p H2 hp e2 h2 => hr H2 (e.trans e2) _ fun ps H3 e3 n3 => q (p :: ps) H3 (e2.trans e3) ⟨hp, e3 _ _ h2, (fun hm => by
    rw [n3.free p hm] at h2
    cases h2), n3.mono e2 (Ex.refl H3)⟩
/-- a new list of new lists -/
def EvLL (te : TE) (σ : L2.St) (H : Hp) (xss : List (List V)) : Prop := ∀ H1, Ex H H1 → ∀ Q : VK, (∀ p ps H2, H1 p = none → p ∉ ps → Ex H1 H2 → News H1 H2 ps xss → H2 p = some (.lst (ps.map V.ref)) → Q (.ref p) H2) → te σ H1 Q
theorem News.len : ∀ {ps : List Addr} {xss : List (List V)} {H H2 : Hp}, News H H2 ps xss → ps.length = xss.length
  | [], [], _, _, _ => rfl
  | _ :: ps, _ :: xss, _, _, h => by
    have := News.len h.2.2.2
    simp [this]
  | [], _ :: _, _, _, h => h.elim
  | _ :: _, [], _, _, h => h.elim
theorem News.ex : ∀ {ps : List Addr} {xss : List (List V)} {H H2 : Hp}, News H H2 ps xss → ∀ p ∈ ps, ∃ xs, H2 p = some (.lst xs)
  | [], [], _, _, _, p, hp => by simp at hp
  | a :: ps, xs :: xss, _, _, h, p, hp => by
    rcases List.mem_cons.mp hp with e | hp
    · rw [e]
      exact ⟨xs, h.2.1⟩
    · exact News.ex h.2.2.2 p hp
  | [], _ :: _, _, _, h, _, _ => h.elim
  | _ :: _, [], _, _, h, _, _ => h.elim
theorem ell_lst {ta : TA} {xss : List (List V)} (h : EvLs ta σ H xss) (hz : xss.length ≤ 1000) : EvLL (tLst ta) σ H xss := fun H1 e Q q =>
  h H1 e _ fun ps H2 e2 n2 => ⟨by
    rw [List.length_map, n2.len]
    exact sz_of (by omega), fun p hp => q p ps _ (fresh_back e2 hp) (fun hm => by
    obtain ⟨xs, h3⟩ := n2.ex p hm
    rw [hp] at h3
    cases h3) (e2.trans (Ex.new hp)) (n2.mono (Ex.refl H1) (Ex.new hp)) upd_same⟩
def RetLL (xss : List (List V)) (H : Hp) (Q : VK) : Prop := ∀ p ps H2, H p = none → p ∉ ps → Ex H H2 → News H H2 ps xss → H2 p = some (.lst (ps.map V.ref)) → Q (.ref p) H2
theorem RetLL.go {xss : List (List V)} {Q : VK} (k : RetLL xss H Q) (e : Ex H H') {p : Addr} {ps : List Addr} {H2 : Hp} (hp : H' p = none) (hm : p ∉ ps) (e2 : Ex H' H2) (n : News H' H2 ps xss) (h : H2 p = some (.lst (ps.map V.ref))) : Q (.ref p) H2 :=
  k p ps H2 (fresh_back e hp) hm (e.trans e2) (n.mono e (Ex.refl H2)) h
theorem s_retLL {xss : List (List V)} (h : EvLL te σ H xss) (k : ∀ p ps H1, H p = none → p ∉ ps → Ex H H1 → News H H1 ps xss → H1 p = some (.lst (ps.map V.ref)) → D.rt (.ref p) H1) : tRet te D σ H := h H (Ex.refl H) _ k
theorem q_asgLL {i : Nat} {xss : List (List V)} (h : EvLL te σ H xss) (k : ∀ p ps H1, H p = none → p ∉ ps → Ex H H1 → News H H1 ps xss → H1 p = some (.lst (ps.map V.ref)) → tz D (σ.set i (some (.ref p))) H1) : tSeq (tAsg te (gName i)) tz D σ H := h H (Ex.refl H) _ k
def SpLL (sp : Sp) (vs : List V) (H : Hp) (xss : List (List V)) : Prop := ∀ H1, Ex H H1 → ∀ Q : VK, RetLL xss H1 Q → ∀ E : XK, sp vs H1 Q E
theorem ell_call {sp : Sp} {vs : List V} {xss : List (List V)} {E : XK} {ta : TA} (h : EvA ta σ H vs) (hs : SpLL sp vs H xss) : EvLL (tCall sp [] E ta) σ H xss := fun H1 e Q q =>
  h H1 e _ fun H2 e2 => by
    rw [List.append_nil]
    exact hs H2 (e.trans e2) Q (fun p ps H3 hp hm e3 n3 h3 => q p ps H3 (fresh_back e2 hp) hm (e2.trans e3) (n3.mono e2 (Ex.refl H3)) h3) E
/-- an item of a list of addresses -/
theorem ev_ixR {p : Addr} {ps : List Addr} {i : Int} {j : Nat} {a : Addr} (ha : Ev ta σ H (.ref p)) (hb : Ev tb σ H (.int i)) (h : H p = some (.lst (ps.map V.ref))) (hi : i = (j : Int)) (hj : ps[j]? = some a) : Ev (tOp (rIxL K) ta tb) σ H (.ref a) := by
  refine ev_op ha hb (rv_ixL (sq_of h) ?_)
  subst hi
  refine atI_nat ?_
  rw [List.getElem?_map, hj]
  rfl
end

theorem News.get : ∀ {ps : List Addr} {xss : List (List V)} {H H2 : Hp} {j : Nat} {p : Addr} {xs : List V}, News H H2 ps xss → ps[j]? = some p → xss[j]? = some xs → H p = none ∧ H2 p = some (.lst xs)
  | [], _, _, _, _, _, _, _, h, _ => by simp at h
  | _ :: _, [], _, _, _, _, _, h, _, _ => h.elim
  | a :: ps, ys :: xss, _, _, 0, _, _, h, e1, e2 => by
    simp at e1 e2
    subst e1 e2
    exact ⟨h.1, h.2.1⟩
  | a :: ps, ys :: xss, _, _, j + 1, _, _, h, e1, e2 => News.get h.2.2.2 (by simpa using e1) (by simpa using e2)
theorem News.nodup : ∀ {ps : List Addr} {xss : List (List V)} {H H2 : Hp}, News H H2 ps xss → ps.Nodup
  | [], _, _, _, _ => List.nodup_nil
  | _ :: _, [], _, _, h => h.elim
  | a :: ps, ys :: xss, _, _, h => List.nodup_cons.mpr ⟨h.2.2.1, News.nodup h.2.2.2⟩
theorem News.at {ps : List Addr} {xss : List (List V)} {H H2 : Hp} {j : Nat} (h : News H H2 ps xss) (hj : j < xss.length) : ∃ p, ps[j]? = some p :=
  ⟨ps[j]'(by rw [h.len]; exact hj), List.getElem?_eq_getElem _⟩
section
variable {K : PySem.W.Frag} {σ : L2.St} {H H' : Hp} {ta tb te tx : TE} {t u : TT} {x y z v : V} {r : R2} {D : Ends} {tu tw tz : TS}
theorem evp_L {xs : List V} (h : EvL te σ H xs) : EvP te σ H (fun v H2 => ∃ p, v = .ref p ∧ H2 p = some (.lst xs)) := fun H1 e Q q => h H1 e _ fun p H2 _ e2 h2 => q _ H2 e2 ⟨p, rfl, h2⟩
theorem EvP.imp {P P' : V → Hp → Prop} (h : EvP te σ H P) (i : ∀ v H1, P v H1 → P' v H1) : EvP te σ H P' := fun H1 e Q q => h H1 e _ fun v H2 e2 hp => q v H2 e2 (i v H2 hp)
/-- if c: x = e, what x holds behind told by P -/
theorem q_whenAsg {b : Bool} {i : Nat} {P : V → Hp → Prop} (h : EvT t σ H b) (h1 : b = true → EvP te σ H P) (h2 : b = false → ∃ v, σ.set i (some v) = σ ∧ ∀ H1, Ex H H1 → P v H1) (k : ∀ v H1, Ex H H1 → P v H1 → tz D (σ.set i (some v)) H1) : tSeq (tIfS t (tAsg te (gName i)) tNext) tz D σ H :=
  q_when h (fun hb H1 e1 => h1 hb H1 e1 _ fun v H2 e2 hp => k v H2 (e1.trans e2) hp) (fun hb H1 e1 => by
    obtain ⟨v, e, hp⟩ := h2 hb
    have g := k v H1 e1 (hp H1 e1)
    rw [e] at g
    exact g)
theorem q_asgP {i : Nat} {P : V → Hp → Prop} (h : EvP te σ H P) (k : ∀ v H1, Ex H H1 → P v H1 → tz D (σ.set i (some v)) H1) : tSeq (tAsg te (gName i)) tz D σ H := h H (Ex.refl H) _ fun v H1 e hp => k v H1 e hp
theorem el_cat {xs ys : List V} (h1 : EvL ta σ H xs) (h2 : EvL tb σ H ys) (hz : xs.length + ys.length ≤ 100000) : EvL (tOp rCat ta tb) σ H (xs ++ ys) := fun H1 e Q q =>
  h1 H1 e _ fun p H2 hp e2 hx => h2 H2 (e.trans e2) _ fun p2 H3 hp2 e3 hy => ⟨p, p2, xs, ys, rfl, rfl, e3 _ _ hx, hy, sz_of hz, fun l hl => q l _ (fresh_back (e2.trans e3) hl) ((e2.trans e3).trans (Ex.new hl)) upd_same⟩
end
theorem cut_drop (ns : List Int) (k : Nat) : cutV (ns.map V.int) (some (k : Int)) none = (ns.drop k).map V.int := by
  unfold cutV
  rw [HT.sIx_none, show HT.sIx (ns.map V.int).length 0 (some (k : Int)) = min k (ns.map V.int).length from HT.sIx_nat (ns.map V.int).length _ k]
  rw [← List.map_drop, ← List.map_take, List.length_map]
  congr 1
  by_cases h : k ≤ ns.length
  · rw [Nat.min_eq_left h]
    refine List.take_of_length_le ?_
    rw [List.length_drop]
    exact Nat.le_refl _
  · rw [Nat.min_eq_right (by omega), List.drop_length, List.drop_of_length_le (by omega)]
    simp
/-! ### truth of lists, repeated lists, enumerate, items changed -/
abbrev tTruth (K : PySem.W.Frag) (ta : TE) : TT := fun σ H Q => ta σ H fun x H' => ∃ k, TruV K x H' k ∧ Q k H'
section
variable {K : PySem.W.Frag} {σ : L2.St} {H H' : Hp} {ta tb te tx : TE} {t u : TT} {x y z v : V} {r : R2} {D : Ends} {tu tw tz : TS}
theorem et_truthL {a : Addr} {xs : List V} (h : Ev te σ H (.ref a)) (hx : SqL K H a xs) : EvT (tTruth K te) σ H (!xs.isEmpty) := fun H1 e Q q =>
  h H1 e _ fun H2 e2 => ⟨_, .inl ⟨xs, ex_l (e.trans e2) hx, rfl⟩, q H2 e2⟩
theorem et_truthI {i : Int} (h : Ev te σ H (.int i)) : EvT (tTruth K te) σ H (i != 0) := fun H1 e Q q =>
  h H1 e _ fun H2 e2 => ⟨_, rfl, q H2 e2⟩
theorem rep_flat (k : Nat) (v : V) : (List.replicate k [v]).flatten = List.replicate k v := by
  induction k with
  | zero => rfl
  | succ k ih => rw [List.replicate_succ, List.flatten_cons, ih, List.replicate_succ] <;> rfl
theorem el_rep {i : Int} {k : Nat} (h : EvL ta σ H [v]) (hb : Ev tb σ H (.int i)) (hi : i = (k : Int)) (hk : k ≤ 100000) : EvL (tOp rRep ta tb) σ H (List.replicate k v) := fun H1 e Q q =>
  h H1 e _ fun p H2 hp e2 hx => hb H2 (e.trans e2) _ fun H3 e3 => ⟨p, i, [v], rfl, rfl, e3 _ _ hx, by omega, by omega, by
    rw [hi, Int.toNat_natCast]
    show 1 * k ≤ _
    rw [Nat.one_mul]
    exact sz_of hk, fun l hl => by
    rw [hi, Int.toNat_natCast, rep_flat]
    exact q l _ (fresh_back (e2.trans e3) hl) ((e2.trans e3).trans (Ex.new hl)) upd_same⟩
theorem q_setI {l : Addr} {ns : List Int} {i w : Int} {j : Nat} (hl : H l = some (.lst (ns.map V.int))) (h : Ev te σ H (.int w)) (ho : Ev ta σ H (.ref l)) (hi : Ev tb σ H (.int i)) (he : i = (j : Int)) (hj : j < ns.length) (k : ∀ H1, Ex H H1 → D.nx σ (upd H1 l (.lst ((ns.set j w).map V.int)))) :
    tAsg te (gSub ta tb rSetL) D σ H := by
  subst he
  refine s_setL hl h ho hi (by rw [List.length_map]; exact hj) fun H1 e1 => ?_
  have := k H1 e1
  rw [List.map_set] at this
  exact this
theorem s_augI {l : Addr} {ns : List Int} {i w : Int} {j : Nat} (hl : H l = some (.lst (ns.map V.int))) (ho : Ev ta σ H (.ref l)) (hi : Ev tb σ H (.int i)) (he : i = (j : Int)) (hj : j < ns.length) (h : Ev te σ H (.int w)) (k : ∀ H1, Ex H H1 → D.nx σ (upd H1 l (.lst ((ns.set j (ns.getD j 0 + w)).map V.int)))) :
    tAugS ta tb te rGetL (ipI fun i j => i + j) rSetL D σ H := by
  subst he
  refine ho H (Ex.refl H) _ fun H1 e1 => hi H1 e1 _ fun H2 e2 => ?_
  have h2 := (e1.trans e2) _ _ hl
  refine ⟨l, _, _, .int (ns.getD j 0), rfl, rfl, h2, by omega, ?_, ?_⟩
  · rw [Int.toNat_natCast, List.getElem?_map, List.getElem?_eq_getElem hj, List.getD_eq_getElem?_getD, List.getElem?_eq_getElem hj]
    rfl
  refine h H2 (e1.trans e2) _ fun H3 e3 => ⟨_, _, rfl, rfl, l, _, _, j, rfl, rfl, e3 _ _ h2, ixN_nat (by rw [List.length_map]; exact hj), ?_⟩
  have := k H3 ((e1.trans e2).trans e3)
  rw [List.map_set] at this
  exact this
/-- for i, x in enumerate(xs) -/
theorem s_forEnum {a : Addr} {xs : List V} {ta : TA} {n1 n2 : Nat} (h : EvA ta σ H [.ref a]) (hx : SqL K H a xs) (Pv : Nat → L2.St → Hp → Prop) (h0 : ∀ H1, Ex H H1 → Pv 0 σ H1) (hl : ∀ i σ' H', i ≤ xs.length → Pv i σ' H' → SqL K H' a xs)
    (hs : ∀ (i : Nat) x σ' H' H'', xs[i]? = some x → Pv i σ' H' → Ex H' H'' → tu { D with nx := Pv (i + 1), ct := Pv (i + 1), bk := D.nx } ((σ'.set n1 (some (.int (i : Int)))).set n2 (some x)) H'') (hd : ∀ σ' H', Pv xs.length σ' H' → D.nx σ' H') :
    tFor (iEnum K ta) (gTup K 2 (gCons (gName n1) (gCons (gName n2) gNil))) tu D σ H := by
  refine h H (Ex.refl H) _ fun H1 e => ⟨a, xs, rfl, ex_l e hx, fun i m σ' H' => m = xs.length - i ∧ i ≤ xs.length ∧ Pv i σ' H', ⟨xs.length, by simp, Nat.zero_le _, h0 H1 e⟩, fun i m σ' H' hW => ?_⟩
  obtain ⟨rfl, hi, p⟩ := hW
  have hq := hl i σ' H' hi p
  by_cases hlt : i < xs.length
  · have hg : xs[i]? = some xs[i] := List.getElem?_eq_getElem hlt
    refine .inr ⟨⟨xs, _, hq, hg⟩, Pv (i + 1), fun σ2 H2 p2 => ⟨xs.length - (i + 1), by omega, rfl, by omega, p2⟩, fun w H2 hy => ?_⟩
    obtain ⟨T, x, rfl, hT, rfl, hxx⟩ := hy
    refine ⟨T, [.int (i : Int), x], rfl, .inl (.inl upd_same), rfl, .int (i : Int), [x], rfl, x, [], rfl, rfl, ?_⟩
    exact hs i x σ' H' _ (hxx xs hq) p (Ex.new hT)
  · have e : i = xs.length := by omega
    subst e
    exact .inl ⟨⟨xs, hq, Nat.le_refl _⟩, hd σ' H' p⟩
theorem q_forEnum {a : Addr} {xs : List V} {ta : TA} {n1 n2 : Nat} (h : EvA ta σ H [.ref a]) (hx : SqL K H a xs) (Pv : Nat → L2.St → Hp → Prop) (h0 : ∀ H1, Ex H H1 → Pv 0 σ H1) (hl : ∀ i σ' H', i ≤ xs.length → Pv i σ' H' → SqL K H' a xs)
    (hs : ∀ (i : Nat) x σ' H' H'', xs[i]? = some x → Pv i σ' H' → Ex H' H'' → tu { D with nx := Pv (i + 1), ct := Pv (i + 1), bk := tz D } ((σ'.set n1 (some (.int (i : Int)))).set n2 (some x)) H'') (hd : ∀ σ' H', Pv xs.length σ' H' → tz D σ' H') :
    tSeq (tFor (iEnum K ta) (gTup K 2 (gCons (gName n1) (gCons (gName n2) gNil))) tu) tz D σ H := s_forEnum (D := { D with nx := tz D }) h hx Pv h0 hl hs hd
end
/-! ### arguments told by what holds of them; pairs -/
def Stable (P : V → Hp → Prop) : Prop := ∀ v H1 H2, Ex H1 H2 → P v H1 → P v H2
/-- a list of its own at the value's address; a value -/
def IsL (xs : List V) : V → Hp → Prop := fun v H => ∃ p, v = .ref p ∧ H p = some (.lst xs)
def IsV (z : V) : V → Hp → Prop := fun v _ => v = z
theorem st_L {xs : List V} : Stable (IsL xs) := fun _ _ _ e ⟨p, h, h2⟩ => ⟨p, h, e _ _ h2⟩
theorem st_V {z : V} : Stable (IsV z) := fun _ _ _ _ h => h
def All2 : List (V → Hp → Prop) → List V → Hp → Prop
  | [], [], _ => True
  | P :: Ps, v :: vs, H => P v H ∧ All2 Ps vs H
  | _, _, _ => False
section
variable {K : PySem.W.Frag} {σ : L2.St} {H H' : Hp} {ta tb te tx : TE} {t u : TT} {x y z v : V} {r : R2} {D : Ends} {tu tw tz : TS}
def EvPs (ta : TA) (σ : L2.St) (H : Hp) (Ps : List (V → Hp → Prop)) : Prop := ∀ H1, Ex H H1 → ∀ Q : List V → Hp → Prop, (∀ vs H2, Ex H1 H2 → All2 Ps vs H2 → Q vs H2) → ta σ H1 Q
theorem evp_V (h : Ev te σ H z) : EvP te σ H (IsV z) := fun H1 e Q q => h H1 e _ fun H2 e2 => q z H2 e2 rfl
theorem evp_l {xs : List V} (h : EvL te σ H xs) : EvP te σ H (IsL xs) := fun H1 e Q q => h H1 e _ fun p H2 _ e2 h2 => q _ H2 e2 ⟨p, rfl, h2⟩
theorem evp_at {a : Addr} {xs : List V} (h : Ev te σ H (.ref a)) (hx : H a = some (.lst xs)) : EvP te σ H (IsL xs) := fun H1 e Q q => h H1 e _ fun H2 e2 => q _ H2 e2 ⟨a, rfl, (e.trans e2) _ _ hx⟩
theorem eps_nil : EvPs tNil σ H [] := fun H1 e Q q => q [] H1 (Ex.refl H1) trivial
theorem eps_cons {tr : TA} {P : V → Hp → Prop} {Ps : List (V → Hp → Prop)} (h : EvP te σ H P) (st : Stable P) (hr : EvPs tr σ H Ps) : EvPs (tCons te tr) σ H (P :: Ps) := fun H1 e Q q =>
  h H1 e _ fun v H2 e2 hv => hr H2 (e.trans e2) _ fun vs H3 e3 hvs => q _ H3 (e2.trans e3) ⟨st _ _ _ e3 hv, hvs⟩
theorem eps_l {tr : TA} {xs : List V} {Ps : List (V → Hp → Prop)} (h : EvL te σ H xs) (hr : EvPs tr σ H Ps) : EvPs (tCons te tr) σ H (IsL xs :: Ps) := eps_cons (evp_l h) st_L hr
theorem eps_at {tr : TA} {a : Addr} {xs : List V} {Ps : List (V → Hp → Prop)} (h : Ev te σ H (.ref a)) (hx : H a = some (.lst xs)) (hr : EvPs tr σ H Ps) : EvPs (tCons te tr) σ H (IsL xs :: Ps) := eps_cons (evp_at h hx) st_L hr
theorem eps_V {tr : TA} {Ps : List (V → Hp → Prop)} (h : Ev te σ H z) (hr : EvPs tr σ H Ps) : EvPs (tCons te tr) σ H (IsV z :: Ps) := eps_cons (evp_V h) st_V hr
theorem el_callP {sp : Sp} {E : XK} {ta : TA} {Ps : List (V → Hp → Prop)} {xs : List V} (h : EvPs ta σ H Ps) (hs : ∀ vs H1, Ex H H1 → All2 Ps vs H1 → SpL sp vs H1 xs) : EvL (tCall sp [] E ta) σ H xs := fun H1 e Q q =>
  h H1 e _ fun vs H2 e2 hvs => by
    rw [List.append_nil]
    exact hs vs H2 (e.trans e2) hvs H2 (Ex.refl H2) Q (fun p H3 hp e3 h3 => q p H3 (fresh_back e2 hp) (e2.trans e3) h3) E
theorem ev_callP {sp : Sp} {E : XK} {ta : TA} {Ps : List (V → Hp → Prop)} (h : EvPs ta σ H Ps) (hs : ∀ vs H1, Ex H H1 → All2 Ps vs H1 → SpV sp vs H1 z) : Ev (tCall sp [] E ta) σ H z := fun H1 e Q q =>
  h H1 e _ fun vs H2 e2 hvs => by
    rw [List.append_nil]
    exact hs vs H2 (e.trans e2) hvs H2 (Ex.refl H2) Q (fun H3 e3 => q H3 (e2.trans e3)) E
theorem all2_two {P1 P2 : V → Hp → Prop} {vs : List V} {H : Hp} (h : All2 [P1, P2] vs H) : ∃ v w, vs = [v, w] ∧ P1 v H ∧ P2 w H := by
  match vs, h with
  | [v, w], ⟨a, b, _⟩ => exact ⟨v, w, rfl, a, b⟩
theorem all2_one {P1 : V → Hp → Prop} {vs : List V} {H : Hp} (h : All2 [P1] vs H) : ∃ v, vs = [v] ∧ P1 v H := by
  match vs, h with
  | [v], ⟨a, _⟩ => exact ⟨v, rfl, a⟩
theorem all2_three {P1 P2 P3 : V → Hp → Prop} {vs : List V} {H : Hp} (h : All2 [P1, P2, P3] vs H) : ∃ v w u, vs = [v, w, u] ∧ P1 v H ∧ P2 w H ∧ P3 u H := by
  match vs, h with
  | [v, w, u], ⟨a, b, c, _⟩ => exact ⟨v, w, u, rfl, a, b, c⟩
/-- two lists: a binary call -/
theorem el_call2 {sp : Sp} {E : XK} {xs ys zs : List V} (ha : EvP ta σ H (IsL xs)) (hb : EvP tb σ H (IsL ys)) (hs : ∀ a b H1, Ex H H1 → H1 a = some (.lst xs) → H1 b = some (.lst ys) → SpL sp [.ref a, .ref b] H1 zs) : EvL (tCall sp [] E (tCons ta (tCons tb tNil))) σ H zs :=
  el_callP (eps_cons ha st_L (eps_cons hb st_L eps_nil)) fun vs H1 e1 h => by
    obtain ⟨v, w, rfl, ⟨a, rfl, h1⟩, b, rfl, h2⟩ := all2_two h
    exact hs a b H1 e1 h1 h2
theorem ev_call2 {sp : Sp} {E : XK} {xs ys : List V} (ha : EvP ta σ H (IsL xs)) (hb : EvP tb σ H (IsL ys)) (hs : ∀ a b H1, Ex H H1 → H1 a = some (.lst xs) → H1 b = some (.lst ys) → SpV sp [.ref a, .ref b] H1 z) : Ev (tCall sp [] E (tCons ta (tCons tb tNil))) σ H z :=
  ev_callP (eps_cons ha st_L (eps_cons hb st_L eps_nil)) fun vs H1 e1 h => by
    obtain ⟨v, w, rfl, ⟨a, rfl, h1⟩, b, rfl, h2⟩ := all2_two h
    exact hs a b H1 e1 h1 h2
def RetP (P : V → Hp → Prop) (H : Hp) (Q : VK) : Prop := ∀ v H2, Ex H H2 → P v H2 → Q v H2
theorem RetP.go {P : V → Hp → Prop} {Q : VK} (k : RetP P H Q) (e : Ex H H') {v : V} {H2 : Hp} (e2 : Ex H' H2) (h : P v H2) : Q v H2 := k v H2 (e.trans e2) h
theorem s_retP {P : V → Hp → Prop} (h : EvP te σ H P) (k : ∀ v H1, Ex H H1 → P v H1 → D.rt v H1) : tRet te D σ H := h H (Ex.refl H) _ k
def SpP (sp : Sp) (vs : List V) (H : Hp) (P : V → Hp → Prop) : Prop := ∀ H1, Ex H H1 → ∀ Q : VK, RetP P H1 Q → ∀ E : XK, sp vs H1 Q E
theorem evp_call {sp : Sp} {E : XK} {ta : TA} {vs : List V} {P : V → Hp → Prop} (h : EvA ta σ H vs) (hs : SpP sp vs H P) : EvP (tCall sp [] E ta) σ H P := fun H1 e Q q =>
  h H1 e _ fun H2 e2 => by
    rw [List.append_nil]
    exact hs H2 (e.trans e2) Q (fun v H3 e3 hv => q v H3 (e2.trans e3) hv) E
/-- a pair of two lists, that may be known or new -/
def IsPair (P : List V → List V → Prop) : V → Hp → Prop := fun v H => ∃ t a b xs ys, v = .ref t ∧ H t = some (.tup [.ref a, .ref b]) ∧ H a = some (.lst xs) ∧ H b = some (.lst ys) ∧ P xs ys
theorem evp_pair {xs ys : List V} {P : List V → List V → Prop} (ha : EvP ta σ H (IsL xs)) (hb : EvP tb σ H (IsL ys)) (hp : P xs ys) : EvP (tTup (tCons ta (tCons tb tNil))) σ H (IsPair P) := fun H1 e Q q =>
  ha H1 e _ fun v H2 e2 ⟨a, ea, h1⟩ => hb H2 (e.trans e2) _ fun w H3 e3 ⟨b, eb, h2⟩ => ⟨sz_of (by show 2 ≤ 100000; decide), fun t ht => by
    subst ea
    subst eb
    exact q _ _ ((e2.trans e3).trans (Ex.new ht)) ⟨t, a, b, xs, ys, rfl, upd_same, (e3.trans (Ex.new ht)) _ _ h1, (Ex.new ht) _ _ h2, hp⟩⟩
/-- x, y = a pair -/
theorem q_unpack {n1 n2 : Nat} {P : List V → List V → Prop} (h : EvP te σ H (IsPair P)) (k : ∀ a b xs ys H1, Ex H H1 → H1 a = some (.lst xs) → H1 b = some (.lst ys) → P xs ys → tz D ((σ.set n1 (some (.ref a))).set n2 (some (.ref b))) H1) :
    tSeq (tAsg te (gTup K 2 (gCons (gName n1) (gCons (gName n2) gNil)))) tz D σ H := h H (Ex.refl H) _ fun v H1 e ⟨t, a, b, xs, ys, ev, ht, h1, h2, hp⟩ => by
  subst ev
  exact ⟨t, _, rfl, .inl (.inl ht), rfl, .ref a, _, rfl, .ref b, _, rfl, rfl, k a b xs ys H1 e h1 h2 hp⟩
/-- comprehensions over range(a, b), and over enumerate -/
theorem el_lcR2 {ta : TA} {j : Nat} {vs : List Nat} {lo hi : Int} (f : Nat → Bool) (v : Nat → V) (h : EvA ta σ H [.int lo, .int hi]) (hn : 0 ≤ lo ∧ lo ≤ 40000 ∧ 0 ≤ hi ∧ hi ≤ 40000) (hw : ∀ x, wipe ((wipe σ vs).set j (some x)) vs = wipe σ vs)
    (ht : ∀ (i : Nat) H1, Ex H H1 → lo + (i : Int) < hi → EvT t ((wipe σ vs).set j (some (.int (lo + (i : Int))))) H1 (f i)) (he : ∀ (i : Nat) H1, Ex H H1 → lo + (i : Int) < hi → f i = true → Ev te ((wipe σ vs).set j (some (.int (lo + (i : Int))))) H1 (v i)) :
    EvL (tLc (iRng2 ta) (gName j) t te vs) σ H (given (hi - lo).toNat f v) := fun H0 e Q q => h H0 e _ fun H1 e1 => ⟨lo, hi, rfl, ⟨by omega, by omega, by omega, by omega⟩, fun Dl hD =>
  lc_range (lo := lo) (n := (hi - lo).toNat) (Cw H1 f v Dl) ⟨hD, Ex.new hD, upd_same⟩ (fun i H' hi p =>
    ⟨hw _, cw_turn p (by omega) (ht i H1 (e.trans e1) (by omega)) (fun hf => he i H1 (e.trans e1) (by omega) hf)⟩) (fun H' p => q Dl H' (fresh_back e1 p.1) (e1.trans p.2.1) p.2.2)⟩
theorem el_lcEnum {a : Addr} {xs : List V} {ta : TA} {n1 n2 : Nat} {vs : List Nat} (v : Nat → V) (h : EvA ta σ H [.ref a]) (hx : SqL K H a xs) (hz : xs.length ≤ 40000) (hw : ∀ x y, wipe (((wipe σ vs).set n1 (some x)).set n2 (some y)) vs = wipe σ vs)
    (he : ∀ (i : Nat) (x : V) H1, Ex H H1 → xs[i]? = some x → Ev te (((wipe σ vs).set n1 (some (.int (i : Int)))).set n2 (some x)) H1 (v i)) :
    EvL (tLc (iEnum K ta) (gTup K 2 (gCons (gName n1) (gCons (gName n2) gNil))) tYes te vs) σ H ((List.range xs.length).map v) := fun H0 e Q q => h H0 e _ fun H1 e1 => by
  refine ⟨a, xs, rfl, ex_l (e.trans e1) hx, fun Dl hD => ⟨fun i m H' => m = xs.length - i ∧ i ≤ xs.length ∧ Ex H1 H' ∧ H' Dl = some (.lst ((List.range i).map v)), ⟨xs.length, by simp, Nat.zero_le _, Ex.new hD, upd_same⟩, fun i m H' hW => ?_⟩⟩
  obtain ⟨rfl, hi, e2, hd⟩ := hW
  have hq := ex_l ((e.trans e1).trans e2) hx
  by_cases hlt : i < xs.length
  · refine .inr ⟨⟨xs, _, hq, List.getElem?_eq_getElem hlt⟩, fun H2 => Ex H1 H2 ∧ H2 Dl = some (.lst ((List.range (i + 1)).map v)), fun H2 hN => ⟨xs.length - (i + 1), by omega, rfl, by omega, hN⟩, fun w H2 hy => ?_⟩
    obtain ⟨T, x, rfl, hT, rfl, hxx⟩ := hy
    have hxi := hxx xs hq
    refine ⟨T, [.int (i : Int), x], rfl, .inl (.inl upd_same), rfl, .int (i : Int), [x], rfl, x, [], rfl, rfl, hw _ _, ?_⟩
    refine he i x _ (((e.trans e1).trans e2).trans (Ex.new hT)) hxi _ (Ex.refl _) _ fun H3 e3 => ?_
    refine ⟨(List.range i).map v, e3 _ _ ((Ex.new hT) _ _ hd), sz_lt (by rw [List.length_map, List.length_range]; omega), Ex.mut ((e2.trans (Ex.new hT)).trans e3) hD, ?_⟩
    rw [upd_same, List.range_succ, List.map_append]
    rfl
  · have e5 : i = xs.length := by omega
    subst e5
    exact .inl ⟨⟨xs, hq, Nat.le_refl _⟩, q Dl H' (fresh_back e1 hD) (e1.trans e2) hd⟩
end
/-! ### sizes -/
theorem mulx {i j : Int} {a b : Nat} (ha : i.natAbs < 2 ^ a) (hb : j.natAbs < 2 ^ b) (h : a + b ≤ 134217728) : CMulX i j := mulx_ok ha hb h
theorem div_small {i j : Int} (h : 0 < j) (hb : j < 2 ^ 200) : CDivW i j := wide_div (b := 200) h (by omega) (by decide) (by decide)
theorem cut_take (ns : List Int) (k : Nat) : cutV (ns.map V.int) none (some (k : Int)) = (ns.take k).map V.int := by
  unfold cutV
  rw [HT.sIx_none, show HT.sIx (ns.map V.int).length (ns.map V.int).length (some (k : Int)) = min k (ns.map V.int).length from HT.sIx_nat (ns.map V.int).length _ k]
  rw [List.drop_zero, Nat.sub_zero, ← List.map_take]
  congr 1
  rw [List.length_map, List.take_eq_take_iff]
  omega
section
variable {K : PySem.W.Frag} {σ : L2.St} {H : Hp} {te tb : TE} {a : Addr} {ns : List Int} {i : Int} {k : Nat}
theorem el_take (h : Ev te σ H (.ref a)) (h2 : Ev tb σ H (.int i)) (hs : SqL K H a (ns.map V.int)) (hi : i = (k : Int)) : EvL (tSl (rSlL K) te tNoPart (tPart tb)) σ H ((ns.take k).map V.int) := by
  subst hi
  rw [← cut_take]
  exact el_sl h eo_none (eo_some h2) hs
theorem el_drop (h : Ev te σ H (.ref a)) (h2 : Ev tb σ H (.int i)) (hs : SqL K H a (ns.map V.int)) (hi : i = (k : Int)) : EvL (tSl (rSlL K) te (tPart tb) tNoPart) σ H ((ns.drop k).map V.int) := by
  subst hi
  rw [← cut_drop]
  exact el_sl h (eo_some h2) eo_none hs
end
section
variable {K : PySem.W.Frag} {σ : L2.St} {H : Hp} {te tb : TE} {a : Addr} {ns : List Int} {i : Int} {k : Nat}
theorem el_slN {xs : List V} {tl th : TO} {lo hi : Option Int} (h : EvL te σ H xs) (h1 : EvO tl σ H lo) (h2 : EvO th σ H hi) : EvL (tSl (rSlL K) te tl th) σ H (cutV xs lo hi) := fun H1 e _ q =>
  h H1 e _ fun a H2 _ e2 hx => h1 H2 (e.trans e2) _ fun H3 e3 => h2 H3 ((e.trans e2).trans e3) _ fun H4 e4 =>
    ⟨a, xs, rfl, ex_l (e3.trans e4) (sq_of hx), fun p hp => q p _ (fresh_back ((e2.trans e3).trans e4) hp) (((e2.trans e3).trans e4).trans (Ex.new hp)) upd_same⟩
theorem el_dropN (h : EvL te σ H (ns.map V.int)) (h2 : Ev tb σ H (.int i)) (hi : i = (k : Int)) : EvL (tSl (rSlL K) te (tPart tb) tNoPart) σ H ((ns.drop k).map V.int) := by
  subst hi
  rw [← cut_drop]
  exact el_slN h (eo_some h2) eo_none
end

/-! ### == of lists of ints -/
def dI (ns : List Int) : PyData := .list (ns.map PyData.int)
theorem canLay_ints : ∀ ns : List Int, PyData.canLayAll0 (ns.map PyData.int) = true
  | [] => by simp [PyData.canLayAll0]
  | n :: r => by simp [PyData.canLayAll0, PyData.canLay0, canLay_ints r]
theorem depth_ints : ∀ ns : List Int, PyData.depthAll (ns.map PyData.int) = 0
  | [] => by simp [PyData.depthAll]
  | n :: r => by simp [PyData.depthAll, PyData.depth, depth_ints r]
theorem shaped_dI (ns : List Int) : SeqAt.shaped (dI ns) = true := by
  unfold SeqAt.shaped dI
  simp [PyData.canLay0, PyData.depth, canLay_ints, depth_ints]
theorem eqvAll_ints : ∀ ns ms : List Int, PyData.eqvAll (ns.map PyData.int) (ms.map PyData.int) = decide (ns = ms)
  | [], [] => by simp [PyData.eqvAll]
  | [], m :: s => by simp [PyData.eqvAll]
  | n :: r, [] => by simp [PyData.eqvAll]
  | n :: r, m :: s => by
    simp only [List.map_cons, PyData.eqvAll, PyData.eqv, eqvAll_ints r s]
    by_cases h : n = m
    · subst h
      simp
    · simp [h]
theorem eqv_dI (ns ms : List Int) : PyData.eqv (dI ns) (dI ms) = decide (ns = ms) := by
  unfold dI
  simp [PyData.eqv, eqvAll_ints]
theorem dpAll_ints {K : PySem.W.Frag} {H : Hp} : ∀ ns : List Int, DpAll K H (ns.map V.int) (ns.map PyData.int)
  | [] => .nil
  | n :: r => .cons (.int n) (dpAll_ints r)
theorem dp_I {K : PySem.W.Frag} {H : Hp} {a : Addr} {ns : List Int} (h : SqL K H a (ns.map V.int)) : Dp K H (.ref a) (dI ns) := .lst h (dpAll_ints ns)
section
variable {K : PySem.W.Frag} {σ : L2.St} {H H' : Hp} {ta tb te tx : TE} {t u : TT} {x y z v : V} {r : R2} {D : Ends} {tu tw tz : TS}
theorem evp_op {r : R2} {P1 P2 : V → Hp → Prop} (ha : EvP ta σ H P1) (hb : EvP tb σ H P2) (st : Stable P1) (hr : ∀ v w H1, Ex H H1 → P1 v H1 → P2 w H1 → RV r v w H1 z) : Ev (tOp r ta tb) σ H z := fun H1 e Q q =>
  ha H1 e _ fun v H2 e2 hv => hb H2 (e.trans e2) _ fun w H3 e3 hw => hr v w H3 ((e.trans e2).trans e3) (st _ _ _ e3 hv) hw H3 (Ex.refl H3) Q fun H4 e4 => q H4 ((e2.trans e3).trans e4)
theorem ev_eqD {ns ms : List Int} (ha : EvP ta σ H (IsL (ns.map V.int))) (hb : EvP tb σ H (IsL (ms.map V.int))) : Ev (tOp (rEqD K) ta tb) σ H (.bl (decide (ns = ms))) :=
  evp_op ha hb st_L fun v w H1 e1 ⟨a, ea, h1⟩ ⟨b, eb, h2⟩ H2 e2 Q q => ⟨dI ns, dI ms, by rw [ea]; exact dp_I (sq_of (e2 _ _ h1)), by rw [eb]; exact dp_I (sq_of (e2 _ _ h2)), shaped_dI ns, shaped_dI ms, by rw [eqv_dI]; exact q H2 (Ex.refl H2)⟩
theorem ev_neD {ns ms : List Int} (ha : EvP ta σ H (IsL (ns.map V.int))) (hb : EvP tb σ H (IsL (ms.map V.int))) : Ev (tOp (rNeD K) ta tb) σ H (.bl (!decide (ns = ms))) :=
  evp_op ha hb st_L fun v w H1 e1 ⟨a, ea, h1⟩ ⟨b, eb, h2⟩ H2 e2 Q q => ⟨dI ns, dI ms, by rw [ea]; exact dp_I (sq_of (e2 _ _ h1)), by rw [eb]; exact dp_I (sq_of (e2 _ _ h2)), shaped_dI ns, shaped_dI ms, by rw [eqv_dI]; exact q H2 (Ex.refl H2)⟩
theorem evp_nil {P : List Int} : EvP (tLst tNil) σ H (IsL (([] : List Int).map V.int)) := evp_l (el_lst ea_nil (by simp))
theorem evp_lf {xs : List V} (h : EvL te σ H xs) : EvP te σ H (fun v H2 => ∃ p, v = .ref p ∧ H p = none ∧ H2 p = some (.lst xs)) := fun H1 e Q q => h H1 e _ fun p H2 hp e2 h2 => q _ H2 e2 ⟨p, rfl, fresh_back e hp, h2⟩
/-- an if behind which a word holds -/
theorem q_whenM {Mid : L2.St → Hp → Prop} {b : Bool} (k : ∀ σ' H', Mid σ' H' → tz D σ' H') (h : EvT t σ H b) (h1 : b = true → (∀ σ' H', Mid σ' H' → tz D σ' H') → ∀ H1, Ex H H1 → tu { D with nx := tz D } σ H1) (h2 : b = false → ∀ H1, Ex H H1 → Mid σ H1) : tSeq (tIfS t tu tNext) tz D σ H :=
  q_when h (fun hb H1 e1 => h1 hb k H1 e1) (fun hb H1 e1 => k _ _ (h2 hb H1 e1))
theorem s_whenM {Mid : L2.St → Hp → Prop} {b : Bool} (k : ∀ σ' H', Mid σ' H' → D.nx σ' H') (h : EvT t σ H b) (h1 : b = true → (∀ σ' H', Mid σ' H' → D.nx σ' H') → ∀ H1, Ex H H1 → tu D σ H1) (h2 : b = false → ∀ H1, Ex H H1 → Mid σ H1) : tIfS t tu tNext D σ H :=
  s_when h (fun hb H1 e1 => h1 hb k H1 e1) (fun hb H1 e1 => k _ _ (h2 hb H1 e1))
/-- the last item -/
theorem ev_last {p : Addr} {ns : List Int} (ha : Ev ta σ H (.ref p)) (h : SqL K H p (ns.map V.int)) (hn : ns ≠ []) : Ev (tOp (rIxL K) ta (tUn uNeg (tC (.int 1)))) σ H (.int (ns.getD (ns.length - 1) 0)) := by
  refine ev_op ha (ev_neg ev_c) (rv_ixL h ?_)
  have hl : 0 < ns.length := List.length_pos_iff.mpr hn
  have e : ns.map V.int = ns.dropLast.map V.int ++ [.int (ns.getD (ns.length - 1) 0)] := by
    conv => lhs; rw [← List.dropLast_concat_getLast hn]
    rw [List.map_append, List.getLast_eq_getElem, List.getD_eq_getElem?_getD, List.getElem?_eq_getElem (by omega)]
    rfl
  rw [e]
  exact atI_last _ _
end
/-! // by any number but nought, below 2 ^ 9000 in size -/
section
variable {X : Cx}
def CDivG (_ j : Int) : Prop := j ≠ 0 ∧ j.natAbs.log2 < 9000
abbrev oModN : R2 := rI (fun _ j => j ≠ 0) fun i j => .int (i.fmod j)
abbrev oDivN : R2 := rI CDivG fun i j => .int (i.fdiv j)
theorem op_fdivWN : OpR X (binaryOp .FloorDiv) oDivN := opI fun i j _ _ _ _ _ hc q => floordiv_int hc.1 q (.inl (PyProof.noPylong_of_log2 hc.2))
end

/-! ### own errors: their classes by name, raising, catching -/
structure Cs where
  (PolyError NoNumber NoPower ByNought NotWhole NoMeet NoParts NotWritten : Addr)
/-- what the written part says of an own error's class at C -/
structure ExK (K : PySem.W.Frag) (C : Addr) : Prop where
  b : PySem.W.subIn K (.ref C) (.type "BaseException") = some true
  t : PySem.W.typeIn K (.ref C) = some (.type "type")
  c : ExcC K C
  v : PySem.W.kitOne K (.ref C) (.type "ValueError") = some true
theorem kit_sub {K : PySem.W.Frag} {D : Addr} {b : Bool} (h : PySem.W.subIn K (.ref D) (.type "ValueError") = some b) : PySem.W.kitOne K (.ref D) (.type "ValueError") = some b := by
  have e1 : ((Value.ref D) == Value.type "ValueError") = false := by
    rw [beq_eq_false_iff_ne]
    exact fun z => by cases z
  have e2 : PySem.W.kitMeta "ValueError" = true := by decide +kernel
  show (if ((Value.ref D) == Value.type "ValueError") = true then some true else if PySem.W.kitMeta "ValueError" = true then PySem.W.subIn K (.ref D) (.type "ValueError") else none) = some b
  rw [e1, if_neg Bool.false_ne_true, if_pos e2]
  exact h
/-- the classes at l, each below the one at p, and none below another -/
structure Tx (K : PySem.W.Frag) (p : Addr) (l : List Addr) : Prop where
  base : ExK K p
  cls : ∀ c ∈ l, ExK K c ∧ PySem.W.subIn K (.ref c) (.ref p) = some true ∧ PySem.W.subIn K (.ref c) (.ref c) = some true
  nd : l.Pairwise fun c d => PySem.W.subIn K (.ref c) (.ref d) = some false ∧ PySem.W.subIn K (.ref d) (.ref c) = some false
section
variable {K : PySem.W.Frag} {p : Addr} {l : List Addr} {c d : Addr}
theorem ExK.exm (x : ExK K d) {b : Bool} (h : PySem.W.subIn K (.ref c) (.ref d) = some b) : PySem.W.exmOne K (.ref c) (.ref d) = some b := PySem.W.exm_ref x.b x.c.hd x.t h
theorem Tx.self (T : Tx K p l) (h : c ∈ l) : PySem.W.exmOne K (.ref c) (.ref c) = some true := (T.cls c h).1.exm (T.cls c h).2.2
theorem Tx.up (T : Tx K p l) (h : c ∈ l) : PySem.W.exmOne K (.ref c) (.ref p) = some true := T.base.exm (T.cls c h).2.1
end
/-- a def that may raise, called by its name -/
structure ClX (P : Program) (w : World) (K : PySem.W.Frag) (mg : Str → Option Value) (base : Heap) (k : Nat) (x : Str) (sp : Sp) : Prop where
  ex : ∃ (f : Addr) (fd : FuncData) (ps : List Str), FnOk P w K mg base (L2.CX P w) k f fd ps sp ∧ mg x = some (.ref f) ∧ PySem.W.keepIn K (.ref f) = true ∧ Binds K fd ps []
/-- an own error's class, raised here -/
structure RsX (K : PySem.W.Frag) (mg : Str → Option Value) (x : Str) (C : Addr) : Prop where
  g : mg x = some (.ref C)
  q : PySem.W.excIn K C [.type "ValueError", .type "Exception", .type "BaseException", .type "object"] "ValueError.__new__" = true
  k : PySem.W.keepIn K (.ref C) = true
  b : PySem.W.subIn K (.ref C) (.type "BaseException") = some true
  t : PySem.W.typeIn K (.ref C) = some (.type "type")
def tRaiseC (C : Addr) (W : WX) : TS := fun _ σ H => W (.ref C) none σ H
/-- raise X(e), X of one argument -/
def tRaise1 (C : Addr) (W : WX) (te : TE) : TS := fun _ σ H => te σ H fun _ H1 => W (.ref C) none σ H1
def tTryO (K : PySem.W.Frag) (c : Value) (tb : WX → TS) (ts : Addr → Value → Option Addr → TS) (Wout : WX) : TS := fun D σ H => tb (wOnly K c ts Wout D) D σ H
def tTryA (K : PySem.W.Frag) (c : Value) (i : Nat) (tb : WX → TS) (ts : Addr → Value → Option Addr → TS) (Wout : WX) : TS := fun D σ H => tb (wAs K c i ts Wout D) D σ H
def tTryM (K : PySem.W.Frag) (l : List (Value × (Addr → Value → Option Addr → TS))) (tb : WX → TS) (Wout : WX) : TS := fun D σ H => tb (wMany K Wout D l) D σ H
/-- isinstance(e, U), e the exception that the suite holds at a -/
def tIsE (K : PySem.W.Frag) (a : Addr) (cls : Value) (d : Option Addr) (te : TE) (U : String) : TE := fun σ H Q => ∃ D, cls = .ref D ∧ d = none ∧ ExcC K D ∧ tCB (rIsE K D a) (tCons te (tCons (tC (.ty U)) tNil)) σ H Q
theorem ev_isE {K : PySem.W.Frag} {a D : Addr} {te : TE} {U : String} {σ : L2.St} {H : Hp} {b : Bool} (h : Ev te σ H (.ref a)) (hC : ExcC K D) (hk : PySem.W.kitOne K (.ref D) (.type U) = some b) : Ev (tIsE K a (.ref D) none te U) σ H (.bl b) := fun H1 e Q q =>
  ⟨D, rfl, rfl, hC, h H1 e _ fun H2 e2 => ⟨.ty U, .type U, b, rfl, fun u r => r, hk, q H2 e2⟩⟩
abbrev wNone : WX := fun _ _ _ _ => False
abbrev wOf (E : XK) : WX := fun cls d _ H => E cls d H
section
variable {X : Cx} {k j : Nat} {x : Str} {sp : Sp} {p pos pos' p2 : Pos} {e : Expr} {es : List Expr} {t : TA} {C : Addr} {W : WX} {m : Str} {jj : Nat}
theorem pclX (c : ClX X.prog X.w X.K X.mg X.base k x sp) (hr : Room j X.A) (hk : k ≤ j) (hg : Gl X x) (ha : PA X (e :: es) t)
    (hdb : (x == ("__debug__" : Str)) = false := by decide) (he : starEach (e :: es) X.env = (false, eval e X.env) :: starEach es X.env := by rfl) (hpl : (backTo pos (starEach es X.env)).any (·.1) = false := by rfl) :
    PE X (.Call (.Name x p) (e :: es) [] pos) (tCall sp [] E0 t) := by
  obtain ⟨f, fd, ps, F, hm, kp, b⟩ := c.ex
  exact pe_call F (hr.mono hk) hg hm kp b .nil passL ha hdb he hpl
theorem pclS (c : ClX X.prog X.w X.K X.mg X.base k x sp) (tk : Takes X W) (hr : Room j X.A) (hk : k ≤ j) (hg : Gl X x) (ha : PA X (e :: es) t)
    (hdb : (x == ("__debug__" : Str)) = false := by decide) (he : starEach (e :: es) X.env = (false, eval e X.env) :: starEach es X.env := by rfl) (hpl : (backTo pos (starEach es X.env)).any (·.1) = false := by rfl) :
    PE X (.Call (.Name x p) (e :: es) [] pos) (tCallS sp (WE W) t) := by
  obtain ⟨f, fd, ps, F, hm, kp, b⟩ := c.ex
  exact pe_callS F (hr.mono hk) hg hm kp b (fun σ => passAt tk σ) ha hdb he hpl
theorem ps_raiseC (R : RsX X.K X.mg x C) (hc : X.calm = true) (tk : Takes X W) (hg : Gl X x) (hdb : (x == ("__debug__" : Str)) = false := by decide) : PS X (.Raise (some (.Call (.Name x p) [.Constant (.str m) jj p2] [] pos)) none pos') (tRaiseC C W) :=
  ps_raise hc tk (pmk_own PySem.F.excBase_ValueError R.q R.g R.k (raises_own R.b R.t) hg hdb)
theorem ps_raise1 {te : TE} (R : RsX X.K X.mg x C) (hc : X.calm = true) (tk : Takes X W) (hg : Gl X x) (he : PE X e te) (hs : starEach [e] X.env = (false, eval e X.env) :: starEach [] X.env := by rfl) (hdb : (x == ("__debug__" : Str)) = false := by decide) : PS X (.Raise (some (.Call (.Name x p) [e] [] pos)) none pos') (tRaise1 C W te) :=
  ps_raise hc tk (SkE.pmk_own1 PySem.F.excBase_ValueError R.q R.g R.k (raises_own R.b R.t) hg he hs hdb)
theorem pe_isE {a : Addr} {oe : Obj} {cls : Value} {d : Option Addr} {pn : List (Addr × Obj)} {te : TE} {n U : Str} {u : String} {pu pf pnn : Pos} (hz : Zc cls d oe) (hf : ∃ vs, oe.data = .fields vs) (he : PE (X.suite a ((a, oe) :: pn)) (.Name n pnn) te) (hg : Gl X "isinstance") (hm : X.mg "isinstance" = none) (hgU : Gl X U) (hmU : X.mg U = none) (hvU : bootBuiltins U = some (.type u)) (hnU : U ≠ "__name__" := by decide) (hdU : (U == ("__debug__" : Str)) = false := by decide) :
    PE (X.suite a ((a, oe) :: pn)) (.Call (.Name "isinstance" pf) [.Name n pnn, .Name U pu] [] pos) (tIsE X.K a cls d te u) := by
  refine ⟨fun pins s σ H Q I h => ?_⟩
  obtain ⟨D, rfl, rfl, hC, h⟩ := h
  have hu : PE (X.suite a ((a, oe) :: pn)) (.Name U pu) (tC (.ty u)) := pe_bltn hgU hmU hvU rfl hnU hdU
  exact (pe_callB (call_isE hC hz hf) hg hm (by decide +kernel) (pa_cons he (pa_cons hu pa_nil))).run pins s σ H Q I h
end

/-! ### odd, half, in a tuple of data, tuples of what holds -/
abbrev oOdd : R2 := fun x y H Q => ∃ n : Nat, x = .int (n : Int) ∧ y = .int 1 ∧ Q (.int ((n % 2 : Nat) : Int)) H
abbrev oHalf : R2 := fun x y H Q => ∃ n : Nat, x = .int (n : Int) ∧ y = .int 1 ∧ Q (.int ((n / 2 : Nat) : Int)) H
theorem units1 {k : Nat} {A : Around} (r : Room k A) : A.units + 65 < cLine := by
  have := r.un
  omega
def rInDT (K : PySem.W.Frag) : R2 := fun x y H Q => ∃ d ds, Dp K H x d ∧ Dp K H y (.tuple ds) ∧ SeqAt.shaped d = true ∧ SeqAt.shaped (.tuple ds) = true ∧ Q (.bl (ds.any fun z => PyData.eqv z d)) H
theorem op_inDT {X : Cx} (hu : X.A.units + 65 < cLine) : OpR X (compareOp .In) (rInDT X.K) := by
  intro pins s σ H x y v u Q I rx ry h
  obtain ⟨d, ds, hd, he, sd, se, q⟩ := h
  obtain ⟨as, r1⟩ := Dp.reads I d x v hd rx
  obtain ⟨bs, r2⟩ := Dp.reads I (.tuple ds) y u he ry
  exact SeqAt.in_tuple_reads r2 r1 (SeqAt.canLay_of_shaped se) (SeqAt.canLay_of_shaped sd) (room_in_shaped sd hu) ⟨.bl _, H, I, rfl, q⟩
def IsT (Ps : List (V → Hp → Prop)) : V → Hp → Prop := fun v H => ∃ t vs, v = .ref t ∧ H t = some (.tup vs) ∧ All2 Ps vs H
theorem All2.mono : ∀ {Ps : List (V → Hp → Prop)} {vs : List V} {H H' : Hp}, (∀ P ∈ Ps, Stable P) → Ex H H' → All2 Ps vs H → All2 Ps vs H'
  | [], [], _, _, _, _, _ => trivial
  | P :: Ps, v :: vs, _, _, st, e, h => ⟨st P List.mem_cons_self _ _ _ e h.1, All2.mono (fun Q hQ => st Q (List.mem_cons_of_mem _ hQ)) e h.2⟩
  | [], _ :: _, _, _, _, _, h => h.elim
  | _ :: _, [], _, _, _, _, h => h.elim
theorem All2.len : ∀ {Ps : List (V → Hp → Prop)} {vs : List V} {H : Hp}, All2 Ps vs H → vs.length = Ps.length
  | [], [], _, _ => rfl
  | P :: Ps, v :: vs, _, h => by
    have := All2.len h.2
    simp [this]
  | [], _ :: _, _, h => h.elim
  | _ :: _, [], _, h => h.elim
theorem st_T {Ps : List (V → Hp → Prop)} (st : ∀ P ∈ Ps, Stable P) : Stable (IsT Ps) := fun _ _ _ e ⟨t, vs, h1, h2, h3⟩ => ⟨t, vs, h1, e _ _ h2, h3.mono st e⟩
def dLs (xss : List (List Int)) : List PyData := xss.map dI
theorem canLay_dLs : ∀ xss : List (List Int), PyData.canLayAll0 (dLs xss) = true
  | [] => by simp [dLs, PyData.canLayAll0]
  | n :: r => by
    have := canLay_dLs r
    unfold dLs at this
    simp [dLs, PyData.canLayAll0, PyData.canLay0, dI, canLay_ints, this]
theorem depth_dLs : ∀ xss : List (List Int), PyData.depthAll (dLs xss) ≤ 1
  | [] => by simp [dLs, PyData.depthAll]
  | n :: r => by
    have := depth_dLs r
    unfold dLs at this
    simp [dLs, PyData.depthAll, PyData.depth, dI, depth_ints, this]
theorem shaped_tup (xss : List (List Int)) : SeqAt.shaped (.tuple (dLs xss)) = true := by
  unfold SeqAt.shaped
  have := depth_dLs xss
  simp [PyData.canLay0, PyData.depth, canLay_dLs]
  omega
theorem shaped_lst (xss : List (List Int)) : SeqAt.shaped (.list (dLs xss)) = true := by
  unfold SeqAt.shaped
  have := depth_dLs xss
  simp [PyData.canLay0, PyData.depth, canLay_dLs]
  omega
theorem any_dLs (ns : List Int) : ∀ xss : List (List Int), (dLs xss).any (fun z => PyData.eqv z (dI ns)) = decide (ns ∈ xss)
  | [] => by simp [dLs]
  | m :: r => by
    have := any_dLs ns r
    unfold dLs at this
    simp only [dLs, List.map_cons, List.any_cons, this, eqv_dI, List.mem_cons]
    by_cases h : m = ns
    · subst h
      simp
    · have h2 : ¬ ns = m := fun e => h e.symm
      simp [h, h2]
theorem dpAll_Ls {K : PySem.W.Frag} {H : Hp} : ∀ {xss : List (List Int)} {vs : List V}, All2 (xss.map fun xs => IsL (xs.map V.int)) vs H → DpAll K H vs (dLs xss)
  | [], [], _ => .nil
  | xs :: xss, v :: vs, h => by
    obtain ⟨⟨a, rfl, ha⟩, h2⟩ := h
    exact .cons (dp_I (sq_of ha)) (dpAll_Ls h2)
  | [], _ :: _, h => h.elim
  | _ :: _, [], h => h.elim
section
variable {K : PySem.W.Frag} {σ : L2.St} {H H' : Hp} {ta tb te tx : TE} {t u : TT} {x y z v : V} {r : R2} {D : Ends} {tu tw tz : TS}
theorem ev_odd {n : Nat} (h : Ev te σ H (.int (n : Int))) : Ev (tOp oOdd te (tC (.int 1))) σ H (.int ((n % 2 : Nat) : Int)) := fun H1 e Q q => h H1 e _ fun H2 e2 => ⟨n, rfl, rfl, q H2 e2⟩
theorem ev_half {n : Nat} (h : Ev te σ H (.int (n : Int))) : Ev (tOp oHalf te (tC (.int 1))) σ H (.int ((n / 2 : Nat) : Int)) := fun H1 e Q q => h H1 e _ fun H2 e2 => ⟨n, rfl, rfl, q H2 e2⟩
theorem evp_tup {tt : TA} {Ps : List (V → Hp → Prop)} (h : EvPs tt σ H Ps) (st : ∀ P ∈ Ps, Stable P) (hl : Ps.length ≤ 1000) : EvP (tTup tt) σ H (IsT Ps) := fun H1 e Q q =>
  h H1 e _ fun vs H2 e2 hvs => ⟨sz_of (by rw [hvs.len]; omega), fun p hp => q _ _ (e2.trans (Ex.new hp)) ⟨p, vs, rfl, upd_same, hvs.mono st (Ex.new hp)⟩⟩
theorem ev_inDT {ns : List Int} {xss : List (List Int)} (ha : EvP ta σ H (IsL (ns.map V.int))) (hb : EvP tb σ H (IsT (xss.map fun xs => IsL (xs.map V.int)))) : Ev (tOp (rInDT K) ta tb) σ H (.bl (decide (ns ∈ xss))) :=
  evp_op ha hb st_L fun v w H1 e1 ⟨a, ea, h1⟩ ⟨b, vs, eb, h2, h3⟩ H2 e2 Q q => ⟨dI ns, dLs xss, by rw [ea]; exact dp_I (sq_of (e2 _ _ h1)), by
    rw [eb]
    refine .tup (st_of (e2 _ _ h2)) (dpAll_Ls (h3.mono ?_ e2))
    intro P hP
    obtain ⟨xs, _, rfl⟩ := List.mem_map.mp hP
    exact st_L, shaped_dI ns, shaped_tup xss, by rw [any_dLs]; exact q H2 (Ex.refl H2)⟩
/-- statements in a try's body: a call that comes back, one that raises -/
theorem s_dropS {sp : Sp} {W : WX} {tt : TA} {vs : List V} (h : EvA tt σ H vs) (k : ∀ H1, Ex H H1 → sp vs H1 (fun _ H2 => D.nx σ H2) (fun cls d H2 => W cls d σ H2)) : tDrop (tCallS sp (WE W) tt) D σ H :=
  h H (Ex.refl H) _ fun H1 e1 => k H1 e1
end
section
variable {K : PySem.W.Frag} {σ : L2.St} {H : Hp} {D : Ends} {tz : TS} {c : Value} {tb : WX → TS} {ts : Addr → Value → Option Addr → TS} {Wout : WX} {i : Nat} {l : List (Value × (Addr → Value → Option Addr → TS))}
theorem q_tryO (h : tb (wOnly K c ts Wout { D with nx := tz D }) { D with nx := tz D } σ H) : tSeq (tTryO K c tb ts Wout) tz D σ H := h
theorem s_tryO (h : tb (wOnly K c ts Wout D) D σ H) : tTryO K c tb ts Wout D σ H := h
theorem q_tryA (h : tb (wAs K c i ts Wout { D with nx := tz D }) { D with nx := tz D } σ H) : tSeq (tTryA K c i tb ts Wout) tz D σ H := h
theorem s_tryA (h : tb (wAs K c i ts Wout D) D σ H) : tTryA K c i tb ts Wout D σ H := h
theorem q_tryM (h : tb (wMany K Wout { D with nx := tz D } l) { D with nx := tz D } σ H) : tSeq (tTryM K l tb Wout) tz D σ H := h
theorem s_tryM (h : tb (wMany K Wout D l) D σ H) : tTryM K l tb Wout D σ H := h
end
abbrev tJoin (ts : List TE) : TE := fun σ H Q => tJs ts Str.empty σ H fun out H1 => Q (.str out) H1
section
variable {K : PySem.W.Frag} {σ : L2.St} {H H' : Hp} {ta tb te tx : TE} {x y z v : V} {r : R2}
theorem evp_opP {P1 P2 P : V → Hp → Prop} (ha : EvP ta σ H P1) (hb : EvP tb σ H P2) (st : Stable P1) (hr : ∀ v w H1, Ex H H1 → P1 v H1 → P2 w H1 → ∀ Q : VK, (∀ z H2, Ex H1 H2 → P z H2 → Q z H2) → r v w H1 Q) : EvP (tOp r ta tb) σ H P := fun H1 e Q q =>
  ha H1 e _ fun v H2 e2 hv => hb H2 (e.trans e2) _ fun w H3 e3 hw => hr v w H3 ((e.trans e2).trans e3) (st _ _ _ e3 hv) hw Q fun z H4 e4 hz => q z H4 ((e2.trans e3).trans e4) hz
def IsS (Ps : List (V → Hp → Prop)) : V → Hp → Prop := fun v H => ∃ l vs, v = .ref l ∧ H l = some (.lst vs) ∧ All2 Ps vs H
theorem st_S {Ps : List (V → Hp → Prop)} (st : ∀ P ∈ Ps, Stable P) : Stable (IsS Ps) := fun _ _ _ e ⟨t, vs, h1, h2, h3⟩ => ⟨t, vs, h1, e _ _ h2, h3.mono st e⟩
theorem evp_lst {tt : TA} {Ps : List (V → Hp → Prop)} (h : EvPs tt σ H Ps) (st : ∀ P ∈ Ps, Stable P) (hl : Ps.length ≤ 1000) : EvP (tLst tt) σ H (IsS Ps) := fun H1 e Q q =>
  h H1 e _ fun vs H2 e2 hvs => ⟨sz_of (by rw [hvs.len]; omega), fun p hp => q _ _ (e2.trans (Ex.new hp)) ⟨p, vs, rfl, upd_same, hvs.mono st (Ex.new hp)⟩⟩
end
abbrev oIsN : R2 := fun x y H Q => y = .non ∧ Q (.bl (decide (x = .non))) H
section
variable {K : PySem.W.Frag} {σ : L2.St} {H H' : Hp} {ta tb te tx : TE} {x y z v : V} {r : R2}
theorem ev_isN (ha : Ev ta σ H v) : Ev (tOp oIsN ta (tC .non)) σ H (.bl (decide (v = .non))) := ev_op ha ev_c (rv_val fun H1 e Q q => ⟨rfl, q⟩)
theorem ev_eqS {s t : Str} (ha : Ev ta σ H (.str s)) (hb : Ev tb σ H (.str t)) : Ev (tOp rEq ta tb) σ H (.bl (decide (V.str s = V.str t))) := ev_op ha hb (rv_eq rfl)
theorem ev_neS {s t : Str} (ha : Ev ta σ H (.str s)) (hb : Ev tb σ H (.str t)) : Ev (tOp rNe ta tb) σ H (.bl (!decide (V.str s = V.str t))) := ev_op ha hb (rv_ne rfl)
/-- an item of a tuple -/
theorem ev_ixT {p : Addr} {xs : List V} {i : Int} {j : Nat} (ha : Ev ta σ H (.ref p)) (hb : Ev tb σ H (.int i)) (h : H p = some (.tup xs)) (hi : i = (j : Int)) (hj : xs[j]? = some v) : Ev (tOp (rIxT K) ta tb) σ H v := by
  subst hi
  exact ev_op ha hb (rv_ixT (st_of h) (atI_nat hj))
theorem ev_lenT {p : Addr} {xs : List V} (ha : Ev ta σ H (.ref p)) (h : SqT K H p xs) : Ev (tCB (rLenS K) (tCons ta tNil)) σ H (.int (xs.length : Int)) := fun H1 e Q q =>
  ha H1 e _ fun H2 e2 => ⟨p, xs, rfl, Or.inr (ex_t (e.trans e2) h), q H2 e2⟩
end
section
variable {σ : L2.St} {H : Hp} {D : Ends}
theorem s_dropSP {sp : Sp} {W : WX} {tt : TA} {Ps : List (V → Hp → Prop)} (h : EvPs tt σ H Ps) (k : ∀ vs H1, Ex H H1 → All2 Ps vs H1 → sp vs H1 (fun _ H2 => D.nx σ H2) (fun cls d H2 => W cls d σ H2)) : tDrop (tCallS sp (WE W) tt) D σ H :=
  h H (Ex.refl H) _ fun vs H1 e1 hv => k vs H1 e1 hv
end
section
variable {K : PySem.W.Frag} {σ : L2.St} {H H' : Hp} {ta tb te tx : TE} {x y z v : V}
/-- an item of a new list -/
theorem ev_ixN {i : Int} {j : Nat} {ns : List Int} (ha : EvL ta σ H (ns.map V.int)) (hb : Ev tb σ H (.int i)) (hi : i = (j : Int)) (hj : j < ns.length) : Ev (tOp (rIxL K) ta tb) σ H (.int (ns.getD j 0)) := fun H1 e Q q =>
  ha H1 e _ fun p H2 hp e2 h2 => hb H2 (e.trans e2) _ fun H3 e3 => by
    subst hi
    refine rv_ixL (K := K) (sq_of (e3 _ _ h2)) (atI_nat (v := .int (ns.getD j 0)) ?_) H3 (Ex.refl H3) Q fun H4 e4 => q H4 ((e2.trans e3).trans e4)
    rw [List.getElem?_map, List.getElem?_eq_getElem hj, List.getD_eq_getElem?_getD, List.getElem?_eq_getElem hj]
    rfl
end
end PP
/-! Math: the plain functions that the defs compute, over lists of ints; no Python here. -/
namespace PP

/-- a row without the noughts at its end -/
def trimI : List Int → List Int
  | [] => []
  | x :: r => if trimI r = [] ∧ x = 0 then [] else x :: trimI r
theorem trim_take : ∀ (ns : List Int) (s : Nat), s ≤ ns.length → (∀ i, s ≤ i → i < ns.length → ns.getD i 0 = 0) → (s = 0 ∨ ns.getD (s - 1) 0 ≠ 0) → trimI ns = ns.take s
  | [], s, _, _, _ => by simp [trimI]
  | x :: r, 0, _, hz, _ => by
    have ih := trim_take r 0 (Nat.zero_le _) (fun i h1 h2 => by
      have := hz (i + 1) (by omega) (by simp; omega)
      simpa using this) (.inl rfl)
    have hx : x = 0 := by
      have := hz 0 (by omega) (by simp)
      simpa using this
    simp [trimI, ih, hx]
  | x :: r, k + 1, hs, hz, hn => by
    have hk : k ≤ r.length := by simpa using hs
    have h2 : k = 0 ∨ r.getD (k - 1) 0 ≠ 0 := by
      rcases k with _ | k
      · exact .inl rfl
      · right
        rcases hn with h | h
        · omega
        · simpa using h
    have ih := trim_take r k hk (fun i h1 h2 => by
      have := hz (i + 1) (by omega) (by simp; omega)
      simpa using this) h2
    have hne : ¬ (trimI r = [] ∧ x = 0) := by
      rintro ⟨e, hx⟩
      rcases k with _ | k
      · rcases hn with h | h
        · omega
        · simp at h
          exact h hx
      · rw [ih] at e
        have := congrArg List.length e
        rw [List.length_take, List.length_nil] at this
        omega
    show (if trimI r = [] ∧ x = 0 then [] else x :: trimI r) = _
    rw [if_neg hne, ih]
    rfl
theorem trim_len : ∀ ns : List Int, (trimI ns).length ≤ ns.length
  | [] => by simp [trimI]
  | x :: r => by
    have := trim_len r
    unfold trimI
    split
    · simp
    · simp
      omega
theorem trim_mem : ∀ (ns : List Int) (x : Int), x ∈ trimI ns → x ∈ ns
  | [], x, h => by simp [trimI] at h
  | y :: r, x, h => by
    unfold trimI at h
    split at h
    · simp at h
    · rcases List.mem_cons.mp h with h | h
      · exact h ▸ List.mem_cons_self
      · exact List.mem_cons_of_mem _ (trim_mem r x h)

theorem modN {i j : Int} (h : 0 < j) : i % j = ((i % j).toNat : Int) ∧ ((i % j).toNat : Int) < j := by
  have h1 : 0 ≤ i % j := Int.emod_nonneg _ (by omega)
  have h2 : i % j < j := Int.emod_lt_of_pos _ h
  omega
/-- the script's cell -/
def cellI (ns : List Int) (j : Nat) : Int := ns.getD j 0

/-- a number of a cell -/
def numI (c : Int) : Int := if c % 7 = 0 then 0 else if c % 7 = 1 then (1 - c / 7 % 2 * 2) * (c / 14 % 10 ^ 40) else c / 7 % 19 - 9
theorem num_lt (c : Int) : (numI c).natAbs < 2 ^ 133 := by
  unfold numI
  split
  · decide
  · split
    · rw [Int.natAbs_mul]
      have h1 : 0 ≤ c / 7 % 2 := Int.emod_nonneg _ (by decide)
      have h2 : c / 7 % 2 < 2 := Int.emod_lt_of_pos _ (by decide)
      have h3 : 0 ≤ c / 14 % 10 ^ 40 := Int.emod_nonneg _ (by decide)
      have h4 : c / 14 % 10 ^ 40 < 10 ^ 40 := Int.emod_lt_of_pos _ (by decide)
      have e1 : (1 - c / 7 % 2 * 2).natAbs = 1 := by omega
      rw [e1, Nat.one_mul]
      have : (10 : Int) ^ 40 < 2 ^ 133 := by decide
      omega
    · have h1 : 0 ≤ c / 7 % 19 := Int.emod_nonneg _ (by decide)
      have h2 : c / 7 % 19 < 19 := Int.emod_lt_of_pos _ (by decide)
      have : (2 : Nat) ^ 133 > 100 := by decide
      omega

/-- a drawn row -/
def drawnI (num : Int → Int) (ns : List Int) (place size many : Nat) : List Int :=
  trimI (if 0 < many then (List.range many).map fun (k : Nat) => num (cellI ns place + 97 * (k : Int) * (k : Int) + 13 * (k : Int)) else (List.range size).map fun (k : Nat) => num (cellI ns (place + k)))
theorem drawn_len (num : Int → Int) (ns : List Int) (place size many : Nat) : (drawnI num ns place size many).length ≤ max size many := by
  unfold drawnI
  refine Nat.le_trans (trim_len _) ?_
  split
  · rw [List.length_map, List.length_range]
    omega
  · rw [List.length_map, List.length_range]
    omega
theorem drawn_lt {num : Int → Int} {b : Nat} (hb : ∀ c, (num c).natAbs < b) (ns : List Int) (place size many : Nat) : ∀ x ∈ drawnI num ns place size many, x.natAbs < b := by
  intro x hx
  have h := trim_mem _ _ hx
  split at h
  · obtain ⟨k, _, e⟩ := List.mem_map.mp h
    rw [← e]
    exact hb _
  · obtain ⟨k, _, e⟩ := List.mem_map.mp h
    rw [← e]
    exact hb _

/-- what a row comes to at a place -/
def valI : List Int → Int → Int
  | [], _ => 0
  | x :: r, p => x + p * valI r p
theorem val_append (a b : List Int) (p : Int) : valI (a ++ b) p = valI a p + p ^ a.length * valI b p := by
  induction a with
  | nil => simp [valI]
  | cons x r ih =>
    simp only [List.cons_append, valI, ih, List.length_cons, Int.pow_succ]
    rw [Int.mul_add, ← Int.add_assoc, Int.mul_comm (p ^ r.length) p, Int.mul_assoc]
theorem val_lt {b c n : Nat} {p : Int} (hp : p.natAbs < 2 ^ c) : ∀ (ns : List Int), (∀ x ∈ ns, x.natAbs < 2 ^ b) → ns.length ≤ n → (valI ns p).natAbs < 2 ^ (b + n * (c + 1) + 1)
  | [], _, _ => by simp [valI]; exact Nat.two_pow_pos _
  | x :: r, h, hl => by
    rcases n with _ | n
    · simp at hl
    have ih := val_lt (n := n) hp r (fun y hy => h y (List.mem_cons_of_mem _ hy)) (by simpa using hl)
    have hx := h x List.mem_cons_self
    have h1 : (p * valI r p).natAbs < 2 ^ (c + (b + n * (c + 1) + 1)) := by
      rw [Int.natAbs_mul, Nat.pow_add]
      exact Nat.mul_lt_mul'' hp ih
    have h2 : b ≤ c + (b + n * (c + 1) + 1) := by omega
    have h3 : 2 ^ b ≤ 2 ^ (c + (b + n * (c + 1) + 1)) := Nat.pow_le_pow_right (by decide) h2
    have e : b + (n + 1) * (c + 1) + 1 = (c + (b + n * (c + 1) + 1)) + 1 := by rw [Nat.succ_mul]; omega
    show (x + p * valI r p).natAbs < _
    rw [e, Nat.pow_succ]
    have := Int.natAbs_add_le x (p * valI r p)
    omega
theorem pow_lt {c : Nat} {p : Int} (hp : p.natAbs < 2 ^ c) : ∀ k : Nat, (p ^ k).natAbs < 2 ^ (c * k + 1)
  | 0 => by simp
  | k + 1 => by
    have ih := pow_lt hp k
    rw [Int.pow_succ, Int.natAbs_mul, show c * (k + 1) + 1 = (c * k + 1) + c by rw [Nat.mul_succ]; omega, Nat.pow_add]
    exact Nat.mul_lt_mul'' ih hp

/-! ### sums, number by number -/
def zipI (f : Int → Int → Int) (ns ms : List Int) : List Int := (List.range (max ns.length ms.length)).map fun k => f (ns.getD k 0) (ms.getD k 0)
def plusI (ns ms : List Int) : List Int := trimI (zipI (· + ·) ns ms)
def minusI (ns ms : List Int) : List Int := trimI (zipI (· - ·) ns ms)
def scaledI (m : Int) (ns : List Int) : List Int := trimI (ns.map (m * ·))
theorem zip_len (f : Int → Int → Int) (ns ms : List Int) : (zipI f ns ms).length = max ns.length ms.length := by
  unfold zipI
  rw [List.length_map, List.length_range]
theorem plus_len (ns ms : List Int) : (plusI ns ms).length ≤ max ns.length ms.length := Nat.le_trans (trim_len _) (Nat.le_of_eq (zip_len _ _ _))
theorem minus_len (ns ms : List Int) : (minusI ns ms).length ≤ max ns.length ms.length := Nat.le_trans (trim_len _) (Nat.le_of_eq (zip_len _ _ _))
theorem scaled_len (m : Int) (ns : List Int) : (scaledI m ns).length ≤ ns.length := Nat.le_trans (trim_len _) (by rw [List.length_map]; exact Nat.le_refl _)
theorem max_if (i j : Nat) : (if (j : Int) > (i : Int) then (j : Int) else (i : Int)) = ((max i j : Nat) : Int) := by
  split <;> omega
end PP
/-! Ring: polynomials as rows of ints, by their coefficients; products, powers, sizes. -/
namespace PP
def cf (p : List Int) (k : Nat) : Int := p.getD k 0
@[simp] theorem cf_nil (k : Nat) : cf [] k = 0 := by simp [cf]
@[simp] theorem cf_zero (x : Int) (r : List Int) : cf (x :: r) 0 = x := by simp [cf]
@[simp] theorem cf_succ (x : Int) (r : List Int) (k : Nat) : cf (x :: r) (k + 1) = cf r k := by simp [cf]
theorem cf_ge {p : List Int} {k : Nat} (h : p.length ≤ k) : cf p k = 0 := by
  unfold cf
  rw [List.getD_eq_getElem?_getD, List.getElem?_eq_none h]
  rfl
theorem cf_lt {p : List Int} {k : Nat} (h : k < p.length) : cf p k = p[k] := by
  unfold cf
  rw [List.getD_eq_getElem?_getD, List.getElem?_eq_getElem h]
  rfl
theorem cf_trim : ∀ (p : List Int) (k : Nat), cf (trimI p) k = cf p k
  | [], k => rfl
  | x :: r, k => by
    have ih := cf_trim r
    unfold trimI
    split
    · rename_i h
      rcases k with _ | k
      · simp [h.2]
      · rw [cf_succ, ← ih k, h.1]
        simp
    · rcases k with _ | k
      · simp
      · rw [cf_succ, cf_succ, ih k]
theorem trim_ext : ∀ {p q : List Int}, (∀ k, cf p k = cf q k) → trimI p = trimI q
  | [], [], _ => rfl
  | [], y :: s, h => by
    have ih : trimI [] = trimI s := trim_ext fun k => by
      have := h (k + 1)
      simpa using this
    have hy : y = 0 := by
      have := h 0
      simpa using this.symm
    have : trimI s = [] := ih.symm
    simp [trimI, this, hy]
  | x :: r, [], h => by
    have ih : trimI r = trimI [] := trim_ext fun k => by
      have := h (k + 1)
      simpa using this
    have hx : x = 0 := by
      have := h 0
      simpa using this
    have : trimI r = [] := ih
    simp [trimI, this, hx]
  | x :: r, y :: s, h => by
    have ih : trimI r = trimI s := trim_ext fun k => by
      have := h (k + 1)
      simpa using this
    have hx : x = y := by
      have := h 0
      simpa using this
    unfold trimI
    rw [ih, hx]
theorem trim_idem (p : List Int) : trimI (trimI p) = trimI p := trim_ext (cf_trim p)
/-- a row without noughts at its end -/
def Nf (p : List Int) : Prop := trimI p = p
theorem nf_trim (p : List Int) : Nf (trimI p) := trim_idem p
theorem nf_ext {p q : List Int} (hp : Nf p) (hq : Nf q) (h : ∀ k, cf p k = cf q k) : p = q := by
  rw [← hp, ← hq]
  exact trim_ext h
theorem nf_nil : Nf [] := rfl
theorem nf_tail {x : Int} {r : List Int} (h : Nf (x :: r)) : Nf r := by
  unfold Nf trimI at h
  split at h
  · cases h
  · exact (List.cons.inj h).2
theorem nf_last : ∀ {p : List Int}, Nf p → p ≠ [] → cf p (p.length - 1) ≠ 0
  | [], _, h => (h rfl).elim
  | [x], h, _ => by
    unfold Nf at h
    simp [trimI] at h
    simpa using h
  | x :: y :: r, h, _ => by
    have := nf_last (nf_tail h) (by simp)
    simpa using this
theorem nf_of_last : ∀ {p : List Int}, (p = [] ∨ cf p (p.length - 1) ≠ 0) → Nf p
  | [], _ => rfl
  | [x], h => by
    rcases h with h | h
    · cases h
    · simp at h
      simp [Nf, trimI, h]
  | x :: y :: r, h => by
    rcases h with h | h
    · cases h
    · have ih : Nf (y :: r) := nf_of_last (.inr (by simpa using h))
      unfold Nf at ih ⊢
      unfold trimI
      rw [ih]
      simp

def addL : List Int → List Int → List Int
  | [], q => q
  | p, [] => p
  | x :: p, y :: q => (x + y) :: addL p q
theorem cf_addL : ∀ (p q : List Int) (k : Nat), cf (addL p q) k = cf p k + cf q k
  | [], q, k => by simp [addL]
  | x :: p, [], k => by simp [addL]
  | x :: p, y :: q, 0 => by simp [addL]
  | x :: p, y :: q, k + 1 => by simp [addL, cf_addL p q k]
theorem cf_map {c : Int} : ∀ (p : List Int) (k : Nat), cf (p.map (c * ·)) k = c * cf p k
  | [], k => by simp
  | x :: p, 0 => by simp
  | x :: p, k + 1 => by
    rw [List.map_cons, cf_succ, cf_succ]
    exact cf_map p k
def mulL : List Int → List Int → List Int
  | [], _ => []
  | x :: r, q => addL (q.map (x * ·)) (0 :: mulL r q)
theorem cf_mul_zero (x : Int) (r q : List Int) : cf (mulL (x :: r) q) 0 = x * cf q 0 := by
  show cf (addL _ _) 0 = _
  rw [cf_addL, cf_map, cf_zero, Int.add_zero]
theorem cf_mul_succ (x : Int) (r q : List Int) (k : Nat) : cf (mulL (x :: r) q) (k + 1) = x * cf q (k + 1) + cf (mulL r q) k := by
  show cf (addL _ _) (k + 1) = _
  rw [cf_addL, cf_map, cf_succ]
/-- the product hangs on the coefficients alone -/
theorem cf_mul_congr {q q' : List Int} (h : ∀ k, cf q k = cf q' k) : ∀ (p : List Int) (k : Nat), cf (mulL p q) k = cf (mulL p q') k
  | [], k => rfl
  | x :: r, 0 => by rw [cf_mul_zero, cf_mul_zero, h]
  | x :: r, k + 1 => by rw [cf_mul_succ, cf_mul_succ, h, cf_mul_congr h r k]
theorem cf_mul_nil : ∀ (p : List Int) (k : Nat), cf (mulL p []) k = 0
  | [], k => by simp [mulL]
  | x :: r, 0 => by rw [cf_mul_zero]; simp
  | x :: r, k + 1 => by rw [cf_mul_succ, cf_mul_nil r k]; simp
theorem cf_mul_cons0 (y : Int) (s : List Int) : ∀ (p : List Int), cf (mulL p (y :: s)) 0 = y * cf p 0
  | [] => by simp [mulL]
  | x :: r => by rw [cf_mul_zero, cf_zero, cf_zero, Int.mul_comm]
theorem cf_mul_cons (y : Int) (s : List Int) : ∀ (p : List Int) (k : Nat), cf (mulL p (y :: s)) (k + 1) = y * cf p (k + 1) + cf (mulL p s) k
  | [], k => by simp [mulL]
  | x :: r, 0 => by
    rw [cf_mul_succ, cf_succ, cf_succ, cf_mul_cons0, cf_mul_zero, Int.add_comm]
  | x :: r, k + 1 => by
    rw [cf_mul_succ, cf_succ, cf_succ, cf_mul_cons y s r k, cf_mul_succ]
    omega
theorem cf_mul_comm : ∀ (p q : List Int) (k : Nat), cf (mulL p q) k = cf (mulL q p) k
  | [], q, k => by rw [cf_mul_nil]; simp [mulL]
  | x :: r, q, 0 => by rw [cf_mul_zero, cf_mul_cons0]
  | x :: r, q, k + 1 => by rw [cf_mul_succ, cf_mul_cons, cf_mul_comm r q k]
theorem cf_mul_add (p q : List Int) : ∀ (s : List Int) (k : Nat), cf (mulL s (addL p q)) k = cf (mulL s p) k + cf (mulL s q) k
  | [], k => by simp [mulL]
  | x :: r, 0 => by rw [cf_mul_zero, cf_mul_zero, cf_mul_zero, cf_addL, Int.mul_add]
  | x :: r, k + 1 => by
    rw [cf_mul_succ, cf_mul_succ, cf_mul_succ, cf_addL, Int.mul_add, cf_mul_add p q r k]
    omega
theorem cf_mul_map (c : Int) (q : List Int) : ∀ (p : List Int) (k : Nat), cf (mulL p (q.map (c * ·))) k = c * cf (mulL p q) k
  | [], k => by simp [mulL]
  | x :: r, 0 => by
    rw [cf_mul_zero, cf_mul_zero, cf_map, Int.mul_left_comm]
  | x :: r, k + 1 => by
    rw [cf_mul_succ, cf_mul_succ, cf_map, cf_mul_map c q r k, Int.mul_add, Int.mul_left_comm]
theorem cf_mul_sh (q : List Int) : ∀ (p : List Int) (k : Nat), cf (mulL p (0 :: q)) k = cf (0 :: mulL p q) k
  | p, 0 => by rw [cf_mul_cons0]; simp
  | p, k + 1 => by rw [cf_mul_cons, cf_succ]; simp
theorem cf_mul_assoc (p q : List Int) : ∀ (s : List Int) (k : Nat), cf (mulL s (mulL p q)) k = cf (mulL (mulL s p) q) k
  | [], k => rfl
  | x :: r, k => by
    have e : ∀ k, cf (mulL (mulL (x :: r) p) q) k = cf (addL ((mulL p q).map (x * ·)) (0 :: mulL r (mulL p q))) k := fun k => by
      rw [cf_mul_comm]
      show cf (mulL q (addL (p.map (x * ·)) (0 :: mulL r p))) k = _
      rw [cf_mul_add, cf_mul_map, cf_mul_sh, cf_addL, cf_map, cf_mul_comm q p]
      congr 1
      rcases k with _ | k
      · simp
      · rw [cf_succ, cf_succ, cf_mul_comm q, ← cf_mul_assoc p q r k]
    rw [e]
    rfl
theorem mul_len : ∀ (p q : List Int), (mulL p q).length ≤ p.length + q.length
  | [], q => by simp [mulL]
  | x :: r, q => by
    have add_len : ∀ a b : List Int, (addL a b).length = max a.length b.length := by
      intro a
      induction a with
      | nil => intro b; simp [addL]
      | cons x a ih =>
        intro b
        cases b with
        | nil => simp [addL]
        | cons y b =>
          simp only [addL, List.length_cons, ih]
          omega
    have := mul_len r q
    show (addL _ _).length ≤ _
    rw [add_len, List.length_map, List.length_cons, List.length_cons]
    omega

/-- the product of two rows -/
def mulI (p q : List Int) : List Int := trimI (mulL p q)
theorem cf_mulI (p q : List Int) (k : Nat) : cf (mulI p q) k = cf (mulL p q) k := cf_trim _ _
theorem mulI_comm (p q : List Int) : mulI p q = mulI q p := trim_ext (cf_mul_comm p q)
theorem cf_mul_congrL {p p' : List Int} (h : ∀ k, cf p k = cf p' k) (q : List Int) (k : Nat) : cf (mulL p q) k = cf (mulL p' q) k := by
  rw [cf_mul_comm, cf_mul_comm p']
  exact cf_mul_congr h q k
theorem mulI_assoc (p q s : List Int) : mulI (mulI p q) s = mulI p (mulI q s) := trim_ext fun k => by
  rw [cf_mul_congrL (cf_mulI p q), cf_mul_congr (cf_mulI q s), cf_mul_assoc]
theorem mulI_one {p : List Int} (h : Nf p) : mulI p [1] = p := by
  refine nf_ext (nf_trim _) h fun k => ?_
  rw [cf_mulI, cf_mul_comm]
  show cf (addL _ _) k = _
  rw [cf_addL, cf_map, Int.one_mul]
  show cf p k + cf (0 :: []) k = _
  rcases k with _ | k <;> simp
theorem mulI_nil (p : List Int) : mulI p [] = [] := by
  refine nf_ext (nf_trim _) nf_nil fun k => ?_
  rw [cf_mulI, cf_mul_nil, cf_nil]
theorem nf_mulI (p q : List Int) : Nf (mulI p q) := nf_trim _
theorem mulI_len (p q : List Int) : (mulI p q).length ≤ p.length + q.length := Nat.le_trans (trim_len _) (mul_len p q)

/-- so many like ones -/
def powI (p : List Int) : Nat → List Int
  | 0 => [1]
  | n + 1 => mulI (powI p n) p
theorem nf_one : Nf [1] := by simp [Nf, trimI]
theorem nf_powI (p : List Int) : ∀ n, Nf (powI p n)
  | 0 => nf_one
  | _ + 1 => nf_mulI _ _
theorem powI_add (p : List Int) (m : Nat) : ∀ n, powI p (m + n) = mulI (powI p m) (powI p n)
  | 0 => (mulI_one (nf_powI p m)).symm
  | n + 1 => by
    show mulI (powI p (m + n)) p = mulI (powI p m) (mulI (powI p n) p)
    rw [powI_add p m n, mulI_assoc]
theorem powI_sq (p : List Int) : ∀ n, powI (mulI p p) n = powI p (2 * n)
  | 0 => rfl
  | n + 1 => by
    show mulI (powI (mulI p p) n) (mulI p p) = powI p (2 * n + 2)
    rw [powI_sq p n]
    show _ = mulI (mulI (powI p (2 * n)) p) p
    rw [mulI_assoc]

/-! ### sizes -/
def nrm (p : List Int) : Nat := (p.map Int.natAbs).sum
theorem nrm_cons (x : Int) (r : List Int) : nrm (x :: r) = x.natAbs + nrm r := by simp [nrm]
theorem mem_nrm : ∀ {p : List Int} {x : Int}, x ∈ p → x.natAbs ≤ nrm p
  | y :: r, x, h => by
    rw [nrm_cons]
    rcases List.mem_cons.mp h with h | h
    · rw [h]
      omega
    · have := mem_nrm h
      omega
theorem cf_nrm (p : List Int) (k : Nat) : (cf p k).natAbs ≤ nrm p := by
  by_cases h : k < p.length
  · rw [cf_lt h]
    exact mem_nrm (List.getElem_mem h)
  · rw [cf_ge (by omega)]
    simp
theorem nrm_trim : ∀ p : List Int, nrm (trimI p) ≤ nrm p
  | [] => Nat.le_refl _
  | x :: r => by
    have := nrm_trim r
    unfold trimI
    split
    · simp [nrm]
    · rw [nrm_cons, nrm_cons]
      omega
theorem nrm_add : ∀ p q : List Int, nrm (addL p q) ≤ nrm p + nrm q
  | [], q => by simp [addL, nrm]
  | x :: p, [] => by simp [addL, nrm]
  | x :: p, y :: q => by
    have := nrm_add p q
    have h := Int.natAbs_add_le x y
    show nrm ((x + y) :: addL p q) ≤ _
    rw [nrm_cons, nrm_cons, nrm_cons]
    omega
theorem nrm_map (c : Int) : ∀ p : List Int, nrm (p.map (c * ·)) = c.natAbs * nrm p
  | [] => by simp [nrm]
  | x :: p => by
    rw [List.map_cons, nrm_cons, nrm_cons, nrm_map c p, Int.natAbs_mul, Nat.mul_add]
theorem nrm_mul : ∀ p q : List Int, nrm (mulL p q) ≤ nrm p * nrm q
  | [], q => by simp [mulL, nrm]
  | x :: r, q => by
    have := nrm_mul r q
    show nrm (addL _ _) ≤ _
    refine Nat.le_trans (nrm_add _ _) ?_
    rw [nrm_map, nrm_cons, nrm_cons, Nat.add_mul]
    simp
    omega
theorem nrm_mulI (p q : List Int) : nrm (mulI p q) ≤ nrm p * nrm q := Nat.le_trans (nrm_trim _) (nrm_mul p q)
theorem nrm_powI {p : List Int} {b : Nat} (h : nrm p ≤ 2 ^ b) : ∀ n, nrm (powI p n) ≤ 2 ^ (b * n)
  | 0 => by simp [powI, nrm]
  | n + 1 => by
    refine Nat.le_trans (nrm_mulI _ _) ?_
    rw [Nat.mul_succ, Nat.pow_add]
    exact Nat.mul_le_mul (nrm_powI h n) h
theorem nrm_bound {b : Nat} : ∀ {p : List Int} {n : Nat}, (∀ x ∈ p, x.natAbs < 2 ^ b) → p.length ≤ 2 ^ n → nrm p ≤ 2 ^ (n + b)
  | p, n, h, hl => by
    have key : ∀ p : List Int, (∀ x ∈ p, x.natAbs < 2 ^ b) → nrm p ≤ p.length * 2 ^ b := by
      intro p
      induction p with
      | nil => intro _; simp [nrm]
      | cons x r ih =>
        intro h
        have h1 := ih fun y hy => h y (List.mem_cons_of_mem _ hy)
        have h2 := h x List.mem_cons_self
        rw [nrm_cons, List.length_cons, Nat.succ_mul]
        omega
    refine Nat.le_trans (key p h) ?_
    rw [Nat.pow_add]
    exact Nat.mul_le_mul_right _ hl
/-- taking one more of the first factor -/
theorem cf_mul_take (p q : List Int) : ∀ (i : Nat), i < p.length → ∀ k, cf (mulL (p.take (i + 1)) q) k = cf (mulL (p.take i) q) k + (if i ≤ k then cf p i * cf q (k - i) else 0) := by
  induction p with
  | nil => intro i h; simp at h
  | cons x r ih =>
    intro i hi k
    rcases i with _ | i
    · show cf (mulL [x] q) k = cf (mulL [] q) k + _
      rcases k with _ | k
      · rw [cf_mul_zero]
        simp [mulL]
      · rw [cf_mul_succ]
        simp [mulL]
    · rw [List.take_succ_cons, List.take_succ_cons]
      rcases k with _ | k
      · rw [cf_mul_zero, cf_mul_zero]
        simp
      · rw [cf_mul_succ, cf_mul_succ, ih i (by simpa using hi) k, cf_succ, Nat.add_sub_add_right]
        by_cases h : i ≤ k
        · rw [if_pos h, if_pos (by omega)]
          omega
        · rw [if_neg h, if_neg (by omega)]
          omega
/-- products of rows that are not nought have no nought ahead -/
theorem cf_mul_top : ∀ (p q : List Int), p ≠ [] → q ≠ [] → cf (mulL p q) (p.length - 1 + (q.length - 1)) = cf p (p.length - 1) * cf q (q.length - 1)
  | [x], q, _, hq => by
    rcases q with _ | ⟨y, s⟩
    · exact (hq rfl).elim
    · show cf (addL _ (0 :: [])) _ = _
      rw [cf_addL, cf_map]
      simp only [List.length_cons, List.length_nil, Nat.zero_add, Nat.sub_self, Nat.add_sub_cancel, cf_zero]
      rcases s.length with _ | k <;> simp
  | x :: y :: r, q, _, hq => by
    have ih := cf_mul_top (y :: r) q (by simp) hq
    have e : (x :: y :: r).length - 1 + (q.length - 1) = ((y :: r).length - 1 + (q.length - 1)) + 1 := by simp; omega
    rw [e, cf_mul_succ, ih]
    have h0 : cf q ((y :: r).length - 1 + (q.length - 1) + 1) = 0 := cf_ge (by simp; omega)
    rw [h0, Int.mul_zero, Int.zero_add]
    simp
theorem cf_set (p : List Int) (i : Nat) (v : Int) (hi : i < p.length) (k : Nat) : cf (p.set i v) k = if k = i then v else cf p k := by
  unfold cf
  rw [List.getD_eq_getElem?_getD, List.getElem?_set, List.getD_eq_getElem?_getD]
  by_cases h : i = k
  · subst h
    rw [if_pos rfl, if_pos hi, if_pos rfl]
    rfl
  · rw [if_neg h, if_neg (fun e => h e.symm)]
theorem cf_rep (n k : Nat) : cf (List.replicate n 0) k = 0 := by
  unfold cf
  rw [List.getD_eq_getElem?_getD, List.getElem?_replicate]
  split <;> rfl
/-- one step of the inner loop -/
theorem mul_step {p q tot : List Int} {i j : Nat} (hi : i < p.length) (hj : j < q.length) (hl : i + j < tot.length)
    (h : ∀ k, cf tot k = cf (mulL (p.take i) q) k + (if i ≤ k ∧ k < i + j then cf p i * cf q (k - i) else 0)) :
    ∀ k, cf (tot.set (i + j) (tot.getD (i + j) 0 + cf p i * cf q j)) k = cf (mulL (p.take i) q) k + (if i ≤ k ∧ k < i + (j + 1) then cf p i * cf q (k - i) else 0) := by
  intro k
  rw [cf_set _ _ _ hl]
  by_cases e : k = i + j
  · subst e
    rw [if_pos rfl, if_pos (by omega)]
    have := h (i + j)
    rw [if_neg (by omega)] at this
    show cf tot (i + j) + _ = _
    rw [this, Nat.add_sub_cancel_left]
    omega
  · rw [if_neg e, h k]
    congr 1
    by_cases c : i ≤ k ∧ k < i + j
    · rw [if_pos c, if_pos (by omega)]
    · rw [if_neg c, if_neg (by omega)]
/-- the inner loop's end -/
theorem mul_row {p q tot : List Int} {i : Nat} (hi : i < p.length)
    (h : ∀ k, cf tot k = cf (mulL (p.take i) q) k + (if i ≤ k ∧ k < i + q.length then cf p i * cf q (k - i) else 0)) : ∀ k, cf tot k = cf (mulL (p.take (i + 1)) q) k := by
  intro k
  rw [h k, cf_mul_take p q i hi]
  congr 1
  by_cases c : i ≤ k
  · rw [if_pos c]
    by_cases d : k < i + q.length
    · rw [if_pos ⟨c, d⟩]
    · rw [if_neg (by omega), cf_ge (p := q) (k := k - i) (by omega), Int.mul_zero]
  · rw [if_neg c, if_neg (by omega)]
theorem tot_mul {p q tot : List Int} (hp : Nf p) (hq : Nf q) (h1 : p ≠ []) (h2 : q ≠ []) (hl : tot.length = p.length + q.length - 1) (h : ∀ k, cf tot k = cf (mulL p q) k) : tot = mulI p q := by
  have lp : 0 < p.length := List.length_pos_iff.mpr h1
  have lq : 0 < q.length := List.length_pos_iff.mpr h2
  refine nf_ext (nf_of_last (.inr ?_)) (nf_mulI p q) fun k => by rw [h k, cf_mulI]
  rw [h, hl, show p.length + q.length - 1 - 1 = p.length - 1 + (q.length - 1) by omega, cf_mul_top p q h1 h2]
  exact Int.mul_ne_zero (nf_last hp h1) (nf_last hq h2)

/-! ### sums over products -/
theorem cf_zip {f : Int → Int → Int} (h0 : f 0 0 = 0) (p q : List Int) (k : Nat) : cf (zipI f p q) k = f (cf p k) (cf q k) := by
  by_cases h : k < max p.length q.length
  · rw [cf_lt (by rw [zip_len]; exact h)]
    unfold zipI
    rw [List.getElem_map, List.getElem_range]
    rfl
  · rw [cf_ge (by rw [zip_len]; omega), cf_ge (p := p) (by omega), cf_ge (p := q) (by omega), h0]
theorem cf_plus (p q : List Int) (k : Nat) : cf (plusI p q) k = cf p k + cf q k := (cf_trim _ _).trans (cf_zip (f := (· + ·)) rfl p q k)
theorem cf_minus (p q : List Int) (k : Nat) : cf (minusI p q) k = cf p k - cf q k := (cf_trim _ _).trans (cf_zip (f := (· - ·)) rfl p q k)
theorem cf_scaled (c : Int) (p : List Int) (k : Nat) : cf (scaledI c p) k = c * cf p k := (cf_trim _ _).trans (cf_map p k)
theorem nf_plus (p q : List Int) : Nf (plusI p q) := nf_trim _
theorem plus_eq (p q : List Int) : plusI p q = trimI (addL p q) := trim_ext fun k => by rw [cf_addL]; exact cf_zip (f := (· + ·)) rfl p q k
theorem nrm_plus (p q : List Int) : nrm (plusI p q) ≤ nrm p + nrm q := by
  rw [plus_eq]
  exact Nat.le_trans (nrm_trim _) (nrm_add p q)
theorem plusI_nil {p : List Int} (h : Nf p) : plusI p [] = p := nf_ext (nf_plus _ _) h fun k => by rw [cf_plus, cf_nil, Int.add_zero]
theorem plusI_comm (p q : List Int) : plusI p q = plusI q p := nf_ext (nf_plus _ _) (nf_plus _ _) fun k => by rw [cf_plus, cf_plus, Int.add_comm]
theorem plusI_assoc (p q r : List Int) : plusI (plusI p q) r = plusI p (plusI q r) := nf_ext (nf_plus _ _) (nf_plus _ _) fun k => by rw [cf_plus, cf_plus, cf_plus, cf_plus, Int.add_assoc]
theorem mulI_plus (p q r : List Int) : mulI p (plusI q r) = plusI (mulI p q) (mulI p r) := nf_ext (nf_mulI _ _) (nf_plus _ _) fun k => by
  rw [cf_mulI, cf_plus, cf_mulI, cf_mulI, cf_mul_congr (q' := addL q r) (fun j => by rw [cf_plus, cf_addL]), cf_mul_add]
theorem plus_mulI (p q r : List Int) : mulI (plusI q r) p = plusI (mulI q p) (mulI r p) := by
  rw [mulI_comm, mulI_plus, mulI_comm p q, mulI_comm p r]
theorem mulI_trim (p q : List Int) : mulI p (trimI q) = mulI p q := nf_ext (nf_mulI _ _) (nf_mulI _ _) fun k => by rw [cf_mulI, cf_mulI, cf_mul_congr (cf_trim q)]
theorem trim_mulI (p q : List Int) : mulI (trimI p) q = mulI p q := by rw [mulI_comm, mulI_trim, mulI_comm]

def slopeI (ns : List Int) : List Int := (List.range (ns.length - 1)).map fun k => ((k + 1 : Nat) : Int) * cf ns (k + 1)

/-- a polynomial in the letter's place -/
def compI : List Int → List Int → List Int
  | [], _ => []
  | x :: r, q => plusI (mulI (compI r q) q) (trimI [x])
theorem nf_comp : ∀ (p q : List Int), Nf (compI p q)
  | [], _ => nf_nil
  | _ :: _, _ => nf_plus _ _
theorem trim1_len (x : Int) : (trimI [x]).length ≤ 1 := trim_len _
theorem nrm1 (x : Int) : nrm (trimI [x]) ≤ x.natAbs := Nat.le_trans (nrm_trim _) (by simp [nrm])
theorem comp_len : ∀ (p q : List Int), (compI p q).length ≤ p.length * q.length + 1
  | [], _ => by simp [compI]
  | x :: r, q => by
    have h1 := comp_len r q
    have h2 := plus_len (mulI (compI r q) q) (trimI [x])
    have h3 := mulI_len (compI r q) q
    have h4 := trim1_len x
    show (plusI _ _).length ≤ _
    rw [List.length_cons, Nat.succ_mul]
    have h5 := mul_len (compI r q) q
    omega
theorem comp_nrm {b y : Nat} {q : List Int} (hq : nrm q ≤ 2 ^ y) : ∀ (p : List Int), (∀ x ∈ p, x.natAbs ≤ 2 ^ b) → nrm (compI p q) ≤ 2 ^ (b + p.length * (y + 1))
  | [], _ => by simp [compI, nrm]
  | x :: r, h => by
    have ih := comp_nrm hq r fun z hz => h z (List.mem_cons_of_mem _ hz)
    have hx := h x List.mem_cons_self
    have h2 := nrm_plus (mulI (compI r q) q) (trimI [x])
    have h3 := nrm_mulI (compI r q) q
    have h4 := nrm1 x
    have h5 : nrm (compI r q) * nrm q ≤ 2 ^ (b + r.length * (y + 1)) * 2 ^ y := Nat.mul_le_mul ih hq
    rw [← Nat.pow_add] at h5
    have h6 : 2 ^ b ≤ 2 ^ (b + r.length * (y + 1) + y) := Nat.pow_le_pow_right (by decide) (by omega)
    have e : b + (x :: r).length * (y + 1) = (b + r.length * (y + 1) + y) + 1 := by
      rw [List.length_cons, Nat.succ_mul]
      omega
    show nrm (plusI _ _) ≤ _
    rw [e, Nat.pow_succ]
    omega
/-- the sum from the front: one more -/
theorem comp_front (p q due : List Int) (i : Nat) (hi : i < p.length) (hd : Nf due) :
    plusI (plusI due (mulI [p.getD i 0] (powI q i))) (mulI (powI q (i + 1)) (compI (p.drop (i + 1)) q)) = plusI due (mulI (powI q i) (compI (p.drop i) q)) := by
  rw [List.drop_eq_getElem_cons hi]
  show _ = plusI due (mulI (powI q i) (plusI (mulI (compI (p.drop (i + 1)) q) q) (trimI [p[i]])))
  have e : p.getD i 0 = p[i] := cf_lt hi
  rw [e, mulI_plus, mulI_trim, plusI_assoc]
  congr 1
  show plusI _ (mulI (mulI (powI q i) q) _) = _
  rw [mulI_comm [p[i]], plusI_comm, mulI_assoc, mulI_comm q]
theorem powI_len (p : List Int) : ∀ n, (powI p n).length ≤ p.length * n + 1
  | 0 => by simp [powI]
  | n + 1 => by
    have h1 := powI_len p n
    have h2 := mulI_len (powI p n) p
    show (mulI (powI p n) p).length ≤ _
    rw [Nat.mul_succ]
    omega
end PP
/-! Nums: greatest common divisors of rows -/
namespace PP
def cont (ns : List Int) : Nat := ns.foldl (fun g x => Nat.gcd g x.natAbs) 0
theorem foldl_gcd (ns : List Int) : ∀ g : Nat, ns.foldl (fun g x => Nat.gcd g x.natAbs) g = Nat.gcd g (cont ns) := by
  unfold cont
  induction ns with
  | nil => intro g; simp
  | cons x r ih =>
    intro g
    rw [List.foldl_cons, List.foldl_cons, ih, ih (Nat.gcd 0 x.natAbs), Nat.gcd_zero_left, Nat.gcd_assoc]
theorem cont_nil : cont [] = 0 := rfl
theorem cont_cons (x : Int) (r : List Int) : cont (x :: r) = Nat.gcd x.natAbs (cont r) := by
  show (x :: r).foldl _ 0 = _
  rw [List.foldl_cons, foldl_gcd, Nat.gcd_zero_left]
theorem cont_snoc (x : Int) (r : List Int) : cont (r ++ [x]) = Nat.gcd (cont r) x.natAbs := by
  unfold cont
  rw [List.foldl_append] <;> rfl
theorem cont_take {ns : List Int} {i : Nat} (h : i < ns.length) : cont (ns.take (i + 1)) = Nat.gcd (cont (ns.take i)) (ns.getD i 0).natAbs := by
  rw [List.take_succ_eq_append_getElem h, cont_snoc, List.getD_eq_getElem?_getD, List.getElem?_eq_getElem h]
  rfl
theorem cont_dvd : ∀ {ns : List Int} {x : Int}, x ∈ ns → (cont ns : Int) ∣ x
  | y :: r, x, h => by
    rw [cont_cons]
    rcases List.mem_cons.mp h with h | h
    · rw [h]
      exact Int.dvd_natAbs.mp (Int.natCast_dvd_natCast.mpr (Nat.gcd_dvd_left _ _))
    · exact Int.dvd_trans (Int.natCast_dvd_natCast.mpr (Nat.gcd_dvd_right _ _)) (cont_dvd h)
theorem dvd_cont : ∀ {ns : List Int} {d : Nat}, (∀ x ∈ ns, (d : Int) ∣ x) → d ∣ cont ns
  | [], d, _ => Nat.dvd_zero d
  | y :: r, d, h => by
    rw [cont_cons]
    refine Nat.dvd_gcd ?_ (dvd_cont fun x hx => h x (List.mem_cons_of_mem _ hx))
    exact Int.natCast_dvd_natCast.mp (Int.dvd_natAbs.mpr (h y List.mem_cons_self))
theorem cont_pos {ns : List Int} (h : ∃ x ∈ ns, x ≠ 0) : 0 < cont ns := by
  obtain ⟨x, hx, h0⟩ := h
  rcases Nat.eq_zero_or_pos (cont ns) with e | e
  · have := cont_dvd hx
    rw [e] at this
    exact (h0 (Int.zero_dvd.mp this)).elim
  · exact e
/-- what is left of a row by its content -/
theorem cont_left {ns : List Int} {c : Nat} (hc : c = cont ns) (h0 : 0 < c) : cont (ns.map fun x => x / (c : Int)) = 1 := by
  have hd : (cont (ns.map fun x => x / (c : Int))) * c ∣ cont ns := by
    refine dvd_cont fun x hx => ?_
    have h1 : (cont (ns.map fun x => x / (c : Int)) : Int) ∣ x / (c : Int) := cont_dvd (List.mem_map.mpr ⟨x, hx, rfl⟩)
    have h2 : (c : Int) ∣ x := hc ▸ cont_dvd hx
    have h3 : x / (c : Int) * (c : Int) = x := Int.ediv_mul_cancel h2
    rw [Int.natCast_mul]
    calc (cont (ns.map fun x => x / (c : Int)) : Int) * (c : Int) ∣ x / (c : Int) * (c : Int) := Int.mul_dvd_mul_right _ h1
      _ = x := h3
  rw [← hc] at hd
  have h4 : cont (ns.map fun x => x / (c : Int)) * c ≤ 1 * c := by
    rw [Nat.one_mul]
    exact Nat.le_of_dvd h0 hd
  have h5 := Nat.le_of_mul_le_mul_right h4 h0
  have h6 : cont (ns.map fun x => x / (c : Int)) ≠ 0 := fun e => by
    rw [e, Nat.zero_mul] at hd
    have := Nat.eq_zero_of_zero_dvd hd
    omega
  omega
theorem cont_neg (ns : List Int) : cont (ns.map fun x => -x) = cont ns := by
  induction ns with
  | nil => rfl
  | cons x r ih => rw [List.map_cons, cont_cons, cont_cons, ih, Int.natAbs_neg]
theorem cont_le {ns : List Int} {x : Int} (h : x ∈ ns) (h0 : x ≠ 0) : cont ns ≤ x.natAbs := by
  have := cont_dvd h
  exact Nat.le_of_dvd (Int.natAbs_pos.mpr h0) (Int.natCast_dvd_natCast.mp (Int.dvd_natAbs.mpr this))
/-- simple -/
def simpleI (ns : List Int) : List Int := if ns.getD (ns.length - 1) 0 < 0 then (ns.map fun x => x / (cont ns : Int)).map fun x => -x else ns.map fun x => x / (cont ns : Int)
theorem fdiv_neg' {x c : Int} (hd : c ∣ x) (h0 : 0 < c) : x.fdiv (-c) = -(x / c) := by
  obtain ⟨y, rfl⟩ := hd
  rw [Int.mul_ediv_cancel_left _ (by omega), show c * y = (-y) * (-c) by rw [Int.neg_mul_neg, Int.mul_comm], Int.mul_fdiv_cancel _ (by omega)]
theorem fdiv_pos' {x c : Int} (h0 : 0 < c) : x.fdiv c = x / c := Int.fdiv_eq_ediv_of_nonneg x (by omega)
theorem simple_len (ns : List Int) : (simpleI ns).length = ns.length := by
  unfold simpleI
  split <;> simp
end PP
namespace PP
open PySem PySem.Spec PyProof.Rows L2 Evl
/-! _without_end_noughts, of a list -/
def sp_P_without_end_noughts (K : PySem.W.Frag) : Sp := fun vs H Q _ => ∃ (a : Addr) (ns : List Int), vs = [.ref a] ∧ SqL K H a (ns.map V.int) ∧ RetL ((trimI ns).map V.int) H Q
def t_P_without_end_noughts (K : PySem.W.Frag) : TS :=
  (tSeq (tAsg (tCB (rLenS K) (tCons (tVar 0) tNil)) (gName 1)) (tSeq (tWhile (tAnd (tTest (tOp oGt (tVar 1) (tC (.int 0)))) (tTest (tOp rEq (tOp (rIxL K) (tVar 0) (tOp oSub (tVar 1) (tC (.int 1)))) (tC (.int 0))))) (tAug 1 (tC (.int 1)) (ipI fun i j => i - j))) (tRet (tCB (rListS K) (tCons (tSl (rSlL K) (tVar 0) tNoPart (tPart (tVar 1))) tNil)))))
theorem run_P_without_end_noughts {K : PySem.W.Frag} {vs : List V} {H : Hp} {Q : VK} {E : XK} (h : sp_P_without_end_noughts K vs H Q E) : t_P_without_end_noughts K { nx := fun _ H' => Q .non H', rt := Q } (start ["numbers", "end"] vs) H := by
  obtain ⟨a, ns, rfl, hS, q⟩ := h
  refine q_asg (ev_len (ev_var rfl) hS) fun H1 e1 => ?_
  refine q_while (fun m σ' H' => σ' = [some (.ref a), some (.int (m : Int))] ∧ Ex H H' ∧ m ≤ ns.length ∧ ∀ i, m ≤ i → i < ns.length → ns.getD i 0 = 0) ns.length
    ⟨by rw [List.length_map]; rfl, e1, Nat.le_refl _, fun i h1 h2 => by omega⟩ fun m σ' H' hW => ?_
  obtain ⟨rfl, e2, hm, hz⟩ := hW
  refine ⟨_, et_and (et_test (ev_gt (ev_var rfl) ev_c)) (fun hb => et_test (ev_eqI (ev_ixI (j := m - 1) (ev_var rfl) (ev_sub (ev_var rfl) ev_c) (ex_l e2 hS) ?_ ?_) ev_c)), fun hb H3 e3 => ?_, fun hb H3 e3 => ?_⟩
  · have := of_decide_eq_true hb
    omega
  · have := of_decide_eq_true hb
    omega
  · rw [Bool.and_eq_true] at hb
    have h1 := of_decide_eq_true hb.1
    have h2 := of_decide_eq_true hb.2
    refine ⟨fun σ2 H2 => σ2 = [some (.ref a), some (.int ((m - 1 : Nat) : Int))] ∧ Ex H H2, fun σ2 H2 hN => ⟨m - 1, by omega, hN.1, hN.2, by omega, fun i h3 h4 => ?_⟩, ?_⟩
    · by_cases e : i = m - 1
      · rw [e]
        exact h2
      · exact hz i (by omega) h4
    · refine s_aug (a := (m : Int)) rfl ev_c fun H4 e4 => ⟨?_, (e2.trans e3).trans e4⟩
      have e : ((m : Int) - 1) = ((m - 1 : Nat) : Int) := by omega
      rw [e]
      rfl
  · refine s_retL (el_listN (el_sl (ev_var rfl) eo_none (eo_some (ev_var rfl)) (ex_l (e2.trans e3) hS))) fun p H4 hp e4 h4 => ?_
    have hn : m = 0 ∨ ns.getD (m - 1) 0 ≠ 0 := by
      by_cases h0 : m = 0
      · exact .inl h0
      · right
        intro hc
        rw [decide_eq_true (show (0 : Int) < m by omega), decide_eq_true hc] at hb
        cases hb
    have e := trim_take ns m hm hz hn
    rw [cut_take, ← e] at h4
    exact q.go (e2.trans e3) hp e4 h4
theorem sl_P_without_end_noughts {K : PySem.W.Frag} {H : Hp} {a : Addr} {ns : List Int} (hS : SqL K H a (ns.map V.int)) : SpL (sp_P_without_end_noughts K) [.ref a] H ((trimI ns).map V.int) := fun H1 e Q q E =>
  ⟨a, ns, rfl, ex_l e hS, q⟩

/-! _number_at -/
def sp_P_number_at (K : PySem.W.Frag) : Sp := fun vs H Q _ => ∃ (a : Addr) (ns : List Int) (j : Nat), vs = [.ref a, .int (j : Int)] ∧ SqL K H a (ns.map V.int) ∧ RetV (.int (ns.getD j 0)) H Q
def t_P_number_at (K : PySem.W.Frag) : TS :=
  (tRet (tIf (tTest (tOp oLt (tVar 1) (tCB (rLenS K) (tCons (tVar 0) tNil)))) (tOp (rIxL K) (tVar 0) (tVar 1)) (tC (.int 0))))
theorem run_P_number_at {K : PySem.W.Frag} {vs : List V} {H : Hp} {Q : VK} {E : XK} (h : sp_P_number_at K vs H Q E) : t_P_number_at K { nx := fun _ H' => Q .non H', rt := Q } (start ["row", "power"] vs) H := by
  obtain ⟨a, ns, j, rfl, hS, q⟩ := h
  refine s_ret (ev_if (et_test (ev_lt (ev_var rfl) (ev_len (ev_var rfl) hS))) (fun hb => ?_) (fun hb => ?_)) q
  · have hj : j < ns.length := by
      have := of_decide_eq_true hb
      rw [List.length_map] at this
      omega
    exact ev_ixI (ev_var rfl) (ev_var rfl) hS rfl hj
  · have hj : ¬ j < ns.length := fun hj => by
      have := of_decide_eq_false hb
      rw [List.length_map] at this
      omega
    have e : ns.getD j 0 = 0 := by
      rw [List.getD_eq_getElem?_getD, List.getElem?_eq_none (by omega)]
      rfl
    rw [e]
    exact ev_c
theorem sv_P_number_at {K : PySem.W.Frag} {H : Hp} {a : Addr} {ns : List Int} {i : Int} (j : Nat) (hS : SqL K H a (ns.map V.int)) (hi : i = (j : Int)) : SpV (sp_P_number_at K) [.ref a, .int i] H (.int (ns.getD j 0)) := fun H1 e Q q E =>
  ⟨a, ns, j, by rw [hi], ex_l e hS, q⟩

/-! small lemmas about lists of ints -/
theorem given_all (n : Nat) (v : Nat → V) : given n (fun _ => true) v = (List.range n).map v := by
  unfold given
  rw [List.filter_eq_self.mpr (fun _ _ => rfl)]
theorem et_yes {σ : L2.St} {H : Hp} : EvT tYes σ H true := fun H1 _ _ q => q H1 (Ex.refl H1)
theorem kx {i n : Nat} (h : i < n) (hn : n ≤ 1000) : ((i : Nat) : Int).natAbs < 2 ^ 10 := by
  rw [Int.natAbs_natCast]
  omega
theorem given_map (ns : List Int) (f : Int → Int) : given (ns.map V.int).length (fun _ => true) (fun i => V.int (f (ns.getD i 0))) = (ns.map f).map V.int := by
  rw [given_all, List.length_map]
  refine List.ext_getElem (by simp) fun i h1 h2 => ?_
  have h3 : i < ns.length := by simpa using h2
  simp [List.getD_eq_getElem?_getD, List.getElem?_eq_getElem h3]
theorem int_at {ns : List Int} {i : Nat} {x : V} (h : (ns.map V.int)[i]? = some x) : i < ns.length ∧ x = .int (ns.getD i 0) ∧ ns.getD i 0 ∈ ns := by
  rw [List.getElem?_map] at h
  by_cases hi : i < ns.length
  · rw [List.getElem?_eq_getElem hi] at h
    rw [List.getD_eq_getElem?_getD, List.getElem?_eq_getElem hi]
    exact ⟨hi, (Option.some.inj h).symm, List.getElem_mem hi⟩
  · rw [List.getElem?_eq_none (by omega)] at h
    cases h
theorem nrm_mulx {ns ms : List Int} {x y : Nat} {i j : Int} (h1 : nrm ns ≤ 2 ^ x) (h2 : nrm ms ≤ 2 ^ y) (hx : x + y + 2 ≤ 100000000) (hi : i.natAbs ≤ nrm ns) (hj : j.natAbs ≤ nrm ms) : CMulX i j := by
  have e1 : 2 ^ (x + 1) = 2 ^ x * 2 := Nat.pow_succ ..
  have e2 : 2 ^ (y + 1) = 2 ^ y * 2 := Nat.pow_succ ..
  have p1 := Nat.two_pow_pos x
  have p2 := Nat.two_pow_pos y
  exact mulx (a := x + 1) (b := y + 1) (by omega) (by omega) (by omega)
theorem map_empty {ns : List Int} : (ns.map V.int).isEmpty = ns.isEmpty := by cases ns <;> rfl
theorem cf_getD (p : List Int) (k : Nat) : p.getD k 0 = cf p k := rfl

/-! bounds of signs and rests -/
theorem mod2x {i : Int} : (i % 2).natAbs < 2 ^ 1 := by
  have h1 : 0 ≤ i % 2 := Int.emod_nonneg _ (by decide)
  have h2 : i % 2 < 2 := Int.emod_lt_of_pos _ (by decide)
  omega
theorem sgnx {i : Int} : (1 - i % 2 * 2).natAbs < 2 ^ 2 := by
  have h1 : 0 ≤ i % 2 := Int.emod_nonneg _ (by decide)
  have h2 : i % 2 < 2 := Int.emod_lt_of_pos _ (by decide)
  omega
theorem modx {i j : Int} {b : Nat} (h0 : 0 < j) (h : j ≤ 2 ^ b) : (i % j).natAbs < 2 ^ b := by
  have h1 : 0 ≤ i % j := Int.emod_nonneg _ (by omega)
  have h2 : i % j < j := Int.emod_lt_of_pos _ h0
  have h3 : ((2 ^ b : Nat) : Int) = 2 ^ b := by simp
  omega

-- USES: NumX
/-! _law_number -/
def sp_L_number (K : PySem.W.Frag) : Sp := fun vs H Q _ => ∃ c : Int, vs = [.int c] ∧ RetV (.int (numI c)) H Q
def t_L_number (K : PySem.W.Frag) : TS :=
  (tSeq (tIfS (tTest (tOp rEq (tOp oMod (tVar 0) (tC (.int 7))) (tC (.int 0)))) (tRet (tC (.int 0))) tNext) (tSeq (tIfS (tTest (tOp rEq (tOp oMod (tVar 0) (tC (.int 7))) (tC (.int 1)))) (tRet (tOp oMul (tOp oSub (tC (.int 1)) (tOp oMul (tOp oMod (tOp oDiv (tVar 0) (tC (.int 7))) (tC (.int 2))) (tC (.int 2)))) (tOp oMod (tOp oDiv (tVar 0) (tC (.int 14))) (tOp oPow (tC (.int 10)) (tC (.int 40)))))) tNext) (tRet (tOp oSub (tOp oMod (tOp oDiv (tVar 0) (tC (.int 7))) (tC (.int 19))) (tC (.int 9))))))
theorem run_L_number {K : PySem.W.Frag} {vs : List V} {H : Hp} {Q : VK} {E : XK} (h : sp_L_number K vs H Q E) : t_L_number K { nx := fun _ H' => Q .non H', rt := Q } (start ["_law_cell"] vs) H := by
  obtain ⟨c, rfl, q⟩ := h
  unfold numI at q
  refine q_when (et_test (ev_eqI (ev_mod (ev_var rfl) ev_c (by decide)) ev_c)) (fun hb H1 e1 => ?_) (fun hb H1 e1 => ?_)
  · have hc := of_decide_eq_true hb
    rw [if_pos hc] at q
    exact s_ret ev_c fun H2 e2 => q H2 (e1.trans e2)
  · have hc := of_decide_eq_false hb
    rw [if_neg hc] at q
    refine q_when (et_test (ev_eqI (ev_mod (ev_var rfl) ev_c (by decide)) ev_c)) (fun hb2 H2 e2 => ?_) (fun hb2 H2 e2 => ?_)
    · have hc2 := of_decide_eq_true hb2
      rw [if_pos hc2] at q
      refine s_ret (ev_mul (ev_sub ev_c (ev_mul (ev_mod (ev_div (ev_var rfl) ev_c (div_small (by decide) (by decide))) ev_c (by decide)) ev_c (mulx (a := 1) (b := 3) mod2x (by decide) (by decide))))
        (ev_mod (ev_div (ev_var rfl) ev_c (div_small (by decide) (by decide))) (ev_pow ev_c ev_c ⟨by decide, by decide, by decide⟩) (by decide)) (mulx (a := 2) (b := 133) sgnx (modx (by decide) (by decide)) (by decide))) fun H3 e3 => q H3 ((e1.trans e2).trans e3)
    · have hc2 := of_decide_eq_false hb2
      rw [if_neg hc2] at q
      exact s_ret (ev_sub (ev_mod (ev_div (ev_var rfl) ev_c (div_small (by decide) (by decide))) ev_c (by decide)) ev_c) fun H3 e3 => q H3 ((e1.trans e2).trans e3)
theorem sv_L_number {K : PySem.W.Frag} {H : Hp} (c : Int) : SpV (sp_L_number K) [.int c] H (.int (numI c)) := fun H1 e Q q E => ⟨c, rfl, q⟩

/-! _law_cell_at -/
def sp_L_cell_at (K : PySem.W.Frag) : Sp := fun vs H Q _ => ∃ (a : Addr) (ns : List Int) (j : Nat), vs = [.ref a, .int (j : Int)] ∧ SqL K H a (ns.map V.int) ∧ RetV (.int (cellI ns j)) H Q
def t_L_cell_at (K : PySem.W.Frag) : TS :=
  (tSeq (tIfS (tTest (tOp oLt (tVar 1) (tCB (rLenS K) (tCons (tVar 0) tNil)))) (tRet (tOp (rIxL K) (tVar 0) (tVar 1))) tNext) (tRet (tC (.int 0))))
theorem run_L_cell_at {K : PySem.W.Frag} {vs : List V} {H : Hp} {Q : VK} {E : XK} (h : sp_L_cell_at K vs H Q E) : t_L_cell_at K { nx := fun _ H' => Q .non H', rt := Q } (start ["_law_script", "_law_k"] vs) H := by
  obtain ⟨a, ns, j, rfl, hS, q⟩ := h
  refine q_when (et_test (ev_lt (ev_var rfl) (ev_len (ev_var rfl) hS))) (fun hb H1 e1 => ?_) (fun hb H1 e1 => ?_)
  · have hj : j < ns.length := by
      have := of_decide_eq_true hb
      rw [List.length_map] at this
      omega
    exact s_ret (ev_ixI (ev_var rfl) (ev_var rfl) (ex_l e1 hS) rfl hj) fun H2 e2 => q H2 (e1.trans e2)
  · have hj : ¬ j < ns.length := fun hj => by
      have := of_decide_eq_false hb
      rw [List.length_map] at this
      omega
    refine s_ret ev_c fun H2 e2 => ?_
    have e : cellI ns j = 0 := by
      unfold cellI
      rw [List.getD_eq_getElem?_getD, List.getElem?_eq_none (by omega)]
      rfl
    rw [e] at q
    exact q H2 (e1.trans e2)
theorem sv_L_cell_at {K : PySem.W.Frag} {H : Hp} {a : Addr} {ns : List Int} {i : Int} (j : Nat) (hS : SqL K H a (ns.map V.int)) (hi : i = (j : Int)) : SpV (sp_L_cell_at K) [.ref a, .int i] H (.int (cellI ns j)) := fun H1 e Q q E =>
  ⟨a, ns, j, by rw [hi], ex_l e hS, q⟩

/-! _law_trim -/
def sp_L_trim (K : PySem.W.Frag) : Sp := fun vs H Q _ => ∃ (a : Addr) (ns : List Int), vs = [.ref a] ∧ SqL K H a (ns.map V.int) ∧ RetL ((trimI ns).map V.int) H Q
def t_L_trim (K : PySem.W.Frag) : TS :=
  (tSeq (tAsg (tCB (rLenS K) (tCons (tVar 0) tNil)) (gName 1)) (tSeq (tWhile (tAnd (tTest (tOp oGt (tVar 1) (tC (.int 0)))) (tTest (tOp rEq (tOp (rIxL K) (tVar 0) (tOp oSub (tVar 1) (tC (.int 1)))) (tC (.int 0))))) (tAsg (tOp oSub (tVar 1) (tC (.int 1))) (gName 1))) (tRet (tSl (rSlL K) (tVar 0) tNoPart (tPart (tVar 1))))))
theorem run_L_trim {K : PySem.W.Frag} {vs : List V} {H : Hp} {Q : VK} {E : XK} (h : sp_L_trim K vs H Q E) : t_L_trim K { nx := fun _ H' => Q .non H', rt := Q } (start ["_law_row", "_law_size"] vs) H := by
  obtain ⟨a, ns, rfl, hS, q⟩ := h
  refine q_asg (ev_len (ev_var rfl) hS) fun H1 e1 => ?_
  refine q_while (fun m σ' H' => σ' = [some (.ref a), some (.int (m : Int))] ∧ Ex H H' ∧ m ≤ ns.length ∧ ∀ i, m ≤ i → i < ns.length → ns.getD i 0 = 0) ns.length
    ⟨by rw [List.length_map]; rfl, e1, Nat.le_refl _, fun i h1 h2 => by omega⟩ fun m σ' H' hW => ?_
  obtain ⟨rfl, e2, hm, hz⟩ := hW
  refine ⟨_, et_and (et_test (ev_gt (ev_var rfl) ev_c)) (fun hb => et_test (ev_eqI (ev_ixI (j := m - 1) (ev_var rfl) (ev_sub (ev_var rfl) ev_c) (ex_l e2 hS) ?_ ?_) ev_c)), fun hb H3 e3 => ?_, fun hb H3 e3 => ?_⟩
  · have := of_decide_eq_true hb
    omega
  · have := of_decide_eq_true hb
    omega
  · rw [Bool.and_eq_true] at hb
    have h1 := of_decide_eq_true hb.1
    have h2 := of_decide_eq_true hb.2
    refine ⟨fun σ2 H2 => σ2 = [some (.ref a), some (.int ((m - 1 : Nat) : Int))] ∧ Ex H H2, fun σ2 H2 hN => ⟨m - 1, by omega, hN.1, hN.2, by omega, fun i h3 h4 => ?_⟩, ?_⟩
    · by_cases e : i = m - 1
      · rw [e]
        exact h2
      · exact hz i (by omega) h4
    · refine s_asg (ev_sub (ev_var rfl) ev_c) fun H4 e4 => ⟨?_, (e2.trans e3).trans e4⟩
      have e : ((m : Int) - 1) = ((m - 1 : Nat) : Int) := by omega
      rw [e]
      rfl
  · refine s_retL (el_sl (ev_var rfl) eo_none (eo_some (ev_var rfl)) (ex_l (e2.trans e3) hS)) fun p H4 hp e4 h4 => ?_
    have hn : m = 0 ∨ ns.getD (m - 1) 0 ≠ 0 := by
      by_cases h0 : m = 0
      · exact .inl h0
      · right
        intro hc
        rw [decide_eq_true (show (0 : Int) < m by omega), decide_eq_true hc] at hb
        cases hb
    have e := trim_take ns m hm hz hn
    rw [cut_take, ← e] at h4
    exact q.go (e2.trans e3) hp e4 h4
theorem sl_L_trim {K : PySem.W.Frag} {H : Hp} {a : Addr} {ns : List Int} (hS : SqL K H a (ns.map V.int)) : SpL (sp_L_trim K) [.ref a] H ((trimI ns).map V.int) := fun H1 e Q q E =>
  ⟨a, ns, rfl, ex_l e hS, q⟩

-- USES: Lists L_number L_cell_at L_trim
/-! _law_drawn -/
def sp_L_drawn (K : PySem.W.Frag) : Sp := fun vs H Q _ => ∃ (a : Addr) (ns : List Int) (p s m : Nat), vs = [.ref a, .int (p : Int), .int (s : Int), .int (m : Int)] ∧ SqL K H a (ns.map V.int) ∧ s ≤ 1000 ∧ m ≤ 1000 ∧ RetL ((drawnI numI ns p s m).map V.int) H Q
def t_L_drawn (K : PySem.W.Frag) : TS :=
  (tSeq (tAsg (tLc (iRng1 (tCons (tVar 2) tNil)) (gName 5) tYes (tCall (sp_L_number K) [] E0 (tCons (tCall (sp_L_cell_at K) [] E0 (tCons (tVar 0) (tCons (tOp oAdd (tVar 1) (tVar 5)) tNil))) tNil)) [5]) (gName 4)) (tSeq (tIfS (tTest (tOp oGt (tVar 3) (tC (.int 0)))) (tAsg (tLc (iRng1 (tCons (tVar 3) tNil)) (gName 5) tYes (tCall (sp_L_number K) [] E0 (tCons (tOp oAdd (tOp oAdd (tCall (sp_L_cell_at K) [] E0 (tCons (tVar 0) (tCons (tVar 1) tNil))) (tOp oMul (tOp oMul (tC (.int 97)) (tVar 5)) (tVar 5))) (tOp oMul (tC (.int 13)) (tVar 5))) tNil)) [5]) (gName 4)) tNext) (tRet (tCall (sp_L_trim K) [] E0 (tCons (tVar 4) tNil)))))
theorem run_L_drawn {K : PySem.W.Frag} {vs : List V} {H : Hp} {Q : VK} {E : XK} (h : sp_L_drawn K vs H Q E) : t_L_drawn K { nx := fun _ H' => Q .non H', rt := Q } (start ["_law_script", "_law_place", "_law_size", "_law_many", "_law_row", "_law_k"] vs) H := by
  obtain ⟨a, ns, p, s, m, rfl, hS, hs, hm, q⟩ := h
  refine q_asgL (el_lcR1 (n := (s : Int)) (fun _ => true) (fun i => .int (numI (cellI ns (p + i)))) (ea_cons (ev_var rfl) ea_nil) ⟨by omega, by omega⟩ (fun _ => rfl) (fun i H1 e1 hi => et_yes)
    (fun i H1 e1 hi _ => ev_call (ea_cons (ev_call (ea_cons (ev_var rfl) (ea_cons (ev_add (ev_var rfl) (ev_var rfl)) ea_nil)) (sv_L_cell_at (p + i) (ex_l e1 hS) (by omega))) ea_nil) (sv_L_number _))) fun r H1 nr e1 hr => ?_
  rw [given_all, Int.toNat_natCast] at hr
  refine q_when (et_test (ev_gt (ev_var rfl) ev_c)) (fun hb H2 e2 => ?_) (fun hb H2 e2 => ?_)
  · have h0 := of_decide_eq_true hb
    refine s_asgL (el_lcR1 (n := (m : Int)) (fun _ => true) (fun i => .int (numI (cellI ns p + 97 * (i : Int) * (i : Int) + 13 * (i : Int)))) (ea_cons (ev_var rfl) ea_nil) ⟨by omega, by omega⟩ (fun _ => rfl) (fun i H1 e1 hi => et_yes)
      (fun i H3 e3 hi _ => ev_call (ea_cons (ev_add (ev_add (ev_call (ea_cons (ev_var rfl) (ea_cons (ev_var rfl) ea_nil)) (sv_L_cell_at p (ex_l (e2.trans e3) (ex_l e1 hS)) rfl))
        (ev_mul (ev_mul ev_c (ev_var rfl) (mulx (a := 7) (b := 10) (by decide) (kx (n := m) (by omega) hm) (by decide))) (ev_var rfl) (mulx (a := 17) (b := 10) (wide_lt (a := 7) (b := 10) (by decide) (kx (n := m) (by omega) hm)) (kx (n := m) (by omega) hm) (by decide))))
        (ev_mul ev_c (ev_var rfl) (mulx (a := 4) (b := 10) (by decide) (kx (n := m) (by omega) hm) (by decide)))) ea_nil) (sv_L_number _))) fun r2 H3 nr2 e3 hr2 => ?_
    rw [given_all, Int.toNat_natCast] at hr2
    refine s_retL (el_call (xs := (drawnI numI ns p s m).map V.int) (ea_cons (ev_var rfl) ea_nil) ?_) fun p4 H4 n4 e4 h4 => q.go ((e1.trans e2).trans e3) n4 e4 h4
    unfold drawnI
    rw [if_pos (by omega)]
    refine sl_L_trim (sq_of ?_)
    rw [hr2, List.map_map]
    rfl
  · have h0 := of_decide_eq_false hb
    refine s_retL (el_call (xs := (drawnI numI ns p s m).map V.int) (ea_cons (ev_var rfl) ea_nil) ?_) fun p4 H4 n4 e4 h4 => q.go (e1.trans e2) n4 e4 h4
    unfold drawnI
    rw [if_neg (by omega)]
    refine sl_L_trim (sq_of (e2 _ _ ?_))
    rw [hr, List.map_map]
    rfl
theorem sl_L_drawn {K : PySem.W.Frag} {H : Hp} {a : Addr} {ns : List Int} {i j k : Int} (p s m : Nat) (hS : SqL K H a (ns.map V.int)) (hs : s ≤ 1000) (hm : m ≤ 1000) (hi : i = (p : Int)) (hj : j = (s : Int)) (hk : k = (m : Int)) :
    SpL (sp_L_drawn K) [.ref a, .int i, .int j, .int k] H ((drawnI numI ns p s m).map V.int) := fun H1 e Q q E =>
  ⟨a, ns, p, s, m, by rw [hi, hj, hk], ex_l e hS, hs, hm, q⟩

-- USES: Lists P_without_end_noughts P_number_at L_drawn
/-! plus -/
def sp_P_plus (K : PySem.W.Frag) : Sp := fun vs H Q _ => ∃ (a b : Addr) (ns ms : List Int), vs = [.ref a, .ref b] ∧ SqL K H a (ns.map V.int) ∧ SqL K H b (ms.map V.int) ∧ ns.length ≤ 20000 ∧ ms.length ≤ 20000 ∧ RetL ((plusI ns ms).map V.int) H Q
def t_P_plus (K : PySem.W.Frag) : TS :=
  (tSeq (tAsg (tCB rRng1 (tCons (tCB rMax2 (tCons (tCB (rLenS K) (tCons (tVar 0) tNil)) (tCons (tCB (rLenS K) (tCons (tVar 1) tNil)) tNil))) tNil)) (gName 2)) (tRet (tCall (sp_P_without_end_noughts K) [] E0 (tCons (tLc (iRngV (tVar 2)) (gName 3) tYes (tOp oAdd (tCall (sp_P_number_at K) [] E0 (tCons (tVar 0) (tCons (tVar 3) tNil))) (tCall (sp_P_number_at K) [] E0 (tCons (tVar 1) (tCons (tVar 3) tNil)))) [3]) tNil))))
theorem run_P_plus {K : PySem.W.Frag} {vs : List V} {H : Hp} {Q : VK} {E : XK} (h : sp_P_plus K vs H Q E) : t_P_plus K { nx := fun _ H' => Q .non H', rt := Q } (start ["ones", "others", "powers", "power"] vs) H := by
  obtain ⟨a, b, ns, ms, rfl, hA, hB, hn, hm, q⟩ := h
  refine q_asgN (en_range1 (n := ((max ns.length ms.length : Nat) : Int)) (ev_is (ev_max2 (ev_len (ev_var rfl) hA) (ev_len (ev_var rfl) hB)) (by rw [List.length_map, List.length_map, max_if]))) fun g H1 ng e1 hg => ?_
  refine s_retL (el_callN (el_lcRV (fun _ => true) (fun i => .int ((· + ·) (ns.getD i 0) (ms.getD i 0))) (ev_var rfl) hg ⟨by omega, by omega⟩ (fun _ => rfl) (fun i H1 e1 hi => et_yes)
    (fun i H2 e2 hi _ => ev_add (ev_call (ea_cons (ev_var rfl) (ea_cons (ev_var rfl) ea_nil)) (sv_P_number_at i (ex_l (e1.trans e2) hA) rfl)) (ev_call (ea_cons (ev_var rfl) (ea_cons (ev_var rfl) ea_nil)) (sv_P_number_at i (ex_l (e1.trans e2) hB) rfl))))
    (ys := (plusI ns ms).map V.int) fun p H2 h2 e2 => ?_) fun p H3 hp e3 h3 => q.go e1 hp e3 h3
  refine sl_P_without_end_noughts (ns := zipI (· + ·) ns ms) (sq_of ?_)
  rw [h2, given_all, Int.toNat_natCast]
  unfold zipI
  rw [List.map_map]
  rfl
theorem sl_P_plus {K : PySem.W.Frag} {H : Hp} {a b : Addr} {ns ms : List Int} (hA : SqL K H a (ns.map V.int)) (hB : SqL K H b (ms.map V.int)) (hn : ns.length ≤ 20000) (hm : ms.length ≤ 20000) : SpL (sp_P_plus K) [.ref a, .ref b] H ((plusI ns ms).map V.int) := fun H1 e Q q E =>
  ⟨a, b, ns, ms, rfl, ex_l e hA, ex_l e hB, hn, hm, q⟩

-- USES: Lists P_without_end_noughts P_number_at L_drawn
/-! minus -/
def sp_P_minus (K : PySem.W.Frag) : Sp := fun vs H Q _ => ∃ (a b : Addr) (ns ms : List Int), vs = [.ref a, .ref b] ∧ SqL K H a (ns.map V.int) ∧ SqL K H b (ms.map V.int) ∧ ns.length ≤ 20000 ∧ ms.length ≤ 20000 ∧ RetL ((minusI ns ms).map V.int) H Q
def t_P_minus (K : PySem.W.Frag) : TS :=
  (tSeq (tAsg (tCB rRng1 (tCons (tCB rMax2 (tCons (tCB (rLenS K) (tCons (tVar 0) tNil)) (tCons (tCB (rLenS K) (tCons (tVar 1) tNil)) tNil))) tNil)) (gName 2)) (tRet (tCall (sp_P_without_end_noughts K) [] E0 (tCons (tLc (iRngV (tVar 2)) (gName 3) tYes (tOp oSub (tCall (sp_P_number_at K) [] E0 (tCons (tVar 0) (tCons (tVar 3) tNil))) (tCall (sp_P_number_at K) [] E0 (tCons (tVar 1) (tCons (tVar 3) tNil)))) [3]) tNil))))
theorem run_P_minus {K : PySem.W.Frag} {vs : List V} {H : Hp} {Q : VK} {E : XK} (h : sp_P_minus K vs H Q E) : t_P_minus K { nx := fun _ H' => Q .non H', rt := Q } (start ["ones", "others", "powers", "power"] vs) H := by
  obtain ⟨a, b, ns, ms, rfl, hA, hB, hn, hm, q⟩ := h
  refine q_asgN (en_range1 (n := ((max ns.length ms.length : Nat) : Int)) (ev_is (ev_max2 (ev_len (ev_var rfl) hA) (ev_len (ev_var rfl) hB)) (by rw [List.length_map, List.length_map, max_if]))) fun g H1 ng e1 hg => ?_
  refine s_retL (el_callN (el_lcRV (fun _ => true) (fun i => .int ((· - ·) (ns.getD i 0) (ms.getD i 0))) (ev_var rfl) hg ⟨by omega, by omega⟩ (fun _ => rfl) (fun i H1 e1 hi => et_yes)
    (fun i H2 e2 hi _ => ev_sub (ev_call (ea_cons (ev_var rfl) (ea_cons (ev_var rfl) ea_nil)) (sv_P_number_at i (ex_l (e1.trans e2) hA) rfl)) (ev_call (ea_cons (ev_var rfl) (ea_cons (ev_var rfl) ea_nil)) (sv_P_number_at i (ex_l (e1.trans e2) hB) rfl))))
    (ys := (minusI ns ms).map V.int) fun p H2 h2 e2 => ?_) fun p H3 hp e3 h3 => q.go e1 hp e3 h3
  refine sl_P_without_end_noughts (ns := zipI (· - ·) ns ms) (sq_of ?_)
  rw [h2, given_all, Int.toNat_natCast]
  unfold zipI
  rw [List.map_map]
  rfl
theorem sl_P_minus {K : PySem.W.Frag} {H : Hp} {a b : Addr} {ns ms : List Int} (hA : SqL K H a (ns.map V.int)) (hB : SqL K H b (ms.map V.int)) (hn : ns.length ≤ 20000) (hm : ms.length ≤ 20000) : SpL (sp_P_minus K) [.ref a, .ref b] H ((minusI ns ms).map V.int) := fun H1 e Q q E =>
  ⟨a, b, ns, ms, rfl, ex_l e hA, ex_l e hB, hn, hm, q⟩

-- USES: Lists P_without_end_noughts L_drawn
/-! scaled -/
def sp_P_scaled (K : PySem.W.Frag) : Sp := fun vs H Q _ => ∃ (a : Addr) (ns : List Int) (m : Int) (b c : Nat), vs = [.ref a, .int m] ∧ SqL K H a (ns.map V.int) ∧ ns.length ≤ 20000 ∧ (∀ x ∈ ns, x.natAbs < 2 ^ b) ∧ m.natAbs < 2 ^ c ∧ b + c ≤ 100000000 ∧ RetL ((scaledI m ns).map V.int) H Q
def t_P_scaled (K : PySem.W.Frag) : TS :=
  (tRet (tCall (sp_P_without_end_noughts K) [] E0 (tCons (tLc (iList K (tVar 0)) (gName 2) tYes (tOp oMul (tVar 1) (tVar 2)) [2]) tNil)))
theorem run_P_scaled {K : PySem.W.Frag} {vs : List V} {H : Hp} {Q : VK} {E : XK} (h : sp_P_scaled K vs H Q E) : t_P_scaled K { nx := fun _ H' => Q .non H', rt := Q } (start ["row", "many", "number"] vs) H := by
  obtain ⟨a, ns, m, b, c, rfl, hS, hn, hx, hm, hbc, q⟩ := h
  refine s_retL (el_callN (el_lcL (fun _ => true) (fun i => .int (m * ns.getD i 0)) (ev_var rfl) hS (by rw [List.length_map]; omega) (fun _ => rfl) (fun i x H1 e1 hi => et_yes)
    (fun i x H1 e1 hi _ => ?_)) (ys := (scaledI m ns).map V.int) fun p H2 h2 e2 => ?_) fun p H3 hp e3 h3 => q p H3 hp e3 h3
  · obtain ⟨h1, rfl, h3⟩ := int_at hi
    exact ev_mul (ev_var rfl) (ev_var rfl) (mulx (a := c) (b := b) hm (hx _ h3) (by omega))
  · refine sl_P_without_end_noughts (ns := ns.map (m * ·)) (sq_of ?_)
    rw [h2, given_map]
theorem sl_P_scaled {K : PySem.W.Frag} {H : Hp} {a : Addr} {ns : List Int} {m : Int} (b c : Nat) (hS : SqL K H a (ns.map V.int)) (hn : ns.length ≤ 20000) (hx : ∀ x ∈ ns, x.natAbs < 2 ^ b) (hm : m.natAbs < 2 ^ c) (hbc : b + c ≤ 100000000) :
    SpL (sp_P_scaled K) [.ref a, .int m] H ((scaledI m ns).map V.int) := fun H1 e Q q E => ⟨a, ns, m, b, c, rfl, ex_l e hS, hn, hx, hm, hbc, q⟩

/-! _law_whole: of an int, True -/
def sp_L_whole (K : PySem.W.Frag) : Sp := fun vs H Q _ => ∃ i : Int, vs = [.int i] ∧ RetV (.bl true) H Q
def t_L_whole (K : PySem.W.Frag) : TS :=
  (tRet (tAndV (tCB (rIsi K) (tCons (tVar 0) (tCons (tC (.ty "int")) tNil))) (tNotV (tCB (rIsi K) (tCons (tVar 0) (tCons (tC (.ty "bool")) tNil))))))
theorem run_L_whole {K : PySem.W.Frag} {vs : List V} {H : Hp} {Q : VK} {E : XK} (h : sp_L_whole K vs H Q E) : t_L_whole K { nx := fun _ H' => Q .non H', rt := Q } (start ["_law_found"] vs) H := by
  obtain ⟨i, rfl, q⟩ := h
  refine s_ret (v := .bl true) (ev_is (ev_andV (a := true) (b := true) ?_ fun _ => ?_) rfl) q
  · exact ev_isinst (ev_var rfl) ty_int (by decide +kernel)
  · exact ev_is (ev_notV (a := false) (ev_isinst (ev_var rfl) ty_int (by decide +kernel))) rfl
theorem sv_L_whole {K : PySem.W.Frag} {H : Hp} (i : Int) : SpV (sp_L_whole K) [.int i] H (.bl true) := fun H1 e Q q E => ⟨i, rfl, q⟩

-- USES: L_whole
/-! _law_same: of two lists of ints -/
def sp_L_same (K : PySem.W.Frag) : Sp := fun vs H Q _ => ∃ (a b : Addr) (ns ms : List Int), vs = [.ref a, .ref b] ∧ H a = some (.lst (ns.map V.int)) ∧ SqL K H b (ms.map V.int) ∧ ms.length ≤ 90000 ∧ RetV (.bl (decide (ns = ms))) H Q
def t_L_same (K : PySem.W.Frag) : TS :=
  (tSeq (tIfS (tOr (tNot (tB (tCB (rIsi K) (tCons (tVar 0) (tCons (tC (.ty "list")) tNil))))) (tTest (tOp rNe (tCB (rLenS K) (tCons (tVar 0) tNil)) (tCB (rLenS K) (tCons (tVar 1) tNil))))) (tRet (tC (.bl false))) tNext) (tSeq (tFor (iRng1 (tCons (tCB (rLenS K) (tCons (tVar 1) tNil)) tNil)) (gName 2) (tIfS (tOr (tNot (tB (tCall (sp_L_whole K) [] E0 (tCons (tOp (rIxL K) (tVar 0) (tVar 2)) tNil)))) (tTest (tOp rNe (tOp (rIxL K) (tVar 0) (tVar 2)) (tOp (rIxL K) (tVar 1) (tVar 2))))) (tRet (tC (.bl false))) tNext)) (tRet (tC (.bl true)))))
theorem eq_of_getD {ns ms : List Int} (hl : ns.length = ms.length) (h : ∀ i, i < ms.length → ns.getD i 0 = ms.getD i 0) : ns = ms := by
  refine List.ext_getElem hl fun i h1 h2 => ?_
  have := h i h2
  rw [List.getD_eq_getElem?_getD, List.getD_eq_getElem?_getD, List.getElem?_eq_getElem h1, List.getElem?_eq_getElem h2] at this
  exact this
theorem run_L_same {K : PySem.W.Frag} {vs : List V} {H : Hp} {Q : VK} {E : XK} (h : sp_L_same K vs H Q E) : t_L_same K { nx := fun _ H' => Q .non H', rt := Q } (start ["_law_found", "_law_due", "_law_k"] vs) H := by
  obtain ⟨a, b, ns, ms, rfl, hA, hB, hl, q⟩ := h
  have hAs : SqL K H a (ns.map V.int) := sq_of hA
  refine q_when (et_or (a := false) (et_is (et_not (et_B (ev_isinst (ev_var rfl) (ty_lst hA) (b := true) (by decide +kernel)))) rfl) (fun _ => et_test (ev_neI (ev_len (ev_var rfl) hAs) (ev_len (ev_var rfl) hB)))) (fun hb H1 e1 => ?_) (fun hb H1 e1 => ?_)
  · refine s_ret ev_c fun H2 e2 => ?_
    have hne : ns ≠ ms := fun e => by
      subst e
      simp at hb
    rw [decide_eq_false hne] at q
    exact q H2 (e1.trans e2)
  · have hlen : ns.length = ms.length := by
      simp at hb
      omega
    refine q_forR1 (n := (ms.length : Int)) (ea_cons (ev_is (ev_len (ev_var rfl) (ex_l e1 hB)) (by rw [List.length_map])) ea_nil) ⟨by omega, by omega⟩
      (fun i σ' H' => ∃ y, σ' = [some (.ref a), some (.ref b), y] ∧ Ex H H' ∧ ∀ j, j < i → ns.getD j 0 = ms.getD j 0) (fun H2 e2 => ⟨_, rfl, e1.trans e2, fun j hj => by omega⟩) (fun i σ' H' hi hP => ?_) (fun σ' H' hP => ?_)
    · obtain ⟨y, rfl, e2, hs⟩ := hP
      have hi' : i < ms.length := by omega
      refine s_when (et_or (a := false) (et_is (et_not (et_B (ev_call (ea_cons (ev_ixI (ev_var rfl) (ev_var rfl) (ex_l e2 hAs) rfl (by omega)) ea_nil) (sv_L_whole _)))) rfl) (fun _ => et_test (ev_neI (ev_ixI (ev_var rfl) (ev_var rfl) (ex_l e2 hAs) rfl (by omega)) (ev_ixI (ev_var rfl) (ev_var rfl) (ex_l e2 hB) rfl hi')))) (fun hb H3 e3 => ?_) (fun hb H3 e3 => ?_)
      · refine s_ret ev_c fun H4 e4 => ?_
        have hne : ns ≠ ms := fun e => by
          subst e
          simp at hb
        rw [decide_eq_false hne] at q
        exact q H4 ((e2.trans e3).trans e4)
      · refine ⟨_, rfl, e2.trans e3, fun j hj => ?_⟩
        by_cases e : j = i
        · subst e
          simpa using hb
        · exact hs j (by omega)
    · obtain ⟨y, rfl, e2, hs⟩ := hP
      refine s_ret ev_c fun H4 e4 => ?_
      have he : ns = ms := eq_of_getD hlen fun j hj => hs j (by omega)
      rw [decide_eq_true he] at q
      exact q H4 (e2.trans e4)
theorem sv_L_same {K : PySem.W.Frag} {H : Hp} {a b : Addr} {ns ms : List Int} (hA : H a = some (.lst (ns.map V.int))) (hB : SqL K H b (ms.map V.int)) (hl : ms.length ≤ 90000) : SpV (sp_L_same K) [.ref a, .ref b] H (.bl (decide (ns = ms))) := fun H1 e Q q E =>
  ⟨a, b, ns, ms, rfl, e _ _ hA, ex_l e hB, hl, q⟩

/-! _law_number_at -/
def sp_L_number_at (K : PySem.W.Frag) : Sp := fun vs H Q _ => ∃ (a : Addr) (ns : List Int) (j : Nat), vs = [.ref a, .int (j : Int)] ∧ SqL K H a (ns.map V.int) ∧ RetV (.int (ns.getD j 0)) H Q
def t_L_number_at (K : PySem.W.Frag) : TS :=
  (tSeq (tIfS (tTest (tOp oLt (tVar 1) (tCB (rLenS K) (tCons (tVar 0) tNil)))) (tRet (tOp (rIxL K) (tVar 0) (tVar 1))) tNext) (tRet (tC (.int 0))))
theorem run_L_number_at {K : PySem.W.Frag} {vs : List V} {H : Hp} {Q : VK} {E : XK} (h : sp_L_number_at K vs H Q E) : t_L_number_at K { nx := fun _ H' => Q .non H', rt := Q } (start ["_law_row", "_law_place"] vs) H := by
  obtain ⟨a, ns, j, rfl, hS, q⟩ := h
  refine q_when (et_test (ev_lt (ev_var rfl) (ev_len (ev_var rfl) hS))) (fun hb H1 e1 => ?_) (fun hb H1 e1 => ?_)
  · have hj : j < ns.length := by
      have := of_decide_eq_true hb
      rw [List.length_map] at this
      omega
    exact s_ret (ev_ixI (ev_var rfl) (ev_var rfl) (ex_l e1 hS) rfl hj) fun H2 e2 => q H2 (e1.trans e2)
  · have hj : ¬ j < ns.length := fun hj => by
      have := of_decide_eq_false hb
      rw [List.length_map] at this
      omega
    refine s_ret ev_c fun H2 e2 => ?_
    have e : ns.getD j 0 = 0 := by
      rw [List.getD_eq_getElem?_getD, List.getElem?_eq_none (by omega)]
      rfl
    rw [e] at q
    exact q H2 (e1.trans e2)
theorem sv_L_number_at {K : PySem.W.Frag} {H : Hp} {a : Addr} {ns : List Int} {i : Int} (j : Nat) (hS : SqL K H a (ns.map V.int)) (hi : i = (j : Int)) : SpV (sp_L_number_at K) [.ref a, .int i] H (.int (ns.getD j 0)) := fun H1 e Q q E =>
  ⟨a, ns, j, by rw [hi], ex_l e hS, q⟩

-- USES: Lists L_trim L_number_at L_drawn P_scaled
/-! _law_due -/
def sp_L_due (K : PySem.W.Frag) : Sp := fun vs H Q _ => ∃ (a b : Addr) (ns ms : List Int) (m : Int) (x c : Nat), vs = [.ref a, .ref b, .int m] ∧ SqL K H a (ns.map V.int) ∧ SqL K H b (ms.map V.int) ∧ ns.length ≤ 20000 ∧ ms.length ≤ 20000 ∧
  (∀ y ∈ ns, y.natAbs < 2 ^ x) ∧ m.natAbs < 2 ^ c ∧ x + c ≤ 100000000 ∧ RetLL [(plusI ns ms).map V.int, (minusI ns ms).map V.int, (scaledI m ns).map V.int] H Q
def t_L_due (K : PySem.W.Frag) : TS :=
  (tSeq (tAsg (tCB rMax2 (tCons (tCB (rLenS K) (tCons (tVar 0) tNil)) (tCons (tCB (rLenS K) (tCons (tVar 1) tNil)) tNil))) (gName 3)) (tRet (tLst (tCons (tCall (sp_L_trim K) [] E0 (tCons (tLc (iRng1 (tCons (tVar 3) tNil)) (gName 4) tYes (tOp oAdd (tCall (sp_L_number_at K) [] E0 (tCons (tVar 0) (tCons (tVar 4) tNil))) (tCall (sp_L_number_at K) [] E0 (tCons (tVar 1) (tCons (tVar 4) tNil)))) [4]) tNil)) (tCons (tCall (sp_L_trim K) [] E0 (tCons (tLc (iRng1 (tCons (tVar 3) tNil)) (gName 4) tYes (tOp oSub (tCall (sp_L_number_at K) [] E0 (tCons (tVar 0) (tCons (tVar 4) tNil))) (tCall (sp_L_number_at K) [] E0 (tCons (tVar 1) (tCons (tVar 4) tNil)))) [4]) tNil)) (tCons (tCall (sp_L_trim K) [] E0 (tCons (tLc (iList K (tVar 0)) (gName 5) tYes (tOp oMul (tVar 2) (tVar 5)) [5]) tNil)) tNil))))))
theorem run_L_due {K : PySem.W.Frag} {vs : List V} {H : Hp} {Q : VK} {E : XK} (h : sp_L_due K vs H Q E) : t_L_due K { nx := fun _ H' => Q .non H', rt := Q } (start ["_law_ones", "_law_others", "_law_many", "_law_size", "_law_k", "_law_number_here"] vs) H := by
  obtain ⟨a, b, ns, ms, m, x, c, rfl, hA, hB, hn, hm, hx, hc, hxc, q⟩ := h
  refine q_asg (v := .int ((max ns.length ms.length : Nat) : Int)) (ev_is (ev_max2 (ev_len (ev_var rfl) hA) (ev_len (ev_var rfl) hB)) (by rw [List.length_map, List.length_map, max_if])) fun H1 e1 => ?_
  have hA1 := ex_l e1 hA
  have hB1 := ex_l e1 hB
  refine s_retLL (ell_lst (els_cons (xs := (plusI ns ms).map V.int) ?_ (els_cons (xs := (minusI ns ms).map V.int) ?_ (els_cons (xs := (scaledI m ns).map V.int) ?_ els_nil))) (by simp)) fun p ps H2 hp hm2 e2 n2 h2 => q.go e1 hp hm2 e2 n2 h2
  · refine el_callN (el_lcR1 (fun _ => true) (fun i => .int (ns.getD i 0 + ms.getD i 0)) (ea_cons (ev_var rfl) ea_nil) ⟨by omega, by omega⟩ (fun _ => rfl) (fun i H1 e1 hi => et_yes)
      (fun i H2 e2 hi _ => ev_add (ev_call (ea_cons (ev_var rfl) (ea_cons (ev_var rfl) ea_nil)) (sv_L_number_at i (ex_l e2 hA1) rfl)) (ev_call (ea_cons (ev_var rfl) (ea_cons (ev_var rfl) ea_nil)) (sv_L_number_at i (ex_l e2 hB1) rfl)))) fun p H2 h2 e2 => ?_
    refine sl_L_trim (ns := zipI (· + ·) ns ms) (sq_of ?_)
    rw [h2, given_all, Int.toNat_natCast]
    unfold zipI
    rw [List.map_map]
    rfl
  · refine el_callN (el_lcR1 (fun _ => true) (fun i => .int (ns.getD i 0 - ms.getD i 0)) (ea_cons (ev_var rfl) ea_nil) ⟨by omega, by omega⟩ (fun _ => rfl) (fun i H1 e1 hi => et_yes)
      (fun i H2 e2 hi _ => ev_sub (ev_call (ea_cons (ev_var rfl) (ea_cons (ev_var rfl) ea_nil)) (sv_L_number_at i (ex_l e2 hA1) rfl)) (ev_call (ea_cons (ev_var rfl) (ea_cons (ev_var rfl) ea_nil)) (sv_L_number_at i (ex_l e2 hB1) rfl)))) fun p H2 h2 e2 => ?_
    refine sl_L_trim (ns := zipI (· - ·) ns ms) (sq_of ?_)
    rw [h2, given_all, Int.toNat_natCast]
    unfold zipI
    rw [List.map_map]
    rfl
  · refine el_callN (el_lcL (fun _ => true) (fun i => .int (m * ns.getD i 0)) (ev_var rfl) hA1 (by rw [List.length_map]; omega) (fun _ => rfl) (fun i x H1 e1 hi => et_yes)
      (fun i y H1 e1 hi _ => ?_)) fun p H2 h2 e2 => ?_
    · obtain ⟨h1, rfl, h3⟩ := int_at hi
      exact ev_mul (ev_var rfl) (ev_var rfl) (mulx (a := c) (b := x) hc (hx _ h3) (by omega))
    · refine sl_L_trim (ns := ns.map (m * ·)) (sq_of ?_)
      rw [h2, given_map]
theorem sll_L_due {K : PySem.W.Frag} {H : Hp} {a b : Addr} {ns ms : List Int} {m : Int} (x c : Nat) (hA : SqL K H a (ns.map V.int)) (hB : SqL K H b (ms.map V.int)) (hn : ns.length ≤ 20000) (hm : ms.length ≤ 20000) (hx : ∀ y ∈ ns, y.natAbs < 2 ^ x) (hc : m.natAbs < 2 ^ c) (hxc : x + c ≤ 100000000) :
    SpLL (sp_L_due K) [.ref a, .ref b, .int m] H [(plusI ns ms).map V.int, (minusI ns ms).map V.int, (scaledI m ns).map V.int] := fun H1 e Q q E => ⟨a, b, ns, ms, m, x, c, rfl, ex_l e hA, ex_l e hB, hn, hm, hx, hc, hxc, q⟩

-- USES: P_plus P_minus P_scaled
/-! _law_told -/
def sp_L_told (K : PySem.W.Frag) : Sp := fun vs H Q _ => ∃ (a b : Addr) (ns ms : List Int) (m : Int) (x c : Nat), vs = [.ref a, .ref b, .int m] ∧ SqL K H a (ns.map V.int) ∧ SqL K H b (ms.map V.int) ∧ ns.length ≤ 20000 ∧ ms.length ≤ 20000 ∧
  (∀ y ∈ ns, y.natAbs < 2 ^ x) ∧ m.natAbs < 2 ^ c ∧ x + c ≤ 100000000 ∧ RetLL [(plusI ns ms).map V.int, (minusI ns ms).map V.int, (scaledI m ns).map V.int] H Q
def t_L_told (K : PySem.W.Frag) : TS :=
  (tRet (tLst (tCons (tCall (sp_P_plus K) [] E0 (tCons (tVar 0) (tCons (tVar 1) tNil))) (tCons (tCall (sp_P_minus K) [] E0 (tCons (tVar 0) (tCons (tVar 1) tNil))) (tCons (tCall (sp_P_scaled K) [] E0 (tCons (tVar 0) (tCons (tVar 2) tNil))) tNil)))))
theorem run_L_told {K : PySem.W.Frag} {vs : List V} {H : Hp} {Q : VK} {E : XK} (h : sp_L_told K vs H Q E) : t_L_told K { nx := fun _ H' => Q .non H', rt := Q } (start ["_law_ones", "_law_others", "_law_many"] vs) H := by
  obtain ⟨a, b, ns, ms, m, x, c, rfl, hA, hB, hn, hm, hx, hc, hxc, q⟩ := h
  exact s_retLL (ell_lst (els_cons (el_call (ea_cons (ev_var rfl) (ea_cons (ev_var rfl) ea_nil)) (sl_P_plus hA hB hn hm)) (els_cons (el_call (ea_cons (ev_var rfl) (ea_cons (ev_var rfl) ea_nil)) (sl_P_minus hA hB hn hm))
    (els_cons (el_call (ea_cons (ev_var rfl) (ea_cons (ev_var rfl) ea_nil)) (sl_P_scaled x c hA hn hx hc hxc)) els_nil))) (by simp)) q
theorem sll_L_told {K : PySem.W.Frag} {H : Hp} {a b : Addr} {ns ms : List Int} {m : Int} (x c : Nat) (hA : SqL K H a (ns.map V.int)) (hB : SqL K H b (ms.map V.int)) (hn : ns.length ≤ 20000) (hm : ms.length ≤ 20000) (hx : ∀ y ∈ ns, y.natAbs < 2 ^ x) (hc : m.natAbs < 2 ^ c) (hxc : x + c ≤ 100000000) :
    SpLL (sp_L_told K) [.ref a, .ref b, .int m] H [(plusI ns ms).map V.int, (minusI ns ms).map V.int, (scaledI m ns).map V.int] := fun H1 e Q q E => ⟨a, b, ns, ms, m, x, c, rfl, ex_l e hA, ex_l e hB, hn, hm, hx, hc, hxc, q⟩

-- USES: Lists L_cell_at L_drawn L_trim L_number L_due L_told_k02 L_same P_scaled
def sp_law (K : PySem.W.Frag) : Sp := fun vs H Q _ => ∃ (a : Addr) (ns : List Int), vs = [.ref a] ∧ SqL K H a (ns.map V.int) ∧ RetV (.bl true) H Q
def t_law (K : PySem.W.Frag) : TS :=
  (tSeq (tAsg (tCall (sp_L_cell_at K) [] E0 (tCons (tVar 0) (tCons (tC (.int 0)) tNil))) (gName 1)) (tSeq (tAsg (tCall (sp_L_cell_at K) [] E0 (tCons (tVar 0) (tCons (tC (.int 1)) tNil))) (gName 2)) (tSeq (tAsg (tC (.int 0)) (gName 3)) (tSeq (tIfS (tTest (tOp rEq (tOp oMod (tVar 1) (tC (.int 4))) (tC (.int 1)))) (tAsg (tOp oMod (tOp oDiv (tVar 1) (tC (.int 4))) (tC (.int 101))) (gName 3)) tNext) (tSeq (tAsg (tCall (sp_L_drawn K) [] E0 (tCons (tVar 0) (tCons (tC (.int 3)) (tCons (tOp oMod (tOp oDiv (tVar 1) (tC (.int 4))) (tC (.int 8))) (tCons (tVar 3) tNil))))) (gName 4)) (tSeq (tAsg (tCall (sp_L_drawn K) [] E0 (tCons (tVar 0) (tCons (tC (.int 11)) (tCons (tOp oMod (tOp oDiv (tVar 2) (tC (.int 4))) (tC (.int 8))) (tCons (tC (.int 0)) tNil))))) (gName 5)) (tSeq (tIfS (tTest (tOp rEq (tOp oMod (tVar 2) (tC (.int 4))) (tC (.int 2)))) (tAsg (tCall (sp_L_drawn K) [] E0 (tCons (tVar 0) (tCons (tC (.int 11)) (tCons (tC (.int 0)) (tCons (tOp oMod (tOp oDiv (tVar 2) (tC (.int 4))) (tC (.int 101))) tNil))))) (gName 5)) tNext) (tSeq (tIfS (tTest (tOp rEq (tOp oMod (tVar 2) (tC (.int 4))) (tC (.int 1)))) (tAsg (tCall (sp_L_trim K) [] E0 (tCons (tOp rCat (tSl (rSlL K) (tVar 5) tNoPart (tPart (tOp oMod (tOp oDiv (tVar 2) (tC (.int 32))) (tC (.int 5))))) (tLc (iList K (tSl (rSlL K) (tVar 4) (tPart (tOp oMod (tOp oDiv (tVar 2) (tC (.int 32))) (tC (.int 5)))) tNoPart)) (gName 6) tYes (tUn uNeg (tVar 6)) [6])) tNil)) (gName 5)) tNext) (tSeq (tAsg (tCall (sp_L_number K) [] E0 (tCons (tCall (sp_L_cell_at K) [] E0 (tCons (tVar 0) (tCons (tC (.int 2)) tNil))) tNil)) (gName 6)) (tSeq (tAsg (tCall (sp_L_due K) [] E0 (tCons (tVar 4) (tCons (tVar 5) (tCons (tVar 6) tNil)))) (gName 7)) (tSeq (tAsg (tLst (tCons (tCB (rListS K) (tCons (tVar 4) tNil)) (tCons (tCB (rListS K) (tCons (tVar 5) tNil)) tNil))) (gName 8)) (tSeq (tAsg (tCall (sp_L_told K) [] E0 (tCons (tOp (rIxL K) (tVar 8) (tC (.int 0))) (tCons (tOp (rIxL K) (tVar 8) (tC (.int 1))) (tCons (tVar 6) tNil)))) (gName 9)) (tSeq (tFor (iRng1 (tCons (tC (.int 3)) tNil)) (gName 10) (tSeq (tIfS (tNot (tB (tCall (sp_L_same K) [] E0 (tCons (tOp (rIxL K) (tVar 9) (tVar 10)) (tCons (tOp (rIxL K) (tVar 7) (tVar 10)) tNil))))) (tRet (tC (.bl false))) tNext) (tDrop (tBM K "list" rAppend (tOp (rIxL K) (tVar 9) (tVar 10)) (tCons (tC (.int 7)) tNil))))) (tSeq (tAsg (tCall (sp_L_told K) [] E0 (tCons (tOp (rIxL K) (tVar 8) (tC (.int 0))) (tCons (tOp (rIxL K) (tVar 8) (tC (.int 1))) (tCons (tVar 6) tNil)))) (gName 11)) (tSeq (tFor (iRng1 (tCons (tC (.int 3)) tNil)) (gName 10) (tIfS (tNot (tB (tCall (sp_L_same K) [] E0 (tCons (tOp (rIxL K) (tVar 11) (tVar 10)) (tCons (tOp (rIxL K) (tVar 7) (tVar 10)) tNil))))) (tRet (tC (.bl false))) tNext)) (tRet (tAndV (tCall (sp_L_same K) [] E0 (tCons (tOp (rIxL K) (tVar 8) (tC (.int 0))) (tCons (tVar 4) tNil))) (tCall (sp_L_same K) [] E0 (tCons (tOp (rIxL K) (tVar 8) (tC (.int 1))) (tCons (tVar 5) tNil))))))))))))))))))))
theorem run_law {K : PySem.W.Frag} {vs : List V} {H : Hp} {Q : VK} {E : XK} (h : sp_law K vs H Q E) : t_law K { nx := fun _ H' => Q .non H', rt := Q } (start ["_law_script", "_law_first", "_law_second", "_law_many", "_law_ones", "_law_others", "_law_number_here", "_law_due_here", "_law_handed", "_law_found", "_law_k", "_law_again"] vs) H := by
  obtain ⟨a, ns, rfl, hS, q⟩ := h
  refine q_asg (ev_call (ea_cons (ev_var rfl) (ea_cons ev_c ea_nil)) (sv_L_cell_at 0 hS rfl)) fun H1 e1 => ?_
  refine q_asg (ev_call (ea_cons (ev_var rfl) (ea_cons ev_c ea_nil)) (sv_L_cell_at 1 (ex_l e1 hS) rfl)) fun H2 e2 => q_asg ev_c fun H3 e3 => ?_
  have e13 := (e1.trans e2).trans e3
  generalize cellI ns 0 = first
  generalize cellI ns 1 = second
  refine q_ifAsg (v := .int (((if first % 4 = 1 then (first / 4 % 101).toNat else 0) : Nat) : Int)) (et_test (ev_eqI (ev_mod (ev_var rfl) ev_c (by decide)) ev_c)) (fun hb => ?_) (fun hb => ?_) fun H4 e4 => ?_
  · rw [if_pos (of_decide_eq_true hb), ← (modN (i := first / 4) (j := 101) (by decide)).1]
    exact ev_mod (ev_div (ev_var rfl) ev_c (div_small (by decide) (by decide))) ev_c (by decide)
  · rw [if_neg (of_decide_eq_false hb)]
    rfl
  generalize hm : (if first % 4 = 1 then (first / 4 % 101).toNat else 0) = many
  have hm1 : many ≤ 100 := by
    rw [← hm]
    split
    · have := (modN (i := first / 4) (j := 101) (by decide)).2
      omega
    · omega
  have hs := modN (i := first / 4) (j := 8) (by decide)
  have hs2 := modN (i := second / 4) (j := 8) (by decide)
  have hs3 := modN (i := second / 4) (j := 101) (by decide)
  have hs4 := modN (i := second / 32) (j := 5) (by decide)
  have e14 := e13.trans e4
  refine q_asgL (el_call (ea_cons (ev_var rfl) (ea_cons ev_c (ea_cons (ev_mod (ev_div (ev_var rfl) ev_c (div_small (by decide) (by decide))) ev_c (by decide)) (ea_cons (ev_var rfl) ea_nil)))) (sl_L_drawn 3 (first / 4 % 8).toNat many (ex_l e14 hS) (by omega) (by omega) rfl hs.1 rfl)) fun r H5 nr e5 hr => ?_
  have hl : (drawnI numI ns 3 (first / 4 % 8).toNat many).length ≤ 100 := Nat.le_trans (drawn_len _ _ _ _ _) (by omega)
  have hx : ∀ x ∈ drawnI numI ns 3 (first / 4 % 8).toNat many, x.natAbs < 2 ^ 133 := drawn_lt num_lt _ _ _ _
  generalize drawnI numI ns 3 (first / 4 % 8).toNat many = ones at hr hl hx
  have e15 := e14.trans e5
  refine q_asgL (el_call (ea_cons (ev_var rfl) (ea_cons ev_c (ea_cons (ev_mod (ev_div (ev_var rfl) ev_c (div_small (by decide) (by decide))) ev_c (by decide)) (ea_cons ev_c ea_nil)))) (sl_L_drawn 11 (second / 4 % 8).toNat 0 (ex_l e15 hS) (by omega) (by omega) rfl hs2.1 rfl)) fun r2 H6 nr2 e6 hr2 => ?_
  have hl2 : (drawnI numI ns 11 (second / 4 % 8).toNat 0).length ≤ 100 := Nat.le_trans (drawn_len _ _ _ _ _) (by omega)
  generalize drawnI numI ns 11 (second / 4 % 8).toNat 0 = others0 at hr2 hl2
  refine q_whenAsg (P := fun v H' => ∃ (p : Addr) (ms : List Int), v = .ref p ∧ H' p = some (.lst (ms.map V.int)) ∧ ms.length ≤ 100) (et_test (ev_eqI (ev_mod (ev_var rfl) ev_c (by decide)) ev_c)) (fun hb => ?_) (fun hb => ?_) fun v5 H7 e7 hP => ?_
  · refine (evp_L (el_call (ea_cons (ev_var rfl) (ea_cons ev_c (ea_cons ev_c (ea_cons (ev_mod (ev_div (ev_var rfl) ev_c (div_small (by decide) (by decide))) ev_c (by decide)) ea_nil)))) (sl_L_drawn 11 0 (second / 4 % 101).toNat (ex_l (e15.trans e6) hS) (by omega) (by omega) rfl rfl hs3.1))).imp fun v H1 hP => ?_
    obtain ⟨p, rfl, hp⟩ := hP
    exact ⟨p, _, rfl, hp, Nat.le_trans (drawn_len _ _ _ _ _) (by omega)⟩
  · exact ⟨.ref r2, rfl, fun H1 e1 => ⟨r2, others0, rfl, e1 _ _ hr2, hl2⟩⟩
  obtain ⟨r3, others1, rfl, hr3, hl3⟩ := hP
  have hr7 : H7 r = some (.lst (ones.map V.int)) := (e6.trans e7) _ _ hr
  refine q_whenAsg (P := fun v H' => ∃ (p : Addr) (ms : List Int), v = .ref p ∧ H' p = some (.lst (ms.map V.int)) ∧ ms.length ≤ 200) (et_test (ev_eqI (ev_mod (ev_var rfl) ev_c (by decide)) ev_c)) (fun hb => ?_) (fun hb => ?_) fun v6 H8 e8 hP => ?_
  · refine (evp_L (el_callN (ys := (trimI (others1.take (second / 32 % 5).toNat ++ (ones.drop (second / 32 % 5).toNat).map (fun x => -x))).map V.int) (el_cat (el_take (ev_var rfl) (ev_mod (ev_div (ev_var rfl) ev_c (div_small (by decide) (by decide))) ev_c (by decide)) (sq_of hr3) hs4.1)
      (el_lcNL (fun _ => true) (fun i => .int (- (ones.drop (second / 32 % 5).toNat).getD i 0)) (el_drop (ev_var rfl) (ev_mod (ev_div (ev_var rfl) ev_c (div_small (by decide) (by decide))) ev_c (by decide)) (sq_of hr7) hs4.1) ?_ (fun _ => rfl) (fun i x H1 e1 hi => et_yes) fun i x H1 e1 hi _ => ?_) ?_) fun p H1 h1 e1 => ?_)).imp fun v H1 hP => ?_
    · rw [List.length_map, List.length_drop]
      omega
    · obtain ⟨h1, rfl, h3⟩ := int_at hi
      exact ev_neg (ev_var rfl)
    · rw [given_map (f := fun x => -x), List.length_map, List.length_map, List.length_map, List.length_take, List.length_drop]
      omega
    · refine sl_L_trim (sq_of ?_)
      rw [h1, given_map (f := fun x => -x), List.map_append]
    · obtain ⟨p, rfl, hp⟩ := hP
      refine ⟨p, _, rfl, hp, Nat.le_trans (trim_len _) ?_⟩
      rw [List.length_append, List.length_map, List.length_take, List.length_drop]
      omega
  · exact ⟨.ref r3, rfl, fun H1 e1 => ⟨r3, others1, rfl, e1 _ _ hr3, by omega⟩⟩
  obtain ⟨r4, others, rfl, hr4, hl4⟩ := hP
  have e18 := ((e15.trans e6).trans e7).trans e8
  refine q_asg (ev_call (ea_cons (ev_call (ea_cons (ev_var rfl) (ea_cons ev_c ea_nil)) (sv_L_cell_at 2 (ex_l e18 hS) rfl)) ea_nil) (sv_L_number _)) fun H9 e9 => ?_
  have hn := num_lt (cellI ns 2)
  generalize numI (cellI ns 2) = n at hn
  have hA : SqL K H9 r (ones.map V.int) := sq_of ((e8.trans e9) _ _ hr7)
  have hB : SqL K H9 r4 (others.map V.int) := sq_of (e9 _ _ hr4)
  refine q_asgLL (ell_call (ea_cons (ev_var rfl) (ea_cons (ev_var rfl) (ea_cons (ev_var rfl) ea_nil))) (sll_L_due 133 133 hA hB (by omega) (by omega) hx hn (by omega))) fun d ds H10 nd md e10 nds hd => ?_
  refine q_asgLL (ell_lst (els_cons (el_list (ev_var rfl) (ex_l e10 hA)) (els_cons (el_list (ev_var rfl) (ex_l e10 hB)) els_nil)) (by simp)) fun g gs H11 ng mg e11 ngs hg => ?_
  obtain ⟨g0, hg0⟩ := ngs.at (j := 0) (by simp)
  obtain ⟨g1, hg1⟩ := ngs.at (j := 1) (by simp)
  have hG0 := (ngs.get hg0 rfl).2
  have hG1 := (ngs.get hg1 rfl).2
  refine q_asgLL (ell_call (ea_cons (ev_ixR (j := 0) (ev_var rfl) ev_c hg rfl hg0) (ea_cons (ev_ixR (j := 1) (ev_var rfl) ev_c hg rfl hg1) (ea_cons (ev_var rfl) ea_nil))) (sll_L_told 133 133 (sq_of hG0) (sq_of hG1) (by omega) (by omega) hx hn (by omega))) fun f fs H12 nf mf e12 nfs hf => ?_
  have hts : ∀ {j : Nat} {xs : List V}, [(plusI ones others).map V.int, (minusI ones others).map V.int, (scaledI n ones).map V.int][j]? = some xs → ∃ zs : List Int, xs = zs.map V.int ∧ zs.length ≤ 1000 := by
    intro j xs e
    have h1 := plus_len ones others
    have h2 := minus_len ones others
    have h3 := scaled_len n ones
    rcases j with _ | _ | _ | j
    · exact ⟨plusI ones others, (Option.some.inj e).symm, by omega⟩
    · exact ⟨minusI ones others, (Option.some.inj e).symm, by omega⟩
    · exact ⟨scaledI n ones, (Option.some.inj e).symm, by omega⟩
    · simp at e
  generalize hT : [(plusI ones others).map V.int, (minusI ones others).map V.int, (scaledI n ones).map V.int] = ts at nds nfs hts
  have hT3 : ts.length = 3 := by rw [← hT]; rfl
  have hd11 : ∀ {j : Nat} {p : Addr} {xs : List V}, ds[j]? = some p → ts[j]? = some xs → H11 p = some (.lst xs) := fun e1 e2 => e11 _ _ (nds.get e1 e2).2
  refine q_forR1 (n := 3) (ea_cons ev_c ea_nil) ⟨by decide, by decide⟩ (fun i σ' H' => ∃ y, σ' = [some (.ref a), some (.int first), some (.int second), some (.int (many : Int)), some (.ref r), some (.ref r4), some (.int n), some (.ref d), some (.ref g), some (.ref f), y, none] ∧ Ex H11 H' ∧ H' f = some (.lst (fs.map V.ref)) ∧
    ∀ j p xs, fs[j]? = some p → ts[j]? = some xs → H' p = some (.lst (xs ++ if j < i then [.int 7] else []))) (fun H13 e13 => ⟨none, rfl, e12.trans e13, e13 _ _ hf, fun j p xs h1 h2 => ?_⟩) (fun i σ' H' hi hP => ?_) (fun σ' H' hP => ?_)
  · rw [if_neg (by omega), List.append_nil]
    exact e13 _ _ (nfs.get h1 h2).2
  · obtain ⟨y, rfl, eb, hf', hx'⟩ := hP
    obtain ⟨p, hp⟩ := nfs.at (j := i) (by omega)
    obtain ⟨dp, hdp⟩ := nds.at (j := i) (by omega)
    obtain ⟨xs, hxs⟩ : ∃ xs, ts[i]? = some xs := ⟨ts[i]'(by omega), List.getElem?_eq_getElem _⟩
    obtain ⟨zs, rfl, hz⟩ := hts hxs
    have hpi := hx' i p _ hp hxs
    rw [if_neg (by omega), List.append_nil] at hpi
    have hdi := eb _ _ (hd11 hdp hxs)
    have hdl := eb _ _ (e11 _ _ hd)
    refine q_when (et_not (et_B (ev_call (ea_cons (ev_ixR (ev_var rfl) (ev_var rfl) hf' rfl hp) (ea_cons (ev_ixR (ev_var rfl) (ev_var rfl) hdl rfl hdp) ea_nil)) (sv_L_same hpi (sq_of hdi) (by omega))))) (fun hb H14 e14 => by simp at hb) (fun hb H14 e14 => ?_)
    refine s_app (e14 _ _ hpi) (ev_ixR (ev_var rfl) (ev_var rfl) (e14 _ _ hf') rfl hp) ev_c (by rw [List.length_map]; omega) fun H15 e15 => ⟨_, rfl, ?_, ?_, fun j p2 xs2 h1 h2 => ?_⟩
    · exact Ex.mut ((eb.trans e14).trans e15) (nfs.get hp hxs).1
    · rw [upd_ne (show f ≠ p from fun e => mf (by rw [e]; exact List.mem_of_getElem? hp))]
      exact (e14.trans e15) _ _ hf'
    · by_cases hji : j = i
      · subst hji
        have e1 : p2 = p := Option.some.inj (h1.symm.trans hp)
        have e2 : xs2 = zs.map V.int := Option.some.inj (h2.symm.trans hxs)
        rw [e1, e2, upd_same, if_pos (by omega)]
      · have hne : p2 ≠ p := fun e => by
          subst e
          exact hji (nd_ix nfs.nodup h1 hp)
        rw [upd_ne hne]
        have := (e14.trans e15) _ _ (hx' j p2 xs2 h1 h2)
        rw [this]
        by_cases hj : j < i
        · rw [if_pos hj, if_pos (by omega)]
        · rw [if_neg hj, if_neg (by omega)]
  · obtain ⟨y, rfl, eb, hf', hx'⟩ := hP
    refine q_asgLL (ell_call (ea_cons (ev_ixR (j := 0) (ev_var rfl) ev_c (eb _ _ hg) rfl hg0) (ea_cons (ev_ixR (j := 1) (ev_var rfl) ev_c (eb _ _ hg) rfl hg1) (ea_cons (ev_var rfl) ea_nil))) (sll_L_told 133 133 (sq_of (eb _ _ hG0)) (sq_of (eb _ _ hG1)) (by omega) (by omega) hx hn (by omega))) fun f2 fs2 H14 nf2 mf2 e14 nfs2 hf2 => ?_
    rw [hT] at nfs2
    refine q_forR1 (n := 3) (ea_cons ev_c ea_nil) ⟨by decide, by decide⟩ (fun i σ' H' => ∃ y, σ' = [some (.ref a), some (.int first), some (.int second), some (.int (many : Int)), some (.ref r), some (.ref r4), some (.int n), some (.ref d), some (.ref g), some (.ref f), y, some (.ref f2)] ∧ Ex H14 H')
      (fun H15 e15 => ⟨y, rfl, e15⟩) (fun i σ' H' hi hP => ?_) (fun σ' H' hP => ?_)
    · obtain ⟨y, rfl, eb2⟩ := hP
      obtain ⟨p, hp⟩ := nfs2.at (j := i) (by omega)
      obtain ⟨dp, hdp⟩ := nds.at (j := i) (by omega)
      obtain ⟨xs, hxs⟩ : ∃ xs, ts[i]? = some xs := ⟨ts[i]'(by omega), List.getElem?_eq_getElem _⟩
      obtain ⟨zs, rfl, hz⟩ := hts hxs
      have e3 := (eb.trans e14).trans eb2
      refine s_when (et_not (et_B (ev_call (ea_cons (ev_ixR (ev_var rfl) (ev_var rfl) (eb2 _ _ hf2) rfl hp) (ea_cons (ev_ixR (ev_var rfl) (ev_var rfl) (e3 _ _ (e11 _ _ hd)) rfl hdp) ea_nil)) (sv_L_same (eb2 _ _ (nfs2.get hp hxs).2) (sq_of (e3 _ _ (hd11 hdp hxs))) (by omega))))) (fun hb H14 e14 => by simp at hb) (fun hb H16 e16 => ⟨_, rfl, eb2.trans e16⟩)
    · obtain ⟨y, rfl, eb2⟩ := hP
      have e3 := (eb.trans e14).trans eb2
      refine s_ret (v := .bl true) (ev_is (ev_andV (ev_call (ea_cons (ev_ixR (j := 0) (ev_var rfl) ev_c (e3 _ _ hg) rfl hg0) (ea_cons (ev_var rfl) ea_nil)) (sv_L_same (e3 _ _ hG0) (ex_l (e10.trans (e11.trans e3)) hA) (by omega))) fun _ =>
        ev_call (ea_cons (ev_ixR (j := 1) (ev_var rfl) ev_c (e3 _ _ hg) rfl hg1) (ea_cons (ev_var rfl) ea_nil)) (sv_L_same (e3 _ _ hG1) (ex_l (e10.trans (e11.trans e3)) hB) (by omega))) ?_) fun H16 e16 => q H16 ((e18.trans (e9.trans (e10.trans (e11.trans e3)))).trans e16)
      simp

/-! the text's defs by their places, and their derivations -/
def topS (i : Nat) : Stmt := PySem.Challenge.pw_polyarith_k02_sums.main.body.getD i (.Pass ⟨0, 0, 0, 0⟩)
abbrev s_P_without_end_noughts : Stmt := topS 1
theorem sc_P_without_end_noughts : FnScope ["numbers", "end"] ["numbers"] (defScope s_P_without_end_noughts) := ⟨rfl, rfl, rfl, by decide +kernel, rfl, by decide +kernel, by decide +kernel⟩
abbrev s_P_number_at : Stmt := topS 2
theorem sc_P_number_at : FnScope ["row", "power"] ["row", "power"] (defScope s_P_number_at) := ⟨rfl, rfl, rfl, by decide +kernel, rfl, by decide +kernel, by decide +kernel⟩
abbrev s_P_plus : Stmt := topS 3
theorem sc_P_plus : FnScope ["ones", "others", "powers", "power"] ["ones", "others"] (defScope s_P_plus) := ⟨rfl, rfl, rfl, by decide +kernel, rfl, by decide +kernel, by decide +kernel⟩
abbrev s_P_minus : Stmt := topS 4
theorem sc_P_minus : FnScope ["ones", "others", "powers", "power"] ["ones", "others"] (defScope s_P_minus) := ⟨rfl, rfl, rfl, by decide +kernel, rfl, by decide +kernel, by decide +kernel⟩
abbrev s_P_scaled : Stmt := topS 5
theorem sc_P_scaled : FnScope ["row", "many", "number"] ["row", "many"] (defScope s_P_scaled) := ⟨rfl, rfl, rfl, by decide +kernel, rfl, by decide +kernel, by decide +kernel⟩
abbrev s_L_whole : Stmt := topS 7
theorem sc_L_whole : FnScope ["_law_found"] ["_law_found"] (defScope s_L_whole) := ⟨rfl, rfl, rfl, by decide +kernel, rfl, by decide +kernel, by decide +kernel⟩
abbrev s_L_cell_at : Stmt := topS 8
theorem sc_L_cell_at : FnScope ["_law_script", "_law_k"] ["_law_script", "_law_k"] (defScope s_L_cell_at) := ⟨rfl, rfl, rfl, by decide +kernel, rfl, by decide +kernel, by decide +kernel⟩
abbrev s_L_trim : Stmt := topS 9
theorem sc_L_trim : FnScope ["_law_row", "_law_size"] ["_law_row"] (defScope s_L_trim) := ⟨rfl, rfl, rfl, by decide +kernel, rfl, by decide +kernel, by decide +kernel⟩
abbrev s_L_same : Stmt := topS 10
theorem sc_L_same : FnScope ["_law_found", "_law_due_here", "_law_k"] ["_law_found", "_law_due_here"] (defScope s_L_same) := ⟨rfl, rfl, rfl, by decide +kernel, rfl, by decide +kernel, by decide +kernel⟩
abbrev s_L_number : Stmt := topS 11
theorem sc_L_number : FnScope ["_law_cell"] ["_law_cell"] (defScope s_L_number) := ⟨rfl, rfl, rfl, by decide +kernel, rfl, by decide +kernel, by decide +kernel⟩
abbrev s_L_drawn : Stmt := topS 12
theorem sc_L_drawn : FnScope ["_law_script", "_law_place", "_law_size", "_law_many", "_law_row", "_law_k"] ["_law_script", "_law_place", "_law_size", "_law_many"] (defScope s_L_drawn) := ⟨rfl, rfl, rfl, by decide +kernel, rfl, by decide +kernel, by decide +kernel⟩
abbrev s_L_number_at : Stmt := topS 13
theorem sc_L_number_at : FnScope ["_law_row", "_law_place"] ["_law_row", "_law_place"] (defScope s_L_number_at) := ⟨rfl, rfl, rfl, by decide +kernel, rfl, by decide +kernel, by decide +kernel⟩
abbrev s_L_due : Stmt := topS 14
theorem sc_L_due : FnScope ["_law_ones", "_law_others", "_law_many", "_law_size", "_law_k", "_law_number_here"] ["_law_ones", "_law_others", "_law_many"] (defScope s_L_due) := ⟨rfl, rfl, rfl, by decide +kernel, rfl, by decide +kernel, by decide +kernel⟩
abbrev s_L_told : Stmt := topS 15
theorem sc_L_told : FnScope ["_law_ones", "_law_others", "_law_many"] ["_law_ones", "_law_others", "_law_many"] (defScope s_L_told) := ⟨rfl, rfl, rfl, by decide +kernel, rfl, by decide +kernel, by decide +kernel⟩
abbrev s_law : Stmt := topS 16
theorem sc_law : FnScope ["_law_script", "_law_first", "_law_second", "_law_many", "_law_ones", "_law_others", "_law_number_here", "_law_due_here", "_law_handed", "_law_found", "_law_k", "_law_again"] ["_law_script"] (defScope s_law) := ⟨rfl, rfl, rfl, by decide +kernel, rfl, by decide +kernel, by decide +kernel⟩
section
variable {P : Program} {w : World} {K : PySem.W.Frag} {mg : Str → Option Value} {base : Heap}
theorem ok_P_without_end_noughts {f : Addr} {fd : FuncData} (F : Fun K "_without_end_noughts" "_without_end_noughts" s_P_without_end_noughts f fd)    (m_len : mg "len" = none) (m_list : mg "list" = none) : FnOk P w K mg base CX0 1 f fd ["numbers"] (sp_P_without_end_noughts K) := by
  refine F.ok sc_P_without_end_noughts (fun vs H Q E h => ?_) (fun cdv A outer s H vs Q E hr h => ⟨t_P_without_end_noughts K, ?_, run_P_without_end_noughts  h⟩)
  · first | (obtain ⟨_, rfl, _⟩ := h; rfl) | (obtain ⟨_, _, rfl, _⟩ := h; rfl) | (obtain ⟨_, _, _, rfl, _⟩ := h; rfl) | (obtain ⟨_, _, _, _, rfl, _⟩ := h; rfl) | (obtain ⟨_, _, _, _, _, rfl, _⟩ := h; rfl) | (obtain ⟨_, _, _, _, _, _, rfl, _⟩ := h; rfl) | (obtain ⟨_, _, _, _, _, _, _, rfl, _⟩ := h; rfl) | (obtain ⟨_, _, _, _, _, _, _, _, rfl, _⟩ := h; rfl) | (obtain ⟨_, _, _, _, _, _, _, _, _, rfl, _⟩ := h; rfl) | (obtain ⟨_, _, _, _, _, _, _, _, _, _, rfl, _⟩ := h; rfl) | (obtain ⟨_, _, _, _, _, _, _, _, _, _, _, rfl, _⟩ := h; rfl) | (obtain ⟨_, _, _, _, _, _, _, _, _, _, _, _, rfl, _⟩ := h; rfl) | (obtain ⟨_, _, _, _, _, _, _, _, _, _, _, _, _, rfl, _⟩ := h; rfl)
  · exact (pss_cons (ps_set (i := 1) sc_P_without_end_noughts.nd rfl (Or.inl rfl) (pe_callB call_len_seq (by rfl) m_len PySem.boot_len (pa_cons (pv 0) pa_nil)))
      (pss_cons (ps_while PassesOwn.never (PW.pt (pw_and (pt_cmpR op_gt (pv 1) pe_int (nomark _)) (pw_and1 (pt_cmpR op_eq (pe_ix ix_list (pv 0) (pe_op op_sub (pv 1) pe_int) (fun _ _ => rfl)) pe_int (nomark _))))) (pss_one (ps_aug (i := 1) sc_P_without_end_noughts.nd rfl (Or.inl rfl) pe_int ip_sub)))
      (pss_one (ps_ret (pe_callTy call_list_of (by rfl) m_list (by decide +kernel) (pa_cons (pe_slice sl_list (pv 0) po_none (po_some (pv 1))) pa_nil))))))
theorem ok_P_number_at {f : Addr} {fd : FuncData} (F : Fun K "_number_at" "_number_at" s_P_number_at f fd)    (m_len : mg "len" = none) : FnOk P w K mg base CX0 1 f fd ["row", "power"] (sp_P_number_at K) := by
  refine F.ok sc_P_number_at (fun vs H Q E h => ?_) (fun cdv A outer s H vs Q E hr h => ⟨t_P_number_at K, ?_, run_P_number_at  h⟩)
  · first | (obtain ⟨_, rfl, _⟩ := h; rfl) | (obtain ⟨_, _, rfl, _⟩ := h; rfl) | (obtain ⟨_, _, _, rfl, _⟩ := h; rfl) | (obtain ⟨_, _, _, _, rfl, _⟩ := h; rfl) | (obtain ⟨_, _, _, _, _, rfl, _⟩ := h; rfl) | (obtain ⟨_, _, _, _, _, _, rfl, _⟩ := h; rfl) | (obtain ⟨_, _, _, _, _, _, _, rfl, _⟩ := h; rfl) | (obtain ⟨_, _, _, _, _, _, _, _, rfl, _⟩ := h; rfl) | (obtain ⟨_, _, _, _, _, _, _, _, _, rfl, _⟩ := h; rfl) | (obtain ⟨_, _, _, _, _, _, _, _, _, _, rfl, _⟩ := h; rfl) | (obtain ⟨_, _, _, _, _, _, _, _, _, _, _, rfl, _⟩ := h; rfl) | (obtain ⟨_, _, _, _, _, _, _, _, _, _, _, _, rfl, _⟩ := h; rfl) | (obtain ⟨_, _, _, _, _, _, _, _, _, _, _, _, _, rfl, _⟩ := h; rfl)
  · exact (pss_one (ps_ret (pe_ifExp (pt_cmpR op_lt (pv 1) (pe_callB call_len_seq (by rfl) m_len PySem.boot_len (pa_cons (pv 0) pa_nil)) (nomark _)) (pe_ix ix_list (pv 0) (pv 1) (fun _ _ => rfl)) pe_int)))
theorem ok_P_plus {f : Addr} {fd : FuncData} (F : Fun K "plus" "plus" s_P_plus f fd)   (c_P_number_at : Cl P w K mg base 1 "_number_at" (sp_P_number_at K)) (c_P_without_end_noughts : Cl P w K mg base 1 "_without_end_noughts" (sp_P_without_end_noughts K)) (m_len : mg "len" = none) (m_max : mg "max" = none) (m_range : mg "range" = none) : FnOk P w K mg base CX0 2 f fd ["ones", "others"] (sp_P_plus K) := by
  refine F.ok sc_P_plus (fun vs H Q E h => ?_) (fun cdv A outer s H vs Q E hr h => ⟨t_P_plus K, ?_, run_P_plus  h⟩)
  · first | (obtain ⟨_, rfl, _⟩ := h; rfl) | (obtain ⟨_, _, rfl, _⟩ := h; rfl) | (obtain ⟨_, _, _, rfl, _⟩ := h; rfl) | (obtain ⟨_, _, _, _, rfl, _⟩ := h; rfl) | (obtain ⟨_, _, _, _, _, rfl, _⟩ := h; rfl) | (obtain ⟨_, _, _, _, _, _, rfl, _⟩ := h; rfl) | (obtain ⟨_, _, _, _, _, _, _, rfl, _⟩ := h; rfl) | (obtain ⟨_, _, _, _, _, _, _, _, rfl, _⟩ := h; rfl) | (obtain ⟨_, _, _, _, _, _, _, _, _, rfl, _⟩ := h; rfl) | (obtain ⟨_, _, _, _, _, _, _, _, _, _, rfl, _⟩ := h; rfl) | (obtain ⟨_, _, _, _, _, _, _, _, _, _, _, rfl, _⟩ := h; rfl) | (obtain ⟨_, _, _, _, _, _, _, _, _, _, _, _, rfl, _⟩ := h; rfl) | (obtain ⟨_, _, _, _, _, _, _, _, _, _, _, _, _, rfl, _⟩ := h; rfl)
  · exact (pss_cons (ps_set (i := 2) sc_P_plus.nd rfl (Or.inl rfl) (pe_callTy cr_range1 (by rfl) m_range (by decide +kernel) (pa_cons (pe_callB (call_max2 rfl) (by rfl) m_max (by decide +kernel) (pa_cons (pe_callB call_len_seq (by rfl) m_len PySem.boot_len (pa_cons (pv 0) pa_nil)) (pa_cons (pe_callB call_len_seq (by rfl) m_len PySem.boot_len (pa_cons (pv 1) pa_nil)) pa_nil))) pa_nil)))
      (pss_one (ps_ret (pcl c_P_without_end_noughts hr (by decide) (by rfl) (pa_cons (pe_lc (own := [("power", 3)]) (g := (gName 3)) (by rfl) sc_P_plus.nd (pi_rngV (pv 2)) (blkOk_by (own := [("power", 3)]) (N := ["ones", "others", "powers", "power"]) (sc := defScope s_P_plus) (by decide +kernel)) (fun _ _ _ _ _ => (pg_name (i := 3) sc_P_plus.nd rfl (Or.inl rfl))) (fun _ _ _ _ _ => pts_nil) (fun _ _ _ _ _ => (pe_op op_add (pcl c_P_number_at hr (by decide) (by rfl) (pa_cons (pv 0) (pa_cons (pv 3) pa_nil))) (pcl c_P_number_at hr (by decide) (by rfl) (pa_cons (pv 1) (pa_cons (pv 3) pa_nil)))))) pa_nil)))))
theorem ok_P_minus {f : Addr} {fd : FuncData} (F : Fun K "minus" "minus" s_P_minus f fd)   (c_P_number_at : Cl P w K mg base 1 "_number_at" (sp_P_number_at K)) (c_P_without_end_noughts : Cl P w K mg base 1 "_without_end_noughts" (sp_P_without_end_noughts K)) (m_len : mg "len" = none) (m_max : mg "max" = none) (m_range : mg "range" = none) : FnOk P w K mg base CX0 2 f fd ["ones", "others"] (sp_P_minus K) := by
  refine F.ok sc_P_minus (fun vs H Q E h => ?_) (fun cdv A outer s H vs Q E hr h => ⟨t_P_minus K, ?_, run_P_minus  h⟩)
  · first | (obtain ⟨_, rfl, _⟩ := h; rfl) | (obtain ⟨_, _, rfl, _⟩ := h; rfl) | (obtain ⟨_, _, _, rfl, _⟩ := h; rfl) | (obtain ⟨_, _, _, _, rfl, _⟩ := h; rfl) | (obtain ⟨_, _, _, _, _, rfl, _⟩ := h; rfl) | (obtain ⟨_, _, _, _, _, _, rfl, _⟩ := h; rfl) | (obtain ⟨_, _, _, _, _, _, _, rfl, _⟩ := h; rfl) | (obtain ⟨_, _, _, _, _, _, _, _, rfl, _⟩ := h; rfl) | (obtain ⟨_, _, _, _, _, _, _, _, _, rfl, _⟩ := h; rfl) | (obtain ⟨_, _, _, _, _, _, _, _, _, _, rfl, _⟩ := h; rfl) | (obtain ⟨_, _, _, _, _, _, _, _, _, _, _, rfl, _⟩ := h; rfl) | (obtain ⟨_, _, _, _, _, _, _, _, _, _, _, _, rfl, _⟩ := h; rfl) | (obtain ⟨_, _, _, _, _, _, _, _, _, _, _, _, _, rfl, _⟩ := h; rfl)
  · exact (pss_cons (ps_set (i := 2) sc_P_minus.nd rfl (Or.inl rfl) (pe_callTy cr_range1 (by rfl) m_range (by decide +kernel) (pa_cons (pe_callB (call_max2 rfl) (by rfl) m_max (by decide +kernel) (pa_cons (pe_callB call_len_seq (by rfl) m_len PySem.boot_len (pa_cons (pv 0) pa_nil)) (pa_cons (pe_callB call_len_seq (by rfl) m_len PySem.boot_len (pa_cons (pv 1) pa_nil)) pa_nil))) pa_nil)))
      (pss_one (ps_ret (pcl c_P_without_end_noughts hr (by decide) (by rfl) (pa_cons (pe_lc (own := [("power", 3)]) (g := (gName 3)) (by rfl) sc_P_minus.nd (pi_rngV (pv 2)) (blkOk_by (own := [("power", 3)]) (N := ["ones", "others", "powers", "power"]) (sc := defScope s_P_minus) (by decide +kernel)) (fun _ _ _ _ _ => (pg_name (i := 3) sc_P_minus.nd rfl (Or.inl rfl))) (fun _ _ _ _ _ => pts_nil) (fun _ _ _ _ _ => (pe_op op_sub (pcl c_P_number_at hr (by decide) (by rfl) (pa_cons (pv 0) (pa_cons (pv 3) pa_nil))) (pcl c_P_number_at hr (by decide) (by rfl) (pa_cons (pv 1) (pa_cons (pv 3) pa_nil)))))) pa_nil)))))
theorem ok_P_scaled {f : Addr} {fd : FuncData} (F : Fun K "scaled" "scaled" s_P_scaled f fd)   (c_P_without_end_noughts : Cl P w K mg base 1 "_without_end_noughts" (sp_P_without_end_noughts K))  : FnOk P w K mg base CX0 2 f fd ["row", "many"] (sp_P_scaled K) := by
  refine F.ok sc_P_scaled (fun vs H Q E h => ?_) (fun cdv A outer s H vs Q E hr h => ⟨t_P_scaled K, ?_, run_P_scaled  h⟩)
  · first | (obtain ⟨_, rfl, _⟩ := h; rfl) | (obtain ⟨_, _, rfl, _⟩ := h; rfl) | (obtain ⟨_, _, _, rfl, _⟩ := h; rfl) | (obtain ⟨_, _, _, _, rfl, _⟩ := h; rfl) | (obtain ⟨_, _, _, _, _, rfl, _⟩ := h; rfl) | (obtain ⟨_, _, _, _, _, _, rfl, _⟩ := h; rfl) | (obtain ⟨_, _, _, _, _, _, _, rfl, _⟩ := h; rfl) | (obtain ⟨_, _, _, _, _, _, _, _, rfl, _⟩ := h; rfl) | (obtain ⟨_, _, _, _, _, _, _, _, _, rfl, _⟩ := h; rfl) | (obtain ⟨_, _, _, _, _, _, _, _, _, _, rfl, _⟩ := h; rfl) | (obtain ⟨_, _, _, _, _, _, _, _, _, _, _, rfl, _⟩ := h; rfl) | (obtain ⟨_, _, _, _, _, _, _, _, _, _, _, _, rfl, _⟩ := h; rfl) | (obtain ⟨_, _, _, _, _, _, _, _, _, _, _, _, _, rfl, _⟩ := h; rfl)
  · exact (pss_one (ps_ret (pcl c_P_without_end_noughts hr (by decide) (by rfl) (pa_cons (pe_lc (own := [("number", 2)]) (g := (gName 2)) (by rfl) sc_P_scaled.nd (pi_list (pv 0)) (blkOk_by (own := [("number", 2)]) (N := ["row", "many", "number"]) (sc := defScope s_P_scaled) (by decide +kernel)) (fun _ _ _ _ _ => (pg_name (i := 2) sc_P_scaled.nd rfl (Or.inl rfl))) (fun _ _ _ _ _ => pts_nil) (fun _ _ _ _ _ => (pe_op op_mulX (pv 1) (pv 2)))) pa_nil))))
theorem ok_L_whole {f : Addr} {fd : FuncData} (F : Fun K "_law_whole" "_law_whole" s_L_whole f fd)    (m_bool : mg "bool" = none) (m_int : mg "int" = none) (m_isinstance : mg "isinstance" = none) : FnOk P w K mg base CX0 1 f fd ["_law_found"] (sp_L_whole K) := by
  refine F.ok sc_L_whole (fun vs H Q E h => ?_) (fun cdv A outer s H vs Q E hr h => ⟨t_L_whole K, ?_, run_L_whole  h⟩)
  · first | (obtain ⟨_, rfl, _⟩ := h; rfl) | (obtain ⟨_, _, rfl, _⟩ := h; rfl) | (obtain ⟨_, _, _, rfl, _⟩ := h; rfl) | (obtain ⟨_, _, _, _, rfl, _⟩ := h; rfl) | (obtain ⟨_, _, _, _, _, rfl, _⟩ := h; rfl) | (obtain ⟨_, _, _, _, _, _, rfl, _⟩ := h; rfl) | (obtain ⟨_, _, _, _, _, _, _, rfl, _⟩ := h; rfl) | (obtain ⟨_, _, _, _, _, _, _, _, rfl, _⟩ := h; rfl) | (obtain ⟨_, _, _, _, _, _, _, _, _, rfl, _⟩ := h; rfl) | (obtain ⟨_, _, _, _, _, _, _, _, _, _, rfl, _⟩ := h; rfl) | (obtain ⟨_, _, _, _, _, _, _, _, _, _, _, rfl, _⟩ := h; rfl) | (obtain ⟨_, _, _, _, _, _, _, _, _, _, _, _, rfl, _⟩ := h; rfl) | (obtain ⟨_, _, _, _, _, _, _, _, _, _, _, _, _, rfl, _⟩ := h; rfl)
  · exact (pss_one (ps_ret (pe_and (pe_callB call_isi (by rfl) m_isinstance (by decide +kernel) (pa_cons (pv 0) (pa_cons (pe_bltn (by rfl) m_int (by decide +kernel) rfl) pa_nil))) (pe_one (pe_not (pe_callB call_isi (by rfl) m_isinstance (by decide +kernel) (pa_cons (pv 0) (pa_cons (pe_bltn (by rfl) m_bool (by decide +kernel) rfl) pa_nil))))))))
theorem ok_L_cell_at {f : Addr} {fd : FuncData} (F : Fun K "_law_cell_at" "_law_cell_at" s_L_cell_at f fd)    (m_len : mg "len" = none) : FnOk P w K mg base CX0 1 f fd ["_law_script", "_law_k"] (sp_L_cell_at K) := by
  refine F.ok sc_L_cell_at (fun vs H Q E h => ?_) (fun cdv A outer s H vs Q E hr h => ⟨t_L_cell_at K, ?_, run_L_cell_at  h⟩)
  · first | (obtain ⟨_, rfl, _⟩ := h; rfl) | (obtain ⟨_, _, rfl, _⟩ := h; rfl) | (obtain ⟨_, _, _, rfl, _⟩ := h; rfl) | (obtain ⟨_, _, _, _, rfl, _⟩ := h; rfl) | (obtain ⟨_, _, _, _, _, rfl, _⟩ := h; rfl) | (obtain ⟨_, _, _, _, _, _, rfl, _⟩ := h; rfl) | (obtain ⟨_, _, _, _, _, _, _, rfl, _⟩ := h; rfl) | (obtain ⟨_, _, _, _, _, _, _, _, rfl, _⟩ := h; rfl) | (obtain ⟨_, _, _, _, _, _, _, _, _, rfl, _⟩ := h; rfl) | (obtain ⟨_, _, _, _, _, _, _, _, _, _, rfl, _⟩ := h; rfl) | (obtain ⟨_, _, _, _, _, _, _, _, _, _, _, rfl, _⟩ := h; rfl) | (obtain ⟨_, _, _, _, _, _, _, _, _, _, _, _, rfl, _⟩ := h; rfl) | (obtain ⟨_, _, _, _, _, _, _, _, _, _, _, _, _, rfl, _⟩ := h; rfl)
  · exact (pss_cons (ps_if (pt_cmpR op_lt (pv 1) (pe_callB call_len_seq (by rfl) m_len PySem.boot_len (pa_cons (pv 0) pa_nil)) (nomark _)) (pss_one (ps_ret (pe_ix ix_list (pv 0) (pv 1) (fun _ _ => rfl)))) pss_nil)
      (pss_one (ps_ret pe_int)))
theorem ok_L_trim {f : Addr} {fd : FuncData} (F : Fun K "_law_trim" "_law_trim" s_L_trim f fd)    (m_len : mg "len" = none) : FnOk P w K mg base CX0 1 f fd ["_law_row"] (sp_L_trim K) := by
  refine F.ok sc_L_trim (fun vs H Q E h => ?_) (fun cdv A outer s H vs Q E hr h => ⟨t_L_trim K, ?_, run_L_trim  h⟩)
  · first | (obtain ⟨_, rfl, _⟩ := h; rfl) | (obtain ⟨_, _, rfl, _⟩ := h; rfl) | (obtain ⟨_, _, _, rfl, _⟩ := h; rfl) | (obtain ⟨_, _, _, _, rfl, _⟩ := h; rfl) | (obtain ⟨_, _, _, _, _, rfl, _⟩ := h; rfl) | (obtain ⟨_, _, _, _, _, _, rfl, _⟩ := h; rfl) | (obtain ⟨_, _, _, _, _, _, _, rfl, _⟩ := h; rfl) | (obtain ⟨_, _, _, _, _, _, _, _, rfl, _⟩ := h; rfl) | (obtain ⟨_, _, _, _, _, _, _, _, _, rfl, _⟩ := h; rfl) | (obtain ⟨_, _, _, _, _, _, _, _, _, _, rfl, _⟩ := h; rfl) | (obtain ⟨_, _, _, _, _, _, _, _, _, _, _, rfl, _⟩ := h; rfl) | (obtain ⟨_, _, _, _, _, _, _, _, _, _, _, _, rfl, _⟩ := h; rfl) | (obtain ⟨_, _, _, _, _, _, _, _, _, _, _, _, _, rfl, _⟩ := h; rfl)
  · exact (pss_cons (ps_set (i := 1) sc_L_trim.nd rfl (Or.inl rfl) (pe_callB call_len_seq (by rfl) m_len PySem.boot_len (pa_cons (pv 0) pa_nil)))
      (pss_cons (ps_while PassesOwn.never (PW.pt (pw_and (pt_cmpR op_gt (pv 1) pe_int (nomark _)) (pw_and1 (pt_cmpR op_eq (pe_ix ix_list (pv 0) (pe_op op_sub (pv 1) pe_int) (fun _ _ => rfl)) pe_int (nomark _))))) (pss_one (ps_set (i := 1) sc_L_trim.nd rfl (Or.inl rfl) (pe_op op_sub (pv 1) pe_int))))
      (pss_one (ps_ret (pe_slice sl_list (pv 0) po_none (po_some (pv 1)))))))
theorem ok_L_same {f : Addr} {fd : FuncData} (F : Fun K "_law_same" "_law_same" s_L_same f fd)   (c_L_whole : Cl P w K mg base 1 "_law_whole" (sp_L_whole K)) (m_isinstance : mg "isinstance" = none) (m_len : mg "len" = none) (m_list : mg "list" = none) (m_range : mg "range" = none) : FnOk P w K mg base CX0 2 f fd ["_law_found", "_law_due_here"] (sp_L_same K) := by
  refine F.ok sc_L_same (fun vs H Q E h => ?_) (fun cdv A outer s H vs Q E hr h => ⟨t_L_same K, ?_, run_L_same  h⟩)
  · first | (obtain ⟨_, rfl, _⟩ := h; rfl) | (obtain ⟨_, _, rfl, _⟩ := h; rfl) | (obtain ⟨_, _, _, rfl, _⟩ := h; rfl) | (obtain ⟨_, _, _, _, rfl, _⟩ := h; rfl) | (obtain ⟨_, _, _, _, _, rfl, _⟩ := h; rfl) | (obtain ⟨_, _, _, _, _, _, rfl, _⟩ := h; rfl) | (obtain ⟨_, _, _, _, _, _, _, rfl, _⟩ := h; rfl) | (obtain ⟨_, _, _, _, _, _, _, _, rfl, _⟩ := h; rfl) | (obtain ⟨_, _, _, _, _, _, _, _, _, rfl, _⟩ := h; rfl) | (obtain ⟨_, _, _, _, _, _, _, _, _, _, rfl, _⟩ := h; rfl) | (obtain ⟨_, _, _, _, _, _, _, _, _, _, _, rfl, _⟩ := h; rfl) | (obtain ⟨_, _, _, _, _, _, _, _, _, _, _, _, rfl, _⟩ := h; rfl) | (obtain ⟨_, _, _, _, _, _, _, _, _, _, _, _, _, rfl, _⟩ := h; rfl)
  · exact (pss_cons (ps_if (PW.pt (pw_or (pt_not (pt_val (pe_callB call_isi (by rfl) m_isinstance (by decide +kernel) (pa_cons (pv 0) (pa_cons (pe_bltn (by rfl) m_list (by decide +kernel) rfl) pa_nil))))) (pw_or1 (pt_cmpR op_ne (pe_callB call_len_seq (by rfl) m_len PySem.boot_len (pa_cons (pv 0) pa_nil)) (pe_callB call_len_seq (by rfl) m_len PySem.boot_len (pa_cons (pv 1) pa_nil)) (nomark _))))) (pss_one (ps_ret pe_bl)) pss_nil)
      (pss_cons (ps_for PassesOwn.never rfl (pi_range1 (by rfl) m_range (pa_cons (pe_callB call_len_seq (by rfl) m_len PySem.boot_len (pa_cons (pv 1) pa_nil)) pa_nil)) (pg_name (i := 2) sc_L_same.nd rfl (Or.inl rfl)) (pss_one (ps_if (PW.pt (pw_or (pt_not (pt_val (pcl c_L_whole hr (by decide) (by rfl) (pa_cons (pe_ix ix_list (pv 0) (pv 2) (fun _ _ => rfl)) pa_nil)))) (pw_or1 (pt_cmpR op_ne (pe_ix ix_list (pv 0) (pv 2) (fun _ _ => rfl)) (pe_ix ix_list (pv 1) (pv 2) (fun _ _ => rfl)) (nomark _))))) (pss_one (ps_ret pe_bl)) pss_nil)))
      (pss_one (ps_ret pe_bl))))
theorem ok_L_number {f : Addr} {fd : FuncData} (F : Fun K "_law_number" "_law_number" s_L_number f fd)     : FnOk P w K mg base CX0 1 f fd ["_law_cell"] (sp_L_number K) := by
  refine F.ok sc_L_number (fun vs H Q E h => ?_) (fun cdv A outer s H vs Q E hr h => ⟨t_L_number K, ?_, run_L_number  h⟩)
  · first | (obtain ⟨_, rfl, _⟩ := h; rfl) | (obtain ⟨_, _, rfl, _⟩ := h; rfl) | (obtain ⟨_, _, _, rfl, _⟩ := h; rfl) | (obtain ⟨_, _, _, _, rfl, _⟩ := h; rfl) | (obtain ⟨_, _, _, _, _, rfl, _⟩ := h; rfl) | (obtain ⟨_, _, _, _, _, _, rfl, _⟩ := h; rfl) | (obtain ⟨_, _, _, _, _, _, _, rfl, _⟩ := h; rfl) | (obtain ⟨_, _, _, _, _, _, _, _, rfl, _⟩ := h; rfl) | (obtain ⟨_, _, _, _, _, _, _, _, _, rfl, _⟩ := h; rfl) | (obtain ⟨_, _, _, _, _, _, _, _, _, _, rfl, _⟩ := h; rfl) | (obtain ⟨_, _, _, _, _, _, _, _, _, _, _, rfl, _⟩ := h; rfl) | (obtain ⟨_, _, _, _, _, _, _, _, _, _, _, _, rfl, _⟩ := h; rfl) | (obtain ⟨_, _, _, _, _, _, _, _, _, _, _, _, _, rfl, _⟩ := h; rfl)
  · exact (pss_cons (ps_if (pt_cmpR op_eq (pe_op op_mod (pv 0) pe_int) pe_int (nomark _)) (pss_one (ps_ret pe_int)) pss_nil)
      (pss_cons (ps_if (pt_cmpR op_eq (pe_op op_mod (pv 0) pe_int) pe_int (nomark _)) (pss_one (ps_ret (pe_op op_mulX (pe_op op_sub pe_int (pe_op op_mulX (pe_op op_mod (pe_op op_fdivW (pv 0) pe_int) pe_int) pe_int)) (pe_op op_mod (pe_op op_fdivW (pv 0) pe_int) (pe_op op_pow pe_int pe_int))))) pss_nil)
      (pss_one (ps_ret (pe_op op_sub (pe_op op_mod (pe_op op_fdivW (pv 0) pe_int) pe_int) pe_int)))))
theorem ok_L_drawn {f : Addr} {fd : FuncData} (F : Fun K "_law_drawn" "_law_drawn" s_L_drawn f fd)   (c_L_trim : Cl P w K mg base 1 "_law_trim" (sp_L_trim K)) (c_L_cell_at : Cl P w K mg base 1 "_law_cell_at" (sp_L_cell_at K)) (c_L_number : Cl P w K mg base 1 "_law_number" (sp_L_number K)) (m_range : mg "range" = none) : FnOk P w K mg base CX0 2 f fd ["_law_script", "_law_place", "_law_size", "_law_many"] (sp_L_drawn K) := by
  refine F.ok sc_L_drawn (fun vs H Q E h => ?_) (fun cdv A outer s H vs Q E hr h => ⟨t_L_drawn K, ?_, run_L_drawn  h⟩)
  · first | (obtain ⟨_, rfl, _⟩ := h; rfl) | (obtain ⟨_, _, rfl, _⟩ := h; rfl) | (obtain ⟨_, _, _, rfl, _⟩ := h; rfl) | (obtain ⟨_, _, _, _, rfl, _⟩ := h; rfl) | (obtain ⟨_, _, _, _, _, rfl, _⟩ := h; rfl) | (obtain ⟨_, _, _, _, _, _, rfl, _⟩ := h; rfl) | (obtain ⟨_, _, _, _, _, _, _, rfl, _⟩ := h; rfl) | (obtain ⟨_, _, _, _, _, _, _, _, rfl, _⟩ := h; rfl) | (obtain ⟨_, _, _, _, _, _, _, _, _, rfl, _⟩ := h; rfl) | (obtain ⟨_, _, _, _, _, _, _, _, _, _, rfl, _⟩ := h; rfl) | (obtain ⟨_, _, _, _, _, _, _, _, _, _, _, rfl, _⟩ := h; rfl) | (obtain ⟨_, _, _, _, _, _, _, _, _, _, _, _, rfl, _⟩ := h; rfl) | (obtain ⟨_, _, _, _, _, _, _, _, _, _, _, _, _, rfl, _⟩ := h; rfl)
  · exact (pss_cons (ps_setLc (i := 4) (own := [("_law_k", 5)]) (g := (gName 5)) (by rfl) sc_L_drawn.nd rfl rfl (sw_true rfl rfl rfl (by decide +kernel)) (pi_range1 (by rfl) m_range (pa_cons (pv 2) pa_nil)) (blkOk_by (own := [("_law_k", 5)]) (N := ["_law_script", "_law_place", "_law_size", "_law_many", "_law_row", "_law_k"]) (sc := defScope s_L_drawn) (by decide +kernel)) (fun _ _ _ _ _ => (pg_name (i := 5) sc_L_drawn.nd rfl (Or.inl rfl))) (fun _ _ _ _ _ => pts_nil) (fun _ _ _ _ _ => (pcl c_L_number hr (by decide) (by rfl) (pa_cons (pcl c_L_cell_at hr (by decide) (by rfl) (pa_cons (pv 0) (pa_cons (pe_op op_add (pv 1) (pv 5)) pa_nil))) pa_nil))))
      (pss_cons (ps_if (pt_cmpR op_gt (pv 3) pe_int (nomark _)) (pss_one (ps_setLc (i := 4) (own := [("_law_k", 5)]) (g := (gName 5)) (by rfl) sc_L_drawn.nd rfl rfl (sw_true rfl rfl rfl (by decide +kernel)) (pi_range1 (by rfl) m_range (pa_cons (pv 3) pa_nil)) (blkOk_by (own := [("_law_k", 5)]) (N := ["_law_script", "_law_place", "_law_size", "_law_many", "_law_row", "_law_k"]) (sc := defScope s_L_drawn) (by decide +kernel)) (fun _ _ _ _ _ => (pg_name (i := 5) sc_L_drawn.nd rfl (Or.inl rfl))) (fun _ _ _ _ _ => pts_nil) (fun _ _ _ _ _ => (pcl c_L_number hr (by decide) (by rfl) (pa_cons (pe_op op_add (pe_op op_add (pcl c_L_cell_at hr (by decide) (by rfl) (pa_cons (pv 0) (pa_cons (pv 1) pa_nil))) (pe_op op_mulX (pe_op op_mulX pe_int (pv 5)) (pv 5))) (pe_op op_mulX pe_int (pv 5))) pa_nil))))) pss_nil)
      (pss_one (ps_ret (pcl c_L_trim hr (by decide) (by rfl) (pa_cons (pv 4) pa_nil))))))
theorem ok_L_number_at {f : Addr} {fd : FuncData} (F : Fun K "_law_number_at" "_law_number_at" s_L_number_at f fd)    (m_len : mg "len" = none) : FnOk P w K mg base CX0 1 f fd ["_law_row", "_law_place"] (sp_L_number_at K) := by
  refine F.ok sc_L_number_at (fun vs H Q E h => ?_) (fun cdv A outer s H vs Q E hr h => ⟨t_L_number_at K, ?_, run_L_number_at  h⟩)
  · first | (obtain ⟨_, rfl, _⟩ := h; rfl) | (obtain ⟨_, _, rfl, _⟩ := h; rfl) | (obtain ⟨_, _, _, rfl, _⟩ := h; rfl) | (obtain ⟨_, _, _, _, rfl, _⟩ := h; rfl) | (obtain ⟨_, _, _, _, _, rfl, _⟩ := h; rfl) | (obtain ⟨_, _, _, _, _, _, rfl, _⟩ := h; rfl) | (obtain ⟨_, _, _, _, _, _, _, rfl, _⟩ := h; rfl) | (obtain ⟨_, _, _, _, _, _, _, _, rfl, _⟩ := h; rfl) | (obtain ⟨_, _, _, _, _, _, _, _, _, rfl, _⟩ := h; rfl) | (obtain ⟨_, _, _, _, _, _, _, _, _, _, rfl, _⟩ := h; rfl) | (obtain ⟨_, _, _, _, _, _, _, _, _, _, _, rfl, _⟩ := h; rfl) | (obtain ⟨_, _, _, _, _, _, _, _, _, _, _, _, rfl, _⟩ := h; rfl) | (obtain ⟨_, _, _, _, _, _, _, _, _, _, _, _, _, rfl, _⟩ := h; rfl)
  · exact (pss_cons (ps_if (pt_cmpR op_lt (pv 1) (pe_callB call_len_seq (by rfl) m_len PySem.boot_len (pa_cons (pv 0) pa_nil)) (nomark _)) (pss_one (ps_ret (pe_ix ix_list (pv 0) (pv 1) (fun _ _ => rfl)))) pss_nil)
      (pss_one (ps_ret pe_int)))
theorem ok_L_due {f : Addr} {fd : FuncData} (F : Fun K "_law_due" "_law_due" s_L_due f fd)   (c_L_trim : Cl P w K mg base 1 "_law_trim" (sp_L_trim K)) (c_L_number_at : Cl P w K mg base 1 "_law_number_at" (sp_L_number_at K)) (m_len : mg "len" = none) (m_max : mg "max" = none) (m_range : mg "range" = none) : FnOk P w K mg base CX0 2 f fd ["_law_ones", "_law_others", "_law_many"] (sp_L_due K) := by
  refine F.ok sc_L_due (fun vs H Q E h => ?_) (fun cdv A outer s H vs Q E hr h => ⟨t_L_due K, ?_, run_L_due  h⟩)
  · first | (obtain ⟨_, rfl, _⟩ := h; rfl) | (obtain ⟨_, _, rfl, _⟩ := h; rfl) | (obtain ⟨_, _, _, rfl, _⟩ := h; rfl) | (obtain ⟨_, _, _, _, rfl, _⟩ := h; rfl) | (obtain ⟨_, _, _, _, _, rfl, _⟩ := h; rfl) | (obtain ⟨_, _, _, _, _, _, rfl, _⟩ := h; rfl) | (obtain ⟨_, _, _, _, _, _, _, rfl, _⟩ := h; rfl) | (obtain ⟨_, _, _, _, _, _, _, _, rfl, _⟩ := h; rfl) | (obtain ⟨_, _, _, _, _, _, _, _, _, rfl, _⟩ := h; rfl) | (obtain ⟨_, _, _, _, _, _, _, _, _, _, rfl, _⟩ := h; rfl) | (obtain ⟨_, _, _, _, _, _, _, _, _, _, _, rfl, _⟩ := h; rfl) | (obtain ⟨_, _, _, _, _, _, _, _, _, _, _, _, rfl, _⟩ := h; rfl) | (obtain ⟨_, _, _, _, _, _, _, _, _, _, _, _, _, rfl, _⟩ := h; rfl)
  · exact (pss_cons (ps_set (i := 3) sc_L_due.nd rfl (Or.inl rfl) (pe_callB (call_max2 rfl) (by rfl) m_max (by decide +kernel) (pa_cons (pe_callB call_len_seq (by rfl) m_len PySem.boot_len (pa_cons (pv 0) pa_nil)) (pa_cons (pe_callB call_len_seq (by rfl) m_len PySem.boot_len (pa_cons (pv 1) pa_nil)) pa_nil))))
      (pss_one (ps_ret (pe_lst (pa_cons (pcl c_L_trim hr (by decide) (by rfl) (pa_cons (pe_lc (own := [("_law_k", 4)]) (g := (gName 4)) (by rfl) sc_L_due.nd (pi_range1 (by rfl) m_range (pa_cons (pv 3) pa_nil)) (blkOk_by (own := [("_law_k", 4)]) (N := ["_law_ones", "_law_others", "_law_many", "_law_size", "_law_k", "_law_number_here"]) (sc := defScope s_L_due) (by decide +kernel)) (fun _ _ _ _ _ => (pg_name (i := 4) sc_L_due.nd rfl (Or.inl rfl))) (fun _ _ _ _ _ => pts_nil) (fun _ _ _ _ _ => (pe_op op_add (pcl c_L_number_at hr (by decide) (by rfl) (pa_cons (pv 0) (pa_cons (pv 4) pa_nil))) (pcl c_L_number_at hr (by decide) (by rfl) (pa_cons (pv 1) (pa_cons (pv 4) pa_nil)))))) pa_nil)) (pa_cons (pcl c_L_trim hr (by decide) (by rfl) (pa_cons (pe_lc (own := [("_law_k", 4)]) (g := (gName 4)) (by rfl) sc_L_due.nd (pi_range1 (by rfl) m_range (pa_cons (pv 3) pa_nil)) (blkOk_by (own := [("_law_k", 4)]) (N := ["_law_ones", "_law_others", "_law_many", "_law_size", "_law_k", "_law_number_here"]) (sc := defScope s_L_due) (by decide +kernel)) (fun _ _ _ _ _ => (pg_name (i := 4) sc_L_due.nd rfl (Or.inl rfl))) (fun _ _ _ _ _ => pts_nil) (fun _ _ _ _ _ => (pe_op op_sub (pcl c_L_number_at hr (by decide) (by rfl) (pa_cons (pv 0) (pa_cons (pv 4) pa_nil))) (pcl c_L_number_at hr (by decide) (by rfl) (pa_cons (pv 1) (pa_cons (pv 4) pa_nil)))))) pa_nil)) (pa_cons (pcl c_L_trim hr (by decide) (by rfl) (pa_cons (pe_lc (own := [("_law_number_here", 5)]) (g := (gName 5)) (by rfl) sc_L_due.nd (pi_list (pv 0)) (blkOk_by (own := [("_law_number_here", 5)]) (N := ["_law_ones", "_law_others", "_law_many", "_law_size", "_law_k", "_law_number_here"]) (sc := defScope s_L_due) (by decide +kernel)) (fun _ _ _ _ _ => (pg_name (i := 5) sc_L_due.nd rfl (Or.inl rfl))) (fun _ _ _ _ _ => pts_nil) (fun _ _ _ _ _ => (pe_op op_mulX (pv 2) (pv 5)))) pa_nil)) pa_nil)))))))
theorem ok_L_told {f : Addr} {fd : FuncData} (F : Fun K "_law_told" "_law_told" s_L_told f fd)   (c_P_scaled : Cl P w K mg base 2 "scaled" (sp_P_scaled K)) (c_P_minus : Cl P w K mg base 2 "minus" (sp_P_minus K)) (c_P_plus : Cl P w K mg base 2 "plus" (sp_P_plus K))  : FnOk P w K mg base CX0 3 f fd ["_law_ones", "_law_others", "_law_many"] (sp_L_told K) := by
  refine F.ok sc_L_told (fun vs H Q E h => ?_) (fun cdv A outer s H vs Q E hr h => ⟨t_L_told K, ?_, run_L_told  h⟩)
  · first | (obtain ⟨_, rfl, _⟩ := h; rfl) | (obtain ⟨_, _, rfl, _⟩ := h; rfl) | (obtain ⟨_, _, _, rfl, _⟩ := h; rfl) | (obtain ⟨_, _, _, _, rfl, _⟩ := h; rfl) | (obtain ⟨_, _, _, _, _, rfl, _⟩ := h; rfl) | (obtain ⟨_, _, _, _, _, _, rfl, _⟩ := h; rfl) | (obtain ⟨_, _, _, _, _, _, _, rfl, _⟩ := h; rfl) | (obtain ⟨_, _, _, _, _, _, _, _, rfl, _⟩ := h; rfl) | (obtain ⟨_, _, _, _, _, _, _, _, _, rfl, _⟩ := h; rfl) | (obtain ⟨_, _, _, _, _, _, _, _, _, _, rfl, _⟩ := h; rfl) | (obtain ⟨_, _, _, _, _, _, _, _, _, _, _, rfl, _⟩ := h; rfl) | (obtain ⟨_, _, _, _, _, _, _, _, _, _, _, _, rfl, _⟩ := h; rfl) | (obtain ⟨_, _, _, _, _, _, _, _, _, _, _, _, _, rfl, _⟩ := h; rfl)
  · exact (pss_one (ps_ret (pe_lst (pa_cons (pcl c_P_plus hr (by decide) (by rfl) (pa_cons (pv 0) (pa_cons (pv 1) pa_nil))) (pa_cons (pcl c_P_minus hr (by decide) (by rfl) (pa_cons (pv 0) (pa_cons (pv 1) pa_nil))) (pa_cons (pcl c_P_scaled hr (by decide) (by rfl) (pa_cons (pv 0) (pa_cons (pv 2) pa_nil))) pa_nil))))))
theorem ok_law {f : Addr} {fd : FuncData} (F : Fun K "law" "law" s_law f fd)   (c_L_same : Cl P w K mg base 2 "_law_same" (sp_L_same K)) (c_L_told : Cl P w K mg base 3 "_law_told" (sp_L_told K)) (c_L_due : Cl P w K mg base 2 "_law_due" (sp_L_due K)) (c_L_cell_at : Cl P w K mg base 1 "_law_cell_at" (sp_L_cell_at K)) (c_L_number : Cl P w K mg base 1 "_law_number" (sp_L_number K)) (c_L_trim : Cl P w K mg base 1 "_law_trim" (sp_L_trim K)) (c_L_drawn : Cl P w K mg base 2 "_law_drawn" (sp_L_drawn K)) (m_list : mg "list" = none) (m_range : mg "range" = none) : FnOk P w K mg base CX0 4 f fd ["_law_script"] (sp_law K) := by
  refine F.ok sc_law (fun vs H Q E h => ?_) (fun cdv A outer s H vs Q E hr h => ⟨t_law K, ?_, run_law  h⟩)
  · first | (obtain ⟨_, rfl, _⟩ := h; rfl) | (obtain ⟨_, _, rfl, _⟩ := h; rfl) | (obtain ⟨_, _, _, rfl, _⟩ := h; rfl) | (obtain ⟨_, _, _, _, rfl, _⟩ := h; rfl) | (obtain ⟨_, _, _, _, _, rfl, _⟩ := h; rfl) | (obtain ⟨_, _, _, _, _, _, rfl, _⟩ := h; rfl) | (obtain ⟨_, _, _, _, _, _, _, rfl, _⟩ := h; rfl) | (obtain ⟨_, _, _, _, _, _, _, _, rfl, _⟩ := h; rfl) | (obtain ⟨_, _, _, _, _, _, _, _, _, rfl, _⟩ := h; rfl) | (obtain ⟨_, _, _, _, _, _, _, _, _, _, rfl, _⟩ := h; rfl) | (obtain ⟨_, _, _, _, _, _, _, _, _, _, _, rfl, _⟩ := h; rfl) | (obtain ⟨_, _, _, _, _, _, _, _, _, _, _, _, rfl, _⟩ := h; rfl) | (obtain ⟨_, _, _, _, _, _, _, _, _, _, _, _, _, rfl, _⟩ := h; rfl)
  · exact (pss_cons (ps_set (i := 1) sc_law.nd rfl (Or.inl rfl) (pcl c_L_cell_at hr (by decide) (by rfl) (pa_cons (pv 0) (pa_cons pe_int pa_nil))))
      (pss_cons (ps_set (i := 2) sc_law.nd rfl (Or.inl rfl) (pcl c_L_cell_at hr (by decide) (by rfl) (pa_cons (pv 0) (pa_cons pe_int pa_nil))))
      (pss_cons (ps_set (i := 3) sc_law.nd rfl (Or.inl rfl) pe_int)
      (pss_cons (ps_if (pt_cmpR op_eq (pe_op op_mod (pv 1) pe_int) pe_int (nomark _)) (pss_one (ps_set (i := 3) sc_law.nd rfl (Or.inl rfl) (pe_op op_mod (pe_op op_fdivW (pv 1) pe_int) pe_int))) pss_nil)
      (pss_cons (ps_set (i := 4) sc_law.nd rfl (Or.inl rfl) (pcl c_L_drawn hr (by decide) (by rfl) (pa_cons (pv 0) (pa_cons pe_int (pa_cons (pe_op op_mod (pe_op op_fdivW (pv 1) pe_int) pe_int) (pa_cons (pv 3) pa_nil))))))
      (pss_cons (ps_set (i := 5) sc_law.nd rfl (Or.inl rfl) (pcl c_L_drawn hr (by decide) (by rfl) (pa_cons (pv 0) (pa_cons pe_int (pa_cons (pe_op op_mod (pe_op op_fdivW (pv 2) pe_int) pe_int) (pa_cons pe_int pa_nil))))))
      (pss_cons (ps_if (pt_cmpR op_eq (pe_op op_mod (pv 2) pe_int) pe_int (nomark _)) (pss_one (ps_set (i := 5) sc_law.nd rfl (Or.inl rfl) (pcl c_L_drawn hr (by decide) (by rfl) (pa_cons (pv 0) (pa_cons pe_int (pa_cons pe_int (pa_cons (pe_op op_mod (pe_op op_fdivW (pv 2) pe_int) pe_int) pa_nil))))))) pss_nil)
      (pss_cons (ps_if (pt_cmpR op_eq (pe_op op_mod (pv 2) pe_int) pe_int (nomark _)) (pss_one (ps_set (i := 5) sc_law.nd rfl (Or.inl rfl) (pcl c_L_trim hr (by decide) (by rfl) (pa_cons (pe_op op_cat (pe_slice sl_list (pv 5) po_none (po_some (pe_op op_mod (pe_op op_fdivW (pv 2) pe_int) pe_int))) (pe_lc (own := [("_law_number_here", 6)]) (g := (gName 6)) (by rfl) sc_law.nd (pi_list (pe_slice sl_list (pv 4) (po_some (pe_op op_mod (pe_op op_fdivW (pv 2) pe_int) pe_int)) po_none)) (blkOk_by (own := [("_law_number_here", 6)]) (N := ["_law_script", "_law_first", "_law_second", "_law_many", "_law_ones", "_law_others", "_law_number_here", "_law_due_here", "_law_handed", "_law_found", "_law_k", "_law_again"]) (sc := defScope s_law) (by decide +kernel)) (fun _ _ _ _ _ => (pg_name (i := 6) sc_law.nd rfl (Or.inl rfl))) (fun _ _ _ _ _ => pts_nil) (fun _ _ _ _ _ => (pe_un un_neg (pv 6))))) pa_nil)))) pss_nil)
      (pss_cons (ps_set (i := 6) sc_law.nd rfl (Or.inl rfl) (pcl c_L_number hr (by decide) (by rfl) (pa_cons (pcl c_L_cell_at hr (by decide) (by rfl) (pa_cons (pv 0) (pa_cons pe_int pa_nil))) pa_nil)))
      (pss_cons (ps_set (i := 7) sc_law.nd rfl (Or.inl rfl) (pcl c_L_due hr (by decide) (by rfl) (pa_cons (pv 4) (pa_cons (pv 5) (pa_cons (pv 6) pa_nil)))))
      (pss_cons (ps_set (i := 8) sc_law.nd rfl (Or.inl rfl) (pe_lst (pa_cons (pe_callTy call_list_of (by rfl) m_list (by decide +kernel) (pa_cons (pv 4) pa_nil)) (pa_cons (pe_callTy call_list_of (by rfl) m_list (by decide +kernel) (pa_cons (pv 5) pa_nil)) pa_nil))))
      (pss_cons (ps_set (i := 9) sc_law.nd rfl (Or.inl rfl) (pcl c_L_told hr (by decide) (by rfl) (pa_cons (pe_ix ix_list (pv 8) pe_int (fun _ _ => rfl)) (pa_cons (pe_ix ix_list (pv 8) pe_int (fun _ _ => rfl)) (pa_cons (pv 6) pa_nil)))))
      (pss_cons (ps_for PassesOwn.never rfl (pi_range1 (by rfl) m_range (pa_cons pe_int pa_nil)) (pg_name (i := 10) sc_law.nd rfl (Or.inl rfl)) (pss_cons (ps_if (pt_not (pt_val (pcl c_L_same hr (by decide) (by rfl) (pa_cons (pe_ix ix_list (pv 9) (pv 10) (fun _ _ => rfl)) (pa_cons (pe_ix ix_list (pv 7) (pv 10) (fun _ _ => rfl)) pa_nil))))) (pss_one (ps_ret pe_bl)) pss_nil)
      (pss_one (ps_expr (pe_bm PySem.F.plainAttrs_list PySem.F.slot_list_append PySem.F.type_list_append mt_append (pe_ix ix_list (pv 9) (pv 10) (fun _ _ => rfl)) (pa_cons pe_int pa_nil))))))
      (pss_cons (ps_set (i := 11) sc_law.nd rfl (Or.inl rfl) (pcl c_L_told hr (by decide) (by rfl) (pa_cons (pe_ix ix_list (pv 8) pe_int (fun _ _ => rfl)) (pa_cons (pe_ix ix_list (pv 8) pe_int (fun _ _ => rfl)) (pa_cons (pv 6) pa_nil)))))
      (pss_cons (ps_for PassesOwn.never rfl (pi_range1 (by rfl) m_range (pa_cons pe_int pa_nil)) (pg_name (i := 10) sc_law.nd rfl (Or.inl rfl)) (pss_one (ps_if (pt_not (pt_val (pcl c_L_same hr (by decide) (by rfl) (pa_cons (pe_ix ix_list (pv 11) (pv 10) (fun _ _ => rfl)) (pa_cons (pe_ix ix_list (pv 7) (pv 10) (fun _ _ => rfl)) pa_nil))))) (pss_one (ps_ret pe_bl)) pss_nil)))
      (pss_one (ps_ret (pe_and (pcl c_L_same hr (by decide) (by rfl) (pa_cons (pe_ix ix_list (pv 8) pe_int (fun _ _ => rfl)) (pa_cons (pv 4) pa_nil))) (pe_one (pcl c_L_same hr (by decide) (by rfl) (pa_cons (pe_ix ix_list (pv 8) pe_int (fun _ _ => rfl)) (pa_cons (pv 5) pa_nil))))))))))))))))))))))
end
theorem all_mk {l : PySem.W.OpenLaw} {w : World} {K : PySem.W.Frag} {h : Heap} {mg : Str → Option Value} {fa f_P_without_end_noughts f_P_number_at f_P_plus f_P_minus f_P_scaled f_L_whole f_L_cell_at f_L_trim f_L_same f_L_number f_L_drawn f_L_number_at f_L_due f_L_told f_law  : Addr} (X : K.In h) (G : h.Ns mainGlobals mg) (hfa : mg "law" = some (.ref fa))
    {od_P_without_end_noughts an_P_without_end_noughts : Option Addr} {sl_P_without_end_noughts : Array (Option Value)} {oc_P_without_end_noughts kV_P_without_end_noughts dc_P_without_end_noughts pm_P_without_end_noughts cd_P_without_end_noughts ct_P_without_end_noughts : Value}
    {od_P_number_at an_P_number_at : Option Addr} {sl_P_number_at : Array (Option Value)} {oc_P_number_at kV_P_number_at dc_P_number_at pm_P_number_at cd_P_number_at ct_P_number_at : Value}
    {od_P_plus an_P_plus : Option Addr} {sl_P_plus : Array (Option Value)} {oc_P_plus kV_P_plus dc_P_plus pm_P_plus cd_P_plus ct_P_plus : Value}
    {od_P_minus an_P_minus : Option Addr} {sl_P_minus : Array (Option Value)} {oc_P_minus kV_P_minus dc_P_minus pm_P_minus cd_P_minus ct_P_minus : Value}
    {od_P_scaled an_P_scaled : Option Addr} {sl_P_scaled : Array (Option Value)} {oc_P_scaled kV_P_scaled dc_P_scaled pm_P_scaled cd_P_scaled ct_P_scaled : Value}
    {od_L_whole an_L_whole : Option Addr} {sl_L_whole : Array (Option Value)} {oc_L_whole kV_L_whole dc_L_whole pm_L_whole cd_L_whole ct_L_whole : Value}
    {od_L_cell_at an_L_cell_at : Option Addr} {sl_L_cell_at : Array (Option Value)} {oc_L_cell_at kV_L_cell_at dc_L_cell_at pm_L_cell_at cd_L_cell_at ct_L_cell_at : Value}
    {od_L_trim an_L_trim : Option Addr} {sl_L_trim : Array (Option Value)} {oc_L_trim kV_L_trim dc_L_trim pm_L_trim cd_L_trim ct_L_trim : Value}
    {od_L_same an_L_same : Option Addr} {sl_L_same : Array (Option Value)} {oc_L_same kV_L_same dc_L_same pm_L_same cd_L_same ct_L_same : Value}
    {od_L_number an_L_number : Option Addr} {sl_L_number : Array (Option Value)} {oc_L_number kV_L_number dc_L_number pm_L_number cd_L_number ct_L_number : Value}
    {od_L_drawn an_L_drawn : Option Addr} {sl_L_drawn : Array (Option Value)} {oc_L_drawn kV_L_drawn dc_L_drawn pm_L_drawn cd_L_drawn ct_L_drawn : Value}
    {od_L_number_at an_L_number_at : Option Addr} {sl_L_number_at : Array (Option Value)} {oc_L_number_at kV_L_number_at dc_L_number_at pm_L_number_at cd_L_number_at ct_L_number_at : Value}
    {od_L_due an_L_due : Option Addr} {sl_L_due : Array (Option Value)} {oc_L_due kV_L_due dc_L_due pm_L_due cd_L_due ct_L_due : Value}
    {od_L_told an_L_told : Option Addr} {sl_L_told : Array (Option Value)} {oc_L_told kV_L_told dc_L_told pm_L_told cd_L_told ct_L_told : Value}
    {od_law an_law : Option Addr} {sl_law : Array (Option Value)} {oc_law kV_law dc_law pm_law cd_law ct_law : Value}
    (a_P_without_end_noughts : PySem.W.nsIn K mainGlobals "_without_end_noughts" = some (some (.ref f_P_without_end_noughts))) (l_P_without_end_noughts : K.lookup f_P_without_end_noughts = some ⟨oc_P_without_end_noughts, od_P_without_end_noughts, .func (PySem.W.fnOf "_without_end_noughts" "_without_end_noughts" (defArgs s_P_without_end_noughts) (defBody s_P_without_end_noughts) (defScope s_P_without_end_noughts) .none kV_P_without_end_noughts dc_P_without_end_noughts pm_P_without_end_noughts an_P_without_end_noughts cd_P_without_end_noughts ct_P_without_end_noughts), sl_P_without_end_noughts⟩) (e_P_without_end_noughts : PySem.W.codeIn K cd_P_without_end_noughts "_without_end_noughts" = true) (k_P_without_end_noughts : PySem.W.keepIn K (.ref f_P_without_end_noughts) = true)
    (a_P_number_at : PySem.W.nsIn K mainGlobals "_number_at" = some (some (.ref f_P_number_at))) (l_P_number_at : K.lookup f_P_number_at = some ⟨oc_P_number_at, od_P_number_at, .func (PySem.W.fnOf "_number_at" "_number_at" (defArgs s_P_number_at) (defBody s_P_number_at) (defScope s_P_number_at) .none kV_P_number_at dc_P_number_at pm_P_number_at an_P_number_at cd_P_number_at ct_P_number_at), sl_P_number_at⟩) (e_P_number_at : PySem.W.codeIn K cd_P_number_at "_number_at" = true) (k_P_number_at : PySem.W.keepIn K (.ref f_P_number_at) = true)
    (a_P_plus : PySem.W.nsIn K mainGlobals "plus" = some (some (.ref f_P_plus))) (l_P_plus : K.lookup f_P_plus = some ⟨oc_P_plus, od_P_plus, .func (PySem.W.fnOf "plus" "plus" (defArgs s_P_plus) (defBody s_P_plus) (defScope s_P_plus) .none kV_P_plus dc_P_plus pm_P_plus an_P_plus cd_P_plus ct_P_plus), sl_P_plus⟩) (e_P_plus : PySem.W.codeIn K cd_P_plus "plus" = true) (k_P_plus : PySem.W.keepIn K (.ref f_P_plus) = true)
    (a_P_minus : PySem.W.nsIn K mainGlobals "minus" = some (some (.ref f_P_minus))) (l_P_minus : K.lookup f_P_minus = some ⟨oc_P_minus, od_P_minus, .func (PySem.W.fnOf "minus" "minus" (defArgs s_P_minus) (defBody s_P_minus) (defScope s_P_minus) .none kV_P_minus dc_P_minus pm_P_minus an_P_minus cd_P_minus ct_P_minus), sl_P_minus⟩) (e_P_minus : PySem.W.codeIn K cd_P_minus "minus" = true) (k_P_minus : PySem.W.keepIn K (.ref f_P_minus) = true)
    (a_P_scaled : PySem.W.nsIn K mainGlobals "scaled" = some (some (.ref f_P_scaled))) (l_P_scaled : K.lookup f_P_scaled = some ⟨oc_P_scaled, od_P_scaled, .func (PySem.W.fnOf "scaled" "scaled" (defArgs s_P_scaled) (defBody s_P_scaled) (defScope s_P_scaled) .none kV_P_scaled dc_P_scaled pm_P_scaled an_P_scaled cd_P_scaled ct_P_scaled), sl_P_scaled⟩) (e_P_scaled : PySem.W.codeIn K cd_P_scaled "scaled" = true) (k_P_scaled : PySem.W.keepIn K (.ref f_P_scaled) = true)
    (a_L_whole : PySem.W.nsIn K mainGlobals "_law_whole" = some (some (.ref f_L_whole))) (l_L_whole : K.lookup f_L_whole = some ⟨oc_L_whole, od_L_whole, .func (PySem.W.fnOf "_law_whole" "_law_whole" (defArgs s_L_whole) (defBody s_L_whole) (defScope s_L_whole) .none kV_L_whole dc_L_whole pm_L_whole an_L_whole cd_L_whole ct_L_whole), sl_L_whole⟩) (e_L_whole : PySem.W.codeIn K cd_L_whole "_law_whole" = true) (k_L_whole : PySem.W.keepIn K (.ref f_L_whole) = true)
    (a_L_cell_at : PySem.W.nsIn K mainGlobals "_law_cell_at" = some (some (.ref f_L_cell_at))) (l_L_cell_at : K.lookup f_L_cell_at = some ⟨oc_L_cell_at, od_L_cell_at, .func (PySem.W.fnOf "_law_cell_at" "_law_cell_at" (defArgs s_L_cell_at) (defBody s_L_cell_at) (defScope s_L_cell_at) .none kV_L_cell_at dc_L_cell_at pm_L_cell_at an_L_cell_at cd_L_cell_at ct_L_cell_at), sl_L_cell_at⟩) (e_L_cell_at : PySem.W.codeIn K cd_L_cell_at "_law_cell_at" = true) (k_L_cell_at : PySem.W.keepIn K (.ref f_L_cell_at) = true)
    (a_L_trim : PySem.W.nsIn K mainGlobals "_law_trim" = some (some (.ref f_L_trim))) (l_L_trim : K.lookup f_L_trim = some ⟨oc_L_trim, od_L_trim, .func (PySem.W.fnOf "_law_trim" "_law_trim" (defArgs s_L_trim) (defBody s_L_trim) (defScope s_L_trim) .none kV_L_trim dc_L_trim pm_L_trim an_L_trim cd_L_trim ct_L_trim), sl_L_trim⟩) (e_L_trim : PySem.W.codeIn K cd_L_trim "_law_trim" = true) (k_L_trim : PySem.W.keepIn K (.ref f_L_trim) = true)
    (a_L_same : PySem.W.nsIn K mainGlobals "_law_same" = some (some (.ref f_L_same))) (l_L_same : K.lookup f_L_same = some ⟨oc_L_same, od_L_same, .func (PySem.W.fnOf "_law_same" "_law_same" (defArgs s_L_same) (defBody s_L_same) (defScope s_L_same) .none kV_L_same dc_L_same pm_L_same an_L_same cd_L_same ct_L_same), sl_L_same⟩) (e_L_same : PySem.W.codeIn K cd_L_same "_law_same" = true) (k_L_same : PySem.W.keepIn K (.ref f_L_same) = true)
    (a_L_number : PySem.W.nsIn K mainGlobals "_law_number" = some (some (.ref f_L_number))) (l_L_number : K.lookup f_L_number = some ⟨oc_L_number, od_L_number, .func (PySem.W.fnOf "_law_number" "_law_number" (defArgs s_L_number) (defBody s_L_number) (defScope s_L_number) .none kV_L_number dc_L_number pm_L_number an_L_number cd_L_number ct_L_number), sl_L_number⟩) (e_L_number : PySem.W.codeIn K cd_L_number "_law_number" = true) (k_L_number : PySem.W.keepIn K (.ref f_L_number) = true)
    (a_L_drawn : PySem.W.nsIn K mainGlobals "_law_drawn" = some (some (.ref f_L_drawn))) (l_L_drawn : K.lookup f_L_drawn = some ⟨oc_L_drawn, od_L_drawn, .func (PySem.W.fnOf "_law_drawn" "_law_drawn" (defArgs s_L_drawn) (defBody s_L_drawn) (defScope s_L_drawn) .none kV_L_drawn dc_L_drawn pm_L_drawn an_L_drawn cd_L_drawn ct_L_drawn), sl_L_drawn⟩) (e_L_drawn : PySem.W.codeIn K cd_L_drawn "_law_drawn" = true) (k_L_drawn : PySem.W.keepIn K (.ref f_L_drawn) = true)
    (a_L_number_at : PySem.W.nsIn K mainGlobals "_law_number_at" = some (some (.ref f_L_number_at))) (l_L_number_at : K.lookup f_L_number_at = some ⟨oc_L_number_at, od_L_number_at, .func (PySem.W.fnOf "_law_number_at" "_law_number_at" (defArgs s_L_number_at) (defBody s_L_number_at) (defScope s_L_number_at) .none kV_L_number_at dc_L_number_at pm_L_number_at an_L_number_at cd_L_number_at ct_L_number_at), sl_L_number_at⟩) (e_L_number_at : PySem.W.codeIn K cd_L_number_at "_law_number_at" = true) (k_L_number_at : PySem.W.keepIn K (.ref f_L_number_at) = true)
    (a_L_due : PySem.W.nsIn K mainGlobals "_law_due" = some (some (.ref f_L_due))) (l_L_due : K.lookup f_L_due = some ⟨oc_L_due, od_L_due, .func (PySem.W.fnOf "_law_due" "_law_due" (defArgs s_L_due) (defBody s_L_due) (defScope s_L_due) .none kV_L_due dc_L_due pm_L_due an_L_due cd_L_due ct_L_due), sl_L_due⟩) (e_L_due : PySem.W.codeIn K cd_L_due "_law_due" = true) (k_L_due : PySem.W.keepIn K (.ref f_L_due) = true)
    (a_L_told : PySem.W.nsIn K mainGlobals "_law_told" = some (some (.ref f_L_told))) (l_L_told : K.lookup f_L_told = some ⟨oc_L_told, od_L_told, .func (PySem.W.fnOf "_law_told" "_law_told" (defArgs s_L_told) (defBody s_L_told) (defScope s_L_told) .none kV_L_told dc_L_told pm_L_told an_L_told cd_L_told ct_L_told), sl_L_told⟩) (e_L_told : PySem.W.codeIn K cd_L_told "_law_told" = true) (k_L_told : PySem.W.keepIn K (.ref f_L_told) = true)
    (a_law : PySem.W.nsIn K mainGlobals "law" = some (some (.ref f_law))) (l_law : K.lookup f_law = some ⟨oc_law, od_law, .func (PySem.W.fnOf "law" "law" (defArgs s_law) (defBody s_law) (defScope s_law) .none kV_law dc_law pm_law an_law cd_law ct_law), sl_law⟩) (e_law : PySem.W.codeIn K cd_law "law" = true) (k_law : PySem.W.keepIn K (.ref f_law) = true)
    (z_bool : PySem.W.nsIn K mainGlobals "bool" = some none)
    (z_int : PySem.W.nsIn K mainGlobals "int" = some none)
    (z_isinstance : PySem.W.nsIn K mainGlobals "isinstance" = some none)
    (z_len : PySem.W.nsIn K mainGlobals "len" = some none)
    (z_list : PySem.W.nsIn K mainGlobals "list" = some none)
    (z_max : PySem.W.nsIn K mainGlobals "max" = some none)
    (z_range : PySem.W.nsIn K mainGlobals "range" = some none)
    : ∃ fd : FuncData, (∀ (s : Shared) (v : Value), BindsTo s fd ⟨[v], []⟩ [("_law_script", v)]) ∧ ∀ base : Heap, K.In base → base.Ns mainGlobals mg → FnOk l.prog w K mg base CX0 4 fa fd ["_law_script"] (sp_law K) := by
  have e := hfa.symm.trans (PySem.W.mg_of X G a_law)
  cases e
  have F_P_without_end_noughts := fun_mk (st := s_P_without_end_noughts) l_P_without_end_noughts e_P_without_end_noughts k_P_without_end_noughts
  have b_P_without_end_noughts := F_P_without_end_noughts.binds (ps := ["numbers"]) fun _ _ _ _ _ _ us hl => match us, hl with | [_], _ => rfl
  have F_P_number_at := fun_mk (st := s_P_number_at) l_P_number_at e_P_number_at k_P_number_at
  have b_P_number_at := F_P_number_at.binds (ps := ["row", "power"]) fun _ _ _ _ _ _ us hl => match us, hl with | [_, _], _ => rfl
  have F_P_plus := fun_mk (st := s_P_plus) l_P_plus e_P_plus k_P_plus
  have b_P_plus := F_P_plus.binds (ps := ["ones", "others"]) fun _ _ _ _ _ _ us hl => match us, hl with | [_, _], _ => rfl
  have F_P_minus := fun_mk (st := s_P_minus) l_P_minus e_P_minus k_P_minus
  have b_P_minus := F_P_minus.binds (ps := ["ones", "others"]) fun _ _ _ _ _ _ us hl => match us, hl with | [_, _], _ => rfl
  have F_P_scaled := fun_mk (st := s_P_scaled) l_P_scaled e_P_scaled k_P_scaled
  have b_P_scaled := F_P_scaled.binds (ps := ["row", "many"]) fun _ _ _ _ _ _ us hl => match us, hl with | [_, _], _ => rfl
  have F_L_whole := fun_mk (st := s_L_whole) l_L_whole e_L_whole k_L_whole
  have b_L_whole := F_L_whole.binds (ps := ["_law_found"]) fun _ _ _ _ _ _ us hl => match us, hl with | [_], _ => rfl
  have F_L_cell_at := fun_mk (st := s_L_cell_at) l_L_cell_at e_L_cell_at k_L_cell_at
  have b_L_cell_at := F_L_cell_at.binds (ps := ["_law_script", "_law_k"]) fun _ _ _ _ _ _ us hl => match us, hl with | [_, _], _ => rfl
  have F_L_trim := fun_mk (st := s_L_trim) l_L_trim e_L_trim k_L_trim
  have b_L_trim := F_L_trim.binds (ps := ["_law_row"]) fun _ _ _ _ _ _ us hl => match us, hl with | [_], _ => rfl
  have F_L_same := fun_mk (st := s_L_same) l_L_same e_L_same k_L_same
  have b_L_same := F_L_same.binds (ps := ["_law_found", "_law_due_here"]) fun _ _ _ _ _ _ us hl => match us, hl with | [_, _], _ => rfl
  have F_L_number := fun_mk (st := s_L_number) l_L_number e_L_number k_L_number
  have b_L_number := F_L_number.binds (ps := ["_law_cell"]) fun _ _ _ _ _ _ us hl => match us, hl with | [_], _ => rfl
  have F_L_drawn := fun_mk (st := s_L_drawn) l_L_drawn e_L_drawn k_L_drawn
  have b_L_drawn := F_L_drawn.binds (ps := ["_law_script", "_law_place", "_law_size", "_law_many"]) fun _ _ _ _ _ _ us hl => match us, hl with | [_, _, _, _], _ => rfl
  have F_L_number_at := fun_mk (st := s_L_number_at) l_L_number_at e_L_number_at k_L_number_at
  have b_L_number_at := F_L_number_at.binds (ps := ["_law_row", "_law_place"]) fun _ _ _ _ _ _ us hl => match us, hl with | [_, _], _ => rfl
  have F_L_due := fun_mk (st := s_L_due) l_L_due e_L_due k_L_due
  have b_L_due := F_L_due.binds (ps := ["_law_ones", "_law_others", "_law_many"]) fun _ _ _ _ _ _ us hl => match us, hl with | [_, _, _], _ => rfl
  have F_L_told := fun_mk (st := s_L_told) l_L_told e_L_told k_L_told
  have b_L_told := F_L_told.binds (ps := ["_law_ones", "_law_others", "_law_many"]) fun _ _ _ _ _ _ us hl => match us, hl with | [_, _, _], _ => rfl
  have F_law := fun_mk (st := s_law) l_law e_law k_law
  refine ⟨PySem.W.fnOf "law" "law" (defArgs s_law) (defBody s_law) (defScope s_law) .none kV_law dc_law pm_law an_law cd_law ct_law, fun s v => .of_eq rfl, fun base _ _ => ?_⟩
  have m_bool := PySem.W.mg_none_of X G z_bool
  have m_int := PySem.W.mg_none_of X G z_int
  have m_isinstance := PySem.W.mg_none_of X G z_isinstance
  have m_len := PySem.W.mg_none_of X G z_len
  have m_list := PySem.W.mg_none_of X G z_list
  have m_max := PySem.W.mg_none_of X G z_max
  have m_range := PySem.W.mg_none_of X G z_range
  have c_P_without_end_noughts : Cl l.prog w K mg base 1 "_without_end_noughts" (sp_P_without_end_noughts K) := ⟨f_P_without_end_noughts, _, _, ok_P_without_end_noughts F_P_without_end_noughts m_len m_list, PySem.W.mg_of X G a_P_without_end_noughts, k_P_without_end_noughts, b_P_without_end_noughts⟩
  have c_P_number_at : Cl l.prog w K mg base 1 "_number_at" (sp_P_number_at K) := ⟨f_P_number_at, _, _, ok_P_number_at F_P_number_at m_len, PySem.W.mg_of X G a_P_number_at, k_P_number_at, b_P_number_at⟩
  have c_P_plus : Cl l.prog w K mg base 2 "plus" (sp_P_plus K) := ⟨f_P_plus, _, _, ok_P_plus F_P_plus c_P_number_at c_P_without_end_noughts m_len m_max m_range, PySem.W.mg_of X G a_P_plus, k_P_plus, b_P_plus⟩
  have c_P_minus : Cl l.prog w K mg base 2 "minus" (sp_P_minus K) := ⟨f_P_minus, _, _, ok_P_minus F_P_minus c_P_number_at c_P_without_end_noughts m_len m_max m_range, PySem.W.mg_of X G a_P_minus, k_P_minus, b_P_minus⟩
  have c_P_scaled : Cl l.prog w K mg base 2 "scaled" (sp_P_scaled K) := ⟨f_P_scaled, _, _, ok_P_scaled F_P_scaled c_P_without_end_noughts, PySem.W.mg_of X G a_P_scaled, k_P_scaled, b_P_scaled⟩
  have c_L_whole : Cl l.prog w K mg base 1 "_law_whole" (sp_L_whole K) := ⟨f_L_whole, _, _, ok_L_whole F_L_whole m_bool m_int m_isinstance, PySem.W.mg_of X G a_L_whole, k_L_whole, b_L_whole⟩
  have c_L_cell_at : Cl l.prog w K mg base 1 "_law_cell_at" (sp_L_cell_at K) := ⟨f_L_cell_at, _, _, ok_L_cell_at F_L_cell_at m_len, PySem.W.mg_of X G a_L_cell_at, k_L_cell_at, b_L_cell_at⟩
  have c_L_trim : Cl l.prog w K mg base 1 "_law_trim" (sp_L_trim K) := ⟨f_L_trim, _, _, ok_L_trim F_L_trim m_len, PySem.W.mg_of X G a_L_trim, k_L_trim, b_L_trim⟩
  have c_L_same : Cl l.prog w K mg base 2 "_law_same" (sp_L_same K) := ⟨f_L_same, _, _, ok_L_same F_L_same c_L_whole m_isinstance m_len m_list m_range, PySem.W.mg_of X G a_L_same, k_L_same, b_L_same⟩
  have c_L_number : Cl l.prog w K mg base 1 "_law_number" (sp_L_number K) := ⟨f_L_number, _, _, ok_L_number F_L_number, PySem.W.mg_of X G a_L_number, k_L_number, b_L_number⟩
  have c_L_drawn : Cl l.prog w K mg base 2 "_law_drawn" (sp_L_drawn K) := ⟨f_L_drawn, _, _, ok_L_drawn F_L_drawn c_L_trim c_L_cell_at c_L_number m_range, PySem.W.mg_of X G a_L_drawn, k_L_drawn, b_L_drawn⟩
  have c_L_number_at : Cl l.prog w K mg base 1 "_law_number_at" (sp_L_number_at K) := ⟨f_L_number_at, _, _, ok_L_number_at F_L_number_at m_len, PySem.W.mg_of X G a_L_number_at, k_L_number_at, b_L_number_at⟩
  have c_L_due : Cl l.prog w K mg base 2 "_law_due" (sp_L_due K) := ⟨f_L_due, _, _, ok_L_due F_L_due c_L_trim c_L_number_at m_len m_max m_range, PySem.W.mg_of X G a_L_due, k_L_due, b_L_due⟩
  have c_L_told : Cl l.prog w K mg base 3 "_law_told" (sp_L_told K) := ⟨f_L_told, _, _, ok_L_told F_L_told c_P_scaled c_P_minus c_P_plus, PySem.W.mg_of X G a_L_told, k_L_told, b_L_told⟩
  exact ok_law (P := l.prog) (w := w) (base := base) F_law c_L_same c_L_told c_L_due c_L_cell_at c_L_number c_L_trim c_L_drawn m_list m_range
end PP
open PySem PySem.W PyProof.Rows
set_option maxHeartbeats 0 in
theorem PySem.Challenge.cw_polyarith_k02_sums_holds : PySem.Challenge.rw_polyarith_k02_sums.Holds := by
  w_on; o_law; k_head; (case hw => w_witness2)
  k_fill
  refine L2.walk_of (l := PySem.Challenge.rw_polyarith_k02_sums) (n := 63) (k := 4) (x := "_law_script") (CX := fun _ => L2.CX0) (sp := fun w => PP.sp_law _) rfl (by decide) rfl ⟨rfl, by decide, by decide⟩ (fun w h Y => PySem.W.kIn_of Y) ?F (fun _ _ a ns hl _ hS => ⟨a, ns, rfl, hS, fun _ _ => rfl⟩) (fun _ _ _ _ _ h => h)
  case F =>
    intro w mg fa h KX G hmg
    refine' PP.all_mk KX G hmg ?a_P_without_end_noughts ?l_P_without_end_noughts ?e_P_without_end_noughts ?k_P_without_end_noughts ?a_P_number_at ?l_P_number_at ?e_P_number_at ?k_P_number_at ?a_P_plus ?l_P_plus ?e_P_plus ?k_P_plus ?a_P_minus ?l_P_minus ?e_P_minus ?k_P_minus ?a_P_scaled ?l_P_scaled ?e_P_scaled ?k_P_scaled ?a_L_whole ?l_L_whole ?e_L_whole ?k_L_whole ?a_L_cell_at ?l_L_cell_at ?e_L_cell_at ?k_L_cell_at ?a_L_trim ?l_L_trim ?e_L_trim ?k_L_trim ?a_L_same ?l_L_same ?e_L_same ?k_L_same ?a_L_number ?l_L_number ?e_L_number ?k_L_number ?a_L_drawn ?l_L_drawn ?e_L_drawn ?k_L_drawn ?a_L_number_at ?l_L_number_at ?e_L_number_at ?k_L_number_at ?a_L_due ?l_L_due ?e_L_due ?k_L_due ?a_L_told ?l_L_told ?e_L_told ?k_L_told ?a_law ?l_law ?e_law ?k_law ?z_bool ?z_int ?z_isinstance ?z_len ?z_list ?z_max ?z_range
    (case a_P_without_end_noughts => k_is); (case l_P_without_end_noughts => k_is); (case e_P_without_end_noughts => k_is); (case k_P_without_end_noughts => k_is); (case a_P_number_at => k_is); (case l_P_number_at => k_is); (case e_P_number_at => k_is); (case k_P_number_at => k_is); (case a_P_plus => k_is); (case l_P_plus => k_is); (case e_P_plus => k_is); (case k_P_plus => k_is); (case a_P_minus => k_is); (case l_P_minus => k_is); (case e_P_minus => k_is); (case k_P_minus => k_is); (case a_P_scaled => k_is); (case l_P_scaled => k_is); (case e_P_scaled => k_is); (case k_P_scaled => k_is); (case a_L_whole => k_is); (case l_L_whole => k_is); (case e_L_whole => k_is); (case k_L_whole => k_is); (case a_L_cell_at => k_is); (case l_L_cell_at => k_is); (case e_L_cell_at => k_is); (case k_L_cell_at => k_is); (case a_L_trim => k_is); (case l_L_trim => k_is); (case e_L_trim => k_is); (case k_L_trim => k_is); (case a_L_same => k_is); (case l_L_same => k_is); (case e_L_same => k_is); (case k_L_same => k_is); (case a_L_number => k_is); (case l_L_number => k_is); (case e_L_number => k_is); (case k_L_number => k_is); (case a_L_drawn => k_is); (case l_L_drawn => k_is); (case e_L_drawn => k_is); (case k_L_drawn => k_is); (case a_L_number_at => k_is); (case l_L_number_at => k_is); (case e_L_number_at => k_is); (case k_L_number_at => k_is); (case a_L_due => k_is); (case l_L_due => k_is); (case e_L_due => k_is); (case k_L_due => k_is); (case a_L_told => k_is); (case l_L_told => k_is); (case e_L_told => k_is); (case k_L_told => k_is); (case a_law => k_is); (case l_law => k_is); (case e_law => k_is); (case k_law => k_is); (case z_bool => k_is); (case z_int => k_is); (case z_isinstance => k_is); (case z_len => k_is); (case z_list => k_is); (case z_max => k_is); (case z_range => k_is)
