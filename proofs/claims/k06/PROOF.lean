import PyProof.Rows.All
import Wide.All
import OpenK.AllK
import Wide.FinOn
import HandS.ForMost
import HandS.ForExc
import HandS.Evl
import HandS.Wide
import HandS.WideBits
import HandS.IsInst
import HandS.Gcd
import HandS.Deep
import HandS.ExcIs
import HandS.TryMany
import HandS.RaiseMore
import HandS.FStr
import HandS.TupAny
import KE.GoesMore
import PySem.Challenge.RW_polyarith_k06_content
set_option Elab.async false
set_option linter.all false
set_option maxRecDepth 100000
set_option maxHeartbeats 4000000
/-! Pre: short words over the hand layer: operators' readings by name, rules for what evaluates, promises of pure defs. -/
namespace PP
open PySem PySem.Spec PyProof.Rows L2 Evl

/-! ### operators by short names -/
abbrev oAdd : R2 := rI0 fun i j => .int (i + j)
abbrev oSub : R2 := rI0 fun i j => .int (i - j)
abbrev oMul : R2 := rI CMulX fun i j => .int (i * j)
abbrev oDiv : R2 := rI CDivW fun i j => .int (i / j)
abbrev oMod : R2 := rI (fun _ j => 0 < j) fun i j => .int (i % j)
abbrev oPow : R2 := rI CPow fun i j => .int (i ^ j.toNat)
abbrev oLt : R2 := rI0 fun i j => .bl (decide (i < j))
abbrev oLe : R2 := rI0 fun i j => .bl (decide (i ≤ j))
abbrev oGt : R2 := rI0 fun i j => .bl (decide (j < i))
abbrev oGe : R2 := rI0 fun i j => .bl (decide (j ≤ i))
abbrev uNeg : V → Hp → VK → Prop := rU fun i => .int (-i)
abbrev rAbs : List V → Hp → VK → Prop := fun xs H Q => ∃ i, xs = [.int i] ∧ Q (.int (if i < 0 then -i else i)) H
abbrev rMin2 : List V → Hp → VK → Prop := fun xs H Q => ∃ i j, xs = [.int i, .int j] ∧ Q (.int (if j < i then j else i)) H

/-! ### a def that is called by its name -/
structure Cl (P : Program) (w : World) (K : PySem.W.Frag) (mg : Str → Option Value) (base : Heap) (k : Nat) (x : Str) (sp : Sp) : Prop where
  ex : ∃ (f : Addr) (fd : FuncData) (ps : List Str), FnOk P w K mg base CX0 k f fd ps sp ∧ mg x = some (.ref f) ∧ PySem.W.keepIn K (.ref f) = true ∧ Binds K fd ps []
section
variable {X : Cx} {k j : Nat} {x : Str} {sp : Sp} {p pos : Pos} {e : Expr} {es : List Expr} {t : TA}
theorem pcl (c : Cl X.prog X.w X.K X.mg X.base k x sp) (hr : Room j X.A) (hk : k ≤ j) (hg : Gl X x) (ha : PA X (e :: es) t)
    (hdb : (x == ("__debug__" : Str)) = false := by decide) (he : starEach (e :: es) X.env = (false, eval e X.env) :: starEach es X.env := by rfl) (hpl : (backTo pos (starEach es X.env)).any (·.1) = false := by rfl) :
    PE X (.Call (.Name x p) (e :: es) [] pos) (tCall sp [] E0 t) := by
  obtain ⟨f, fd, ps, F, hm, kp, b⟩ := c.ex
  exact pe_call F (hr.mono hk) hg hm kp b .nil pass0 ha hdb he hpl
end

/-! ### more of what evaluates -/
section
variable {K : PySem.W.Frag} {σ : L2.St} {H H' : Hp} {ta tb te tx : TE} {t u : TT} {x y z v : V} {r : R2}
/-- what a value satisfies behind: the general form -/
def EvP (te : TE) (σ : L2.St) (H : Hp) (P : V → Hp → Prop) : Prop := ∀ H1, Ex H H1 → ∀ Q : VK, (∀ v H2, Ex H1 H2 → P v H2 → Q v H2) → te σ H1 Q
theorem ev_abs {i : Int} (ha : Ev ta σ H (.int i)) : Ev (tCB rAbs (tCons ta tNil)) σ H (.int (if i < 0 then -i else i)) := fun H1 e Q q =>
  ha H1 e _ fun H2 e2 => ⟨i, rfl, q H2 e2⟩
theorem ev_min2 {i j : Int} (ha : Ev ta σ H (.int i)) (hb : Ev tb σ H (.int j)) : Ev (tCB rMin2 (tCons ta (tCons tb tNil))) σ H (.int (if j < i then j else i)) := fun H1 e Q q =>
  ha H1 e _ fun H2 e2 => hb H2 (e.trans e2) _ fun H3 e3 => ⟨i, j, rfl, q H3 (e2.trans e3)⟩
/-- isinstance(x, T), both built in -/
theorem tyx_ex {K : PySem.W.Frag} {T : String} {a : Addr} {xs : List V} (e : Ex H H') (h : H a = some (.lst xs)) : TyX K H' (.ref a) (.type "list") := .base (.lst (e _ _ h))
theorem ev_isinst {T U : String} {b : Bool} (ha : Ev ta σ H x) (ty : ∀ H1, Ex H H1 → TyX K H1 x (.type T)) (hb : kitB T U = some b) : Ev (tCB (rIsi K) (tCons ta (tCons (tC (.ty U)) tNil))) σ H (.bl b) := fun H1 e Q q =>
  ha H1 e _ fun H2 e2 => ⟨x, .ty U, .type T, .type U, b, rfl, .ty U, ty H2 (e.trans e2), kit_ty hb, q H2 e2⟩
theorem ty_int {K : PySem.W.Frag} {i : Int} : ∀ H1, Ex H H1 → TyX K H1 (.int i) (.type "int") := fun _ _ => .base (.int i)
theorem ty_lst {K : PySem.W.Frag} {a : Addr} {xs : List V} (h : H a = some (.lst xs)) : ∀ H1, Ex H H1 → TyX K H1 (.ref a) (.type "list") := fun _ e => .base (.lst (e _ _ h))
theorem ty_tup {K : PySem.W.Frag} {a : Addr} {xs : List V} (h : H a = some (.tup xs)) : ∀ H1, Ex H H1 → TyX K H1 (.ref a) (.type "tuple") := fun _ e => .base (.tup (e _ _ h))
/-- products, quotients with their conditions -/
theorem ev_mul {i j : Int} (ha : Ev ta σ H (.int i)) (hb : Ev tb σ H (.int j)) (hc : CMulX i j) : Ev (tOp oMul ta tb) σ H (.int (i * j)) := ev_op ha hb (rv_I hc)
theorem ev_div {i j : Int} (ha : Ev ta σ H (.int i)) (hb : Ev tb σ H (.int j)) (hc : CDivW i j) : Ev (tOp oDiv ta tb) σ H (.int (i / j)) := ev_op ha hb (rv_I hc)
theorem ev_mod {i j : Int} (ha : Ev ta σ H (.int i)) (hb : Ev tb σ H (.int j)) (hc : 0 < j) : Ev (tOp oMod ta tb) σ H (.int (i % j)) := ev_op ha hb (rv_I hc)
theorem ev_pow {i j : Int} (ha : Ev ta σ H (.int i)) (hb : Ev tb σ H (.int j)) (hc : CPow i j) : Ev (tOp oPow ta tb) σ H (.int (i ^ j.toNat)) := ev_op ha hb (rv_I hc)
theorem ev_neg {i : Int} (ha : Ev ta σ H (.int i)) : Ev (tUn uNeg ta) σ H (.int (-i)) := ev_un ha ru_neg
theorem ev_add {i j : Int} (ha : Ev ta σ H (.int i)) (hb : Ev tb σ H (.int j)) : Ev (tOp oAdd ta tb) σ H (.int (i + j)) := ev_op ha hb rv_I0
theorem ev_sub {i j : Int} (ha : Ev ta σ H (.int i)) (hb : Ev tb σ H (.int j)) : Ev (tOp oSub ta tb) σ H (.int (i - j)) := ev_op ha hb rv_I0
theorem ev_lt {i j : Int} (ha : Ev ta σ H (.int i)) (hb : Ev tb σ H (.int j)) : Ev (tOp oLt ta tb) σ H (.bl (decide (i < j))) := ev_op ha hb rv_I0
theorem ev_le {i j : Int} (ha : Ev ta σ H (.int i)) (hb : Ev tb σ H (.int j)) : Ev (tOp oLe ta tb) σ H (.bl (decide (i ≤ j))) := ev_op ha hb rv_I0
theorem ev_gt {i j : Int} (ha : Ev ta σ H (.int i)) (hb : Ev tb σ H (.int j)) : Ev (tOp oGt ta tb) σ H (.bl (decide (j < i))) := ev_op ha hb rv_I0
theorem ev_ge {i j : Int} (ha : Ev ta σ H (.int i)) (hb : Ev tb σ H (.int j)) : Ev (tOp oGe ta tb) σ H (.bl (decide (j ≤ i))) := ev_op ha hb rv_I0
theorem ev_eqI {i j : Int} (ha : Ev ta σ H (.int i)) (hb : Ev tb σ H (.int j)) : Ev (tOp rEq ta tb) σ H (.bl (decide (i = j))) := by
  have h := ev_op ha hb (rv_eq (x := .int i) (y := .int j) rfl)
  have e : decide ((V.int i) = V.int j) = decide (i = j) := by
    by_cases h : i = j
    · subst h
      simp
    · simp [h]
  rw [e] at h
  exact h
theorem ev_neI {i j : Int} (ha : Ev ta σ H (.int i)) (hb : Ev tb σ H (.int j)) : Ev (tOp rNe ta tb) σ H (.bl (!decide (i = j))) := by
  have h := ev_op ha hb (rv_ne (x := .int i) (y := .int j) rfl)
  have e : decide ((V.int i) = V.int j) = decide (i = j) := by
    by_cases h : i = j
    · subst h
      simp
    · simp [h]
  rw [e] at h
  exact h
/-- an item of a list of ints -/
theorem ev_ixI {p : Addr} {ns : List Int} {i : Int} {j : Nat} (ha : Ev ta σ H (.ref p)) (hb : Ev tb σ H (.int i)) (h : SqL K H p (ns.map V.int)) (hi : i = (j : Int)) (hj : j < ns.length) : Ev (tOp (rIxL K) ta tb) σ H (.int (ns.getD j 0)) := by
  refine ev_op ha hb (rv_ixL h ?_)
  subst hi
  refine atI_nat ?_
  rw [List.getElem?_map, List.getElem?_eq_getElem hj, List.getD_eq_getElem?_getD, List.getElem?_eq_getElem hj]
  rfl
end

/-! ### ranges as values, an item of a list changed by an operator -/
section
variable {X : Cx}
def rRng1 : List V → Hp → VK → Prop := fun vs H Q => ∃ i : Int, vs = [.int i] ∧ ∀ p, H p = none → Q (.ref p) (upd H p (.rng 0 i))
theorem cr_range1 : CallR X (.type "range") rRng1 := by
  intro pins s σ H vs us Q I r h
  obtain ⟨i, rfl, q⟩ := h
  obtain ⟨u1, rfl, ri⟩ := vals1 r
  obtain ⟨t, rfl⟩ := ri
  refine call_range_1 ⟨.ref s.heap.objs.size, upd H s.heap.objs.size (.rng 0 i), I.laid (t' := s.toks + 1 + 1) (fun b o e => Heap.get?_push_of_some _ e) (Nat.le_refl _) ?_, rfl, q _ (I.hok.fresh (Nat.le_refl _))⟩
  exact ⟨s.toks, t, s.toks + 1, Heap.get?_push_size _ rfl⟩
def iRngV (tl : TE) : TI := fun σ H R => tl σ H fun x H1 => ∃ a lo hi, x = .ref a ∧ H1 a = some (.rng lo hi) ∧ (-(2 ^ 62) ≤ lo ∧ lo < 2 ^ 62 ∧ -(2 ^ 62) ≤ hi ∧ hi < 2 ^ 62) ∧ R (Itr lo (hi - lo).toNat) H1
theorem pi_rngV {tg l : Expr} {tl : TE} (hl : PE X l tl) : PI X tg l (iRngV tl) := by
  refine ⟨fun pins s σ H R I h => ?_⟩
  refine thn (hl.run pins s σ H _ I h) fun v s1 ⟨x, H1, I1, r1, q1⟩ => ?_
  obtain ⟨a, lo, hi, e, ha, ⟨q1, q2, q3, q4⟩, q⟩ := q1
  subst e
  cases r1
  obtain ⟨t, u, v, ho⟩ := (show ObjOk X.prog X.w H1 s1.heap a (.rng lo hi) from I1.hok a _ ha)
  refine wpAny_pyIter_range ho (small_one q1 q2 q3 q4) ?_
  refine ⟨s1.heap.objs.size, [s1.heap.objs.size], _, _, H1, rfl, I1.kept (t' := s1.toks) fun b o e => Heap.get?_push_of_some _ e, turn_range _ lo (hi - lo).toNat, ?_, fun b hb => ?_, q⟩
  · have e1 : lo + ((0 : Nat) : Int) * 1 = lo := by simp
    have e2 : (((hi - lo).toNat : Nat) : Int) - ((0 : Nat) : Int) = Builtin.Range.rangeSize lo hi 1 := by rw [rangeSize_one]; split <;> omega
    show IsRangeIter _ _ (lo + ((0 : Nat) : Int) * 1) ((((hi - lo).toNat : Nat) : Int) - ((0 : Nat) : Int)) 1
    rw [e1, e2]
    exact Heap.get?_push_size _ rfl
  · have e : b = s1.heap.objs.size := by simpa using hb
    subst e
    exact I1.fpOk (Nat.le_refl _) (I1.hok.fresh (Nat.le_refl _))
def rGetL : V → V → Hp → VK → Prop := fun o i H Q => ∃ p xs k v, o = .ref p ∧ i = .int k ∧ H p = some (.lst xs) ∧ 0 ≤ k ∧ xs[k.toNat]? = some v ∧ Q v H
theorem get_list : PGet X rGetL := by
  intro pins s σ H o i ov iv Q I ro ri h
  obtain ⟨p, xs, k, z, rfl, rfl, hp, h0, he, q⟩ := h
  cases ro
  obtain ⟨t, rfl⟩ := ri
  obtain ⟨its, r, pl, hz⟩ := I.list (.inl (.inl hp))
  obtain ⟨w, ew, rw'⟩ := r.get he
  have hn := line63
  have hj : k.toNat < xs.length := (List.getElem?_eq_some_iff.mp he).1
  exact wpAny_getItem_list pl.isList h0 (by omega) (by simpa using ew) ⟨z, H, I, rw', q⟩
end
/-! ### new objects of any kind; new lists as arguments; lists of new lists -/
section
variable {K : PySem.W.Frag} {σ : L2.St} {H H' : Hp} {ta tb te tx : TE} {t u : TT} {x y z v : V} {r : R2} {D : Ends} {tu tw tz : TS}
def EvN (te : TE) (σ : L2.St) (H : Hp) (o : HO) : Prop := ∀ H1, Ex H H1 → ∀ Q : VK, (∀ p H2, H1 p = none → Ex H1 H2 → H2 p = some o → Q (.ref p) H2) → te σ H1 Q
theorem q_asgN {i : Nat} {o : HO} (h : EvN te σ H o) (k : ∀ p H1, H p = none → Ex H H1 → H1 p = some o → tz D (σ.set i (some (.ref p))) H1) : tSeq (tAsg te (gName i)) tz D σ H := h H (Ex.refl H) _ fun p H1 hp e h1 => k p H1 hp e h1
theorem en_range1 {n : Int} (ha : Ev ta σ H (.int n)) : EvN (tCB rRng1 (tCons ta tNil)) σ H (.rng 0 n) := fun H1 e Q q =>
  ha H1 e _ fun H2 e2 => ⟨n, rfl, fun p hp => q p _ (fresh_back e2 hp) (e2.trans (Ex.new hp)) upd_same⟩
theorem el_lcRV {a : Addr} {tl : TE} {j : Nat} {vs : List Nat} {n : Int} (f : Nat → Bool) (v : Nat → V) (h : Ev tl σ H (.ref a)) (hr : H a = some (.rng 0 n)) (hn : 0 ≤ n ∧ n ≤ 40000) (hw : ∀ x, wipe ((wipe σ vs).set j (some x)) vs = wipe σ vs)
    (ht : ∀ (i : Nat) H1, Ex H H1 → (i : Int) < n → EvT t ((wipe σ vs).set j (some (.int (i : Int)))) H1 (f i)) (he : ∀ (i : Nat) H1, Ex H H1 → (i : Int) < n → f i = true → Ev te ((wipe σ vs).set j (some (.int (i : Int)))) H1 (v i)) :
    EvL (tLc (iRngV tl) (gName j) t te vs) σ H (given n.toNat f v) := fun H0 e Q q => h H0 e _ fun H1 e1 => ⟨a, 0, n, rfl, (e.trans e1) _ _ hr, ⟨by omega, by omega, by omega, by omega⟩, fun Dl hD => by
  rw [Int.sub_zero]
  exact lc_range (lo := 0) (n := n.toNat) (Cw H1 f v Dl) ⟨hD, Ex.new hD, upd_same⟩ (fun i H' hi p => by
    have e0 : (0 : Int) + (i : Int) = (i : Int) := Int.zero_add _
    show wipe ((wipe σ vs).set j (some (.int ((0 : Int) + (i : Int))))) vs = wipe σ vs ∧ t ((wipe σ vs).set j (some (.int ((0 : Int) + (i : Int))))) H' fun b H3 => if b = true then te ((wipe σ vs).set j (some (.int ((0 : Int) + (i : Int))))) H3 fun y H4 => ∃ acc, H4 Dl = some (.lst acc) ∧ acc.length < sizeLine ∧ Cw H1 f v Dl (i + 1) (upd H4 Dl (.lst (acc ++ [y]))) else Cw H1 f v Dl (i + 1) H3
    rw [e0]
    exact ⟨hw _, cw_turn p (by omega) (ht i H1 (e.trans e1) (by omega)) (fun hf => he i H1 (e.trans e1) (by omega) hf)⟩) (fun H' p => q Dl H' (fresh_back e1 p.1) (e1.trans p.2.1) p.2.2)⟩
/-- calls whose one argument is a new list -/
theorem el_callN {sp : Sp} {E : XK} {xs ys : List V} (h : EvL te σ H xs) (hs : ∀ p H1, H1 p = some (.lst xs) → Ex H H1 → SpL sp [.ref p] H1 ys) : EvL (tCall sp [] E (tCons te tNil)) σ H ys := fun H1 e Q q =>
  h H1 e _ fun p H2 hp e2 h2 => hs p H2 h2 (e.trans e2) H2 (Ex.refl H2) Q (fun p3 H3 hp3 e3 h3 => q p3 H3 (fresh_back e2 hp3) (e2.trans e3) h3) E
theorem ev_callN {sp : Sp} {E : XK} {xs : List V} (h : EvL te σ H xs) (hs : ∀ p H1, H1 p = some (.lst xs) → Ex H H1 → SpV sp [.ref p] H1 z) : Ev (tCall sp [] E (tCons te tNil)) σ H z := fun H1 e Q q =>
  h H1 e _ fun p H2 hp e2 h2 => hs p H2 h2 (e.trans e2) H2 (Ex.refl H2) Q (fun H3 e3 => q H3 (e2.trans e3)) E
theorem el_listN {xs : List V} (h : EvL te σ H xs) : EvL (tCB (rListS K) (tCons te tNil)) σ H xs := fun H1 e Q q =>
  h H1 e _ fun p H2 _ e2 h2 => ⟨p, xs, rfl, Or.inl (sq_of h2), fun l hl => q l _ (fresh_back e2 hl) (e2.trans (Ex.new hl)) upd_same⟩
/-- lists that are new, each its own -/
def News (H H2 : Hp) : List Addr → List (List V) → Prop
  | [], [] => True
  | p :: ps, xs :: xss => H p = none ∧ H2 p = some (.lst xs) ∧ p ∉ ps ∧ News H H2 ps xss
  | _, _ => False
theorem News.mono : ∀ {ps : List Addr} {xss : List (List V)} {H H0 H1 H2 : Hp}, News H H1 ps xss → Ex H0 H → Ex H1 H2 → News H0 H2 ps xss
  | [], [], _, _, _, _, _, _, _ => trivial
  | p :: ps, xs :: xss, _, _, _, _, h, e0, e => ⟨fresh_back e0 h.1, e _ _ h.2.1, h.2.2.1, News.mono h.2.2.2 e0 e⟩
  | [], _ :: _, _, _, _, _, h, _, _ => h.elim
  | _ :: _, [], _, _, _, _, h, _, _ => h.elim
theorem News.free : ∀ {ps : List Addr} {xss : List (List V)} {H H2 : Hp}, News H H2 ps xss → ∀ p ∈ ps, H p = none
  | [], [], _, _, _, p, hp => by simp at hp
  | a :: ps, xs :: xss, _, _, h, p, hp => by
    rcases List.mem_cons.mp hp with e | hp
    · rw [e]
      exact h.1
    · exact News.free h.2.2.2 p hp
  | [], _ :: _, _, _, h, _, _ => h.elim
  | _ :: _, [], _, _, h, _, _ => h.elim
def EvLs (ta : TA) (σ : L2.St) (H : Hp) (xss : List (List V)) : Prop := ∀ H1, Ex H H1 → ∀ Q : List V → Hp → Prop, (∀ ps H2, Ex H1 H2 → News H1 H2 ps xss → Q (ps.map V.ref) H2) → ta σ H1 Q
theorem els_nil : EvLs tNil σ H [] := fun H1 e Q q => q [] H1 (Ex.refl H1) trivial
theorem els_cons {tr : TA} {xs : List V} {xss : List (List V)} (h : EvL te σ H xs) (hr : EvLs tr σ H xss) : EvLs (tCons te tr) σ H (xs :: xss) := fun H1 e Q q =>
  h H1 e _ fun p H2 hp e2 h2 => hr H2 (e.trans e2) _ fun ps H3 e3 n3 => q (p :: ps) H3 (e2.trans e3) ⟨hp, e3 _ _ h2, (fun hm => by
    rw [n3.free p hm] at h2
    cases h2), n3.mono e2 (Ex.refl H3)⟩
/-- a new list of new lists -/
def EvLL (te : TE) (σ : L2.St) (H : Hp) (xss : List (List V)) : Prop := ∀ H1, Ex H H1 → ∀ Q : VK, (∀ p ps H2, H1 p = none → p ∉ ps → Ex H1 H2 → News H1 H2 ps xss → H2 p = some (.lst (ps.map V.ref)) → Q (.ref p) H2) → te σ H1 Q
theorem News.len : ∀ {ps : List Addr} {xss : List (List V)} {H H2 : Hp}, News H H2 ps xss → ps.length = xss.length
  | [], [], _, _, _ => rfl
  | _ :: ps, _ :: xss, _, _, h => by
    have := News.len h.2.2.2
    simp [this]
  | [], _ :: _, _, _, h => h.elim
  | _ :: _, [], _, _, h => h.elim
theorem News.ex : ∀ {ps : List Addr} {xss : List (List V)} {H H2 : Hp}, News H H2 ps xss → ∀ p ∈ ps, ∃ xs, H2 p = some (.lst xs)
  | [], [], _, _, _, p, hp => by simp at hp
  | a :: ps, xs :: xss, _, _, h, p, hp => by
    rcases List.mem_cons.mp hp with e | hp
    · rw [e]
      exact ⟨xs, h.2.1⟩
    · exact News.ex h.2.2.2 p hp
  | [], _ :: _, _, _, h, _, _ => h.elim
  | _ :: _, [], _, _, h, _, _ => h.elim
theorem ell_lst {ta : TA} {xss : List (List V)} (h : EvLs ta σ H xss) (hz : xss.length ≤ 1000) : EvLL (tLst ta) σ H xss := fun H1 e Q q =>
  h H1 e _ fun ps H2 e2 n2 => ⟨by
    rw [List.length_map, n2.len]
    exact sz_of (by omega), fun p hp => q p ps _ (fresh_back e2 hp) (fun hm => by
    obtain ⟨xs, h3⟩ := n2.ex p hm
    rw [hp] at h3
    cases h3) (e2.trans (Ex.new hp)) (n2.mono (Ex.refl H1) (Ex.new hp)) upd_same⟩
def RetLL (xss : List (List V)) (H : Hp) (Q : VK) : Prop := ∀ p ps H2, H p = none → p ∉ ps → Ex H H2 → News H H2 ps xss → H2 p = some (.lst (ps.map V.ref)) → Q (.ref p) H2
theorem RetLL.go {xss : List (List V)} {Q : VK} (k : RetLL xss H Q) (e : Ex H H') {p : Addr} {ps : List Addr} {H2 : Hp} (hp : H' p = none) (hm : p ∉ ps) (e2 : Ex H' H2) (n : News H' H2 ps xss) (h : H2 p = some (.lst (ps.map V.ref))) : Q (.ref p) H2 :=
  k p ps H2 (fresh_back e hp) hm (e.trans e2) (n.mono e (Ex.refl H2)) h
theorem s_retLL {xss : List (List V)} (h : EvLL te σ H xss) (k : ∀ p ps H1, H p = none → p ∉ ps → Ex H H1 → News H H1 ps xss → H1 p = some (.lst (ps.map V.ref)) → D.rt (.ref p) H1) : tRet te D σ H := h H (Ex.refl H) _ k
theorem q_asgLL {i : Nat} {xss : List (List V)} (h : EvLL te σ H xss) (k : ∀ p ps H1, H p = none → p ∉ ps → Ex H H1 → News H H1 ps xss → H1 p = some (.lst (ps.map V.ref)) → tz D (σ.set i (some (.ref p))) H1) : tSeq (tAsg te (gName i)) tz D σ H := h H (Ex.refl H) _ k
def SpLL (sp : Sp) (vs : List V) (H : Hp) (xss : List (List V)) : Prop := ∀ H1, Ex H H1 → ∀ Q : VK, RetLL xss H1 Q → ∀ E : XK, sp vs H1 Q E
theorem ell_call {sp : Sp} {vs : List V} {xss : List (List V)} {E : XK} {ta : TA} (h : EvA ta σ H vs) (hs : SpLL sp vs H xss) : EvLL (tCall sp [] E ta) σ H xss := fun H1 e Q q =>
  h H1 e _ fun H2 e2 => by
    rw [List.append_nil]
    exact hs H2 (e.trans e2) Q (fun p ps H3 hp hm e3 n3 h3 => q p ps H3 (fresh_back e2 hp) hm (e2.trans e3) (n3.mono e2 (Ex.refl H3)) h3) E
/-- an item of a list of addresses -/
theorem ev_ixR {p : Addr} {ps : List Addr} {i : Int} {j : Nat} {a : Addr} (ha : Ev ta σ H (.ref p)) (hb : Ev tb σ H (.int i)) (h : H p = some (.lst (ps.map V.ref))) (hi : i = (j : Int)) (hj : ps[j]? = some a) : Ev (tOp (rIxL K) ta tb) σ H (.ref a) := by
  refine ev_op ha hb (rv_ixL (sq_of h) ?_)
  subst hi
  refine atI_nat ?_
  rw [List.getElem?_map, hj]
  rfl
end

theorem News.get : ∀ {ps : List Addr} {xss : List (List V)} {H H2 : Hp} {j : Nat} {p : Addr} {xs : List V}, News H H2 ps xss → ps[j]? = some p → xss[j]? = some xs → H p = none ∧ H2 p = some (.lst xs)
  | [], _, _, _, _, _, _, _, h, _ => by simp at h
  | _ :: _, [], _, _, _, _, _, h, _, _ => h.elim
  | a :: ps, ys :: xss, _, _, 0, _, _, h, e1, e2 => by
    simp at e1 e2
    subst e1 e2
    exact ⟨h.1, h.2.1⟩
  | a :: ps, ys :: xss, _, _, j + 1, _, _, h, e1, e2 => News.get h.2.2.2 (by simpa using e1) (by simpa using e2)
theorem News.nodup : ∀ {ps : List Addr} {xss : List (List V)} {H H2 : Hp}, News H H2 ps xss → ps.Nodup
  | [], _, _, _, _ => List.nodup_nil
  | _ :: _, [], _, _, h => h.elim
  | a :: ps, ys :: xss, _, _, h => List.nodup_cons.mpr ⟨h.2.2.1, News.nodup h.2.2.2⟩
theorem News.at {ps : List Addr} {xss : List (List V)} {H H2 : Hp} {j : Nat} (h : News H H2 ps xss) (hj : j < xss.length) : ∃ p, ps[j]? = some p :=
  ⟨ps[j]'(by rw [h.len]; exact hj), List.getElem?_eq_getElem _⟩
section
variable {K : PySem.W.Frag} {σ : L2.St} {H H' : Hp} {ta tb te tx : TE} {t u : TT} {x y z v : V} {r : R2} {D : Ends} {tu tw tz : TS}
theorem evp_L {xs : List V} (h : EvL te σ H xs) : EvP te σ H (fun v H2 => ∃ p, v = .ref p ∧ H2 p = some (.lst xs)) := fun H1 e Q q => h H1 e _ fun p H2 _ e2 h2 => q _ H2 e2 ⟨p, rfl, h2⟩
theorem EvP.imp {P P' : V → Hp → Prop} (h : EvP te σ H P) (i : ∀ v H1, P v H1 → P' v H1) : EvP te σ H P' := fun H1 e Q q => h H1 e _ fun v H2 e2 hp => q v H2 e2 (i v H2 hp)
/-- if c: x = e, what x holds behind told by P -/
theorem q_whenAsg {b : Bool} {i : Nat} {P : V → Hp → Prop} (h : EvT t σ H b) (h1 : b = true → EvP te σ H P) (h2 : b = false → ∃ v, σ.set i (some v) = σ ∧ ∀ H1, Ex H H1 → P v H1) (k : ∀ v H1, Ex H H1 → P v H1 → tz D (σ.set i (some v)) H1) : tSeq (tIfS t (tAsg te (gName i)) tNext) tz D σ H :=
  q_when h (fun hb H1 e1 => h1 hb H1 e1 _ fun v H2 e2 hp => k v H2 (e1.trans e2) hp) (fun hb H1 e1 => by
    obtain ⟨v, e, hp⟩ := h2 hb
    have g := k v H1 e1 (hp H1 e1)
    rw [e] at g
    exact g)
theorem q_asgP {i : Nat} {P : V → Hp → Prop} (h : EvP te σ H P) (k : ∀ v H1, Ex H H1 → P v H1 → tz D (σ.set i (some v)) H1) : tSeq (tAsg te (gName i)) tz D σ H := h H (Ex.refl H) _ fun v H1 e hp => k v H1 e hp
theorem el_cat {xs ys : List V} (h1 : EvL ta σ H xs) (h2 : EvL tb σ H ys) (hz : xs.length + ys.length ≤ 100000) : EvL (tOp rCat ta tb) σ H (xs ++ ys) := fun H1 e Q q =>
  h1 H1 e _ fun p H2 hp e2 hx => h2 H2 (e.trans e2) _ fun p2 H3 hp2 e3 hy => ⟨p, p2, xs, ys, rfl, rfl, e3 _ _ hx, hy, sz_of hz, fun l hl => q l _ (fresh_back (e2.trans e3) hl) ((e2.trans e3).trans (Ex.new hl)) upd_same⟩
end
theorem cut_drop (ns : List Int) (k : Nat) : cutV (ns.map V.int) (some (k : Int)) none = (ns.drop k).map V.int := by
  unfold cutV
  rw [HT.sIx_none, show HT.sIx (ns.map V.int).length 0 (some (k : Int)) = min k (ns.map V.int).length from HT.sIx_nat (ns.map V.int).length _ k]
  rw [← List.map_drop, ← List.map_take, List.length_map]
  congr 1
  by_cases h : k ≤ ns.length
  · rw [Nat.min_eq_left h]
    refine List.take_of_length_le ?_
    rw [List.length_drop]
    exact Nat.le_refl _
  · rw [Nat.min_eq_right (by omega), List.drop_length, List.drop_of_length_le (by omega)]
    simp
/-! ### truth of lists, repeated lists, enumerate, items changed -/
abbrev tTruth (K : PySem.W.Frag) (ta : TE) : TT := fun σ H Q => ta σ H fun x H' => ∃ k, TruV K x H' k ∧ Q k H'
section
variable {K : PySem.W.Frag} {σ : L2.St} {H H' : Hp} {ta tb te tx : TE} {t u : TT} {x y z v : V} {r : R2} {D : Ends} {tu tw tz : TS}
theorem et_truthL {a : Addr} {xs : List V} (h : Ev te σ H (.ref a)) (hx : SqL K H a xs) : EvT (tTruth K te) σ H (!xs.isEmpty) := fun H1 e Q q =>
  h H1 e _ fun H2 e2 => ⟨_, .inl ⟨xs, ex_l (e.trans e2) hx, rfl⟩, q H2 e2⟩
theorem et_truthI {i : Int} (h : Ev te σ H (.int i)) : EvT (tTruth K te) σ H (i != 0) := fun H1 e Q q =>
  h H1 e _ fun H2 e2 => ⟨_, rfl, q H2 e2⟩
theorem rep_flat (k : Nat) (v : V) : (List.replicate k [v]).flatten = List.replicate k v := by
  induction k with
  | zero => rfl
  | succ k ih => rw [List.replicate_succ, List.flatten_cons, ih, List.replicate_succ] <;> rfl
theorem el_rep {i : Int} {k : Nat} (h : EvL ta σ H [v]) (hb : Ev tb σ H (.int i)) (hi : i = (k : Int)) (hk : k ≤ 100000) : EvL (tOp rRep ta tb) σ H (List.replicate k v) := fun H1 e Q q =>
  h H1 e _ fun p H2 hp e2 hx => hb H2 (e.trans e2) _ fun H3 e3 => ⟨p, i, [v], rfl, rfl, e3 _ _ hx, by omega, by omega, by
    rw [hi, Int.toNat_natCast]
    show 1 * k ≤ _
    rw [Nat.one_mul]
    exact sz_of hk, fun l hl => by
    rw [hi, Int.toNat_natCast, rep_flat]
    exact q l _ (fresh_back (e2.trans e3) hl) ((e2.trans e3).trans (Ex.new hl)) upd_same⟩
theorem q_setI {l : Addr} {ns : List Int} {i w : Int} {j : Nat} (hl : H l = some (.lst (ns.map V.int))) (h : Ev te σ H (.int w)) (ho : Ev ta σ H (.ref l)) (hi : Ev tb σ H (.int i)) (he : i = (j : Int)) (hj : j < ns.length) (k : ∀ H1, Ex H H1 → D.nx σ (upd H1 l (.lst ((ns.set j w).map V.int)))) :
    tAsg te (gSub ta tb rSetL) D σ H := by
  subst he
  refine s_setL hl h ho hi (by rw [List.length_map]; exact hj) fun H1 e1 => ?_
  have := k H1 e1
  rw [List.map_set] at this
  exact this
theorem s_augI {l : Addr} {ns : List Int} {i w : Int} {j : Nat} (hl : H l = some (.lst (ns.map V.int))) (ho : Ev ta σ H (.ref l)) (hi : Ev tb σ H (.int i)) (he : i = (j : Int)) (hj : j < ns.length) (h : Ev te σ H (.int w)) (k : ∀ H1, Ex H H1 → D.nx σ (upd H1 l (.lst ((ns.set j (ns.getD j 0 + w)).map V.int)))) :
    tAugS ta tb te rGetL (ipI fun i j => i + j) rSetL D σ H := by
  subst he
  refine ho H (Ex.refl H) _ fun H1 e1 => hi H1 e1 _ fun H2 e2 => ?_
  have h2 := (e1.trans e2) _ _ hl
  refine ⟨l, _, _, .int (ns.getD j 0), rfl, rfl, h2, by omega, ?_, ?_⟩
  · rw [Int.toNat_natCast, List.getElem?_map, List.getElem?_eq_getElem hj, List.getD_eq_getElem?_getD, List.getElem?_eq_getElem hj]
    rfl
  refine h H2 (e1.trans e2) _ fun H3 e3 => ⟨_, _, rfl, rfl, l, _, _, j, rfl, rfl, e3 _ _ h2, ixN_nat (by rw [List.length_map]; exact hj), ?_⟩
  have := k H3 ((e1.trans e2).trans e3)
  rw [List.map_set] at this
  exact this
/-- for i, x in enumerate(xs) -/
theorem s_forEnum {a : Addr} {xs : List V} {ta : TA} {n1 n2 : Nat} (h : EvA ta σ H [.ref a]) (hx : SqL K H a xs) (Pv : Nat → L2.St → Hp → Prop) (h0 : ∀ H1, Ex H H1 → Pv 0 σ H1) (hl : ∀ i σ' H', i ≤ xs.length → Pv i σ' H' → SqL K H' a xs)
    (hs : ∀ (i : Nat) x σ' H' H'', xs[i]? = some x → Pv i σ' H' → Ex H' H'' → tu { D with nx := Pv (i + 1), ct := Pv (i + 1), bk := D.nx } ((σ'.set n1 (some (.int (i : Int)))).set n2 (some x)) H'') (hd : ∀ σ' H', Pv xs.length σ' H' → D.nx σ' H') :
    tFor (iEnum K ta) (gTup K 2 (gCons (gName n1) (gCons (gName n2) gNil))) tu D σ H := by
  refine h H (Ex.refl H) _ fun H1 e => ⟨a, xs, rfl, ex_l e hx, fun i m σ' H' => m = xs.length - i ∧ i ≤ xs.length ∧ Pv i σ' H', ⟨xs.length, by simp, Nat.zero_le _, h0 H1 e⟩, fun i m σ' H' hW => ?_⟩
  obtain ⟨rfl, hi, p⟩ := hW
  have hq := hl i σ' H' hi p
  by_cases hlt : i < xs.length
  · have hg : xs[i]? = some xs[i] := List.getElem?_eq_getElem hlt
    refine .inr ⟨⟨xs, _, hq, hg⟩, Pv (i + 1), fun σ2 H2 p2 => ⟨xs.length - (i + 1), by omega, rfl, by omega, p2⟩, fun w H2 hy => ?_⟩
    obtain ⟨T, x, rfl, hT, rfl, hxx⟩ := hy
    refine ⟨T, [.int (i : Int), x], rfl, .inl (.inl upd_same), rfl, .int (i : Int), [x], rfl, x, [], rfl, rfl, ?_⟩
    exact hs i x σ' H' _ (hxx xs hq) p (Ex.new hT)
  · have e : i = xs.length := by omega
    subst e
    exact .inl ⟨⟨xs, hq, Nat.le_refl _⟩, hd σ' H' p⟩
theorem q_forEnum {a : Addr} {xs : List V} {ta : TA} {n1 n2 : Nat} (h : EvA ta σ H [.ref a]) (hx : SqL K H a xs) (Pv : Nat → L2.St → Hp → Prop) (h0 : ∀ H1, Ex H H1 → Pv 0 σ H1) (hl : ∀ i σ' H', i ≤ xs.length → Pv i σ' H' → SqL K H' a xs)
    (hs : ∀ (i : Nat) x σ' H' H'', xs[i]? = some x → Pv i σ' H' → Ex H' H'' → tu { D with nx := Pv (i + 1), ct := Pv (i + 1), bk := tz D } ((σ'.set n1 (some (.int (i : Int)))).set n2 (some x)) H'') (hd : ∀ σ' H', Pv xs.length σ' H' → tz D σ' H') :
    tSeq (tFor (iEnum K ta) (gTup K 2 (gCons (gName n1) (gCons (gName n2) gNil))) tu) tz D σ H := s_forEnum (D := { D with nx := tz D }) h hx Pv h0 hl hs hd
end
/-! ### arguments told by what holds of them; pairs -/
def Stable (P : V → Hp → Prop) : Prop := ∀ v H1 H2, Ex H1 H2 → P v H1 → P v H2
/-- a list of its own at the value's address; a value -/
def IsL (xs : List V) : V → Hp → Prop := fun v H => ∃ p, v = .ref p ∧ H p = some (.lst xs)
def IsV (z : V) : V → Hp → Prop := fun v _ => v = z
theorem st_L {xs : List V} : Stable (IsL xs) := fun _ _ _ e ⟨p, h, h2⟩ => ⟨p, h, e _ _ h2⟩
theorem st_V {z : V} : Stable (IsV z) := fun _ _ _ _ h => h
def All2 : List (V → Hp → Prop) → List V → Hp → Prop
  | [], [], _ => True
  | P :: Ps, v :: vs, H => P v H ∧ All2 Ps vs H
  | _, _, _ => False
section
variable {K : PySem.W.Frag} {σ : L2.St} {H H' : Hp} {ta tb te tx : TE} {t u : TT} {x y z v : V} {r : R2} {D : Ends} {tu tw tz : TS}
def EvPs (ta : TA) (σ : L2.St) (H : Hp) (Ps : List (V → Hp → Prop)) : Prop := ∀ H1, Ex H H1 → ∀ Q : List V → Hp → Prop, (∀ vs H2, Ex H1 H2 → All2 Ps vs H2 → Q vs H2) → ta σ H1 Q
theorem evp_V (h : Ev te σ H z) : EvP te σ H (IsV z) := fun H1 e Q q => h H1 e _ fun H2 e2 => q z H2 e2 rfl
theorem evp_l {xs : List V} (h : EvL te σ H xs) : EvP te σ H (IsL xs) := fun H1 e Q q => h H1 e _ fun p H2 _ e2 h2 => q _ H2 e2 ⟨p, rfl, h2⟩
theorem evp_at {a : Addr} {xs : List V} (h : Ev te σ H (.ref a)) (hx : H a = some (.lst xs)) : EvP te σ H (IsL xs) := fun H1 e Q q => h H1 e _ fun H2 e2 => q _ H2 e2 ⟨a, rfl, (e.trans e2) _ _ hx⟩
theorem eps_nil : EvPs tNil σ H [] := fun H1 e Q q => q [] H1 (Ex.refl H1) trivial
theorem eps_cons {tr : TA} {P : V → Hp → Prop} {Ps : List (V → Hp → Prop)} (h : EvP te σ H P) (st : Stable P) (hr : EvPs tr σ H Ps) : EvPs (tCons te tr) σ H (P :: Ps) := fun H1 e Q q =>
  h H1 e _ fun v H2 e2 hv => hr H2 (e.trans e2) _ fun vs H3 e3 hvs => q _ H3 (e2.trans e3) ⟨st _ _ _ e3 hv, hvs⟩
theorem eps_l {tr : TA} {xs : List V} {Ps : List (V → Hp → Prop)} (h : EvL te σ H xs) (hr : EvPs tr σ H Ps) : EvPs (tCons te tr) σ H (IsL xs :: Ps) := eps_cons (evp_l h) st_L hr
theorem eps_at {tr : TA} {a : Addr} {xs : List V} {Ps : List (V → Hp → Prop)} (h : Ev te σ H (.ref a)) (hx : H a = some (.lst xs)) (hr : EvPs tr σ H Ps) : EvPs (tCons te tr) σ H (IsL xs :: Ps) := eps_cons (evp_at h hx) st_L hr
theorem eps_V {tr : TA} {Ps : List (V → Hp → Prop)} (h : Ev te σ H z) (hr : EvPs tr σ H Ps) : EvPs (tCons te tr) σ H (IsV z :: Ps) := eps_cons (evp_V h) st_V hr
theorem el_callP {sp : Sp} {E : XK} {ta : TA} {Ps : List (V → Hp → Prop)} {xs : List V} (h : EvPs ta σ H Ps) (hs : ∀ vs H1, Ex H H1 → All2 Ps vs H1 → SpL sp vs H1 xs) : EvL (tCall sp [] E ta) σ H xs := fun H1 e Q q =>
  h H1 e _ fun vs H2 e2 hvs => by
    rw [List.append_nil]
    exact hs vs H2 (e.trans e2) hvs H2 (Ex.refl H2) Q (fun p H3 hp e3 h3 => q p H3 (fresh_back e2 hp) (e2.trans e3) h3) E
theorem ev_callP {sp : Sp} {E : XK} {ta : TA} {Ps : List (V → Hp → Prop)} (h : EvPs ta σ H Ps) (hs : ∀ vs H1, Ex H H1 → All2 Ps vs H1 → SpV sp vs H1 z) : Ev (tCall sp [] E ta) σ H z := fun H1 e Q q =>
  h H1 e _ fun vs H2 e2 hvs => by
    rw [List.append_nil]
    exact hs vs H2 (e.trans e2) hvs H2 (Ex.refl H2) Q (fun H3 e3 => q H3 (e2.trans e3)) E
theorem all2_two {P1 P2 : V → Hp → Prop} {vs : List V} {H : Hp} (h : All2 [P1, P2] vs H) : ∃ v w, vs = [v, w] ∧ P1 v H ∧ P2 w H := by
  match vs, h with
  | [v, w], ⟨a, b, _⟩ => exact ⟨v, w, rfl, a, b⟩
theorem all2_one {P1 : V → Hp → Prop} {vs : List V} {H : Hp} (h : All2 [P1] vs H) : ∃ v, vs = [v] ∧ P1 v H := by
  match vs, h with
  | [v], ⟨a, _⟩ => exact ⟨v, rfl, a⟩
theorem all2_three {P1 P2 P3 : V → Hp → Prop} {vs : List V} {H : Hp} (h : All2 [P1, P2, P3] vs H) : ∃ v w u, vs = [v, w, u] ∧ P1 v H ∧ P2 w H ∧ P3 u H := by
  match vs, h with
  | [v, w, u], ⟨a, b, c, _⟩ => exact ⟨v, w, u, rfl, a, b, c⟩
/-- two lists: a binary call -/
theorem el_call2 {sp : Sp} {E : XK} {xs ys zs : List V} (ha : EvP ta σ H (IsL xs)) (hb : EvP tb σ H (IsL ys)) (hs : ∀ a b H1, Ex H H1 → H1 a = some (.lst xs) → H1 b = some (.lst ys) → SpL sp [.ref a, .ref b] H1 zs) : EvL (tCall sp [] E (tCons ta (tCons tb tNil))) σ H zs :=
  el_callP (eps_cons ha st_L (eps_cons hb st_L eps_nil)) fun vs H1 e1 h => by
    obtain ⟨v, w, rfl, ⟨a, rfl, h1⟩, b, rfl, h2⟩ := all2_two h
    exact hs a b H1 e1 h1 h2
theorem ev_call2 {sp : Sp} {E : XK} {xs ys : List V} (ha : EvP ta σ H (IsL xs)) (hb : EvP tb σ H (IsL ys)) (hs : ∀ a b H1, Ex H H1 → H1 a = some (.lst xs) → H1 b = some (.lst ys) → SpV sp [.ref a, .ref b] H1 z) : Ev (tCall sp [] E (tCons ta (tCons tb tNil))) σ H z :=
  ev_callP (eps_cons ha st_L (eps_cons hb st_L eps_nil)) fun vs H1 e1 h => by
    obtain ⟨v, w, rfl, ⟨a, rfl, h1⟩, b, rfl, h2⟩ := all2_two h
    exact hs a b H1 e1 h1 h2
def RetP (P : V → Hp → Prop) (H : Hp) (Q : VK) : Prop := ∀ v H2, Ex H H2 → P v H2 → Q v H2
theorem RetP.go {P : V → Hp → Prop} {Q : VK} (k : RetP P H Q) (e : Ex H H') {v : V} {H2 : Hp} (e2 : Ex H' H2) (h : P v H2) : Q v H2 := k v H2 (e.trans e2) h
theorem s_retP {P : V → Hp → Prop} (h : EvP te σ H P) (k : ∀ v H1, Ex H H1 → P v H1 → D.rt v H1) : tRet te D σ H := h H (Ex.refl H) _ k
def SpP (sp : Sp) (vs : List V) (H : Hp) (P : V → Hp → Prop) : Prop := ∀ H1, Ex H H1 → ∀ Q : VK, RetP P H1 Q → ∀ E : XK, sp vs H1 Q E
theorem evp_call {sp : Sp} {E : XK} {ta : TA} {vs : List V} {P : V → Hp → Prop} (h : EvA ta σ H vs) (hs : SpP sp vs H P) : EvP (tCall sp [] E ta) σ H P := fun H1 e Q q =>
  h H1 e _ fun H2 e2 => by
    rw [List.append_nil]
    exact hs H2 (e.trans e2) Q (fun v H3 e3 hv => q v H3 (e2.trans e3) hv) E
/-- a pair of two lists, that may be known or new -/
def IsPair (P : List V → List V → Prop) : V → Hp → Prop := fun v H => ∃ t a b xs ys, v = .ref t ∧ H t = some (.tup [.ref a, .ref b]) ∧ H a = some (.lst xs) ∧ H b = some (.lst ys) ∧ P xs ys
theorem evp_pair {xs ys : List V} {P : List V → List V → Prop} (ha : EvP ta σ H (IsL xs)) (hb : EvP tb σ H (IsL ys)) (hp : P xs ys) : EvP (tTup (tCons ta (tCons tb tNil))) σ H (IsPair P) := fun H1 e Q q =>
  ha H1 e _ fun v H2 e2 ⟨a, ea, h1⟩ => hb H2 (e.trans e2) _ fun w H3 e3 ⟨b, eb, h2⟩ => ⟨sz_of (by show 2 ≤ 100000; decide), fun t ht => by
    subst ea
    subst eb
    exact q _ _ ((e2.trans e3).trans (Ex.new ht)) ⟨t, a, b, xs, ys, rfl, upd_same, (e3.trans (Ex.new ht)) _ _ h1, (Ex.new ht) _ _ h2, hp⟩⟩
/-- x, y = a pair -/
theorem q_unpack {n1 n2 : Nat} {P : List V → List V → Prop} (h : EvP te σ H (IsPair P)) (k : ∀ a b xs ys H1, Ex H H1 → H1 a = some (.lst xs) → H1 b = some (.lst ys) → P xs ys → tz D ((σ.set n1 (some (.ref a))).set n2 (some (.ref b))) H1) :
    tSeq (tAsg te (gTup K 2 (gCons (gName n1) (gCons (gName n2) gNil)))) tz D σ H := h H (Ex.refl H) _ fun v H1 e ⟨t, a, b, xs, ys, ev, ht, h1, h2, hp⟩ => by
  subst ev
  exact ⟨t, _, rfl, .inl (.inl ht), rfl, .ref a, _, rfl, .ref b, _, rfl, rfl, k a b xs ys H1 e h1 h2 hp⟩
/-- comprehensions over range(a, b), and over enumerate -/
theorem el_lcR2 {ta : TA} {j : Nat} {vs : List Nat} {lo hi : Int} (f : Nat → Bool) (v : Nat → V) (h : EvA ta σ H [.int lo, .int hi]) (hn : 0 ≤ lo ∧ lo ≤ 40000 ∧ 0 ≤ hi ∧ hi ≤ 40000) (hw : ∀ x, wipe ((wipe σ vs).set j (some x)) vs = wipe σ vs)
    (ht : ∀ (i : Nat) H1, Ex H H1 → lo + (i : Int) < hi → EvT t ((wipe σ vs).set j (some (.int (lo + (i : Int))))) H1 (f i)) (he : ∀ (i : Nat) H1, Ex H H1 → lo + (i : Int) < hi → f i = true → Ev te ((wipe σ vs).set j (some (.int (lo + (i : Int))))) H1 (v i)) :
    EvL (tLc (iRng2 ta) (gName j) t te vs) σ H (given (hi - lo).toNat f v) := fun H0 e Q q => h H0 e _ fun H1 e1 => ⟨lo, hi, rfl, ⟨by omega, by omega, by omega, by omega⟩, fun Dl hD =>
  lc_range (lo := lo) (n := (hi - lo).toNat) (Cw H1 f v Dl) ⟨hD, Ex.new hD, upd_same⟩ (fun i H' hi p =>
    ⟨hw _, cw_turn p (by omega) (ht i H1 (e.trans e1) (by omega)) (fun hf => he i H1 (e.trans e1) (by omega) hf)⟩) (fun H' p => q Dl H' (fresh_back e1 p.1) (e1.trans p.2.1) p.2.2)⟩
theorem el_lcEnum {a : Addr} {xs : List V} {ta : TA} {n1 n2 : Nat} {vs : List Nat} (v : Nat → V) (h : EvA ta σ H [.ref a]) (hx : SqL K H a xs) (hz : xs.length ≤ 40000) (hw : ∀ x y, wipe (((wipe σ vs).set n1 (some x)).set n2 (some y)) vs = wipe σ vs)
    (he : ∀ (i : Nat) (x : V) H1, Ex H H1 → xs[i]? = some x → Ev te (((wipe σ vs).set n1 (some (.int (i : Int)))).set n2 (some x)) H1 (v i)) :
    EvL (tLc (iEnum K ta) (gTup K 2 (gCons (gName n1) (gCons (gName n2) gNil))) tYes te vs) σ H ((List.range xs.length).map v) := fun H0 e Q q => h H0 e _ fun H1 e1 => by
  refine ⟨a, xs, rfl, ex_l (e.trans e1) hx, fun Dl hD => ⟨fun i m H' => m = xs.length - i ∧ i ≤ xs.length ∧ Ex H1 H' ∧ H' Dl = some (.lst ((List.range i).map v)), ⟨xs.length, by simp, Nat.zero_le _, Ex.new hD, upd_same⟩, fun i m H' hW => ?_⟩⟩
  obtain ⟨rfl, hi, e2, hd⟩ := hW
  have hq := ex_l ((e.trans e1).trans e2) hx
  by_cases hlt : i < xs.length
  · refine .inr ⟨⟨xs, _, hq, List.getElem?_eq_getElem hlt⟩, fun H2 => Ex H1 H2 ∧ H2 Dl = some (.lst ((List.range (i + 1)).map v)), fun H2 hN => ⟨xs.length - (i + 1), by omega, rfl, by omega, hN⟩, fun w H2 hy => ?_⟩
    obtain ⟨T, x, rfl, hT, rfl, hxx⟩ := hy
    have hxi := hxx xs hq
    refine ⟨T, [.int (i : Int), x], rfl, .inl (.inl upd_same), rfl, .int (i : Int), [x], rfl, x, [], rfl, rfl, hw _ _, ?_⟩
    refine he i x _ (((e.trans e1).trans e2).trans (Ex.new hT)) hxi _ (Ex.refl _) _ fun H3 e3 => ?_
    refine ⟨(List.range i).map v, e3 _ _ ((Ex.new hT) _ _ hd), sz_lt (by rw [List.length_map, List.length_range]; omega), Ex.mut ((e2.trans (Ex.new hT)).trans e3) hD, ?_⟩
    rw [upd_same, List.range_succ, List.map_append]
    rfl
  · have e5 : i = xs.length := by omega
    subst e5
    exact .inl ⟨⟨xs, hq, Nat.le_refl _⟩, q Dl H' (fresh_back e1 hD) (e1.trans e2) hd⟩
end
/-! ### sizes -/
theorem mulx {i j : Int} {a b : Nat} (ha : i.natAbs < 2 ^ a) (hb : j.natAbs < 2 ^ b) (h : a + b ≤ 134217728) : CMulX i j := mulx_ok ha hb h
theorem div_small {i j : Int} (h : 0 < j) (hb : j < 2 ^ 200) : CDivW i j := wide_div (b := 200) h (by omega) (by decide) (by decide)
theorem cut_take (ns : List Int) (k : Nat) : cutV (ns.map V.int) none (some (k : Int)) = (ns.take k).map V.int := by
  unfold cutV
  rw [HT.sIx_none, show HT.sIx (ns.map V.int).length (ns.map V.int).length (some (k : Int)) = min k (ns.map V.int).length from HT.sIx_nat (ns.map V.int).length _ k]
  rw [List.drop_zero, Nat.sub_zero, ← List.map_take]
  congr 1
  rw [List.length_map, List.take_eq_take_iff]
  omega
section
variable {K : PySem.W.Frag} {σ : L2.St} {H : Hp} {te tb : TE} {a : Addr} {ns : List Int} {i : Int} {k : Nat}
theorem el_take (h : Ev te σ H (.ref a)) (h2 : Ev tb σ H (.int i)) (hs : SqL K H a (ns.map V.int)) (hi : i = (k : Int)) : EvL (tSl (rSlL K) te tNoPart (tPart tb)) σ H ((ns.take k).map V.int) := by
  subst hi
  rw [← cut_take]
  exact el_sl h eo_none (eo_some h2) hs
theorem el_drop (h : Ev te σ H (.ref a)) (h2 : Ev tb σ H (.int i)) (hs : SqL K H a (ns.map V.int)) (hi : i = (k : Int)) : EvL (tSl (rSlL K) te (tPart tb) tNoPart) σ H ((ns.drop k).map V.int) := by
  subst hi
  rw [← cut_drop]
  exact el_sl h (eo_some h2) eo_none hs
end
section
variable {K : PySem.W.Frag} {σ : L2.St} {H : Hp} {te tb : TE} {a : Addr} {ns : List Int} {i : Int} {k : Nat}
theorem el_slN {xs : List V} {tl th : TO} {lo hi : Option Int} (h : EvL te σ H xs) (h1 : EvO tl σ H lo) (h2 : EvO th σ H hi) : EvL (tSl (rSlL K) te tl th) σ H (cutV xs lo hi) := fun H1 e _ q =>
  h H1 e _ fun a H2 _ e2 hx => h1 H2 (e.trans e2) _ fun H3 e3 => h2 H3 ((e.trans e2).trans e3) _ fun H4 e4 =>
    ⟨a, xs, rfl, ex_l (e3.trans e4) (sq_of hx), fun p hp => q p _ (fresh_back ((e2.trans e3).trans e4) hp) (((e2.trans e3).trans e4).trans (Ex.new hp)) upd_same⟩
theorem el_dropN (h : EvL te σ H (ns.map V.int)) (h2 : Ev tb σ H (.int i)) (hi : i = (k : Int)) : EvL (tSl (rSlL K) te (tPart tb) tNoPart) σ H ((ns.drop k).map V.int) := by
  subst hi
  rw [← cut_drop]
  exact el_slN h (eo_some h2) eo_none
end

/-! ### == of lists of ints -/
def dI (ns : List Int) : PyData := .list (ns.map PyData.int)
theorem canLay_ints : ∀ ns : List Int, PyData.canLayAll0 (ns.map PyData.int) = true
  | [] => by simp [PyData.canLayAll0]
  | n :: r => by simp [PyData.canLayAll0, PyData.canLay0, canLay_ints r]
theorem depth_ints : ∀ ns : List Int, PyData.depthAll (ns.map PyData.int) = 0
  | [] => by simp [PyData.depthAll]
  | n :: r => by simp [PyData.depthAll, PyData.depth, depth_ints r]
theorem shaped_dI (ns : List Int) : SeqAt.shaped (dI ns) = true := by
  unfold SeqAt.shaped dI
  simp [PyData.canLay0, PyData.depth, canLay_ints, depth_ints]
theorem eqvAll_ints : ∀ ns ms : List Int, PyData.eqvAll (ns.map PyData.int) (ms.map PyData.int) = decide (ns = ms)
  | [], [] => by simp [PyData.eqvAll]
  | [], m :: s => by simp [PyData.eqvAll]
  | n :: r, [] => by simp [PyData.eqvAll]
  | n :: r, m :: s => by
    simp only [List.map_cons, PyData.eqvAll, PyData.eqv, eqvAll_ints r s]
    by_cases h : n = m
    · subst h
      simp
    · simp [h]
theorem eqv_dI (ns ms : List Int) : PyData.eqv (dI ns) (dI ms) = decide (ns = ms) := by
  unfold dI
  simp [PyData.eqv, eqvAll_ints]
theorem dpAll_ints {K : PySem.W.Frag} {H : Hp} : ∀ ns : List Int, DpAll K H (ns.map V.int) (ns.map PyData.int)
  | [] => .nil
  | n :: r => .cons (.int n) (dpAll_ints r)
theorem dp_I {K : PySem.W.Frag} {H : Hp} {a : Addr} {ns : List Int} (h : SqL K H a (ns.map V.int)) : Dp K H (.ref a) (dI ns) := .lst h (dpAll_ints ns)
section
variable {K : PySem.W.Frag} {σ : L2.St} {H H' : Hp} {ta tb te tx : TE} {t u : TT} {x y z v : V} {r : R2} {D : Ends} {tu tw tz : TS}
theorem evp_op {r : R2} {P1 P2 : V → Hp → Prop} (ha : EvP ta σ H P1) (hb : EvP tb σ H P2) (st : Stable P1) (hr : ∀ v w H1, Ex H H1 → P1 v H1 → P2 w H1 → RV r v w H1 z) : Ev (tOp r ta tb) σ H z := fun H1 e Q q =>
  ha H1 e _ fun v H2 e2 hv => hb H2 (e.trans e2) _ fun w H3 e3 hw => hr v w H3 ((e.trans e2).trans e3) (st _ _ _ e3 hv) hw H3 (Ex.refl H3) Q fun H4 e4 => q H4 ((e2.trans e3).trans e4)
theorem ev_eqD {ns ms : List Int} (ha : EvP ta σ H (IsL (ns.map V.int))) (hb : EvP tb σ H (IsL (ms.map V.int))) : Ev (tOp (rEqD K) ta tb) σ H (.bl (decide (ns = ms))) :=
  evp_op ha hb st_L fun v w H1 e1 ⟨a, ea, h1⟩ ⟨b, eb, h2⟩ H2 e2 Q q => ⟨dI ns, dI ms, by rw [ea]; exact dp_I (sq_of (e2 _ _ h1)), by rw [eb]; exact dp_I (sq_of (e2 _ _ h2)), shaped_dI ns, shaped_dI ms, by rw [eqv_dI]; exact q H2 (Ex.refl H2)⟩
theorem ev_neD {ns ms : List Int} (ha : EvP ta σ H (IsL (ns.map V.int))) (hb : EvP tb σ H (IsL (ms.map V.int))) : Ev (tOp (rNeD K) ta tb) σ H (.bl (!decide (ns = ms))) :=
  evp_op ha hb st_L fun v w H1 e1 ⟨a, ea, h1⟩ ⟨b, eb, h2⟩ H2 e2 Q q => ⟨dI ns, dI ms, by rw [ea]; exact dp_I (sq_of (e2 _ _ h1)), by rw [eb]; exact dp_I (sq_of (e2 _ _ h2)), shaped_dI ns, shaped_dI ms, by rw [eqv_dI]; exact q H2 (Ex.refl H2)⟩
theorem evp_nil {P : List Int} : EvP (tLst tNil) σ H (IsL (([] : List Int).map V.int)) := evp_l (el_lst ea_nil (by simp))
theorem evp_lf {xs : List V} (h : EvL te σ H xs) : EvP te σ H (fun v H2 => ∃ p, v = .ref p ∧ H p = none ∧ H2 p = some (.lst xs)) := fun H1 e Q q => h H1 e _ fun p H2 hp e2 h2 => q _ H2 e2 ⟨p, rfl, fresh_back e hp, h2⟩
/-- an if behind which a word holds -/
theorem q_whenM {Mid : L2.St → Hp → Prop} {b : Bool} (k : ∀ σ' H', Mid σ' H' → tz D σ' H') (h : EvT t σ H b) (h1 : b = true → (∀ σ' H', Mid σ' H' → tz D σ' H') → ∀ H1, Ex H H1 → tu { D with nx := tz D } σ H1) (h2 : b = false → ∀ H1, Ex H H1 → Mid σ H1) : tSeq (tIfS t tu tNext) tz D σ H :=
  q_when h (fun hb H1 e1 => h1 hb k H1 e1) (fun hb H1 e1 => k _ _ (h2 hb H1 e1))
theorem s_whenM {Mid : L2.St → Hp → Prop} {b : Bool} (k : ∀ σ' H', Mid σ' H' → D.nx σ' H') (h : EvT t σ H b) (h1 : b = true → (∀ σ' H', Mid σ' H' → D.nx σ' H') → ∀ H1, Ex H H1 → tu D σ H1) (h2 : b = false → ∀ H1, Ex H H1 → Mid σ H1) : tIfS t tu tNext D σ H :=
  s_when h (fun hb H1 e1 => h1 hb k H1 e1) (fun hb H1 e1 => k _ _ (h2 hb H1 e1))
/-- the last item -/
theorem ev_last {p : Addr} {ns : List Int} (ha : Ev ta σ H (.ref p)) (h : SqL K H p (ns.map V.int)) (hn : ns ≠ []) : Ev (tOp (rIxL K) ta (tUn uNeg (tC (.int 1)))) σ H (.int (ns.getD (ns.length - 1) 0)) := by
  refine ev_op ha (ev_neg ev_c) (rv_ixL h ?_)
  have hl : 0 < ns.length := List.length_pos_iff.mpr hn
  have e : ns.map V.int = ns.dropLast.map V.int ++ [.int (ns.getD (ns.length - 1) 0)] := by
    conv => lhs; rw [← List.dropLast_concat_getLast hn]
    rw [List.map_append, List.getLast_eq_getElem, List.getD_eq_getElem?_getD, List.getElem?_eq_getElem (by omega)]
    rfl
  rw [e]
  exact atI_last _ _
end
/-! // by any number but nought, below 2 ^ 9000 in size -/
section
variable {X : Cx}
def CDivG (_ j : Int) : Prop := j ≠ 0 ∧ j.natAbs.log2 < 9000
abbrev oModN : R2 := rI (fun _ j => j ≠ 0) fun i j => .int (i.fmod j)
abbrev oDivN : R2 := rI CDivG fun i j => .int (i.fdiv j)
theorem op_fdivWN : OpR X (binaryOp .FloorDiv) oDivN := opI fun i j _ _ _ _ _ hc q => floordiv_int hc.1 q (.inl (PyProof.noPylong_of_log2 hc.2))
end

/-! ### own errors: their classes by name, raising, catching -/
structure Cs where
  (PolyError NoNumber NoPower ByNought NotWhole NoMeet NoParts NotWritten : Addr)
/-- what the written part says of an own error's class at C -/
structure ExK (K : PySem.W.Frag) (C : Addr) : Prop where
  b : PySem.W.subIn K (.ref C) (.type "BaseException") = some true
  t : PySem.W.typeIn K (.ref C) = some (.type "type")
  c : ExcC K C
  v : PySem.W.kitOne K (.ref C) (.type "ValueError") = some true
theorem kit_sub {K : PySem.W.Frag} {D : Addr} {b : Bool} (h : PySem.W.subIn K (.ref D) (.type "ValueError") = some b) : PySem.W.kitOne K (.ref D) (.type "ValueError") = some b := by
  have e1 : ((Value.ref D) == Value.type "ValueError") = false := by
    rw [beq_eq_false_iff_ne]
    exact fun z => by cases z
  have e2 : PySem.W.kitMeta "ValueError" = true := by decide +kernel
  show (if ((Value.ref D) == Value.type "ValueError") = true then some true else if PySem.W.kitMeta "ValueError" = true then PySem.W.subIn K (.ref D) (.type "ValueError") else none) = some b
  rw [e1, if_neg Bool.false_ne_true, if_pos e2]
  exact h
/-- the classes at l, each below the one at p, and none below another -/
structure Tx (K : PySem.W.Frag) (p : Addr) (l : List Addr) : Prop where
  base : ExK K p
  cls : ∀ c ∈ l, ExK K c ∧ PySem.W.subIn K (.ref c) (.ref p) = some true ∧ PySem.W.subIn K (.ref c) (.ref c) = some true
  nd : l.Pairwise fun c d => PySem.W.subIn K (.ref c) (.ref d) = some false ∧ PySem.W.subIn K (.ref d) (.ref c) = some false
section
variable {K : PySem.W.Frag} {p : Addr} {l : List Addr} {c d : Addr}
theorem ExK.exm (x : ExK K d) {b : Bool} (h : PySem.W.subIn K (.ref c) (.ref d) = some b) : PySem.W.exmOne K (.ref c) (.ref d) = some b := PySem.W.exm_ref x.b x.c.hd x.t h
theorem Tx.self (T : Tx K p l) (h : c ∈ l) : PySem.W.exmOne K (.ref c) (.ref c) = some true := (T.cls c h).1.exm (T.cls c h).2.2
theorem Tx.up (T : Tx K p l) (h : c ∈ l) : PySem.W.exmOne K (.ref c) (.ref p) = some true := T.base.exm (T.cls c h).2.1
end
/-- a def that may raise, called by its name -/
structure ClX (P : Program) (w : World) (K : PySem.W.Frag) (mg : Str → Option Value) (base : Heap) (k : Nat) (x : Str) (sp : Sp) : Prop where
  ex : ∃ (f : Addr) (fd : FuncData) (ps : List Str), FnOk P w K mg base (L2.CX P w) k f fd ps sp ∧ mg x = some (.ref f) ∧ PySem.W.keepIn K (.ref f) = true ∧ Binds K fd ps []
/-- an own error's class, raised here -/
structure RsX (K : PySem.W.Frag) (mg : Str → Option Value) (x : Str) (C : Addr) : Prop where
  g : mg x = some (.ref C)
  q : PySem.W.excIn K C [.type "ValueError", .type "Exception", .type "BaseException", .type "object"] "ValueError.__new__" = true
  k : PySem.W.keepIn K (.ref C) = true
  b : PySem.W.subIn K (.ref C) (.type "BaseException") = some true
  t : PySem.W.typeIn K (.ref C) = some (.type "type")
def tRaiseC (C : Addr) (W : WX) : TS := fun _ σ H => W (.ref C) none σ H
/-- raise X(e), X of one argument -/
def tRaise1 (C : Addr) (W : WX) (te : TE) : TS := fun _ σ H => te σ H fun _ H1 => W (.ref C) none σ H1
def tTryO (K : PySem.W.Frag) (c : Value) (tb : WX → TS) (ts : Addr → Value → Option Addr → TS) (Wout : WX) : TS := fun D σ H => tb (wOnly K c ts Wout D) D σ H
def tTryA (K : PySem.W.Frag) (c : Value) (i : Nat) (tb : WX → TS) (ts : Addr → Value → Option Addr → TS) (Wout : WX) : TS := fun D σ H => tb (wAs K c i ts Wout D) D σ H
def tTryM (K : PySem.W.Frag) (l : List (Value × (Addr → Value → Option Addr → TS))) (tb : WX → TS) (Wout : WX) : TS := fun D σ H => tb (wMany K Wout D l) D σ H
/-- isinstance(e, U), e the exception that the suite holds at a -/
def tIsE (K : PySem.W.Frag) (a : Addr) (cls : Value) (d : Option Addr) (te : TE) (U : String) : TE := fun σ H Q => ∃ D, cls = .ref D ∧ d = none ∧ ExcC K D ∧ tCB (rIsE K D a) (tCons te (tCons (tC (.ty U)) tNil)) σ H Q
theorem ev_isE {K : PySem.W.Frag} {a D : Addr} {te : TE} {U : String} {σ : L2.St} {H : Hp} {b : Bool} (h : Ev te σ H (.ref a)) (hC : ExcC K D) (hk : PySem.W.kitOne K (.ref D) (.type U) = some b) : Ev (tIsE K a (.ref D) none te U) σ H (.bl b) := fun H1 e Q q =>
  ⟨D, rfl, rfl, hC, h H1 e _ fun H2 e2 => ⟨.ty U, .type U, b, rfl, fun u r => r, hk, q H2 e2⟩⟩
abbrev wNone : WX := fun _ _ _ _ => False
abbrev wOf (E : XK) : WX := fun cls d _ H => E cls d H
section
variable {X : Cx} {k j : Nat} {x : Str} {sp : Sp} {p pos pos' p2 : Pos} {e : Expr} {es : List Expr} {t : TA} {C : Addr} {W : WX} {m : Str} {jj : Nat}
theorem pclX (c : ClX X.prog X.w X.K X.mg X.base k x sp) (hr : Room j X.A) (hk : k ≤ j) (hg : Gl X x) (ha : PA X (e :: es) t)
    (hdb : (x == ("__debug__" : Str)) = false := by decide) (he : starEach (e :: es) X.env = (false, eval e X.env) :: starEach es X.env := by rfl) (hpl : (backTo pos (starEach es X.env)).any (·.1) = false := by rfl) :
    PE X (.Call (.Name x p) (e :: es) [] pos) (tCall sp [] E0 t) := by
  obtain ⟨f, fd, ps, F, hm, kp, b⟩ := c.ex
  exact pe_call F (hr.mono hk) hg hm kp b .nil passL ha hdb he hpl
theorem pclS (c : ClX X.prog X.w X.K X.mg X.base k x sp) (tk : Takes X W) (hr : Room j X.A) (hk : k ≤ j) (hg : Gl X x) (ha : PA X (e :: es) t)
    (hdb : (x == ("__debug__" : Str)) = false := by decide) (he : starEach (e :: es) X.env = (false, eval e X.env) :: starEach es X.env := by rfl) (hpl : (backTo pos (starEach es X.env)).any (·.1) = false := by rfl) :
    PE X (.Call (.Name x p) (e :: es) [] pos) (tCallS sp (WE W) t) := by
  obtain ⟨f, fd, ps, F, hm, kp, b⟩ := c.ex
  exact pe_callS F (hr.mono hk) hg hm kp b (fun σ => passAt tk σ) ha hdb he hpl
theorem ps_raiseC (R : RsX X.K X.mg x C) (hc : X.calm = true) (tk : Takes X W) (hg : Gl X x) (hdb : (x == ("__debug__" : Str)) = false := by decide) : PS X (.Raise (some (.Call (.Name x p) [.Constant (.str m) jj p2] [] pos)) none pos') (tRaiseC C W) :=
  ps_raise hc tk (pmk_own PySem.F.excBase_ValueError R.q R.g R.k (raises_own R.b R.t) hg hdb)
theorem ps_raise1 {te : TE} (R : RsX X.K X.mg x C) (hc : X.calm = true) (tk : Takes X W) (hg : Gl X x) (he : PE X e te) (hs : starEach [e] X.env = (false, eval e X.env) :: starEach [] X.env := by rfl) (hdb : (x == ("__debug__" : Str)) = false := by decide) : PS X (.Raise (some (.Call (.Name x p) [e] [] pos)) none pos') (tRaise1 C W te) :=
  ps_raise hc tk (SkE.pmk_own1 PySem.F.excBase_ValueError R.q R.g R.k (raises_own R.b R.t) hg he hs hdb)
theorem pe_isE {a : Addr} {oe : Obj} {cls : Value} {d : Option Addr} {pn : List (Addr × Obj)} {te : TE} {n U : Str} {u : String} {pu pf pnn : Pos} (hz : Zc cls d oe) (hf : ∃ vs, oe.data = .fields vs) (he : PE (X.suite a ((a, oe) :: pn)) (.Name n pnn) te) (hg : Gl X "isinstance") (hm : X.mg "isinstance" = none) (hgU : Gl X U) (hmU : X.mg U = none) (hvU : bootBuiltins U = some (.type u)) (hnU : U ≠ "__name__" := by decide) (hdU : (U == ("__debug__" : Str)) = false := by decide) :
    PE (X.suite a ((a, oe) :: pn)) (.Call (.Name "isinstance" pf) [.Name n pnn, .Name U pu] [] pos) (tIsE X.K a cls d te u) := by
  refine ⟨fun pins s σ H Q I h => ?_⟩
  obtain ⟨D, rfl, rfl, hC, h⟩ := h
  have hu : PE (X.suite a ((a, oe) :: pn)) (.Name U pu) (tC (.ty u)) := pe_bltn hgU hmU hvU rfl hnU hdU
  exact (pe_callB (call_isE hC hz hf) hg hm (by decide +kernel) (pa_cons he (pa_cons hu pa_nil))).run pins s σ H Q I h
end

/-! ### odd, half, in a tuple of data, tuples of what holds -/
abbrev oOdd : R2 := fun x y H Q => ∃ n : Nat, x = .int (n : Int) ∧ y = .int 1 ∧ Q (.int ((n % 2 : Nat) : Int)) H
abbrev oHalf : R2 := fun x y H Q => ∃ n : Nat, x = .int (n : Int) ∧ y = .int 1 ∧ Q (.int ((n / 2 : Nat) : Int)) H
theorem units1 {k : Nat} {A : Around} (r : Room k A) : A.units + 65 < cLine := by
  have := r.un
  omega
def rInDT (K : PySem.W.Frag) : R2 := fun x y H Q => ∃ d ds, Dp K H x d ∧ Dp K H y (.tuple ds) ∧ SeqAt.shaped d = true ∧ SeqAt.shaped (.tuple ds) = true ∧ Q (.bl (ds.any fun z => PyData.eqv z d)) H
theorem op_inDT {X : Cx} (hu : X.A.units + 65 < cLine) : OpR X (compareOp .In) (rInDT X.K) := by
  intro pins s σ H x y v u Q I rx ry h
  obtain ⟨d, ds, hd, he, sd, se, q⟩ := h
  obtain ⟨as, r1⟩ := Dp.reads I d x v hd rx
  obtain ⟨bs, r2⟩ := Dp.reads I (.tuple ds) y u he ry
  exact SeqAt.in_tuple_reads r2 r1 (SeqAt.canLay_of_shaped se) (SeqAt.canLay_of_shaped sd) (room_in_shaped sd hu) ⟨.bl _, H, I, rfl, q⟩
def IsT (Ps : List (V → Hp → Prop)) : V → Hp → Prop := fun v H => ∃ t vs, v = .ref t ∧ H t = some (.tup vs) ∧ All2 Ps vs H
theorem All2.mono : ∀ {Ps : List (V → Hp → Prop)} {vs : List V} {H H' : Hp}, (∀ P ∈ Ps, Stable P) → Ex H H' → All2 Ps vs H → All2 Ps vs H'
  | [], [], _, _, _, _, _ => trivial
  | P :: Ps, v :: vs, _, _, st, e, h => ⟨st P List.mem_cons_self _ _ _ e h.1, All2.mono (fun Q hQ => st Q (List.mem_cons_of_mem _ hQ)) e h.2⟩
  | [], _ :: _, _, _, _, _, h => h.elim
  | _ :: _, [], _, _, _, _, h => h.elim
theorem All2.len : ∀ {Ps : List (V → Hp → Prop)} {vs : List V} {H : Hp}, All2 Ps vs H → vs.length = Ps.length
  | [], [], _, _ => rfl
  | P :: Ps, v :: vs, _, h => by
    have := All2.len h.2
    simp [this]
  | [], _ :: _, _, h => h.elim
  | _ :: _, [], _, h => h.elim
theorem st_T {Ps : List (V → Hp → Prop)} (st : ∀ P ∈ Ps, Stable P) : Stable (IsT Ps) := fun _ _ _ e ⟨t, vs, h1, h2, h3⟩ => ⟨t, vs, h1, e _ _ h2, h3.mono st e⟩
def dLs (xss : List (List Int)) : List PyData := xss.map dI
theorem canLay_dLs : ∀ xss : List (List Int), PyData.canLayAll0 (dLs xss) = true
  | [] => by simp [dLs, PyData.canLayAll0]
  | n :: r => by
    have := canLay_dLs r
    unfold dLs at this
    simp [dLs, PyData.canLayAll0, PyData.canLay0, dI, canLay_ints, this]
theorem depth_dLs : ∀ xss : List (List Int), PyData.depthAll (dLs xss) ≤ 1
  | [] => by simp [dLs, PyData.depthAll]
  | n :: r => by
    have := depth_dLs r
    unfold dLs at this
    simp [dLs, PyData.depthAll, PyData.depth, dI, depth_ints, this]
theorem shaped_tup (xss : List (List Int)) : SeqAt.shaped (.tuple (dLs xss)) = true := by
  unfold SeqAt.shaped
  have := depth_dLs xss
  simp [PyData.canLay0, PyData.depth, canLay_dLs]
  omega
theorem shaped_lst (xss : List (List Int)) : SeqAt.shaped (.list (dLs xss)) = true := by
  unfold SeqAt.shaped
  have := depth_dLs xss
  simp [PyData.canLay0, PyData.depth, canLay_dLs]
  omega
theorem any_dLs (ns : List Int) : ∀ xss : List (List Int), (dLs xss).any (fun z => PyData.eqv z (dI ns)) = decide (ns ∈ xss)
  | [] => by simp [dLs]
  | m :: r => by
    have := any_dLs ns r
    unfold dLs at this
    simp only [dLs, List.map_cons, List.any_cons, this, eqv_dI, List.mem_cons]
    by_cases h : m = ns
    · subst h
      simp
    · have h2 : ¬ ns = m := fun e => h e.symm
      simp [h, h2]
theorem dpAll_Ls {K : PySem.W.Frag} {H : Hp} : ∀ {xss : List (List Int)} {vs : List V}, All2 (xss.map fun xs => IsL (xs.map V.int)) vs H → DpAll K H vs (dLs xss)
  | [], [], _ => .nil
  | xs :: xss, v :: vs, h => by
    obtain ⟨⟨a, rfl, ha⟩, h2⟩ := h
    exact .cons (dp_I (sq_of ha)) (dpAll_Ls h2)
  | [], _ :: _, h => h.elim
  | _ :: _, [], h => h.elim
section
variable {K : PySem.W.Frag} {σ : L2.St} {H H' : Hp} {ta tb te tx : TE} {t u : TT} {x y z v : V} {r : R2} {D : Ends} {tu tw tz : TS}
theorem ev_odd {n : Nat} (h : Ev te σ H (.int (n : Int))) : Ev (tOp oOdd te (tC (.int 1))) σ H (.int ((n % 2 : Nat) : Int)) := fun H1 e Q q => h H1 e _ fun H2 e2 => ⟨n, rfl, rfl, q H2 e2⟩
theorem ev_half {n : Nat} (h : Ev te σ H (.int (n : Int))) : Ev (tOp oHalf te (tC (.int 1))) σ H (.int ((n / 2 : Nat) : Int)) := fun H1 e Q q => h H1 e _ fun H2 e2 => ⟨n, rfl, rfl, q H2 e2⟩
theorem evp_tup {tt : TA} {Ps : List (V → Hp → Prop)} (h : EvPs tt σ H Ps) (st : ∀ P ∈ Ps, Stable P) (hl : Ps.length ≤ 1000) : EvP (tTup tt) σ H (IsT Ps) := fun H1 e Q q =>
  h H1 e _ fun vs H2 e2 hvs => ⟨sz_of (by rw [hvs.len]; omega), fun p hp => q _ _ (e2.trans (Ex.new hp)) ⟨p, vs, rfl, upd_same, hvs.mono st (Ex.new hp)⟩⟩
theorem ev_inDT {ns : List Int} {xss : List (List Int)} (ha : EvP ta σ H (IsL (ns.map V.int))) (hb : EvP tb σ H (IsT (xss.map fun xs => IsL (xs.map V.int)))) : Ev (tOp (rInDT K) ta tb) σ H (.bl (decide (ns ∈ xss))) :=
  evp_op ha hb st_L fun v w H1 e1 ⟨a, ea, h1⟩ ⟨b, vs, eb, h2, h3⟩ H2 e2 Q q => ⟨dI ns, dLs xss, by rw [ea]; exact dp_I (sq_of (e2 _ _ h1)), by
    rw [eb]
    refine .tup (st_of (e2 _ _ h2)) (dpAll_Ls (h3.mono ?_ e2))
    intro P hP
    obtain ⟨xs, _, rfl⟩ := List.mem_map.mp hP
    exact st_L, shaped_dI ns, shaped_tup xss, by rw [any_dLs]; exact q H2 (Ex.refl H2)⟩
/-- statements in a try's body: a call that comes back, one that raises -/
theorem s_dropS {sp : Sp} {W : WX} {tt : TA} {vs : List V} (h : EvA tt σ H vs) (k : ∀ H1, Ex H H1 → sp vs H1 (fun _ H2 => D.nx σ H2) (fun cls d H2 => W cls d σ H2)) : tDrop (tCallS sp (WE W) tt) D σ H :=
  h H (Ex.refl H) _ fun H1 e1 => k H1 e1
end
section
variable {K : PySem.W.Frag} {σ : L2.St} {H : Hp} {D : Ends} {tz : TS} {c : Value} {tb : WX → TS} {ts : Addr → Value → Option Addr → TS} {Wout : WX} {i : Nat} {l : List (Value × (Addr → Value → Option Addr → TS))}
theorem q_tryO (h : tb (wOnly K c ts Wout { D with nx := tz D }) { D with nx := tz D } σ H) : tSeq (tTryO K c tb ts Wout) tz D σ H := h
theorem s_tryO (h : tb (wOnly K c ts Wout D) D σ H) : tTryO K c tb ts Wout D σ H := h
theorem q_tryA (h : tb (wAs K c i ts Wout { D with nx := tz D }) { D with nx := tz D } σ H) : tSeq (tTryA K c i tb ts Wout) tz D σ H := h
theorem s_tryA (h : tb (wAs K c i ts Wout D) D σ H) : tTryA K c i tb ts Wout D σ H := h
theorem q_tryM (h : tb (wMany K Wout { D with nx := tz D } l) { D with nx := tz D } σ H) : tSeq (tTryM K l tb Wout) tz D σ H := h
theorem s_tryM (h : tb (wMany K Wout D l) D σ H) : tTryM K l tb Wout D σ H := h
end
abbrev tJoin (ts : List TE) : TE := fun σ H Q => tJs ts Str.empty σ H fun out H1 => Q (.str out) H1
section
variable {K : PySem.W.Frag} {σ : L2.St} {H H' : Hp} {ta tb te tx : TE} {x y z v : V} {r : R2}
theorem evp_opP {P1 P2 P : V → Hp → Prop} (ha : EvP ta σ H P1) (hb : EvP tb σ H P2) (st : Stable P1) (hr : ∀ v w H1, Ex H H1 → P1 v H1 → P2 w H1 → ∀ Q : VK, (∀ z H2, Ex H1 H2 → P z H2 → Q z H2) → r v w H1 Q) : EvP (tOp r ta tb) σ H P := fun H1 e Q q =>
  ha H1 e _ fun v H2 e2 hv => hb H2 (e.trans e2) _ fun w H3 e3 hw => hr v w H3 ((e.trans e2).trans e3) (st _ _ _ e3 hv) hw Q fun z H4 e4 hz => q z H4 ((e2.trans e3).trans e4) hz
def IsS (Ps : List (V → Hp → Prop)) : V → Hp → Prop := fun v H => ∃ l vs, v = .ref l ∧ H l = some (.lst vs) ∧ All2 Ps vs H
theorem st_S {Ps : List (V → Hp → Prop)} (st : ∀ P ∈ Ps, Stable P) : Stable (IsS Ps) := fun _ _ _ e ⟨t, vs, h1, h2, h3⟩ => ⟨t, vs, h1, e _ _ h2, h3.mono st e⟩
theorem evp_lst {tt : TA} {Ps : List (V → Hp → Prop)} (h : EvPs tt σ H Ps) (st : ∀ P ∈ Ps, Stable P) (hl : Ps.length ≤ 1000) : EvP (tLst tt) σ H (IsS Ps) := fun H1 e Q q =>
  h H1 e _ fun vs H2 e2 hvs => ⟨sz_of (by rw [hvs.len]; omega), fun p hp => q _ _ (e2.trans (Ex.new hp)) ⟨p, vs, rfl, upd_same, hvs.mono st (Ex.new hp)⟩⟩
end
abbrev oIsN : R2 := fun x y H Q => y = .non ∧ Q (.bl (decide (x = .non))) H
section
variable {K : PySem.W.Frag} {σ : L2.St} {H H' : Hp} {ta tb te tx : TE} {x y z v : V} {r : R2}
theorem ev_isN (ha : Ev ta σ H v) : Ev (tOp oIsN ta (tC .non)) σ H (.bl (decide (v = .non))) := ev_op ha ev_c (rv_val fun H1 e Q q => ⟨rfl, q⟩)
theorem ev_eqS {s t : Str} (ha : Ev ta σ H (.str s)) (hb : Ev tb σ H (.str t)) : Ev (tOp rEq ta tb) σ H (.bl (decide (V.str s = V.str t))) := ev_op ha hb (rv_eq rfl)
theorem ev_neS {s t : Str} (ha : Ev ta σ H (.str s)) (hb : Ev tb σ H (.str t)) : Ev (tOp rNe ta tb) σ H (.bl (!decide (V.str s = V.str t))) := ev_op ha hb (rv_ne rfl)
/-- an item of a tuple -/
theorem ev_ixT {p : Addr} {xs : List V} {i : Int} {j : Nat} (ha : Ev ta σ H (.ref p)) (hb : Ev tb σ H (.int i)) (h : H p = some (.tup xs)) (hi : i = (j : Int)) (hj : xs[j]? = some v) : Ev (tOp (rIxT K) ta tb) σ H v := by
  subst hi
  exact ev_op ha hb (rv_ixT (st_of h) (atI_nat hj))
theorem ev_lenT {p : Addr} {xs : List V} (ha : Ev ta σ H (.ref p)) (h : SqT K H p xs) : Ev (tCB (rLenS K) (tCons ta tNil)) σ H (.int (xs.length : Int)) := fun H1 e Q q =>
  ha H1 e _ fun H2 e2 => ⟨p, xs, rfl, Or.inr (ex_t (e.trans e2) h), q H2 e2⟩
end
section
variable {σ : L2.St} {H : Hp} {D : Ends}
theorem s_dropSP {sp : Sp} {W : WX} {tt : TA} {Ps : List (V → Hp → Prop)} (h : EvPs tt σ H Ps) (k : ∀ vs H1, Ex H H1 → All2 Ps vs H1 → sp vs H1 (fun _ H2 => D.nx σ H2) (fun cls d H2 => W cls d σ H2)) : tDrop (tCallS sp (WE W) tt) D σ H :=
  h H (Ex.refl H) _ fun vs H1 e1 hv => k vs H1 e1 hv
end
section
variable {K : PySem.W.Frag} {σ : L2.St} {H H' : Hp} {ta tb te tx : TE} {x y z v : V}
/-- an item of a new list -/
theorem ev_ixN {i : Int} {j : Nat} {ns : List Int} (ha : EvL ta σ H (ns.map V.int)) (hb : Ev tb σ H (.int i)) (hi : i = (j : Int)) (hj : j < ns.length) : Ev (tOp (rIxL K) ta tb) σ H (.int (ns.getD j 0)) := fun H1 e Q q =>
  ha H1 e _ fun p H2 hp e2 h2 => hb H2 (e.trans e2) _ fun H3 e3 => by
    subst hi
    refine rv_ixL (K := K) (sq_of (e3 _ _ h2)) (atI_nat (v := .int (ns.getD j 0)) ?_) H3 (Ex.refl H3) Q fun H4 e4 => q H4 ((e2.trans e3).trans e4)
    rw [List.getElem?_map, List.getElem?_eq_getElem hj, List.getD_eq_getElem?_getD, List.getElem?_eq_getElem hj]
    rfl
end
end PP
/-! Big: whole division by numbers of any size, where Python's own way for large ones asks for frames -/
namespace PP
open PySem PySem.Spec PyProof.Rows L2 Evl
/-- what a heap and a program must say for that way -/
structure Sr (P : Program) (base : Heap) : Prop where
  seer : base.NoSeer
  tree : P.given.tree = none
abbrev oDivG : R2 := rI (fun _ j => j ≠ 0) fun i j => .int (i.fdiv j)
/-- the frame on top is a plain one of the program -/
def TopF (X : Cx) : Prop := ∃ (env : Env) (l : List Env), X.stack = env :: l ∧ env.scope.isGenerator = false ∧ env.scope.isCoroutine = false ∧ env.builtins = builtinsNs ∧ env.globals = mainGlobals
theorem op_fdivL {X : Cx} {k : Nat} (sr : Sr X.prog X.base) (r : Room k X.A) (hk : 32 ≤ k) (tf : TopF X) : OpR X (binaryOp .FloorDiv) oDivG := fun pins s σ H x y v u Q I rx ry h => by
  obtain ⟨i, j, rfl, rfl, hc, q⟩ := h
  obtain ⟨t1, rfl⟩ := rx
  obtain ⟨t2, rfl⟩ := ry
  obtain ⟨env, l, e1, e2, e3, e4, e5⟩ := tf
  have hd : X.A.depth + 100 < recursionLimit := by
    have := r.dp
    omega
  exact floordiv_int hc ⟨.int _, H, I.tok _, ⟨_, rfl⟩, q⟩ (.inr (PylongRoom.of I.nolimit hd (SeerAt.of (sr.seer.keeps I.bk) sr.tree (I.ok.frames.trans (congrArg some e1)) e2 e3 e4 e5)))
section
variable {s1 : Heap} {H : Hp}
theorem hid_one {a : Addr} {its : Array Value} {b : Addr} {o : Obj} (ha : s1.get? a = some ⟨.type "list", none, .seq its, #[]⟩) (hA : ∀ b, H b ≠ none → b = a) (e : s1.get? b = some o) (hne : o.cls ≠ .type "list") : (hidT s1 H).get? b = some o := by
  refine hidT_get e ?_
  cases q : H b with
  | none => rfl
  | some u =>
    have eb : b = a := hA b fun z => by
      rw [q] at z
      cases z
    rw [eb, ha] at e
    cases e
    exact absurd rfl hne
theorem hid_seer {a : Addr} {its : Array Value} (ha : s1.get? a = some ⟨.type "list", none, .seq its, #[]⟩) (hA : ∀ b, H b ≠ none → b = a) (hN : ∀ {b : Addr} {m : Str → Option Value}, s1.Ns b m → (hidT s1 H).Ns b m) (S : s1.NoSeer) : (hidT s1 H).NoSeer := by
  obtain ⟨⟨mc, c1, c2⟩, ⟨mm, m1, m2⟩, ⟨mb, b1, b2⟩, mg, bm, ob, g1, g2, g3, g4, g5⟩ := S
  exact ⟨⟨mc, hN c1, c2⟩, ⟨mm, hN m1, m2⟩, ⟨mb, hN b1, b2⟩, mg, bm, ob, hN g1, g2, hid_one ha hA g3 (by rw [g4]; decide), g4, g5⟩
end
/-- the law's own call, over a base of which that is known -/
theorem own_call {P : Program} {w : World} {K : PySem.W.Frag} {mg mb : Str → Option Value} {CX : CXT} {k : Nat} {fa a : Addr} {fd : FuncData} {x : Str} {sp : Sp} {s1 : Shared} {us : List Value} {ns : List Int}
    (SE : s1.heap.NoSeer) (KX : K.In s1.heap) (n1 : s1.heap.Ns mainGlobals mg) (n2 : s1.heap.Ns builtinsNs mb) (n3 : ∀ y : Str, y ≠ "__name__" → mb y = bootBuiltins y) (lim : s1.heap.NoLimit) (g0 : s1.gens = #[])
    (ha : s1.heap.get? a = some ⟨.type "list", none, .seq us.toArray, #[]⟩) (hi : IntsAre us ns) (hl : ns.length ≤ sizeLine) (hr : Room k callerA)
    (F : ∀ base : Heap, K.In base → base.Ns mainGlobals mg → base.NoSeer → FnOk P w K mg base CX k fa fd [x] sp) (hbind : ∀ (s : Shared) (u : Value), BindsTo s fd ⟨[u], []⟩ [(x, u)])
    (hsp : ∀ H : Hp, Only H → SqL K H a (ns.map V.int) → sp [.ref a] H (fun v _ => v = .bl true) fun _ _ _ => False) (hCX : ∀ H e s', CX [] H s1 (fun _ _ _ => False) e s' → False) :
    codeAny (model P w) callerA (.call (.ref fa) ⟨[.ref a], []⟩) (fun r s2 => r = .ok (.ret (.bool true)) ∧ OldK s1.heap s2.heap ∧ s2.os = s1.os ∧ AllBare s2.gens) s1 := by
  have vi := vals_ints hi
  have li := hi.length
  suffices core : ∀ H : Hp, Only H → SqL K H a (ns.map V.int) → HOk P w H s1.heap → (∀ b, H b ≠ none → b = a) → (H a ≠ none → K.lookup a = none) →
      codeAny (model P w) callerA (.call (.ref fa) ⟨[.ref a], []⟩) (fun r s2 => r = .ok (.ret (.bool true)) ∧ OldK s1.heap s2.heap ∧ s2.os = s1.os ∧ AllBare s2.gens) s1 by
    cases hk : K.lookup a with
    | some o =>
      have e := KX a o hk
      rw [ha] at e
      cases e
      exact core (fun _ => none) (fun _ => .inl rfl) (.inr ⟨_, us.toArray, _, hk, rfl, rfl, rfl, (by rw [List.size_toArray, li]; exact hl), by simpa using vi⟩) (fun b u z => nomatch (show (none : Option HO) = some u from z)) (fun b z => absurd rfl z) fun z => absurd rfl z
    | none =>
      let script : Obj := ⟨.type "list", none, .seq us.toArray, #[]⟩
      refine core (fun b => if b = a then some (.frz script (.lst (ns.map V.int))) else none) (fun b => ?_) (.inl (.inr ⟨script, if_pos rfl⟩)) (fun b u z => ?_) (fun b z => ?_) fun _ => hk
      · by_cases hb : b = a
        · exact .inr ⟨script, _, if_pos hb⟩
        · exact .inl (if_neg hb)
      · by_cases hb : b = a
        · cases (if_pos hb).symm.trans z
          rw [hb]
          exact ⟨ha, by rw [List.length_map]; exact hl, us, _, vi, ha⟩
        · cases (if_neg hb).symm.trans z
      · exact Decidable.by_contra fun hb => z (if_neg hb)
  intro H hO hS ok hA hK
  have none_of : ∀ {b : Addr}, b ≠ a → H b = none := fun {b} hb => Classical.byContradiction fun z => hb (hA b z)
  have nsd : ∀ {b : Addr} {m : Str → Option Value}, s1.heap.Ns b m → (hidT s1.heap H).Ns b m := fun {b m} h => by
    obtain ⟨o, es, ep, e, d, r⟩ := h
    refine ⟨o, es, ep, hidT_get e (Classical.byContradiction fun z => ?_), d, r⟩
    rw [hA b z, ha] at e
    cases e
    cases (show Data.seq us.toArray _ = Data.dict es ep from d)
  have kin : K.In (hidT s1.heap H) := fun b o e => hidT_get (KX b o e) (Classical.byContradiction fun z => by
    have eb := hA b z
    rw [eb] at z e
    rw [hK z] at e
    cases e)
  have lim2 : (hidT s1.heap H).NoLimit := by
    obtain ⟨mc, h1, h2⟩ := lim
    exact ⟨mc, nsd h1, h2⟩
  have env : Env0 P w K mg (hidT s1.heap H) callerA [] s1 H := ⟨rfl, ⟨kin, nsd n1, ⟨mb, nsd n2, n3⟩, lim2⟩, fun b o e => of_hidT e, Nat.le_of_eq (hidT_size _ _), trivial, fun b hb => absurd (show b ∈ ([] : List Addr) from hb) (by simp), ok, .of_eq g0⟩
  refine codeAny_mono ((F _ kin (nsd n1) (hid_seer ha hA nsd SE)).run callerA [] s1 H ⟨[.ref a], []⟩ [.ref a] [.ref a] _ _ hr env (hbind s1 (.ref a)) (.cons rfl .nil) (hsp H hO hS)) fun r s2 h => ?_
  match r, h with
  | .error e, h => exact (hCX H e s2 h).elim
  | .ok .next, h => exact False.elim h
  | .ok .brk, h => exact False.elim h
  | .ok .cont, h => exact False.elim h
  | .ok (.ret u), h =>
    obtain ⟨v, H2, os, bare, un, ok2, rv, q⟩ := h
    obtain rfl : v = .bl true := q
    obtain rfl : u = Value.bool true := rv
    refine ⟨rfl, OldK.of_keep fun b o e => ?_, os, bare⟩
    cases q : H b with
    | none => exact un.keep b o e q (fun z => absurd (show b ∈ ([] : List Addr) from z) (by simp)) (by simp)
    | some u =>
      rcases hO b with z | ⟨ob, xs, z⟩
      · rw [q] at z
        cases z
      · have z2 := un.frzs b ob _ z
        have e1 := (ok b _ z).1
        have e2 := (ok2 b _ z2).1
        rw [e] at e1
        cases e1
        exact e2
theorem walk_big {l : PySem.W.OpenLaw} {n k : Nat} {q : Program} {loose : List Str} {XP : (Str → Option Value) → Heap → Prop} {YP : World → Heap → Prop} {d : DefRec} {K : Params → PySem.W.Frag} {CX : World → CXT} {sp : World → Sp} {x : Str}
    (imp : importsNone q = true) (hn : l.most = some n) (hn2 : n ≤ sizeLine) (hdf : d.params.defaults = []) (hr : Room k callerA) (hY : ∀ (w : World) (h : Heap), YP w h → (K w.params).In h)
    (F : ∀ (w : World) (mg : Str → Option Value) (fa : Addr) (h : Heap), (K w.params).In h → h.Ns mainGlobals mg → mg d.name = some (.ref fa) →
      ∃ fd : FuncData, (∀ (s : Shared) (u : Value), BindsTo s fd ⟨[u], []⟩ [(x, u)]) ∧ ∀ base : Heap, (K w.params).In base → base.Ns mainGlobals mg → base.NoSeer → FnOk l.prog w (K w.params) mg base (CX w) k fa fd [x] (sp w))
    (hsp : ∀ (w : World) (H : Hp) (a : Addr) (ns : List Int), ns.length ≤ n → Only H → SqL (K w.params) H a (ns.map V.int) → sp w [.ref a] H (fun v _ => v = .bl true) fun _ _ _ => False)
    (hCX : ∀ (w : World) (H : Hp) (s : Shared) (e : Value) (s' : Shared), CX w [] H s (fun _ _ _ => False) e s' → False) : PySem.W.WalkO q loose XP YP l.row.toRowW d [] (fun f vs => PySem.call f vs) :=
  Att.attach_call hn hdf fun w s0 s1 mg mb fa o pm cd doc a us ns G Y ho hd hcd hmg hobj hints hlen hg => by
    obtain ⟨fd, hb, hF⟩ := F w mg fa _ (hY w _ Y) G.T.g hmg
    exact own_call (G.T.seer imp) (hY w _ Y) G.T.g G.T.b G.T.builtins G.T.nolimit hg hobj hints (Nat.le_trans hlen hn2) hr hF hb (fun H hO hS => hsp w H a ns hlen hO hS) fun H e s' => hCX w H s1 e s'
end PP
/-! Math: the plain functions that the defs compute, over lists of ints; no Python here. -/
namespace PP

/-- a row without the noughts at its end -/
def trimI : List Int → List Int
  | [] => []
  | x :: r => if trimI r = [] ∧ x = 0 then [] else x :: trimI r
theorem trim_take : ∀ (ns : List Int) (s : Nat), s ≤ ns.length → (∀ i, s ≤ i → i < ns.length → ns.getD i 0 = 0) → (s = 0 ∨ ns.getD (s - 1) 0 ≠ 0) → trimI ns = ns.take s
  | [], s, _, _, _ => by simp [trimI]
  | x :: r, 0, _, hz, _ => by
    have ih := trim_take r 0 (Nat.zero_le _) (fun i h1 h2 => by
      have := hz (i + 1) (by omega) (by simp; omega)
      simpa using this) (.inl rfl)
    have hx : x = 0 := by
      have := hz 0 (by omega) (by simp)
      simpa using this
    simp [trimI, ih, hx]
  | x :: r, k + 1, hs, hz, hn => by
    have hk : k ≤ r.length := by simpa using hs
    have h2 : k = 0 ∨ r.getD (k - 1) 0 ≠ 0 := by
      rcases k with _ | k
      · exact .inl rfl
      · right
        rcases hn with h | h
        · omega
        · simpa using h
    have ih := trim_take r k hk (fun i h1 h2 => by
      have := hz (i + 1) (by omega) (by simp; omega)
      simpa using this) h2
    have hne : ¬ (trimI r = [] ∧ x = 0) := by
      rintro ⟨e, hx⟩
      rcases k with _ | k
      · rcases hn with h | h
        · omega
        · simp at h
          exact h hx
      · rw [ih] at e
        have := congrArg List.length e
        rw [List.length_take, List.length_nil] at this
        omega
    show (if trimI r = [] ∧ x = 0 then [] else x :: trimI r) = _
    rw [if_neg hne, ih]
    rfl
theorem trim_len : ∀ ns : List Int, (trimI ns).length ≤ ns.length
  | [] => by simp [trimI]
  | x :: r => by
    have := trim_len r
    unfold trimI
    split
    · simp
    · simp
      omega
theorem trim_mem : ∀ (ns : List Int) (x : Int), x ∈ trimI ns → x ∈ ns
  | [], x, h => by simp [trimI] at h
  | y :: r, x, h => by
    unfold trimI at h
    split at h
    · simp at h
    · rcases List.mem_cons.mp h with h | h
      · exact h ▸ List.mem_cons_self
      · exact List.mem_cons_of_mem _ (trim_mem r x h)

theorem modN {i j : Int} (h : 0 < j) : i % j = ((i % j).toNat : Int) ∧ ((i % j).toNat : Int) < j := by
  have h1 : 0 ≤ i % j := Int.emod_nonneg _ (by omega)
  have h2 : i % j < j := Int.emod_lt_of_pos _ h
  omega
/-- the script's cell -/
def cellI (ns : List Int) (j : Nat) : Int := ns.getD j 0

/-- a number of a cell -/
def numI (c : Int) : Int := if c % 7 = 0 then 0 else if c % 7 = 1 then (1 - c / 7 % 2 * 2) * (c / 14 % 10 ^ 40) else c / 7 % 19 - 9
theorem num_lt (c : Int) : (numI c).natAbs < 2 ^ 133 := by
  unfold numI
  split
  · decide
  · split
    · rw [Int.natAbs_mul]
      have h1 : 0 ≤ c / 7 % 2 := Int.emod_nonneg _ (by decide)
      have h2 : c / 7 % 2 < 2 := Int.emod_lt_of_pos _ (by decide)
      have h3 : 0 ≤ c / 14 % 10 ^ 40 := Int.emod_nonneg _ (by decide)
      have h4 : c / 14 % 10 ^ 40 < 10 ^ 40 := Int.emod_lt_of_pos _ (by decide)
      have e1 : (1 - c / 7 % 2 * 2).natAbs = 1 := by omega
      rw [e1, Nat.one_mul]
      have : (10 : Int) ^ 40 < 2 ^ 133 := by decide
      omega
    · have h1 : 0 ≤ c / 7 % 19 := Int.emod_nonneg _ (by decide)
      have h2 : c / 7 % 19 < 19 := Int.emod_lt_of_pos _ (by decide)
      have : (2 : Nat) ^ 133 > 100 := by decide
      omega

/-- a drawn row -/
def drawnI (num : Int → Int) (ns : List Int) (place size many : Nat) : List Int :=
  trimI (if 0 < many then (List.range many).map fun (k : Nat) => num (cellI ns place + 97 * (k : Int) * (k : Int) + 13 * (k : Int)) else (List.range size).map fun (k : Nat) => num (cellI ns (place + k)))
theorem drawn_len (num : Int → Int) (ns : List Int) (place size many : Nat) : (drawnI num ns place size many).length ≤ max size many := by
  unfold drawnI
  refine Nat.le_trans (trim_len _) ?_
  split
  · rw [List.length_map, List.length_range]
    omega
  · rw [List.length_map, List.length_range]
    omega
theorem drawn_lt {num : Int → Int} {b : Nat} (hb : ∀ c, (num c).natAbs < b) (ns : List Int) (place size many : Nat) : ∀ x ∈ drawnI num ns place size many, x.natAbs < b := by
  intro x hx
  have h := trim_mem _ _ hx
  split at h
  · obtain ⟨k, _, e⟩ := List.mem_map.mp h
    rw [← e]
    exact hb _
  · obtain ⟨k, _, e⟩ := List.mem_map.mp h
    rw [← e]
    exact hb _

/-- what a row comes to at a place -/
def valI : List Int → Int → Int
  | [], _ => 0
  | x :: r, p => x + p * valI r p
theorem val_append (a b : List Int) (p : Int) : valI (a ++ b) p = valI a p + p ^ a.length * valI b p := by
  induction a with
  | nil => simp [valI]
  | cons x r ih =>
    simp only [List.cons_append, valI, ih, List.length_cons, Int.pow_succ]
    rw [Int.mul_add, ← Int.add_assoc, Int.mul_comm (p ^ r.length) p, Int.mul_assoc]
theorem val_lt {b c n : Nat} {p : Int} (hp : p.natAbs < 2 ^ c) : ∀ (ns : List Int), (∀ x ∈ ns, x.natAbs < 2 ^ b) → ns.length ≤ n → (valI ns p).natAbs < 2 ^ (b + n * (c + 1) + 1)
  | [], _, _ => by simp [valI]; exact Nat.two_pow_pos _
  | x :: r, h, hl => by
    rcases n with _ | n
    · simp at hl
    have ih := val_lt (n := n) hp r (fun y hy => h y (List.mem_cons_of_mem _ hy)) (by simpa using hl)
    have hx := h x List.mem_cons_self
    have h1 : (p * valI r p).natAbs < 2 ^ (c + (b + n * (c + 1) + 1)) := by
      rw [Int.natAbs_mul, Nat.pow_add]
      exact Nat.mul_lt_mul'' hp ih
    have h2 : b ≤ c + (b + n * (c + 1) + 1) := by omega
    have h3 : 2 ^ b ≤ 2 ^ (c + (b + n * (c + 1) + 1)) := Nat.pow_le_pow_right (by decide) h2
    have e : b + (n + 1) * (c + 1) + 1 = (c + (b + n * (c + 1) + 1)) + 1 := by rw [Nat.succ_mul]; omega
    show (x + p * valI r p).natAbs < _
    rw [e, Nat.pow_succ]
    have := Int.natAbs_add_le x (p * valI r p)
    omega
theorem pow_lt {c : Nat} {p : Int} (hp : p.natAbs < 2 ^ c) : ∀ k : Nat, (p ^ k).natAbs < 2 ^ (c * k + 1)
  | 0 => by simp
  | k + 1 => by
    have ih := pow_lt hp k
    rw [Int.pow_succ, Int.natAbs_mul, show c * (k + 1) + 1 = (c * k + 1) + c by rw [Nat.mul_succ]; omega, Nat.pow_add]
    exact Nat.mul_lt_mul'' ih hp

/-! ### sums, number by number -/
def zipI (f : Int → Int → Int) (ns ms : List Int) : List Int := (List.range (max ns.length ms.length)).map fun k => f (ns.getD k 0) (ms.getD k 0)
def plusI (ns ms : List Int) : List Int := trimI (zipI (· + ·) ns ms)
def minusI (ns ms : List Int) : List Int := trimI (zipI (· - ·) ns ms)
def scaledI (m : Int) (ns : List Int) : List Int := trimI (ns.map (m * ·))
theorem zip_len (f : Int → Int → Int) (ns ms : List Int) : (zipI f ns ms).length = max ns.length ms.length := by
  unfold zipI
  rw [List.length_map, List.length_range]
theorem plus_len (ns ms : List Int) : (plusI ns ms).length ≤ max ns.length ms.length := Nat.le_trans (trim_len _) (Nat.le_of_eq (zip_len _ _ _))
theorem minus_len (ns ms : List Int) : (minusI ns ms).length ≤ max ns.length ms.length := Nat.le_trans (trim_len _) (Nat.le_of_eq (zip_len _ _ _))
theorem scaled_len (m : Int) (ns : List Int) : (scaledI m ns).length ≤ ns.length := Nat.le_trans (trim_len _) (by rw [List.length_map]; exact Nat.le_refl _)
theorem max_if (i j : Nat) : (if (j : Int) > (i : Int) then (j : Int) else (i : Int)) = ((max i j : Nat) : Int) := by
  split <;> omega
end PP
/-! Ring: polynomials as rows of ints, by their coefficients; products, powers, sizes. -/
namespace PP
def cf (p : List Int) (k : Nat) : Int := p.getD k 0
@[simp] theorem cf_nil (k : Nat) : cf [] k = 0 := by simp [cf]
@[simp] theorem cf_zero (x : Int) (r : List Int) : cf (x :: r) 0 = x := by simp [cf]
@[simp] theorem cf_succ (x : Int) (r : List Int) (k : Nat) : cf (x :: r) (k + 1) = cf r k := by simp [cf]
theorem cf_ge {p : List Int} {k : Nat} (h : p.length ≤ k) : cf p k = 0 := by
  unfold cf
  rw [List.getD_eq_getElem?_getD, List.getElem?_eq_none h]
  rfl
theorem cf_lt {p : List Int} {k : Nat} (h : k < p.length) : cf p k = p[k] := by
  unfold cf
  rw [List.getD_eq_getElem?_getD, List.getElem?_eq_getElem h]
  rfl
theorem cf_trim : ∀ (p : List Int) (k : Nat), cf (trimI p) k = cf p k
  | [], k => rfl
  | x :: r, k => by
    have ih := cf_trim r
    unfold trimI
    split
    · rename_i h
      rcases k with _ | k
      · simp [h.2]
      · rw [cf_succ, ← ih k, h.1]
        simp
    · rcases k with _ | k
      · simp
      · rw [cf_succ, cf_succ, ih k]
theorem trim_ext : ∀ {p q : List Int}, (∀ k, cf p k = cf q k) → trimI p = trimI q
  | [], [], _ => rfl
  | [], y :: s, h => by
    have ih : trimI [] = trimI s := trim_ext fun k => by
      have := h (k + 1)
      simpa using this
    have hy : y = 0 := by
      have := h 0
      simpa using this.symm
    have : trimI s = [] := ih.symm
    simp [trimI, this, hy]
  | x :: r, [], h => by
    have ih : trimI r = trimI [] := trim_ext fun k => by
      have := h (k + 1)
      simpa using this
    have hx : x = 0 := by
      have := h 0
      simpa using this
    have : trimI r = [] := ih
    simp [trimI, this, hx]
  | x :: r, y :: s, h => by
    have ih : trimI r = trimI s := trim_ext fun k => by
      have := h (k + 1)
      simpa using this
    have hx : x = y := by
      have := h 0
      simpa using this
    unfold trimI
    rw [ih, hx]
theorem trim_idem (p : List Int) : trimI (trimI p) = trimI p := trim_ext (cf_trim p)
/-- a row without noughts at its end -/
def Nf (p : List Int) : Prop := trimI p = p
theorem nf_trim (p : List Int) : Nf (trimI p) := trim_idem p
theorem nf_ext {p q : List Int} (hp : Nf p) (hq : Nf q) (h : ∀ k, cf p k = cf q k) : p = q := by
  rw [← hp, ← hq]
  exact trim_ext h
theorem nf_nil : Nf [] := rfl
theorem nf_tail {x : Int} {r : List Int} (h : Nf (x :: r)) : Nf r := by
  unfold Nf trimI at h
  split at h
  · cases h
  · exact (List.cons.inj h).2
theorem nf_last : ∀ {p : List Int}, Nf p → p ≠ [] → cf p (p.length - 1) ≠ 0
  | [], _, h => (h rfl).elim
  | [x], h, _ => by
    unfold Nf at h
    simp [trimI] at h
    simpa using h
  | x :: y :: r, h, _ => by
    have := nf_last (nf_tail h) (by simp)
    simpa using this
theorem nf_of_last : ∀ {p : List Int}, (p = [] ∨ cf p (p.length - 1) ≠ 0) → Nf p
  | [], _ => rfl
  | [x], h => by
    rcases h with h | h
    · cases h
    · simp at h
      simp [Nf, trimI, h]
  | x :: y :: r, h => by
    rcases h with h | h
    · cases h
    · have ih : Nf (y :: r) := nf_of_last (.inr (by simpa using h))
      unfold Nf at ih ⊢
      unfold trimI
      rw [ih]
      simp

def addL : List Int → List Int → List Int
  | [], q => q
  | p, [] => p
  | x :: p, y :: q => (x + y) :: addL p q
theorem cf_addL : ∀ (p q : List Int) (k : Nat), cf (addL p q) k = cf p k + cf q k
  | [], q, k => by simp [addL]
  | x :: p, [], k => by simp [addL]
  | x :: p, y :: q, 0 => by simp [addL]
  | x :: p, y :: q, k + 1 => by simp [addL, cf_addL p q k]
theorem cf_map {c : Int} : ∀ (p : List Int) (k : Nat), cf (p.map (c * ·)) k = c * cf p k
  | [], k => by simp
  | x :: p, 0 => by simp
  | x :: p, k + 1 => by
    rw [List.map_cons, cf_succ, cf_succ]
    exact cf_map p k
def mulL : List Int → List Int → List Int
  | [], _ => []
  | x :: r, q => addL (q.map (x * ·)) (0 :: mulL r q)
theorem cf_mul_zero (x : Int) (r q : List Int) : cf (mulL (x :: r) q) 0 = x * cf q 0 := by
  show cf (addL _ _) 0 = _
  rw [cf_addL, cf_map, cf_zero, Int.add_zero]
theorem cf_mul_succ (x : Int) (r q : List Int) (k : Nat) : cf (mulL (x :: r) q) (k + 1) = x * cf q (k + 1) + cf (mulL r q) k := by
  show cf (addL _ _) (k + 1) = _
  rw [cf_addL, cf_map, cf_succ]
/-- the product hangs on the coefficients alone -/
theorem cf_mul_congr {q q' : List Int} (h : ∀ k, cf q k = cf q' k) : ∀ (p : List Int) (k : Nat), cf (mulL p q) k = cf (mulL p q') k
  | [], k => rfl
  | x :: r, 0 => by rw [cf_mul_zero, cf_mul_zero, h]
  | x :: r, k + 1 => by rw [cf_mul_succ, cf_mul_succ, h, cf_mul_congr h r k]
theorem cf_mul_nil : ∀ (p : List Int) (k : Nat), cf (mulL p []) k = 0
  | [], k => by simp [mulL]
  | x :: r, 0 => by rw [cf_mul_zero]; simp
  | x :: r, k + 1 => by rw [cf_mul_succ, cf_mul_nil r k]; simp
theorem cf_mul_cons0 (y : Int) (s : List Int) : ∀ (p : List Int), cf (mulL p (y :: s)) 0 = y * cf p 0
  | [] => by simp [mulL]
  | x :: r => by rw [cf_mul_zero, cf_zero, cf_zero, Int.mul_comm]
theorem cf_mul_cons (y : Int) (s : List Int) : ∀ (p : List Int) (k : Nat), cf (mulL p (y :: s)) (k + 1) = y * cf p (k + 1) + cf (mulL p s) k
  | [], k => by simp [mulL]
  | x :: r, 0 => by
    rw [cf_mul_succ, cf_succ, cf_succ, cf_mul_cons0, cf_mul_zero, Int.add_comm]
  | x :: r, k + 1 => by
    rw [cf_mul_succ, cf_succ, cf_succ, cf_mul_cons y s r k, cf_mul_succ]
    omega
theorem cf_mul_comm : ∀ (p q : List Int) (k : Nat), cf (mulL p q) k = cf (mulL q p) k
  | [], q, k => by rw [cf_mul_nil]; simp [mulL]
  | x :: r, q, 0 => by rw [cf_mul_zero, cf_mul_cons0]
  | x :: r, q, k + 1 => by rw [cf_mul_succ, cf_mul_cons, cf_mul_comm r q k]
theorem cf_mul_add (p q : List Int) : ∀ (s : List Int) (k : Nat), cf (mulL s (addL p q)) k = cf (mulL s p) k + cf (mulL s q) k
  | [], k => by simp [mulL]
  | x :: r, 0 => by rw [cf_mul_zero, cf_mul_zero, cf_mul_zero, cf_addL, Int.mul_add]
  | x :: r, k + 1 => by
    rw [cf_mul_succ, cf_mul_succ, cf_mul_succ, cf_addL, Int.mul_add, cf_mul_add p q r k]
    omega
theorem cf_mul_map (c : Int) (q : List Int) : ∀ (p : List Int) (k : Nat), cf (mulL p (q.map (c * ·))) k = c * cf (mulL p q) k
  | [], k => by simp [mulL]
  | x :: r, 0 => by
    rw [cf_mul_zero, cf_mul_zero, cf_map, Int.mul_left_comm]
  | x :: r, k + 1 => by
    rw [cf_mul_succ, cf_mul_succ, cf_map, cf_mul_map c q r k, Int.mul_add, Int.mul_left_comm]
theorem cf_mul_sh (q : List Int) : ∀ (p : List Int) (k : Nat), cf (mulL p (0 :: q)) k = cf (0 :: mulL p q) k
  | p, 0 => by rw [cf_mul_cons0]; simp
  | p, k + 1 => by rw [cf_mul_cons, cf_succ]; simp
theorem cf_mul_assoc (p q : List Int) : ∀ (s : List Int) (k : Nat), cf (mulL s (mulL p q)) k = cf (mulL (mulL s p) q) k
  | [], k => rfl
  | x :: r, k => by
    have e : ∀ k, cf (mulL (mulL (x :: r) p) q) k = cf (addL ((mulL p q).map (x * ·)) (0 :: mulL r (mulL p q))) k := fun k => by
      rw [cf_mul_comm]
      show cf (mulL q (addL (p.map (x * ·)) (0 :: mulL r p))) k = _
      rw [cf_mul_add, cf_mul_map, cf_mul_sh, cf_addL, cf_map, cf_mul_comm q p]
      congr 1
      rcases k with _ | k
      · simp
      · rw [cf_succ, cf_succ, cf_mul_comm q, ← cf_mul_assoc p q r k]
    rw [e]
    rfl
theorem mul_len : ∀ (p q : List Int), (mulL p q).length ≤ p.length + q.length
  | [], q => by simp [mulL]
  | x :: r, q => by
    have add_len : ∀ a b : List Int, (addL a b).length = max a.length b.length := by
      intro a
      induction a with
      | nil => intro b; simp [addL]
      | cons x a ih =>
        intro b
        cases b with
        | nil => simp [addL]
        | cons y b =>
          simp only [addL, List.length_cons, ih]
          omega
    have := mul_len r q
    show (addL _ _).length ≤ _
    rw [add_len, List.length_map, List.length_cons, List.length_cons]
    omega

/-- the product of two rows -/
def mulI (p q : List Int) : List Int := trimI (mulL p q)
theorem cf_mulI (p q : List Int) (k : Nat) : cf (mulI p q) k = cf (mulL p q) k := cf_trim _ _
theorem mulI_comm (p q : List Int) : mulI p q = mulI q p := trim_ext (cf_mul_comm p q)
theorem cf_mul_congrL {p p' : List Int} (h : ∀ k, cf p k = cf p' k) (q : List Int) (k : Nat) : cf (mulL p q) k = cf (mulL p' q) k := by
  rw [cf_mul_comm, cf_mul_comm p']
  exact cf_mul_congr h q k
theorem mulI_assoc (p q s : List Int) : mulI (mulI p q) s = mulI p (mulI q s) := trim_ext fun k => by
  rw [cf_mul_congrL (cf_mulI p q), cf_mul_congr (cf_mulI q s), cf_mul_assoc]
theorem mulI_one {p : List Int} (h : Nf p) : mulI p [1] = p := by
  refine nf_ext (nf_trim _) h fun k => ?_
  rw [cf_mulI, cf_mul_comm]
  show cf (addL _ _) k = _
  rw [cf_addL, cf_map, Int.one_mul]
  show cf p k + cf (0 :: []) k = _
  rcases k with _ | k <;> simp
theorem mulI_nil (p : List Int) : mulI p [] = [] := by
  refine nf_ext (nf_trim _) nf_nil fun k => ?_
  rw [cf_mulI, cf_mul_nil, cf_nil]
theorem nf_mulI (p q : List Int) : Nf (mulI p q) := nf_trim _
theorem mulI_len (p q : List Int) : (mulI p q).length ≤ p.length + q.length := Nat.le_trans (trim_len _) (mul_len p q)

/-- so many like ones -/
def powI (p : List Int) : Nat → List Int
  | 0 => [1]
  | n + 1 => mulI (powI p n) p
theorem nf_one : Nf [1] := by simp [Nf, trimI]
theorem nf_powI (p : List Int) : ∀ n, Nf (powI p n)
  | 0 => nf_one
  | _ + 1 => nf_mulI _ _
theorem powI_add (p : List Int) (m : Nat) : ∀ n, powI p (m + n) = mulI (powI p m) (powI p n)
  | 0 => (mulI_one (nf_powI p m)).symm
  | n + 1 => by
    show mulI (powI p (m + n)) p = mulI (powI p m) (mulI (powI p n) p)
    rw [powI_add p m n, mulI_assoc]
theorem powI_sq (p : List Int) : ∀ n, powI (mulI p p) n = powI p (2 * n)
  | 0 => rfl
  | n + 1 => by
    show mulI (powI (mulI p p) n) (mulI p p) = powI p (2 * n + 2)
    rw [powI_sq p n]
    show _ = mulI (mulI (powI p (2 * n)) p) p
    rw [mulI_assoc]

/-! ### sizes -/
def nrm (p : List Int) : Nat := (p.map Int.natAbs).sum
theorem nrm_cons (x : Int) (r : List Int) : nrm (x :: r) = x.natAbs + nrm r := by simp [nrm]
theorem mem_nrm : ∀ {p : List Int} {x : Int}, x ∈ p → x.natAbs ≤ nrm p
  | y :: r, x, h => by
    rw [nrm_cons]
    rcases List.mem_cons.mp h with h | h
    · rw [h]
      omega
    · have := mem_nrm h
      omega
theorem cf_nrm (p : List Int) (k : Nat) : (cf p k).natAbs ≤ nrm p := by
  by_cases h : k < p.length
  · rw [cf_lt h]
    exact mem_nrm (List.getElem_mem h)
  · rw [cf_ge (by omega)]
    simp
theorem nrm_trim : ∀ p : List Int, nrm (trimI p) ≤ nrm p
  | [] => Nat.le_refl _
  | x :: r => by
    have := nrm_trim r
    unfold trimI
    split
    · simp [nrm]
    · rw [nrm_cons, nrm_cons]
      omega
theorem nrm_add : ∀ p q : List Int, nrm (addL p q) ≤ nrm p + nrm q
  | [], q => by simp [addL, nrm]
  | x :: p, [] => by simp [addL, nrm]
  | x :: p, y :: q => by
    have := nrm_add p q
    have h := Int.natAbs_add_le x y
    show nrm ((x + y) :: addL p q) ≤ _
    rw [nrm_cons, nrm_cons, nrm_cons]
    omega
theorem nrm_map (c : Int) : ∀ p : List Int, nrm (p.map (c * ·)) = c.natAbs * nrm p
  | [] => by simp [nrm]
  | x :: p => by
    rw [List.map_cons, nrm_cons, nrm_cons, nrm_map c p, Int.natAbs_mul, Nat.mul_add]
theorem nrm_mul : ∀ p q : List Int, nrm (mulL p q) ≤ nrm p * nrm q
  | [], q => by simp [mulL, nrm]
  | x :: r, q => by
    have := nrm_mul r q
    show nrm (addL _ _) ≤ _
    refine Nat.le_trans (nrm_add _ _) ?_
    rw [nrm_map, nrm_cons, nrm_cons, Nat.add_mul]
    simp
    omega
theorem nrm_mulI (p q : List Int) : nrm (mulI p q) ≤ nrm p * nrm q := Nat.le_trans (nrm_trim _) (nrm_mul p q)
theorem nrm_powI {p : List Int} {b : Nat} (h : nrm p ≤ 2 ^ b) : ∀ n, nrm (powI p n) ≤ 2 ^ (b * n)
  | 0 => by simp [powI, nrm]
  | n + 1 => by
    refine Nat.le_trans (nrm_mulI _ _) ?_
    rw [Nat.mul_succ, Nat.pow_add]
    exact Nat.mul_le_mul (nrm_powI h n) h
theorem nrm_bound {b : Nat} : ∀ {p : List Int} {n : Nat}, (∀ x ∈ p, x.natAbs < 2 ^ b) → p.length ≤ 2 ^ n → nrm p ≤ 2 ^ (n + b)
  | p, n, h, hl => by
    have key : ∀ p : List Int, (∀ x ∈ p, x.natAbs < 2 ^ b) → nrm p ≤ p.length * 2 ^ b := by
      intro p
      induction p with
      | nil => intro _; simp [nrm]
      | cons x r ih =>
        intro h
        have h1 := ih fun y hy => h y (List.mem_cons_of_mem _ hy)
        have h2 := h x List.mem_cons_self
        rw [nrm_cons, List.length_cons, Nat.succ_mul]
        omega
    refine Nat.le_trans (key p h) ?_
    rw [Nat.pow_add]
    exact Nat.mul_le_mul_right _ hl
/-- taking one more of the first factor -/
theorem cf_mul_take (p q : List Int) : ∀ (i : Nat), i < p.length → ∀ k, cf (mulL (p.take (i + 1)) q) k = cf (mulL (p.take i) q) k + (if i ≤ k then cf p i * cf q (k - i) else 0) := by
  induction p with
  | nil => intro i h; simp at h
  | cons x r ih =>
    intro i hi k
    rcases i with _ | i
    · show cf (mulL [x] q) k = cf (mulL [] q) k + _
      rcases k with _ | k
      · rw [cf_mul_zero]
        simp [mulL]
      · rw [cf_mul_succ]
        simp [mulL]
    · rw [List.take_succ_cons, List.take_succ_cons]
      rcases k with _ | k
      · rw [cf_mul_zero, cf_mul_zero]
        simp
      · rw [cf_mul_succ, cf_mul_succ, ih i (by simpa using hi) k, cf_succ, Nat.add_sub_add_right]
        by_cases h : i ≤ k
        · rw [if_pos h, if_pos (by omega)]
          omega
        · rw [if_neg h, if_neg (by omega)]
          omega
/-- products of rows that are not nought have no nought ahead -/
theorem cf_mul_top : ∀ (p q : List Int), p ≠ [] → q ≠ [] → cf (mulL p q) (p.length - 1 + (q.length - 1)) = cf p (p.length - 1) * cf q (q.length - 1)
  | [x], q, _, hq => by
    rcases q with _ | ⟨y, s⟩
    · exact (hq rfl).elim
    · show cf (addL _ (0 :: [])) _ = _
      rw [cf_addL, cf_map]
      simp only [List.length_cons, List.length_nil, Nat.zero_add, Nat.sub_self, Nat.add_sub_cancel, cf_zero]
      rcases s.length with _ | k <;> simp
  | x :: y :: r, q, _, hq => by
    have ih := cf_mul_top (y :: r) q (by simp) hq
    have e : (x :: y :: r).length - 1 + (q.length - 1) = ((y :: r).length - 1 + (q.length - 1)) + 1 := by simp; omega
    rw [e, cf_mul_succ, ih]
    have h0 : cf q ((y :: r).length - 1 + (q.length - 1) + 1) = 0 := cf_ge (by simp; omega)
    rw [h0, Int.mul_zero, Int.zero_add]
    simp
theorem cf_set (p : List Int) (i : Nat) (v : Int) (hi : i < p.length) (k : Nat) : cf (p.set i v) k = if k = i then v else cf p k := by
  unfold cf
  rw [List.getD_eq_getElem?_getD, List.getElem?_set, List.getD_eq_getElem?_getD]
  by_cases h : i = k
  · subst h
    rw [if_pos rfl, if_pos hi, if_pos rfl]
    rfl
  · rw [if_neg h, if_neg (fun e => h e.symm)]
theorem cf_rep (n k : Nat) : cf (List.replicate n 0) k = 0 := by
  unfold cf
  rw [List.getD_eq_getElem?_getD, List.getElem?_replicate]
  split <;> rfl
/-- one step of the inner loop -/
theorem mul_step {p q tot : List Int} {i j : Nat} (hi : i < p.length) (hj : j < q.length) (hl : i + j < tot.length)
    (h : ∀ k, cf tot k = cf (mulL (p.take i) q) k + (if i ≤ k ∧ k < i + j then cf p i * cf q (k - i) else 0)) :
    ∀ k, cf (tot.set (i + j) (tot.getD (i + j) 0 + cf p i * cf q j)) k = cf (mulL (p.take i) q) k + (if i ≤ k ∧ k < i + (j + 1) then cf p i * cf q (k - i) else 0) := by
  intro k
  rw [cf_set _ _ _ hl]
  by_cases e : k = i + j
  · subst e
    rw [if_pos rfl, if_pos (by omega)]
    have := h (i + j)
    rw [if_neg (by omega)] at this
    show cf tot (i + j) + _ = _
    rw [this, Nat.add_sub_cancel_left]
    omega
  · rw [if_neg e, h k]
    congr 1
    by_cases c : i ≤ k ∧ k < i + j
    · rw [if_pos c, if_pos (by omega)]
    · rw [if_neg c, if_neg (by omega)]
/-- the inner loop's end -/
theorem mul_row {p q tot : List Int} {i : Nat} (hi : i < p.length)
    (h : ∀ k, cf tot k = cf (mulL (p.take i) q) k + (if i ≤ k ∧ k < i + q.length then cf p i * cf q (k - i) else 0)) : ∀ k, cf tot k = cf (mulL (p.take (i + 1)) q) k := by
  intro k
  rw [h k, cf_mul_take p q i hi]
  congr 1
  by_cases c : i ≤ k
  · rw [if_pos c]
    by_cases d : k < i + q.length
    · rw [if_pos ⟨c, d⟩]
    · rw [if_neg (by omega), cf_ge (p := q) (k := k - i) (by omega), Int.mul_zero]
  · rw [if_neg c, if_neg (by omega)]
theorem tot_mul {p q tot : List Int} (hp : Nf p) (hq : Nf q) (h1 : p ≠ []) (h2 : q ≠ []) (hl : tot.length = p.length + q.length - 1) (h : ∀ k, cf tot k = cf (mulL p q) k) : tot = mulI p q := by
  have lp : 0 < p.length := List.length_pos_iff.mpr h1
  have lq : 0 < q.length := List.length_pos_iff.mpr h2
  refine nf_ext (nf_of_last (.inr ?_)) (nf_mulI p q) fun k => by rw [h k, cf_mulI]
  rw [h, hl, show p.length + q.length - 1 - 1 = p.length - 1 + (q.length - 1) by omega, cf_mul_top p q h1 h2]
  exact Int.mul_ne_zero (nf_last hp h1) (nf_last hq h2)

/-! ### sums over products -/
theorem cf_zip {f : Int → Int → Int} (h0 : f 0 0 = 0) (p q : List Int) (k : Nat) : cf (zipI f p q) k = f (cf p k) (cf q k) := by
  by_cases h : k < max p.length q.length
  · rw [cf_lt (by rw [zip_len]; exact h)]
    unfold zipI
    rw [List.getElem_map, List.getElem_range]
    rfl
  · rw [cf_ge (by rw [zip_len]; omega), cf_ge (p := p) (by omega), cf_ge (p := q) (by omega), h0]
theorem cf_plus (p q : List Int) (k : Nat) : cf (plusI p q) k = cf p k + cf q k := (cf_trim _ _).trans (cf_zip (f := (· + ·)) rfl p q k)
theorem cf_minus (p q : List Int) (k : Nat) : cf (minusI p q) k = cf p k - cf q k := (cf_trim _ _).trans (cf_zip (f := (· - ·)) rfl p q k)
theorem cf_scaled (c : Int) (p : List Int) (k : Nat) : cf (scaledI c p) k = c * cf p k := (cf_trim _ _).trans (cf_map p k)
theorem nf_plus (p q : List Int) : Nf (plusI p q) := nf_trim _
theorem plus_eq (p q : List Int) : plusI p q = trimI (addL p q) := trim_ext fun k => by rw [cf_addL]; exact cf_zip (f := (· + ·)) rfl p q k
theorem nrm_plus (p q : List Int) : nrm (plusI p q) ≤ nrm p + nrm q := by
  rw [plus_eq]
  exact Nat.le_trans (nrm_trim _) (nrm_add p q)
theorem plusI_nil {p : List Int} (h : Nf p) : plusI p [] = p := nf_ext (nf_plus _ _) h fun k => by rw [cf_plus, cf_nil, Int.add_zero]
theorem plusI_comm (p q : List Int) : plusI p q = plusI q p := nf_ext (nf_plus _ _) (nf_plus _ _) fun k => by rw [cf_plus, cf_plus, Int.add_comm]
theorem plusI_assoc (p q r : List Int) : plusI (plusI p q) r = plusI p (plusI q r) := nf_ext (nf_plus _ _) (nf_plus _ _) fun k => by rw [cf_plus, cf_plus, cf_plus, cf_plus, Int.add_assoc]
theorem mulI_plus (p q r : List Int) : mulI p (plusI q r) = plusI (mulI p q) (mulI p r) := nf_ext (nf_mulI _ _) (nf_plus _ _) fun k => by
  rw [cf_mulI, cf_plus, cf_mulI, cf_mulI, cf_mul_congr (q' := addL q r) (fun j => by rw [cf_plus, cf_addL]), cf_mul_add]
theorem plus_mulI (p q r : List Int) : mulI (plusI q r) p = plusI (mulI q p) (mulI r p) := by
  rw [mulI_comm, mulI_plus, mulI_comm p q, mulI_comm p r]
theorem mulI_trim (p q : List Int) : mulI p (trimI q) = mulI p q := nf_ext (nf_mulI _ _) (nf_mulI _ _) fun k => by rw [cf_mulI, cf_mulI, cf_mul_congr (cf_trim q)]
theorem trim_mulI (p q : List Int) : mulI (trimI p) q = mulI p q := by rw [mulI_comm, mulI_trim, mulI_comm]

def slopeI (ns : List Int) : List Int := (List.range (ns.length - 1)).map fun k => ((k + 1 : Nat) : Int) * cf ns (k + 1)

/-- a polynomial in the letter's place -/
def compI : List Int → List Int → List Int
  | [], _ => []
  | x :: r, q => plusI (mulI (compI r q) q) (trimI [x])
theorem nf_comp : ∀ (p q : List Int), Nf (compI p q)
  | [], _ => nf_nil
  | _ :: _, _ => nf_plus _ _
theorem trim1_len (x : Int) : (trimI [x]).length ≤ 1 := trim_len _
theorem nrm1 (x : Int) : nrm (trimI [x]) ≤ x.natAbs := Nat.le_trans (nrm_trim _) (by simp [nrm])
theorem comp_len : ∀ (p q : List Int), (compI p q).length ≤ p.length * q.length + 1
  | [], _ => by simp [compI]
  | x :: r, q => by
    have h1 := comp_len r q
    have h2 := plus_len (mulI (compI r q) q) (trimI [x])
    have h3 := mulI_len (compI r q) q
    have h4 := trim1_len x
    show (plusI _ _).length ≤ _
    rw [List.length_cons, Nat.succ_mul]
    have h5 := mul_len (compI r q) q
    omega
theorem comp_nrm {b y : Nat} {q : List Int} (hq : nrm q ≤ 2 ^ y) : ∀ (p : List Int), (∀ x ∈ p, x.natAbs ≤ 2 ^ b) → nrm (compI p q) ≤ 2 ^ (b + p.length * (y + 1))
  | [], _ => by simp [compI, nrm]
  | x :: r, h => by
    have ih := comp_nrm hq r fun z hz => h z (List.mem_cons_of_mem _ hz)
    have hx := h x List.mem_cons_self
    have h2 := nrm_plus (mulI (compI r q) q) (trimI [x])
    have h3 := nrm_mulI (compI r q) q
    have h4 := nrm1 x
    have h5 : nrm (compI r q) * nrm q ≤ 2 ^ (b + r.length * (y + 1)) * 2 ^ y := Nat.mul_le_mul ih hq
    rw [← Nat.pow_add] at h5
    have h6 : 2 ^ b ≤ 2 ^ (b + r.length * (y + 1) + y) := Nat.pow_le_pow_right (by decide) (by omega)
    have e : b + (x :: r).length * (y + 1) = (b + r.length * (y + 1) + y) + 1 := by
      rw [List.length_cons, Nat.succ_mul]
      omega
    show nrm (plusI _ _) ≤ _
    rw [e, Nat.pow_succ]
    omega
/-- the sum from the front: one more -/
theorem comp_front (p q due : List Int) (i : Nat) (hi : i < p.length) (hd : Nf due) :
    plusI (plusI due (mulI [p.getD i 0] (powI q i))) (mulI (powI q (i + 1)) (compI (p.drop (i + 1)) q)) = plusI due (mulI (powI q i) (compI (p.drop i) q)) := by
  rw [List.drop_eq_getElem_cons hi]
  show _ = plusI due (mulI (powI q i) (plusI (mulI (compI (p.drop (i + 1)) q) q) (trimI [p[i]])))
  have e : p.getD i 0 = p[i] := cf_lt hi
  rw [e, mulI_plus, mulI_trim, plusI_assoc]
  congr 1
  show plusI _ (mulI (mulI (powI q i) q) _) = _
  rw [mulI_comm [p[i]], plusI_comm, mulI_assoc, mulI_comm q]
theorem powI_len (p : List Int) : ∀ n, (powI p n).length ≤ p.length * n + 1
  | 0 => by simp [powI]
  | n + 1 => by
    have h1 := powI_len p n
    have h2 := mulI_len (powI p n) p
    show (mulI (powI p n) p).length ≤ _
    rw [Nat.mul_succ]
    omega
end PP
/-! Nums: greatest common divisors of rows -/
namespace PP
def cont (ns : List Int) : Nat := ns.foldl (fun g x => Nat.gcd g x.natAbs) 0
theorem foldl_gcd (ns : List Int) : ∀ g : Nat, ns.foldl (fun g x => Nat.gcd g x.natAbs) g = Nat.gcd g (cont ns) := by
  unfold cont
  induction ns with
  | nil => intro g; simp
  | cons x r ih =>
    intro g
    rw [List.foldl_cons, List.foldl_cons, ih, ih (Nat.gcd 0 x.natAbs), Nat.gcd_zero_left, Nat.gcd_assoc]
theorem cont_nil : cont [] = 0 := rfl
theorem cont_cons (x : Int) (r : List Int) : cont (x :: r) = Nat.gcd x.natAbs (cont r) := by
  show (x :: r).foldl _ 0 = _
  rw [List.foldl_cons, foldl_gcd, Nat.gcd_zero_left]
theorem cont_snoc (x : Int) (r : List Int) : cont (r ++ [x]) = Nat.gcd (cont r) x.natAbs := by
  unfold cont
  rw [List.foldl_append] <;> rfl
theorem cont_take {ns : List Int} {i : Nat} (h : i < ns.length) : cont (ns.take (i + 1)) = Nat.gcd (cont (ns.take i)) (ns.getD i 0).natAbs := by
  rw [List.take_succ_eq_append_getElem h, cont_snoc, List.getD_eq_getElem?_getD, List.getElem?_eq_getElem h]
  rfl
theorem cont_dvd : ∀ {ns : List Int} {x : Int}, x ∈ ns → (cont ns : Int) ∣ x
  | y :: r, x, h => by
    rw [cont_cons]
    rcases List.mem_cons.mp h with h | h
    · rw [h]
      exact Int.dvd_natAbs.mp (Int.natCast_dvd_natCast.mpr (Nat.gcd_dvd_left _ _))
    · exact Int.dvd_trans (Int.natCast_dvd_natCast.mpr (Nat.gcd_dvd_right _ _)) (cont_dvd h)
theorem dvd_cont : ∀ {ns : List Int} {d : Nat}, (∀ x ∈ ns, (d : Int) ∣ x) → d ∣ cont ns
  | [], d, _ => Nat.dvd_zero d
  | y :: r, d, h => by
    rw [cont_cons]
    refine Nat.dvd_gcd ?_ (dvd_cont fun x hx => h x (List.mem_cons_of_mem _ hx))
    exact Int.natCast_dvd_natCast.mp (Int.dvd_natAbs.mpr (h y List.mem_cons_self))
theorem cont_pos {ns : List Int} (h : ∃ x ∈ ns, x ≠ 0) : 0 < cont ns := by
  obtain ⟨x, hx, h0⟩ := h
  rcases Nat.eq_zero_or_pos (cont ns) with e | e
  · have := cont_dvd hx
    rw [e] at this
    exact (h0 (Int.zero_dvd.mp this)).elim
  · exact e
/-- what is left of a row by its content -/
theorem cont_left {ns : List Int} {c : Nat} (hc : c = cont ns) (h0 : 0 < c) : cont (ns.map fun x => x / (c : Int)) = 1 := by
  have hd : (cont (ns.map fun x => x / (c : Int))) * c ∣ cont ns := by
    refine dvd_cont fun x hx => ?_
    have h1 : (cont (ns.map fun x => x / (c : Int)) : Int) ∣ x / (c : Int) := cont_dvd (List.mem_map.mpr ⟨x, hx, rfl⟩)
    have h2 : (c : Int) ∣ x := hc ▸ cont_dvd hx
    have h3 : x / (c : Int) * (c : Int) = x := Int.ediv_mul_cancel h2
    rw [Int.natCast_mul]
    calc (cont (ns.map fun x => x / (c : Int)) : Int) * (c : Int) ∣ x / (c : Int) * (c : Int) := Int.mul_dvd_mul_right _ h1
      _ = x := h3
  rw [← hc] at hd
  have h4 : cont (ns.map fun x => x / (c : Int)) * c ≤ 1 * c := by
    rw [Nat.one_mul]
    exact Nat.le_of_dvd h0 hd
  have h5 := Nat.le_of_mul_le_mul_right h4 h0
  have h6 : cont (ns.map fun x => x / (c : Int)) ≠ 0 := fun e => by
    rw [e, Nat.zero_mul] at hd
    have := Nat.eq_zero_of_zero_dvd hd
    omega
  omega
theorem cont_neg (ns : List Int) : cont (ns.map fun x => -x) = cont ns := by
  induction ns with
  | nil => rfl
  | cons x r ih => rw [List.map_cons, cont_cons, cont_cons, ih, Int.natAbs_neg]
theorem cont_le {ns : List Int} {x : Int} (h : x ∈ ns) (h0 : x ≠ 0) : cont ns ≤ x.natAbs := by
  have := cont_dvd h
  exact Nat.le_of_dvd (Int.natAbs_pos.mpr h0) (Int.natCast_dvd_natCast.mp (Int.dvd_natAbs.mpr this))
/-- simple -/
def simpleI (ns : List Int) : List Int := if ns.getD (ns.length - 1) 0 < 0 then (ns.map fun x => x / (cont ns : Int)).map fun x => -x else ns.map fun x => x / (cont ns : Int)
theorem fdiv_neg' {x c : Int} (hd : c ∣ x) (h0 : 0 < c) : x.fdiv (-c) = -(x / c) := by
  obtain ⟨y, rfl⟩ := hd
  rw [Int.mul_ediv_cancel_left _ (by omega), show c * y = (-y) * (-c) by rw [Int.neg_mul_neg, Int.mul_comm], Int.mul_fdiv_cancel _ (by omega)]
theorem fdiv_pos' {x c : Int} (h0 : 0 < c) : x.fdiv c = x / c := Int.fdiv_eq_ediv_of_nonneg x (by omega)
theorem simple_len (ns : List Int) : (simpleI ns).length = ns.length := by
  unfold simpleI
  split <;> simp
end PP
namespace PP
open PySem PySem.Spec PyProof.Rows L2 Evl
/-! small lemmas about lists of ints -/
theorem given_all (n : Nat) (v : Nat → V) : given n (fun _ => true) v = (List.range n).map v := by
  unfold given
  rw [List.filter_eq_self.mpr (fun _ _ => rfl)]
theorem et_yes {σ : L2.St} {H : Hp} : EvT tYes σ H true := fun H1 _ _ q => q H1 (Ex.refl H1)
theorem kx {i n : Nat} (h : i < n) (hn : n ≤ 1000) : ((i : Nat) : Int).natAbs < 2 ^ 10 := by
  rw [Int.natAbs_natCast]
  omega
theorem given_map (ns : List Int) (f : Int → Int) : given (ns.map V.int).length (fun _ => true) (fun i => V.int (f (ns.getD i 0))) = (ns.map f).map V.int := by
  rw [given_all, List.length_map]
  refine List.ext_getElem (by simp) fun i h1 h2 => ?_
  have h3 : i < ns.length := by simpa using h2
  simp [List.getD_eq_getElem?_getD, List.getElem?_eq_getElem h3]
theorem int_at {ns : List Int} {i : Nat} {x : V} (h : (ns.map V.int)[i]? = some x) : i < ns.length ∧ x = .int (ns.getD i 0) ∧ ns.getD i 0 ∈ ns := by
  rw [List.getElem?_map] at h
  by_cases hi : i < ns.length
  · rw [List.getElem?_eq_getElem hi] at h
    rw [List.getD_eq_getElem?_getD, List.getElem?_eq_getElem hi]
    exact ⟨hi, (Option.some.inj h).symm, List.getElem_mem hi⟩
  · rw [List.getElem?_eq_none (by omega)] at h
    cases h
theorem nrm_mulx {ns ms : List Int} {x y : Nat} {i j : Int} (h1 : nrm ns ≤ 2 ^ x) (h2 : nrm ms ≤ 2 ^ y) (hx : x + y + 2 ≤ 100000000) (hi : i.natAbs ≤ nrm ns) (hj : j.natAbs ≤ nrm ms) : CMulX i j := by
  have e1 : 2 ^ (x + 1) = 2 ^ x * 2 := Nat.pow_succ ..
  have e2 : 2 ^ (y + 1) = 2 ^ y * 2 := Nat.pow_succ ..
  have p1 := Nat.two_pow_pos x
  have p2 := Nat.two_pow_pos y
  exact mulx (a := x + 1) (b := y + 1) (by omega) (by omega) (by omega)
theorem map_empty {ns : List Int} : (ns.map V.int).isEmpty = ns.isEmpty := by cases ns <;> rfl
theorem cf_getD (p : List Int) (k : Nat) : p.getD k 0 = cf p k := rfl

-- USES: Lists
/-! content -/
def sp_P_content (K : PySem.W.Frag) : Sp := fun vs H Q _ => ∃ (a : Addr) (ns : List Int), vs = [.ref a] ∧ SqL K H a (ns.map V.int) ∧ RetV (.int (cont ns : Nat)) H Q
def t_P_content (K : PySem.W.Frag) : TS :=
  (tSeq (tAsg (tC (.int 0)) (gName 1)) (tSeq (tFor (iList K (tVar 0)) (gName 2) (tAsg (tCB rGcd (tCons (tVar 1) (tCons (tVar 2) tNil))) (gName 1))) (tRet (tVar 1))))
theorem ev_gcd {σ : L2.St} {H : Hp} {ta tb : TE} {i j : Int} (ha : Ev ta σ H (.int i)) (hb : Ev tb σ H (.int j)) : Ev (tCB rGcd (tCons ta (tCons tb tNil))) σ H (.int ((Nat.gcd i.natAbs j.natAbs : Nat) : Int)) := fun H1 e Q q =>
  ha H1 e _ fun H2 e2 => hb H2 (e.trans e2) _ fun H3 e3 => ⟨i, j, rfl, q H3 (e2.trans e3)⟩
theorem run_P_content {K : PySem.W.Frag} {vs : List V} {H : Hp} {Q : VK} {E : XK} (h : sp_P_content K vs H Q E) : t_P_content K { nx := fun _ H' => Q .non H', rt := Q } (start ["row", "found", "number"] vs) H := by
  obtain ⟨a, ns, rfl, hS, q⟩ := h
  refine q_asg ev_c fun H1 e1 => ?_
  refine q_forLn (ev_var rfl) (ex_l e1 hS) (fun i σ' H' => ∃ y, σ' = [some (.ref a), some (.int (cont (ns.take i) : Nat)), y] ∧ Ex H H')
    (fun H3 e3 => ⟨none, rfl, e1.trans e3⟩) (fun i σ' H' hi hP => ex_l hP.choose_spec.2 hS) (fun i x σ' H' hi hP => ?_) (fun σ' H' hP => ?_)
  · obtain ⟨y, rfl, e3⟩ := hP
    obtain ⟨h1, rfl, h3⟩ := int_at hi
    refine s_asg (ev_gcd (ev_var rfl) (ev_var rfl)) fun H4 e4 => ⟨some (.int (ns.getD i 0)), ?_, e3.trans e4⟩
    rw [cont_take h1, Int.natAbs_natCast]
    rfl
  · obtain ⟨y, rfl, e3⟩ := hP
    refine s_ret (ev_var rfl) fun H4 e4 => ?_
    rw [List.length_map, List.take_length]
    exact q H4 (e3.trans e4)
theorem sv_P_content {K : PySem.W.Frag} {H : Hp} {a : Addr} {ns : List Int} (hS : SqL K H a (ns.map V.int)) : SpV (sp_P_content K) [.ref a] H (.int (cont ns : Nat)) := fun H1 e Q q E => ⟨a, ns, rfl, ex_l e hS, q⟩

/-! on simple rows -/
theorem last_mem {ns : List Int} (h : ns ≠ []) : ns.getD (ns.length - 1) 0 ∈ ns := by
  have := List.length_pos_iff.mpr h
  show cf ns _ ∈ ns
  rw [cf_lt (by omega)]
  exact List.getElem_mem _
theorem simple_eq {ns : List Int} (h : 0 < cont ns) : (ns.map fun x => x.fdiv (if ns.getD (ns.length - 1) 0 < 0 then -(cont ns : Int) else (cont ns : Int))) = simpleI ns := by
  unfold simpleI
  split
  · rw [List.map_map]
    exact List.map_congr_left fun x hx => fdiv_neg' (cont_dvd hx) (by omega)
  · exact List.map_congr_left fun x hx => fdiv_pos' (by omega)
theorem log2_lt {c b : Nat} (h : c < 2 ^ b) (hb : b ≤ 9000) (h0 : 0 < b) : c.log2 < 9000 := by
  have := PySem.Flt.log2_lt_of h0 h
  omega

-- USES: P_content SimpleX
/-! signed_content -/
def scI (ns : List Int) : Int := if ns.getD (ns.length - 1) 0 < 0 then -(cont ns : Int) else (cont ns : Int)
theorem sc_abs (ns : List Int) : (scI ns).natAbs = cont ns := by
  unfold scI
  split <;> omega
def sp_P_signed_content (K : PySem.W.Frag) : Sp := fun vs H Q _ => ∃ (a : Addr) (ns : List Int), vs = [.ref a] ∧ SqL K H a (ns.map V.int) ∧ RetV (.int (scI ns)) H Q
def t_P_signed_content (K : PySem.W.Frag) : TS :=
  (tSeq (tIfS (tAnd (tTruth K (tVar 0)) (tTest (tOp oLt (tOp (rIxL K) (tVar 0) (tUn uNeg (tC (.int 1)))) (tC (.int 0))))) (tRet (tUn uNeg (tCall (sp_P_content K) [] E0 (tCons (tVar 0) tNil)))) tNext) (tRet (tCall (sp_P_content K) [] E0 (tCons (tVar 0) tNil))))
theorem run_P_signed_content {K : PySem.W.Frag} {vs : List V} {H : Hp} {Q : VK} {E : XK} (h : sp_P_signed_content K vs H Q E) : t_P_signed_content K { nx := fun _ H' => Q .non H', rt := Q } (start ["row"] vs) H := by
  obtain ⟨a, ns, rfl, hS, q⟩ := h
  refine q_when (b := decide (ns.getD (ns.length - 1) 0 < 0)) (et_is (et_and (b := decide (ns.getD (ns.length - 1) 0 < 0)) (et_truthL (ev_var rfl) hS) fun hb => et_test (ev_lt (ev_last (ev_var rfl) hS ?_) ev_c)) ?_) (fun hb H1 e1 => ?_) (fun hb H1 e1 => ?_)
  · intro e
    rw [map_empty, e] at hb
    cases hb
  · rw [map_empty]
    cases ns with
    | nil => rfl
    | cons x r => rfl
  · refine s_ret (ev_neg (ev_call (ea_cons (ev_var rfl) ea_nil) (sv_P_content (ex_l e1 hS)))) fun H2 e2 => ?_
    have e : scI ns = -(cont ns : Int) := if_pos (of_decide_eq_true hb)
    rw [← e]
    exact q H2 (e1.trans e2)
  · refine s_ret (ev_call (ea_cons (ev_var rfl) ea_nil) (sv_P_content (ex_l e1 hS))) fun H2 e2 => ?_
    have e : scI ns = (cont ns : Int) := if_neg (of_decide_eq_false hb)
    rw [← e]
    exact q H2 (e1.trans e2)
theorem sv_P_signed_content {K : PySem.W.Frag} {H : Hp} {a : Addr} {ns : List Int} (hS : SqL K H a (ns.map V.int)) : SpV (sp_P_signed_content K) [.ref a] H (.int (scI ns)) := fun H1 e Q q E => ⟨a, ns, rfl, ex_l e hS, q⟩

-- USES: Lists
/-! lessened -/
def sp_P_lessened (K : PySem.W.Frag) : Sp := fun vs H Q _ => ∃ (a : Addr) (ns : List Int) (d : Int), vs = [.ref a, .int d] ∧ SqL K H a (ns.map V.int) ∧ ns.length ≤ 20000 ∧ (ns = [] ∨ d ≠ 0) ∧ RetL ((ns.map fun x => x.fdiv d).map V.int) H Q
def t_P_lessened (K : PySem.W.Frag) : TS :=
  (tRet (tLc (iList K (tVar 0)) (gName 2) tYes (tOp oDivG (tVar 2) (tVar 1)) [2]))
theorem run_P_lessened {K : PySem.W.Frag} {vs : List V} {H : Hp} {Q : VK} {E : XK} (h : sp_P_lessened K vs H Q E) : t_P_lessened K { nx := fun _ H' => Q .non H', rt := Q } (start ["row", "by", "number"] vs) H := by
  obtain ⟨a, ns, d, rfl, hS, hl, hd, q⟩ := h
  refine s_retL (el_lcL (fun _ => true) (fun i => .int ((ns.getD i 0).fdiv d)) (ev_var rfl) hS (by rw [List.length_map]; omega) (fun _ => rfl) (fun i x H1 e1 hi => et_yes) fun i x H4 e4 hi _ => ?_) fun p H4 hp e4 h4 => ?_
  · obtain ⟨g1, rfl, g3⟩ := int_at hi
    exact ev_op (ev_var rfl) (ev_var rfl) (rv_I (hd.resolve_left fun e => by
      rw [e] at g1
      exact absurd g1 (Nat.not_lt_zero _)))
  · rw [given_map (f := fun x => x.fdiv d)] at h4
    exact q p H4 hp e4 h4
theorem sl_P_lessened {K : PySem.W.Frag} {H : Hp} {a : Addr} {ns : List Int} {d : Int} (hS : SqL K H a (ns.map V.int)) (hl : ns.length ≤ 20000) (hd : ns = [] ∨ d ≠ 0) : SpL (sp_P_lessened K) [.ref a, .int d] H ((ns.map fun x => x.fdiv d).map V.int) := fun H1 e Q q E => ⟨a, ns, d, rfl, ex_l e hS, hl, hd, q⟩

-- USES: P_signed_content P_lessened SimpleX
/-! simple -/
theorem simple_sc {ns : List Int} (h : Nf ns) : (ns.map fun x => x.fdiv (scI ns)) = simpleI ns := by
  by_cases e : ns = []
  · rw [e]
    rfl
  · exact simple_eq (cont_pos ⟨_, last_mem e, nf_last h e⟩)
theorem sc_ne {ns : List Int} (h : Nf ns) : ns = [] ∨ scI ns ≠ 0 := by
  by_cases e : ns = []
  · exact .inl e
  · have h1 := cont_pos ⟨_, last_mem e, nf_last h e⟩
    have h2 := sc_abs ns
    exact .inr (by omega)
def sp_P_simple (K : PySem.W.Frag) : Sp := fun vs H Q _ => ∃ (a : Addr) (ns : List Int), vs = [.ref a] ∧ SqL K H a (ns.map V.int) ∧ Nf ns ∧ ns.length ≤ 20000 ∧ RetL ((simpleI ns).map V.int) H Q
def t_P_simple (K : PySem.W.Frag) : TS :=
  (tRet (tCall (sp_P_lessened K) [] E0 (tCons (tVar 0) (tCons (tCall (sp_P_signed_content K) [] E0 (tCons (tVar 0) tNil)) tNil))))
theorem run_P_simple {K : PySem.W.Frag} {vs : List V} {H : Hp} {Q : VK} {E : XK} (h : sp_P_simple K vs H Q E) : t_P_simple K { nx := fun _ H' => Q .non H', rt := Q } (start ["row"] vs) H := by
  obtain ⟨a, ns, rfl, hS, hn, hl, q⟩ := h
  refine s_retL (el_callP (xs := (simpleI ns).map V.int) (eps_V (ev_var rfl) (eps_V (ev_call (ea_cons (ev_var rfl) ea_nil) (sv_P_signed_content hS)) eps_nil)) fun vs H1 e1 hvs => ?_) q
  obtain ⟨v, w, rfl, rfl, rfl⟩ := all2_two hvs
  rw [← simple_sc hn]
  exact sl_P_lessened (ex_l e1 hS) hl (sc_ne hn)
theorem sl_P_simple' {K : PySem.W.Frag} {H : Hp} {a : Addr} {ns : List Int} (hS : SqL K H a (ns.map V.int)) (hn : Nf ns) (hl : ns.length ≤ 20000) : SpL (sp_P_simple K) [.ref a] H ((simpleI ns).map V.int) := fun H1 e Q q E => ⟨a, ns, rfl, ex_l e hS, hn, hl, q⟩
theorem sl_P_simple {K : PySem.W.Frag} {H : Hp} {a : Addr} {ns : List Int} (b : Nat) (hS : SqL K H a (ns.map V.int)) (hn : Nf ns) (hl : ns.length ≤ 20000) (_ : ∀ x ∈ ns, x.natAbs < 2 ^ b) (_ : b ≤ 9000) : SpL (sp_P_simple K) [.ref a] H ((simpleI ns).map V.int) := sl_P_simple' hS hn hl

/-! _law_whole: of an int, True -/
def sp_L_whole (K : PySem.W.Frag) : Sp := fun vs H Q _ => ∃ i : Int, vs = [.int i] ∧ RetV (.bl true) H Q
def t_L_whole (K : PySem.W.Frag) : TS :=
  (tRet (tAndV (tCB (rIsi K) (tCons (tVar 0) (tCons (tC (.ty "int")) tNil))) (tNotV (tCB (rIsi K) (tCons (tVar 0) (tCons (tC (.ty "bool")) tNil))))))
theorem run_L_whole {K : PySem.W.Frag} {vs : List V} {H : Hp} {Q : VK} {E : XK} (h : sp_L_whole K vs H Q E) : t_L_whole K { nx := fun _ H' => Q .non H', rt := Q } (start ["_law_found"] vs) H := by
  obtain ⟨i, rfl, q⟩ := h
  refine s_ret (v := .bl true) (ev_is (ev_andV (a := true) (b := true) ?_ fun _ => ?_) rfl) q
  · exact ev_isinst (ev_var rfl) ty_int (by decide +kernel)
  · exact ev_is (ev_notV (a := false) (ev_isinst (ev_var rfl) ty_int (by decide +kernel))) rfl
theorem sv_L_whole {K : PySem.W.Frag} {H : Hp} (i : Int) : SpV (sp_L_whole K) [.int i] H (.bl true) := fun H1 e Q q E => ⟨i, rfl, q⟩

/-! _law_cell_at -/
def sp_L_cell_at (K : PySem.W.Frag) : Sp := fun vs H Q _ => ∃ (a : Addr) (ns : List Int) (j : Nat), vs = [.ref a, .int (j : Int)] ∧ SqL K H a (ns.map V.int) ∧ RetV (.int (cellI ns j)) H Q
def t_L_cell_at (K : PySem.W.Frag) : TS :=
  (tSeq (tIfS (tTest (tOp oLt (tVar 1) (tCB (rLenS K) (tCons (tVar 0) tNil)))) (tRet (tOp (rIxL K) (tVar 0) (tVar 1))) tNext) (tRet (tC (.int 0))))
theorem run_L_cell_at {K : PySem.W.Frag} {vs : List V} {H : Hp} {Q : VK} {E : XK} (h : sp_L_cell_at K vs H Q E) : t_L_cell_at K { nx := fun _ H' => Q .non H', rt := Q } (start ["_law_script", "_law_k"] vs) H := by
  obtain ⟨a, ns, j, rfl, hS, q⟩ := h
  refine q_when (et_test (ev_lt (ev_var rfl) (ev_len (ev_var rfl) hS))) (fun hb H1 e1 => ?_) (fun hb H1 e1 => ?_)
  · have hj : j < ns.length := by
      have := of_decide_eq_true hb
      rw [List.length_map] at this
      omega
    exact s_ret (ev_ixI (ev_var rfl) (ev_var rfl) (ex_l e1 hS) rfl hj) fun H2 e2 => q H2 (e1.trans e2)
  · have hj : ¬ j < ns.length := fun hj => by
      have := of_decide_eq_false hb
      rw [List.length_map] at this
      omega
    refine s_ret ev_c fun H2 e2 => ?_
    have e : cellI ns j = 0 := by
      unfold cellI
      rw [List.getD_eq_getElem?_getD, List.getElem?_eq_none (by omega)]
      rfl
    rw [e] at q
    exact q H2 (e1.trans e2)
theorem sv_L_cell_at {K : PySem.W.Frag} {H : Hp} {a : Addr} {ns : List Int} {i : Int} (j : Nat) (hS : SqL K H a (ns.map V.int)) (hi : i = (j : Int)) : SpV (sp_L_cell_at K) [.ref a, .int i] H (.int (cellI ns j)) := fun H1 e Q q E =>
  ⟨a, ns, j, by rw [hi], ex_l e hS, q⟩

/-! _law_trim -/
def sp_L_trim (K : PySem.W.Frag) : Sp := fun vs H Q _ => ∃ (a : Addr) (ns : List Int), vs = [.ref a] ∧ SqL K H a (ns.map V.int) ∧ RetL ((trimI ns).map V.int) H Q
def t_L_trim (K : PySem.W.Frag) : TS :=
  (tSeq (tAsg (tCB (rLenS K) (tCons (tVar 0) tNil)) (gName 1)) (tSeq (tWhile (tAnd (tTest (tOp oGt (tVar 1) (tC (.int 0)))) (tTest (tOp rEq (tOp (rIxL K) (tVar 0) (tOp oSub (tVar 1) (tC (.int 1)))) (tC (.int 0))))) (tAsg (tOp oSub (tVar 1) (tC (.int 1))) (gName 1))) (tRet (tSl (rSlL K) (tVar 0) tNoPart (tPart (tVar 1))))))
theorem run_L_trim {K : PySem.W.Frag} {vs : List V} {H : Hp} {Q : VK} {E : XK} (h : sp_L_trim K vs H Q E) : t_L_trim K { nx := fun _ H' => Q .non H', rt := Q } (start ["_law_row", "_law_size"] vs) H := by
  obtain ⟨a, ns, rfl, hS, q⟩ := h
  refine q_asg (ev_len (ev_var rfl) hS) fun H1 e1 => ?_
  refine q_while (fun m σ' H' => σ' = [some (.ref a), some (.int (m : Int))] ∧ Ex H H' ∧ m ≤ ns.length ∧ ∀ i, m ≤ i → i < ns.length → ns.getD i 0 = 0) ns.length
    ⟨by rw [List.length_map]; rfl, e1, Nat.le_refl _, fun i h1 h2 => by omega⟩ fun m σ' H' hW => ?_
  obtain ⟨rfl, e2, hm, hz⟩ := hW
  refine ⟨_, et_and (et_test (ev_gt (ev_var rfl) ev_c)) (fun hb => et_test (ev_eqI (ev_ixI (j := m - 1) (ev_var rfl) (ev_sub (ev_var rfl) ev_c) (ex_l e2 hS) ?_ ?_) ev_c)), fun hb H3 e3 => ?_, fun hb H3 e3 => ?_⟩
  · have := of_decide_eq_true hb
    omega
  · have := of_decide_eq_true hb
    omega
  · rw [Bool.and_eq_true] at hb
    have h1 := of_decide_eq_true hb.1
    have h2 := of_decide_eq_true hb.2
    refine ⟨fun σ2 H2 => σ2 = [some (.ref a), some (.int ((m - 1 : Nat) : Int))] ∧ Ex H H2, fun σ2 H2 hN => ⟨m - 1, by omega, hN.1, hN.2, by omega, fun i h3 h4 => ?_⟩, ?_⟩
    · by_cases e : i = m - 1
      · rw [e]
        exact h2
      · exact hz i (by omega) h4
    · refine s_asg (ev_sub (ev_var rfl) ev_c) fun H4 e4 => ⟨?_, (e2.trans e3).trans e4⟩
      have e : ((m : Int) - 1) = ((m - 1 : Nat) : Int) := by omega
      rw [e]
      rfl
  · refine s_retL (el_sl (ev_var rfl) eo_none (eo_some (ev_var rfl)) (ex_l (e2.trans e3) hS)) fun p H4 hp e4 h4 => ?_
    have hn : m = 0 ∨ ns.getD (m - 1) 0 ≠ 0 := by
      by_cases h0 : m = 0
      · exact .inl h0
      · right
        intro hc
        rw [decide_eq_true (show (0 : Int) < m by omega), decide_eq_true hc] at hb
        cases hb
    have e := trim_take ns m hm hz hn
    rw [cut_take, ← e] at h4
    exact q.go (e2.trans e3) hp e4 h4
theorem sl_L_trim {K : PySem.W.Frag} {H : Hp} {a : Addr} {ns : List Int} (hS : SqL K H a (ns.map V.int)) : SpL (sp_L_trim K) [.ref a] H ((trimI ns).map V.int) := fun H1 e Q q E =>
  ⟨a, ns, rfl, ex_l e hS, q⟩

-- USES: L_whole
/-! _law_same: of two lists of ints -/
def sp_L_same (K : PySem.W.Frag) : Sp := fun vs H Q _ => ∃ (a b : Addr) (ns ms : List Int), vs = [.ref a, .ref b] ∧ H a = some (.lst (ns.map V.int)) ∧ SqL K H b (ms.map V.int) ∧ ms.length ≤ 90000 ∧ RetV (.bl (decide (ns = ms))) H Q
def t_L_same (K : PySem.W.Frag) : TS :=
  (tSeq (tIfS (tOr (tNot (tB (tCB (rIsi K) (tCons (tVar 0) (tCons (tC (.ty "list")) tNil))))) (tTest (tOp rNe (tCB (rLenS K) (tCons (tVar 0) tNil)) (tCB (rLenS K) (tCons (tVar 1) tNil))))) (tRet (tC (.bl false))) tNext) (tSeq (tFor (iRng1 (tCons (tCB (rLenS K) (tCons (tVar 1) tNil)) tNil)) (gName 2) (tIfS (tOr (tNot (tB (tCall (sp_L_whole K) [] E0 (tCons (tOp (rIxL K) (tVar 0) (tVar 2)) tNil)))) (tTest (tOp rNe (tOp (rIxL K) (tVar 0) (tVar 2)) (tOp (rIxL K) (tVar 1) (tVar 2))))) (tRet (tC (.bl false))) tNext)) (tRet (tC (.bl true)))))
theorem eq_of_getD {ns ms : List Int} (hl : ns.length = ms.length) (h : ∀ i, i < ms.length → ns.getD i 0 = ms.getD i 0) : ns = ms := by
  refine List.ext_getElem hl fun i h1 h2 => ?_
  have := h i h2
  rw [List.getD_eq_getElem?_getD, List.getD_eq_getElem?_getD, List.getElem?_eq_getElem h1, List.getElem?_eq_getElem h2] at this
  exact this
theorem run_L_same {K : PySem.W.Frag} {vs : List V} {H : Hp} {Q : VK} {E : XK} (h : sp_L_same K vs H Q E) : t_L_same K { nx := fun _ H' => Q .non H', rt := Q } (start ["_law_found", "_law_due", "_law_k"] vs) H := by
  obtain ⟨a, b, ns, ms, rfl, hA, hB, hl, q⟩ := h
  have hAs : SqL K H a (ns.map V.int) := sq_of hA
  refine q_when (et_or (a := false) (et_is (et_not (et_B (ev_isinst (ev_var rfl) (ty_lst hA) (b := true) (by decide +kernel)))) rfl) (fun _ => et_test (ev_neI (ev_len (ev_var rfl) hAs) (ev_len (ev_var rfl) hB)))) (fun hb H1 e1 => ?_) (fun hb H1 e1 => ?_)
  · refine s_ret ev_c fun H2 e2 => ?_
    have hne : ns ≠ ms := fun e => by
      subst e
      simp at hb
    rw [decide_eq_false hne] at q
    exact q H2 (e1.trans e2)
  · have hlen : ns.length = ms.length := by
      simp at hb
      omega
    refine q_forR1 (n := (ms.length : Int)) (ea_cons (ev_is (ev_len (ev_var rfl) (ex_l e1 hB)) (by rw [List.length_map])) ea_nil) ⟨by omega, by omega⟩
      (fun i σ' H' => ∃ y, σ' = [some (.ref a), some (.ref b), y] ∧ Ex H H' ∧ ∀ j, j < i → ns.getD j 0 = ms.getD j 0) (fun H2 e2 => ⟨_, rfl, e1.trans e2, fun j hj => by omega⟩) (fun i σ' H' hi hP => ?_) (fun σ' H' hP => ?_)
    · obtain ⟨y, rfl, e2, hs⟩ := hP
      have hi' : i < ms.length := by omega
      refine s_when (et_or (a := false) (et_is (et_not (et_B (ev_call (ea_cons (ev_ixI (ev_var rfl) (ev_var rfl) (ex_l e2 hAs) rfl (by omega)) ea_nil) (sv_L_whole _)))) rfl) (fun _ => et_test (ev_neI (ev_ixI (ev_var rfl) (ev_var rfl) (ex_l e2 hAs) rfl (by omega)) (ev_ixI (ev_var rfl) (ev_var rfl) (ex_l e2 hB) rfl hi')))) (fun hb H3 e3 => ?_) (fun hb H3 e3 => ?_)
      · refine s_ret ev_c fun H4 e4 => ?_
        have hne : ns ≠ ms := fun e => by
          subst e
          simp at hb
        rw [decide_eq_false hne] at q
        exact q H4 ((e2.trans e3).trans e4)
      · refine ⟨_, rfl, e2.trans e3, fun j hj => ?_⟩
        by_cases e : j = i
        · subst e
          simpa using hb
        · exact hs j (by omega)
    · obtain ⟨y, rfl, e2, hs⟩ := hP
      refine s_ret ev_c fun H4 e4 => ?_
      have he : ns = ms := eq_of_getD hlen fun j hj => hs j (by omega)
      rw [decide_eq_true he] at q
      exact q H4 (e2.trans e4)
theorem sv_L_same {K : PySem.W.Frag} {H : Hp} {a b : Addr} {ns ms : List Int} (hA : H a = some (.lst (ns.map V.int))) (hB : SqL K H b (ms.map V.int)) (hl : ms.length ≤ 90000) : SpV (sp_L_same K) [.ref a, .ref b] H (.bl (decide (ns = ms))) := fun H1 e Q q E =>
  ⟨a, b, ns, ms, rfl, e _ _ hA, ex_l e hB, hl, q⟩

/-! bounds of signs and rests -/
theorem mod2x {i : Int} : (i % 2).natAbs < 2 ^ 1 := by
  have h1 : 0 ≤ i % 2 := Int.emod_nonneg _ (by decide)
  have h2 : i % 2 < 2 := Int.emod_lt_of_pos _ (by decide)
  omega
theorem sgnx {i : Int} : (1 - i % 2 * 2).natAbs < 2 ^ 2 := by
  have h1 : 0 ≤ i % 2 := Int.emod_nonneg _ (by decide)
  have h2 : i % 2 < 2 := Int.emod_lt_of_pos _ (by decide)
  omega
theorem modx {i j : Int} {b : Nat} (h0 : 0 < j) (h : j ≤ 2 ^ b) : (i % j).natAbs < 2 ^ b := by
  have h1 : 0 ≤ i % j := Int.emod_nonneg _ (by omega)
  have h2 : i % j < j := Int.emod_lt_of_pos _ h0
  have h3 : ((2 ^ b : Nat) : Int) = 2 ^ b := by simp
  omega

-- USES: NumX
/-! _law_number -/
def sp_L_number (K : PySem.W.Frag) : Sp := fun vs H Q _ => ∃ c : Int, vs = [.int c] ∧ RetV (.int (numI c)) H Q
def t_L_number (K : PySem.W.Frag) : TS :=
  (tSeq (tIfS (tTest (tOp rEq (tOp oMod (tVar 0) (tC (.int 7))) (tC (.int 0)))) (tRet (tC (.int 0))) tNext) (tSeq (tIfS (tTest (tOp rEq (tOp oMod (tVar 0) (tC (.int 7))) (tC (.int 1)))) (tRet (tOp oMul (tOp oSub (tC (.int 1)) (tOp oMul (tOp oMod (tOp oDiv (tVar 0) (tC (.int 7))) (tC (.int 2))) (tC (.int 2)))) (tOp oMod (tOp oDiv (tVar 0) (tC (.int 14))) (tOp oPow (tC (.int 10)) (tC (.int 40)))))) tNext) (tRet (tOp oSub (tOp oMod (tOp oDiv (tVar 0) (tC (.int 7))) (tC (.int 19))) (tC (.int 9))))))
theorem run_L_number {K : PySem.W.Frag} {vs : List V} {H : Hp} {Q : VK} {E : XK} (h : sp_L_number K vs H Q E) : t_L_number K { nx := fun _ H' => Q .non H', rt := Q } (start ["_law_cell"] vs) H := by
  obtain ⟨c, rfl, q⟩ := h
  unfold numI at q
  refine q_when (et_test (ev_eqI (ev_mod (ev_var rfl) ev_c (by decide)) ev_c)) (fun hb H1 e1 => ?_) (fun hb H1 e1 => ?_)
  · have hc := of_decide_eq_true hb
    rw [if_pos hc] at q
    exact s_ret ev_c fun H2 e2 => q H2 (e1.trans e2)
  · have hc := of_decide_eq_false hb
    rw [if_neg hc] at q
    refine q_when (et_test (ev_eqI (ev_mod (ev_var rfl) ev_c (by decide)) ev_c)) (fun hb2 H2 e2 => ?_) (fun hb2 H2 e2 => ?_)
    · have hc2 := of_decide_eq_true hb2
      rw [if_pos hc2] at q
      refine s_ret (ev_mul (ev_sub ev_c (ev_mul (ev_mod (ev_div (ev_var rfl) ev_c (div_small (by decide) (by decide))) ev_c (by decide)) ev_c (mulx (a := 1) (b := 3) mod2x (by decide) (by decide))))
        (ev_mod (ev_div (ev_var rfl) ev_c (div_small (by decide) (by decide))) (ev_pow ev_c ev_c ⟨by decide, by decide, by decide⟩) (by decide)) (mulx (a := 2) (b := 133) sgnx (modx (by decide) (by decide)) (by decide))) fun H3 e3 => q H3 ((e1.trans e2).trans e3)
    · have hc2 := of_decide_eq_false hb2
      rw [if_neg hc2] at q
      exact s_ret (ev_sub (ev_mod (ev_div (ev_var rfl) ev_c (div_small (by decide) (by decide))) ev_c (by decide)) ev_c) fun H3 e3 => q H3 ((e1.trans e2).trans e3)
theorem sv_L_number {K : PySem.W.Frag} {H : Hp} (c : Int) : SpV (sp_L_number K) [.int c] H (.int (numI c)) := fun H1 e Q q E => ⟨c, rfl, q⟩

-- USES: Lists L_number L_cell_at L_trim
/-! _law_drawn -/
def sp_L_drawn (K : PySem.W.Frag) : Sp := fun vs H Q _ => ∃ (a : Addr) (ns : List Int) (p s m : Nat), vs = [.ref a, .int (p : Int), .int (s : Int), .int (m : Int)] ∧ SqL K H a (ns.map V.int) ∧ s ≤ 1000 ∧ m ≤ 1000 ∧ RetL ((drawnI numI ns p s m).map V.int) H Q
def t_L_drawn (K : PySem.W.Frag) : TS :=
  (tSeq (tAsg (tLc (iRng1 (tCons (tVar 2) tNil)) (gName 5) tYes (tCall (sp_L_number K) [] E0 (tCons (tCall (sp_L_cell_at K) [] E0 (tCons (tVar 0) (tCons (tOp oAdd (tVar 1) (tVar 5)) tNil))) tNil)) [5]) (gName 4)) (tSeq (tIfS (tTest (tOp oGt (tVar 3) (tC (.int 0)))) (tAsg (tLc (iRng1 (tCons (tVar 3) tNil)) (gName 5) tYes (tCall (sp_L_number K) [] E0 (tCons (tOp oAdd (tOp oAdd (tCall (sp_L_cell_at K) [] E0 (tCons (tVar 0) (tCons (tVar 1) tNil))) (tOp oMul (tOp oMul (tC (.int 97)) (tVar 5)) (tVar 5))) (tOp oMul (tC (.int 13)) (tVar 5))) tNil)) [5]) (gName 4)) tNext) (tRet (tCall (sp_L_trim K) [] E0 (tCons (tVar 4) tNil)))))
theorem run_L_drawn {K : PySem.W.Frag} {vs : List V} {H : Hp} {Q : VK} {E : XK} (h : sp_L_drawn K vs H Q E) : t_L_drawn K { nx := fun _ H' => Q .non H', rt := Q } (start ["_law_script", "_law_place", "_law_size", "_law_many", "_law_row", "_law_k"] vs) H := by
  obtain ⟨a, ns, p, s, m, rfl, hS, hs, hm, q⟩ := h
  refine q_asgL (el_lcR1 (n := (s : Int)) (fun _ => true) (fun i => .int (numI (cellI ns (p + i)))) (ea_cons (ev_var rfl) ea_nil) ⟨by omega, by omega⟩ (fun _ => rfl) (fun i H1 e1 hi => et_yes)
    (fun i H1 e1 hi _ => ev_call (ea_cons (ev_call (ea_cons (ev_var rfl) (ea_cons (ev_add (ev_var rfl) (ev_var rfl)) ea_nil)) (sv_L_cell_at (p + i) (ex_l e1 hS) (by omega))) ea_nil) (sv_L_number _))) fun r H1 nr e1 hr => ?_
  rw [given_all, Int.toNat_natCast] at hr
  refine q_when (et_test (ev_gt (ev_var rfl) ev_c)) (fun hb H2 e2 => ?_) (fun hb H2 e2 => ?_)
  · have h0 := of_decide_eq_true hb
    refine s_asgL (el_lcR1 (n := (m : Int)) (fun _ => true) (fun i => .int (numI (cellI ns p + 97 * (i : Int) * (i : Int) + 13 * (i : Int)))) (ea_cons (ev_var rfl) ea_nil) ⟨by omega, by omega⟩ (fun _ => rfl) (fun i H1 e1 hi => et_yes)
      (fun i H3 e3 hi _ => ev_call (ea_cons (ev_add (ev_add (ev_call (ea_cons (ev_var rfl) (ea_cons (ev_var rfl) ea_nil)) (sv_L_cell_at p (ex_l (e2.trans e3) (ex_l e1 hS)) rfl))
        (ev_mul (ev_mul ev_c (ev_var rfl) (mulx (a := 7) (b := 10) (by decide) (kx (n := m) (by omega) hm) (by decide))) (ev_var rfl) (mulx (a := 17) (b := 10) (wide_lt (a := 7) (b := 10) (by decide) (kx (n := m) (by omega) hm)) (kx (n := m) (by omega) hm) (by decide))))
        (ev_mul ev_c (ev_var rfl) (mulx (a := 4) (b := 10) (by decide) (kx (n := m) (by omega) hm) (by decide)))) ea_nil) (sv_L_number _))) fun r2 H3 nr2 e3 hr2 => ?_
    rw [given_all, Int.toNat_natCast] at hr2
    refine s_retL (el_call (xs := (drawnI numI ns p s m).map V.int) (ea_cons (ev_var rfl) ea_nil) ?_) fun p4 H4 n4 e4 h4 => q.go ((e1.trans e2).trans e3) n4 e4 h4
    unfold drawnI
    rw [if_pos (by omega)]
    refine sl_L_trim (sq_of ?_)
    rw [hr2, List.map_map]
    rfl
  · have h0 := of_decide_eq_false hb
    refine s_retL (el_call (xs := (drawnI numI ns p s m).map V.int) (ea_cons (ev_var rfl) ea_nil) ?_) fun p4 H4 n4 e4 h4 => q.go (e1.trans e2) n4 e4 h4
    unfold drawnI
    rw [if_neg (by omega)]
    refine sl_L_trim (sq_of (e2 _ _ ?_))
    rw [hr, List.map_map]
    rfl
theorem sl_L_drawn {K : PySem.W.Frag} {H : Hp} {a : Addr} {ns : List Int} {i j k : Int} (p s m : Nat) (hS : SqL K H a (ns.map V.int)) (hs : s ≤ 1000) (hm : m ≤ 1000) (hi : i = (p : Int)) (hj : j = (s : Int)) (hk : k = (m : Int)) :
    SpL (sp_L_drawn K) [.ref a, .int i, .int j, .int k] H ((drawnI numI ns p s m).map V.int) := fun H1 e Q q E =>
  ⟨a, ns, p, s, m, by rw [hi, hj, hk], ex_l e hS, hs, hm, q⟩

/-! _law_greatest -/
def sp_L_greatest (K : PySem.W.Frag) : Sp := fun vs H Q _ => ∃ x y : Int, vs = [.int x, .int y] ∧ RetV (.int (Nat.gcd x.natAbs y.natAbs : Nat)) H Q
def t_L_greatest (K : PySem.W.Frag) : TS :=
  (tSeq (tAsg (tCB rAbs (tCons (tVar 0) tNil)) (gName 0)) (tSeq (tAsg (tCB rAbs (tCons (tVar 1) tNil)) (gName 1)) (tSeq (tWhile (tTest (tOp oGt (tVar 1) (tC (.int 0)))) (tSeq (tAsg (tOp oMod (tVar 0) (tVar 1)) (gName 2)) (tSeq (tAsg (tVar 1) (gName 0)) (tAsg (tVar 2) (gName 1))))) (tRet (tVar 0)))))
theorem abs_eq (i : Int) : (if i < 0 then -i else i) = (i.natAbs : Int) := by
  split <;> omega
theorem run_L_greatest {K : PySem.W.Frag} {vs : List V} {H : Hp} {Q : VK} {E : XK} (h : sp_L_greatest K vs H Q E) : t_L_greatest K { nx := fun _ H' => Q .non H', rt := Q } (start ["_law_one", "_law_other", "_law_rest"] vs) H := by
  obtain ⟨x, y, rfl, q⟩ := h
  refine q_asg (ev_is (ev_abs (ev_var rfl)) (congrArg V.int (abs_eq x))) fun H1 e1 => q_asg (ev_is (ev_abs (ev_var rfl)) (congrArg V.int (abs_eq y))) fun H2 e2 => ?_
  refine q_while (fun m σ' H' => ∃ (a : Nat) (w : Option V), σ' = [some (.int (a : Int)), some (.int (m : Int)), w] ∧ Ex H H' ∧ Nat.gcd a m = Nat.gcd x.natAbs y.natAbs) y.natAbs ⟨x.natAbs, none, rfl, e1.trans e2, rfl⟩ fun m σ' H' hW => ?_
  obtain ⟨a, w, rfl, e3, hg⟩ := hW
  refine ⟨_, et_test (ev_gt (ev_var rfl) ev_c), fun hb H3 e4 => ?_, fun hb H3 e4 => ?_⟩
  · have h0 := of_decide_eq_true hb
    refine ⟨fun σ2 H2 => ∃ w, σ2 = [some (.int (m : Int)), some (.int ((a % m : Nat) : Int)), w] ∧ Ex H H2, fun σ2 H2 hN => ?_, ?_⟩
    · obtain ⟨w, e, e5⟩ := hN
      refine ⟨a % m, Nat.mod_lt _ (by omega), m, w, e, e5, ?_⟩
      rw [← hg, Nat.gcd_comm a m, Nat.gcd_rec m a, Nat.gcd_comm]
    · refine q_asg (ev_is (ev_mod (ev_var rfl) (ev_var rfl) h0) (congrArg V.int (Int.natCast_emod a m).symm)) fun H5 e5 => q_asg (ev_var rfl) fun H6 e6 => s_asg (ev_var rfl) fun H7 e7 => ⟨some (.int ((a % m : Nat) : Int)), rfl, (((e3.trans e4).trans e5).trans e6).trans e7⟩
  · have h0 := of_decide_eq_false hb
    have e : m = 0 := by omega
    subst e
    rw [Nat.gcd_zero_right] at hg
    subst hg
    exact s_ret (ev_var rfl) fun H5 e5 => q H5 ((e3.trans e4).trans e5)
theorem sv_L_greatest {K : PySem.W.Frag} {H : Hp} (x y : Int) : SpV (sp_L_greatest K) [.int x, .int y] H (.int (Nat.gcd x.natAbs y.natAbs : Nat)) := fun H1 e Q q E => ⟨x, y, rfl, q⟩

-- USES: Lists L_greatest
/-! _law_content -/
def sp_L_content (K : PySem.W.Frag) : Sp := fun vs H Q _ => ∃ (a : Addr) (ns : List Int), vs = [.ref a] ∧ SqL K H a (ns.map V.int) ∧ RetV (.int (cont ns : Nat)) H Q
def t_L_content (K : PySem.W.Frag) : TS :=
  (tSeq (tAsg (tC (.int 0)) (gName 1)) (tSeq (tFor (iList K (tVar 0)) (gName 2) (tAsg (tCall (sp_L_greatest K) [] E0 (tCons (tVar 1) (tCons (tVar 2) tNil))) (gName 1))) (tRet (tVar 1))))
theorem run_L_content {K : PySem.W.Frag} {vs : List V} {H : Hp} {Q : VK} {E : XK} (h : sp_L_content K vs H Q E) : t_L_content K { nx := fun _ H' => Q .non H', rt := Q } (start ["_law_row", "_law_found", "_law_number_here"] vs) H := by
  obtain ⟨a, ns, rfl, hS, q⟩ := h
  refine q_asg ev_c fun H1 e1 => ?_
  refine q_forLn (ev_var rfl) (ex_l e1 hS) (fun i σ' H' => ∃ y, σ' = [some (.ref a), some (.int (cont (ns.take i) : Nat)), y] ∧ Ex H H')
    (fun H3 e3 => ⟨none, rfl, e1.trans e3⟩) (fun i σ' H' hi hP => ex_l hP.choose_spec.2 hS) (fun i x σ' H' hi hP => ?_) (fun σ' H' hP => ?_)
  · obtain ⟨y, rfl, e3⟩ := hP
    obtain ⟨h1, rfl, h3⟩ := int_at hi
    refine s_asg (ev_call (ea_cons (ev_var rfl) (ea_cons (ev_var rfl) ea_nil)) (sv_L_greatest _ _)) fun H4 e4 => ⟨some (.int (ns.getD i 0)), ?_, e3.trans e4⟩
    rw [cont_take h1, Int.natAbs_natCast]
    rfl
  · obtain ⟨y, rfl, e3⟩ := hP
    refine s_ret (ev_var rfl) fun H4 e4 => ?_
    rw [List.length_map, List.take_length]
    exact q H4 (e3.trans e4)
theorem sv_L_content {K : PySem.W.Frag} {H : Hp} {a : Addr} {ns : List Int} (hS : SqL K H a (ns.map V.int)) : SpV (sp_L_content K) [.ref a] H (.int (cont ns : Nat)) := fun H1 e Q q E => ⟨a, ns, rfl, ex_l e hS, q⟩

-- USES: L_drawn
/-! rows as the laws draw them -/
structure Good (b n : Nat) (ns : List Int) : Prop where
  nf : Nf ns
  len : ns.length ≤ n
  lt : ∀ x ∈ ns, x.natAbs < 2 ^ b
theorem Good.take {b n : Nat} {ns : List Int} (h : Good b n ns) (k m : Nat) (hm : k ≤ m ∨ n ≤ m) : Good b m (trimI (ns.take k)) :=
  ⟨nf_trim _, Nat.le_trans (trim_len _) (by rw [List.length_take]; have := h.len; omega), fun x hx => h.lt x (List.mem_of_mem_take (trim_mem _ _ hx))⟩
theorem Good.mono {b n b' n' : Nat} {ns : List Int} (h : Good b n ns) (hb : b ≤ b') (hn : n ≤ n') : Good b' n' ns :=
  ⟨h.nf, Nat.le_trans h.len hn, fun x hx => Nat.lt_of_lt_of_le (h.lt x hx) (Nat.pow_le_pow_right (by decide) hb)⟩
theorem good_drawn {num : Int → Int} {b : Nat} (hb : ∀ c, (num c).natAbs < 2 ^ b) (ns : List Int) (place size many n : Nat) (hn : max size many ≤ n) : Good b n (drawnI num ns place size many) :=
  ⟨nf_trim _, Nat.le_trans (drawn_len _ _ _ _ _) hn, drawn_lt hb _ _ _ _⟩
theorem Good.nrm {b n m : Nat} {ns : List Int} (h : Good b n ns) (hm : n ≤ 2 ^ m) : nrm ns ≤ 2 ^ (m + b) := nrm_bound h.lt (Nat.le_trans h.len hm)
theorem Good.le {b n : Nat} {ns : List Int} (h : Good b n ns) : ∀ x ∈ ns, x.natAbs ≤ 2 ^ b := fun x hx => Nat.le_of_lt (h.lt x hx)
def Rows2 (P : List Int → List Int → Prop) : List V → List V → Prop := fun xs ys => ∃ ns ms : List Int, xs = ns.map V.int ∧ ys = ms.map V.int ∧ P ns ms

-- USES: Lists L_cell_at L_drawn L_trim L_same L_whole P_content P_simple L_content Good
def sp_law (K : PySem.W.Frag) : Sp := fun vs H Q _ => ∃ (a : Addr) (ns : List Int), vs = [.ref a] ∧ SqL K H a (ns.map V.int) ∧ RetV (.bl true) H Q
def t_law (K : PySem.W.Frag) : TS :=
  (tSeq (tAsg (tCall (sp_L_cell_at K) [] E0 (tCons (tVar 0) (tCons (tC (.int 0)) tNil))) (gName 1)) (tSeq (tAsg (tCall (sp_L_cell_at K) [] E0 (tCons (tVar 0) (tCons (tC (.int 1)) tNil))) (gName 2)) (tSeq (tAsg (tC (.int 0)) (gName 3)) (tSeq (tIfS (tTest (tOp rEq (tOp oMod (tVar 1) (tC (.int 4))) (tC (.int 1)))) (tAsg (tOp oMod (tOp oDiv (tVar 1) (tC (.int 4))) (tC (.int 101))) (gName 3)) tNext) (tSeq (tAsg (tCall (sp_L_drawn K) [] E0 (tCons (tVar 0) (tCons (tC (.int 3)) (tCons (tOp oMod (tOp oDiv (tVar 1) (tC (.int 4))) (tC (.int 7))) (tCons (tVar 3) tNil))))) (gName 4)) (tSeq (tAsg (tC (.int 1)) (gName 5)) (tSeq (tIfS (tTest (tOp rEq (tOp oMod (tVar 2) (tC (.int 4))) (tC (.int 1)))) (tAsg (tOp oSub (tOp oMod (tOp oDiv (tVar 2) (tC (.int 4))) (tC (.int 61))) (tC (.int 30))) (gName 5)) tNext) (tSeq (tIfS (tTest (tOp rEq (tOp oMod (tVar 2) (tC (.int 4))) (tC (.int 3)))) (tAsg (tOp oMod (tOp oDiv (tVar 2) (tC (.int 4))) (tOp oPow (tC (.int 10)) (tC (.int 20)))) (gName 5)) tNext) (tSeq (tAsg (tCall (sp_L_trim K) [] E0 (tCons (tLc (iList K (tVar 4)) (gName 12) tYes (tOp oMul (tVar 5) (tVar 12)) [12]) tNil)) (gName 4)) (tSeq (tAsg (tCall (sp_L_cell_at K) [] E0 (tCons (tVar 0) (tCons (tC (.int 2)) tNil))) (gName 6)) (tSeq (tIfS (tAnd (tTest (tOp rEq (tOp oMod (tVar 6) (tC (.int 3))) (tC (.int 1)))) (tTest (tOp (rNeD K) (tVar 4) (tLst tNil)))) (tSeq (tAsg (tOp oMod (tOp oDiv (tVar 6) (tC (.int 3))) (tCB (rLenS K) (tCons (tVar 4) tNil))) (gName 7)) (tAsg (tCall (sp_L_trim K) [] E0 (tCons (tOp rCat (tOp rCat (tSl (rSlL K) (tVar 4) tNoPart (tPart (tVar 7))) (tLst (tCons (tOp oAdd (tOp (rIxL K) (tVar 4) (tVar 7)) (tC (.int 1))) tNil))) (tSl (rSlL K) (tVar 4) (tPart (tOp oAdd (tVar 7) (tC (.int 1)))) tNoPart)) tNil)) (gName 4))) tNext) (tSeq (tAsg (tCB (rListS K) (tCons (tVar 4) tNil)) (gName 8)) (tSeq (tAsg (tCall (sp_P_content K) [] E0 (tCons (tVar 8) tNil)) (gName 9)) (tSeq (tAsg (tCall (sp_P_simple K) [] E0 (tCons (tVar 8) tNil)) (gName 10)) (tSeq (tIfS (tOr (tNot (tB (tCall (sp_L_whole K) [] E0 (tCons (tVar 9) tNil)))) (tOr (tTest (tOp oLt (tVar 9) (tC (.int 0)))) (tNot (tB (tCall (sp_L_same K) [] E0 (tCons (tVar 8) (tCons (tVar 4) tNil))))))) (tRet (tC (.bl false))) tNext) (tSeq (tIfS (tTest (tOp (rEqD K) (tVar 4) (tLst tNil))) (tRet (tAndV (tOp rEq (tVar 9) (tC (.int 0))) (tCall (sp_L_same K) [] E0 (tCons (tVar 10) (tCons (tLst tNil) tNil))))) tNext) (tSeq (tIfS (tOr (tTest (tOp rEq (tVar 9) (tC (.int 0)))) (tTest (tOp (rNeD K) (tLc (iList K (tVar 4)) (gName 12) (tTest (tOp rNe (tOp oMod (tVar 12) (tVar 9)) (tC (.int 0)))) (tVar 12) [12]) (tLst tNil)))) (tRet (tC (.bl false))) tNext) (tSeq (tAsg (tLc (iList K (tVar 4)) (gName 12) tYes (tOp oDiv (tVar 12) (tVar 9)) [12]) (gName 11)) (tSeq (tIfS (tTest (tOp oLt (tOp (rIxL K) (tVar 11) (tUn uNeg (tC (.int 1)))) (tC (.int 0)))) (tAsg (tLc (iList K (tVar 11)) (gName 12) tYes (tUn uNeg (tVar 12)) [12]) (gName 11)) tNext) (tSeq (tIfS (tOr (tTest (tOp rNe (tCall (sp_L_content K) [] E0 (tCons (tVar 11) tNil)) (tC (.int 1)))) (tNot (tB (tCall (sp_L_same K) [] E0 (tCons (tVar 10) (tCons (tVar 11) tNil)))))) (tRet (tC (.bl false))) tNext) (tSeq (tDrop (tBM K "list" rAppend (tVar 10) (tCons (tC (.int 7)) tNil))) (tRet (tCall (sp_L_same K) [] E0 (tCons (tCall (sp_P_simple K) [] E0 (tCons (tVar 8) tNil)) (tCons (tVar 11) tNil)))))))))))))))))))))))))
theorem given_none {n : Nat} {f : Nat → Bool} {v : Nat → V} (h : ∀ i, i < n → f i = false) : given n f v = [] := by
  unfold given
  rw [List.filter_eq_nil_iff.mpr (fun i hi => by rw [h i (List.mem_range.mp hi)]; decide)]
  rfl
theorem ediv_neg_iff {x : Int} {c : Nat} (h0 : 0 < c) : x / (c : Int) < 0 ↔ x < 0 := by
  constructor
  · intro h
    rcases Int.lt_or_le x 0 with h1 | h1
    · exact h1
    · have := Int.ediv_nonneg h1 (show (0 : Int) ≤ c by omega)
      omega
  · intro h
    exact Int.ediv_neg_of_neg_of_pos h (by omega)
theorem map_getD (ns : List Int) (f : Int → Int) {j : Nat} (hj : j < ns.length) : (ns.map f).getD j 0 = f (ns.getD j 0) := by
  rw [List.getD_eq_getElem?_getD, List.getElem?_map, List.getElem?_eq_getElem hj, List.getD_eq_getElem?_getD, List.getElem?_eq_getElem hj]
  rfl
theorem set_row (ns : List Int) (j : Nat) (hj : j < ns.length) (z : Int) : ns.take j ++ [z] ++ ns.drop (j + 1) = ns.set j z := by
  rw [List.set_eq_take_append_cons_drop, if_pos hj, List.append_assoc]
  rfl
theorem run_law {K : PySem.W.Frag} {vs : List V} {H : Hp} {Q : VK} {E : XK} (h : sp_law K vs H Q E) : t_law K { nx := fun _ H' => Q .non H', rt := Q } (start ["_law_script", "_law_first", "_law_second", "_law_many", "_law_row", "_law_by", "_law_third", "_law_place", "_law_handed", "_law_found", "_law_told", "_law_left", "_law_number_here"] vs) H := by
  obtain ⟨a, ns, rfl, hS, q⟩ := h
  refine q_asg (ev_call (ea_cons (ev_var rfl) (ea_cons ev_c ea_nil)) (sv_L_cell_at 0 hS rfl)) fun H1 e1 => ?_
  refine q_asg (ev_call (ea_cons (ev_var rfl) (ea_cons ev_c ea_nil)) (sv_L_cell_at 1 (ex_l e1 hS) rfl)) fun H2 e2 => q_asg ev_c fun H3 e3 => ?_
  have e13 := (e1.trans e2).trans e3
  generalize cellI ns 0 = first
  generalize cellI ns 1 = second
  refine q_ifAsg (v := .int (((if first % 4 = 1 then (first / 4 % 101).toNat else 0) : Nat) : Int)) (et_test (ev_eqI (ev_mod (ev_var rfl) ev_c (by decide)) ev_c)) (fun hb => ?_) (fun hb => ?_) fun H4 e4 => ?_
  · rw [if_pos (of_decide_eq_true hb), ← (modN (i := first / 4) (j := 101) (by decide)).1]
    exact ev_mod (ev_div (ev_var rfl) ev_c (div_small (by decide) (by decide))) ev_c (by decide)
  · rw [if_neg (of_decide_eq_false hb)]
    rfl
  generalize hm : (if first % 4 = 1 then (first / 4 % 101).toNat else 0) = many
  have hm1 : many ≤ 100 := by
    rw [← hm]
    split
    · have := (modN (i := first / 4) (j := 101) (by decide)).2
      omega
    · omega
  have hs := modN (i := first / 4) (j := 7) (by decide)
  have e14 := e13.trans e4
  refine q_asgL (el_call (ea_cons (ev_var rfl) (ea_cons ev_c (ea_cons (ev_mod (ev_div (ev_var rfl) ev_c (div_small (by decide) (by decide))) ev_c (by decide)) (ea_cons (ev_var rfl) ea_nil)))) (sl_L_drawn 3 (first / 4 % 7).toNat many (ex_l e14 hS) (by omega) (by omega) rfl hs.1 rfl)) fun r H5 nr e5 hr => ?_
  have g0 : Good 133 100 (drawnI numI ns 3 (first / 4 % 7).toNat many) := good_drawn num_lt _ _ _ _ _ (by omega)
  generalize drawnI numI ns 3 (first / 4 % 7).toNat many = row0 at hr g0
  refine q_asg ev_c fun H6 e6 => ?_
  refine q_ifAsg (v := .int (if second % 4 = 1 then second / 4 % 61 - 30 else 1)) (et_test (ev_eqI (ev_mod (ev_var rfl) ev_c (by decide)) ev_c)) (fun hb => ?_) (fun hb => ?_) fun H7 e7 => ?_
  · rw [if_pos (of_decide_eq_true hb)]
    exact ev_sub (ev_mod (ev_div (ev_var rfl) ev_c (div_small (by decide) (by decide))) ev_c (by decide)) ev_c
  · rw [if_neg (of_decide_eq_false hb)]
    rfl
  generalize hby1 : (if second % 4 = 1 then second / 4 % 61 - 30 else 1) = by1
  refine q_ifAsg (v := .int (if second % 4 = 3 then second / 4 % 10 ^ 20 else by1)) (et_test (ev_eqI (ev_mod (ev_var rfl) ev_c (by decide)) ev_c)) (fun hb => ?_) (fun hb => ?_) fun H8 e8 => ?_
  · rw [if_pos (of_decide_eq_true hb)]
    exact ev_mod (ev_div (ev_var rfl) ev_c (div_small (by decide) (by decide))) (ev_pow ev_c ev_c ⟨by decide, by decide, by decide⟩) (by decide)
  · rw [if_neg (of_decide_eq_false hb)]
    rfl
  have hby : (if second % 4 = 3 then second / 4 % 10 ^ 20 else by1).natAbs < 2 ^ 67 := by
    split
    · exact modx (by decide) (by decide)
    · rw [← hby1]
      split
      · have h1 : 0 ≤ second / 4 % 61 := Int.emod_nonneg _ (by decide)
        have h2 : second / 4 % 61 < 61 := Int.emod_lt_of_pos _ (by decide)
        omega
      · decide
  generalize (if second % 4 = 3 then second / 4 % 10 ^ 20 else by1) = byv at hby
  have e68 := (e6.trans e7).trans e8
  have hr8 := e68 _ _ hr
  have l0 := g0.len
  refine q_asgL (el_callN (ys := (scaledI byv row0).map V.int) (el_lcL (fun _ => true) (fun i => .int (byv * row0.getD i 0)) (ev_var rfl) (sq_of (K := K) hr8) (by rw [List.length_map]; omega) (fun _ => rfl) (fun i x H1 e1 hi => et_yes) fun i x H1 e1 hi _ => ?_) fun p H9 h9 e9 => ?_) fun r1 H9 nr1 e9 hr1 => ?_
  · obtain ⟨h1, rfl, h3⟩ := int_at hi
    exact ev_mul (ev_var rfl) (ev_var rfl) (mulx (a := 67) (b := 133) hby (g0.lt _ h3) (by decide))
  · refine sl_L_trim (ns := row0.map (byv * ·)) (sq_of ?_)
    rw [h9, given_map]
  have g1 : Good 200 100 (scaledI byv row0) := ⟨nf_trim _, Nat.le_trans (scaled_len _ _) l0, fun x hx => by
    obtain ⟨y, hy, rfl⟩ := List.mem_map.mp (trim_mem _ _ hx)
    exact wide_lt (a := 67) (b := 133) hby (g0.lt _ hy)⟩
  generalize scaledI byv row0 = row1 at hr1 g1
  have l1 := g1.len
  have e19 := (e14.trans e5).trans (e68.trans e9)
  refine q_asg (ev_call (ea_cons (ev_var rfl) (ea_cons ev_c ea_nil)) (sv_L_cell_at 2 (ex_l e19 hS) rfl)) fun H10 e10 => ?_
  generalize cellI ns 2 = third
  have hr10 := e10 _ _ hr1
  have eA := e19.trans e10
  refine q_whenM (Mid := fun σ' H' => ∃ (y7 : Option V) (p : Addr) (row : List Int), σ' = [some (.ref a), some (.int first), some (.int second), some (.int (many : Int)), some (.ref p), some (.int byv), some (.int third), y7, none, none, none, none, none] ∧ Ex H10 H' ∧ H' p = some (.lst (row.map V.int)) ∧ Good 201 100 row) ?_
    (et_and (et_test (ev_eqI (ev_mod (ev_var rfl) ev_c (by decide)) ev_c)) fun _ => et_test (ev_neD (evp_at (ev_var rfl) hr10) (evp_nil (P := [])))) (fun hb k H11 e11 => ?_) (fun hb H11 e11 => ⟨none, r1, row1, rfl, e11, e11 _ _ hr10, g1.mono (by omega) (by omega)⟩)
  rotate_left
  · rw [Bool.and_eq_true] at hb
    have hne : row1 ≠ [] := by simpa using hb.2
    have hlen := List.length_pos_iff.mpr hne
    have hr11 := e11 _ _ hr10
    have hpl := modN (i := third / 3) (j := (row1.length : Int)) (by omega)
    generalize hj : (third / 3 % (row1.length : Int)).toNat = j at hpl
    have hjl : j < row1.length := by omega
    refine q_asg (v := .int (j : Int)) (ev_is (ev_mod (ev_div (ev_var rfl) ev_c (div_small (by decide) (by decide))) (ev_len (ev_var rfl) (sq_of (K := K) hr11)) (by rw [List.length_map]; omega)) (congrArg V.int (by rw [List.length_map]; exact hpl.1))) fun H12 e12 => ?_
    have hr12 := e12 _ _ hr11
    refine s_asgL (el_callN (ys := (trimI (row1.set j (row1.getD j 0 + 1))).map V.int) (el_cat (el_cat (el_take (ev_var rfl) (ev_var rfl) (sq_of hr12) rfl) (el_lst (ea_cons (ev_add (ev_ixI (ev_var rfl) (ev_var rfl) (sq_of hr12) rfl hjl) ev_c) ea_nil) (by simp)) ?_) (el_drop (k := j + 1) (ev_var rfl) (ev_add (ev_var rfl) ev_c) (sq_of hr12) (by omega)) ?_) fun p H13 h13 e13 => ?_) fun p H13 np e13 hp => k _ _ ⟨_, p, trimI (row1.set j (row1.getD j 0 + 1)), rfl, (e11.trans e12).trans e13, hp, nf_trim _, ?_, ?_⟩
    · rw [List.length_map, List.length_take]
      simp
      omega
    · rw [List.length_append, List.length_map, List.length_map, List.length_take, List.length_drop]
      simp
      omega
    · refine sl_L_trim (sq_of ?_)
      rw [h13, ← set_row row1 j hjl, List.map_append, List.map_append]
      rfl
    · exact Nat.le_trans (trim_len _) (by rw [List.length_set]; exact l1)
    · intro x hx
      rcases List.mem_or_eq_of_mem_set (trim_mem _ _ hx) with h | h
      · exact Nat.lt_of_lt_of_le (g1.lt x h) (by decide)
      · have h1 : (row1.getD j 0).natAbs < 2 ^ 200 := g1.lt _ (by
          show cf row1 j ∈ row1
          rw [cf_lt hjl]
          exact List.getElem_mem _)
        rw [h]
        have : (2 : Nat) ^ 201 = 2 ^ 200 * 2 := Nat.pow_succ ..
        omega
  intro σ' H11 hMid
  obtain ⟨y7, p, row, rfl, e11, hp, g⟩ := hMid
  have l := g.len
  refine q_asgL (el_list (ev_var rfl) (sq_of (K := K) hp)) fun hd H12 nhd e12 hhd => ?_
  refine q_asg (ev_call (ea_cons (ev_var rfl) ea_nil) (sv_P_content (sq_of hhd))) fun H13 e13 => ?_
  have hhd13 := e13 _ _ hhd
  refine q_asgL (el_call (ea_cons (ev_var rfl) ea_nil) (sl_P_simple 201 (sq_of hhd13) g.nf (by omega) g.lt (by omega))) fun s H14 ns' e14 hs14 => ?_
  have hhd14 := e14 _ _ hhd13
  have hp14 := ((e12.trans e13).trans e14) _ _ hp
  refine q_when (et_or (a := false) (et_is (et_not (et_B (ev_call (ea_cons (ev_var rfl) ea_nil) (sv_L_whole _)))) rfl) fun _ => et_or (a := false) (et_is (et_test (ev_lt (ev_var rfl) ev_c)) (by simp)) fun _ => et_not (et_B (ev_call (ea_cons (ev_var rfl) (ea_cons (ev_var rfl) ea_nil)) (sv_L_same hhd14 (sq_of hp14) (by omega))))) (fun hb H15 e15 => by simp at hb) (fun hb H15 e15 => ?_)
  have eB := (((eA.trans e11).trans e12).trans (e13.trans e14)).trans e15
  have hp15 := e15 _ _ hp14
  have hs15 := e15 _ _ hs14
  have hhd15 := e15 _ _ hhd14
  refine q_when (et_test (ev_eqD (evp_at (ev_var rfl) hp15) (evp_nil (P := [])))) (fun hb H16 e16 => ?_) (fun hb H16 e16 => ?_)
  · have e : row = [] := of_decide_eq_true hb
    subst e
    refine s_ret (v := .bl true) (ev_is (ev_andV (ev_eqI (ev_var rfl) ev_c) fun _ => ev_call2 (evp_at (ev_var rfl) (e16 _ _ hs15)) (evp_nil (P := [])) (z := .bl true) fun a1 b1 H17 e17 h7 h8 => ?_) (by simp [cont])) fun H17 e17 => q H17 ((eB.trans e16).trans e17)
    have h := sv_L_same (K := K) h7 (sq_of h8) (by simp)
    rw [decide_eq_true (by rfl)] at h
    exact h
  have hne : row ≠ [] := of_decide_eq_false hb
  have hlen := List.length_pos_iff.mpr hne
  have hlast := nf_last g.nf hne
  have hmem := last_mem hne
  have hc := cont_pos ⟨_, hmem, hlast⟩
  have hcl := Nat.lt_of_le_of_lt (cont_le hmem hlast) (g.lt _ hmem)
  have hdv : CDivW 0 (cont row : Nat) := ⟨by omega, by rw [Int.natAbs_natCast]; exact log2_lt hcl (by omega) (by omega)⟩
  have hp16 := e16 _ _ hp15
  refine q_when (et_or (a := false) (et_is (et_test (ev_eqI (ev_var rfl) ev_c)) (decide_eq_false (by omega))) fun _ => et_is (et_test (ev_neD (ns := []) (ms := []) (evp_l ?_) (evp_nil (P := [])))) (by simp : _ = false)) (fun hb H17 e17 => by simp at hb) (fun hb H17 e17 => ?_)
  · have h := el_lcL (K := K) (σ := [some (.ref a), some (.int first), some (.int second), some (.int (many : Int)), some (.ref p), some (.int byv), some (.int third), y7, some (.ref hd), some (.int (cont row : Nat)), some (.ref s), none, none]) (H := H16) (tl := tVar 4) (j := 12) (vs := [12]) (t := tTest (tOp rNe (tOp oMod (tVar 12) (tVar 9)) (tC (.int 0)))) (te := tVar 12) (fun i => !decide (row.getD i 0 % (cont row : Int) = 0)) (fun i => .int (row.getD i 0)) (ev_var rfl) (sq_of hp16) (by rw [List.length_map]; omega) (fun _ => rfl)
      (fun i x H1 e1 hi => by
        obtain ⟨g1, rfl, g3⟩ := int_at hi
        exact et_test (ev_neI (ev_mod (ev_var rfl) (ev_var rfl) (by omega)) ev_c))
      (fun i x H1 e1 hi _ => by
        obtain ⟨g1, rfl, g3⟩ := int_at hi
        exact ev_var rfl)
    rw [given_none (fun i hi => by
      rw [List.length_map] at hi
      have : row.getD i 0 ∈ row := by
        show cf row i ∈ row
        rw [cf_lt hi]
        exact List.getElem_mem _
      rw [decide_eq_true (Int.emod_eq_zero_of_dvd (cont_dvd this))]
      rfl)] at h
    exact h
  have hp17 := e17 _ _ hp16
  refine q_asgL (el_lcL (fun _ => true) (fun i => .int (row.getD i 0 / (cont row : Int))) (ev_var rfl) (sq_of (K := K) hp17) (by rw [List.length_map]; omega) (fun _ => rfl) (fun i x H1 e1 hi => et_yes) fun i x H1 e1 hi _ => ?_) fun f H18 nf e18 hf => ?_
  · obtain ⟨g1, rfl, g3⟩ := int_at hi
    exact ev_div (ev_var rfl) (ev_var rfl) hdv
  rw [given_map (f := fun x => x / (cont row : Int))] at hf
  have hleft : (row.map fun x => x / (cont row : Int)) ≠ [] := by simpa using hne
  have hl2 : (row.map fun x => x / (cont row : Int)).getD ((row.map fun x => x / (cont row : Int)).length - 1) 0 = row.getD (row.length - 1) 0 / (cont row : Int) := by
    rw [List.length_map]
    exact map_getD row (fun x => x / (cont row : Int)) (by omega)
  have hs18 := ((e16.trans e17).trans e18) _ _ hs15
  refine q_whenAsg (P := fun v H' => ∃ p', v = .ref p' ∧ p' ≠ s ∧ H' p' = some (.lst ((simpleI row).map V.int))) (et_test (ev_lt (ev_last (ev_var rfl) (sq_of (K := K) hf) hleft) ev_c)) (fun hb => ?_) (fun hb => ?_) fun v H19 e19 hP => ?_
  · have hlt := of_decide_eq_true hb
    rw [hl2, ediv_neg_iff hc] at hlt
    have h := el_lcL (K := K) (σ := [some (.ref a), some (.int first), some (.int second), some (.int (many : Int)), some (.ref p), some (.int byv), some (.int third), y7, some (.ref hd), some (.int (cont row : Nat)), some (.ref s), some (.ref f), none]) (H := H18) (tl := tVar 11) (j := 12) (vs := [12]) (t := tYes) (te := tUn uNeg (tVar 12)) (fun _ => true) (fun i => .int (-((row.map fun x => x / (cont row : Int)).getD i 0))) (ev_var rfl) (sq_of hf) (by rw [List.length_map, List.length_map]; omega) (fun _ => rfl) (fun i x H1 e1 hi => et_yes)
      (fun i x H1 e1 hi _ => by
        obtain ⟨g1, rfl, g3⟩ := int_at hi
        exact ev_neg (ev_var rfl))
    rw [given_map (f := fun x => -x)] at h
    have e : simpleI row = (row.map fun x => x / (cont row : Int)).map fun x => -x := if_pos hlt
    rw [e]
    exact (evp_lf h).imp fun v H1 ⟨p', h1, h2, h3⟩ => ⟨p', h1, (fun e => by
      rw [e, hs18] at h2
      cases h2), h3⟩
  · have hlt := of_decide_eq_false hb
    rw [hl2, ediv_neg_iff hc] at hlt
    have e : simpleI row = row.map fun x => x / (cont row : Int) := if_neg hlt
    rw [e]
    exact ⟨.ref f, rfl, fun H1 e1 => ⟨f, rfl, (fun e => by
      rw [e, (e16.trans e17) _ _ hs15] at nf
      cases nf), e1 _ _ hf⟩⟩
  obtain ⟨f2, rfl, hne2, hf2⟩ := hP
  have hcl1 : cont (simpleI row) = 1 := by
    unfold simpleI
    split
    · rw [cont_neg, cont_left rfl hc]
    · exact cont_left rfl hc
  have hsl := simple_len row
  have e1519 := ((e16.trans e17).trans e18).trans e19
  refine q_when (et_or (a := false) (et_is (et_test (ev_neI (ev_call (ea_cons (ev_var rfl) ea_nil) (sv_L_content (sq_of hf2))) ev_c)) (by rw [hcl1]; simp)) fun _ => et_not (et_B (ev_call (ea_cons (ev_var rfl) (ea_cons (ev_var rfl) ea_nil)) (sv_L_same (e1519 _ _ hs15) (sq_of hf2) (by omega))))) (fun hb H20 e20 => by simp at hb) (fun hb H20 e20 => ?_)
  refine q_app ((e1519.trans e20) _ _ hs15) (ev_var rfl) ev_c (by rw [List.length_map]; omega) fun H21 e21 => ?_
  have hf22 : (upd H21 s (.lst ((simpleI row).map V.int ++ [.int 7]))) f2 = some (.lst ((simpleI row).map V.int)) := by
    rw [upd_ne hne2]
    exact (e20.trans e21) _ _ hf2
  have e1322 : Ex H13 (upd H21 s (.lst ((simpleI row).map V.int ++ [.int 7]))) := Ex.mut (((e14.trans e15).trans e1519).trans (e20.trans e21)) ns'
  refine s_ret (v := .bl true) (ev_call2 (evp_l (el_call (ea_cons (ev_var rfl) ea_nil) (sl_P_simple 201 (sq_of (e1322 _ _ hhd13)) g.nf (by omega) g.lt (by omega)))) (evp_at (ev_var rfl) hf22) fun a1 b1 H23 e23 h7 h8 => ?_) fun H23 e23 => q H23 ((((eA.trans e11).trans e12).trans e13).trans (e1322.trans e23))
  have h := sv_L_same (K := K) h7 (sq_of h8) (by omega)
  rw [decide_eq_true rfl] at h
  exact h

/-! the text's defs by their places, and their derivations -/
def topS (i : Nat) : Stmt := PySem.Challenge.pw_polyarith_k06_content.main.body.getD i (.Pass ⟨0, 0, 0, 0⟩)
abbrev s_P_content : Stmt := topS 2
theorem sc_P_content : FnScope ["row", "found", "number"] ["row"] (defScope s_P_content) := ⟨rfl, rfl, rfl, by decide +kernel, rfl, by decide +kernel, by decide +kernel⟩
abbrev s_P_signed_content : Stmt := topS 3
theorem sc_P_signed_content : FnScope ["row"] ["row"] (defScope s_P_signed_content) := ⟨rfl, rfl, rfl, by decide +kernel, rfl, by decide +kernel, by decide +kernel⟩
abbrev s_P_lessened : Stmt := topS 4
theorem sc_P_lessened : FnScope ["row", "by", "number"] ["row", "by"] (defScope s_P_lessened) := ⟨rfl, rfl, rfl, by decide +kernel, rfl, by decide +kernel, by decide +kernel⟩
abbrev s_P_simple : Stmt := topS 5
theorem sc_P_simple : FnScope ["row"] ["row"] (defScope s_P_simple) := ⟨rfl, rfl, rfl, by decide +kernel, rfl, by decide +kernel, by decide +kernel⟩
abbrev s_L_whole : Stmt := topS 7
theorem sc_L_whole : FnScope ["_law_found"] ["_law_found"] (defScope s_L_whole) := ⟨rfl, rfl, rfl, by decide +kernel, rfl, by decide +kernel, by decide +kernel⟩
abbrev s_L_cell_at : Stmt := topS 8
theorem sc_L_cell_at : FnScope ["_law_script", "_law_k"] ["_law_script", "_law_k"] (defScope s_L_cell_at) := ⟨rfl, rfl, rfl, by decide +kernel, rfl, by decide +kernel, by decide +kernel⟩
abbrev s_L_trim : Stmt := topS 9
theorem sc_L_trim : FnScope ["_law_row", "_law_size"] ["_law_row"] (defScope s_L_trim) := ⟨rfl, rfl, rfl, by decide +kernel, rfl, by decide +kernel, by decide +kernel⟩
abbrev s_L_same : Stmt := topS 10
theorem sc_L_same : FnScope ["_law_found", "_law_due", "_law_k"] ["_law_found", "_law_due"] (defScope s_L_same) := ⟨rfl, rfl, rfl, by decide +kernel, rfl, by decide +kernel, by decide +kernel⟩
abbrev s_L_number : Stmt := topS 11
theorem sc_L_number : FnScope ["_law_cell"] ["_law_cell"] (defScope s_L_number) := ⟨rfl, rfl, rfl, by decide +kernel, rfl, by decide +kernel, by decide +kernel⟩
abbrev s_L_drawn : Stmt := topS 12
theorem sc_L_drawn : FnScope ["_law_script", "_law_place", "_law_size", "_law_many", "_law_row", "_law_k"] ["_law_script", "_law_place", "_law_size", "_law_many"] (defScope s_L_drawn) := ⟨rfl, rfl, rfl, by decide +kernel, rfl, by decide +kernel, by decide +kernel⟩
abbrev s_L_greatest : Stmt := topS 13
theorem sc_L_greatest : FnScope ["_law_one", "_law_other", "_law_rest"] ["_law_one", "_law_other"] (defScope s_L_greatest) := ⟨rfl, rfl, rfl, by decide +kernel, rfl, by decide +kernel, by decide +kernel⟩
abbrev s_L_content : Stmt := topS 14
theorem sc_L_content : FnScope ["_law_row", "_law_found", "_law_number_here"] ["_law_row"] (defScope s_L_content) := ⟨rfl, rfl, rfl, by decide +kernel, rfl, by decide +kernel, by decide +kernel⟩
abbrev s_law : Stmt := topS 15
theorem sc_law : FnScope ["_law_script", "_law_first", "_law_second", "_law_many", "_law_row", "_law_by", "_law_third", "_law_place", "_law_handed", "_law_found", "_law_told", "_law_left", "_law_number_here"] ["_law_script"] (defScope s_law) := ⟨rfl, rfl, rfl, by decide +kernel, rfl, by decide +kernel, by decide +kernel⟩
section
variable {P : Program} {w : World} {K : PySem.W.Frag} {mg : Str → Option Value} {base : Heap}
theorem ok_P_content {f : Addr} {fd : FuncData} (F : Fun K "content" "content" s_P_content f fd)    (g_gcd : mg "gcd" = some (.builtin "math.gcd")) : FnOk P w K mg base CX0 1 f fd ["row"] (sp_P_content K) := by
  refine F.ok sc_P_content (fun vs H Q E h => ?_) (fun cdv A outer s H vs Q E hr h => ⟨t_P_content K, ?_, run_P_content  h⟩)
  · first | (obtain ⟨_, rfl, _⟩ := h; rfl) | (obtain ⟨_, _, rfl, _⟩ := h; rfl) | (obtain ⟨_, _, _, rfl, _⟩ := h; rfl) | (obtain ⟨_, _, _, _, rfl, _⟩ := h; rfl) | (obtain ⟨_, _, _, _, _, rfl, _⟩ := h; rfl) | (obtain ⟨_, _, _, _, _, _, rfl, _⟩ := h; rfl) | (obtain ⟨_, _, _, _, _, _, _, rfl, _⟩ := h; rfl) | (obtain ⟨_, _, _, _, _, _, _, _, rfl, _⟩ := h; rfl) | (obtain ⟨_, _, _, _, _, _, _, _, _, rfl, _⟩ := h; rfl) | (obtain ⟨_, _, _, _, _, _, _, _, _, _, rfl, _⟩ := h; rfl) | (obtain ⟨_, _, _, _, _, _, _, _, _, _, _, rfl, _⟩ := h; rfl) | (obtain ⟨_, _, _, _, _, _, _, _, _, _, _, _, rfl, _⟩ := h; rfl) | (obtain ⟨_, _, _, _, _, _, _, _, _, _, _, _, _, rfl, _⟩ := h; rfl)
  · exact (pss_cons (ps_set (i := 1) sc_P_content.nd rfl (Or.inl rfl) pe_int)
      (pss_cons (ps_for PassesOwn.never rfl (pi_list (pv 0)) (pg_name (i := 2) sc_P_content.nd rfl (Or.inl rfl)) (pss_one (ps_set (i := 1) sc_P_content.nd rfl (Or.inl rfl) (pe_callBfun cr_gcd (by rfl) g_gcd (pa_cons (pv 1) (pa_cons (pv 2) pa_nil))))))
      (pss_one (ps_ret (pv 1)))))
theorem ok_P_signed_content {f : Addr} {fd : FuncData} (F : Fun K "signed_content" "signed_content" s_P_signed_content f fd)   (c_P_content : Cl P w K mg base 1 "content" (sp_P_content K))  : FnOk P w K mg base CX0 2 f fd ["row"] (sp_P_signed_content K) := by
  refine F.ok sc_P_signed_content (fun vs H Q E h => ?_) (fun cdv A outer s H vs Q E hr h => ⟨t_P_signed_content K, ?_, run_P_signed_content  h⟩)
  · first | (obtain ⟨_, rfl, _⟩ := h; rfl) | (obtain ⟨_, _, rfl, _⟩ := h; rfl) | (obtain ⟨_, _, _, rfl, _⟩ := h; rfl) | (obtain ⟨_, _, _, _, rfl, _⟩ := h; rfl) | (obtain ⟨_, _, _, _, _, rfl, _⟩ := h; rfl) | (obtain ⟨_, _, _, _, _, _, rfl, _⟩ := h; rfl) | (obtain ⟨_, _, _, _, _, _, _, rfl, _⟩ := h; rfl) | (obtain ⟨_, _, _, _, _, _, _, _, rfl, _⟩ := h; rfl) | (obtain ⟨_, _, _, _, _, _, _, _, _, rfl, _⟩ := h; rfl) | (obtain ⟨_, _, _, _, _, _, _, _, _, _, rfl, _⟩ := h; rfl) | (obtain ⟨_, _, _, _, _, _, _, _, _, _, _, rfl, _⟩ := h; rfl) | (obtain ⟨_, _, _, _, _, _, _, _, _, _, _, _, rfl, _⟩ := h; rfl) | (obtain ⟨_, _, _, _, _, _, _, _, _, _, _, _, _, rfl, _⟩ := h; rfl)
  · exact (pss_cons (ps_if (PW.pt (pw_and (pt_truth (pv 0) (by intro _; rfl)) (pw_and1 (pt_cmpR op_lt (pe_ix ix_list (pv 0) (pe_un un_neg pe_int) (fun _ _ => rfl)) pe_int (nomark _))))) (pss_one (ps_ret (pe_un un_neg (pcl c_P_content hr (by decide) (by rfl) (pa_cons (pv 0) pa_nil))))) pss_nil)
      (pss_one (ps_ret (pcl c_P_content hr (by decide) (by rfl) (pa_cons (pv 0) pa_nil)))))
theorem ok_P_lessened {f : Addr} {fd : FuncData} (F : Fun K "lessened" "lessened" s_P_lessened f fd) (sr : Sr P base)     : FnOk P w K mg base CX0 41 f fd ["row", "by"] (sp_P_lessened K) := by
  refine F.ok sc_P_lessened (fun vs H Q E h => ?_) (fun cdv A outer s H vs Q E hr h => ⟨t_P_lessened K, ?_, run_P_lessened  h⟩)
  · first | (obtain ⟨_, rfl, _⟩ := h; rfl) | (obtain ⟨_, _, rfl, _⟩ := h; rfl) | (obtain ⟨_, _, _, rfl, _⟩ := h; rfl) | (obtain ⟨_, _, _, _, rfl, _⟩ := h; rfl) | (obtain ⟨_, _, _, _, _, rfl, _⟩ := h; rfl) | (obtain ⟨_, _, _, _, _, _, rfl, _⟩ := h; rfl) | (obtain ⟨_, _, _, _, _, _, _, rfl, _⟩ := h; rfl) | (obtain ⟨_, _, _, _, _, _, _, _, rfl, _⟩ := h; rfl) | (obtain ⟨_, _, _, _, _, _, _, _, _, rfl, _⟩ := h; rfl) | (obtain ⟨_, _, _, _, _, _, _, _, _, _, rfl, _⟩ := h; rfl) | (obtain ⟨_, _, _, _, _, _, _, _, _, _, _, rfl, _⟩ := h; rfl) | (obtain ⟨_, _, _, _, _, _, _, _, _, _, _, _, rfl, _⟩ := h; rfl) | (obtain ⟨_, _, _, _, _, _, _, _, _, _, _, _, _, rfl, _⟩ := h; rfl)
  · exact (pss_one (ps_ret (pe_lc (own := [("number", 2)]) (g := (gName 2)) (by rfl) sc_P_lessened.nd (pi_list (pv 0)) (blkOk_by (own := [("number", 2)]) (N := ["row", "by", "number"]) (sc := defScope s_P_lessened) (by decide +kernel)) (fun _ _ _ _ _ => (pg_name (i := 2) sc_P_lessened.nd rfl (Or.inl rfl))) (fun _ _ _ _ _ => pts_nil) (fun _ _ _ _ _ => (pe_op (op_fdivL sr hr (by decide) ⟨_, _, rfl, rfl, rfl, rfl, rfl⟩) (pv 2) (pv 1))))))
theorem ok_P_simple {f : Addr} {fd : FuncData} (F : Fun K "simple" "simple" s_P_simple f fd)   (c_P_signed_content : Cl P w K mg base 2 "signed_content" (sp_P_signed_content K)) (c_P_lessened : Cl P w K mg base 41 "lessened" (sp_P_lessened K))  : FnOk P w K mg base CX0 42 f fd ["row"] (sp_P_simple K) := by
  refine F.ok sc_P_simple (fun vs H Q E h => ?_) (fun cdv A outer s H vs Q E hr h => ⟨t_P_simple K, ?_, run_P_simple  h⟩)
  · first | (obtain ⟨_, rfl, _⟩ := h; rfl) | (obtain ⟨_, _, rfl, _⟩ := h; rfl) | (obtain ⟨_, _, _, rfl, _⟩ := h; rfl) | (obtain ⟨_, _, _, _, rfl, _⟩ := h; rfl) | (obtain ⟨_, _, _, _, _, rfl, _⟩ := h; rfl) | (obtain ⟨_, _, _, _, _, _, rfl, _⟩ := h; rfl) | (obtain ⟨_, _, _, _, _, _, _, rfl, _⟩ := h; rfl) | (obtain ⟨_, _, _, _, _, _, _, _, rfl, _⟩ := h; rfl) | (obtain ⟨_, _, _, _, _, _, _, _, _, rfl, _⟩ := h; rfl) | (obtain ⟨_, _, _, _, _, _, _, _, _, _, rfl, _⟩ := h; rfl) | (obtain ⟨_, _, _, _, _, _, _, _, _, _, _, rfl, _⟩ := h; rfl) | (obtain ⟨_, _, _, _, _, _, _, _, _, _, _, _, rfl, _⟩ := h; rfl) | (obtain ⟨_, _, _, _, _, _, _, _, _, _, _, _, _, rfl, _⟩ := h; rfl)
  · exact (pss_one (ps_ret (pcl c_P_lessened hr (by decide) (by rfl) (pa_cons (pv 0) (pa_cons (pcl c_P_signed_content hr (by decide) (by rfl) (pa_cons (pv 0) pa_nil)) pa_nil)))))
theorem ok_L_whole {f : Addr} {fd : FuncData} (F : Fun K "_law_whole" "_law_whole" s_L_whole f fd)    (m_bool : mg "bool" = none) (m_int : mg "int" = none) (m_isinstance : mg "isinstance" = none) : FnOk P w K mg base CX0 1 f fd ["_law_found"] (sp_L_whole K) := by
  refine F.ok sc_L_whole (fun vs H Q E h => ?_) (fun cdv A outer s H vs Q E hr h => ⟨t_L_whole K, ?_, run_L_whole  h⟩)
  · first | (obtain ⟨_, rfl, _⟩ := h; rfl) | (obtain ⟨_, _, rfl, _⟩ := h; rfl) | (obtain ⟨_, _, _, rfl, _⟩ := h; rfl) | (obtain ⟨_, _, _, _, rfl, _⟩ := h; rfl) | (obtain ⟨_, _, _, _, _, rfl, _⟩ := h; rfl) | (obtain ⟨_, _, _, _, _, _, rfl, _⟩ := h; rfl) | (obtain ⟨_, _, _, _, _, _, _, rfl, _⟩ := h; rfl) | (obtain ⟨_, _, _, _, _, _, _, _, rfl, _⟩ := h; rfl) | (obtain ⟨_, _, _, _, _, _, _, _, _, rfl, _⟩ := h; rfl) | (obtain ⟨_, _, _, _, _, _, _, _, _, _, rfl, _⟩ := h; rfl) | (obtain ⟨_, _, _, _, _, _, _, _, _, _, _, rfl, _⟩ := h; rfl) | (obtain ⟨_, _, _, _, _, _, _, _, _, _, _, _, rfl, _⟩ := h; rfl) | (obtain ⟨_, _, _, _, _, _, _, _, _, _, _, _, _, rfl, _⟩ := h; rfl)
  · exact (pss_one (ps_ret (pe_and (pe_callB call_isi (by rfl) m_isinstance (by decide +kernel) (pa_cons (pv 0) (pa_cons (pe_bltn (by rfl) m_int (by decide +kernel) rfl) pa_nil))) (pe_one (pe_not (pe_callB call_isi (by rfl) m_isinstance (by decide +kernel) (pa_cons (pv 0) (pa_cons (pe_bltn (by rfl) m_bool (by decide +kernel) rfl) pa_nil))))))))
theorem ok_L_cell_at {f : Addr} {fd : FuncData} (F : Fun K "_law_cell_at" "_law_cell_at" s_L_cell_at f fd)    (m_len : mg "len" = none) : FnOk P w K mg base CX0 1 f fd ["_law_script", "_law_k"] (sp_L_cell_at K) := by
  refine F.ok sc_L_cell_at (fun vs H Q E h => ?_) (fun cdv A outer s H vs Q E hr h => ⟨t_L_cell_at K, ?_, run_L_cell_at  h⟩)
  · first | (obtain ⟨_, rfl, _⟩ := h; rfl) | (obtain ⟨_, _, rfl, _⟩ := h; rfl) | (obtain ⟨_, _, _, rfl, _⟩ := h; rfl) | (obtain ⟨_, _, _, _, rfl, _⟩ := h; rfl) | (obtain ⟨_, _, _, _, _, rfl, _⟩ := h; rfl) | (obtain ⟨_, _, _, _, _, _, rfl, _⟩ := h; rfl) | (obtain ⟨_, _, _, _, _, _, _, rfl, _⟩ := h; rfl) | (obtain ⟨_, _, _, _, _, _, _, _, rfl, _⟩ := h; rfl) | (obtain ⟨_, _, _, _, _, _, _, _, _, rfl, _⟩ := h; rfl) | (obtain ⟨_, _, _, _, _, _, _, _, _, _, rfl, _⟩ := h; rfl) | (obtain ⟨_, _, _, _, _, _, _, _, _, _, _, rfl, _⟩ := h; rfl) | (obtain ⟨_, _, _, _, _, _, _, _, _, _, _, _, rfl, _⟩ := h; rfl) | (obtain ⟨_, _, _, _, _, _, _, _, _, _, _, _, _, rfl, _⟩ := h; rfl)
  · exact (pss_cons (ps_if (pt_cmpR op_lt (pv 1) (pe_callB call_len_seq (by rfl) m_len PySem.boot_len (pa_cons (pv 0) pa_nil)) (nomark _)) (pss_one (ps_ret (pe_ix ix_list (pv 0) (pv 1) (fun _ _ => rfl)))) pss_nil)
      (pss_one (ps_ret pe_int)))
theorem ok_L_trim {f : Addr} {fd : FuncData} (F : Fun K "_law_trim" "_law_trim" s_L_trim f fd)    (m_len : mg "len" = none) : FnOk P w K mg base CX0 1 f fd ["_law_row"] (sp_L_trim K) := by
  refine F.ok sc_L_trim (fun vs H Q E h => ?_) (fun cdv A outer s H vs Q E hr h => ⟨t_L_trim K, ?_, run_L_trim  h⟩)
  · first | (obtain ⟨_, rfl, _⟩ := h; rfl) | (obtain ⟨_, _, rfl, _⟩ := h; rfl) | (obtain ⟨_, _, _, rfl, _⟩ := h; rfl) | (obtain ⟨_, _, _, _, rfl, _⟩ := h; rfl) | (obtain ⟨_, _, _, _, _, rfl, _⟩ := h; rfl) | (obtain ⟨_, _, _, _, _, _, rfl, _⟩ := h; rfl) | (obtain ⟨_, _, _, _, _, _, _, rfl, _⟩ := h; rfl) | (obtain ⟨_, _, _, _, _, _, _, _, rfl, _⟩ := h; rfl) | (obtain ⟨_, _, _, _, _, _, _, _, _, rfl, _⟩ := h; rfl) | (obtain ⟨_, _, _, _, _, _, _, _, _, _, rfl, _⟩ := h; rfl) | (obtain ⟨_, _, _, _, _, _, _, _, _, _, _, rfl, _⟩ := h; rfl) | (obtain ⟨_, _, _, _, _, _, _, _, _, _, _, _, rfl, _⟩ := h; rfl) | (obtain ⟨_, _, _, _, _, _, _, _, _, _, _, _, _, rfl, _⟩ := h; rfl)
  · exact (pss_cons (ps_set (i := 1) sc_L_trim.nd rfl (Or.inl rfl) (pe_callB call_len_seq (by rfl) m_len PySem.boot_len (pa_cons (pv 0) pa_nil)))
      (pss_cons (ps_while PassesOwn.never (PW.pt (pw_and (pt_cmpR op_gt (pv 1) pe_int (nomark _)) (pw_and1 (pt_cmpR op_eq (pe_ix ix_list (pv 0) (pe_op op_sub (pv 1) pe_int) (fun _ _ => rfl)) pe_int (nomark _))))) (pss_one (ps_set (i := 1) sc_L_trim.nd rfl (Or.inl rfl) (pe_op op_sub (pv 1) pe_int))))
      (pss_one (ps_ret (pe_slice sl_list (pv 0) po_none (po_some (pv 1)))))))
theorem ok_L_same {f : Addr} {fd : FuncData} (F : Fun K "_law_same" "_law_same" s_L_same f fd)   (c_L_whole : Cl P w K mg base 1 "_law_whole" (sp_L_whole K)) (m_isinstance : mg "isinstance" = none) (m_len : mg "len" = none) (m_list : mg "list" = none) (m_range : mg "range" = none) : FnOk P w K mg base CX0 2 f fd ["_law_found", "_law_due"] (sp_L_same K) := by
  refine F.ok sc_L_same (fun vs H Q E h => ?_) (fun cdv A outer s H vs Q E hr h => ⟨t_L_same K, ?_, run_L_same  h⟩)
  · first | (obtain ⟨_, rfl, _⟩ := h; rfl) | (obtain ⟨_, _, rfl, _⟩ := h; rfl) | (obtain ⟨_, _, _, rfl, _⟩ := h; rfl) | (obtain ⟨_, _, _, _, rfl, _⟩ := h; rfl) | (obtain ⟨_, _, _, _, _, rfl, _⟩ := h; rfl) | (obtain ⟨_, _, _, _, _, _, rfl, _⟩ := h; rfl) | (obtain ⟨_, _, _, _, _, _, _, rfl, _⟩ := h; rfl) | (obtain ⟨_, _, _, _, _, _, _, _, rfl, _⟩ := h; rfl) | (obtain ⟨_, _, _, _, _, _, _, _, _, rfl, _⟩ := h; rfl) | (obtain ⟨_, _, _, _, _, _, _, _, _, _, rfl, _⟩ := h; rfl) | (obtain ⟨_, _, _, _, _, _, _, _, _, _, _, rfl, _⟩ := h; rfl) | (obtain ⟨_, _, _, _, _, _, _, _, _, _, _, _, rfl, _⟩ := h; rfl) | (obtain ⟨_, _, _, _, _, _, _, _, _, _, _, _, _, rfl, _⟩ := h; rfl)
  · exact (pss_cons (ps_if (PW.pt (pw_or (pt_not (pt_val (pe_callB call_isi (by rfl) m_isinstance (by decide +kernel) (pa_cons (pv 0) (pa_cons (pe_bltn (by rfl) m_list (by decide +kernel) rfl) pa_nil))))) (pw_or1 (pt_cmpR op_ne (pe_callB call_len_seq (by rfl) m_len PySem.boot_len (pa_cons (pv 0) pa_nil)) (pe_callB call_len_seq (by rfl) m_len PySem.boot_len (pa_cons (pv 1) pa_nil)) (nomark _))))) (pss_one (ps_ret pe_bl)) pss_nil)
      (pss_cons (ps_for PassesOwn.never rfl (pi_range1 (by rfl) m_range (pa_cons (pe_callB call_len_seq (by rfl) m_len PySem.boot_len (pa_cons (pv 1) pa_nil)) pa_nil)) (pg_name (i := 2) sc_L_same.nd rfl (Or.inl rfl)) (pss_one (ps_if (PW.pt (pw_or (pt_not (pt_val (pcl c_L_whole hr (by decide) (by rfl) (pa_cons (pe_ix ix_list (pv 0) (pv 2) (fun _ _ => rfl)) pa_nil)))) (pw_or1 (pt_cmpR op_ne (pe_ix ix_list (pv 0) (pv 2) (fun _ _ => rfl)) (pe_ix ix_list (pv 1) (pv 2) (fun _ _ => rfl)) (nomark _))))) (pss_one (ps_ret pe_bl)) pss_nil)))
      (pss_one (ps_ret pe_bl))))
theorem ok_L_number {f : Addr} {fd : FuncData} (F : Fun K "_law_number" "_law_number" s_L_number f fd)     : FnOk P w K mg base CX0 1 f fd ["_law_cell"] (sp_L_number K) := by
  refine F.ok sc_L_number (fun vs H Q E h => ?_) (fun cdv A outer s H vs Q E hr h => ⟨t_L_number K, ?_, run_L_number  h⟩)
  · first | (obtain ⟨_, rfl, _⟩ := h; rfl) | (obtain ⟨_, _, rfl, _⟩ := h; rfl) | (obtain ⟨_, _, _, rfl, _⟩ := h; rfl) | (obtain ⟨_, _, _, _, rfl, _⟩ := h; rfl) | (obtain ⟨_, _, _, _, _, rfl, _⟩ := h; rfl) | (obtain ⟨_, _, _, _, _, _, rfl, _⟩ := h; rfl) | (obtain ⟨_, _, _, _, _, _, _, rfl, _⟩ := h; rfl) | (obtain ⟨_, _, _, _, _, _, _, _, rfl, _⟩ := h; rfl) | (obtain ⟨_, _, _, _, _, _, _, _, _, rfl, _⟩ := h; rfl) | (obtain ⟨_, _, _, _, _, _, _, _, _, _, rfl, _⟩ := h; rfl) | (obtain ⟨_, _, _, _, _, _, _, _, _, _, _, rfl, _⟩ := h; rfl) | (obtain ⟨_, _, _, _, _, _, _, _, _, _, _, _, rfl, _⟩ := h; rfl) | (obtain ⟨_, _, _, _, _, _, _, _, _, _, _, _, _, rfl, _⟩ := h; rfl)
  · exact (pss_cons (ps_if (pt_cmpR op_eq (pe_op op_mod (pv 0) pe_int) pe_int (nomark _)) (pss_one (ps_ret pe_int)) pss_nil)
      (pss_cons (ps_if (pt_cmpR op_eq (pe_op op_mod (pv 0) pe_int) pe_int (nomark _)) (pss_one (ps_ret (pe_op op_mulX (pe_op op_sub pe_int (pe_op op_mulX (pe_op op_mod (pe_op op_fdivW (pv 0) pe_int) pe_int) pe_int)) (pe_op op_mod (pe_op op_fdivW (pv 0) pe_int) (pe_op op_pow pe_int pe_int))))) pss_nil)
      (pss_one (ps_ret (pe_op op_sub (pe_op op_mod (pe_op op_fdivW (pv 0) pe_int) pe_int) pe_int)))))
theorem ok_L_drawn {f : Addr} {fd : FuncData} (F : Fun K "_law_drawn" "_law_drawn" s_L_drawn f fd)   (c_L_trim : Cl P w K mg base 1 "_law_trim" (sp_L_trim K)) (c_L_cell_at : Cl P w K mg base 1 "_law_cell_at" (sp_L_cell_at K)) (c_L_number : Cl P w K mg base 1 "_law_number" (sp_L_number K)) (m_range : mg "range" = none) : FnOk P w K mg base CX0 2 f fd ["_law_script", "_law_place", "_law_size", "_law_many"] (sp_L_drawn K) := by
  refine F.ok sc_L_drawn (fun vs H Q E h => ?_) (fun cdv A outer s H vs Q E hr h => ⟨t_L_drawn K, ?_, run_L_drawn  h⟩)
  · first | (obtain ⟨_, rfl, _⟩ := h; rfl) | (obtain ⟨_, _, rfl, _⟩ := h; rfl) | (obtain ⟨_, _, _, rfl, _⟩ := h; rfl) | (obtain ⟨_, _, _, _, rfl, _⟩ := h; rfl) | (obtain ⟨_, _, _, _, _, rfl, _⟩ := h; rfl) | (obtain ⟨_, _, _, _, _, _, rfl, _⟩ := h; rfl) | (obtain ⟨_, _, _, _, _, _, _, rfl, _⟩ := h; rfl) | (obtain ⟨_, _, _, _, _, _, _, _, rfl, _⟩ := h; rfl) | (obtain ⟨_, _, _, _, _, _, _, _, _, rfl, _⟩ := h; rfl) | (obtain ⟨_, _, _, _, _, _, _, _, _, _, rfl, _⟩ := h; rfl) | (obtain ⟨_, _, _, _, _, _, _, _, _, _, _, rfl, _⟩ := h; rfl) | (obtain ⟨_, _, _, _, _, _, _, _, _, _, _, _, rfl, _⟩ := h; rfl) | (obtain ⟨_, _, _, _, _, _, _, _, _, _, _, _, _, rfl, _⟩ := h; rfl)
  · exact (pss_cons (ps_setLc (i := 4) (own := [("_law_k", 5)]) (g := (gName 5)) (by rfl) sc_L_drawn.nd rfl rfl (sw_true rfl rfl rfl (by decide +kernel)) (pi_range1 (by rfl) m_range (pa_cons (pv 2) pa_nil)) (blkOk_by (own := [("_law_k", 5)]) (N := ["_law_script", "_law_place", "_law_size", "_law_many", "_law_row", "_law_k"]) (sc := defScope s_L_drawn) (by decide +kernel)) (fun _ _ _ _ _ => (pg_name (i := 5) sc_L_drawn.nd rfl (Or.inl rfl))) (fun _ _ _ _ _ => pts_nil) (fun _ _ _ _ _ => (pcl c_L_number hr (by decide) (by rfl) (pa_cons (pcl c_L_cell_at hr (by decide) (by rfl) (pa_cons (pv 0) (pa_cons (pe_op op_add (pv 1) (pv 5)) pa_nil))) pa_nil))))
      (pss_cons (ps_if (pt_cmpR op_gt (pv 3) pe_int (nomark _)) (pss_one (ps_setLc (i := 4) (own := [("_law_k", 5)]) (g := (gName 5)) (by rfl) sc_L_drawn.nd rfl rfl (sw_true rfl rfl rfl (by decide +kernel)) (pi_range1 (by rfl) m_range (pa_cons (pv 3) pa_nil)) (blkOk_by (own := [("_law_k", 5)]) (N := ["_law_script", "_law_place", "_law_size", "_law_many", "_law_row", "_law_k"]) (sc := defScope s_L_drawn) (by decide +kernel)) (fun _ _ _ _ _ => (pg_name (i := 5) sc_L_drawn.nd rfl (Or.inl rfl))) (fun _ _ _ _ _ => pts_nil) (fun _ _ _ _ _ => (pcl c_L_number hr (by decide) (by rfl) (pa_cons (pe_op op_add (pe_op op_add (pcl c_L_cell_at hr (by decide) (by rfl) (pa_cons (pv 0) (pa_cons (pv 1) pa_nil))) (pe_op op_mulX (pe_op op_mulX pe_int (pv 5)) (pv 5))) (pe_op op_mulX pe_int (pv 5))) pa_nil))))) pss_nil)
      (pss_one (ps_ret (pcl c_L_trim hr (by decide) (by rfl) (pa_cons (pv 4) pa_nil))))))
theorem ok_L_greatest {f : Addr} {fd : FuncData} (F : Fun K "_law_greatest" "_law_greatest" s_L_greatest f fd)    (m_abs : mg "abs" = none) : FnOk P w K mg base CX0 1 f fd ["_law_one", "_law_other"] (sp_L_greatest K) := by
  refine F.ok sc_L_greatest (fun vs H Q E h => ?_) (fun cdv A outer s H vs Q E hr h => ⟨t_L_greatest K, ?_, run_L_greatest  h⟩)
  · first | (obtain ⟨_, rfl, _⟩ := h; rfl) | (obtain ⟨_, _, rfl, _⟩ := h; rfl) | (obtain ⟨_, _, _, rfl, _⟩ := h; rfl) | (obtain ⟨_, _, _, _, rfl, _⟩ := h; rfl) | (obtain ⟨_, _, _, _, _, rfl, _⟩ := h; rfl) | (obtain ⟨_, _, _, _, _, _, rfl, _⟩ := h; rfl) | (obtain ⟨_, _, _, _, _, _, _, rfl, _⟩ := h; rfl) | (obtain ⟨_, _, _, _, _, _, _, _, rfl, _⟩ := h; rfl) | (obtain ⟨_, _, _, _, _, _, _, _, _, rfl, _⟩ := h; rfl) | (obtain ⟨_, _, _, _, _, _, _, _, _, _, rfl, _⟩ := h; rfl) | (obtain ⟨_, _, _, _, _, _, _, _, _, _, _, rfl, _⟩ := h; rfl) | (obtain ⟨_, _, _, _, _, _, _, _, _, _, _, _, rfl, _⟩ := h; rfl) | (obtain ⟨_, _, _, _, _, _, _, _, _, _, _, _, _, rfl, _⟩ := h; rfl)
  · exact (pss_cons (ps_set (i := 0) sc_L_greatest.nd rfl (Or.inl rfl) (pe_callB call_abs (by rfl) m_abs (by decide +kernel) (pa_cons (pv 0) pa_nil)))
      (pss_cons (ps_set (i := 1) sc_L_greatest.nd rfl (Or.inl rfl) (pe_callB call_abs (by rfl) m_abs (by decide +kernel) (pa_cons (pv 1) pa_nil)))
      (pss_cons (ps_while PassesOwn.never (pt_cmpR op_gt (pv 1) pe_int (nomark _)) (pss_cons (ps_set (i := 2) sc_L_greatest.nd rfl (Or.inl rfl) (pe_op op_mod (pv 0) (pv 1)))
      (pss_cons (ps_set (i := 0) sc_L_greatest.nd rfl (Or.inl rfl) (pv 1))
      (pss_one (ps_set (i := 1) sc_L_greatest.nd rfl (Or.inl rfl) (pv 2))))))
      (pss_one (ps_ret (pv 0))))))
theorem ok_L_content {f : Addr} {fd : FuncData} (F : Fun K "_law_content" "_law_content" s_L_content f fd)   (c_L_greatest : Cl P w K mg base 1 "_law_greatest" (sp_L_greatest K))  : FnOk P w K mg base CX0 2 f fd ["_law_row"] (sp_L_content K) := by
  refine F.ok sc_L_content (fun vs H Q E h => ?_) (fun cdv A outer s H vs Q E hr h => ⟨t_L_content K, ?_, run_L_content  h⟩)
  · first | (obtain ⟨_, rfl, _⟩ := h; rfl) | (obtain ⟨_, _, rfl, _⟩ := h; rfl) | (obtain ⟨_, _, _, rfl, _⟩ := h; rfl) | (obtain ⟨_, _, _, _, rfl, _⟩ := h; rfl) | (obtain ⟨_, _, _, _, _, rfl, _⟩ := h; rfl) | (obtain ⟨_, _, _, _, _, _, rfl, _⟩ := h; rfl) | (obtain ⟨_, _, _, _, _, _, _, rfl, _⟩ := h; rfl) | (obtain ⟨_, _, _, _, _, _, _, _, rfl, _⟩ := h; rfl) | (obtain ⟨_, _, _, _, _, _, _, _, _, rfl, _⟩ := h; rfl) | (obtain ⟨_, _, _, _, _, _, _, _, _, _, rfl, _⟩ := h; rfl) | (obtain ⟨_, _, _, _, _, _, _, _, _, _, _, rfl, _⟩ := h; rfl) | (obtain ⟨_, _, _, _, _, _, _, _, _, _, _, _, rfl, _⟩ := h; rfl) | (obtain ⟨_, _, _, _, _, _, _, _, _, _, _, _, _, rfl, _⟩ := h; rfl)
  · exact (pss_cons (ps_set (i := 1) sc_L_content.nd rfl (Or.inl rfl) pe_int)
      (pss_cons (ps_for PassesOwn.never rfl (pi_list (pv 0)) (pg_name (i := 2) sc_L_content.nd rfl (Or.inl rfl)) (pss_one (ps_set (i := 1) sc_L_content.nd rfl (Or.inl rfl) (pcl c_L_greatest hr (by decide) (by rfl) (pa_cons (pv 1) (pa_cons (pv 2) pa_nil))))))
      (pss_one (ps_ret (pv 1)))))
theorem ok_law {f : Addr} {fd : FuncData} (F : Fun K "law" "law" s_law f fd)   (c_P_simple : Cl P w K mg base 42 "simple" (sp_P_simple K)) (c_L_same : Cl P w K mg base 2 "_law_same" (sp_L_same K)) (c_L_content : Cl P w K mg base 2 "_law_content" (sp_L_content K)) (c_L_whole : Cl P w K mg base 1 "_law_whole" (sp_L_whole K)) (c_P_content : Cl P w K mg base 1 "content" (sp_P_content K)) (c_L_trim : Cl P w K mg base 1 "_law_trim" (sp_L_trim K)) (c_L_cell_at : Cl P w K mg base 1 "_law_cell_at" (sp_L_cell_at K)) (c_L_drawn : Cl P w K mg base 2 "_law_drawn" (sp_L_drawn K)) (m_len : mg "len" = none) (m_list : mg "list" = none) : FnOk P w K mg base CX0 43 f fd ["_law_script"] (sp_law K) := by
  refine F.ok sc_law (fun vs H Q E h => ?_) (fun cdv A outer s H vs Q E hr h => ⟨t_law K, ?_, run_law  h⟩)
  · first | (obtain ⟨_, rfl, _⟩ := h; rfl) | (obtain ⟨_, _, rfl, _⟩ := h; rfl) | (obtain ⟨_, _, _, rfl, _⟩ := h; rfl) | (obtain ⟨_, _, _, _, rfl, _⟩ := h; rfl) | (obtain ⟨_, _, _, _, _, rfl, _⟩ := h; rfl) | (obtain ⟨_, _, _, _, _, _, rfl, _⟩ := h; rfl) | (obtain ⟨_, _, _, _, _, _, _, rfl, _⟩ := h; rfl) | (obtain ⟨_, _, _, _, _, _, _, _, rfl, _⟩ := h; rfl) | (obtain ⟨_, _, _, _, _, _, _, _, _, rfl, _⟩ := h; rfl) | (obtain ⟨_, _, _, _, _, _, _, _, _, _, rfl, _⟩ := h; rfl) | (obtain ⟨_, _, _, _, _, _, _, _, _, _, _, rfl, _⟩ := h; rfl) | (obtain ⟨_, _, _, _, _, _, _, _, _, _, _, _, rfl, _⟩ := h; rfl) | (obtain ⟨_, _, _, _, _, _, _, _, _, _, _, _, _, rfl, _⟩ := h; rfl)
  · exact (pss_cons (ps_set (i := 1) sc_law.nd rfl (Or.inl rfl) (pcl c_L_cell_at hr (by decide) (by rfl) (pa_cons (pv 0) (pa_cons pe_int pa_nil))))
      (pss_cons (ps_set (i := 2) sc_law.nd rfl (Or.inl rfl) (pcl c_L_cell_at hr (by decide) (by rfl) (pa_cons (pv 0) (pa_cons pe_int pa_nil))))
      (pss_cons (ps_set (i := 3) sc_law.nd rfl (Or.inl rfl) pe_int)
      (pss_cons (ps_if (pt_cmpR op_eq (pe_op op_mod (pv 1) pe_int) pe_int (nomark _)) (pss_one (ps_set (i := 3) sc_law.nd rfl (Or.inl rfl) (pe_op op_mod (pe_op op_fdivW (pv 1) pe_int) pe_int))) pss_nil)
      (pss_cons (ps_set (i := 4) sc_law.nd rfl (Or.inl rfl) (pcl c_L_drawn hr (by decide) (by rfl) (pa_cons (pv 0) (pa_cons pe_int (pa_cons (pe_op op_mod (pe_op op_fdivW (pv 1) pe_int) pe_int) (pa_cons (pv 3) pa_nil))))))
      (pss_cons (ps_set (i := 5) sc_law.nd rfl (Or.inr rfl) pe_int)
      (pss_cons (ps_if (pt_cmpR op_eq (pe_op op_mod (pv 2) pe_int) pe_int (nomark _)) (pss_one (ps_set (i := 5) sc_law.nd rfl (Or.inr rfl) (pe_op op_sub (pe_op op_mod (pe_op op_fdivW (pv 2) pe_int) pe_int) pe_int))) pss_nil)
      (pss_cons (ps_if (pt_cmpR op_eq (pe_op op_mod (pv 2) pe_int) pe_int (nomark _)) (pss_one (ps_set (i := 5) sc_law.nd rfl (Or.inr rfl) (pe_op op_mod (pe_op op_fdivW (pv 2) pe_int) (pe_op op_pow pe_int pe_int)))) pss_nil)
      (pss_cons (ps_set (i := 4) sc_law.nd rfl (Or.inl rfl) (pcl c_L_trim hr (by decide) (by rfl) (pa_cons (pe_lc (own := [("_law_number_here", 12)]) (g := (gName 12)) (by rfl) sc_law.nd (pi_list (pv 4)) (blkOk_by (own := [("_law_number_here", 12)]) (N := ["_law_script", "_law_first", "_law_second", "_law_many", "_law_row", "_law_by", "_law_third", "_law_place", "_law_handed", "_law_found", "_law_told", "_law_left", "_law_number_here"]) (sc := defScope s_law) (by decide +kernel)) (fun _ _ _ _ _ => (pg_name (i := 12) sc_law.nd rfl (Or.inl rfl))) (fun _ _ _ _ _ => pts_nil) (fun _ _ _ _ _ => (pe_op op_mulX (pv 5) (pv 12)))) pa_nil)))
      (pss_cons (ps_set (i := 6) sc_law.nd rfl (Or.inl rfl) (pcl c_L_cell_at hr (by decide) (by rfl) (pa_cons (pv 0) (pa_cons pe_int pa_nil))))
      (pss_cons (ps_if (PW.pt (pw_and (pt_cmpR op_eq (pe_op op_mod (pv 6) pe_int) pe_int (nomark _)) (pw_and1 (pt_cmpR (op_neD hr.units) (pv 4) (pe_lst pa_nil) (nomark _))))) (pss_cons (ps_set (i := 7) sc_law.nd rfl (Or.inl rfl) (pe_op op_mod (pe_op op_fdivW (pv 6) pe_int) (pe_callB call_len_seq (by rfl) m_len PySem.boot_len (pa_cons (pv 4) pa_nil))))
      (pss_one (ps_set (i := 4) sc_law.nd rfl (Or.inl rfl) (pcl c_L_trim hr (by decide) (by rfl) (pa_cons (pe_op op_cat (pe_op op_cat (pe_slice sl_list (pv 4) po_none (po_some (pv 7))) (pe_lst (pa_cons (pe_op op_add (pe_ix ix_list (pv 4) (pv 7) (fun _ _ => rfl)) pe_int) pa_nil))) (pe_slice sl_list (pv 4) (po_some (pe_op op_add (pv 7) pe_int)) po_none)) pa_nil))))) pss_nil)
      (pss_cons (ps_set (i := 8) sc_law.nd rfl (Or.inl rfl) (pe_callTy call_list_of (by rfl) m_list (by decide +kernel) (pa_cons (pv 4) pa_nil)))
      (pss_cons (ps_set (i := 9) sc_law.nd rfl (Or.inr rfl) (pcl c_P_content hr (by decide) (by rfl) (pa_cons (pv 8) pa_nil)))
      (pss_cons (ps_set (i := 10) sc_law.nd rfl (Or.inl rfl) (pcl c_P_simple hr (by decide) (by rfl) (pa_cons (pv 8) pa_nil)))
      (pss_cons (ps_if (PW.pt (pw_or (pt_not (pt_val (pcl c_L_whole hr (by decide) (by rfl) (pa_cons (pv 9) pa_nil)))) (pw_or (pt_cmpR op_lt (pv 9) pe_int (nomark _)) (pw_or1 (pt_not (pt_val (pcl c_L_same hr (by decide) (by rfl) (pa_cons (pv 8) (pa_cons (pv 4) pa_nil))))))))) (pss_one (ps_ret pe_bl)) pss_nil)
      (pss_cons (ps_if (pt_cmpR (op_eqD hr.units) (pv 4) (pe_lst pa_nil) (nomark _)) (pss_one (ps_ret (pe_and (pe_cmpR op_eq (pv 9) pe_int (nomark _)) (pe_one (pcl c_L_same hr (by decide) (by rfl) (pa_cons (pv 10) (pa_cons (pe_lst pa_nil) pa_nil))))))) pss_nil)
      (pss_cons (ps_if (PW.pt (pw_or (pt_cmpR op_eq (pv 9) pe_int (nomark _)) (pw_or1 (pt_cmpR (op_neD hr.units) (pe_lc (own := [("_law_number_here", 12)]) (g := (gName 12)) (by rfl) sc_law.nd (pi_list (pv 4)) (blkOk_by (own := [("_law_number_here", 12)]) (N := ["_law_script", "_law_first", "_law_second", "_law_many", "_law_row", "_law_by", "_law_third", "_law_place", "_law_handed", "_law_found", "_law_told", "_law_left", "_law_number_here"]) (sc := defScope s_law) (by decide +kernel)) (fun _ _ _ _ _ => (pg_name (i := 12) sc_law.nd rfl (Or.inl rfl))) (fun _ _ _ _ _ => pts_one (pt_cmpR op_ne (pe_op op_mod (pv 12) (pv 9)) pe_int (nomark _))) (fun _ _ _ _ _ => (pv 12))) (pe_lst pa_nil) (nomark _))))) (pss_one (ps_ret pe_bl)) pss_nil)
      (pss_cons (ps_setLc (i := 11) (own := [("_law_number_here", 12)]) (g := (gName 12)) (by rfl) sc_law.nd rfl rfl (sw_true rfl rfl rfl (by decide +kernel)) (pi_list (pv 4)) (blkOk_by (own := [("_law_number_here", 12)]) (N := ["_law_script", "_law_first", "_law_second", "_law_many", "_law_row", "_law_by", "_law_third", "_law_place", "_law_handed", "_law_found", "_law_told", "_law_left", "_law_number_here"]) (sc := defScope s_law) (by decide +kernel)) (fun _ _ _ _ _ => (pg_name (i := 12) sc_law.nd rfl (Or.inl rfl))) (fun _ _ _ _ _ => pts_nil) (fun _ _ _ _ _ => (pe_op op_fdivW (pv 12) (pv 9))))
      (pss_cons (ps_if (pt_cmpR op_lt (pe_ix ix_list (pv 11) (pe_un un_neg pe_int) (fun _ _ => rfl)) pe_int (nomark _)) (pss_one (ps_setLc (i := 11) (own := [("_law_number_here", 12)]) (g := (gName 12)) (by rfl) sc_law.nd rfl rfl (sw_true rfl rfl rfl (by decide +kernel)) (pi_list (pv 11)) (blkOk_by (own := [("_law_number_here", 12)]) (N := ["_law_script", "_law_first", "_law_second", "_law_many", "_law_row", "_law_by", "_law_third", "_law_place", "_law_handed", "_law_found", "_law_told", "_law_left", "_law_number_here"]) (sc := defScope s_law) (by decide +kernel)) (fun _ _ _ _ _ => (pg_name (i := 12) sc_law.nd rfl (Or.inl rfl))) (fun _ _ _ _ _ => pts_nil) (fun _ _ _ _ _ => (pe_un un_neg (pv 12))))) pss_nil)
      (pss_cons (ps_if (PW.pt (pw_or (pt_cmpR op_ne (pcl c_L_content hr (by decide) (by rfl) (pa_cons (pv 11) pa_nil)) pe_int (nomark _)) (pw_or1 (pt_not (pt_val (pcl c_L_same hr (by decide) (by rfl) (pa_cons (pv 10) (pa_cons (pv 11) pa_nil)))))))) (pss_one (ps_ret pe_bl)) pss_nil)
      (pss_cons (ps_expr (pe_bm PySem.F.plainAttrs_list PySem.F.slot_list_append PySem.F.type_list_append mt_append (pv 10) (pa_cons pe_int pa_nil)))
      (pss_one (ps_ret (pcl c_L_same hr (by decide) (by rfl) (pa_cons (pcl c_P_simple hr (by decide) (by rfl) (pa_cons (pv 8) pa_nil)) (pa_cons (pv 11) pa_nil))))))))))))))))))))))))))
end
theorem all_mk {l : PySem.W.OpenLaw} {w : World} {K : PySem.W.Frag} {h : Heap} {mg : Str → Option Value} {fa f_P_content f_P_signed_content f_P_lessened f_P_simple f_L_whole f_L_cell_at f_L_trim f_L_same f_L_number f_L_drawn f_L_greatest f_L_content f_law  : Addr} (X : K.In h) (G : h.Ns mainGlobals mg) (hfa : mg "law" = some (.ref fa))
    {od_P_content an_P_content : Option Addr} {sl_P_content : Array (Option Value)} {oc_P_content kV_P_content dc_P_content pm_P_content cd_P_content ct_P_content : Value}
    {od_P_signed_content an_P_signed_content : Option Addr} {sl_P_signed_content : Array (Option Value)} {oc_P_signed_content kV_P_signed_content dc_P_signed_content pm_P_signed_content cd_P_signed_content ct_P_signed_content : Value}
    {od_P_lessened an_P_lessened : Option Addr} {sl_P_lessened : Array (Option Value)} {oc_P_lessened kV_P_lessened dc_P_lessened pm_P_lessened cd_P_lessened ct_P_lessened : Value}
    {od_P_simple an_P_simple : Option Addr} {sl_P_simple : Array (Option Value)} {oc_P_simple kV_P_simple dc_P_simple pm_P_simple cd_P_simple ct_P_simple : Value}
    {od_L_whole an_L_whole : Option Addr} {sl_L_whole : Array (Option Value)} {oc_L_whole kV_L_whole dc_L_whole pm_L_whole cd_L_whole ct_L_whole : Value}
    {od_L_cell_at an_L_cell_at : Option Addr} {sl_L_cell_at : Array (Option Value)} {oc_L_cell_at kV_L_cell_at dc_L_cell_at pm_L_cell_at cd_L_cell_at ct_L_cell_at : Value}
    {od_L_trim an_L_trim : Option Addr} {sl_L_trim : Array (Option Value)} {oc_L_trim kV_L_trim dc_L_trim pm_L_trim cd_L_trim ct_L_trim : Value}
    {od_L_same an_L_same : Option Addr} {sl_L_same : Array (Option Value)} {oc_L_same kV_L_same dc_L_same pm_L_same cd_L_same ct_L_same : Value}
    {od_L_number an_L_number : Option Addr} {sl_L_number : Array (Option Value)} {oc_L_number kV_L_number dc_L_number pm_L_number cd_L_number ct_L_number : Value}
    {od_L_drawn an_L_drawn : Option Addr} {sl_L_drawn : Array (Option Value)} {oc_L_drawn kV_L_drawn dc_L_drawn pm_L_drawn cd_L_drawn ct_L_drawn : Value}
    {od_L_greatest an_L_greatest : Option Addr} {sl_L_greatest : Array (Option Value)} {oc_L_greatest kV_L_greatest dc_L_greatest pm_L_greatest cd_L_greatest ct_L_greatest : Value}
    {od_L_content an_L_content : Option Addr} {sl_L_content : Array (Option Value)} {oc_L_content kV_L_content dc_L_content pm_L_content cd_L_content ct_L_content : Value}
    {od_law an_law : Option Addr} {sl_law : Array (Option Value)} {oc_law kV_law dc_law pm_law cd_law ct_law : Value}
    (a_P_content : PySem.W.nsIn K mainGlobals "content" = some (some (.ref f_P_content))) (l_P_content : K.lookup f_P_content = some ⟨oc_P_content, od_P_content, .func (PySem.W.fnOf "content" "content" (defArgs s_P_content) (defBody s_P_content) (defScope s_P_content) .none kV_P_content dc_P_content pm_P_content an_P_content cd_P_content ct_P_content), sl_P_content⟩) (e_P_content : PySem.W.codeIn K cd_P_content "content" = true) (k_P_content : PySem.W.keepIn K (.ref f_P_content) = true)
    (a_P_signed_content : PySem.W.nsIn K mainGlobals "signed_content" = some (some (.ref f_P_signed_content))) (l_P_signed_content : K.lookup f_P_signed_content = some ⟨oc_P_signed_content, od_P_signed_content, .func (PySem.W.fnOf "signed_content" "signed_content" (defArgs s_P_signed_content) (defBody s_P_signed_content) (defScope s_P_signed_content) .none kV_P_signed_content dc_P_signed_content pm_P_signed_content an_P_signed_content cd_P_signed_content ct_P_signed_content), sl_P_signed_content⟩) (e_P_signed_content : PySem.W.codeIn K cd_P_signed_content "signed_content" = true) (k_P_signed_content : PySem.W.keepIn K (.ref f_P_signed_content) = true)
    (a_P_lessened : PySem.W.nsIn K mainGlobals "lessened" = some (some (.ref f_P_lessened))) (l_P_lessened : K.lookup f_P_lessened = some ⟨oc_P_lessened, od_P_lessened, .func (PySem.W.fnOf "lessened" "lessened" (defArgs s_P_lessened) (defBody s_P_lessened) (defScope s_P_lessened) .none kV_P_lessened dc_P_lessened pm_P_lessened an_P_lessened cd_P_lessened ct_P_lessened), sl_P_lessened⟩) (e_P_lessened : PySem.W.codeIn K cd_P_lessened "lessened" = true) (k_P_lessened : PySem.W.keepIn K (.ref f_P_lessened) = true)
    (a_P_simple : PySem.W.nsIn K mainGlobals "simple" = some (some (.ref f_P_simple))) (l_P_simple : K.lookup f_P_simple = some ⟨oc_P_simple, od_P_simple, .func (PySem.W.fnOf "simple" "simple" (defArgs s_P_simple) (defBody s_P_simple) (defScope s_P_simple) .none kV_P_simple dc_P_simple pm_P_simple an_P_simple cd_P_simple ct_P_simple), sl_P_simple⟩) (e_P_simple : PySem.W.codeIn K cd_P_simple "simple" = true) (k_P_simple : PySem.W.keepIn K (.ref f_P_simple) = true)
    (a_L_whole : PySem.W.nsIn K mainGlobals "_law_whole" = some (some (.ref f_L_whole))) (l_L_whole : K.lookup f_L_whole = some ⟨oc_L_whole, od_L_whole, .func (PySem.W.fnOf "_law_whole" "_law_whole" (defArgs s_L_whole) (defBody s_L_whole) (defScope s_L_whole) .none kV_L_whole dc_L_whole pm_L_whole an_L_whole cd_L_whole ct_L_whole), sl_L_whole⟩) (e_L_whole : PySem.W.codeIn K cd_L_whole "_law_whole" = true) (k_L_whole : PySem.W.keepIn K (.ref f_L_whole) = true)
    (a_L_cell_at : PySem.W.nsIn K mainGlobals "_law_cell_at" = some (some (.ref f_L_cell_at))) (l_L_cell_at : K.lookup f_L_cell_at = some ⟨oc_L_cell_at, od_L_cell_at, .func (PySem.W.fnOf "_law_cell_at" "_law_cell_at" (defArgs s_L_cell_at) (defBody s_L_cell_at) (defScope s_L_cell_at) .none kV_L_cell_at dc_L_cell_at pm_L_cell_at an_L_cell_at cd_L_cell_at ct_L_cell_at), sl_L_cell_at⟩) (e_L_cell_at : PySem.W.codeIn K cd_L_cell_at "_law_cell_at" = true) (k_L_cell_at : PySem.W.keepIn K (.ref f_L_cell_at) = true)
    (a_L_trim : PySem.W.nsIn K mainGlobals "_law_trim" = some (some (.ref f_L_trim))) (l_L_trim : K.lookup f_L_trim = some ⟨oc_L_trim, od_L_trim, .func (PySem.W.fnOf "_law_trim" "_law_trim" (defArgs s_L_trim) (defBody s_L_trim) (defScope s_L_trim) .none kV_L_trim dc_L_trim pm_L_trim an_L_trim cd_L_trim ct_L_trim), sl_L_trim⟩) (e_L_trim : PySem.W.codeIn K cd_L_trim "_law_trim" = true) (k_L_trim : PySem.W.keepIn K (.ref f_L_trim) = true)
    (a_L_same : PySem.W.nsIn K mainGlobals "_law_same" = some (some (.ref f_L_same))) (l_L_same : K.lookup f_L_same = some ⟨oc_L_same, od_L_same, .func (PySem.W.fnOf "_law_same" "_law_same" (defArgs s_L_same) (defBody s_L_same) (defScope s_L_same) .none kV_L_same dc_L_same pm_L_same an_L_same cd_L_same ct_L_same), sl_L_same⟩) (e_L_same : PySem.W.codeIn K cd_L_same "_law_same" = true) (k_L_same : PySem.W.keepIn K (.ref f_L_same) = true)
    (a_L_number : PySem.W.nsIn K mainGlobals "_law_number" = some (some (.ref f_L_number))) (l_L_number : K.lookup f_L_number = some ⟨oc_L_number, od_L_number, .func (PySem.W.fnOf "_law_number" "_law_number" (defArgs s_L_number) (defBody s_L_number) (defScope s_L_number) .none kV_L_number dc_L_number pm_L_number an_L_number cd_L_number ct_L_number), sl_L_number⟩) (e_L_number : PySem.W.codeIn K cd_L_number "_law_number" = true) (k_L_number : PySem.W.keepIn K (.ref f_L_number) = true)
    (a_L_drawn : PySem.W.nsIn K mainGlobals "_law_drawn" = some (some (.ref f_L_drawn))) (l_L_drawn : K.lookup f_L_drawn = some ⟨oc_L_drawn, od_L_drawn, .func (PySem.W.fnOf "_law_drawn" "_law_drawn" (defArgs s_L_drawn) (defBody s_L_drawn) (defScope s_L_drawn) .none kV_L_drawn dc_L_drawn pm_L_drawn an_L_drawn cd_L_drawn ct_L_drawn), sl_L_drawn⟩) (e_L_drawn : PySem.W.codeIn K cd_L_drawn "_law_drawn" = true) (k_L_drawn : PySem.W.keepIn K (.ref f_L_drawn) = true)
    (a_L_greatest : PySem.W.nsIn K mainGlobals "_law_greatest" = some (some (.ref f_L_greatest))) (l_L_greatest : K.lookup f_L_greatest = some ⟨oc_L_greatest, od_L_greatest, .func (PySem.W.fnOf "_law_greatest" "_law_greatest" (defArgs s_L_greatest) (defBody s_L_greatest) (defScope s_L_greatest) .none kV_L_greatest dc_L_greatest pm_L_greatest an_L_greatest cd_L_greatest ct_L_greatest), sl_L_greatest⟩) (e_L_greatest : PySem.W.codeIn K cd_L_greatest "_law_greatest" = true) (k_L_greatest : PySem.W.keepIn K (.ref f_L_greatest) = true)
    (a_L_content : PySem.W.nsIn K mainGlobals "_law_content" = some (some (.ref f_L_content))) (l_L_content : K.lookup f_L_content = some ⟨oc_L_content, od_L_content, .func (PySem.W.fnOf "_law_content" "_law_content" (defArgs s_L_content) (defBody s_L_content) (defScope s_L_content) .none kV_L_content dc_L_content pm_L_content an_L_content cd_L_content ct_L_content), sl_L_content⟩) (e_L_content : PySem.W.codeIn K cd_L_content "_law_content" = true) (k_L_content : PySem.W.keepIn K (.ref f_L_content) = true)
    (a_law : PySem.W.nsIn K mainGlobals "law" = some (some (.ref f_law))) (l_law : K.lookup f_law = some ⟨oc_law, od_law, .func (PySem.W.fnOf "law" "law" (defArgs s_law) (defBody s_law) (defScope s_law) .none kV_law dc_law pm_law an_law cd_law ct_law), sl_law⟩) (e_law : PySem.W.codeIn K cd_law "law" = true) (k_law : PySem.W.keepIn K (.ref f_law) = true)
    (z_abs : PySem.W.nsIn K mainGlobals "abs" = some none)
    (z_bool : PySem.W.nsIn K mainGlobals "bool" = some none)
    (z_gcd : PySem.W.nsIn K mainGlobals "gcd" = some (some (.builtin "math.gcd")))
    (z_int : PySem.W.nsIn K mainGlobals "int" = some none)
    (z_isinstance : PySem.W.nsIn K mainGlobals "isinstance" = some none)
    (z_len : PySem.W.nsIn K mainGlobals "len" = some none)
    (z_list : PySem.W.nsIn K mainGlobals "list" = some none)
    (z_range : PySem.W.nsIn K mainGlobals "range" = some none)
    (tree_ : l.prog.given.tree = none)
    : ∃ fd : FuncData, (∀ (s : Shared) (v : Value), BindsTo s fd ⟨[v], []⟩ [("_law_script", v)]) ∧ ∀ base : Heap, K.In base → base.Ns mainGlobals mg → base.NoSeer → FnOk l.prog w K mg base CX0 43 fa fd ["_law_script"] (sp_law K) := by
  have e := hfa.symm.trans (PySem.W.mg_of X G a_law)
  cases e
  have F_P_content := fun_mk (st := s_P_content) l_P_content e_P_content k_P_content
  have b_P_content := F_P_content.binds (ps := ["row"]) fun _ _ _ _ _ _ us hl => match us, hl with | [_], _ => rfl
  have F_P_signed_content := fun_mk (st := s_P_signed_content) l_P_signed_content e_P_signed_content k_P_signed_content
  have b_P_signed_content := F_P_signed_content.binds (ps := ["row"]) fun _ _ _ _ _ _ us hl => match us, hl with | [_], _ => rfl
  have F_P_lessened := fun_mk (st := s_P_lessened) l_P_lessened e_P_lessened k_P_lessened
  have b_P_lessened := F_P_lessened.binds (ps := ["row", "by"]) fun _ _ _ _ _ _ us hl => match us, hl with | [_, _], _ => rfl
  have F_P_simple := fun_mk (st := s_P_simple) l_P_simple e_P_simple k_P_simple
  have b_P_simple := F_P_simple.binds (ps := ["row"]) fun _ _ _ _ _ _ us hl => match us, hl with | [_], _ => rfl
  have F_L_whole := fun_mk (st := s_L_whole) l_L_whole e_L_whole k_L_whole
  have b_L_whole := F_L_whole.binds (ps := ["_law_found"]) fun _ _ _ _ _ _ us hl => match us, hl with | [_], _ => rfl
  have F_L_cell_at := fun_mk (st := s_L_cell_at) l_L_cell_at e_L_cell_at k_L_cell_at
  have b_L_cell_at := F_L_cell_at.binds (ps := ["_law_script", "_law_k"]) fun _ _ _ _ _ _ us hl => match us, hl with | [_, _], _ => rfl
  have F_L_trim := fun_mk (st := s_L_trim) l_L_trim e_L_trim k_L_trim
  have b_L_trim := F_L_trim.binds (ps := ["_law_row"]) fun _ _ _ _ _ _ us hl => match us, hl with | [_], _ => rfl
  have F_L_same := fun_mk (st := s_L_same) l_L_same e_L_same k_L_same
  have b_L_same := F_L_same.binds (ps := ["_law_found", "_law_due"]) fun _ _ _ _ _ _ us hl => match us, hl with | [_, _], _ => rfl
  have F_L_number := fun_mk (st := s_L_number) l_L_number e_L_number k_L_number
  have b_L_number := F_L_number.binds (ps := ["_law_cell"]) fun _ _ _ _ _ _ us hl => match us, hl with | [_], _ => rfl
  have F_L_drawn := fun_mk (st := s_L_drawn) l_L_drawn e_L_drawn k_L_drawn
  have b_L_drawn := F_L_drawn.binds (ps := ["_law_script", "_law_place", "_law_size", "_law_many"]) fun _ _ _ _ _ _ us hl => match us, hl with | [_, _, _, _], _ => rfl
  have F_L_greatest := fun_mk (st := s_L_greatest) l_L_greatest e_L_greatest k_L_greatest
  have b_L_greatest := F_L_greatest.binds (ps := ["_law_one", "_law_other"]) fun _ _ _ _ _ _ us hl => match us, hl with | [_, _], _ => rfl
  have F_L_content := fun_mk (st := s_L_content) l_L_content e_L_content k_L_content
  have b_L_content := F_L_content.binds (ps := ["_law_row"]) fun _ _ _ _ _ _ us hl => match us, hl with | [_], _ => rfl
  have F_law := fun_mk (st := s_law) l_law e_law k_law
  refine ⟨PySem.W.fnOf "law" "law" (defArgs s_law) (defBody s_law) (defScope s_law) .none kV_law dc_law pm_law an_law cd_law ct_law, fun s v => .of_eq rfl, fun base _ _ seer_ => ?_⟩
  have sr : Sr l.prog base := ⟨seer_, tree_⟩
  have m_abs := PySem.W.mg_none_of X G z_abs
  have m_bool := PySem.W.mg_none_of X G z_bool
  have g_gcd := PySem.W.mg_of X G z_gcd
  have m_int := PySem.W.mg_none_of X G z_int
  have m_isinstance := PySem.W.mg_none_of X G z_isinstance
  have m_len := PySem.W.mg_none_of X G z_len
  have m_list := PySem.W.mg_none_of X G z_list
  have m_range := PySem.W.mg_none_of X G z_range
  have c_P_content : Cl l.prog w K mg base 1 "content" (sp_P_content K) := ⟨f_P_content, _, _, ok_P_content F_P_content g_gcd, PySem.W.mg_of X G a_P_content, k_P_content, b_P_content⟩
  have c_P_signed_content : Cl l.prog w K mg base 2 "signed_content" (sp_P_signed_content K) := ⟨f_P_signed_content, _, _, ok_P_signed_content F_P_signed_content c_P_content, PySem.W.mg_of X G a_P_signed_content, k_P_signed_content, b_P_signed_content⟩
  have c_P_lessened : Cl l.prog w K mg base 41 "lessened" (sp_P_lessened K) := ⟨f_P_lessened, _, _, ok_P_lessened F_P_lessened sr, PySem.W.mg_of X G a_P_lessened, k_P_lessened, b_P_lessened⟩
  have c_P_simple : Cl l.prog w K mg base 42 "simple" (sp_P_simple K) := ⟨f_P_simple, _, _, ok_P_simple F_P_simple c_P_signed_content c_P_lessened, PySem.W.mg_of X G a_P_simple, k_P_simple, b_P_simple⟩
  have c_L_whole : Cl l.prog w K mg base 1 "_law_whole" (sp_L_whole K) := ⟨f_L_whole, _, _, ok_L_whole F_L_whole m_bool m_int m_isinstance, PySem.W.mg_of X G a_L_whole, k_L_whole, b_L_whole⟩
  have c_L_cell_at : Cl l.prog w K mg base 1 "_law_cell_at" (sp_L_cell_at K) := ⟨f_L_cell_at, _, _, ok_L_cell_at F_L_cell_at m_len, PySem.W.mg_of X G a_L_cell_at, k_L_cell_at, b_L_cell_at⟩
  have c_L_trim : Cl l.prog w K mg base 1 "_law_trim" (sp_L_trim K) := ⟨f_L_trim, _, _, ok_L_trim F_L_trim m_len, PySem.W.mg_of X G a_L_trim, k_L_trim, b_L_trim⟩
  have c_L_same : Cl l.prog w K mg base 2 "_law_same" (sp_L_same K) := ⟨f_L_same, _, _, ok_L_same F_L_same c_L_whole m_isinstance m_len m_list m_range, PySem.W.mg_of X G a_L_same, k_L_same, b_L_same⟩
  have c_L_number : Cl l.prog w K mg base 1 "_law_number" (sp_L_number K) := ⟨f_L_number, _, _, ok_L_number F_L_number, PySem.W.mg_of X G a_L_number, k_L_number, b_L_number⟩
  have c_L_drawn : Cl l.prog w K mg base 2 "_law_drawn" (sp_L_drawn K) := ⟨f_L_drawn, _, _, ok_L_drawn F_L_drawn c_L_trim c_L_cell_at c_L_number m_range, PySem.W.mg_of X G a_L_drawn, k_L_drawn, b_L_drawn⟩
  have c_L_greatest : Cl l.prog w K mg base 1 "_law_greatest" (sp_L_greatest K) := ⟨f_L_greatest, _, _, ok_L_greatest F_L_greatest m_abs, PySem.W.mg_of X G a_L_greatest, k_L_greatest, b_L_greatest⟩
  have c_L_content : Cl l.prog w K mg base 2 "_law_content" (sp_L_content K) := ⟨f_L_content, _, _, ok_L_content F_L_content c_L_greatest, PySem.W.mg_of X G a_L_content, k_L_content, b_L_content⟩
  exact ok_law (P := l.prog) (w := w) (base := base) F_law c_P_simple c_L_same c_L_content c_L_whole c_P_content c_L_trim c_L_cell_at c_L_drawn m_len m_list
end PP
open PySem PySem.W PyProof.Rows
set_option maxHeartbeats 0 in
theorem PySem.Challenge.cw_polyarith_k06_content_holds : PySem.Challenge.rw_polyarith_k06_content.Holds := by
  w_on; o_law; k_head; (case hw => w_witness2)
  k_fill
  refine PP.walk_big (by decide +kernel) (l := PySem.Challenge.rw_polyarith_k06_content) (n := 63) (k := 43) (x := "_law_script") (CX := fun _ => L2.CX0) (sp := fun w => PP.sp_law _) rfl (by decide) rfl ⟨rfl, by decide, by decide⟩ (fun w h Y => PySem.W.kIn_of Y) ?F (fun _ _ a ns hl _ hS => ⟨a, ns, rfl, hS, fun _ _ => rfl⟩) (fun _ _ _ _ _ h => h)
  case F =>
    intro w mg fa h KX G hmg
    refine' PP.all_mk KX G hmg ?a_P_content ?l_P_content ?e_P_content ?k_P_content ?a_P_signed_content ?l_P_signed_content ?e_P_signed_content ?k_P_signed_content ?a_P_lessened ?l_P_lessened ?e_P_lessened ?k_P_lessened ?a_P_simple ?l_P_simple ?e_P_simple ?k_P_simple ?a_L_whole ?l_L_whole ?e_L_whole ?k_L_whole ?a_L_cell_at ?l_L_cell_at ?e_L_cell_at ?k_L_cell_at ?a_L_trim ?l_L_trim ?e_L_trim ?k_L_trim ?a_L_same ?l_L_same ?e_L_same ?k_L_same ?a_L_number ?l_L_number ?e_L_number ?k_L_number ?a_L_drawn ?l_L_drawn ?e_L_drawn ?k_L_drawn ?a_L_greatest ?l_L_greatest ?e_L_greatest ?k_L_greatest ?a_L_content ?l_L_content ?e_L_content ?k_L_content ?a_law ?l_law ?e_law ?k_law ?z_abs ?z_bool ?z_gcd ?z_int ?z_isinstance ?z_len ?z_list ?z_range ?tree_
    (case a_P_content => k_is); (case l_P_content => k_is); (case e_P_content => k_is); (case k_P_content => k_is); (case a_P_signed_content => k_is); (case l_P_signed_content => k_is); (case e_P_signed_content => k_is); (case k_P_signed_content => k_is); (case a_P_lessened => k_is); (case l_P_lessened => k_is); (case e_P_lessened => k_is); (case k_P_lessened => k_is); (case a_P_simple => k_is); (case l_P_simple => k_is); (case e_P_simple => k_is); (case k_P_simple => k_is); (case a_L_whole => k_is); (case l_L_whole => k_is); (case e_L_whole => k_is); (case k_L_whole => k_is); (case a_L_cell_at => k_is); (case l_L_cell_at => k_is); (case e_L_cell_at => k_is); (case k_L_cell_at => k_is); (case a_L_trim => k_is); (case l_L_trim => k_is); (case e_L_trim => k_is); (case k_L_trim => k_is); (case a_L_same => k_is); (case l_L_same => k_is); (case e_L_same => k_is); (case k_L_same => k_is); (case a_L_number => k_is); (case l_L_number => k_is); (case e_L_number => k_is); (case k_L_number => k_is); (case a_L_drawn => k_is); (case l_L_drawn => k_is); (case e_L_drawn => k_is); (case k_L_drawn => k_is); (case a_L_greatest => k_is); (case l_L_greatest => k_is); (case e_L_greatest => k_is); (case k_L_greatest => k_is); (case a_L_content => k_is); (case l_L_content => k_is); (case e_L_content => k_is); (case k_L_content => k_is); (case a_law => k_is); (case l_law => k_is); (case e_law => k_is); (case k_law => k_is); (case z_abs => k_is); (case z_bool => k_is); (case z_gcd => k_is); (case z_int => k_is); (case z_isinstance => k_is); (case z_len => k_is); (case z_list => k_is); (case z_range => k_is); (case tree_ => rfl)
