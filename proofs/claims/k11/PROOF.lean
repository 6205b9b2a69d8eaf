import PyProof.Rows.All
import Wide.All
import OpenK.AllK
import Wide.FinOn
import HandS.ForMost
import HandS.ForExc
import HandS.Evl
import HandS.Wide
import HandS.WideBits
import HandS.IsInst
import HandS.Gcd
import HandS.Deep
import HandS.ExcIs
import HandS.TryMany
import HandS.RaiseMore
import HandS.FStr
import HandS.TupAny
import HandS.Style
import HandS.AnyAll
import KE.GoesMore
import HandS.Codes
import HandS.Flow
import HandS.Replace
import HandS.ReplaceDef
import HandS.ReplaceList
import HandS.ReplaceLit
import HandS.RevRange
import HandS.StrMore
import HandS.Walk
import HandS.Zip
import PyProof.StrReplace2
import PyProof.ToksMono
import PySem.Challenge.RW_polyarith_k11_read
set_option Elab.async false
set_option linter.all false
set_option maxRecDepth 100000
set_option maxHeartbeats 4000000
/-! Pre: short words over the hand layer: operators' readings by name, rules for what evaluates, promises of pure defs. -/
namespace PP
open PySem PySem.Spec PyProof.Rows L2 Evl

/-! ### operators by short names -/
abbrev oAdd : R2 := rI0 fun i j => .int (i + j)
abbrev oSub : R2 := rI0 fun i j => .int (i - j)
abbrev oMul : R2 := rI CMulX fun i j => .int (i * j)
abbrev oDiv : R2 := rI CDivW fun i j => .int (i / j)
abbrev oMod : R2 := rI (fun _ j => 0 < j) fun i j => .int (i % j)
abbrev oPow : R2 := rI CPow fun i j => .int (i ^ j.toNat)
abbrev oLt : R2 := rI0 fun i j => .bl (decide (i < j))
abbrev oLe : R2 := rI0 fun i j => .bl (decide (i ≤ j))
abbrev oGt : R2 := rI0 fun i j => .bl (decide (j < i))
abbrev oGe : R2 := rI0 fun i j => .bl (decide (j ≤ i))
abbrev uNeg : V → Hp → VK → Prop := rU fun i => .int (-i)
abbrev rAbs : List V → Hp → VK → Prop := fun xs H Q => ∃ i, xs = [.int i] ∧ Q (.int (if i < 0 then -i else i)) H
abbrev rMin2 : List V → Hp → VK → Prop := fun xs H Q => ∃ i j, xs = [.int i, .int j] ∧ Q (.int (if j < i then j else i)) H

/-! ### a def that is called by its name -/
structure Cl (P : Program) (w : World) (K : PySem.W.Frag) (mg : Str → Option Value) (base : Heap) (k : Nat) (x : Str) (sp : Sp) : Prop where
  ex : ∃ (f : Addr) (fd : FuncData) (ps : List Str), FnOk P w K mg base CX0 k f fd ps sp ∧ mg x = some (.ref f) ∧ PySem.W.keepIn K (.ref f) = true ∧ Binds K fd ps []
section
variable {X : Cx} {k j : Nat} {x : Str} {sp : Sp} {p pos : Pos} {e : Expr} {es : List Expr} {t : TA}
theorem pcl (c : Cl X.prog X.w X.K X.mg X.base k x sp) (hr : Room j X.A) (hk : k ≤ j) (hg : Gl X x) (ha : PA X (e :: es) t)
    (hdb : (x == ("__debug__" : Str)) = false := by decide) (he : starEach (e :: es) X.env = (false, eval e X.env) :: starEach es X.env := by rfl) (hpl : (backTo pos (starEach es X.env)).any (·.1) = false := by rfl) :
    PE X (.Call (.Name x p) (e :: es) [] pos) (tCall sp [] E0 t) := by
  obtain ⟨f, fd, ps, F, hm, kp, b⟩ := c.ex
  exact pe_call F (hr.mono hk) hg hm kp b .nil pass0 ha hdb he hpl
end

/-! ### more of what evaluates -/
section
variable {K : PySem.W.Frag} {σ : L2.St} {H H' : Hp} {ta tb te tx : TE} {t u : TT} {x y z v : V} {r : R2}
/-- what a value satisfies behind: the general form -/
def EvP (te : TE) (σ : L2.St) (H : Hp) (P : V → Hp → Prop) : Prop := ∀ H1, Ex H H1 → ∀ Q : VK, (∀ v H2, Ex H1 H2 → P v H2 → Q v H2) → te σ H1 Q
theorem ev_abs {i : Int} (ha : Ev ta σ H (.int i)) : Ev (tCB rAbs (tCons ta tNil)) σ H (.int (if i < 0 then -i else i)) := fun H1 e Q q =>
  ha H1 e _ fun H2 e2 => ⟨i, rfl, q H2 e2⟩
theorem ev_min2 {i j : Int} (ha : Ev ta σ H (.int i)) (hb : Ev tb σ H (.int j)) : Ev (tCB rMin2 (tCons ta (tCons tb tNil))) σ H (.int (if j < i then j else i)) := fun H1 e Q q =>
  ha H1 e _ fun H2 e2 => hb H2 (e.trans e2) _ fun H3 e3 => ⟨i, j, rfl, q H3 (e2.trans e3)⟩
/-- isinstance(x, T), both built in -/
theorem tyx_ex {K : PySem.W.Frag} {T : String} {a : Addr} {xs : List V} (e : Ex H H') (h : H a = some (.lst xs)) : TyX K H' (.ref a) (.type "list") := .base (.lst (e _ _ h))
theorem ev_isinst {T U : String} {b : Bool} (ha : Ev ta σ H x) (ty : ∀ H1, Ex H H1 → TyX K H1 x (.type T)) (hb : kitB T U = some b) : Ev (tCB (rIsi K) (tCons ta (tCons (tC (.ty U)) tNil))) σ H (.bl b) := fun H1 e Q q =>
  ha H1 e _ fun H2 e2 => ⟨x, .ty U, .type T, .type U, b, rfl, .ty U, ty H2 (e.trans e2), kit_ty hb, q H2 e2⟩
theorem ty_int {K : PySem.W.Frag} {i : Int} : ∀ H1, Ex H H1 → TyX K H1 (.int i) (.type "int") := fun _ _ => .base (.int i)
theorem ty_lst {K : PySem.W.Frag} {a : Addr} {xs : List V} (h : H a = some (.lst xs)) : ∀ H1, Ex H H1 → TyX K H1 (.ref a) (.type "list") := fun _ e => .base (.lst (e _ _ h))
theorem ty_tup {K : PySem.W.Frag} {a : Addr} {xs : List V} (h : H a = some (.tup xs)) : ∀ H1, Ex H H1 → TyX K H1 (.ref a) (.type "tuple") := fun _ e => .base (.tup (e _ _ h))
/-- products, quotients with their conditions -/
theorem ev_mul {i j : Int} (ha : Ev ta σ H (.int i)) (hb : Ev tb σ H (.int j)) (hc : CMulX i j) : Ev (tOp oMul ta tb) σ H (.int (i * j)) := ev_op ha hb (rv_I hc)
theorem ev_div {i j : Int} (ha : Ev ta σ H (.int i)) (hb : Ev tb σ H (.int j)) (hc : CDivW i j) : Ev (tOp oDiv ta tb) σ H (.int (i / j)) := ev_op ha hb (rv_I hc)
theorem ev_mod {i j : Int} (ha : Ev ta σ H (.int i)) (hb : Ev tb σ H (.int j)) (hc : 0 < j) : Ev (tOp oMod ta tb) σ H (.int (i % j)) := ev_op ha hb (rv_I hc)
theorem ev_pow {i j : Int} (ha : Ev ta σ H (.int i)) (hb : Ev tb σ H (.int j)) (hc : CPow i j) : Ev (tOp oPow ta tb) σ H (.int (i ^ j.toNat)) := ev_op ha hb (rv_I hc)
theorem ev_neg {i : Int} (ha : Ev ta σ H (.int i)) : Ev (tUn uNeg ta) σ H (.int (-i)) := ev_un ha ru_neg
theorem ev_add {i j : Int} (ha : Ev ta σ H (.int i)) (hb : Ev tb σ H (.int j)) : Ev (tOp oAdd ta tb) σ H (.int (i + j)) := ev_op ha hb rv_I0
theorem ev_sub {i j : Int} (ha : Ev ta σ H (.int i)) (hb : Ev tb σ H (.int j)) : Ev (tOp oSub ta tb) σ H (.int (i - j)) := ev_op ha hb rv_I0
theorem ev_lt {i j : Int} (ha : Ev ta σ H (.int i)) (hb : Ev tb σ H (.int j)) : Ev (tOp oLt ta tb) σ H (.bl (decide (i < j))) := ev_op ha hb rv_I0
theorem ev_le {i j : Int} (ha : Ev ta σ H (.int i)) (hb : Ev tb σ H (.int j)) : Ev (tOp oLe ta tb) σ H (.bl (decide (i ≤ j))) := ev_op ha hb rv_I0
theorem ev_gt {i j : Int} (ha : Ev ta σ H (.int i)) (hb : Ev tb σ H (.int j)) : Ev (tOp oGt ta tb) σ H (.bl (decide (j < i))) := ev_op ha hb rv_I0
theorem ev_ge {i j : Int} (ha : Ev ta σ H (.int i)) (hb : Ev tb σ H (.int j)) : Ev (tOp oGe ta tb) σ H (.bl (decide (j ≤ i))) := ev_op ha hb rv_I0
theorem ev_eqI {i j : Int} (ha : Ev ta σ H (.int i)) (hb : Ev tb σ H (.int j)) : Ev (tOp rEq ta tb) σ H (.bl (decide (i = j))) := by
  have h := ev_op ha hb (rv_eq (x := .int i) (y := .int j) rfl)
  have e : decide ((V.int i) = V.int j) = decide (i = j) := by
    by_cases h : i = j
    · subst h
      simp
    · simp [h]
  rw [e] at h
  exact h
theorem ev_neI {i j : Int} (ha : Ev ta σ H (.int i)) (hb : Ev tb σ H (.int j)) : Ev (tOp rNe ta tb) σ H (.bl (!decide (i = j))) := by
  have h := ev_op ha hb (rv_ne (x := .int i) (y := .int j) rfl)
  have e : decide ((V.int i) = V.int j) = decide (i = j) := by
    by_cases h : i = j
    · subst h
      simp
    · simp [h]
  rw [e] at h
  exact h
/-- an item of a list of ints -/
theorem ev_ixI {p : Addr} {ns : List Int} {i : Int} {j : Nat} (ha : Ev ta σ H (.ref p)) (hb : Ev tb σ H (.int i)) (h : SqL K H p (ns.map V.int)) (hi : i = (j : Int)) (hj : j < ns.length) : Ev (tOp (rIxL K) ta tb) σ H (.int (ns.getD j 0)) := by
  refine ev_op ha hb (rv_ixL h ?_)
  subst hi
  refine atI_nat ?_
  rw [List.getElem?_map, List.getElem?_eq_getElem hj, List.getD_eq_getElem?_getD, List.getElem?_eq_getElem hj]
  rfl
end

/-! ### ranges as values, an item of a list changed by an operator -/
section
variable {X : Cx}
def rRng1 : List V → Hp → VK → Prop := fun vs H Q => ∃ i : Int, vs = [.int i] ∧ ∀ p, H p = none → Q (.ref p) (upd H p (.rng 0 i))
theorem cr_range1 : CallR X (.type "range") rRng1 := by
  intro pins s σ H vs us Q I r h
  obtain ⟨i, rfl, q⟩ := h
  obtain ⟨u1, rfl, ri⟩ := vals1 r
  obtain ⟨t, rfl⟩ := ri
  refine call_range_1 ⟨.ref s.heap.objs.size, upd H s.heap.objs.size (.rng 0 i), I.laid (t' := s.toks + 1 + 1) (fun b o e => Heap.get?_push_of_some _ e) (Nat.le_refl _) ?_, rfl, q _ (I.hok.fresh (Nat.le_refl _))⟩
  exact ⟨s.toks, t, s.toks + 1, Heap.get?_push_size _ rfl⟩
def iRngV (tl : TE) : TI := fun σ H R => tl σ H fun x H1 => ∃ a lo hi, x = .ref a ∧ H1 a = some (.rng lo hi) ∧ (-(2 ^ 62) ≤ lo ∧ lo < 2 ^ 62 ∧ -(2 ^ 62) ≤ hi ∧ hi < 2 ^ 62) ∧ R (Itr lo (hi - lo).toNat) H1
theorem pi_rngV {tg l : Expr} {tl : TE} (hl : PE X l tl) : PI X tg l (iRngV tl) := by
  refine ⟨fun pins s σ H R I h => ?_⟩
  refine thn (hl.run pins s σ H _ I h) fun v s1 ⟨x, H1, I1, r1, q1⟩ => ?_
  obtain ⟨a, lo, hi, e, ha, ⟨q1, q2, q3, q4⟩, q⟩ := q1
  subst e
  cases r1
  obtain ⟨t, u, v, ho⟩ := (show ObjOk X.prog X.w H1 s1.heap a (.rng lo hi) from I1.hok a _ ha)
  refine wpAny_pyIter_range ho (small_one q1 q2 q3 q4) ?_
  refine ⟨s1.heap.objs.size, [s1.heap.objs.size], _, _, H1, rfl, I1.kept (t' := s1.toks) fun b o e => Heap.get?_push_of_some _ e, turn_range _ lo (hi - lo).toNat, ?_, fun b hb => ?_, q⟩
  · have e1 : lo + ((0 : Nat) : Int) * 1 = lo := by simp
    have e2 : (((hi - lo).toNat : Nat) : Int) - ((0 : Nat) : Int) = Builtin.Range.rangeSize lo hi 1 := by rw [rangeSize_one]; split <;> omega
    show IsRangeIter _ _ (lo + ((0 : Nat) : Int) * 1) ((((hi - lo).toNat : Nat) : Int) - ((0 : Nat) : Int)) 1
    rw [e1, e2]
    exact Heap.get?_push_size _ rfl
  · have e : b = s1.heap.objs.size := by simpa using hb
    subst e
    exact I1.fpOk (Nat.le_refl _) (I1.hok.fresh (Nat.le_refl _))
def rGetL : V → V → Hp → VK → Prop := fun o i H Q => ∃ p xs k v, o = .ref p ∧ i = .int k ∧ H p = some (.lst xs) ∧ 0 ≤ k ∧ xs[k.toNat]? = some v ∧ Q v H
theorem get_list : PGet X rGetL := by
  intro pins s σ H o i ov iv Q I ro ri h
  obtain ⟨p, xs, k, z, rfl, rfl, hp, h0, he, q⟩ := h
  cases ro
  obtain ⟨t, rfl⟩ := ri
  obtain ⟨its, r, pl, hz⟩ := I.list (.inl (.inl hp))
  obtain ⟨w, ew, rw'⟩ := r.get he
  have hn := line63
  have hj : k.toNat < xs.length := (List.getElem?_eq_some_iff.mp he).1
  exact wpAny_getItem_list pl.isList h0 (by omega) (by simpa using ew) ⟨z, H, I, rw', q⟩
end
/-! ### new objects of any kind; new lists as arguments; lists of new lists -/
section
variable {K : PySem.W.Frag} {σ : L2.St} {H H' : Hp} {ta tb te tx : TE} {t u : TT} {x y z v : V} {r : R2} {D : Ends} {tu tw tz : TS}
def EvN (te : TE) (σ : L2.St) (H : Hp) (o : HO) : Prop := ∀ H1, Ex H H1 → ∀ Q : VK, (∀ p H2, H1 p = none → Ex H1 H2 → H2 p = some o → Q (.ref p) H2) → te σ H1 Q
theorem q_asgN {i : Nat} {o : HO} (h : EvN te σ H o) (k : ∀ p H1, H p = none → Ex H H1 → H1 p = some o → tz D (σ.set i (some (.ref p))) H1) : tSeq (tAsg te (gName i)) tz D σ H := h H (Ex.refl H) _ fun p H1 hp e h1 => k p H1 hp e h1
theorem en_range1 {n : Int} (ha : Ev ta σ H (.int n)) : EvN (tCB rRng1 (tCons ta tNil)) σ H (.rng 0 n) := fun H1 e Q q =>
  ha H1 e _ fun H2 e2 => ⟨n, rfl, fun p hp => q p _ (fresh_back e2 hp) (e2.trans (Ex.new hp)) upd_same⟩
theorem el_lcRV {a : Addr} {tl : TE} {j : Nat} {vs : List Nat} {n : Int} (f : Nat → Bool) (v : Nat → V) (h : Ev tl σ H (.ref a)) (hr : H a = some (.rng 0 n)) (hn : 0 ≤ n ∧ n ≤ 40000) (hw : ∀ x, wipe ((wipe σ vs).set j (some x)) vs = wipe σ vs)
    (ht : ∀ (i : Nat) H1, Ex H H1 → (i : Int) < n → EvT t ((wipe σ vs).set j (some (.int (i : Int)))) H1 (f i)) (he : ∀ (i : Nat) H1, Ex H H1 → (i : Int) < n → f i = true → Ev te ((wipe σ vs).set j (some (.int (i : Int)))) H1 (v i)) :
    EvL (tLc (iRngV tl) (gName j) t te vs) σ H (given n.toNat f v) := fun H0 e Q q => h H0 e _ fun H1 e1 => ⟨a, 0, n, rfl, (e.trans e1) _ _ hr, ⟨by omega, by omega, by omega, by omega⟩, fun Dl hD => by
  rw [Int.sub_zero]
  exact lc_range (lo := 0) (n := n.toNat) (Cw H1 f v Dl) ⟨hD, Ex.new hD, upd_same⟩ (fun i H' hi p => by
    have e0 : (0 : Int) + (i : Int) = (i : Int) := Int.zero_add _
    show wipe ((wipe σ vs).set j (some (.int ((0 : Int) + (i : Int))))) vs = wipe σ vs ∧ t ((wipe σ vs).set j (some (.int ((0 : Int) + (i : Int))))) H' fun b H3 => if b = true then te ((wipe σ vs).set j (some (.int ((0 : Int) + (i : Int))))) H3 fun y H4 => ∃ acc, H4 Dl = some (.lst acc) ∧ acc.length < sizeLine ∧ Cw H1 f v Dl (i + 1) (upd H4 Dl (.lst (acc ++ [y]))) else Cw H1 f v Dl (i + 1) H3
    rw [e0]
    exact ⟨hw _, cw_turn p (by omega) (ht i H1 (e.trans e1) (by omega)) (fun hf => he i H1 (e.trans e1) (by omega) hf)⟩) (fun H' p => q Dl H' (fresh_back e1 p.1) (e1.trans p.2.1) p.2.2)⟩
/-- calls whose one argument is a new list -/
theorem el_callN {sp : Sp} {E : XK} {xs ys : List V} (h : EvL te σ H xs) (hs : ∀ p H1, H1 p = some (.lst xs) → Ex H H1 → SpL sp [.ref p] H1 ys) : EvL (tCall sp [] E (tCons te tNil)) σ H ys := fun H1 e Q q =>
  h H1 e _ fun p H2 hp e2 h2 => hs p H2 h2 (e.trans e2) H2 (Ex.refl H2) Q (fun p3 H3 hp3 e3 h3 => q p3 H3 (fresh_back e2 hp3) (e2.trans e3) h3) E
theorem ev_callN {sp : Sp} {E : XK} {xs : List V} (h : EvL te σ H xs) (hs : ∀ p H1, H1 p = some (.lst xs) → Ex H H1 → SpV sp [.ref p] H1 z) : Ev (tCall sp [] E (tCons te tNil)) σ H z := fun H1 e Q q =>
  h H1 e _ fun p H2 hp e2 h2 => hs p H2 h2 (e.trans e2) H2 (Ex.refl H2) Q (fun H3 e3 => q H3 (e2.trans e3)) E
theorem el_listN {xs : List V} (h : EvL te σ H xs) : EvL (tCB (rListS K) (tCons te tNil)) σ H xs := fun H1 e Q q =>
  h H1 e _ fun p H2 _ e2 h2 => ⟨p, xs, rfl, Or.inl (sq_of h2), fun l hl => q l _ (fresh_back e2 hl) (e2.trans (Ex.new hl)) upd_same⟩
/-- lists that are new, each its own -/
def News (H H2 : Hp) : List Addr → List (List V) → Prop
  | [], [] => True
  | p :: ps, xs :: xss => H p = none ∧ H2 p = some (.lst xs) ∧ p ∉ ps ∧ News H H2 ps xss
  | _, _ => False
theorem News.mono : ∀ {ps : List Addr} {xss : List (List V)} {H H0 H1 H2 : Hp}, News H H1 ps xss → Ex H0 H → Ex H1 H2 → News H0 H2 ps xss
  | [], [], _, _, _, _, _, _, _ => trivial
  | p :: ps, xs :: xss, _, _, _, _, h, e0, e => ⟨fresh_back e0 h.1, e _ _ h.2.1, h.2.2.1, News.mono h.2.2.2 e0 e⟩
  | [], _ :: _, _, _, _, _, h, _, _ => h.elim
  | _ :: _, [], _, _, _, _, h, _, _ => h.elim
theorem News.free : ∀ {ps : List Addr} {xss : List (List V)} {H H2 : Hp}, News H H2 ps xss → ∀ p ∈ ps, H p = none
  | [], [], _, _, _, p, hp => by simp at hp
  | a :: ps, xs :: xss, _, _, h, p, hp => by
    rcases List.mem_cons.mp hp with e | hp
    · rw [e]
      exact h.1
    · exact News.free h.2.2.2 p hp
  | [], _ :: _, _, _, h, _, _ => h.elim
  | _ :: _, [], _, _, h, _, _ => h.elim
def EvLs (ta : TA) (σ : L2.St) (H : Hp) (xss : List (List V)) : Prop := ∀ H1, Ex H H1 → ∀ Q : List V → Hp → Prop, (∀ ps H2, Ex H1 H2 → News H1 H2 ps xss → Q (ps.map V.ref) H2) → ta σ H1 Q
theorem els_nil : EvLs tNil σ H [] := fun H1 e Q q => q [] H1 (Ex.refl H1) trivial
theorem els_cons {tr : TA} {xs : List V} {xss : List (List V)} (h : EvL te σ H xs) (hr : EvLs tr σ H xss) : EvLs (tCons te tr) σ H (xs :: xss) := fun H1 e Q q =>
  h H1 e _ fun p H2 hp e2 h2 => hr H2 (e.trans e2) _ fun ps H3 e3 n3 => q (p :: ps) H3 (e2.trans e3) ⟨hp, e3 _ _ h2, (fun hm => by
    rw [n3.free p hm] at h2
    cases h2), n3.mono e2 (Ex.refl H3)⟩
/-- a new list of new lists -/
def EvLL (te : TE) (σ : L2.St) (H : Hp) (xss : List (List V)) : Prop := ∀ H1, Ex H H1 → ∀ Q : VK, (∀ p ps H2, H1 p = none → p ∉ ps → Ex H1 H2 → News H1 H2 ps xss → H2 p = some (.lst (ps.map V.ref)) → Q (.ref p) H2) → te σ H1 Q
theorem News.len : ∀ {ps : List Addr} {xss : List (List V)} {H H2 : Hp}, News H H2 ps xss → ps.length = xss.length
  | [], [], _, _, _ => rfl
  | _ :: ps, _ :: xss, _, _, h => by
    have := News.len h.2.2.2
    simp [this]
  | [], _ :: _, _, _, h => h.elim
  | _ :: _, [], _, _, h => h.elim
theorem News.ex : ∀ {ps : List Addr} {xss : List (List V)} {H H2 : Hp}, News H H2 ps xss → ∀ p ∈ ps, ∃ xs, H2 p = some (.lst xs)
  | [], [], _, _, _, p, hp => by simp at hp
  | a :: ps, xs :: xss, _, _, h, p, hp => by
    rcases List.mem_cons.mp hp with e | hp
    · rw [e]
      exact ⟨xs, h.2.1⟩
    · exact News.ex h.2.2.2 p hp
  | [], _ :: _, _, _, h, _, _ => h.elim
  | _ :: _, [], _, _, h, _, _ => h.elim
theorem ell_lst {ta : TA} {xss : List (List V)} (h : EvLs ta σ H xss) (hz : xss.length ≤ 1000) : EvLL (tLst ta) σ H xss := fun H1 e Q q =>
  h H1 e _ fun ps H2 e2 n2 => ⟨by
    rw [List.length_map, n2.len]
    exact sz_of (by omega), fun p hp => q p ps _ (fresh_back e2 hp) (fun hm => by
    obtain ⟨xs, h3⟩ := n2.ex p hm
    rw [hp] at h3
    cases h3) (e2.trans (Ex.new hp)) (n2.mono (Ex.refl H1) (Ex.new hp)) upd_same⟩
def RetLL (xss : List (List V)) (H : Hp) (Q : VK) : Prop := ∀ p ps H2, H p = none → p ∉ ps → Ex H H2 → News H H2 ps xss → H2 p = some (.lst (ps.map V.ref)) → Q (.ref p) H2
theorem RetLL.go {xss : List (List V)} {Q : VK} (k : RetLL xss H Q) (e : Ex H H') {p : Addr} {ps : List Addr} {H2 : Hp} (hp : H' p = none) (hm : p ∉ ps) (e2 : Ex H' H2) (n : News H' H2 ps xss) (h : H2 p = some (.lst (ps.map V.ref))) : Q (.ref p) H2 :=
  k p ps H2 (fresh_back e hp) hm (e.trans e2) (n.mono e (Ex.refl H2)) h
theorem s_retLL {xss : List (List V)} (h : EvLL te σ H xss) (k : ∀ p ps H1, H p = none → p ∉ ps → Ex H H1 → News H H1 ps xss → H1 p = some (.lst (ps.map V.ref)) → D.rt (.ref p) H1) : tRet te D σ H := h H (Ex.refl H) _ k
theorem q_asgLL {i : Nat} {xss : List (List V)} (h : EvLL te σ H xss) (k : ∀ p ps H1, H p = none → p ∉ ps → Ex H H1 → News H H1 ps xss → H1 p = some (.lst (ps.map V.ref)) → tz D (σ.set i (some (.ref p))) H1) : tSeq (tAsg te (gName i)) tz D σ H := h H (Ex.refl H) _ k
def SpLL (sp : Sp) (vs : List V) (H : Hp) (xss : List (List V)) : Prop := ∀ H1, Ex H H1 → ∀ Q : VK, RetLL xss H1 Q → ∀ E : XK, sp vs H1 Q E
theorem ell_call {sp : Sp} {vs : List V} {xss : List (List V)} {E : XK} {ta : TA} (h : EvA ta σ H vs) (hs : SpLL sp vs H xss) : EvLL (tCall sp [] E ta) σ H xss := fun H1 e Q q =>
  h H1 e _ fun H2 e2 => by
    rw [List.append_nil]
    exact hs H2 (e.trans e2) Q (fun p ps H3 hp hm e3 n3 h3 => q p ps H3 (fresh_back e2 hp) hm (e2.trans e3) (n3.mono e2 (Ex.refl H3)) h3) E
/-- an item of a list of addresses -/
theorem ev_ixR {p : Addr} {ps : List Addr} {i : Int} {j : Nat} {a : Addr} (ha : Ev ta σ H (.ref p)) (hb : Ev tb σ H (.int i)) (h : H p = some (.lst (ps.map V.ref))) (hi : i = (j : Int)) (hj : ps[j]? = some a) : Ev (tOp (rIxL K) ta tb) σ H (.ref a) := by
  refine ev_op ha hb (rv_ixL (sq_of h) ?_)
  subst hi
  refine atI_nat ?_
  rw [List.getElem?_map, hj]
  rfl
end

theorem News.get : ∀ {ps : List Addr} {xss : List (List V)} {H H2 : Hp} {j : Nat} {p : Addr} {xs : List V}, News H H2 ps xss → ps[j]? = some p → xss[j]? = some xs → H p = none ∧ H2 p = some (.lst xs)
  | [], _, _, _, _, _, _, _, h, _ => by simp at h
  | _ :: _, [], _, _, _, _, _, h, _, _ => h.elim
  | a :: ps, ys :: xss, _, _, 0, _, _, h, e1, e2 => by
    simp at e1 e2
    subst e1 e2
    exact ⟨h.1, h.2.1⟩
  | a :: ps, ys :: xss, _, _, j + 1, _, _, h, e1, e2 => News.get h.2.2.2 (by simpa using e1) (by simpa using e2)
theorem News.nodup : ∀ {ps : List Addr} {xss : List (List V)} {H H2 : Hp}, News H H2 ps xss → ps.Nodup
  | [], _, _, _, _ => List.nodup_nil
  | _ :: _, [], _, _, h => h.elim
  | a :: ps, ys :: xss, _, _, h => List.nodup_cons.mpr ⟨h.2.2.1, News.nodup h.2.2.2⟩
theorem News.at {ps : List Addr} {xss : List (List V)} {H H2 : Hp} {j : Nat} (h : News H H2 ps xss) (hj : j < xss.length) : ∃ p, ps[j]? = some p :=
  ⟨ps[j]'(by rw [h.len]; exact hj), List.getElem?_eq_getElem _⟩
section
variable {K : PySem.W.Frag} {σ : L2.St} {H H' : Hp} {ta tb te tx : TE} {t u : TT} {x y z v : V} {r : R2} {D : Ends} {tu tw tz : TS}
theorem evp_L {xs : List V} (h : EvL te σ H xs) : EvP te σ H (fun v H2 => ∃ p, v = .ref p ∧ H2 p = some (.lst xs)) := fun H1 e Q q => h H1 e _ fun p H2 _ e2 h2 => q _ H2 e2 ⟨p, rfl, h2⟩
theorem EvP.imp {P P' : V → Hp → Prop} (h : EvP te σ H P) (i : ∀ v H1, P v H1 → P' v H1) : EvP te σ H P' := fun H1 e Q q => h H1 e _ fun v H2 e2 hp => q v H2 e2 (i v H2 hp)
/-- if c: x = e, what x holds behind told by P -/
theorem q_whenAsg {b : Bool} {i : Nat} {P : V → Hp → Prop} (h : EvT t σ H b) (h1 : b = true → EvP te σ H P) (h2 : b = false → ∃ v, σ.set i (some v) = σ ∧ ∀ H1, Ex H H1 → P v H1) (k : ∀ v H1, Ex H H1 → P v H1 → tz D (σ.set i (some v)) H1) : tSeq (tIfS t (tAsg te (gName i)) tNext) tz D σ H :=
  q_when h (fun hb H1 e1 => h1 hb H1 e1 _ fun v H2 e2 hp => k v H2 (e1.trans e2) hp) (fun hb H1 e1 => by
    obtain ⟨v, e, hp⟩ := h2 hb
    have g := k v H1 e1 (hp H1 e1)
    rw [e] at g
    exact g)
theorem q_asgP {i : Nat} {P : V → Hp → Prop} (h : EvP te σ H P) (k : ∀ v H1, Ex H H1 → P v H1 → tz D (σ.set i (some v)) H1) : tSeq (tAsg te (gName i)) tz D σ H := h H (Ex.refl H) _ fun v H1 e hp => k v H1 e hp
theorem el_cat {xs ys : List V} (h1 : EvL ta σ H xs) (h2 : EvL tb σ H ys) (hz : xs.length + ys.length ≤ 100000) : EvL (tOp rCat ta tb) σ H (xs ++ ys) := fun H1 e Q q =>
  h1 H1 e _ fun p H2 hp e2 hx => h2 H2 (e.trans e2) _ fun p2 H3 hp2 e3 hy => ⟨p, p2, xs, ys, rfl, rfl, e3 _ _ hx, hy, sz_of hz, fun l hl => q l _ (fresh_back (e2.trans e3) hl) ((e2.trans e3).trans (Ex.new hl)) upd_same⟩
end
theorem cut_drop (ns : List Int) (k : Nat) : cutV (ns.map V.int) (some (k : Int)) none = (ns.drop k).map V.int := by
  unfold cutV
  rw [HT.sIx_none, show HT.sIx (ns.map V.int).length 0 (some (k : Int)) = min k (ns.map V.int).length from HT.sIx_nat (ns.map V.int).length _ k]
  rw [← List.map_drop, ← List.map_take, List.length_map]
  congr 1
  by_cases h : k ≤ ns.length
  · rw [Nat.min_eq_left h]
    refine List.take_of_length_le ?_
    rw [List.length_drop]
    exact Nat.le_refl _
  · rw [Nat.min_eq_right (by omega), List.drop_length, List.drop_of_length_le (by omega)]
    simp
/-! ### truth of lists, repeated lists, enumerate, items changed -/
abbrev tTruth (K : PySem.W.Frag) (ta : TE) : TT := fun σ H Q => ta σ H fun x H' => ∃ k, TruV K x H' k ∧ Q k H'
section
variable {K : PySem.W.Frag} {σ : L2.St} {H H' : Hp} {ta tb te tx : TE} {t u : TT} {x y z v : V} {r : R2} {D : Ends} {tu tw tz : TS}
theorem et_truthL {a : Addr} {xs : List V} (h : Ev te σ H (.ref a)) (hx : SqL K H a xs) : EvT (tTruth K te) σ H (!xs.isEmpty) := fun H1 e Q q =>
  h H1 e _ fun H2 e2 => ⟨_, .inl ⟨xs, ex_l (e.trans e2) hx, rfl⟩, q H2 e2⟩
theorem et_truthI {i : Int} (h : Ev te σ H (.int i)) : EvT (tTruth K te) σ H (i != 0) := fun H1 e Q q =>
  h H1 e _ fun H2 e2 => ⟨_, rfl, q H2 e2⟩
theorem rep_flat (k : Nat) (v : V) : (List.replicate k [v]).flatten = List.replicate k v := by
  induction k with
  | zero => rfl
  | succ k ih => rw [List.replicate_succ, List.flatten_cons, ih, List.replicate_succ] <;> rfl
theorem el_rep {i : Int} {k : Nat} (h : EvL ta σ H [v]) (hb : Ev tb σ H (.int i)) (hi : i = (k : Int)) (hk : k ≤ 100000) : EvL (tOp rRep ta tb) σ H (List.replicate k v) := fun H1 e Q q =>
  h H1 e _ fun p H2 hp e2 hx => hb H2 (e.trans e2) _ fun H3 e3 => ⟨p, i, [v], rfl, rfl, e3 _ _ hx, by omega, by omega, by
    rw [hi, Int.toNat_natCast]
    show 1 * k ≤ _
    rw [Nat.one_mul]
    exact sz_of hk, fun l hl => by
    rw [hi, Int.toNat_natCast, rep_flat]
    exact q l _ (fresh_back (e2.trans e3) hl) ((e2.trans e3).trans (Ex.new hl)) upd_same⟩
theorem q_setI {l : Addr} {ns : List Int} {i w : Int} {j : Nat} (hl : H l = some (.lst (ns.map V.int))) (h : Ev te σ H (.int w)) (ho : Ev ta σ H (.ref l)) (hi : Ev tb σ H (.int i)) (he : i = (j : Int)) (hj : j < ns.length) (k : ∀ H1, Ex H H1 → D.nx σ (upd H1 l (.lst ((ns.set j w).map V.int)))) :
    tAsg te (gSub ta tb rSetL) D σ H := by
  subst he
  refine s_setL hl h ho hi (by rw [List.length_map]; exact hj) fun H1 e1 => ?_
  have := k H1 e1
  rw [List.map_set] at this
  exact this
theorem s_augI {l : Addr} {ns : List Int} {i w : Int} {j : Nat} (hl : H l = some (.lst (ns.map V.int))) (ho : Ev ta σ H (.ref l)) (hi : Ev tb σ H (.int i)) (he : i = (j : Int)) (hj : j < ns.length) (h : Ev te σ H (.int w)) (k : ∀ H1, Ex H H1 → D.nx σ (upd H1 l (.lst ((ns.set j (ns.getD j 0 + w)).map V.int)))) :
    tAugS ta tb te rGetL (ipI fun i j => i + j) rSetL D σ H := by
  subst he
  refine ho H (Ex.refl H) _ fun H1 e1 => hi H1 e1 _ fun H2 e2 => ?_
  have h2 := (e1.trans e2) _ _ hl
  refine ⟨l, _, _, .int (ns.getD j 0), rfl, rfl, h2, by omega, ?_, ?_⟩
  · rw [Int.toNat_natCast, List.getElem?_map, List.getElem?_eq_getElem hj, List.getD_eq_getElem?_getD, List.getElem?_eq_getElem hj]
    rfl
  refine h H2 (e1.trans e2) _ fun H3 e3 => ⟨_, _, rfl, rfl, l, _, _, j, rfl, rfl, e3 _ _ h2, ixN_nat (by rw [List.length_map]; exact hj), ?_⟩
  have := k H3 ((e1.trans e2).trans e3)
  rw [List.map_set] at this
  exact this
/-- for i, x in enumerate(xs) -/
theorem s_forEnum {a : Addr} {xs : List V} {ta : TA} {n1 n2 : Nat} (h : EvA ta σ H [.ref a]) (hx : SqL K H a xs) (Pv : Nat → L2.St → Hp → Prop) (h0 : ∀ H1, Ex H H1 → Pv 0 σ H1) (hl : ∀ i σ' H', i ≤ xs.length → Pv i σ' H' → SqL K H' a xs)
    (hs : ∀ (i : Nat) x σ' H' H'', xs[i]? = some x → Pv i σ' H' → Ex H' H'' → tu { D with nx := Pv (i + 1), ct := Pv (i + 1), bk := D.nx } ((σ'.set n1 (some (.int (i : Int)))).set n2 (some x)) H'') (hd : ∀ σ' H', Pv xs.length σ' H' → D.nx σ' H') :
    tFor (iEnum K ta) (gTup K 2 (gCons (gName n1) (gCons (gName n2) gNil))) tu D σ H := by
  refine h H (Ex.refl H) _ fun H1 e => ⟨a, xs, rfl, ex_l e hx, fun i m σ' H' => m = xs.length - i ∧ i ≤ xs.length ∧ Pv i σ' H', ⟨xs.length, by simp, Nat.zero_le _, h0 H1 e⟩, fun i m σ' H' hW => ?_⟩
  obtain ⟨rfl, hi, p⟩ := hW
  have hq := hl i σ' H' hi p
  by_cases hlt : i < xs.length
  · have hg : xs[i]? = some xs[i] := List.getElem?_eq_getElem hlt
    refine .inr ⟨⟨xs, _, hq, hg⟩, Pv (i + 1), fun σ2 H2 p2 => ⟨xs.length - (i + 1), by omega, rfl, by omega, p2⟩, fun w H2 hy => ?_⟩
    obtain ⟨T, x, rfl, hT, rfl, hxx⟩ := hy
    refine ⟨T, [.int (i : Int), x], rfl, .inl (.inl upd_same), rfl, .int (i : Int), [x], rfl, x, [], rfl, rfl, ?_⟩
    exact hs i x σ' H' _ (hxx xs hq) p (Ex.new hT)
  · have e : i = xs.length := by omega
    subst e
    exact .inl ⟨⟨xs, hq, Nat.le_refl _⟩, hd σ' H' p⟩
theorem q_forEnum {a : Addr} {xs : List V} {ta : TA} {n1 n2 : Nat} (h : EvA ta σ H [.ref a]) (hx : SqL K H a xs) (Pv : Nat → L2.St → Hp → Prop) (h0 : ∀ H1, Ex H H1 → Pv 0 σ H1) (hl : ∀ i σ' H', i ≤ xs.length → Pv i σ' H' → SqL K H' a xs)
    (hs : ∀ (i : Nat) x σ' H' H'', xs[i]? = some x → Pv i σ' H' → Ex H' H'' → tu { D with nx := Pv (i + 1), ct := Pv (i + 1), bk := tz D } ((σ'.set n1 (some (.int (i : Int)))).set n2 (some x)) H'') (hd : ∀ σ' H', Pv xs.length σ' H' → tz D σ' H') :
    tSeq (tFor (iEnum K ta) (gTup K 2 (gCons (gName n1) (gCons (gName n2) gNil))) tu) tz D σ H := s_forEnum (D := { D with nx := tz D }) h hx Pv h0 hl hs hd
end
/-! ### arguments told by what holds of them; pairs -/
def Stable (P : V → Hp → Prop) : Prop := ∀ v H1 H2, Ex H1 H2 → P v H1 → P v H2
/-- a list of its own at the value's address; a value -/
def IsL (xs : List V) : V → Hp → Prop := fun v H => ∃ p, v = .ref p ∧ H p = some (.lst xs)
def IsV (z : V) : V → Hp → Prop := fun v _ => v = z
theorem st_L {xs : List V} : Stable (IsL xs) := fun _ _ _ e ⟨p, h, h2⟩ => ⟨p, h, e _ _ h2⟩
theorem st_V {z : V} : Stable (IsV z) := fun _ _ _ _ h => h
def All2 : List (V → Hp → Prop) → List V → Hp → Prop
  | [], [], _ => True
  | P :: Ps, v :: vs, H => P v H ∧ All2 Ps vs H
  | _, _, _ => False
section
variable {K : PySem.W.Frag} {σ : L2.St} {H H' : Hp} {ta tb te tx : TE} {t u : TT} {x y z v : V} {r : R2} {D : Ends} {tu tw tz : TS}
def EvPs (ta : TA) (σ : L2.St) (H : Hp) (Ps : List (V → Hp → Prop)) : Prop := ∀ H1, Ex H H1 → ∀ Q : List V → Hp → Prop, (∀ vs H2, Ex H1 H2 → All2 Ps vs H2 → Q vs H2) → ta σ H1 Q
theorem evp_V (h : Ev te σ H z) : EvP te σ H (IsV z) := fun H1 e Q q => h H1 e _ fun H2 e2 => q z H2 e2 rfl
theorem evp_l {xs : List V} (h : EvL te σ H xs) : EvP te σ H (IsL xs) := fun H1 e Q q => h H1 e _ fun p H2 _ e2 h2 => q _ H2 e2 ⟨p, rfl, h2⟩
theorem evp_at {a : Addr} {xs : List V} (h : Ev te σ H (.ref a)) (hx : H a = some (.lst xs)) : EvP te σ H (IsL xs) := fun H1 e Q q => h H1 e _ fun H2 e2 => q _ H2 e2 ⟨a, rfl, (e.trans e2) _ _ hx⟩
theorem eps_nil : EvPs tNil σ H [] := fun H1 e Q q => q [] H1 (Ex.refl H1) trivial
theorem eps_cons {tr : TA} {P : V → Hp → Prop} {Ps : List (V → Hp → Prop)} (h : EvP te σ H P) (st : Stable P) (hr : EvPs tr σ H Ps) : EvPs (tCons te tr) σ H (P :: Ps) := fun H1 e Q q =>
  h H1 e _ fun v H2 e2 hv => hr H2 (e.trans e2) _ fun vs H3 e3 hvs => q _ H3 (e2.trans e3) ⟨st _ _ _ e3 hv, hvs⟩
theorem eps_l {tr : TA} {xs : List V} {Ps : List (V → Hp → Prop)} (h : EvL te σ H xs) (hr : EvPs tr σ H Ps) : EvPs (tCons te tr) σ H (IsL xs :: Ps) := eps_cons (evp_l h) st_L hr
theorem eps_at {tr : TA} {a : Addr} {xs : List V} {Ps : List (V → Hp → Prop)} (h : Ev te σ H (.ref a)) (hx : H a = some (.lst xs)) (hr : EvPs tr σ H Ps) : EvPs (tCons te tr) σ H (IsL xs :: Ps) := eps_cons (evp_at h hx) st_L hr
theorem eps_V {tr : TA} {Ps : List (V → Hp → Prop)} (h : Ev te σ H z) (hr : EvPs tr σ H Ps) : EvPs (tCons te tr) σ H (IsV z :: Ps) := eps_cons (evp_V h) st_V hr
theorem el_callP {sp : Sp} {E : XK} {ta : TA} {Ps : List (V → Hp → Prop)} {xs : List V} (h : EvPs ta σ H Ps) (hs : ∀ vs H1, Ex H H1 → All2 Ps vs H1 → SpL sp vs H1 xs) : EvL (tCall sp [] E ta) σ H xs := fun H1 e Q q =>
  h H1 e _ fun vs H2 e2 hvs => by
    rw [List.append_nil]
    exact hs vs H2 (e.trans e2) hvs H2 (Ex.refl H2) Q (fun p H3 hp e3 h3 => q p H3 (fresh_back e2 hp) (e2.trans e3) h3) E
theorem ev_callP {sp : Sp} {E : XK} {ta : TA} {Ps : List (V → Hp → Prop)} (h : EvPs ta σ H Ps) (hs : ∀ vs H1, Ex H H1 → All2 Ps vs H1 → SpV sp vs H1 z) : Ev (tCall sp [] E ta) σ H z := fun H1 e Q q =>
  h H1 e _ fun vs H2 e2 hvs => by
    rw [List.append_nil]
    exact hs vs H2 (e.trans e2) hvs H2 (Ex.refl H2) Q (fun H3 e3 => q H3 (e2.trans e3)) E
theorem all2_two {P1 P2 : V → Hp → Prop} {vs : List V} {H : Hp} (h : All2 [P1, P2] vs H) : ∃ v w, vs = [v, w] ∧ P1 v H ∧ P2 w H := by
  match vs, h with
  | [v, w], ⟨a, b, _⟩ => exact ⟨v, w, rfl, a, b⟩
theorem all2_one {P1 : V → Hp → Prop} {vs : List V} {H : Hp} (h : All2 [P1] vs H) : ∃ v, vs = [v] ∧ P1 v H := by
  match vs, h with
  | [v], ⟨a, _⟩ => exact ⟨v, rfl, a⟩
theorem all2_three {P1 P2 P3 : V → Hp → Prop} {vs : List V} {H : Hp} (h : All2 [P1, P2, P3] vs H) : ∃ v w u, vs = [v, w, u] ∧ P1 v H ∧ P2 w H ∧ P3 u H := by
  match vs, h with
  | [v, w, u], ⟨a, b, c, _⟩ => exact ⟨v, w, u, rfl, a, b, c⟩
/-- two lists: a binary call -/
theorem el_call2 {sp : Sp} {E : XK} {xs ys zs : List V} (ha : EvP ta σ H (IsL xs)) (hb : EvP tb σ H (IsL ys)) (hs : ∀ a b H1, Ex H H1 → H1 a = some (.lst xs) → H1 b = some (.lst ys) → SpL sp [.ref a, .ref b] H1 zs) : EvL (tCall sp [] E (tCons ta (tCons tb tNil))) σ H zs :=
  el_callP (eps_cons ha st_L (eps_cons hb st_L eps_nil)) fun vs H1 e1 h => by
    obtain ⟨v, w, rfl, ⟨a, rfl, h1⟩, b, rfl, h2⟩ := all2_two h
    exact hs a b H1 e1 h1 h2
theorem ev_call2 {sp : Sp} {E : XK} {xs ys : List V} (ha : EvP ta σ H (IsL xs)) (hb : EvP tb σ H (IsL ys)) (hs : ∀ a b H1, Ex H H1 → H1 a = some (.lst xs) → H1 b = some (.lst ys) → SpV sp [.ref a, .ref b] H1 z) : Ev (tCall sp [] E (tCons ta (tCons tb tNil))) σ H z :=
  ev_callP (eps_cons ha st_L (eps_cons hb st_L eps_nil)) fun vs H1 e1 h => by
    obtain ⟨v, w, rfl, ⟨a, rfl, h1⟩, b, rfl, h2⟩ := all2_two h
    exact hs a b H1 e1 h1 h2
def RetP (P : V → Hp → Prop) (H : Hp) (Q : VK) : Prop := ∀ v H2, Ex H H2 → P v H2 → Q v H2
theorem RetP.go {P : V → Hp → Prop} {Q : VK} (k : RetP P H Q) (e : Ex H H') {v : V} {H2 : Hp} (e2 : Ex H' H2) (h : P v H2) : Q v H2 := k v H2 (e.trans e2) h
theorem s_retP {P : V → Hp → Prop} (h : EvP te σ H P) (k : ∀ v H1, Ex H H1 → P v H1 → D.rt v H1) : tRet te D σ H := h H (Ex.refl H) _ k
def SpP (sp : Sp) (vs : List V) (H : Hp) (P : V → Hp → Prop) : Prop := ∀ H1, Ex H H1 → ∀ Q : VK, RetP P H1 Q → ∀ E : XK, sp vs H1 Q E
theorem evp_call {sp : Sp} {E : XK} {ta : TA} {vs : List V} {P : V → Hp → Prop} (h : EvA ta σ H vs) (hs : SpP sp vs H P) : EvP (tCall sp [] E ta) σ H P := fun H1 e Q q =>
  h H1 e _ fun H2 e2 => by
    rw [List.append_nil]
    exact hs H2 (e.trans e2) Q (fun v H3 e3 hv => q v H3 (e2.trans e3) hv) E
/-- a pair of two lists, that may be known or new -/
def IsPair (P : List V → List V → Prop) : V → Hp → Prop := fun v H => ∃ t a b xs ys, v = .ref t ∧ H t = some (.tup [.ref a, .ref b]) ∧ H a = some (.lst xs) ∧ H b = some (.lst ys) ∧ P xs ys
theorem evp_pair {xs ys : List V} {P : List V → List V → Prop} (ha : EvP ta σ H (IsL xs)) (hb : EvP tb σ H (IsL ys)) (hp : P xs ys) : EvP (tTup (tCons ta (tCons tb tNil))) σ H (IsPair P) := fun H1 e Q q =>
  ha H1 e _ fun v H2 e2 ⟨a, ea, h1⟩ => hb H2 (e.trans e2) _ fun w H3 e3 ⟨b, eb, h2⟩ => ⟨sz_of (by show 2 ≤ 100000; decide), fun t ht => by
    subst ea
    subst eb
    exact q _ _ ((e2.trans e3).trans (Ex.new ht)) ⟨t, a, b, xs, ys, rfl, upd_same, (e3.trans (Ex.new ht)) _ _ h1, (Ex.new ht) _ _ h2, hp⟩⟩
/-- x, y = a pair -/
theorem q_unpack {n1 n2 : Nat} {P : List V → List V → Prop} (h : EvP te σ H (IsPair P)) (k : ∀ a b xs ys H1, Ex H H1 → H1 a = some (.lst xs) → H1 b = some (.lst ys) → P xs ys → tz D ((σ.set n1 (some (.ref a))).set n2 (some (.ref b))) H1) :
    tSeq (tAsg te (gTup K 2 (gCons (gName n1) (gCons (gName n2) gNil)))) tz D σ H := h H (Ex.refl H) _ fun v H1 e ⟨t, a, b, xs, ys, ev, ht, h1, h2, hp⟩ => by
  subst ev
  exact ⟨t, _, rfl, .inl (.inl ht), rfl, .ref a, _, rfl, .ref b, _, rfl, rfl, k a b xs ys H1 e h1 h2 hp⟩
/-- comprehensions over range(a, b), and over enumerate -/
theorem el_lcR2 {ta : TA} {j : Nat} {vs : List Nat} {lo hi : Int} (f : Nat → Bool) (v : Nat → V) (h : EvA ta σ H [.int lo, .int hi]) (hn : 0 ≤ lo ∧ lo ≤ 40000 ∧ 0 ≤ hi ∧ hi ≤ 40000) (hw : ∀ x, wipe ((wipe σ vs).set j (some x)) vs = wipe σ vs)
    (ht : ∀ (i : Nat) H1, Ex H H1 → lo + (i : Int) < hi → EvT t ((wipe σ vs).set j (some (.int (lo + (i : Int))))) H1 (f i)) (he : ∀ (i : Nat) H1, Ex H H1 → lo + (i : Int) < hi → f i = true → Ev te ((wipe σ vs).set j (some (.int (lo + (i : Int))))) H1 (v i)) :
    EvL (tLc (iRng2 ta) (gName j) t te vs) σ H (given (hi - lo).toNat f v) := fun H0 e Q q => h H0 e _ fun H1 e1 => ⟨lo, hi, rfl, ⟨by omega, by omega, by omega, by omega⟩, fun Dl hD =>
  lc_range (lo := lo) (n := (hi - lo).toNat) (Cw H1 f v Dl) ⟨hD, Ex.new hD, upd_same⟩ (fun i H' hi p =>
    ⟨hw _, cw_turn p (by omega) (ht i H1 (e.trans e1) (by omega)) (fun hf => he i H1 (e.trans e1) (by omega) hf)⟩) (fun H' p => q Dl H' (fresh_back e1 p.1) (e1.trans p.2.1) p.2.2)⟩
theorem el_lcEnum {a : Addr} {xs : List V} {ta : TA} {n1 n2 : Nat} {vs : List Nat} (v : Nat → V) (h : EvA ta σ H [.ref a]) (hx : SqL K H a xs) (hz : xs.length ≤ 40000) (hw : ∀ x y, wipe (((wipe σ vs).set n1 (some x)).set n2 (some y)) vs = wipe σ vs)
    (he : ∀ (i : Nat) (x : V) H1, Ex H H1 → xs[i]? = some x → Ev te (((wipe σ vs).set n1 (some (.int (i : Int)))).set n2 (some x)) H1 (v i)) :
    EvL (tLc (iEnum K ta) (gTup K 2 (gCons (gName n1) (gCons (gName n2) gNil))) tYes te vs) σ H ((List.range xs.length).map v) := fun H0 e Q q => h H0 e _ fun H1 e1 => by
  refine ⟨a, xs, rfl, ex_l (e.trans e1) hx, fun Dl hD => ⟨fun i m H' => m = xs.length - i ∧ i ≤ xs.length ∧ Ex H1 H' ∧ H' Dl = some (.lst ((List.range i).map v)), ⟨xs.length, by simp, Nat.zero_le _, Ex.new hD, upd_same⟩, fun i m H' hW => ?_⟩⟩
  obtain ⟨rfl, hi, e2, hd⟩ := hW
  have hq := ex_l ((e.trans e1).trans e2) hx
  by_cases hlt : i < xs.length
  · refine .inr ⟨⟨xs, _, hq, List.getElem?_eq_getElem hlt⟩, fun H2 => Ex H1 H2 ∧ H2 Dl = some (.lst ((List.range (i + 1)).map v)), fun H2 hN => ⟨xs.length - (i + 1), by omega, rfl, by omega, hN⟩, fun w H2 hy => ?_⟩
    obtain ⟨T, x, rfl, hT, rfl, hxx⟩ := hy
    have hxi := hxx xs hq
    refine ⟨T, [.int (i : Int), x], rfl, .inl (.inl upd_same), rfl, .int (i : Int), [x], rfl, x, [], rfl, rfl, hw _ _, ?_⟩
    refine he i x _ (((e.trans e1).trans e2).trans (Ex.new hT)) hxi _ (Ex.refl _) _ fun H3 e3 => ?_
    refine ⟨(List.range i).map v, e3 _ _ ((Ex.new hT) _ _ hd), sz_lt (by rw [List.length_map, List.length_range]; omega), Ex.mut ((e2.trans (Ex.new hT)).trans e3) hD, ?_⟩
    rw [upd_same, List.range_succ, List.map_append]
    rfl
  · have e5 : i = xs.length := by omega
    subst e5
    exact .inl ⟨⟨xs, hq, Nat.le_refl _⟩, q Dl H' (fresh_back e1 hD) (e1.trans e2) hd⟩
end
/-! ### sizes -/
theorem mulx {i j : Int} {a b : Nat} (ha : i.natAbs < 2 ^ a) (hb : j.natAbs < 2 ^ b) (h : a + b ≤ 134217728) : CMulX i j := mulx_ok ha hb h
theorem div_small {i j : Int} (h : 0 < j) (hb : j < 2 ^ 200) : CDivW i j := wide_div (b := 200) h (by omega) (by decide) (by decide)
theorem cut_take (ns : List Int) (k : Nat) : cutV (ns.map V.int) none (some (k : Int)) = (ns.take k).map V.int := by
  unfold cutV
  rw [HT.sIx_none, show HT.sIx (ns.map V.int).length (ns.map V.int).length (some (k : Int)) = min k (ns.map V.int).length from HT.sIx_nat (ns.map V.int).length _ k]
  rw [List.drop_zero, Nat.sub_zero, ← List.map_take]
  congr 1
  rw [List.length_map, List.take_eq_take_iff]
  omega
section
variable {K : PySem.W.Frag} {σ : L2.St} {H : Hp} {te tb : TE} {a : Addr} {ns : List Int} {i : Int} {k : Nat}
theorem el_take (h : Ev te σ H (.ref a)) (h2 : Ev tb σ H (.int i)) (hs : SqL K H a (ns.map V.int)) (hi : i = (k : Int)) : EvL (tSl (rSlL K) te tNoPart (tPart tb)) σ H ((ns.take k).map V.int) := by
  subst hi
  rw [← cut_take]
  exact el_sl h eo_none (eo_some h2) hs
theorem el_drop (h : Ev te σ H (.ref a)) (h2 : Ev tb σ H (.int i)) (hs : SqL K H a (ns.map V.int)) (hi : i = (k : Int)) : EvL (tSl (rSlL K) te (tPart tb) tNoPart) σ H ((ns.drop k).map V.int) := by
  subst hi
  rw [← cut_drop]
  exact el_sl h (eo_some h2) eo_none hs
end
section
variable {K : PySem.W.Frag} {σ : L2.St} {H : Hp} {te tb : TE} {a : Addr} {ns : List Int} {i : Int} {k : Nat}
theorem el_slN {xs : List V} {tl th : TO} {lo hi : Option Int} (h : EvL te σ H xs) (h1 : EvO tl σ H lo) (h2 : EvO th σ H hi) : EvL (tSl (rSlL K) te tl th) σ H (cutV xs lo hi) := fun H1 e _ q =>
  h H1 e _ fun a H2 _ e2 hx => h1 H2 (e.trans e2) _ fun H3 e3 => h2 H3 ((e.trans e2).trans e3) _ fun H4 e4 =>
    ⟨a, xs, rfl, ex_l (e3.trans e4) (sq_of hx), fun p hp => q p _ (fresh_back ((e2.trans e3).trans e4) hp) (((e2.trans e3).trans e4).trans (Ex.new hp)) upd_same⟩
theorem el_dropN (h : EvL te σ H (ns.map V.int)) (h2 : Ev tb σ H (.int i)) (hi : i = (k : Int)) : EvL (tSl (rSlL K) te (tPart tb) tNoPart) σ H ((ns.drop k).map V.int) := by
  subst hi
  rw [← cut_drop]
  exact el_slN h (eo_some h2) eo_none
end

/-! ### == of lists of ints -/
def dI (ns : List Int) : PyData := .list (ns.map PyData.int)
theorem canLay_ints : ∀ ns : List Int, PyData.canLayAll0 (ns.map PyData.int) = true
  | [] => by simp [PyData.canLayAll0]
  | n :: r => by simp [PyData.canLayAll0, PyData.canLay0, canLay_ints r]
theorem depth_ints : ∀ ns : List Int, PyData.depthAll (ns.map PyData.int) = 0
  | [] => by simp [PyData.depthAll]
  | n :: r => by simp [PyData.depthAll, PyData.depth, depth_ints r]
theorem shaped_dI (ns : List Int) : SeqAt.shaped (dI ns) = true := by
  unfold SeqAt.shaped dI
  simp [PyData.canLay0, PyData.depth, canLay_ints, depth_ints]
theorem eqvAll_ints : ∀ ns ms : List Int, PyData.eqvAll (ns.map PyData.int) (ms.map PyData.int) = decide (ns = ms)
  | [], [] => by simp [PyData.eqvAll]
  | [], m :: s => by simp [PyData.eqvAll]
  | n :: r, [] => by simp [PyData.eqvAll]
  | n :: r, m :: s => by
    simp only [List.map_cons, PyData.eqvAll, PyData.eqv, eqvAll_ints r s]
    by_cases h : n = m
    · subst h
      simp
    · simp [h]
theorem eqv_dI (ns ms : List Int) : PyData.eqv (dI ns) (dI ms) = decide (ns = ms) := by
  unfold dI
  simp [PyData.eqv, eqvAll_ints]
theorem dpAll_ints {K : PySem.W.Frag} {H : Hp} : ∀ ns : List Int, DpAll K H (ns.map V.int) (ns.map PyData.int)
  | [] => .nil
  | n :: r => .cons (.int n) (dpAll_ints r)
theorem dp_I {K : PySem.W.Frag} {H : Hp} {a : Addr} {ns : List Int} (h : SqL K H a (ns.map V.int)) : Dp K H (.ref a) (dI ns) := .lst h (dpAll_ints ns)
section
variable {K : PySem.W.Frag} {σ : L2.St} {H H' : Hp} {ta tb te tx : TE} {t u : TT} {x y z v : V} {r : R2} {D : Ends} {tu tw tz : TS}
theorem evp_op {r : R2} {P1 P2 : V → Hp → Prop} (ha : EvP ta σ H P1) (hb : EvP tb σ H P2) (st : Stable P1) (hr : ∀ v w H1, Ex H H1 → P1 v H1 → P2 w H1 → RV r v w H1 z) : Ev (tOp r ta tb) σ H z := fun H1 e Q q =>
  ha H1 e _ fun v H2 e2 hv => hb H2 (e.trans e2) _ fun w H3 e3 hw => hr v w H3 ((e.trans e2).trans e3) (st _ _ _ e3 hv) hw H3 (Ex.refl H3) Q fun H4 e4 => q H4 ((e2.trans e3).trans e4)
theorem ev_eqD {ns ms : List Int} (ha : EvP ta σ H (IsL (ns.map V.int))) (hb : EvP tb σ H (IsL (ms.map V.int))) : Ev (tOp (rEqD K) ta tb) σ H (.bl (decide (ns = ms))) :=
  evp_op ha hb st_L fun v w H1 e1 ⟨a, ea, h1⟩ ⟨b, eb, h2⟩ H2 e2 Q q => ⟨dI ns, dI ms, by rw [ea]; exact dp_I (sq_of (e2 _ _ h1)), by rw [eb]; exact dp_I (sq_of (e2 _ _ h2)), shaped_dI ns, shaped_dI ms, by rw [eqv_dI]; exact q H2 (Ex.refl H2)⟩
theorem ev_neD {ns ms : List Int} (ha : EvP ta σ H (IsL (ns.map V.int))) (hb : EvP tb σ H (IsL (ms.map V.int))) : Ev (tOp (rNeD K) ta tb) σ H (.bl (!decide (ns = ms))) :=
  evp_op ha hb st_L fun v w H1 e1 ⟨a, ea, h1⟩ ⟨b, eb, h2⟩ H2 e2 Q q => ⟨dI ns, dI ms, by rw [ea]; exact dp_I (sq_of (e2 _ _ h1)), by rw [eb]; exact dp_I (sq_of (e2 _ _ h2)), shaped_dI ns, shaped_dI ms, by rw [eqv_dI]; exact q H2 (Ex.refl H2)⟩
theorem evp_nil {P : List Int} : EvP (tLst tNil) σ H (IsL (([] : List Int).map V.int)) := evp_l (el_lst ea_nil (by simp))
theorem evp_lf {xs : List V} (h : EvL te σ H xs) : EvP te σ H (fun v H2 => ∃ p, v = .ref p ∧ H p = none ∧ H2 p = some (.lst xs)) := fun H1 e Q q => h H1 e _ fun p H2 hp e2 h2 => q _ H2 e2 ⟨p, rfl, fresh_back e hp, h2⟩
/-- an if behind which a word holds -/
theorem q_whenM {Mid : L2.St → Hp → Prop} {b : Bool} (k : ∀ σ' H', Mid σ' H' → tz D σ' H') (h : EvT t σ H b) (h1 : b = true → (∀ σ' H', Mid σ' H' → tz D σ' H') → ∀ H1, Ex H H1 → tu { D with nx := tz D } σ H1) (h2 : b = false → ∀ H1, Ex H H1 → Mid σ H1) : tSeq (tIfS t tu tNext) tz D σ H :=
  q_when h (fun hb H1 e1 => h1 hb k H1 e1) (fun hb H1 e1 => k _ _ (h2 hb H1 e1))
theorem s_whenM {Mid : L2.St → Hp → Prop} {b : Bool} (k : ∀ σ' H', Mid σ' H' → D.nx σ' H') (h : EvT t σ H b) (h1 : b = true → (∀ σ' H', Mid σ' H' → D.nx σ' H') → ∀ H1, Ex H H1 → tu D σ H1) (h2 : b = false → ∀ H1, Ex H H1 → Mid σ H1) : tIfS t tu tNext D σ H :=
  s_when h (fun hb H1 e1 => h1 hb k H1 e1) (fun hb H1 e1 => k _ _ (h2 hb H1 e1))
/-- the last item -/
theorem ev_last {p : Addr} {ns : List Int} (ha : Ev ta σ H (.ref p)) (h : SqL K H p (ns.map V.int)) (hn : ns ≠ []) : Ev (tOp (rIxL K) ta (tUn uNeg (tC (.int 1)))) σ H (.int (ns.getD (ns.length - 1) 0)) := by
  refine ev_op ha (ev_neg ev_c) (rv_ixL h ?_)
  have hl : 0 < ns.length := List.length_pos_iff.mpr hn
  have e : ns.map V.int = ns.dropLast.map V.int ++ [.int (ns.getD (ns.length - 1) 0)] := by
    conv => lhs; rw [← List.dropLast_concat_getLast hn]
    rw [List.map_append, List.getLast_eq_getElem, List.getD_eq_getElem?_getD, List.getElem?_eq_getElem (by omega)]
    rfl
  rw [e]
  exact atI_last _ _
end
/-! // by any number but nought, below 2 ^ 9000 in size -/
section
variable {X : Cx}
def CDivG (_ j : Int) : Prop := j ≠ 0 ∧ j.natAbs.log2 < 9000
abbrev oModN : R2 := rI (fun _ j => j ≠ 0) fun i j => .int (i.fmod j)
abbrev oDivN : R2 := rI CDivG fun i j => .int (i.fdiv j)
theorem op_fdivWN : OpR X (binaryOp .FloorDiv) oDivN := opI fun i j _ _ _ _ _ hc q => floordiv_int hc.1 q (.inl (PyProof.noPylong_of_log2 hc.2))
end

/-! ### own errors: their classes by name, raising, catching -/
structure Cs where
  (PolyError NoNumber NoPower ByNought NotWhole NoMeet NoParts NotWritten tab : Addr)
/-- what the written part says of an own error's class at C -/
structure ExK (K : PySem.W.Frag) (C : Addr) : Prop where
  b : PySem.W.subIn K (.ref C) (.type "BaseException") = some true
  t : PySem.W.typeIn K (.ref C) = some (.type "type")
  c : ExcC K C
  v : PySem.W.kitOne K (.ref C) (.type "ValueError") = some true
theorem kit_sub {K : PySem.W.Frag} {D : Addr} {b : Bool} (h : PySem.W.subIn K (.ref D) (.type "ValueError") = some b) : PySem.W.kitOne K (.ref D) (.type "ValueError") = some b := by
  have e1 : ((Value.ref D) == Value.type "ValueError") = false := by
    rw [beq_eq_false_iff_ne]
    exact fun z => by cases z
  have e2 : PySem.W.kitMeta "ValueError" = true := by decide +kernel
  show (if ((Value.ref D) == Value.type "ValueError") = true then some true else if PySem.W.kitMeta "ValueError" = true then PySem.W.subIn K (.ref D) (.type "ValueError") else none) = some b
  rw [e1, if_neg Bool.false_ne_true, if_pos e2]
  exact h
/-- the classes at l, each below the one at p, and none below another -/
structure Tx (K : PySem.W.Frag) (p : Addr) (l : List Addr) : Prop where
  base : ExK K p
  cls : ∀ c ∈ l, ExK K c ∧ PySem.W.subIn K (.ref c) (.ref p) = some true ∧ PySem.W.subIn K (.ref c) (.ref c) = some true
  nd : l.Pairwise fun c d => PySem.W.subIn K (.ref c) (.ref d) = some false ∧ PySem.W.subIn K (.ref d) (.ref c) = some false
section
variable {K : PySem.W.Frag} {p : Addr} {l : List Addr} {c d : Addr}
theorem ExK.exm (x : ExK K d) {b : Bool} (h : PySem.W.subIn K (.ref c) (.ref d) = some b) : PySem.W.exmOne K (.ref c) (.ref d) = some b := PySem.W.exm_ref x.b x.c.hd x.t h
theorem Tx.self (T : Tx K p l) (h : c ∈ l) : PySem.W.exmOne K (.ref c) (.ref c) = some true := (T.cls c h).1.exm (T.cls c h).2.2
theorem Tx.up (T : Tx K p l) (h : c ∈ l) : PySem.W.exmOne K (.ref c) (.ref p) = some true := T.base.exm (T.cls c h).2.1
end
/-- a def that may raise, called by its name -/
structure ClX (P : Program) (w : World) (K : PySem.W.Frag) (mg : Str → Option Value) (base : Heap) (k : Nat) (x : Str) (sp : Sp) : Prop where
  ex : ∃ (f : Addr) (fd : FuncData) (ps : List Str), FnOk P w K mg base (L2.CX P w) k f fd ps sp ∧ mg x = some (.ref f) ∧ PySem.W.keepIn K (.ref f) = true ∧ Binds K fd ps []
/-- an own error's class, raised here -/
structure RsX (K : PySem.W.Frag) (mg : Str → Option Value) (x : Str) (C : Addr) : Prop where
  g : mg x = some (.ref C)
  q : PySem.W.excIn K C [.type "ValueError", .type "Exception", .type "BaseException", .type "object"] "ValueError.__new__" = true
  k : PySem.W.keepIn K (.ref C) = true
  b : PySem.W.subIn K (.ref C) (.type "BaseException") = some true
  t : PySem.W.typeIn K (.ref C) = some (.type "type")
def tRaiseC (C : Addr) (W : WX) : TS := fun _ σ H => W (.ref C) none σ H
/-- raise X(e), X of one argument -/
def tRaise1 (C : Addr) (W : WX) (te : TE) : TS := fun _ σ H => te σ H fun _ H1 => W (.ref C) none σ H1
def tTryO (K : PySem.W.Frag) (c : Value) (tb : WX → TS) (ts : Addr → Value → Option Addr → TS) (Wout : WX) : TS := fun D σ H => tb (wOnly K c ts Wout D) D σ H
def tTryA (K : PySem.W.Frag) (c : Value) (i : Nat) (tb : WX → TS) (ts : Addr → Value → Option Addr → TS) (Wout : WX) : TS := fun D σ H => tb (wAs K c i ts Wout D) D σ H
def tTryM (K : PySem.W.Frag) (l : List (Value × (Addr → Value → Option Addr → TS))) (tb : WX → TS) (Wout : WX) : TS := fun D σ H => tb (wMany K Wout D l) D σ H
/-- isinstance(e, U), e the exception that the suite holds at a -/
def tIsE (K : PySem.W.Frag) (a : Addr) (cls : Value) (d : Option Addr) (te : TE) (U : String) : TE := fun σ H Q => ∃ D, cls = .ref D ∧ d = none ∧ ExcC K D ∧ tCB (rIsE K D a) (tCons te (tCons (tC (.ty U)) tNil)) σ H Q
theorem ev_isE {K : PySem.W.Frag} {a D : Addr} {te : TE} {U : String} {σ : L2.St} {H : Hp} {b : Bool} (h : Ev te σ H (.ref a)) (hC : ExcC K D) (hk : PySem.W.kitOne K (.ref D) (.type U) = some b) : Ev (tIsE K a (.ref D) none te U) σ H (.bl b) := fun H1 e Q q =>
  ⟨D, rfl, rfl, hC, h H1 e _ fun H2 e2 => ⟨.ty U, .type U, b, rfl, fun u r => r, hk, q H2 e2⟩⟩
abbrev wNone : WX := fun _ _ _ _ => False
abbrev wOf (E : XK) : WX := fun cls d _ H => E cls d H
section
variable {X : Cx} {k j : Nat} {x : Str} {sp : Sp} {p pos pos' p2 : Pos} {e : Expr} {es : List Expr} {t : TA} {C : Addr} {W : WX} {m : Str} {jj : Nat}
theorem pclX (c : ClX X.prog X.w X.K X.mg X.base k x sp) (hr : Room j X.A) (hk : k ≤ j) (hg : Gl X x) (ha : PA X (e :: es) t)
    (hdb : (x == ("__debug__" : Str)) = false := by decide) (he : starEach (e :: es) X.env = (false, eval e X.env) :: starEach es X.env := by rfl) (hpl : (backTo pos (starEach es X.env)).any (·.1) = false := by rfl) :
    PE X (.Call (.Name x p) (e :: es) [] pos) (tCall sp [] E0 t) := by
  obtain ⟨f, fd, ps, F, hm, kp, b⟩ := c.ex
  exact pe_call F (hr.mono hk) hg hm kp b .nil passL ha hdb he hpl
theorem pclS (c : ClX X.prog X.w X.K X.mg X.base k x sp) (tk : Takes X W) (hr : Room j X.A) (hk : k ≤ j) (hg : Gl X x) (ha : PA X (e :: es) t)
    (hdb : (x == ("__debug__" : Str)) = false := by decide) (he : starEach (e :: es) X.env = (false, eval e X.env) :: starEach es X.env := by rfl) (hpl : (backTo pos (starEach es X.env)).any (·.1) = false := by rfl) :
    PE X (.Call (.Name x p) (e :: es) [] pos) (tCallS sp (WE W) t) := by
  obtain ⟨f, fd, ps, F, hm, kp, b⟩ := c.ex
  exact pe_callS F (hr.mono hk) hg hm kp b (fun σ => passAt tk σ) ha hdb he hpl
theorem ps_raiseC (R : RsX X.K X.mg x C) (hc : X.calm = true) (tk : Takes X W) (hg : Gl X x) (hdb : (x == ("__debug__" : Str)) = false := by decide) : PS X (.Raise (some (.Call (.Name x p) [.Constant (.str m) jj p2] [] pos)) none pos') (tRaiseC C W) :=
  ps_raise hc tk (pmk_own PySem.F.excBase_ValueError R.q R.g R.k (raises_own R.b R.t) hg hdb)
theorem ps_raise1 {te : TE} (R : RsX X.K X.mg x C) (hc : X.calm = true) (tk : Takes X W) (hg : Gl X x) (he : PE X e te) (hs : starEach [e] X.env = (false, eval e X.env) :: starEach [] X.env := by rfl) (hdb : (x == ("__debug__" : Str)) = false := by decide) : PS X (.Raise (some (.Call (.Name x p) [e] [] pos)) none pos') (tRaise1 C W te) :=
  ps_raise hc tk (SkE.pmk_own1 PySem.F.excBase_ValueError R.q R.g R.k (raises_own R.b R.t) hg he hs hdb)
theorem pe_isE {a : Addr} {oe : Obj} {cls : Value} {d : Option Addr} {pn : List (Addr × Obj)} {te : TE} {n U : Str} {u : String} {pu pf pnn : Pos} (hz : Zc cls d oe) (hf : ∃ vs, oe.data = .fields vs) (he : PE (X.suite a ((a, oe) :: pn)) (.Name n pnn) te) (hg : Gl X "isinstance") (hm : X.mg "isinstance" = none) (hgU : Gl X U) (hmU : X.mg U = none) (hvU : bootBuiltins U = some (.type u)) (hnU : U ≠ "__name__" := by decide) (hdU : (U == ("__debug__" : Str)) = false := by decide) :
    PE (X.suite a ((a, oe) :: pn)) (.Call (.Name "isinstance" pf) [.Name n pnn, .Name U pu] [] pos) (tIsE X.K a cls d te u) := by
  refine ⟨fun pins s σ H Q I h => ?_⟩
  obtain ⟨D, rfl, rfl, hC, h⟩ := h
  have hu : PE (X.suite a ((a, oe) :: pn)) (.Name U pu) (tC (.ty u)) := pe_bltn hgU hmU hvU rfl hnU hdU
  exact (pe_callB (call_isE hC hz hf) hg hm (by decide +kernel) (pa_cons he (pa_cons hu pa_nil))).run pins s σ H Q I h
end

/-! ### odd, half, in a tuple of data, tuples of what holds -/
abbrev oOdd : R2 := fun x y H Q => ∃ n : Nat, x = .int (n : Int) ∧ y = .int 1 ∧ Q (.int ((n % 2 : Nat) : Int)) H
abbrev oHalf : R2 := fun x y H Q => ∃ n : Nat, x = .int (n : Int) ∧ y = .int 1 ∧ Q (.int ((n / 2 : Nat) : Int)) H
theorem units1 {k : Nat} {A : Around} (r : Room k A) : A.units + 65 < cLine := by
  have := r.un
  omega
def rInDT (K : PySem.W.Frag) : R2 := fun x y H Q => ∃ d ds, Dp K H x d ∧ Dp K H y (.tuple ds) ∧ SeqAt.shaped d = true ∧ SeqAt.shaped (.tuple ds) = true ∧ Q (.bl (ds.any fun z => PyData.eqv z d)) H
theorem op_inDT {X : Cx} (hu : X.A.units + 65 < cLine) : OpR X (compareOp .In) (rInDT X.K) := by
  intro pins s σ H x y v u Q I rx ry h
  obtain ⟨d, ds, hd, he, sd, se, q⟩ := h
  obtain ⟨as, r1⟩ := Dp.reads I d x v hd rx
  obtain ⟨bs, r2⟩ := Dp.reads I (.tuple ds) y u he ry
  exact SeqAt.in_tuple_reads r2 r1 (SeqAt.canLay_of_shaped se) (SeqAt.canLay_of_shaped sd) (room_in_shaped sd hu) ⟨.bl _, H, I, rfl, q⟩
def IsT (Ps : List (V → Hp → Prop)) : V → Hp → Prop := fun v H => ∃ t vs, v = .ref t ∧ H t = some (.tup vs) ∧ All2 Ps vs H
theorem All2.mono : ∀ {Ps : List (V → Hp → Prop)} {vs : List V} {H H' : Hp}, (∀ P ∈ Ps, Stable P) → Ex H H' → All2 Ps vs H → All2 Ps vs H'
  | [], [], _, _, _, _, _ => trivial
  | P :: Ps, v :: vs, _, _, st, e, h => ⟨st P List.mem_cons_self _ _ _ e h.1, All2.mono (fun Q hQ => st Q (List.mem_cons_of_mem _ hQ)) e h.2⟩
  | [], _ :: _, _, _, _, _, h => h.elim
  | _ :: _, [], _, _, _, _, h => h.elim
theorem All2.len : ∀ {Ps : List (V → Hp → Prop)} {vs : List V} {H : Hp}, All2 Ps vs H → vs.length = Ps.length
  | [], [], _, _ => rfl
  | P :: Ps, v :: vs, _, h => by
    have := All2.len h.2
    simp [this]
  | [], _ :: _, _, h => h.elim
  | _ :: _, [], _, h => h.elim
theorem st_T {Ps : List (V → Hp → Prop)} (st : ∀ P ∈ Ps, Stable P) : Stable (IsT Ps) := fun _ _ _ e ⟨t, vs, h1, h2, h3⟩ => ⟨t, vs, h1, e _ _ h2, h3.mono st e⟩
def dLs (xss : List (List Int)) : List PyData := xss.map dI
theorem canLay_dLs : ∀ xss : List (List Int), PyData.canLayAll0 (dLs xss) = true
  | [] => by simp [dLs, PyData.canLayAll0]
  | n :: r => by
    have := canLay_dLs r
    unfold dLs at this
    simp [dLs, PyData.canLayAll0, PyData.canLay0, dI, canLay_ints, this]
theorem depth_dLs : ∀ xss : List (List Int), PyData.depthAll (dLs xss) ≤ 1
  | [] => by simp [dLs, PyData.depthAll]
  | n :: r => by
    have := depth_dLs r
    unfold dLs at this
    simp [dLs, PyData.depthAll, PyData.depth, dI, depth_ints, this]
theorem shaped_tup (xss : List (List Int)) : SeqAt.shaped (.tuple (dLs xss)) = true := by
  unfold SeqAt.shaped
  have := depth_dLs xss
  simp [PyData.canLay0, PyData.depth, canLay_dLs]
  omega
theorem shaped_lst (xss : List (List Int)) : SeqAt.shaped (.list (dLs xss)) = true := by
  unfold SeqAt.shaped
  have := depth_dLs xss
  simp [PyData.canLay0, PyData.depth, canLay_dLs]
  omega
theorem any_dLs (ns : List Int) : ∀ xss : List (List Int), (dLs xss).any (fun z => PyData.eqv z (dI ns)) = decide (ns ∈ xss)
  | [] => by simp [dLs]
  | m :: r => by
    have := any_dLs ns r
    unfold dLs at this
    simp only [dLs, List.map_cons, List.any_cons, this, eqv_dI, List.mem_cons]
    by_cases h : m = ns
    · subst h
      simp
    · have h2 : ¬ ns = m := fun e => h e.symm
      simp [h, h2]
theorem dpAll_Ls {K : PySem.W.Frag} {H : Hp} : ∀ {xss : List (List Int)} {vs : List V}, All2 (xss.map fun xs => IsL (xs.map V.int)) vs H → DpAll K H vs (dLs xss)
  | [], [], _ => .nil
  | xs :: xss, v :: vs, h => by
    obtain ⟨⟨a, rfl, ha⟩, h2⟩ := h
    exact .cons (dp_I (sq_of ha)) (dpAll_Ls h2)
  | [], _ :: _, h => h.elim
  | _ :: _, [], h => h.elim
section
variable {K : PySem.W.Frag} {σ : L2.St} {H H' : Hp} {ta tb te tx : TE} {t u : TT} {x y z v : V} {r : R2} {D : Ends} {tu tw tz : TS}
theorem ev_odd {n : Nat} (h : Ev te σ H (.int (n : Int))) : Ev (tOp oOdd te (tC (.int 1))) σ H (.int ((n % 2 : Nat) : Int)) := fun H1 e Q q => h H1 e _ fun H2 e2 => ⟨n, rfl, rfl, q H2 e2⟩
theorem ev_half {n : Nat} (h : Ev te σ H (.int (n : Int))) : Ev (tOp oHalf te (tC (.int 1))) σ H (.int ((n / 2 : Nat) : Int)) := fun H1 e Q q => h H1 e _ fun H2 e2 => ⟨n, rfl, rfl, q H2 e2⟩
theorem evp_tup {tt : TA} {Ps : List (V → Hp → Prop)} (h : EvPs tt σ H Ps) (st : ∀ P ∈ Ps, Stable P) (hl : Ps.length ≤ 1000) : EvP (tTup tt) σ H (IsT Ps) := fun H1 e Q q =>
  h H1 e _ fun vs H2 e2 hvs => ⟨sz_of (by rw [hvs.len]; omega), fun p hp => q _ _ (e2.trans (Ex.new hp)) ⟨p, vs, rfl, upd_same, hvs.mono st (Ex.new hp)⟩⟩
theorem ev_inDT {ns : List Int} {xss : List (List Int)} (ha : EvP ta σ H (IsL (ns.map V.int))) (hb : EvP tb σ H (IsT (xss.map fun xs => IsL (xs.map V.int)))) : Ev (tOp (rInDT K) ta tb) σ H (.bl (decide (ns ∈ xss))) :=
  evp_op ha hb st_L fun v w H1 e1 ⟨a, ea, h1⟩ ⟨b, vs, eb, h2, h3⟩ H2 e2 Q q => ⟨dI ns, dLs xss, by rw [ea]; exact dp_I (sq_of (e2 _ _ h1)), by
    rw [eb]
    refine .tup (st_of (e2 _ _ h2)) (dpAll_Ls (h3.mono ?_ e2))
    intro P hP
    obtain ⟨xs, _, rfl⟩ := List.mem_map.mp hP
    exact st_L, shaped_dI ns, shaped_tup xss, by rw [any_dLs]; exact q H2 (Ex.refl H2)⟩
/-- statements in a try's body: a call that comes back, one that raises -/
theorem s_dropS {sp : Sp} {W : WX} {tt : TA} {vs : List V} (h : EvA tt σ H vs) (k : ∀ H1, Ex H H1 → sp vs H1 (fun _ H2 => D.nx σ H2) (fun cls d H2 => W cls d σ H2)) : tDrop (tCallS sp (WE W) tt) D σ H :=
  h H (Ex.refl H) _ fun H1 e1 => k H1 e1
end
section
variable {K : PySem.W.Frag} {σ : L2.St} {H : Hp} {D : Ends} {tz : TS} {c : Value} {tb : WX → TS} {ts : Addr → Value → Option Addr → TS} {Wout : WX} {i : Nat} {l : List (Value × (Addr → Value → Option Addr → TS))}
theorem q_tryO (h : tb (wOnly K c ts Wout { D with nx := tz D }) { D with nx := tz D } σ H) : tSeq (tTryO K c tb ts Wout) tz D σ H := h
theorem s_tryO (h : tb (wOnly K c ts Wout D) D σ H) : tTryO K c tb ts Wout D σ H := h
theorem q_tryA (h : tb (wAs K c i ts Wout { D with nx := tz D }) { D with nx := tz D } σ H) : tSeq (tTryA K c i tb ts Wout) tz D σ H := h
theorem s_tryA (h : tb (wAs K c i ts Wout D) D σ H) : tTryA K c i tb ts Wout D σ H := h
theorem q_tryM (h : tb (wMany K Wout { D with nx := tz D } l) { D with nx := tz D } σ H) : tSeq (tTryM K l tb Wout) tz D σ H := h
theorem s_tryM (h : tb (wMany K Wout D l) D σ H) : tTryM K l tb Wout D σ H := h
end
abbrev tJoin (ts : List TE) : TE := fun σ H Q => tJs ts Str.empty σ H fun out H1 => Q (.str out) H1
section
variable {K : PySem.W.Frag} {σ : L2.St} {H H' : Hp} {ta tb te tx : TE} {x y z v : V} {r : R2}
theorem evp_opP {P1 P2 P : V → Hp → Prop} (ha : EvP ta σ H P1) (hb : EvP tb σ H P2) (st : Stable P1) (hr : ∀ v w H1, Ex H H1 → P1 v H1 → P2 w H1 → ∀ Q : VK, (∀ z H2, Ex H1 H2 → P z H2 → Q z H2) → r v w H1 Q) : EvP (tOp r ta tb) σ H P := fun H1 e Q q =>
  ha H1 e _ fun v H2 e2 hv => hb H2 (e.trans e2) _ fun w H3 e3 hw => hr v w H3 ((e.trans e2).trans e3) (st _ _ _ e3 hv) hw Q fun z H4 e4 hz => q z H4 ((e2.trans e3).trans e4) hz
def IsS (Ps : List (V → Hp → Prop)) : V → Hp → Prop := fun v H => ∃ l vs, v = .ref l ∧ H l = some (.lst vs) ∧ All2 Ps vs H
theorem st_S {Ps : List (V → Hp → Prop)} (st : ∀ P ∈ Ps, Stable P) : Stable (IsS Ps) := fun _ _ _ e ⟨t, vs, h1, h2, h3⟩ => ⟨t, vs, h1, e _ _ h2, h3.mono st e⟩
theorem evp_lst {tt : TA} {Ps : List (V → Hp → Prop)} (h : EvPs tt σ H Ps) (st : ∀ P ∈ Ps, Stable P) (hl : Ps.length ≤ 1000) : EvP (tLst tt) σ H (IsS Ps) := fun H1 e Q q =>
  h H1 e _ fun vs H2 e2 hvs => ⟨sz_of (by rw [hvs.len]; omega), fun p hp => q _ _ (e2.trans (Ex.new hp)) ⟨p, vs, rfl, upd_same, hvs.mono st (Ex.new hp)⟩⟩
end
abbrev oIsN : R2 := fun x y H Q => y = .non ∧ Q (.bl (decide (x = .non))) H
section
variable {K : PySem.W.Frag} {σ : L2.St} {H H' : Hp} {ta tb te tx : TE} {x y z v : V} {r : R2}
theorem ev_isN (ha : Ev ta σ H v) : Ev (tOp oIsN ta (tC .non)) σ H (.bl (decide (v = .non))) := ev_op ha ev_c (rv_val fun H1 e Q q => ⟨rfl, q⟩)
theorem ev_eqS {s t : Str} (ha : Ev ta σ H (.str s)) (hb : Ev tb σ H (.str t)) : Ev (tOp rEq ta tb) σ H (.bl (decide (V.str s = V.str t))) := ev_op ha hb (rv_eq rfl)
theorem ev_neS {s t : Str} (ha : Ev ta σ H (.str s)) (hb : Ev tb σ H (.str t)) : Ev (tOp rNe ta tb) σ H (.bl (!decide (V.str s = V.str t))) := ev_op ha hb (rv_ne rfl)
/-- an item of a tuple -/
theorem ev_ixT {p : Addr} {xs : List V} {i : Int} {j : Nat} (ha : Ev ta σ H (.ref p)) (hb : Ev tb σ H (.int i)) (h : H p = some (.tup xs)) (hi : i = (j : Int)) (hj : xs[j]? = some v) : Ev (tOp (rIxT K) ta tb) σ H v := by
  subst hi
  exact ev_op ha hb (rv_ixT (st_of h) (atI_nat hj))
theorem ev_lenT {p : Addr} {xs : List V} (ha : Ev ta σ H (.ref p)) (h : SqT K H p xs) : Ev (tCB (rLenS K) (tCons ta tNil)) σ H (.int (xs.length : Int)) := fun H1 e Q q =>
  ha H1 e _ fun H2 e2 => ⟨p, xs, rfl, Or.inr (ex_t (e.trans e2) h), q H2 e2⟩
end
section
variable {σ : L2.St} {H : Hp} {D : Ends}
theorem s_dropSP {sp : Sp} {W : WX} {tt : TA} {Ps : List (V → Hp → Prop)} (h : EvPs tt σ H Ps) (k : ∀ vs H1, Ex H H1 → All2 Ps vs H1 → sp vs H1 (fun _ H2 => D.nx σ H2) (fun cls d H2 => W cls d σ H2)) : tDrop (tCallS sp (WE W) tt) D σ H :=
  h H (Ex.refl H) _ fun vs H1 e1 hv => k vs H1 e1 hv
end
section
variable {K : PySem.W.Frag} {σ : L2.St} {H H' : Hp} {ta tb te tx : TE} {x y z v : V}
/-- an item of a new list -/
theorem ev_ixN {i : Int} {j : Nat} {ns : List Int} (ha : EvL ta σ H (ns.map V.int)) (hb : Ev tb σ H (.int i)) (hi : i = (j : Int)) (hj : j < ns.length) : Ev (tOp (rIxL K) ta tb) σ H (.int (ns.getD j 0)) := fun H1 e Q q =>
  ha H1 e _ fun p H2 hp e2 h2 => hb H2 (e.trans e2) _ fun H3 e3 => by
    subst hi
    refine rv_ixL (K := K) (sq_of (e3 _ _ h2)) (atI_nat (v := .int (ns.getD j 0)) ?_) H3 (Ex.refl H3) Q fun H4 e4 => q H4 ((e2.trans e3).trans e4)
    rw [List.getElem?_map, List.getElem?_eq_getElem hj, List.getD_eq_getElem?_getD, List.getElem?_eq_getElem hj]
    rfl
end
end PP
/-! Big: whole division by numbers of any size, where Python's own way for large ones asks for frames -/
namespace PP
open PySem PySem.Spec PyProof.Rows L2 Evl
/-- what a heap and a program must say for that way -/
structure Sr (P : Program) (base : Heap) : Prop where
  seer : base.NoSeer
  tree : P.given.tree = none
abbrev oDivG : R2 := rI (fun _ j => j ≠ 0) fun i j => .int (i.fdiv j)
/-- the frame on top is a plain one of the program -/
def TopF (X : Cx) : Prop := ∃ (env : Env) (l : List Env), X.stack = env :: l ∧ env.scope.isGenerator = false ∧ env.scope.isCoroutine = false ∧ env.builtins = builtinsNs ∧ env.globals = mainGlobals
theorem op_fdivL {X : Cx} {k : Nat} (sr : Sr X.prog X.base) (r : Room k X.A) (hk : 32 ≤ k) (tf : TopF X) : OpR X (binaryOp .FloorDiv) oDivG := fun pins s σ H x y v u Q I rx ry h => by
  obtain ⟨i, j, rfl, rfl, hc, q⟩ := h
  obtain ⟨t1, rfl⟩ := rx
  obtain ⟨t2, rfl⟩ := ry
  obtain ⟨env, l, e1, e2, e3, e4, e5⟩ := tf
  have hd : X.A.depth + 100 < recursionLimit := by
    have := r.dp
    omega
  exact floordiv_int hc ⟨.int _, H, I.tok _, ⟨_, rfl⟩, q⟩ (.inr (PylongRoom.of I.nolimit hd (SeerAt.of (sr.seer.keeps I.bk) sr.tree (I.ok.frames.trans (congrArg some e1)) e2 e3 e4 e5)))
section
variable {s1 : Heap} {H : Hp}
theorem hid_one {a : Addr} {its : Array Value} {b : Addr} {o : Obj} (ha : s1.get? a = some ⟨.type "list", none, .seq its, #[]⟩) (hA : ∀ b, H b ≠ none → b = a) (e : s1.get? b = some o) (hne : o.cls ≠ .type "list") : (hidT s1 H).get? b = some o := by
  refine hidT_get e ?_
  cases q : H b with
  | none => rfl
  | some u =>
    have eb : b = a := hA b fun z => by
      rw [q] at z
      cases z
    rw [eb, ha] at e
    cases e
    exact absurd rfl hne
theorem hid_seer {a : Addr} {its : Array Value} (ha : s1.get? a = some ⟨.type "list", none, .seq its, #[]⟩) (hA : ∀ b, H b ≠ none → b = a) (hN : ∀ {b : Addr} {m : Str → Option Value}, s1.Ns b m → (hidT s1 H).Ns b m) (S : s1.NoSeer) : (hidT s1 H).NoSeer := by
  obtain ⟨⟨mc, c1, c2⟩, ⟨mm, m1, m2⟩, ⟨mb, b1, b2⟩, mg, bm, ob, g1, g2, g3, g4, g5⟩ := S
  exact ⟨⟨mc, hN c1, c2⟩, ⟨mm, hN m1, m2⟩, ⟨mb, hN b1, b2⟩, mg, bm, ob, hN g1, g2, hid_one ha hA g3 (by rw [g4]; decide), g4, g5⟩
end
/-- the law's own call, over a base of which that is known -/
theorem own_call {P : Program} {w : World} {K : PySem.W.Frag} {mg mb : Str → Option Value} {CX : CXT} {k : Nat} {fa a : Addr} {fd : FuncData} {x : Str} {sp : Sp} {s1 : Shared} {us : List Value} {ns : List Int}
    (SE : s1.heap.NoSeer) (KX : K.In s1.heap) (n1 : s1.heap.Ns mainGlobals mg) (n2 : s1.heap.Ns builtinsNs mb) (n3 : ∀ y : Str, y ≠ "__name__" → mb y = bootBuiltins y) (lim : s1.heap.NoLimit) (g0 : s1.gens = #[])
    (ha : s1.heap.get? a = some ⟨.type "list", none, .seq us.toArray, #[]⟩) (hi : IntsAre us ns) (hl : ns.length ≤ sizeLine) (hr : Room k callerA)
    (F : ∀ base : Heap, K.In base → base.Ns mainGlobals mg → base.NoSeer → FnOk P w K mg base CX k fa fd [x] sp) (hbind : ∀ (s : Shared) (u : Value), BindsTo s fd ⟨[u], []⟩ [(x, u)])
    (hsp : ∀ H : Hp, Only H → SqL K H a (ns.map V.int) → sp [.ref a] H (fun v _ => v = .bl true) fun _ _ _ => False) (hCX : ∀ H e s', CX [] H s1 (fun _ _ _ => False) e s' → False) :
    codeAny (model P w) callerA (.call (.ref fa) ⟨[.ref a], []⟩) (fun r s2 => r = .ok (.ret (.bool true)) ∧ OldK s1.heap s2.heap ∧ s2.os = s1.os ∧ AllBare s2.gens) s1 := by
  have vi := vals_ints hi
  have li := hi.length
  suffices core : ∀ H : Hp, Only H → SqL K H a (ns.map V.int) → HOk P w H s1.heap → (∀ b, H b ≠ none → b = a) → (H a ≠ none → K.lookup a = none) →
      codeAny (model P w) callerA (.call (.ref fa) ⟨[.ref a], []⟩) (fun r s2 => r = .ok (.ret (.bool true)) ∧ OldK s1.heap s2.heap ∧ s2.os = s1.os ∧ AllBare s2.gens) s1 by
    cases hk : K.lookup a with
    | some o =>
      have e := KX a o hk
      rw [ha] at e
      cases e
      exact core (fun _ => none) (fun _ => .inl rfl) (.inr ⟨_, us.toArray, _, hk, rfl, rfl, rfl, (by rw [List.size_toArray, li]; exact hl), by simpa using vi⟩) (fun b u z => nomatch (show (none : Option HO) = some u from z)) (fun b z => absurd rfl z) fun z => absurd rfl z
    | none =>
      let script : Obj := ⟨.type "list", none, .seq us.toArray, #[]⟩
      refine core (fun b => if b = a then some (.frz script (.lst (ns.map V.int))) else none) (fun b => ?_) (.inl (.inr ⟨script, if_pos rfl⟩)) (fun b u z => ?_) (fun b z => ?_) fun _ => hk
      · by_cases hb : b = a
        · exact .inr ⟨script, _, if_pos hb⟩
        · exact .inl (if_neg hb)
      · by_cases hb : b = a
        · cases (if_pos hb).symm.trans z
          rw [hb]
          exact ⟨ha, by rw [List.length_map]; exact hl, us, _, vi, ha⟩
        · cases (if_neg hb).symm.trans z
      · exact Decidable.by_contra fun hb => z (if_neg hb)
  intro H hO hS ok hA hK
  have none_of : ∀ {b : Addr}, b ≠ a → H b = none := fun {b} hb => Classical.byContradiction fun z => hb (hA b z)
  have nsd : ∀ {b : Addr} {m : Str → Option Value}, s1.heap.Ns b m → (hidT s1.heap H).Ns b m := fun {b m} h => by
    obtain ⟨o, es, ep, e, d, r⟩ := h
    refine ⟨o, es, ep, hidT_get e (Classical.byContradiction fun z => ?_), d, r⟩
    rw [hA b z, ha] at e
    cases e
    cases (show Data.seq us.toArray _ = Data.dict es ep from d)
  have kin : K.In (hidT s1.heap H) := fun b o e => hidT_get (KX b o e) (Classical.byContradiction fun z => by
    have eb := hA b z
    rw [eb] at z e
    rw [hK z] at e
    cases e)
  have lim2 : (hidT s1.heap H).NoLimit := by
    obtain ⟨mc, h1, h2⟩ := lim
    exact ⟨mc, nsd h1, h2⟩
  have env : Env0 P w K mg (hidT s1.heap H) callerA [] s1 H := ⟨rfl, ⟨kin, nsd n1, ⟨mb, nsd n2, n3⟩, lim2⟩, fun b o e => of_hidT e, Nat.le_of_eq (hidT_size _ _), trivial, fun b hb => absurd (show b ∈ ([] : List Addr) from hb) (by simp), ok, .of_eq g0⟩
  refine codeAny_mono ((F _ kin (nsd n1) (hid_seer ha hA nsd SE)).run callerA [] s1 H ⟨[.ref a], []⟩ [.ref a] [.ref a] _ _ hr env (hbind s1 (.ref a)) (.cons rfl .nil) (hsp H hO hS)) fun r s2 h => ?_
  match r, h with
  | .error e, h => exact (hCX H e s2 h).elim
  | .ok .next, h => exact False.elim h
  | .ok .brk, h => exact False.elim h
  | .ok .cont, h => exact False.elim h
  | .ok (.ret u), h =>
    obtain ⟨v, H2, os, bare, un, ok2, rv, q⟩ := h
    obtain rfl : v = .bl true := q
    obtain rfl : u = Value.bool true := rv
    refine ⟨rfl, OldK.of_keep fun b o e => ?_, os, bare⟩
    cases q : H b with
    | none => exact un.keep b o e q (fun z => absurd (show b ∈ ([] : List Addr) from z) (by simp)) (by simp)
    | some u =>
      rcases hO b with z | ⟨ob, xs, z⟩
      · rw [q] at z
        cases z
      · have z2 := un.frzs b ob _ z
        have e1 := (ok b _ z).1
        have e2 := (ok2 b _ z2).1
        rw [e] at e1
        cases e1
        exact e2
theorem walk_big {l : PySem.W.OpenLaw} {n k : Nat} {q : Program} {loose : List Str} {XP : (Str → Option Value) → Heap → Prop} {YP : World → Heap → Prop} {d : DefRec} {K : Params → PySem.W.Frag} {CX : World → CXT} {sp : World → Sp} {x : Str}
    (imp : importsNone q = true) (hn : l.most = some n) (hn2 : n ≤ sizeLine) (hdf : d.params.defaults = []) (hr : Room k callerA) (hY : ∀ (w : World) (h : Heap), YP w h → (K w.params).In h)
    (F : ∀ (w : World) (mg : Str → Option Value) (fa : Addr) (h : Heap), (K w.params).In h → h.Ns mainGlobals mg → mg d.name = some (.ref fa) →
      ∃ fd : FuncData, (∀ (s : Shared) (u : Value), BindsTo s fd ⟨[u], []⟩ [(x, u)]) ∧ ∀ base : Heap, (K w.params).In base → base.Ns mainGlobals mg → base.NoSeer → FnOk l.prog w (K w.params) mg base (CX w) k fa fd [x] (sp w))
    (hsp : ∀ (w : World) (H : Hp) (a : Addr) (ns : List Int), ns.length ≤ n → Only H → SqL (K w.params) H a (ns.map V.int) → sp w [.ref a] H (fun v _ => v = .bl true) fun _ _ _ => False)
    (hCX : ∀ (w : World) (H : Hp) (s : Shared) (e : Value) (s' : Shared), CX w [] H s (fun _ _ _ => False) e s' → False) : PySem.W.WalkO q loose XP YP l.row.toRowW d [] (fun f vs => PySem.call f vs) :=
  Att.attach_call hn hdf fun w s0 s1 mg mb fa o pm cd doc a us ns G Y ho hd hcd hmg hobj hints hlen hg => by
    obtain ⟨fd, hb, hF⟩ := F w mg fa _ (hY w _ Y) G.T.g hmg
    exact own_call (G.T.seer imp) (hY w _ Y) G.T.g G.T.b G.T.builtins G.T.nolimit hg hobj hints (Nat.le_trans hlen hn2) hr hF hb (fun H hO hS => hsp w H a ns hlen hO hS) fun H e s' => hCX w H s1 e s'
/-! gcd of three numbers -/
theorem args_gcd3 (x y z : Value) : argsOk "math.gcd" ⟨[x, y, z], []⟩ := by
  unfold argsOk
  kernel_rfl
theorem run_gcd3 (i j k : Int) (t1 t2 t3 : Tok) : Gives (Builtin.«math.gcd» ⟨[.int i t1, .int j t2, .int k t3], []⟩) (.int ((((Nat.gcd 0 i.natAbs).gcd j.natAbs).gcd k.natAbs : Nat) : Int)) := .of_wp fun _ _ _ s0 _ hq => by
  obtain ⟨h1, h2, h3, h4, h5⟩ := s0
  wp_walk
  exact ⟨_, rfl, hq⟩
def rGcd3 : List V → Hp → VK → Prop := fun vs H Q => ∃ i j k : Int, vs = [.int i, .int j, .int k] ∧ Q (.int ((Nat.gcd (Nat.gcd i.natAbs j.natAbs) k.natAbs : Nat) : Int)) H
theorem cr_gcd3 {X : Cx} : CallR X (.builtin "math.gcd") rGcd3 := fun pins s σ H vs us Q I r h => by
  obtain ⟨i, j, k, rfl, q⟩ := h
  obtain ⟨t1, t2, t3, rfl⟩ : ∃ t1 t2 t3, us = [.int i t1, .int j t2, .int k t3] := by
    cases r with
    | cons r1 r => cases r with
      | cons r2 r => cases r with
        | cons r3 r => cases r with
          | nil =>
            obtain ⟨t1, rfl⟩ := r1
            obtain ⟨t2, rfl⟩ := r2
            obtain ⟨t3, rfl⟩ := r3
            exact ⟨t1, t2, t3, rfl⟩
  have g := run_gcd3 i j k t1 t2 t3
  rw [Nat.gcd_zero_left] at g
  exact call_function_meets PySem.W.MGF.kind_gcd PySem.W.MGF.plain_gcd PySem.W.MGF.entry_gcd (args_gcd3 _ _ _) g.meets ⟨.int _, H, I.tok _, ⟨_, rfl⟩, q⟩
theorem ev_gcd3 {σ : L2.St} {H : Hp} {ta tb tc : TE} {i j k : Int} (ha : Ev ta σ H (.int i)) (hb : Ev tb σ H (.int j)) (hc : Ev tc σ H (.int k)) : Ev (tCB rGcd3 (tCons ta (tCons tb (tCons tc tNil)))) σ H (.int ((Nat.gcd (Nat.gcd i.natAbs j.natAbs) k.natAbs : Nat) : Int)) := fun H1 e Q q =>
  ha H1 e _ fun H2 e2 => hb H2 (e.trans e2) _ fun H3 e3 => hc H3 ((e.trans e2).trans e3) _ fun H4 e4 => ⟨i, j, k, rfl, q H4 ((e2.trans e3).trans e4)⟩
end PP
/-! Math: the plain functions that the defs compute, over lists of ints; no Python here. -/
namespace PP

/-- a row without the noughts at its end -/
def trimI : List Int → List Int
  | [] => []
  | x :: r => if trimI r = [] ∧ x = 0 then [] else x :: trimI r
theorem trim_take : ∀ (ns : List Int) (s : Nat), s ≤ ns.length → (∀ i, s ≤ i → i < ns.length → ns.getD i 0 = 0) → (s = 0 ∨ ns.getD (s - 1) 0 ≠ 0) → trimI ns = ns.take s
  | [], s, _, _, _ => by simp [trimI]
  | x :: r, 0, _, hz, _ => by
    have ih := trim_take r 0 (Nat.zero_le _) (fun i h1 h2 => by
      have := hz (i + 1) (by omega) (by simp; omega)
      simpa using this) (.inl rfl)
    have hx : x = 0 := by
      have := hz 0 (by omega) (by simp)
      simpa using this
    simp [trimI, ih, hx]
  | x :: r, k + 1, hs, hz, hn => by
    have hk : k ≤ r.length := by simpa using hs
    have h2 : k = 0 ∨ r.getD (k - 1) 0 ≠ 0 := by
      rcases k with _ | k
      · exact .inl rfl
      · right
        rcases hn with h | h
        · omega
        · simpa using h
    have ih := trim_take r k hk (fun i h1 h2 => by
      have := hz (i + 1) (by omega) (by simp; omega)
      simpa using this) h2
    have hne : ¬ (trimI r = [] ∧ x = 0) := by
      rintro ⟨e, hx⟩
      rcases k with _ | k
      · rcases hn with h | h
        · omega
        · simp at h
          exact h hx
      · rw [ih] at e
        have := congrArg List.length e
        rw [List.length_take, List.length_nil] at this
        omega
    show (if trimI r = [] ∧ x = 0 then [] else x :: trimI r) = _
    rw [if_neg hne, ih]
    rfl
theorem trim_len : ∀ ns : List Int, (trimI ns).length ≤ ns.length
  | [] => by simp [trimI]
  | x :: r => by
    have := trim_len r
    unfold trimI
    split
    · simp
    · simp
      omega
theorem trim_mem : ∀ (ns : List Int) (x : Int), x ∈ trimI ns → x ∈ ns
  | [], x, h => by simp [trimI] at h
  | y :: r, x, h => by
    unfold trimI at h
    split at h
    · simp at h
    · rcases List.mem_cons.mp h with h | h
      · exact h ▸ List.mem_cons_self
      · exact List.mem_cons_of_mem _ (trim_mem r x h)

theorem modN {i j : Int} (h : 0 < j) : i % j = ((i % j).toNat : Int) ∧ ((i % j).toNat : Int) < j := by
  have h1 : 0 ≤ i % j := Int.emod_nonneg _ (by omega)
  have h2 : i % j < j := Int.emod_lt_of_pos _ h
  omega
/-- the script's cell -/
def cellI (ns : List Int) (j : Nat) : Int := ns.getD j 0

/-- a number of a cell -/
def numI (c : Int) : Int := if c % 7 = 0 then 0 else if c % 7 = 1 then (1 - c / 7 % 2 * 2) * (c / 14 % 10 ^ 40) else c / 7 % 19 - 9
theorem num_lt (c : Int) : (numI c).natAbs < 2 ^ 133 := by
  unfold numI
  split
  · decide
  · split
    · rw [Int.natAbs_mul]
      have h1 : 0 ≤ c / 7 % 2 := Int.emod_nonneg _ (by decide)
      have h2 : c / 7 % 2 < 2 := Int.emod_lt_of_pos _ (by decide)
      have h3 : 0 ≤ c / 14 % 10 ^ 40 := Int.emod_nonneg _ (by decide)
      have h4 : c / 14 % 10 ^ 40 < 10 ^ 40 := Int.emod_lt_of_pos _ (by decide)
      have e1 : (1 - c / 7 % 2 * 2).natAbs = 1 := by omega
      rw [e1, Nat.one_mul]
      have : (10 : Int) ^ 40 < 2 ^ 133 := by decide
      omega
    · have h1 : 0 ≤ c / 7 % 19 := Int.emod_nonneg _ (by decide)
      have h2 : c / 7 % 19 < 19 := Int.emod_lt_of_pos _ (by decide)
      have : (2 : Nat) ^ 133 > 100 := by decide
      omega

/-- a drawn row -/
def drawnI (num : Int → Int) (ns : List Int) (place size many : Nat) : List Int :=
  trimI (if 0 < many then (List.range many).map fun (k : Nat) => num (cellI ns place + 97 * (k : Int) * (k : Int) + 13 * (k : Int)) else (List.range size).map fun (k : Nat) => num (cellI ns (place + k)))
theorem drawn_len (num : Int → Int) (ns : List Int) (place size many : Nat) : (drawnI num ns place size many).length ≤ max size many := by
  unfold drawnI
  refine Nat.le_trans (trim_len _) ?_
  split
  · rw [List.length_map, List.length_range]
    omega
  · rw [List.length_map, List.length_range]
    omega
theorem drawn_lt {num : Int → Int} {b : Nat} (hb : ∀ c, (num c).natAbs < b) (ns : List Int) (place size many : Nat) : ∀ x ∈ drawnI num ns place size many, x.natAbs < b := by
  intro x hx
  have h := trim_mem _ _ hx
  split at h
  · obtain ⟨k, _, e⟩ := List.mem_map.mp h
    rw [← e]
    exact hb _
  · obtain ⟨k, _, e⟩ := List.mem_map.mp h
    rw [← e]
    exact hb _

/-- what a row comes to at a place -/
def valI : List Int → Int → Int
  | [], _ => 0
  | x :: r, p => x + p * valI r p
theorem val_append (a b : List Int) (p : Int) : valI (a ++ b) p = valI a p + p ^ a.length * valI b p := by
  induction a with
  | nil => simp [valI]
  | cons x r ih =>
    simp only [List.cons_append, valI, ih, List.length_cons, Int.pow_succ]
    rw [Int.mul_add, ← Int.add_assoc, Int.mul_comm (p ^ r.length) p, Int.mul_assoc]
theorem val_lt {b c n : Nat} {p : Int} (hp : p.natAbs < 2 ^ c) : ∀ (ns : List Int), (∀ x ∈ ns, x.natAbs < 2 ^ b) → ns.length ≤ n → (valI ns p).natAbs < 2 ^ (b + n * (c + 1) + 1)
  | [], _, _ => by simp [valI]; exact Nat.two_pow_pos _
  | x :: r, h, hl => by
    rcases n with _ | n
    · simp at hl
    have ih := val_lt (n := n) hp r (fun y hy => h y (List.mem_cons_of_mem _ hy)) (by simpa using hl)
    have hx := h x List.mem_cons_self
    have h1 : (p * valI r p).natAbs < 2 ^ (c + (b + n * (c + 1) + 1)) := by
      rw [Int.natAbs_mul, Nat.pow_add]
      exact Nat.mul_lt_mul'' hp ih
    have h2 : b ≤ c + (b + n * (c + 1) + 1) := by omega
    have h3 : 2 ^ b ≤ 2 ^ (c + (b + n * (c + 1) + 1)) := Nat.pow_le_pow_right (by decide) h2
    have e : b + (n + 1) * (c + 1) + 1 = (c + (b + n * (c + 1) + 1)) + 1 := by rw [Nat.succ_mul]; omega
    show (x + p * valI r p).natAbs < _
    rw [e, Nat.pow_succ]
    have := Int.natAbs_add_le x (p * valI r p)
    omega
theorem pow_lt {c : Nat} {p : Int} (hp : p.natAbs < 2 ^ c) : ∀ k : Nat, (p ^ k).natAbs < 2 ^ (c * k + 1)
  | 0 => by simp
  | k + 1 => by
    have ih := pow_lt hp k
    rw [Int.pow_succ, Int.natAbs_mul, show c * (k + 1) + 1 = (c * k + 1) + c by rw [Nat.mul_succ]; omega, Nat.pow_add]
    exact Nat.mul_lt_mul'' ih hp

/-! ### sums, number by number -/
def zipI (f : Int → Int → Int) (ns ms : List Int) : List Int := (List.range (max ns.length ms.length)).map fun k => f (ns.getD k 0) (ms.getD k 0)
def plusI (ns ms : List Int) : List Int := trimI (zipI (· + ·) ns ms)
def minusI (ns ms : List Int) : List Int := trimI (zipI (· - ·) ns ms)
def scaledI (m : Int) (ns : List Int) : List Int := trimI (ns.map (m * ·))
theorem zip_len (f : Int → Int → Int) (ns ms : List Int) : (zipI f ns ms).length = max ns.length ms.length := by
  unfold zipI
  rw [List.length_map, List.length_range]
theorem plus_len (ns ms : List Int) : (plusI ns ms).length ≤ max ns.length ms.length := Nat.le_trans (trim_len _) (Nat.le_of_eq (zip_len _ _ _))
theorem minus_len (ns ms : List Int) : (minusI ns ms).length ≤ max ns.length ms.length := Nat.le_trans (trim_len _) (Nat.le_of_eq (zip_len _ _ _))
theorem scaled_len (m : Int) (ns : List Int) : (scaledI m ns).length ≤ ns.length := Nat.le_trans (trim_len _) (by rw [List.length_map]; exact Nat.le_refl _)
theorem max_if (i j : Nat) : (if (j : Int) > (i : Int) then (j : Int) else (i : Int)) = ((max i j : Nat) : Int) := by
  split <;> omega
end PP
/-! Ring: polynomials as rows of ints, by their coefficients; products, powers, sizes. -/
namespace PP
def cf (p : List Int) (k : Nat) : Int := p.getD k 0
@[simp] theorem cf_nil (k : Nat) : cf [] k = 0 := by simp [cf]
@[simp] theorem cf_zero (x : Int) (r : List Int) : cf (x :: r) 0 = x := by simp [cf]
@[simp] theorem cf_succ (x : Int) (r : List Int) (k : Nat) : cf (x :: r) (k + 1) = cf r k := by simp [cf]
theorem cf_ge {p : List Int} {k : Nat} (h : p.length ≤ k) : cf p k = 0 := by
  unfold cf
  rw [List.getD_eq_getElem?_getD, List.getElem?_eq_none h]
  rfl
theorem cf_lt {p : List Int} {k : Nat} (h : k < p.length) : cf p k = p[k] := by
  unfold cf
  rw [List.getD_eq_getElem?_getD, List.getElem?_eq_getElem h]
  rfl
theorem cf_trim : ∀ (p : List Int) (k : Nat), cf (trimI p) k = cf p k
  | [], k => rfl
  | x :: r, k => by
    have ih := cf_trim r
    unfold trimI
    split
    · rename_i h
      rcases k with _ | k
      · simp [h.2]
      · rw [cf_succ, ← ih k, h.1]
        simp
    · rcases k with _ | k
      · simp
      · rw [cf_succ, cf_succ, ih k]
theorem trim_ext : ∀ {p q : List Int}, (∀ k, cf p k = cf q k) → trimI p = trimI q
  | [], [], _ => rfl
  | [], y :: s, h => by
    have ih : trimI [] = trimI s := trim_ext fun k => by
      have := h (k + 1)
      simpa using this
    have hy : y = 0 := by
      have := h 0
      simpa using this.symm
    have : trimI s = [] := ih.symm
    simp [trimI, this, hy]
  | x :: r, [], h => by
    have ih : trimI r = trimI [] := trim_ext fun k => by
      have := h (k + 1)
      simpa using this
    have hx : x = 0 := by
      have := h 0
      simpa using this
    have : trimI r = [] := ih
    simp [trimI, this, hx]
  | x :: r, y :: s, h => by
    have ih : trimI r = trimI s := trim_ext fun k => by
      have := h (k + 1)
      simpa using this
    have hx : x = y := by
      have := h 0
      simpa using this
    unfold trimI
    rw [ih, hx]
theorem trim_idem (p : List Int) : trimI (trimI p) = trimI p := trim_ext (cf_trim p)
/-- a row without noughts at its end -/
def Nf (p : List Int) : Prop := trimI p = p
theorem nf_trim (p : List Int) : Nf (trimI p) := trim_idem p
theorem nf_ext {p q : List Int} (hp : Nf p) (hq : Nf q) (h : ∀ k, cf p k = cf q k) : p = q := by
  rw [← hp, ← hq]
  exact trim_ext h
theorem nf_nil : Nf [] := rfl
theorem nf_tail {x : Int} {r : List Int} (h : Nf (x :: r)) : Nf r := by
  unfold Nf trimI at h
  split at h
  · cases h
  · exact (List.cons.inj h).2
theorem nf_last : ∀ {p : List Int}, Nf p → p ≠ [] → cf p (p.length - 1) ≠ 0
  | [], _, h => (h rfl).elim
  | [x], h, _ => by
    unfold Nf at h
    simp [trimI] at h
    simpa using h
  | x :: y :: r, h, _ => by
    have := nf_last (nf_tail h) (by simp)
    simpa using this
theorem nf_of_last : ∀ {p : List Int}, (p = [] ∨ cf p (p.length - 1) ≠ 0) → Nf p
  | [], _ => rfl
  | [x], h => by
    rcases h with h | h
    · cases h
    · simp at h
      simp [Nf, trimI, h]
  | x :: y :: r, h => by
    rcases h with h | h
    · cases h
    · have ih : Nf (y :: r) := nf_of_last (.inr (by simpa using h))
      unfold Nf at ih ⊢
      unfold trimI
      rw [ih]
      simp

def addL : List Int → List Int → List Int
  | [], q => q
  | p, [] => p
  | x :: p, y :: q => (x + y) :: addL p q
theorem cf_addL : ∀ (p q : List Int) (k : Nat), cf (addL p q) k = cf p k + cf q k
  | [], q, k => by simp [addL]
  | x :: p, [], k => by simp [addL]
  | x :: p, y :: q, 0 => by simp [addL]
  | x :: p, y :: q, k + 1 => by simp [addL, cf_addL p q k]
theorem cf_map {c : Int} : ∀ (p : List Int) (k : Nat), cf (p.map (c * ·)) k = c * cf p k
  | [], k => by simp
  | x :: p, 0 => by simp
  | x :: p, k + 1 => by
    rw [List.map_cons, cf_succ, cf_succ]
    exact cf_map p k
def mulL : List Int → List Int → List Int
  | [], _ => []
  | x :: r, q => addL (q.map (x * ·)) (0 :: mulL r q)
theorem cf_mul_zero (x : Int) (r q : List Int) : cf (mulL (x :: r) q) 0 = x * cf q 0 := by
  show cf (addL _ _) 0 = _
  rw [cf_addL, cf_map, cf_zero, Int.add_zero]
theorem cf_mul_succ (x : Int) (r q : List Int) (k : Nat) : cf (mulL (x :: r) q) (k + 1) = x * cf q (k + 1) + cf (mulL r q) k := by
  show cf (addL _ _) (k + 1) = _
  rw [cf_addL, cf_map, cf_succ]
/-- the product hangs on the coefficients alone -/
theorem cf_mul_congr {q q' : List Int} (h : ∀ k, cf q k = cf q' k) : ∀ (p : List Int) (k : Nat), cf (mulL p q) k = cf (mulL p q') k
  | [], k => rfl
  | x :: r, 0 => by rw [cf_mul_zero, cf_mul_zero, h]
  | x :: r, k + 1 => by rw [cf_mul_succ, cf_mul_succ, h, cf_mul_congr h r k]
theorem cf_mul_nil : ∀ (p : List Int) (k : Nat), cf (mulL p []) k = 0
  | [], k => by simp [mulL]
  | x :: r, 0 => by rw [cf_mul_zero]; simp
  | x :: r, k + 1 => by rw [cf_mul_succ, cf_mul_nil r k]; simp
theorem cf_mul_cons0 (y : Int) (s : List Int) : ∀ (p : List Int), cf (mulL p (y :: s)) 0 = y * cf p 0
  | [] => by simp [mulL]
  | x :: r => by rw [cf_mul_zero, cf_zero, cf_zero, Int.mul_comm]
theorem cf_mul_cons (y : Int) (s : List Int) : ∀ (p : List Int) (k : Nat), cf (mulL p (y :: s)) (k + 1) = y * cf p (k + 1) + cf (mulL p s) k
  | [], k => by simp [mulL]
  | x :: r, 0 => by
    rw [cf_mul_succ, cf_succ, cf_succ, cf_mul_cons0, cf_mul_zero, Int.add_comm]
  | x :: r, k + 1 => by
    rw [cf_mul_succ, cf_succ, cf_succ, cf_mul_cons y s r k, cf_mul_succ]
    omega
theorem cf_mul_comm : ∀ (p q : List Int) (k : Nat), cf (mulL p q) k = cf (mulL q p) k
  | [], q, k => by rw [cf_mul_nil]; simp [mulL]
  | x :: r, q, 0 => by rw [cf_mul_zero, cf_mul_cons0]
  | x :: r, q, k + 1 => by rw [cf_mul_succ, cf_mul_cons, cf_mul_comm r q k]
theorem cf_mul_add (p q : List Int) : ∀ (s : List Int) (k : Nat), cf (mulL s (addL p q)) k = cf (mulL s p) k + cf (mulL s q) k
  | [], k => by simp [mulL]
  | x :: r, 0 => by rw [cf_mul_zero, cf_mul_zero, cf_mul_zero, cf_addL, Int.mul_add]
  | x :: r, k + 1 => by
    rw [cf_mul_succ, cf_mul_succ, cf_mul_succ, cf_addL, Int.mul_add, cf_mul_add p q r k]
    omega
theorem cf_mul_map (c : Int) (q : List Int) : ∀ (p : List Int) (k : Nat), cf (mulL p (q.map (c * ·))) k = c * cf (mulL p q) k
  | [], k => by simp [mulL]
  | x :: r, 0 => by
    rw [cf_mul_zero, cf_mul_zero, cf_map, Int.mul_left_comm]
  | x :: r, k + 1 => by
    rw [cf_mul_succ, cf_mul_succ, cf_map, cf_mul_map c q r k, Int.mul_add, Int.mul_left_comm]
theorem cf_mul_sh (q : List Int) : ∀ (p : List Int) (k : Nat), cf (mulL p (0 :: q)) k = cf (0 :: mulL p q) k
  | p, 0 => by rw [cf_mul_cons0]; simp
  | p, k + 1 => by rw [cf_mul_cons, cf_succ]; simp
theorem cf_mul_assoc (p q : List Int) : ∀ (s : List Int) (k : Nat), cf (mulL s (mulL p q)) k = cf (mulL (mulL s p) q) k
  | [], k => rfl
  | x :: r, k => by
    have e : ∀ k, cf (mulL (mulL (x :: r) p) q) k = cf (addL ((mulL p q).map (x * ·)) (0 :: mulL r (mulL p q))) k := fun k => by
      rw [cf_mul_comm]
      show cf (mulL q (addL (p.map (x * ·)) (0 :: mulL r p))) k = _
      rw [cf_mul_add, cf_mul_map, cf_mul_sh, cf_addL, cf_map, cf_mul_comm q p]
      congr 1
      rcases k with _ | k
      · simp
      · rw [cf_succ, cf_succ, cf_mul_comm q, ← cf_mul_assoc p q r k]
    rw [e]
    rfl
theorem mul_len : ∀ (p q : List Int), (mulL p q).length ≤ p.length + q.length
  | [], q => by simp [mulL]
  | x :: r, q => by
    have add_len : ∀ a b : List Int, (addL a b).length = max a.length b.length := by
      intro a
      induction a with
      | nil => intro b; simp [addL]
      | cons x a ih =>
        intro b
        cases b with
        | nil => simp [addL]
        | cons y b =>
          simp only [addL, List.length_cons, ih]
          omega
    have := mul_len r q
    show (addL _ _).length ≤ _
    rw [add_len, List.length_map, List.length_cons, List.length_cons]
    omega

/-- the product of two rows -/
def mulI (p q : List Int) : List Int := trimI (mulL p q)
theorem cf_mulI (p q : List Int) (k : Nat) : cf (mulI p q) k = cf (mulL p q) k := cf_trim _ _
theorem mulI_comm (p q : List Int) : mulI p q = mulI q p := trim_ext (cf_mul_comm p q)
theorem cf_mul_congrL {p p' : List Int} (h : ∀ k, cf p k = cf p' k) (q : List Int) (k : Nat) : cf (mulL p q) k = cf (mulL p' q) k := by
  rw [cf_mul_comm, cf_mul_comm p']
  exact cf_mul_congr h q k
theorem mulI_assoc (p q s : List Int) : mulI (mulI p q) s = mulI p (mulI q s) := trim_ext fun k => by
  rw [cf_mul_congrL (cf_mulI p q), cf_mul_congr (cf_mulI q s), cf_mul_assoc]
theorem mulI_one {p : List Int} (h : Nf p) : mulI p [1] = p := by
  refine nf_ext (nf_trim _) h fun k => ?_
  rw [cf_mulI, cf_mul_comm]
  show cf (addL _ _) k = _
  rw [cf_addL, cf_map, Int.one_mul]
  show cf p k + cf (0 :: []) k = _
  rcases k with _ | k <;> simp
theorem mulI_nil (p : List Int) : mulI p [] = [] := by
  refine nf_ext (nf_trim _) nf_nil fun k => ?_
  rw [cf_mulI, cf_mul_nil, cf_nil]
theorem nf_mulI (p q : List Int) : Nf (mulI p q) := nf_trim _
theorem mulI_len (p q : List Int) : (mulI p q).length ≤ p.length + q.length := Nat.le_trans (trim_len _) (mul_len p q)

/-- so many like ones -/
def powI (p : List Int) : Nat → List Int
  | 0 => [1]
  | n + 1 => mulI (powI p n) p
theorem nf_one : Nf [1] := by simp [Nf, trimI]
theorem nf_powI (p : List Int) : ∀ n, Nf (powI p n)
  | 0 => nf_one
  | _ + 1 => nf_mulI _ _
theorem powI_add (p : List Int) (m : Nat) : ∀ n, powI p (m + n) = mulI (powI p m) (powI p n)
  | 0 => (mulI_one (nf_powI p m)).symm
  | n + 1 => by
    show mulI (powI p (m + n)) p = mulI (powI p m) (mulI (powI p n) p)
    rw [powI_add p m n, mulI_assoc]
theorem powI_sq (p : List Int) : ∀ n, powI (mulI p p) n = powI p (2 * n)
  | 0 => rfl
  | n + 1 => by
    show mulI (powI (mulI p p) n) (mulI p p) = powI p (2 * n + 2)
    rw [powI_sq p n]
    show _ = mulI (mulI (powI p (2 * n)) p) p
    rw [mulI_assoc]

/-! ### sizes -/
def nrm (p : List Int) : Nat := (p.map Int.natAbs).sum
theorem nrm_cons (x : Int) (r : List Int) : nrm (x :: r) = x.natAbs + nrm r := by simp [nrm]
theorem mem_nrm : ∀ {p : List Int} {x : Int}, x ∈ p → x.natAbs ≤ nrm p
  | y :: r, x, h => by
    rw [nrm_cons]
    rcases List.mem_cons.mp h with h | h
    · rw [h]
      omega
    · have := mem_nrm h
      omega
theorem cf_nrm (p : List Int) (k : Nat) : (cf p k).natAbs ≤ nrm p := by
  by_cases h : k < p.length
  · rw [cf_lt h]
    exact mem_nrm (List.getElem_mem h)
  · rw [cf_ge (by omega)]
    simp
theorem nrm_trim : ∀ p : List Int, nrm (trimI p) ≤ nrm p
  | [] => Nat.le_refl _
  | x :: r => by
    have := nrm_trim r
    unfold trimI
    split
    · simp [nrm]
    · rw [nrm_cons, nrm_cons]
      omega
theorem nrm_add : ∀ p q : List Int, nrm (addL p q) ≤ nrm p + nrm q
  | [], q => by simp [addL, nrm]
  | x :: p, [] => by simp [addL, nrm]
  | x :: p, y :: q => by
    have := nrm_add p q
    have h := Int.natAbs_add_le x y
    show nrm ((x + y) :: addL p q) ≤ _
    rw [nrm_cons, nrm_cons, nrm_cons]
    omega
theorem nrm_map (c : Int) : ∀ p : List Int, nrm (p.map (c * ·)) = c.natAbs * nrm p
  | [] => by simp [nrm]
  | x :: p => by
    rw [List.map_cons, nrm_cons, nrm_cons, nrm_map c p, Int.natAbs_mul, Nat.mul_add]
theorem nrm_mul : ∀ p q : List Int, nrm (mulL p q) ≤ nrm p * nrm q
  | [], q => by simp [mulL, nrm]
  | x :: r, q => by
    have := nrm_mul r q
    show nrm (addL _ _) ≤ _
    refine Nat.le_trans (nrm_add _ _) ?_
    rw [nrm_map, nrm_cons, nrm_cons, Nat.add_mul]
    simp
    omega
theorem nrm_mulI (p q : List Int) : nrm (mulI p q) ≤ nrm p * nrm q := Nat.le_trans (nrm_trim _) (nrm_mul p q)
theorem nrm_powI {p : List Int} {b : Nat} (h : nrm p ≤ 2 ^ b) : ∀ n, nrm (powI p n) ≤ 2 ^ (b * n)
  | 0 => by simp [powI, nrm]
  | n + 1 => by
    refine Nat.le_trans (nrm_mulI _ _) ?_
    rw [Nat.mul_succ, Nat.pow_add]
    exact Nat.mul_le_mul (nrm_powI h n) h
theorem nrm_bound {b : Nat} : ∀ {p : List Int} {n : Nat}, (∀ x ∈ p, x.natAbs < 2 ^ b) → p.length ≤ 2 ^ n → nrm p ≤ 2 ^ (n + b)
  | p, n, h, hl => by
    have key : ∀ p : List Int, (∀ x ∈ p, x.natAbs < 2 ^ b) → nrm p ≤ p.length * 2 ^ b := by
      intro p
      induction p with
      | nil => intro _; simp [nrm]
      | cons x r ih =>
        intro h
        have h1 := ih fun y hy => h y (List.mem_cons_of_mem _ hy)
        have h2 := h x List.mem_cons_self
        rw [nrm_cons, List.length_cons, Nat.succ_mul]
        omega
    refine Nat.le_trans (key p h) ?_
    rw [Nat.pow_add]
    exact Nat.mul_le_mul_right _ hl
/-- taking one more of the first factor -/
theorem cf_mul_take (p q : List Int) : ∀ (i : Nat), i < p.length → ∀ k, cf (mulL (p.take (i + 1)) q) k = cf (mulL (p.take i) q) k + (if i ≤ k then cf p i * cf q (k - i) else 0) := by
  induction p with
  | nil => intro i h; simp at h
  | cons x r ih =>
    intro i hi k
    rcases i with _ | i
    · show cf (mulL [x] q) k = cf (mulL [] q) k + _
      rcases k with _ | k
      · rw [cf_mul_zero]
        simp [mulL]
      · rw [cf_mul_succ]
        simp [mulL]
    · rw [List.take_succ_cons, List.take_succ_cons]
      rcases k with _ | k
      · rw [cf_mul_zero, cf_mul_zero]
        simp
      · rw [cf_mul_succ, cf_mul_succ, ih i (by simpa using hi) k, cf_succ, Nat.add_sub_add_right]
        by_cases h : i ≤ k
        · rw [if_pos h, if_pos (by omega)]
          omega
        · rw [if_neg h, if_neg (by omega)]
          omega
/-- products of rows that are not nought have no nought ahead -/
theorem cf_mul_top : ∀ (p q : List Int), p ≠ [] → q ≠ [] → cf (mulL p q) (p.length - 1 + (q.length - 1)) = cf p (p.length - 1) * cf q (q.length - 1)
  | [x], q, _, hq => by
    rcases q with _ | ⟨y, s⟩
    · exact (hq rfl).elim
    · show cf (addL _ (0 :: [])) _ = _
      rw [cf_addL, cf_map]
      simp only [List.length_cons, List.length_nil, Nat.zero_add, Nat.sub_self, Nat.add_sub_cancel, cf_zero]
      rcases s.length with _ | k <;> simp
  | x :: y :: r, q, _, hq => by
    have ih := cf_mul_top (y :: r) q (by simp) hq
    have e : (x :: y :: r).length - 1 + (q.length - 1) = ((y :: r).length - 1 + (q.length - 1)) + 1 := by simp; omega
    rw [e, cf_mul_succ, ih]
    have h0 : cf q ((y :: r).length - 1 + (q.length - 1) + 1) = 0 := cf_ge (by simp; omega)
    rw [h0, Int.mul_zero, Int.zero_add]
    simp
theorem cf_set (p : List Int) (i : Nat) (v : Int) (hi : i < p.length) (k : Nat) : cf (p.set i v) k = if k = i then v else cf p k := by
  unfold cf
  rw [List.getD_eq_getElem?_getD, List.getElem?_set, List.getD_eq_getElem?_getD]
  by_cases h : i = k
  · subst h
    rw [if_pos rfl, if_pos hi, if_pos rfl]
    rfl
  · rw [if_neg h, if_neg (fun e => h e.symm)]
theorem cf_rep (n k : Nat) : cf (List.replicate n 0) k = 0 := by
  unfold cf
  rw [List.getD_eq_getElem?_getD, List.getElem?_replicate]
  split <;> rfl
/-- one step of the inner loop -/
theorem mul_step {p q tot : List Int} {i j : Nat} (hi : i < p.length) (hj : j < q.length) (hl : i + j < tot.length)
    (h : ∀ k, cf tot k = cf (mulL (p.take i) q) k + (if i ≤ k ∧ k < i + j then cf p i * cf q (k - i) else 0)) :
    ∀ k, cf (tot.set (i + j) (tot.getD (i + j) 0 + cf p i * cf q j)) k = cf (mulL (p.take i) q) k + (if i ≤ k ∧ k < i + (j + 1) then cf p i * cf q (k - i) else 0) := by
  intro k
  rw [cf_set _ _ _ hl]
  by_cases e : k = i + j
  · subst e
    rw [if_pos rfl, if_pos (by omega)]
    have := h (i + j)
    rw [if_neg (by omega)] at this
    show cf tot (i + j) + _ = _
    rw [this, Nat.add_sub_cancel_left]
    omega
  · rw [if_neg e, h k]
    congr 1
    by_cases c : i ≤ k ∧ k < i + j
    · rw [if_pos c, if_pos (by omega)]
    · rw [if_neg c, if_neg (by omega)]
/-- the inner loop's end -/
theorem mul_row {p q tot : List Int} {i : Nat} (hi : i < p.length)
    (h : ∀ k, cf tot k = cf (mulL (p.take i) q) k + (if i ≤ k ∧ k < i + q.length then cf p i * cf q (k - i) else 0)) : ∀ k, cf tot k = cf (mulL (p.take (i + 1)) q) k := by
  intro k
  rw [h k, cf_mul_take p q i hi]
  congr 1
  by_cases c : i ≤ k
  · rw [if_pos c]
    by_cases d : k < i + q.length
    · rw [if_pos ⟨c, d⟩]
    · rw [if_neg (by omega), cf_ge (p := q) (k := k - i) (by omega), Int.mul_zero]
  · rw [if_neg c, if_neg (by omega)]
theorem tot_mul {p q tot : List Int} (hp : Nf p) (hq : Nf q) (h1 : p ≠ []) (h2 : q ≠ []) (hl : tot.length = p.length + q.length - 1) (h : ∀ k, cf tot k = cf (mulL p q) k) : tot = mulI p q := by
  have lp : 0 < p.length := List.length_pos_iff.mpr h1
  have lq : 0 < q.length := List.length_pos_iff.mpr h2
  refine nf_ext (nf_of_last (.inr ?_)) (nf_mulI p q) fun k => by rw [h k, cf_mulI]
  rw [h, hl, show p.length + q.length - 1 - 1 = p.length - 1 + (q.length - 1) by omega, cf_mul_top p q h1 h2]
  exact Int.mul_ne_zero (nf_last hp h1) (nf_last hq h2)

/-! ### sums over products -/
theorem cf_zip {f : Int → Int → Int} (h0 : f 0 0 = 0) (p q : List Int) (k : Nat) : cf (zipI f p q) k = f (cf p k) (cf q k) := by
  by_cases h : k < max p.length q.length
  · rw [cf_lt (by rw [zip_len]; exact h)]
    unfold zipI
    rw [List.getElem_map, List.getElem_range]
    rfl
  · rw [cf_ge (by rw [zip_len]; omega), cf_ge (p := p) (by omega), cf_ge (p := q) (by omega), h0]
theorem cf_plus (p q : List Int) (k : Nat) : cf (plusI p q) k = cf p k + cf q k := (cf_trim _ _).trans (cf_zip (f := (· + ·)) rfl p q k)
theorem cf_minus (p q : List Int) (k : Nat) : cf (minusI p q) k = cf p k - cf q k := (cf_trim _ _).trans (cf_zip (f := (· - ·)) rfl p q k)
theorem cf_scaled (c : Int) (p : List Int) (k : Nat) : cf (scaledI c p) k = c * cf p k := (cf_trim _ _).trans (cf_map p k)
theorem nf_plus (p q : List Int) : Nf (plusI p q) := nf_trim _
theorem plus_eq (p q : List Int) : plusI p q = trimI (addL p q) := trim_ext fun k => by rw [cf_addL]; exact cf_zip (f := (· + ·)) rfl p q k
theorem nrm_plus (p q : List Int) : nrm (plusI p q) ≤ nrm p + nrm q := by
  rw [plus_eq]
  exact Nat.le_trans (nrm_trim _) (nrm_add p q)
theorem plusI_nil {p : List Int} (h : Nf p) : plusI p [] = p := nf_ext (nf_plus _ _) h fun k => by rw [cf_plus, cf_nil, Int.add_zero]
theorem plusI_comm (p q : List Int) : plusI p q = plusI q p := nf_ext (nf_plus _ _) (nf_plus _ _) fun k => by rw [cf_plus, cf_plus, Int.add_comm]
theorem plusI_assoc (p q r : List Int) : plusI (plusI p q) r = plusI p (plusI q r) := nf_ext (nf_plus _ _) (nf_plus _ _) fun k => by rw [cf_plus, cf_plus, cf_plus, cf_plus, Int.add_assoc]
theorem mulI_plus (p q r : List Int) : mulI p (plusI q r) = plusI (mulI p q) (mulI p r) := nf_ext (nf_mulI _ _) (nf_plus _ _) fun k => by
  rw [cf_mulI, cf_plus, cf_mulI, cf_mulI, cf_mul_congr (q' := addL q r) (fun j => by rw [cf_plus, cf_addL]), cf_mul_add]
theorem plus_mulI (p q r : List Int) : mulI (plusI q r) p = plusI (mulI q p) (mulI r p) := by
  rw [mulI_comm, mulI_plus, mulI_comm p q, mulI_comm p r]
theorem mulI_trim (p q : List Int) : mulI p (trimI q) = mulI p q := nf_ext (nf_mulI _ _) (nf_mulI _ _) fun k => by rw [cf_mulI, cf_mulI, cf_mul_congr (cf_trim q)]
theorem trim_mulI (p q : List Int) : mulI (trimI p) q = mulI p q := by rw [mulI_comm, mulI_trim, mulI_comm]

def slopeI (ns : List Int) : List Int := (List.range (ns.length - 1)).map fun k => ((k + 1 : Nat) : Int) * cf ns (k + 1)

/-- a polynomial in the letter's place -/
def compI : List Int → List Int → List Int
  | [], _ => []
  | x :: r, q => plusI (mulI (compI r q) q) (trimI [x])
theorem nf_comp : ∀ (p q : List Int), Nf (compI p q)
  | [], _ => nf_nil
  | _ :: _, _ => nf_plus _ _
theorem trim1_len (x : Int) : (trimI [x]).length ≤ 1 := trim_len _
theorem nrm1 (x : Int) : nrm (trimI [x]) ≤ x.natAbs := Nat.le_trans (nrm_trim _) (by simp [nrm])
theorem comp_len : ∀ (p q : List Int), (compI p q).length ≤ p.length * q.length + 1
  | [], _ => by simp [compI]
  | x :: r, q => by
    have h1 := comp_len r q
    have h2 := plus_len (mulI (compI r q) q) (trimI [x])
    have h3 := mulI_len (compI r q) q
    have h4 := trim1_len x
    show (plusI _ _).length ≤ _
    rw [List.length_cons, Nat.succ_mul]
    have h5 := mul_len (compI r q) q
    omega
theorem comp_nrm {b y : Nat} {q : List Int} (hq : nrm q ≤ 2 ^ y) : ∀ (p : List Int), (∀ x ∈ p, x.natAbs ≤ 2 ^ b) → nrm (compI p q) ≤ 2 ^ (b + p.length * (y + 1))
  | [], _ => by simp [compI, nrm]
  | x :: r, h => by
    have ih := comp_nrm hq r fun z hz => h z (List.mem_cons_of_mem _ hz)
    have hx := h x List.mem_cons_self
    have h2 := nrm_plus (mulI (compI r q) q) (trimI [x])
    have h3 := nrm_mulI (compI r q) q
    have h4 := nrm1 x
    have h5 : nrm (compI r q) * nrm q ≤ 2 ^ (b + r.length * (y + 1)) * 2 ^ y := Nat.mul_le_mul ih hq
    rw [← Nat.pow_add] at h5
    have h6 : 2 ^ b ≤ 2 ^ (b + r.length * (y + 1) + y) := Nat.pow_le_pow_right (by decide) (by omega)
    have e : b + (x :: r).length * (y + 1) = (b + r.length * (y + 1) + y) + 1 := by
      rw [List.length_cons, Nat.succ_mul]
      omega
    show nrm (plusI _ _) ≤ _
    rw [e, Nat.pow_succ]
    omega
/-- the sum from the front: one more -/
theorem comp_front (p q due : List Int) (i : Nat) (hi : i < p.length) (hd : Nf due) :
    plusI (plusI due (mulI [p.getD i 0] (powI q i))) (mulI (powI q (i + 1)) (compI (p.drop (i + 1)) q)) = plusI due (mulI (powI q i) (compI (p.drop i) q)) := by
  rw [List.drop_eq_getElem_cons hi]
  show _ = plusI due (mulI (powI q i) (plusI (mulI (compI (p.drop (i + 1)) q) q) (trimI [p[i]])))
  have e : p.getD i 0 = p[i] := cf_lt hi
  rw [e, mulI_plus, mulI_trim, plusI_assoc]
  congr 1
  show plusI _ (mulI (mulI (powI q i) q) _) = _
  rw [mulI_comm [p[i]], plusI_comm, mulI_assoc, mulI_comm q]
theorem powI_len (p : List Int) : ∀ n, (powI p n).length ≤ p.length * n + 1
  | 0 => by simp [powI]
  | n + 1 => by
    have h1 := powI_len p n
    have h2 := mulI_len (powI p n) p
    show (mulI (powI p n) p).length ≤ _
    rw [Nat.mul_succ]
    omega
/-! sizes of rows told by their numbers -/
theorem mem_cf {b : Nat} {ns : List Int} (h : ∀ k, (cf ns k).natAbs < 2 ^ b) : ∀ x ∈ ns, x.natAbs < 2 ^ b := fun x hx => by
  obtain ⟨i, hi, e⟩ := List.getElem_of_mem hx
  have := h i
  rw [cf_lt hi, e] at this
  exact this
theorem nrm_cf {b n : Nat} {ns : List Int} (h : ∀ k, (cf ns k).natAbs < 2 ^ b) (hl : ns.length ≤ 2 ^ n) : nrm ns ≤ 2 ^ (n + b) := nrm_bound (mem_cf h) hl
end PP
/-! Nums: greatest common divisors of rows -/
namespace PP
def cont (ns : List Int) : Nat := ns.foldl (fun g x => Nat.gcd g x.natAbs) 0
theorem foldl_gcd (ns : List Int) : ∀ g : Nat, ns.foldl (fun g x => Nat.gcd g x.natAbs) g = Nat.gcd g (cont ns) := by
  unfold cont
  induction ns with
  | nil => intro g; simp
  | cons x r ih =>
    intro g
    rw [List.foldl_cons, List.foldl_cons, ih, ih (Nat.gcd 0 x.natAbs), Nat.gcd_zero_left, Nat.gcd_assoc]
theorem cont_nil : cont [] = 0 := rfl
theorem cont_cons (x : Int) (r : List Int) : cont (x :: r) = Nat.gcd x.natAbs (cont r) := by
  show (x :: r).foldl _ 0 = _
  rw [List.foldl_cons, foldl_gcd, Nat.gcd_zero_left]
theorem cont_snoc (x : Int) (r : List Int) : cont (r ++ [x]) = Nat.gcd (cont r) x.natAbs := by
  unfold cont
  rw [List.foldl_append] <;> rfl
theorem cont_take {ns : List Int} {i : Nat} (h : i < ns.length) : cont (ns.take (i + 1)) = Nat.gcd (cont (ns.take i)) (ns.getD i 0).natAbs := by
  rw [List.take_succ_eq_append_getElem h, cont_snoc, List.getD_eq_getElem?_getD, List.getElem?_eq_getElem h]
  rfl
theorem cont_dvd : ∀ {ns : List Int} {x : Int}, x ∈ ns → (cont ns : Int) ∣ x
  | y :: r, x, h => by
    rw [cont_cons]
    rcases List.mem_cons.mp h with h | h
    · rw [h]
      exact Int.dvd_natAbs.mp (Int.natCast_dvd_natCast.mpr (Nat.gcd_dvd_left _ _))
    · exact Int.dvd_trans (Int.natCast_dvd_natCast.mpr (Nat.gcd_dvd_right _ _)) (cont_dvd h)
theorem dvd_cont : ∀ {ns : List Int} {d : Nat}, (∀ x ∈ ns, (d : Int) ∣ x) → d ∣ cont ns
  | [], d, _ => Nat.dvd_zero d
  | y :: r, d, h => by
    rw [cont_cons]
    refine Nat.dvd_gcd ?_ (dvd_cont fun x hx => h x (List.mem_cons_of_mem _ hx))
    exact Int.natCast_dvd_natCast.mp (Int.dvd_natAbs.mpr (h y List.mem_cons_self))
theorem cont_pos {ns : List Int} (h : ∃ x ∈ ns, x ≠ 0) : 0 < cont ns := by
  obtain ⟨x, hx, h0⟩ := h
  rcases Nat.eq_zero_or_pos (cont ns) with e | e
  · have := cont_dvd hx
    rw [e] at this
    exact (h0 (Int.zero_dvd.mp this)).elim
  · exact e
/-- what is left of a row by its content -/
theorem cont_left {ns : List Int} {c : Nat} (hc : c = cont ns) (h0 : 0 < c) : cont (ns.map fun x => x / (c : Int)) = 1 := by
  have hd : (cont (ns.map fun x => x / (c : Int))) * c ∣ cont ns := by
    refine dvd_cont fun x hx => ?_
    have h1 : (cont (ns.map fun x => x / (c : Int)) : Int) ∣ x / (c : Int) := cont_dvd (List.mem_map.mpr ⟨x, hx, rfl⟩)
    have h2 : (c : Int) ∣ x := hc ▸ cont_dvd hx
    have h3 : x / (c : Int) * (c : Int) = x := Int.ediv_mul_cancel h2
    rw [Int.natCast_mul]
    calc (cont (ns.map fun x => x / (c : Int)) : Int) * (c : Int) ∣ x / (c : Int) * (c : Int) := Int.mul_dvd_mul_right _ h1
      _ = x := h3
  rw [← hc] at hd
  have h4 : cont (ns.map fun x => x / (c : Int)) * c ≤ 1 * c := by
    rw [Nat.one_mul]
    exact Nat.le_of_dvd h0 hd
  have h5 := Nat.le_of_mul_le_mul_right h4 h0
  have h6 : cont (ns.map fun x => x / (c : Int)) ≠ 0 := fun e => by
    rw [e, Nat.zero_mul] at hd
    have := Nat.eq_zero_of_zero_dvd hd
    omega
  omega
theorem cont_neg (ns : List Int) : cont (ns.map fun x => -x) = cont ns := by
  induction ns with
  | nil => rfl
  | cons x r ih => rw [List.map_cons, cont_cons, cont_cons, ih, Int.natAbs_neg]
theorem cont_le {ns : List Int} {x : Int} (h : x ∈ ns) (h0 : x ≠ 0) : cont ns ≤ x.natAbs := by
  have := cont_dvd h
  exact Nat.le_of_dvd (Int.natAbs_pos.mpr h0) (Int.natCast_dvd_natCast.mp (Int.dvd_natAbs.mpr this))
/-- simple -/
def simpleI (ns : List Int) : List Int := if ns.getD (ns.length - 1) 0 < 0 then (ns.map fun x => x / (cont ns : Int)).map fun x => -x else ns.map fun x => x / (cont ns : Int)
theorem fdiv_neg' {x c : Int} (hd : c ∣ x) (h0 : 0 < c) : x.fdiv (-c) = -(x / c) := by
  obtain ⟨y, rfl⟩ := hd
  rw [Int.mul_ediv_cancel_left _ (by omega), show c * y = (-y) * (-c) by rw [Int.neg_mul_neg, Int.mul_comm], Int.mul_fdiv_cancel _ (by omega)]
theorem fdiv_pos' {x c : Int} (h0 : 0 < c) : x.fdiv c = x / c := Int.fdiv_eq_ediv_of_nonneg x (by omega)
theorem simple_len (ns : List Int) : (simpleI ns).length = ns.length := by
  unfold simpleI
  split <;> simp
theorem last_mem {ns : List Int} (h : ns ≠ []) : ns.getD (ns.length - 1) 0 ∈ ns := by
  have := List.length_pos_iff.mpr h
  show cf ns _ ∈ ns
  rw [cf_lt (by omega)]
  exact List.getElem_mem _
theorem simple_eq {ns : List Int} (h : 0 < cont ns) : (ns.map fun x => x.fdiv (if ns.getD (ns.length - 1) 0 < 0 then -(cont ns : Int) else (cont ns : Int))) = simpleI ns := by
  unfold simpleI
  split
  · rw [List.map_map]
    exact List.map_congr_left fun x hx => fdiv_neg' (cont_dvd hx) (by omega)
  · exact List.map_congr_left fun x hx => fdiv_pos' (by omega)
def scI (ns : List Int) : Int := if ns.getD (ns.length - 1) 0 < 0 then -(cont ns : Int) else (cont ns : Int)
theorem sc_abs (ns : List Int) : (scI ns).natAbs = cont ns := by
  unfold scI
  split <;> omega
theorem simple_sc {ns : List Int} (h : Nf ns) : (ns.map fun x => x.fdiv (scI ns)) = simpleI ns := by
  by_cases e : ns = []
  · rw [e]
    rfl
  · exact simple_eq (cont_pos ⟨_, last_mem e, nf_last h e⟩)
theorem sc_ne {ns : List Int} (h : Nf ns) : ns = [] ∨ scI ns ≠ 0 := by
  by_cases e : ns = []
  · exact .inl e
  · have h1 := cont_pos ⟨_, last_mem e, nf_last h e⟩
    have h2 := sc_abs ns
    exact .inr (by omega)
end PP
/-! Alg: polynomials as a ring; division, divisors, primes, powers of primes, slopes. Hangs on no code. -/
namespace PP
structure Po where
  l : List Int
  nf : Nf l
namespace Po
def c (p : Po) (k : Nat) : Int := cf p.l k
theorem ext {p q : Po} (h : ∀ k, p.c k = q.c k) : p = q := by
  obtain ⟨a, ha⟩ := p
  obtain ⟨b, hb⟩ := q
  have : a = b := nf_ext ha hb h
  subst this
  rfl
def C (x : Int) : Po := ⟨trimI [x], nf_trim _⟩
def Xp : Po := ⟨[0, 1], by simp [Nf, trimI]⟩
instance : Add Po := ⟨fun p q => ⟨plusI p.l q.l, nf_plus _ _⟩⟩
instance : Sub Po := ⟨fun p q => ⟨minusI p.l q.l, nf_trim _⟩⟩
instance : Mul Po := ⟨fun p q => ⟨mulI p.l q.l, nf_mulI _ _⟩⟩
instance : Neg Po := ⟨fun p => ⟨scaledI (-1) p.l, nf_trim _⟩⟩
instance : HPow Po Nat Po := ⟨fun p n => ⟨powI p.l n, nf_powI _ _⟩⟩
instance : NatCast Po := ⟨fun n => C n⟩
instance : IntCast Po := ⟨fun n => C n⟩
instance (n : Nat) : OfNat Po n := ⟨C n⟩
instance : SMul Nat Po := ⟨fun n p => C n * p⟩
instance : SMul Int Po := ⟨fun n p => C n * p⟩
theorem c_add (p q : Po) (k : Nat) : (p + q).c k = p.c k + q.c k := cf_plus _ _ _
theorem c_sub (p q : Po) (k : Nat) : (p - q).c k = p.c k - q.c k := cf_minus _ _ _
theorem c_neg (p : Po) (k : Nat) : (-p).c k = -p.c k := by
  show cf (scaledI (-1) p.l) k = _
  rw [cf_scaled]
  show -1 * p.c k = _
  omega
theorem c_mul (p q : Po) (k : Nat) : (p * q).c k = cf (mulL p.l q.l) k := cf_mulI _ _ _
theorem c_C (x : Int) (k : Nat) : (C x).c k = if k = 0 then x else 0 := by
  show cf (trimI [x]) k = _
  rw [cf_trim]
  cases k <;> simp
theorem c_Cmul (x : Int) (p : Po) (k : Nat) : (C x * p).c k = x * p.c k := by
  rw [c_mul]
  show cf (mulL (trimI [x]) p.l) k = _
  rw [cf_mul_congrL (cf_trim [x])]
  cases k with
  | zero => rw [cf_mul_zero]; rfl
  | succ k =>
    rw [cf_mul_succ]
    show x * _ + cf (mulL [] p.l) k = _
    simp [mulL, c]
theorem ofNat_C (n : Nat) : (OfNat.ofNat n : Po) = C n := rfl
theorem zero_C : (0 : Po) = C 0 := rfl
theorem one_C : (1 : Po) = C 1 := rfl
theorem c_zero (k : Nat) : (0 : Po).c k = 0 := by
  rw [zero_C, c_C]
  split <;> rfl
theorem mul_comm' (p q : Po) : p * q = q * p := by
  show Po.mk _ _ = Po.mk _ _
  congr 1
  exact mulI_comm _ _
theorem mul_assoc' (p q r : Po) : p * q * r = p * (q * r) := by
  show Po.mk _ _ = Po.mk _ _
  congr 1
  exact mulI_assoc _ _ _
theorem add_mul' (p q r : Po) : p * (q + r) = p * q + p * r := by
  show Po.mk _ _ = Po.mk _ _
  congr 1
  exact mulI_plus _ _ _
theorem one_mul' (p : Po) : 1 * p = p := ext fun k => by rw [one_C, c_Cmul, Int.one_mul]
theorem zero_mul' (p : Po) : 0 * p = 0 := ext fun k => by rw [zero_C, c_Cmul, Int.zero_mul, ← zero_C, c_zero]
theorem C_add (x y : Int) : C (x + y) = C x + C y := ext fun k => by
  rw [c_add, c_C, c_C, c_C]
  split <;> simp
theorem C_mul (x y : Int) : C (x * y) = C x * C y := ext fun k => by
  rw [c_Cmul, c_C, c_C]
  split <;> simp
theorem C_neg (x : Int) : C (-x) = -C x := ext fun k => by
  rw [c_neg, c_C, c_C]
  split <;> simp
theorem C_sub (x y : Int) : C (x - y) = C x - C y := ext fun k => by
  rw [c_sub, c_C, c_C, c_C]
  split <;> simp
theorem C_nat (n : Nat) : (C (n : Int)) = (n : Po) := rfl
theorem C_int (n : Int) : (C n) = ((n : Int) : Po) := rfl
instance : Lean.Grind.CommRing Po where
  add_zero p := ext fun k => by rw [c_add, c_zero, Int.add_zero]
  add_comm p q := ext fun k => by rw [c_add, c_add, Int.add_comm]
  add_assoc p q r := ext fun k => by rw [c_add, c_add, c_add, c_add, Int.add_assoc]
  mul_assoc := mul_assoc'
  mul_comm := mul_comm'
  mul_one p := by rw [mul_comm', one_mul']
  one_mul := one_mul'
  left_distrib := add_mul'
  right_distrib p q r := by rw [mul_comm', add_mul', mul_comm' r, mul_comm' r]
  zero_mul := zero_mul'
  mul_zero p := by rw [mul_comm', zero_mul']
  pow_zero p := by
    show Po.mk [1] _ = C 1
    unfold C
    congr 1
  pow_succ p n := rfl
  ofNat_succ n := by
    show C ((n + 1 : Nat) : Int) = C n + C 1
    rw [← C_add]
    rfl
  ofNat_eq_natCast n := rfl
  nsmul_eq_natCast_mul n a := rfl
  neg_add_cancel p := ext fun k => by
    rw [c_add, c_neg, c_zero]
    omega
  sub_eq_add_neg p q := ext fun k => by
    rw [c_add, c_neg, c_sub]
    omega
  neg_zsmul i p := by
    show C (-i) * p = -(C i * p)
    exact ext fun k => by rw [c_Cmul, c_neg, c_Cmul, Int.neg_mul]
  zsmul_natCast_eq_nsmul n a := rfl
  intCast_ofNat n := rfl
  intCast_neg i := C_neg i
example (a b : Po) : (a + b) * (a - b) = a * a - b * b := by grind
example (a b d e : Po) (h : a * b = d + 1) (h2 : d = e * b) : (a - e) * b = 1 := by grind

/-! size and last number -/
def sz (p : Po) : Nat := p.l.length
def ld (p : Po) : Int := p.c (p.sz - 1)
theorem c_ge {p : Po} {k : Nat} (h : p.sz ≤ k) : p.c k = 0 := cf_ge h
theorem eq_zero {p : Po} (h : p.sz = 0) : p = 0 := ext fun k => by rw [c_ge (by omega), c_zero]
theorem sz_zero : (0 : Po).sz = 0 := rfl
theorem sz_pos {p : Po} (h : p ≠ 0) : 0 < p.sz := Nat.pos_of_ne_zero fun e => h (eq_zero e)
theorem ne_of_sz {p : Po} (h : 0 < p.sz) : p ≠ 0 := fun e => by
  rw [e, sz_zero] at h
  omega
theorem ld_ne {p : Po} (h : p ≠ 0) : p.ld ≠ 0 := nf_last p.nf fun e => h (eq_zero (by unfold sz; rw [e]; rfl))
theorem sz_le {p : Po} {n : Nat} (h : ∀ k, n ≤ k → p.c k = 0) : p.sz ≤ n := by
  by_cases h0 : p = 0
  · rw [h0, sz_zero]
    omega
  · refine Decidable.by_contra fun hc => ?_
    exact ld_ne h0 (h _ (by omega))
theorem sz_lt {p : Po} {k : Nat} (h : p.c k ≠ 0) : k < p.sz := by
  refine Decidable.by_contra fun hc => ?_
  exact h (c_ge (by omega))
theorem cf_mul_hi : ∀ (p q : List Int) (k : Nat), p.length + q.length ≤ k + 1 → cf (mulL p q) k = 0
  | [], q, k, _ => by simp [mulL]
  | x :: r, q, 0, h => by
    rw [cf_mul_zero, cf_ge (p := q) (by simp at h; omega), Int.mul_zero]
  | x :: r, q, k + 1, h => by
    rw [cf_mul_succ, cf_ge (p := q) (by simp at h; omega), cf_mul_hi r q k (by simp at h; omega)]
    simp
theorem c_top {p q : Po} (hp : p ≠ 0) (hq : q ≠ 0) : (p * q).c (p.sz - 1 + (q.sz - 1)) = p.ld * q.ld := by
  rw [c_mul]
  exact cf_mul_top p.l q.l (fun e => hp (eq_zero (by unfold sz; rw [e]; rfl))) (fun e => hq (eq_zero (by unfold sz; rw [e]; rfl)))
theorem sz_mul {p q : Po} (hp : p ≠ 0) (hq : q ≠ 0) : (p * q).sz = p.sz + q.sz - 1 := by
  have h1 := sz_pos hp
  have h2 := sz_pos hq
  refine Nat.le_antisymm (sz_le fun k hk => ?_) ?_
  · rw [c_mul]
    exact cf_mul_hi _ _ _ (by unfold sz at hk; omega)
  · have h3 : (p * q).c (p.sz - 1 + (q.sz - 1)) ≠ 0 := by
      rw [c_top hp hq]
      exact Int.mul_ne_zero (ld_ne hp) (ld_ne hq)
    have := sz_lt h3
    omega
theorem mul_ne {p q : Po} (hp : p ≠ 0) (hq : q ≠ 0) : p * q ≠ 0 := ne_of_sz (by
  have h1 := sz_pos hp
  have h2 := sz_pos hq
  rw [sz_mul hp hq]
  omega)
theorem ld_mul {p q : Po} (hp : p ≠ 0) (hq : q ≠ 0) : (p * q).ld = p.ld * q.ld := by
  rw [← c_top hp hq]
  unfold ld
  rw [sz_mul hp hq]
  congr 1
  have h1 := sz_pos hp
  have h2 := sz_pos hq
  omega
theorem mul_cancel {p q r : Po} (hp : p ≠ 0) (h : p * q = p * r) : q = r := by
  by_cases e : q - r = 0
  · have : q = (q - r) + r := by grind
    rw [this, e]
    grind
  · exact absurd (show p * (q - r) = 0 by grind) (mul_ne hp e)
theorem C_inj {x y : Int} (h : C x = C y) : x = y := by
  have := congrArg (fun p => c p 0) h
  simpa [c_C] using this
theorem C_ne {x : Int} (h : x ≠ 0) : C x ≠ 0 := fun e => h (C_inj (e.trans zero_C))
theorem sz_C {x : Int} (h : x ≠ 0) : (C x).sz = 1 := by
  refine Nat.le_antisymm (sz_le fun k hk => ?_) (sz_pos (C_ne h))
  rw [c_C, if_neg (by omega)]
theorem ld_C (x : Int) : (C x).ld = x := by
  by_cases h : x = 0
  · subst h
    rfl
  · unfold ld
    rw [sz_C h, c_C, if_pos rfl]
theorem one_ne : (1 : Po) ≠ 0 := C_ne (x := 1) (by decide)
theorem sz_one : (1 : Po).sz = 1 := sz_C (x := 1) (by decide)
theorem of_sz_one {p : Po} (h : p.sz ≤ 1) : p = C (p.c 0) := ext fun k => by
  rw [c_C]
  split
  · rename_i e
    rw [e]
  · exact c_ge (by omega)
theorem sz_Cmul {x : Int} (h : x ≠ 0) (p : Po) : (C x * p).sz = p.sz := by
  by_cases h0 : p = 0
  · rw [h0]
    have : C x * 0 = 0 := by grind
    rw [this]
  · rw [sz_mul (C_ne h) h0, sz_C h]
    omega
theorem sz_sub_lt {p q : Po} {n : Nat} (hp : p.sz ≤ n + 1) (hq : q.sz ≤ n + 1) (h : p.c n = q.c n) : (p - q).sz ≤ n := sz_le fun k hk => by
  rw [c_sub]
  by_cases e : k = n
  · rw [e, h]
    omega
  · rw [c_ge (show p.sz ≤ k by omega), c_ge (show q.sz ≤ k by omega)]
    rfl
theorem sz_X : Xp.sz = 2 := rfl
theorem ld_X : Xp.ld = 1 := rfl
theorem X_ne : Xp ≠ 0 := ne_of_sz (by decide)
theorem pow_zero' (p : Po) : p ^ 0 = 1 := Lean.Grind.Semiring.pow_zero p
theorem pow_succ' (p : Po) (n : Nat) : p ^ (n + 1) = p ^ n * p := rfl
theorem pow_ne {p : Po} (h : p ≠ 0) : ∀ n : Nat, p ^ n ≠ 0
  | 0 => by rw [pow_zero']; exact one_ne
  | n + 1 => by rw [pow_succ']; exact mul_ne (pow_ne h n) h
theorem sz_Xpow : ∀ n : Nat, (Xp ^ n).sz = n + 1
  | 0 => by rw [pow_zero', sz_one]
  | n + 1 => by rw [pow_succ', sz_mul (pow_ne X_ne n) X_ne, sz_Xpow n, sz_X]; omega
theorem ld_Xpow : ∀ n : Nat, (Xp ^ n).ld = 1
  | 0 => by rw [pow_zero']; exact ld_C 1
  | n + 1 => by rw [pow_succ', ld_mul (pow_ne X_ne n) X_ne, ld_Xpow n, ld_X]; rfl
/-- division: so many times p is d times q and r, r of a lower power -/
theorem divide (d : Po) (hd : d ≠ 0) : ∀ (n : Nat) (p : Po), p.sz ≤ n → ∃ (m : Int) (q r : Po), m ≠ 0 ∧ C m * p = d * q + r ∧ r.sz < d.sz
  | n, p, h => by
    by_cases hl : p.sz < d.sz
    · exact ⟨1, 0, p, by decide, by rw [← one_C]; grind, hl⟩
    · have hd0 := sz_pos hd
      have hp : p ≠ 0 := ne_of_sz (by omega)
      match n, h with
      | 0, h => omega
      | n + 1, h =>
        have hk : (C p.ld * Xp ^ (p.sz - d.sz) * d).sz ≤ p.sz := by
          rw [mul_assoc', sz_Cmul (ld_ne hp), sz_mul (pow_ne X_ne _) hd, sz_Xpow]
          omega
        have h1 : (C d.ld * p - C p.ld * Xp ^ (p.sz - d.sz) * d).sz ≤ p.sz - 1 := by
          refine sz_sub_lt (by rw [sz_Cmul (ld_ne hd)]; omega) (by omega) ?_
          rw [c_Cmul, mul_assoc', c_Cmul]
          have h2 := ld_mul (pow_ne X_ne (p.sz - d.sz)) hd
          unfold ld at h2
          rw [sz_mul (pow_ne X_ne _) hd, sz_Xpow, show p.sz - d.sz + 1 + d.sz - 1 - 1 = p.sz - 1 by omega] at h2
          rw [h2]
          have h3 := ld_Xpow (p.sz - d.sz)
          unfold ld at h3
          rw [sz_Xpow] at h3
          rw [h3, Int.one_mul, Int.mul_comm]
          rfl
        obtain ⟨m, q, r, hm, he, hr⟩ := divide d hd n (C d.ld * p - C p.ld * Xp ^ (p.sz - d.sz) * d) (by omega)
        refine ⟨m * d.ld, q + C m * C p.ld * Xp ^ (p.sz - d.sz), r, Int.mul_ne_zero hm (ld_ne hd), ?_, hr⟩
        rw [C_mul]
        generalize Xp ^ (p.sz - d.sz) = x at *
        grind
  termination_by n => n
/-! whole numbers that divide all numbers; primes of the whole numbers -/
def Dv (x : Int) (p : Po) : Prop := ∀ k, x ∣ p.c k
theorem dv_mul {x : Int} {p : Po} (h : ∃ q, p = C x * q) : Dv x p := fun k => by
  obtain ⟨q, rfl⟩ := h
  rw [c_Cmul]
  exact Int.dvd_mul_right _ _
theorem of_dv {x : Int} {p : Po} (h : Dv x p) : ∃ q, p = C x * q := by
  refine ⟨⟨trimI (p.l.map (· / x)), nf_trim _⟩, ext fun k => ?_⟩
  rw [c_Cmul]
  show p.c k = x * cf (trimI (p.l.map (· / x))) k
  rw [cf_trim]
  have e : cf (p.l.map (· / x)) k = p.c k / x := by
    unfold cf c cf
    rw [List.getD_eq_getElem?_getD, List.getD_eq_getElem?_getD, List.getElem?_map]
    cases p.l[k]? with
    | none => simp
    | some y => rfl
  rw [e, Int.mul_ediv_cancel' (h k)]
theorem dv_iff {x : Int} {p : Po} : Dv x p ↔ ∃ q, p = C x * q := ⟨of_dv, dv_mul⟩
theorem ndvd {n : Nat} {a : Int} : (n : Int) ∣ a ↔ n ∣ a.natAbs := by
  rw [← Int.natAbs_dvd_natAbs, Int.natAbs_natCast]
def Pn (n : Nat) : Prop := 1 < n ∧ ∀ a b : Int, (n : Int) ∣ a * b → (n : Int) ∣ a ∨ (n : Int) ∣ b
theorem prime_in : ∀ (n : Nat), 1 < n → ∃ l, Pn l ∧ l ∣ n := by
  intro n
  induction n using Nat.strongRecOn with
  | _ n ih =>
    intro h
    by_cases hd : ∃ d, 1 < d ∧ d < n ∧ d ∣ n
    · obtain ⟨d, h1, h2, h3⟩ := hd
      obtain ⟨l, h4, h5⟩ := ih d h2 h1
      exact ⟨l, h4, Nat.dvd_trans h5 h3⟩
    · refine ⟨n, ⟨h, fun a b hab => ?_⟩, Nat.dvd_refl n⟩
      have h1 : n ∣ a.natAbs * b.natAbs := by
        rw [← Int.natAbs_mul]
        exact ndvd.mp hab
      have hg : Nat.gcd n a.natAbs = 1 ∨ Nat.gcd n a.natAbs = n := by
        have h2 := Nat.gcd_dvd_left n a.natAbs
        have h3 := Nat.le_of_dvd (by omega) h2
        have h4 := Nat.gcd_pos_of_pos_left a.natAbs (show 0 < n by omega)
        by_cases e : Nat.gcd n a.natAbs = n
        · exact .inr e
        · by_cases e1 : Nat.gcd n a.natAbs = 1
          · exact .inl e1
          · exact absurd ⟨_, by omega, by omega, h2⟩ hd
      rcases hg with hg | hg
      · right
        exact ndvd.mpr (Nat.Coprime.dvd_of_dvd_mul_left hg h1)
      · left
        refine ndvd.mpr ?_
        rw [← hg]
        exact Nat.gcd_dvd_right n a.natAbs
theorem gauss1 {l : Int} (hl : ∀ a b : Int, l ∣ a * b → l ∣ a ∨ l ∣ b) : ∀ p q : List Int, (∀ k, l ∣ cf (mulL p q) k) → (∀ k, l ∣ cf p k) ∨ (∀ k, l ∣ cf q k)
  | [], q, _ => .inl fun k => by simp
  | x :: r, q, h => by
    by_cases hx : l ∣ x
    · have h1 : ∀ k, l ∣ cf (mulL r q) k := fun k => by
        have h2 := h (k + 1)
        rw [cf_mul_succ] at h2
        exact (Int.dvd_add_right (Int.dvd_trans hx (Int.dvd_mul_right _ _))).mp h2
      rcases gauss1 hl r q h1 with h2 | h2
      · refine .inl fun k => ?_
        cases k with
        | zero => exact hx
        | succ k => exact h2 k
      · exact .inr h2
    · right
      have go : ∀ q : List Int, (∀ k, l ∣ cf (mulL (x :: r) q) k) → ∀ k, l ∣ cf q k := by
        intro q
        induction q with
        | nil => intro _ k; simp
        | cons y s ih =>
          intro h
          have hy : l ∣ y := by
            have h0 := h 0
            rw [cf_mul_zero] at h0
            rcases hl _ _ h0 with h1 | h1
            · exact absurd h1 hx
            · exact h1
          have h1 : ∀ k, l ∣ cf (mulL (x :: r) s) k := fun k => by
            have h2 := h (k + 1)
            rw [cf_mul_cons] at h2
            exact (Int.dvd_add_right (Int.dvd_trans hy (Int.dvd_mul_right _ _))).mp h2
          intro k
          cases k with
          | zero => exact hy
          | succ k => exact ih h1 k
      exact go q h
theorem gauss {n : Nat} (h : Pn n) {p q : Po} (hd : Dv n (p * q)) : Dv n p ∨ Dv n q :=
  gauss1 h.2 p.l q.l fun k => by
    have := hd k
    rw [c_mul] at this
    exact this
/-- no whole number but 1 divides all its numbers -/
def Pr (p : Po) : Prop := ∀ n : Nat, Pn n → ¬Dv n p
theorem Pr.ne {p : Po} (h : Pr p) : p ≠ 0 := fun e => by
  obtain ⟨l, hl, _⟩ := prime_in 2 (by decide)
  refine h l hl fun k => ?_
  rw [e, c_zero]
  exact ⟨0, by simp⟩
theorem Pr.mul {p q : Po} (hp : Pr p) (hq : Pr q) : Pr (p * q) := fun n hn hd => (gauss hn hd).elim (hp n hn) (hq n hn)
theorem pr_one : Pr 1 := fun n hn hd => by
  have h := hd 0
  rw [one_C, c_C, if_pos rfl] at h
  have h1 := Int.le_of_dvd (by decide) h
  have := hn.1
  omega
theorem Pr.pow {p : Po} (hp : Pr p) : ∀ n : Nat, Pr (p ^ n)
  | 0 => by rw [pow_zero']; exact pr_one
  | n + 1 => by rw [pow_succ']; exact (Pr.pow hp n).mul hp
theorem Pr.of_mul {p q : Po} (h : Pr (p * q)) : Pr p := fun n hn hd => h n hn fun k => by
  obtain ⟨r, rfl⟩ := of_dv hd
  rw [mul_assoc', c_Cmul]
  exact Int.dvd_mul_right _ _
/-- a number that divides a product of a primitive one divides the other one -/
theorem take_out {g : Po} (hg : Pr g) : ∀ (n : Nat) (m : Int), m.natAbs ≤ n → m ≠ 0 → ∀ p s : Po, C m * p = g * s → ∃ t, s = C m * t ∧ p = g * t
  | 0, m, h, h0, _, _, _ => absurd (Int.natAbs_eq_zero.mp (by omega)) h0
  | n + 1, m, h, h0, p, s, e => by
    by_cases h1 : m.natAbs = 1
    · rcases Int.natAbs_eq m with e1 | e1 <;> rw [h1] at e1
      · refine ⟨s, ?_, ?_⟩
        · rw [e1]
          exact (one_mul' s).symm
        · rw [e1] at e
          exact (one_mul' p).symm.trans e
      · refine ⟨-s, ?_, ?_⟩
        · rw [e1, C_neg]
          show s = -1 * -s
          grind
        · rw [e1, C_neg] at e
          have e : -1 * p = g * s := e
          grind
    · obtain ⟨l, hl, hlm⟩ := prime_in m.natAbs (by have := Int.natAbs_ne_zero.mpr h0; omega)
      obtain ⟨m1, rfl⟩ : (l : Int) ∣ m := ndvd.mpr hlm
      have hd : Dv l (g * s) := dv_mul ⟨C m1 * p, by rw [← e, C_mul]; grind⟩
      have hl1 := hl.1
      rcases gauss hl hd with h2 | h2
      · exact absurd h2 (hg l hl)
      · obtain ⟨s1, rfl⟩ := of_dv h2
        have hlne : (l : Int) ≠ 0 := by omega
        have e2 : C m1 * p = g * s1 := mul_cancel (p := C l) (C_ne hlne) (by rw [C_mul] at e; grind)
        have hm1 : m1 ≠ 0 := fun e => h0 (by rw [e, Int.mul_zero])
        have hlt : m1.natAbs < ((l : Int) * m1).natAbs := by
          rw [Int.natAbs_mul, Int.natAbs_natCast]
          have := Int.natAbs_ne_zero.mpr hm1
          have h5 : 2 * m1.natAbs ≤ l * m1.natAbs := Nat.mul_le_mul_right _ hl1
          omega
        obtain ⟨t, h3, h4⟩ := take_out hg n m1 (by omega) hm1 p s1 e2
        exact ⟨t, by rw [h3, C_mul]; grind, h4⟩
/-- what is left of its numbers' greatest divisor -/
theorem left_over : ∀ (n : Nat) (p : Po), p ≠ 0 → p.ld.natAbs ≤ n → ∃ (m : Int) (g : Po), m ≠ 0 ∧ p = C m * g ∧ Pr g ∧ 0 < g.ld
  | 0, p, h, hn => absurd (Int.natAbs_eq_zero.mp (by omega)) (ld_ne h)
  | n + 1, p, h, hn => by
    by_cases hp : Pr p
    · by_cases hs : 0 < p.ld
      · exact ⟨1, p, by decide, (one_mul' p).symm, hp, hs⟩
      · have hne := ld_ne h
        have h1 : p = C (-1) * -p := by
          rw [C_neg]
          show p = -1 * -p
          grind
        have h2 : -p = C (-1) * p := by
          rw [C_neg]
          show -p = -1 * p
          grind
        refine ⟨-1, -p, by decide, h1, fun n hn hd => hp n hn fun k => ?_, ?_⟩
        · have := hd k
          rw [c_neg] at this
          exact Int.dvd_neg.mp this
        · rw [h2, ld_mul (C_ne (by decide)) h, ld_C]
          omega
    · have hp : ∃ l, Pn l ∧ Dv l p := Classical.byContradiction fun hc => hp fun n hn hd => hc ⟨n, hn, hd⟩
      obtain ⟨l, hl, hd⟩ := hp
      obtain ⟨q, rfl⟩ := of_dv hd
      have hl1 := hl.1
      have hq : q ≠ 0 := fun e => h (by rw [e]; grind)
      have hlne : (l : Int) ≠ 0 := by omega
      have hlt : q.ld.natAbs < (C (l : Int) * q).ld.natAbs := by
        rw [ld_mul (C_ne hlne) hq, ld_C, Int.natAbs_mul, Int.natAbs_natCast]
        have := Int.natAbs_ne_zero.mpr (ld_ne hq)
        have h5 : 2 * q.ld.natAbs ≤ l * q.ld.natAbs := Nat.mul_le_mul_right _ hl1
        omega
      obtain ⟨m, g, h1, h2, h3, h4⟩ := left_over n q hq (by omega)
      exact ⟨l * m, g, Int.mul_ne_zero hlne h1, by rw [C_mul, mul_assoc', ← h2], h3, h4⟩
/-- primitive, the last number above nought -/
def Sim (g : Po) : Prop := Pr g ∧ 0 < g.ld
theorem to_sim {p : Po} (h : p ≠ 0) : ∃ (m : Int) (g : Po), m ≠ 0 ∧ p = C m * g ∧ Sim g := by
  obtain ⟨m, g, h1, h2, h3, h4⟩ := left_over _ p h (Nat.le_refl _)
  exact ⟨m, g, h1, h2, h3, h4⟩
theorem sim_one : Sim 1 := ⟨pr_one, by show (0 : Int) < ld (C 1); rw [ld_C]; decide⟩
theorem Sim.ne {g : Po} (h : Sim g) : g ≠ 0 := h.1.ne
theorem Sim.mul {p q : Po} (hp : Sim p) (hq : Sim q) : Sim (p * q) := ⟨hp.1.mul hq.1, by rw [ld_mul hp.ne hq.ne]; exact Int.mul_pos hp.2 hq.2⟩
theorem Sim.pow {p : Po} (hp : Sim p) : ∀ n : Nat, Sim (p ^ n)
  | 0 => by rw [pow_zero']; exact sim_one
  | n + 1 => by rw [pow_succ']; exact (Sim.pow hp n).mul hp
/-- the simple of power nought -/
theorem Sim.one {g : Po} (h : Sim g) (hs : g.sz ≤ 1) : g = 1 := by
  have e := of_sz_one hs
  have h2 := h.2
  rw [e] at h2
  rw [ld_C] at h2
  have h1 : (g.c 0) = 1 := by
    refine Classical.byContradiction fun hc => ?_
    obtain ⟨l, hl, hd⟩ := prime_in (g.c 0).natAbs (by omega)
    refine h.1 l hl ?_
    rw [e]
    intro k
    rw [c_C]
    split
    · exact ndvd.mpr hd
    · exact ⟨0, by simp⟩
  rw [e, h1]
  rfl
theorem Sim.of_mul {p q : Po} (h : Sim (p * q)) (hq : 0 < q.ld) : Sim p := by
  have hp := h.1.of_mul
  refine ⟨hp, ?_⟩
  have hq0 : q ≠ 0 := fun e => by
    rw [e] at hq
    exact absurd hq (by decide)
  have h2 := h.2
  rw [ld_mul hp.ne hq0] at h2
  refine Decidable.by_contra fun hc => ?_
  have := Int.mul_le_mul_of_nonneg_right (show p.ld ≤ 0 by omega) (show 0 ≤ q.ld by omega)
  omega
/-! divisors; the greatest common one; primes -/
instance : Dvd Po := ⟨fun a b => ∃ c, b = a * c⟩
theorem dvd_def {a b : Po} : a ∣ b ↔ ∃ c, b = a * c := Iff.rfl
theorem dvd_refl' (a : Po) : a ∣ a := ⟨1, by grind⟩
theorem dvd_zero' (a : Po) : a ∣ 0 := ⟨0, by grind⟩
theorem dvd_tr {a b d : Po} (h1 : a ∣ b) (h2 : b ∣ d) : a ∣ d := by
  obtain ⟨x, rfl⟩ := h1
  obtain ⟨y, rfl⟩ := h2
  exact ⟨x * y, by grind⟩
theorem dvd_mulR {a b : Po} (h : a ∣ b) (d : Po) : a ∣ b * d := by
  obtain ⟨x, rfl⟩ := h
  exact ⟨x * d, by grind⟩
theorem dvd_mulL {a b : Po} (h : a ∣ b) (d : Po) : a ∣ d * b := by
  obtain ⟨x, rfl⟩ := h
  exact ⟨d * x, by grind⟩
theorem dvd_add' {a b d : Po} (h1 : a ∣ b) (h2 : a ∣ d) : a ∣ b + d := by
  obtain ⟨x, rfl⟩ := h1
  obtain ⟨y, rfl⟩ := h2
  exact ⟨x + y, by grind⟩
theorem dvd_sub' {a b d : Po} (h1 : a ∣ b) (h2 : a ∣ d) : a ∣ b - d := by
  obtain ⟨x, rfl⟩ := h1
  obtain ⟨y, rfl⟩ := h2
  exact ⟨x - y, by grind⟩
theorem sz_dvd {a b : Po} (h : a ∣ b) (hb : b ≠ 0) : a.sz ≤ b.sz := by
  obtain ⟨x, rfl⟩ := h
  have ha : a ≠ 0 := fun e => hb (by rw [e]; grind)
  have hx : x ≠ 0 := fun e => hb (by rw [e]; grind)
  rw [sz_mul ha hx]
  have := sz_pos hx
  omega
/-- Gauss: a primitive one that divides so many times another one divides it -/
theorem dvd_of_C {g p : Po} (hg : Pr g) {m : Int} (hm : m ≠ 0) (h : g ∣ C m * p) : g ∣ p := by
  obtain ⟨s, e⟩ := h
  obtain ⟨t, _, h2⟩ := take_out hg _ m (Nat.le_refl _) hm p s e
  exact ⟨t, h2⟩
theorem sim_eq {g h : Po} (hg : Sim g) (hh : Sim h) (h1 : g ∣ h) (h2 : h ∣ g) : g = h := by
  obtain ⟨x, rfl⟩ := h1
  have hx : x ≠ 0 := fun e => hh.ne (by rw [e]; grind)
  have hs := sz_dvd h2 hg.ne
  rw [sz_mul hg.ne hx] at hs
  have h0 := sz_pos hg.ne
  have hl : 0 < x.ld := by
    have h3 := hh.2
    rw [ld_mul hg.ne hx] at h3
    refine Decidable.by_contra fun hc => ?_
    have := Int.mul_le_mul_of_nonneg_left (show x.ld ≤ 0 by omega) (show 0 ≤ g.ld by have := hg.2; omega)
    omega
  have hsx : Sim x := ⟨Pr.of_mul (q := g) (by rw [mul_comm']; exact hh.1), hl⟩
  rw [hsx.one (by omega)]
  grind
theorem sim_eqC {g h : Po} (hg : Sim g) (hh : Sim h) {a b : Int} (ha : a ≠ 0) (hb : b ≠ 0) (e : C a * g = C b * h) : g = h :=
  sim_eq hg hh (dvd_of_C hg.1 hb ⟨C a, by rw [← e]; grind⟩) (dvd_of_C hh.1 ha ⟨C b, by rw [e]; grind⟩)
theorem bez : ∀ (n : Nat) (p q : Po), q.sz ≤ n → (p ≠ 0 ∨ q ≠ 0) → ∃ (g s t u v : Po) (m : Int), Sim g ∧ p = g * s ∧ q = g * t ∧ m ≠ 0 ∧ u * p + v * q = C m * g := by
  intro n
  induction n with
  | zero =>
    intro p q hq h0
    have hq := eq_zero (show q.sz = 0 by omega)
    subst hq
    have hp : p ≠ 0 := h0.elim id fun h => absurd rfl h
    obtain ⟨m, g, h1, h2, h3⟩ := to_sim hp
    exact ⟨g, C m, 0, 1, 0, m, h3, by rw [h2]; grind, by grind, h1, by rw [h2]; grind⟩
  | succ n ih =>
    intro p q hq h0
    by_cases hz : q = 0
    · exact ih p q (by rw [hz, sz_zero]; omega) h0
    · obtain ⟨m, w, r, hm, he, hr⟩ := divide q hz _ p (Nat.le_refl _)
      obtain ⟨g, s, t, u, v, m2, hg, h1, h2, h3, h4⟩ := ih q r (by omega) (.inl hz)
      have hd : g ∣ C m * p := ⟨s * w + t, by rw [he, h1, h2]; grind⟩
      obtain ⟨x, hx⟩ := dvd_of_C hg.1 hm hd
      exact ⟨g, x, s, v * C m, u - v * w, m2, hg, hx, h1, h3, by rw [← h4]; grind⟩
/-- a prime: simple, of the power 1 or more, no product of two such -/
structure Ir (P : Po) : Prop where
  sim : Sim P
  two : 2 ≤ P.sz
  ir : ∀ a b, P = a * b → a.sz ≤ 1 ∨ b.sz ≤ 1
theorem Ir.prime {P a b : Po} (h : Ir P) (hd : P ∣ a * b) : P ∣ a ∨ P ∣ b := by
  obtain ⟨d, hd⟩ := hd
  obtain ⟨g, s, t, u, v, m, hg, h1, h2, h3, h4⟩ := bez _ P a (Nat.le_refl _) (.inl h.sim.ne)
  rcases h.ir _ _ h1 with h5 | h5
  · have e := hg.one h5
    right
    refine dvd_of_C h.sim.1 h3 ⟨u * b + v * d, ?_⟩
    rw [e] at h4
    grind
  · have e := of_sz_one h5
    have hs0 : s.c 0 ≠ 0 := fun e0 => h.sim.ne (by rw [h1, e, e0, ← zero_C]; grind)
    have e2 : g = P := sim_eqC hg h.sim hs0 (by decide : (1 : Int) ≠ 0) (by rw [← one_C, mul_comm', ← e, ← h1]; grind)
    left
    rw [← e2]
    exact ⟨t, h2⟩
theorem ir_in : ∀ (n : Nat) (f : Po), f.sz ≤ n → 2 ≤ f.sz → ∃ P, Ir P ∧ P ∣ f := by
  intro n
  induction n with
  | zero => intro f h1 h2; omega
  | succ n ih =>
    intro f h1 h2
    obtain ⟨m, g, hm, e, hg⟩ := to_sim (ne_of_sz (show 0 < f.sz by omega))
    have hsz : f.sz = g.sz := by rw [e, sz_Cmul hm]
    have hgf : g ∣ f := ⟨C m, by rw [e]; grind⟩
    by_cases hi : ∀ a b, g = a * b → a.sz ≤ 1 ∨ b.sz ≤ 1
    · exact ⟨g, ⟨hg, by omega, hi⟩, hgf⟩
    · have hi : ∃ a b, g = a * b ∧ 2 ≤ a.sz ∧ 2 ≤ b.sz := Classical.byContradiction fun hc => hi fun a b e => Classical.byContradiction fun hc2 => hc ⟨a, b, e, by omega, by omega⟩
      obtain ⟨a, b, e2, h3, h4⟩ := hi
      have hs := sz_mul (ne_of_sz (show 0 < a.sz by omega)) (ne_of_sz (show 0 < b.sz by omega))
      rw [← e2] at hs
      obtain ⟨P, hP, hd⟩ := ih a (by omega) h3
      exact ⟨P, hP, dvd_tr hd (dvd_tr ⟨b, e2⟩ hgf)⟩
theorem pow_add' (p : Po) (m n : Nat) : p ^ (m + n) = p ^ m * p ^ n := by
  show Po.mk _ _ = Po.mk _ _
  congr 1
  exact powI_add _ _ _
theorem pow_one' (p : Po) : p ^ 1 = p := by
  rw [pow_succ', pow_zero']
  grind
theorem Ir.ne {P : Po} (h : Ir P) : P ≠ 0 := h.sim.ne
theorem Ir.not_C {P : Po} (h : Ir P) {x : Int} (hx : x ≠ 0) : ¬P ∣ C x := fun hd => by
  have := sz_dvd hd (C_ne hx)
  rw [sz_C hx] at this
  have := h.two
  omega
theorem Ir.prime_pow {P a : Po} (h : Ir P) : ∀ {n : Nat}, P ∣ a ^ n → P ∣ a
  | 0, hd => by
    rw [pow_zero'] at hd
    exact absurd hd (h.not_C (x := 1) (by decide))
  | n + 1, hd => by
    rw [pow_succ'] at hd
    exact (h.prime hd).elim h.prime_pow id
theorem Ir.eq {P Q : Po} (h : Ir P) (hQ : Ir Q) (hd : P ∣ Q) : P = Q := by
  obtain ⟨x, e⟩ := hd
  rcases hQ.ir _ _ e with h1 | h1
  · have := h.two
    omega
  · have hx : x ≠ 0 := fun e0 => hQ.ne (by rw [e, e0]; grind)
    have e2 := of_sz_one h1
    have h3 : x.c 0 ≠ 0 := fun e0 => hx (by rw [e2, e0]; rfl)
    exact sim_eqC h.sim hQ.sim h3 (by decide : (1 : Int) ≠ 0) (by rw [← one_C, ← e2, e]; grind)
/-! how often a prime divides -/
def Val (P f : Po) (k : Nat) : Prop := ∃ h, f = P ^ k * h ∧ ¬P ∣ h
theorem val_ex {P : Po} (hP : Ir P) : ∀ (n : Nat) (f : Po), f.sz ≤ n → f ≠ 0 → ∃ k, Val P f k := by
  intro n
  induction n with
  | zero => intro f h1 h2; exact absurd (eq_zero (by omega)) h2
  | succ n ih =>
    intro f h1 h2
    by_cases hd : P ∣ f
    · obtain ⟨x, e⟩ := hd
      have hx : x ≠ 0 := fun e0 => h2 (by rw [e, e0]; grind)
      have hs := sz_mul hP.ne hx
      rw [← e] at hs
      have := hP.two
      have := sz_pos hx
      obtain ⟨k, y, e2, h3⟩ := ih x (by omega) hx
      exact ⟨k + 1, y, by rw [e, e2, pow_succ']; grind, h3⟩
    · exact ⟨0, f, by rw [pow_zero']; grind, hd⟩
theorem val_le {P f : Po} (hP : Ir P) {a b : Nat} (h1 : Val P f a) (h2 : P ^ b ∣ f) : b ≤ a := by
  obtain ⟨x, e1, n1⟩ := h1
  obtain ⟨y, e2⟩ := h2
  refine Decidable.by_contra fun hc => n1 ?_
  have e : b = a + ((b - a - 1) + 1) := by omega
  rw [e, pow_add'] at e2
  have e3 : x = P ^ ((b - a - 1) + 1) * y := mul_cancel (pow_ne hP.ne a) (by rw [← e1, e2]; grind)
  rw [pow_succ'] at e3
  exact ⟨P ^ (b - a - 1) * y, by rw [e3]; grind⟩
theorem val_un {P f : Po} (hP : Ir P) {a b : Nat} (h1 : Val P f a) (h2 : Val P f b) : a = b := by
  have h3 : P ^ a ∣ f := ⟨h1.choose, h1.choose_spec.1⟩
  have h4 : P ^ b ∣ f := ⟨h2.choose, h2.choose_spec.1⟩
  have := val_le hP h1 h4
  have := val_le hP h2 h3
  omega
open Classical in
noncomputable def v (P f : Po) : Nat := if h : ∃ k, Val P f k then Classical.choose h else 0
theorem v_val {P f : Po} (hP : Ir P) (hf : f ≠ 0) : Val P f (v P f) := by
  have h := val_ex hP _ f (Nat.le_refl _) hf
  unfold v
  rw [dif_pos h]
  exact Classical.choose_spec h
theorem v_eq {P f : Po} (hP : Ir P) (hf : f ≠ 0) {k : Nat} (h : Val P f k) : v P f = k := val_un hP (v_val hP hf) h
theorem v_dvd {P f : Po} (hP : Ir P) (hf : f ≠ 0) : P ^ v P f ∣ f := ⟨_, (v_val hP hf).choose_spec.1⟩
theorem v_le {P f : Po} (hP : Ir P) (hf : f ≠ 0) {k : Nat} (h : P ^ k ∣ f) : k ≤ v P f := val_le hP (v_val hP hf) h
theorem v_mul {P f g : Po} (hP : Ir P) (hf : f ≠ 0) (hg : g ≠ 0) : v P (f * g) = v P f + v P g := by
  obtain ⟨x, e1, n1⟩ := v_val hP hf
  obtain ⟨y, e2, n2⟩ := v_val hP hg
  refine v_eq hP (mul_ne hf hg) ⟨x * y, ?_, fun hd => (hP.prime hd).elim n1 n2⟩
  rw [pow_add']
  generalize P ^ v P f = A at *
  generalize P ^ v P g = B at *
  grind
theorem v_zero {P f : Po} (hP : Ir P) (hf : f ≠ 0) (h : ¬P ∣ f) : v P f = 0 := v_eq hP hf ⟨f, by rw [pow_zero']; grind, h⟩
theorem v_C {P : Po} (hP : Ir P) {x : Int} (hx : x ≠ 0) : v P (C x) = 0 := v_zero hP (C_ne hx) (hP.not_C hx)
theorem v_Cmul {P f : Po} (hP : Ir P) (hf : f ≠ 0) {x : Int} (hx : x ≠ 0) : v P (C x * f) = v P f := by rw [v_mul hP (C_ne hx) hf, v_C hP hx, Nat.zero_add]
theorem v_one {P : Po} (hP : Ir P) : v P 1 = 0 := v_C hP (x := 1) (by decide)
theorem v_pow {P f : Po} (hP : Ir P) (hf : f ≠ 0) : ∀ n : Nat, v P (f ^ n) = n * v P f
  | 0 => by rw [pow_zero', v_one hP, Nat.zero_mul]
  | n + 1 => by rw [pow_succ', v_mul hP (pow_ne hf n) hf, v_pow hP hf n, Nat.succ_mul]
theorem v_pos {P f : Po} (hP : Ir P) (hf : f ≠ 0) : 0 < v P f ↔ P ∣ f := by
  constructor
  · intro h
    have h1 := v_dvd hP hf
    have e : v P f = (v P f - 1) + 1 := by omega
    rw [e, pow_succ'] at h1
    exact dvd_tr ⟨P ^ (v P f - 1), by grind⟩ h1
  · intro h
    exact v_le hP hf (by rw [pow_one']; exact h)
theorem v_self {P : Po} (hP : Ir P) : v P P = 1 := v_eq hP hP.ne ⟨1, by rw [pow_one']; grind, hP.not_C (x := 1) (by decide)⟩
theorem v_other {P Q : Po} (hP : Ir P) (hQ : Ir Q) (h : P ≠ Q) : v P Q = 0 := v_zero hP hQ.ne fun hd => h (hP.eq hQ hd)
theorem v_mono {P f g : Po} (hP : Ir P) (hg : g ≠ 0) (h : f ∣ g) : v P f ≤ v P g := by
  obtain ⟨x, rfl⟩ := h
  have hf : f ≠ 0 := fun e => hg (by rw [e]; grind)
  have hx : x ≠ 0 := fun e => hg (by rw [e]; grind)
  rw [v_mul hP hf hx]
  omega
/-- told by the primes: a divisor, but for a number -/
theorem dvd_of_v : ∀ (n : Nat) (f g : Po), f.sz ≤ n → f ≠ 0 → g ≠ 0 → (∀ P, Ir P → v P f ≤ v P g) → ∃ m : Int, m ≠ 0 ∧ f ∣ C m * g := by
  intro n
  induction n with
  | zero => intro f g h1 h2; exact absurd (eq_zero (by omega)) h2
  | succ n ih =>
    intro f g h1 hf hg h
    by_cases h2 : 2 ≤ f.sz
    · obtain ⟨P, hP, x, e⟩ := ir_in _ f (Nat.le_refl _) h2
      have hx : x ≠ 0 := fun e0 => hf (by rw [e, e0]; grind)
      have h3 : 0 < v P g := by
        have h4 := h P hP
        rw [e, v_mul hP hP.ne hx, v_self hP] at h4
        omega
      obtain ⟨y, e2⟩ := (v_pos hP hg).mp h3
      have hy : y ≠ 0 := fun e0 => hg (by rw [e2, e0]; grind)
      have hs := sz_mul hP.ne hx
      rw [← e] at hs
      have := hP.two
      have := sz_pos hx
      obtain ⟨m, hm, w, hw⟩ := ih x y (by omega) hx hy fun Q hQ => by
        have h4 := h Q hQ
        rw [e, e2, v_mul hQ hP.ne hx, v_mul hQ hP.ne hy] at h4
        omega
      exact ⟨m, hm, w, by rw [e, e2]; grind⟩
    · have e := of_sz_one (p := f) (by omega)
      have h0 : f.c 0 ≠ 0 := fun e0 => hf (by rw [e, e0]; rfl)
      exact ⟨f.c 0, h0, g, by rw [← e]⟩
theorem sim_dvd {f g : Po} (hf : Sim f) (hg : g ≠ 0) (h : ∀ P, Ir P → v P f ≤ v P g) : f ∣ g := by
  obtain ⟨m, hm, hd⟩ := dvd_of_v _ f g (Nat.le_refl _) hf.ne hg h
  exact dvd_of_C hf.1 hm hd
theorem sim_of_v {f g : Po} (hf : Sim f) (hg : Sim g) (h : ∀ P, Ir P → v P f = v P g) : f = g :=
  sim_eq hf hg (sim_dvd hf hg.ne fun P hP => Nat.le_of_eq (h P hP)) (sim_dvd hg hf.ne fun P hP => Nat.le_of_eq (h P hP).symm)
/-- what meets tells: the lesser of the two counts -/
theorem v_meet {P p q g s t x y : Po} {m : Int} (hP : Ir P) (hp : p ≠ 0) (hq : q ≠ 0) (h1 : p = g * s) (h2 : q = g * t) (hm : m ≠ 0) (h : x * p + y * q = C m * g) : v P g = min (v P p) (v P q) := by
  have hg : g ≠ 0 := fun e => hp (by rw [h1, e]; grind)
  have a1 := v_mono hP hp ⟨s, h1⟩
  have a2 := v_mono hP hq ⟨t, h2⟩
  have a3 : P ^ min (v P p) (v P q) ∣ C m * g := by
    rw [← h]
    have d : ∀ (f : Po) (k : Nat), f ≠ 0 → k ≤ v P f → P ^ k ∣ f := fun f k hf hk => by
      refine dvd_tr ⟨P ^ (v P f - k), ?_⟩ (v_dvd hP hf)
      rw [← pow_add']
      congr 1
      omega
    exact dvd_add' (dvd_mulL (d p _ hp (Nat.min_le_left _ _)) _) (dvd_mulL (d q _ hq (Nat.min_le_right _ _)) _)
  have a4 := v_le hP (mul_ne (C_ne hm) hg) a3
  rw [v_Cmul hP hg hm] at a4
  omega
/-! the slope -/
theorem cf_slope (p : List Int) (k : Nat) : cf (slopeI p) k = ((k + 1 : Nat) : Int) * cf p (k + 1) := by
  unfold slopeI
  by_cases h : k < p.length - 1
  · rw [cf_lt (by rw [List.length_map, List.length_range]; exact h)]
    simp
  · rw [cf_ge (by rw [List.length_map, List.length_range]; omega), cf_ge (p := p) (by omega), Int.mul_zero]
def D (p : Po) : Po := ⟨trimI (slopeI p.l), nf_trim _⟩
theorem c_D (p : Po) (k : Nat) : (D p).c k = ((k + 1 : Nat) : Int) * p.c (k + 1) := by
  show cf (trimI _) k = _
  rw [cf_trim, cf_slope]
  rfl
theorem c_Xmul (p : Po) (k : Nat) : (Xp * p).c k = if k = 0 then 0 else p.c (k - 1) := by
  rw [c_mul]
  show cf (mulL [0, 1] p.l) k = _
  cases k with
  | zero => rw [cf_mul_zero]; simp
  | succ k =>
    rw [cf_mul_succ]
    cases k with
    | zero => rw [cf_mul_zero]; simp [c]
    | succ k => rw [cf_mul_succ]; simp [c, mulL]
theorem ind {M : Po → Prop} (h0 : M 0) (hs : ∀ x p, M p → M (C x + Xp * p)) : ∀ p, M p := by
  intro ⟨l, nf⟩
  induction l with
  | nil => exact h0
  | cons x r ih =>
    have e : Po.mk (x :: r) nf = C x + Xp * ⟨r, nf_tail nf⟩ := ext fun k => by
      rw [c_add, c_C, c_Xmul]
      cases k with
      | zero => simp [c]
      | succ k => simp [c]
    rw [e]
    exact hs x _ (ih _)
theorem D_add (p q : Po) : D (p + q) = D p + D q := ext fun k => by rw [c_D, c_add, c_add, c_D, c_D, Int.mul_add]
theorem D_C (x : Int) : D (C x) = 0 := ext fun k => by
  rw [c_D, c_C, c_zero, if_neg (by omega), Int.mul_zero]
theorem D_Cmul (x : Int) (p : Po) : D (C x * p) = C x * D p := ext fun k => by
  rw [c_D, c_Cmul, c_Cmul, c_D]
  grind
theorem D_Xmul (p : Po) : D (Xp * p) = p + Xp * D p := ext fun k => by
  rw [c_D, c_Xmul, c_add, c_Xmul, if_neg (by omega), Nat.add_sub_cancel]
  cases k with
  | zero => simp
  | succ k =>
    rw [if_neg (by omega), Nat.add_sub_cancel, c_D]
    have : ((k + 1 + 1 : Nat) : Int) = ((k + 1 : Nat) : Int) + 1 := by omega
    rw [this]
    grind
theorem D_mul (p q : Po) : D (p * q) = D p * q + p * D q := by
  revert q
  refine ind (M := fun p => ∀ q, D (p * q) = D p * q + p * D q) (fun q => ?_) (fun x p ih q => ?_) p
  · have e : (0 : Po) * q = 0 := by grind
    have e2 : D 0 = 0 := D_C 0
    rw [e, e2]
    grind
  · have e : (C x + Xp * p) * q = C x * q + Xp * (p * q) := by grind
    rw [e, D_add, D_add, D_C, D_Cmul, D_Xmul, D_Xmul, ih]
    grind
theorem D_pow (p : Po) : ∀ n : Nat, D (p ^ (n + 1)) = C ((n + 1 : Nat) : Int) * p ^ n * D p
  | 0 => by
    rw [pow_one', pow_zero', ← one_C.symm.trans rfl]
    show D p = (1 : Po) * 1 * D p
    grind
  | n + 1 => by
    rw [pow_succ', D_mul, D_pow p n]
    have e : ((n + 1 + 1 : Nat) : Int) = ((n + 1 : Nat) : Int) + 1 := by omega
    rw [e, C_add, ← one_C, pow_succ']
    grind
theorem sz_D (p : Po) : (D p).sz ≤ p.sz - 1 := sz_le fun k hk => by rw [c_D, c_ge (by omega), Int.mul_zero]
theorem D_ne {p : Po} (h : 2 ≤ p.sz) : D p ≠ 0 := ne_of_sz (Nat.lt_of_le_of_lt (Nat.zero_le _) (sz_lt (k := p.sz - 2) (by
  rw [c_D, show p.sz - 2 + 1 = p.sz - 1 by omega]
  exact Int.mul_ne_zero (by omega) (ld_ne (ne_of_sz (by omega))))))
theorem Ir.not_D {P : Po} (h : Ir P) : ¬P ∣ D P := fun hd => by
  have h1 := sz_dvd hd (D_ne h.two)
  have h2 := sz_D P
  have := h.two
  omega
/-- the slope has a prime once less -/
theorem v_D {P f : Po} (hP : Ir P) (hf : f ≠ 0) (h : 0 < v P f) : D f ≠ 0 ∧ v P (D f) + 1 = v P f := by
  obtain ⟨x, e, n1⟩ := v_val hP hf
  obtain ⟨k, hk⟩ : ∃ k, v P f = k + 1 := ⟨v P f - 1, by omega⟩
  rw [hk] at e
  have hx : x ≠ 0 := fun e0 => hf (by rw [e, e0]; grind)
  have e2 : D f = P ^ k * (C ((k + 1 : Nat) : Int) * D P * x + P * D x) := by
    rw [e, D_mul, D_pow, pow_succ']
    grind
  have n2 : ¬P ∣ C ((k + 1 : Nat) : Int) * D P * x + P * D x := fun hd => by
    have h1 : P ∣ C ((k + 1 : Nat) : Int) * D P * x := by
      have h2 := dvd_sub' hd (dvd_mulR (dvd_refl' P) (D x))
      have h3 : C ((k + 1 : Nat) : Int) * D P * x + P * D x - P * D x = C ((k + 1 : Nat) : Int) * D P * x := by grind
      rw [h3] at h2
      exact h2
    rcases hP.prime h1 with h2 | h2
    · rcases hP.prime h2 with h3 | h3
      · exact hP.not_C (by omega) h3
      · exact hP.not_D h3
    · exact n1 h2
  have hne : D f ≠ 0 := fun e0 => by
    have h3 : C ((k + 1 : Nat) : Int) * D P * x + P * D x = 0 := mul_cancel (pow_ne hP.ne k) (by rw [← e2, e0]; grind)
    exact n2 (by rw [h3]; exact dvd_zero' P)
  refine ⟨hne, ?_⟩
  rw [v_eq hP hne ⟨_, e2, n2⟩, hk]
end Po
end PP
/-! Quo: long division of rows, by its steps -/
namespace PP
/-- what a row tells as a polynomial -/
def Po.of (l : List Int) : Po := ⟨trimI l, nf_trim l⟩
namespace Po
theorem c_of (l : List Int) (k : Nat) : (of l).c k = cf l k := cf_trim l k
theorem c_of_mul (p q : List Int) (k : Nat) : (of p * of q).c k = cf (mulL p q) k := by
  rw [c_mul]
  show cf (mulL (trimI p) (trimI q)) k = _
  rw [cf_mul_congrL (cf_trim p), cf_mul_congr (cf_trim q)]
theorem of_nf {l : List Int} (h : Nf l) : (of l).l = l := h
theorem of_l (p : Po) : of p.l = p := ext fun k => c_of _ _
theorem of_mulI (p q : List Int) : of (mulI p q) = of p * of q := ext fun k => by rw [c_of_mul, c_of, cf_mulI]
theorem of_plusI (p q : List Int) : of (plusI p q) = of p + of q := ext fun k => by rw [c_add, c_of, c_of, c_of, cf_plus]
theorem of_minusI (p q : List Int) : of (minusI p q) = of p - of q := ext fun k => by rw [c_sub, c_of, c_of, c_of, cf_minus]
theorem of_scaledI (x : Int) (p : List Int) : of (scaledI x p) = C x * of p := ext fun k => by rw [c_Cmul, c_of, c_of, cf_scaled]
theorem of_powI (p : List Int) : ∀ n : Nat, of (powI p n) = of p ^ n
  | 0 => by rw [pow_zero']; rfl
  | n + 1 => by
    rw [pow_succ', ← of_powI p n]
    exact of_mulI _ _
theorem of_nil : of [] = 0 := rfl
theorem of_inj {p q : List Int} (hp : Nf p) (hq : Nf q) (h : of p = of q) : p = q := by
  have := congrArg Po.l h
  rw [of_nf hp, of_nf hq] at this
  exact this
theorem of_eq {p q : List Int} (hp : Nf p) (hq : Nf q) : of p = of q ↔ p = q := ⟨of_inj hp hq, fun e => by rw [e]⟩
theorem sz_of' {l : List Int} (h : Nf l) : (of l).sz = l.length := by
  unfold sz
  rw [of_nf h]
end Po
theorem cf_mul_set : ∀ (p q : List Int) (i : Nat) (v : Int) (k : Nat), i < p.length → cf (mulL (p.set i v) q) k = cf (mulL p q) k + (if i ≤ k then (v - cf p i) * cf q (k - i) else 0)
  | [], _, _, _, _, h => absurd h (Nat.not_lt_zero _)
  | x :: r, q, 0, v, 0, _ => by
    show cf (mulL (v :: r) q) 0 = _
    rw [cf_mul_zero, cf_mul_zero, cf_zero, if_pos (Nat.le_refl 0)]
    grind
  | x :: r, q, 0, v, k + 1, _ => by
    show cf (mulL (v :: r) q) (k + 1) = _
    rw [cf_mul_succ, cf_mul_succ, cf_zero, if_pos (Nat.zero_le _), Nat.sub_zero]
    grind
  | x :: r, q, i + 1, v, 0, _ => by
    show cf (mulL (x :: r.set i v) q) 0 = _
    rw [cf_mul_zero, cf_mul_zero, if_neg (by omega), Int.add_zero]
  | x :: r, q, i + 1, v, k + 1, h => by
    show cf (mulL (x :: r.set i v) q) (k + 1) = _
    rw [cf_mul_succ, cf_mul_succ, cf_mul_set r q i v k (by simpa using h), cf_succ, Nat.add_sub_add_right]
    by_cases hk : i ≤ k
    · rw [if_pos hk, if_pos (by omega)]
      grind
    · rw [if_neg hk, if_neg (by omega)]
      grind
/-- long division with m places to go -/
structure LD (row by_ found rest : List Int) (m : Nat) : Prop where
  lr : rest.length = row.length
  lf : found.length + by_.length = row.length + 1
  eq : ∀ k, cf rest k = cf row k - cf (mulL found by_) k
  hi : ∀ k, m + by_.length ≤ k + 1 → cf rest k = 0
  lo : ∀ k, k < m → cf found k = 0
  le : m ≤ found.length
variable {row by_ found rest : List Int} {m : Nat}
theorem LD.init (h : by_.length ≤ row.length) (hf : found.length + by_.length = row.length + 1) (h0 : ∀ k, cf found k = 0) : LD row by_ found row found.length where
  lr := rfl
  lf := hf
  eq k := by
    have : cf (mulL found by_) k = 0 := by
      rw [cf_mul_congrL (p' := []) (fun k => by rw [h0, cf_nil])]
      simp [mulL]
    rw [this, Int.sub_zero]
  hi k hk := cf_ge (by omega)
  lo k _ := h0 k
  le := Nat.le_refl _
theorem LD.step (h : LD row by_ found rest (m + 1)) (hb : by_ ≠ []) {f : Int} (hf : f * cf by_ (by_.length - 1) = cf rest (m + by_.length - 1)) {rest' : List Int} (hl : rest'.length = rest.length)
    (hr : ∀ k, cf rest' k = cf rest k - (if m ≤ k then f * cf by_ (k - m) else 0)) : LD row by_ (found.set m f) rest' m where
  lr := hl.trans h.lr
  lf := by rw [List.length_set]; exact h.lf
  eq k := by
    have hle := h.le
    rw [hr, h.eq, cf_mul_set _ _ _ _ _ (by omega), h.lo m (by omega)]
    split <;> grind
  hi k hk := by
    have hb0 := List.length_pos_iff.mpr hb
    rw [hr]
    by_cases e : k = m + by_.length - 1
    · rw [e, if_pos (by omega), show m + by_.length - 1 - m = by_.length - 1 by omega, hf]
      omega
    · rw [h.hi k (by omega), if_pos (by omega), cf_ge (p := by_) (by omega)]
      simp
  lo k hk := by
    have hle := h.le
    rw [cf_set _ _ _ (by omega), if_neg (by omega)]
    exact h.lo k (by omega)
  le := by
    have := h.le
    rw [List.length_set]
    omega
open Po in
/-- where there is a quotient, the division finds it from above -/
theorem LD.exact (h : LD row by_ found rest m) (hb : Nf by_) (hb0 : by_ ≠ []) {q : Po} (hq : of row = q * of by_) : (∀ k, m ≤ k → cf found k = q.c k) ∧ (∀ j, m = j + 1 → cf rest (j + by_.length - 1) = q.c j * cf by_ (by_.length - 1)) := by
  have hbp : 0 < by_.length := List.length_pos_iff.mpr hb0
  have hsb : (of by_).sz = by_.length := sz_of' hb
  have hbn : of by_ ≠ 0 := ne_of_sz (by omega)
  have he : ∀ k, ((q - of found) * of by_).c k = cf rest k := fun k => by
    have e : (q - of found) * of by_ = of row - of found * of by_ := by rw [hq]; grind
    rw [e, c_sub, c_of_mul, c_of, h.eq]
  have hs : (q - of found).sz ≤ m := by
    by_cases h0 : q - of found = 0
    · rw [h0, sz_zero]
      omega
    · have h1 : ((q - of found) * of by_).sz ≤ m + by_.length - 1 := sz_le fun k hk => by
        rw [he, h.hi k (by omega)]
      rw [sz_mul h0 hbn, hsb] at h1
      have := sz_pos h0
      omega
  refine ⟨fun k hk => ?_, fun j hj => ?_⟩
  · have h1 := c_ge (p := q - of found) (k := k) (by omega)
    rw [c_sub, c_of] at h1
    omega
  · have h2 : (q - of found).c j = q.c j := by
      rw [c_sub, c_of, h.lo j (by omega)]
      omega
    rw [← he, ← h2]
    by_cases h0 : (q - of found).sz = m
    · have h3 := c_top (p := q - of found) (q := of by_) (ne_of_sz (by omega)) hbn
      rw [h0, hsb, show m - 1 + (by_.length - 1) = j + by_.length - 1 by omega] at h3
      rw [h3]
      unfold ld
      rw [h0, hsb, c_of, show m - 1 = j by omega]
    · rw [c_ge (p := q - of found) (k := j) (by omega), Int.zero_mul]
      by_cases hz : q - of found = 0
      · rw [hz]
        have : (0 : Po) * of by_ = 0 := by grind
        rw [this, c_zero]
      · refine c_ge ?_
        rw [sz_mul hz hbn, hsb]
        have := sz_pos hz
        omega
open Po in
theorem LD.none (h : LD row by_ found rest (m + 1)) (hb : Nf by_) (hb0 : by_ ≠ []) (hn : ¬cf by_ (by_.length - 1) ∣ cf rest (m + by_.length - 1)) : ¬∃ q, of row = q * of by_ := fun ⟨q, hq⟩ => hn (by
  rw [(h.exact hb hb0 hq).2 m rfl]
  exact Int.dvd_mul_left _ _)
open Po in
theorem LD.done (h : LD row by_ found rest 0) (hz : trimI rest = []) : of row = of found * of by_ := ext fun k => by
  have h1 : cf rest k = 0 := by rw [← cf_trim, hz, cf_nil]
  rw [c_of_mul, c_of]
  have := h.eq k
  omega
open Po in
theorem LD.not_done (h : LD row by_ found rest 0) (hb : Nf by_) (hb0 : by_ ≠ []) (hz : trimI rest ≠ []) : ¬∃ q, of row = q * of by_ := fun ⟨q, hq⟩ => hz (by
  have h1 := (h.exact hb hb0 hq).1
  refine trim_ext (q := []) fun k => ?_
  have e : of found = q := ext fun k => by rw [c_of]; exact h1 k (Nat.zero_le k)
  rw [cf_nil, h.eq, ← c_of_mul, e, ← hq, c_of]
  omega)
/-- the same, also where the row is shorter than what divides it -/
def LDx (row by_ found rest : List Int) (m : Nat) : Prop := LD row by_ found rest m ∨ (row.length < by_.length ∧ rest = row ∧ found = [] ∧ m = 0)
theorem LDx.ld {j : Nat} (h : LDx row by_ found rest m) (e : m = j + 1) : LD row by_ found rest (j + 1) := by
  rcases h with h | h
  · rw [e] at h
    exact h
  · omega
open Po in
theorem LDx.done (h : LDx row by_ found rest 0) (hz : trimI rest = []) : of row = of found * of by_ := by
  rcases h with h | ⟨_, rfl, rfl, _⟩
  · exact h.done hz
  · have e : of rest = 0 := by
      unfold of
      congr 1
    rw [e, of_nil]
    grind
open Po in
theorem LDx.not_done (h : LDx row by_ found rest 0) (hb : Nf by_) (hb0 : by_ ≠ []) (hz : trimI rest ≠ []) : ¬∃ q, of row = q * of by_ := by
  rcases h with h | ⟨hl, rfl, rfl, _⟩
  · exact h.not_done hb hb0 hz
  · intro ⟨q, hq⟩
    have hbn : of by_ ≠ 0 := ne_of_sz (by
      rw [sz_of' hb]
      omega)
    by_cases h0 : q = 0
    · have e : of rest = 0 := by
        rw [hq, h0]
        grind
      exact hz (congrArg Po.l e)
    · have h1 := sz_mul h0 hbn
      have h2 := sz_pos h0
      have h3 : (of rest).sz ≤ rest.length := trim_len rest
      rw [hq, h1, sz_of' hb] at h3
      omega
/-! contents and simple rows, as polynomials -/
theorem cont_dvd_cf (ns : List Int) (k : Nat) : (cont ns : Int) ∣ cf ns k := by
  by_cases h : k < ns.length
  · rw [cf_lt h]
    exact cont_dvd (List.getElem_mem h)
  · rw [cf_ge (by omega)]
    exact Int.dvd_zero _
theorem cf_map_div (c : Int) (ns : List Int) (k : Nat) : cf (ns.map fun x => x / c) k = cf ns k / c := by
  unfold cf
  rw [List.getD_eq_getElem?_getD, List.getD_eq_getElem?_getD, List.getElem?_map]
  cases ns[k]? with
  | none => simp
  | some y => rfl
theorem cf_map_neg (ns : List Int) (k : Nat) : cf (ns.map fun x => -x) k = -cf ns k := by
  unfold cf
  rw [List.getD_eq_getElem?_getD, List.getD_eq_getElem?_getD, List.getElem?_map]
  cases ns[k]? with
  | none => simp
  | some y => rfl
namespace Po
theorem pr_of_cont {l : List Int} (h : cont l = 1) : Pr (of l) := fun n hn hd => by
  have h1 : n ∣ cont l := dvd_cont fun x hx => by
    obtain ⟨i, hi, e⟩ := List.getElem_of_mem hx
    have := hd i
    rw [c_of, cf_lt hi, e] at this
    exact this
  rw [h] at h1
  have := Nat.le_of_dvd (by decide) h1
  have := hn.1
  omega
theorem cont_of_pr {p : Po} (h : Pr p) : cont p.l = 1 := by
  refine Classical.byContradiction fun hc => ?_
  have h0 : cont p.l ≠ 0 := fun e => h.ne (ext fun k => by
    have h1 := cont_dvd_cf p.l k
    rw [e] at h1
    rw [c_zero]
    exact Int.zero_dvd.mp h1)
  obtain ⟨l, hl, hd⟩ := prime_in (cont p.l) (by omega)
  exact h l hl fun k => Int.dvd_trans (Int.natCast_dvd_natCast.mpr hd) (cont_dvd_cf p.l k)
/-- a row is so many times its simple one -/
theorem simple_of {l : List Int} (hl : Nf l) (h0 : l ≠ []) : ∃ c : Int, c ≠ 0 ∧ of l = C c * of (simpleI l) ∧ Sim (of (simpleI l)) ∧ Nf (simpleI l) := by
  have hlast := nf_last hl h0
  have hpos : 0 < l.length := List.length_pos_iff.mpr h0
  have hmem : cf l (l.length - 1) ∈ l := by
    rw [cf_lt (by omega)]
    exact List.getElem_mem _
  have hc : 0 < cont l := cont_pos ⟨_, hmem, hlast⟩
  have hget : l.getD (l.length - 1) 0 = cf l (l.length - 1) := rfl
  have hcn : (cont l : Int) ≠ 0 := by omega
  have key : ∃ c : Int, c ≠ 0 ∧ (∀ k, cf l k = c * cf (simpleI l) k) ∧ 0 < cf (simpleI l) (l.length - 1) ∧ cont (simpleI l) = 1 := by
    by_cases hn : cf l (l.length - 1) < 0
    · have e : simpleI l = (l.map fun x => x / (cont l : Int)).map fun x => -x := if_pos hn
      have e2 : ∀ k, cf (simpleI l) k = -(cf l k / (cont l : Int)) := fun k => by rw [e, cf_map_neg, cf_map_div]
      refine ⟨-(cont l : Int), by omega, fun k => ?_, ?_, ?_⟩
      · rw [e2, Int.neg_mul_neg, Int.mul_ediv_cancel' (cont_dvd_cf l k)]
      · rw [e2]
        have h1 := Int.mul_ediv_cancel' (cont_dvd_cf l (l.length - 1))
        have h2 : cf l (l.length - 1) / (cont l : Int) < 0 := by
          refine Decidable.by_contra fun hge => ?_
          have := Int.mul_nonneg (show (0 : Int) ≤ (cont l : Int) by omega) (show 0 ≤ cf l (l.length - 1) / (cont l : Int) by omega)
          omega
        omega
      · rw [e, cont_neg]
        exact cont_left rfl hc
    · have e : simpleI l = l.map fun x => x / (cont l : Int) := if_neg hn
      have e2 : ∀ k, cf (simpleI l) k = cf l k / (cont l : Int) := fun k => by rw [e, cf_map_div]
      refine ⟨(cont l : Int), by omega, fun k => ?_, ?_, ?_⟩
      · rw [e2, Int.mul_ediv_cancel' (cont_dvd_cf l k)]
      · rw [e2]
        have h1 := Int.mul_ediv_cancel' (cont_dvd_cf l (l.length - 1))
        refine Decidable.by_contra fun hge => ?_
        have h3 : cf l (l.length - 1) / (cont l : Int) = 0 ∨ cf l (l.length - 1) / (cont l : Int) < 0 := by omega
        rcases h3 with h3 | h3
        · rw [h3, Int.mul_zero] at h1
          omega
        · have := Int.mul_neg_of_pos_of_neg (show (0 : Int) < (cont l : Int) by omega) h3
          omega
      · rw [e]
        exact cont_left rfl hc
  obtain ⟨c, c0, hcf, hl2, hcont⟩ := key
  have hnf : Nf (simpleI l) := nf_of_last (.inr (by rw [simple_len]; omega))
  refine ⟨c, c0, ext fun k => by rw [c_Cmul, c_of, c_of, hcf], ⟨pr_of_cont hcont, ?_⟩, hnf⟩
  unfold ld
  rw [sz_of' hnf, simple_len, c_of]
  exact hl2
/-- the simple row of a simple one is itself -/
theorem simple_id {l : List Int} (hl : Nf l) (h : Sim (of l)) : simpleI l = l := by
  have h0 : l ≠ [] := fun e => h.ne (by rw [e]; rfl)
  obtain ⟨c, c0, e, hs, hn⟩ := simple_of hl h0
  exact of_inj hn hl (sim_eqC hs h c0 (by decide : (1 : Int) ≠ 0) (by
    rw [← e, ← one_C]
    grind))
end Po
end PP
/-! Par: products of parts without squares, told by how often each prime divides -/
namespace PP
namespace Po
theorem sim_one_of_v {g : Po} (hg : Sim g) (h : ∀ P, Ir P → v P g = 0) : g = 1 := sim_of_v hg sim_one fun P hP => by rw [h P hP, v_one hP]
/-- what divides just the one or the other -/
theorem meet_one {p q g s t x y : Po} {m : Int} (hp : p ≠ 0) (hq : q ≠ 0) (hg : Sim g) (h1 : p = g * s) (h2 : q = g * t) (hm : m ≠ 0) (h : x * p + y * q = C m * g) (hv : ∀ P, Ir P → min (v P p) (v P q) = 0) : g = 1 :=
  sim_one_of_v hg fun P hP => by rw [v_meet hP hp hq h1 h2 hm h, hv P hP]
/-- no square: it meets its slope in 1 -/
theorem meet_slope {f g s t x y : Po} {m : Int} (hf : f ≠ 0) (hg : Sim g) (h1 : f = g * s) (h2 : D f = g * t) (hm : m ≠ 0) (h : x * f + y * D f = C m * g) : g = 1 ↔ ∀ P, Ir P → v P f ≤ 1 := by
  by_cases hd : D f = 0
  · have hs : f.sz ≤ 1 := Decidable.by_contra fun hc => D_ne (show 2 ≤ f.sz by omega) hd
    have e := of_sz_one hs
    have h0 : f.c 0 ≠ 0 := fun e0 => hf (by rw [e, e0]; rfl)
    have hv : ∀ P, Ir P → v P f = 0 := fun P hP => by rw [e, v_C hP h0]
    refine ⟨fun _ P hP => by rw [hv P hP]; omega, fun _ => sim_one_of_v hg fun P hP => ?_⟩
    have := v_mono hP hf ⟨s, h1⟩
    rw [hv P hP] at this
    omega
  · constructor
    · intro e P hP
      refine Decidable.by_contra fun hc => ?_
      have h3 := v_D hP hf (by omega)
      have h4 := v_meet hP hf hd h1 h2 hm h
      rw [e, v_one hP] at h4
      omega
    · intro hv
      refine meet_one hf hd hg h1 h2 hm h fun P hP => ?_
      have h3 := hv P hP
      by_cases h0 : v P f = 0
      · rw [h0]
        omega
      · have h4 := (v_D hP hf (by omega)).2
        omega
def prodP : List (Po × Nat) → Po
  | [] => 1
  | r :: l => r.1 ^ r.2 * prodP l
/-- how often a prime divides the product -/
noncomputable def sumV (P : Po) : List (Po × Nat) → Nat
  | [] => 0
  | r :: l => r.2 * v P r.1 + sumV P l
theorem prodP_ne : ∀ {l : List (Po × Nat)}, (∀ r ∈ l, r.1 ≠ 0) → prodP l ≠ 0
  | [], _ => one_ne
  | r :: l, h => mul_ne (pow_ne (h r List.mem_cons_self) _) (prodP_ne fun s hs => h s (List.mem_cons_of_mem _ hs))
theorem v_prodP {P : Po} (hP : Ir P) : ∀ {l : List (Po × Nat)}, (∀ r ∈ l, r.1 ≠ 0) → v P (prodP l) = sumV P l
  | [], _ => v_one hP
  | r :: l, h => by
    have h1 := h r List.mem_cons_self
    have h2 : ∀ s ∈ l, s.1 ≠ 0 := fun s hs => h s (List.mem_cons_of_mem _ hs)
    show v P (r.1 ^ r.2 * prodP l) = r.2 * v P r.1 + sumV P l
    rw [v_mul hP (pow_ne h1 _) (prodP_ne h2), v_pow hP h1, v_prodP hP h2]
theorem prodP_append : ∀ (l m : List (Po × Nat)), prodP (l ++ m) = prodP l * prodP m
  | [], m => (one_mul' _).symm
  | r :: l, m => by
    show r.1 ^ r.2 * prodP (l ++ m) = r.1 ^ r.2 * prodP l * prodP m
    rw [prodP_append l m, mul_assoc']
structure IsParts (f : Po) (c : Int) (rows : List (Po × Nat)) : Prop where
  c0 : c ≠ 0
  eq : f = C c * prodP rows
  row : ∀ r ∈ rows, Sim r.1 ∧ 2 ≤ r.1.sz ∧ 1 ≤ r.2 ∧ ∀ P, Ir P → v P r.1 = if v P f = r.2 then 1 else 0
  up : rows.Pairwise fun a b => a.2 < b.2
theorem IsParts.ne {f : Po} {c : Int} {rows : List (Po × Nat)} (h : IsParts f c rows) : f ≠ 0 := by
  rw [h.eq]
  exact mul_ne (C_ne h.c0) (prodP_ne fun r hr => (h.row r hr).1.ne)
theorem sumV_zero {P : Po} : ∀ {l : List (Po × Nat)}, (∀ r ∈ l, v P r.1 = 0) → sumV P l = 0
  | [], _ => rfl
  | r :: l, h => by
    show r.2 * v P r.1 + sumV P l = 0
    rw [h r List.mem_cons_self, sumV_zero fun s hs => h s (List.mem_cons_of_mem _ hs)]
    rfl
theorem sumV_pos {P : Po} : ∀ {l : List (Po × Nat)}, 0 < sumV P l → ∃ r ∈ l, 0 < v P r.1
  | [], h => absurd h (Nat.lt_irrefl 0)
  | r :: l, h => by
    by_cases h0 : 0 < v P r.1
    · exact ⟨r, List.mem_cons_self, h0⟩
    · have e : v P r.1 = 0 := by omega
      have h' : 0 < r.2 * v P r.1 + sumV P l := h
      rw [e] at h'
      obtain ⟨s, hs, h2⟩ := sumV_pos (P := P) (l := l) (by omega)
      exact ⟨s, List.mem_cons_of_mem _ hs, h2⟩
/-- a prime's count is one of the counts -/
theorem IsParts.has {f : Po} {c : Int} {rows : List (Po × Nat)} (h : IsParts f c rows) {P : Po} (hP : Ir P) (hv : 0 < v P f) : ∃ r ∈ rows, r.2 = v P f ∧ v P r.1 = 1 := by
  have h1 : v P f = sumV P rows := by
    have h2 : v P f = v P (prodP rows) := by
      have h3 := v_Cmul hP (prodP_ne fun r hr => (h.row r hr).1.ne) h.c0
      rw [← h.eq] at h3
      exact h3
    rw [h2, v_prodP hP fun r hr => (h.row r hr).1.ne]
  obtain ⟨r, hr, h2⟩ := sumV_pos (h1 ▸ hv)
  have h3 := (h.row r hr).2.2.2 P hP
  split at h3
  · rename_i e
    exact ⟨r, hr, e.symm, h3⟩
  · omega
/-- each count is a prime's -/
theorem IsParts.of_row {f : Po} {c : Int} {rows : List (Po × Nat)} (h : IsParts f c rows) {r : Po × Nat} (hr : r ∈ rows) : ∃ P, Ir P ∧ v P r.1 = 1 ∧ v P f = r.2 := by
  obtain ⟨hs, h2, h1, hv⟩ := h.row r hr
  obtain ⟨P, hP, hd⟩ := ir_in _ r.1 (Nat.le_refl _) h2
  have h3 := (v_pos hP hs.ne).mpr hd
  have h4 := hv P hP
  split at h4
  · rename_i e
    exact ⟨P, hP, h4, e⟩
  · omega
theorem IsParts.sub {f : Po} {c c' : Int} {rows rows' : List (Po × Nat)} (h : IsParts f c rows) (h' : IsParts f c' rows') : ∀ r ∈ rows, r ∈ rows' := fun r hr => by
  obtain ⟨P, hP, h1, h2⟩ := h.of_row hr
  have h3 := h.row r hr
  obtain ⟨s, hs, h4, h5⟩ := h'.has hP (by omega)
  have h6 := h'.row s hs
  have e2 : s.2 = r.2 := by omega
  have e1 : s.1 = r.1 := sim_of_v h6.1 h3.1 fun Q hQ => by rw [h6.2.2.2 Q hQ, h3.2.2.2 Q hQ, e2]
  have e : s = r := Prod.ext e1 e2
  exact e ▸ hs
theorem sorted_eq : ∀ {a b : List (Po × Nat)}, a.Pairwise (fun x y => x.2 < y.2) → b.Pairwise (fun x y => x.2 < y.2) → (∀ x, x ∈ a → x ∈ b) → (∀ x, x ∈ b → x ∈ a) → a = b
  | [], [], _, _, _, _ => rfl
  | [], y :: b, _, _, _, h => absurd (h y List.mem_cons_self) (by simp)
  | x :: a, [], _, _, h, _ => absurd (h x List.mem_cons_self) (by simp)
  | x :: a, y :: b, ha, hb, h1, h2 => by
    rw [List.pairwise_cons] at ha hb
    have exy : x = y := by
      have h3 := h1 x List.mem_cons_self
      have h4 := h2 y List.mem_cons_self
      rw [List.mem_cons] at h3 h4
      rcases h3 with e | h3
      · exact e
      · rcases h4 with e | h4
        · exact e.symm
        · have := ha.1 y h4
          have := hb.1 x h3
          omega
    subst exy
    congr 1
    refine sorted_eq ha.2 hb.2 (fun z hz => ?_) (fun z hz => ?_)
    · have h3 := h1 z (List.mem_cons_of_mem _ hz)
      rw [List.mem_cons] at h3
      rcases h3 with e | h3
      · have := ha.1 z hz
        rw [e] at this
        omega
      · exact h3
    · have h3 := h2 z (List.mem_cons_of_mem _ hz)
      rw [List.mem_cons] at h3
      rcases h3 with e | h3
      · have := hb.1 z hz
        rw [e] at this
        omega
      · exact h3
/-- there is just one such answer -/
theorem IsParts.unique {f : Po} {c c' : Int} {rows rows' : List (Po × Nat)} (h : IsParts f c rows) (h' : IsParts f c' rows') : c = c' ∧ rows = rows' := by
  have e : rows = rows' := sorted_eq h.up h'.up (h.sub h') (h'.sub h)
  subst e
  refine ⟨?_, rfl⟩
  have h1 : prodP rows * C c = prodP rows * C c' := by rw [mul_comm', mul_comm' _ (C c'), ← h.eq, ← h'.eq]
  exact C_inj (mul_cancel (prodP_ne fun r hr => (h.row r hr).1.ne) h1)
/-- made of rows without squares, of which no two share a prime -/
theorem isParts_of {f : Po} {c : Int} {rows : List (Po × Nat)} (c0 : c ≠ 0) (eq : f = C c * prodP rows) (row : ∀ r ∈ rows, Sim r.1 ∧ 2 ≤ r.1.sz ∧ 1 ≤ r.2 ∧ ∀ P, Ir P → v P r.1 ≤ 1)
    (up : rows.Pairwise fun a b => a.2 < b.2) (apart : ∀ P, Ir P → rows.Pairwise fun a b => v P a.1 = 0 ∨ v P b.1 = 0) : IsParts f c rows := by
  refine ⟨c0, eq, fun r hr => ?_, up⟩
  obtain ⟨h1, h2, h3, h4⟩ := row r hr
  refine ⟨h1, h2, h3, fun P hP => ?_⟩
  have hv : v P f = sumV P rows := by
    have h5 := v_Cmul hP (prodP_ne fun r hr => (row r hr).1.ne) c0
    rw [← eq] at h5
    rw [h5, v_prodP hP fun r hr => (row r hr).1.ne]
  have key : ∀ {l : List (Po × Nat)}, (∀ r ∈ l, v P r.1 ≤ 1 ∧ 1 ≤ r.2) → l.Pairwise (fun a b => v P a.1 = 0 ∨ v P b.1 = 0) → l.Pairwise (fun a b => a.2 < b.2) → ∀ r ∈ l, v P r.1 = if sumV P l = r.2 then 1 else 0 := by
    intro l
    induction l with
    | nil => intro _ _ _ r hr; exact absurd hr (by simp)
    | cons s l ih =>
      intro hb hp hu r hr
      rw [List.pairwise_cons] at hp hu
      have hs := hb s List.mem_cons_self
      have hl : ∀ r ∈ l, v P r.1 ≤ 1 ∧ 1 ≤ r.2 := fun r hr => hb r (List.mem_cons_of_mem _ hr)
      show _ = if s.2 * v P s.1 + sumV P l = r.2 then 1 else 0
      by_cases h0 : v P s.1 = 0
      · rw [h0, Nat.mul_zero, Nat.zero_add]
        rw [List.mem_cons] at hr
        rcases hr with e | hr
        · rw [e, h0, if_neg fun hc => ?_]
          have hpos : 0 < sumV P l := by omega
          obtain ⟨t, ht, h6⟩ := sumV_pos hpos
          have h7 := ih hl hp.2 hu.2 t ht
          have h8 := hu.1 t ht
          split at h7
          · omega
          · omega
        · exact ih hl hp.2 hu.2 r hr
      · have e1 : v P s.1 = 1 := by omega
        have hz : ∀ t ∈ l, v P t.1 = 0 := fun t ht => (hp.1 t ht).resolve_left h0
        rw [e1, Nat.mul_one, sumV_zero hz, Nat.add_zero]
        rw [List.mem_cons] at hr
        rcases hr with e | hr
        · rw [e, e1, if_pos rfl]
        · have h8 := hu.1 r hr
          rw [hz r hr, if_neg (by omega)]
  rw [hv]
  exact key (fun r hr => ⟨(row r hr).2.2.2 P hP, (row r hr).2.2.1⟩) (apart P hP) up r hr
/-- some count above 1: a square -/
theorem IsParts.square {f : Po} {c : Int} {rows : List (Po × Nat)} (h : IsParts f c rows) : (∀ P, Ir P → v P f ≤ 1) ↔ ∀ r ∈ rows, r.2 ≤ 1 := by
  constructor
  · intro hv r hr
    obtain ⟨P, hP, _, h2⟩ := h.of_row hr
    have := hv P hP
    omega
  · intro hr P hP
    by_cases h0 : 0 < v P f
    · obtain ⟨r, h1, h2, _⟩ := h.has hP h0
      have := hr r h1
      omega
    · omega
theorem IsParts.part_one {f : Po} {c : Int} {rows : List (Po × Nat)} (h : IsParts f c rows) {r : Po × Nat} (hr : r ∈ rows) : ∀ P, Ir P → v P r.1 ≤ 1 := fun P hP => by
  rw [(h.row r hr).2.2.2 P hP]
  split <;> omega
theorem IsParts.apart {f : Po} {c : Int} {rows : List (Po × Nat)} (h : IsParts f c rows) {r s : Po × Nat} (hr : r ∈ rows) (hs : s ∈ rows) (hne : r.2 ≠ s.2) : ∀ P, Ir P → min (v P r.1) (v P s.1) = 0 := fun P hP => by
  rw [(h.row r hr).2.2.2 P hP, (h.row s hs).2.2.2 P hP]
  split <;> split <;> omega
/-- a x + b is prime -/
theorem ir_two {p : Po} (h : Sim p) (hs : p.sz = 2) : Ir p := ⟨h, by omega, fun a b e => by
  have ha : a ≠ 0 := fun e0 => h.ne (by rw [e, e0]; grind)
  have hb : b ≠ 0 := fun e0 => h.ne (by rw [e, e0]; grind)
  have h1 := sz_mul ha hb
  rw [← e, hs] at h1
  omega⟩
end Po
/-! what a row comes to at a place -/
theorem val_addL (x : Int) : ∀ p q : List Int, valI (addL p q) x = valI p x + valI q x
  | [], q => by simp [addL, valI]
  | a :: p, [] => by simp [addL, valI]
  | a :: p, b :: q => by
    show a + b + x * valI (addL p q) x = a + x * valI p x + (b + x * valI q x)
    rw [val_addL x p q]
    grind
theorem val_map (c x : Int) : ∀ p : List Int, valI (p.map (c * ·)) x = c * valI p x
  | [] => by simp [valI]
  | a :: p => by
    show c * a + x * valI (p.map (c * ·)) x = c * (a + x * valI p x)
    rw [val_map c x p]
    grind
theorem val_mulL (x : Int) (q : List Int) : ∀ p : List Int, valI (mulL p q) x = valI p x * valI q x
  | [] => by simp [mulL, valI]
  | a :: p => by
    show valI (addL (q.map (a * ·)) (0 :: mulL p q)) x = (a + x * valI p x) * valI q x
    rw [val_addL, val_map]
    show a * valI q x + (0 + x * valI (mulL p q) x) = _
    rw [val_mulL x q p]
    grind
theorem val_trim (x : Int) : ∀ p : List Int, valI (trimI p) x = valI p x
  | [] => rfl
  | a :: p => by
    have ih := val_trim x p
    unfold trimI
    split
    · rename_i h
      rw [h.1] at ih
      show 0 = a + x * valI p x
      rw [← ih, h.2]
      simp [valI]
    · show a + x * valI (trimI p) x = a + x * valI p x
      rw [ih]
namespace Po
def ev (x : Int) (p : Po) : Int := valI p.l x
theorem ev_of (x : Int) (l : List Int) : ev x (of l) = valI l x := val_trim x l
theorem ev_mul (x : Int) (p q : Po) : ev x (p * q) = ev x p * ev x q := by
  show valI (trimI (mulL p.l q.l)) x = _
  rw [val_trim, val_mulL]
  rfl
theorem ev_C (x c : Int) : ev x (C c) = c := by
  show valI (trimI [c]) x = c
  rw [val_trim]
  simp [valI]
theorem ev_pow (x : Int) (p : Po) : ∀ n : Nat, ev x (p ^ n) = ev x p ^ n
  | 0 => by rw [pow_zero', one_C, ev_C, Int.pow_zero]
  | n + 1 => by rw [pow_succ', ev_mul, ev_pow x p n, Int.pow_succ]
def prodE (x : Int) : List (Po × Nat) → Int
  | [] => 1
  | r :: l => ev x r.1 ^ r.2 * prodE x l
theorem ev_prodP (x : Int) : ∀ l : List (Po × Nat), ev x (prodP l) = prodE x l
  | [] => by
    show ev x 1 = 1
    rw [one_C, ev_C]
  | r :: l => by
    show ev x (r.1 ^ r.2 * prodP l) = _
    rw [ev_mul, ev_pow, ev_prodP x l]
    rfl
end Po
end PP
/-! Div: division by steps with the least number; what it leaves; sizes -/
namespace PP
theorem two_le_pow (n : Nat) : 1 ≤ 2 ^ n := Nat.pos_of_ne_zero (by simp)
theorem pow_mono2 {a b : Nat} (h : a ≤ b) : 2 ^ a ≤ 2 ^ b := Nat.pow_le_pow_right (by decide) h
/-- noughts ahead of a row -/
def shI (k : Nat) (l : List Int) : List Int := List.replicate k 0 ++ l
theorem sh_len (k : Nat) (l : List Int) : (shI k l).length = k + l.length := by simp [shI]
theorem cf_sh (k : Nat) (l : List Int) (j : Nat) : cf (shI k l) j = if j < k then 0 else cf l (j - k) := by
  unfold shI cf
  rw [List.getD_eq_getElem?_getD, List.getD_eq_getElem?_getD]
  by_cases h : j < k
  · rw [if_pos h, List.getElem?_append_left (by simpa using h), List.getElem?_replicate, if_pos h]
    rfl
  · rw [if_neg h, List.getElem?_append_right (by simpa using Nat.le_of_not_lt h), List.length_replicate]
theorem cf_one (x : Int) (j : Nat) : cf [x] j = if j = 0 then x else 0 := by cases j <;> simp
namespace Po
theorem c_Xpow : ∀ (k : Nat) (p : Po) (j : Nat), (Xp ^ k * p).c j = if j < k then 0 else p.c (j - k)
  | 0, p, j => by
    rw [pow_zero', one_mul', if_neg (by omega)]
    rfl
  | k + 1, p, j => by
    have e : Xp ^ (k + 1) * p = Xp * (Xp ^ k * p) := by
      rw [pow_succ']
      generalize Xp ^ k = y
      grind
    rw [e, c_Xmul, c_Xpow k p]
    by_cases h : j = 0
    · rw [if_pos h, if_pos (by omega)]
    · rw [if_neg h]
      by_cases h2 : j - 1 < k
      · rw [if_pos h2, if_pos (by omega)]
      · rw [if_neg h2, if_neg (by omega)]
        congr 1
        omega
theorem of_sh (k : Nat) (l : List Int) : of (shI k l) = Xp ^ k * of l := ext fun j => by
  rw [c_of, cf_sh, c_Xpow, c_of]
theorem of_one (x : Int) : of [x] = C x := rfl
end Po
/-- how many steps at most -/
def stepsI (ns ms : List Int) : Nat := ns.length + 1 - ms.length
/-- the state of a division: i steps done -/
structure DvS (ns ms : List Int) (x y i : Nat) (m : Int) (qs rs : List Int) : Prop where
  nq : Nf qs
  nr : Nf rs
  mp : 1 ≤ m
  eq : Po.C m * Po.of ns = Po.of qs * Po.of ms + Po.of rs
  g : ∀ n : Nat, Po.Pn n → (n : Int) ∣ m → (∀ k, (n : Int) ∣ cf qs k) → ¬ ∀ k, (n : Int) ∣ cf rs k
  lo : ∀ k, k + ms.length < rs.length + 1 → cf qs k = 0
  len : i = 0 ∧ rs = ns ∨ i + rs.length ≤ ns.length ∧ i ≤ stepsI ns ms
  lq : qs.length ≤ stepsI ns ms
  mb : m.natAbs ≤ 2 ^ (i * y)
  qb : ∀ k, (cf qs k).natAbs < 2 ^ (x + i * (y + 1))
  rb : ∀ k, (cf rs k).natAbs < 2 ^ (x + i * (y + 1))
theorem DvS.init {ns ms : List Int} {x y : Nat} (hn : Nf ns) (hx : ∀ k, (cf ns k).natAbs < 2 ^ x) : DvS ns ms x y 0 1 [] ns where
  nq := nf_nil
  nr := hn
  mp := by decide
  eq := by
    rw [Po.of_nil, ← Po.one_C]
    grind
  g n hn h := by
    have h1 := Int.le_of_dvd (by decide) h
    have := hn.1
    omega
  lo k _ := cf_nil k
  len := .inl ⟨rfl, rfl⟩
  lq := Nat.zero_le _
  mb := by simp
  qb k := by
    rw [cf_nil]
    exact Nat.pos_of_ne_zero (by simp)
  rb k := by
    rw [Nat.zero_mul]
    exact hx k
/-- the numbers of one step -/
theorem step_numbers {l t : Int} (hl : l ≠ 0) : ∃ more number : Int, more = (l.natAbs : Int).fdiv ((Nat.gcd l.natAbs t.natAbs : Nat) : Int) ∧ number = (more * t).fdiv l ∧ more * t = number * l ∧ 1 ≤ more ∧ more.natAbs ≤ l.natAbs ∧ number.natAbs ≤ t.natAbs ∧
    ∀ n : Nat, Po.Pn n → (n : Int) ∣ more → ¬ (n : Int) ∣ number := by
  have hg : 0 < Nat.gcd l.natAbs t.natAbs := Nat.gcd_pos_of_pos_left _ (Int.natAbs_pos.mpr hl)
  obtain ⟨g, hgd⟩ : ∃ g, g = Nat.gcd l.natAbs t.natAbs := ⟨_, rfl⟩
  rw [← hgd] at hg ⊢
  obtain ⟨L, hL⟩ : g ∣ l.natAbs := hgd ▸ Nat.gcd_dvd_left _ _
  obtain ⟨T, hT⟩ : g ∣ t.natAbs := hgd ▸ Nat.gcd_dvd_right _ _
  have hco : Nat.gcd L T = 1 := by
    have h1 : g * Nat.gcd L T = g * 1 := by rw [← Nat.gcd_mul_left, ← hL, ← hT, ← hgd, Nat.mul_one]
    exact Nat.eq_of_mul_eq_mul_left hg h1
  have hL0 : 0 < L := Nat.pos_of_ne_zero fun e => by
    rw [e, Nat.mul_zero] at hL
    omega
  have e1 : (l.natAbs : Int).fdiv (g : Int) = (L : Int) := by
    rw [hL, Int.natCast_mul, Int.fdiv_eq_ediv_of_nonneg _ (Int.natCast_nonneg _), Int.mul_ediv_cancel_left _ (by omega)]
  obtain ⟨s, hs, hs2⟩ : ∃ s : Int, l = s * ((g * L : Nat) : Int) ∧ (s = 1 ∨ s = -1) := by
    rcases Int.natAbs_eq l with h | h
    · exact ⟨1, by omega, .inl rfl⟩
    · exact ⟨-1, by omega, .inr rfl⟩
  obtain ⟨r, hr, hr2⟩ : ∃ r : Int, t = r * ((g * T : Nat) : Int) ∧ (r = 1 ∨ r = -1) := by
    rcases Int.natAbs_eq t with h | h
    · exact ⟨1, by omega, .inl rfl⟩
    · exact ⟨-1, by omega, .inr rfl⟩
  have key : (L : Int) * t = s * r * (T : Int) * l := by
    rw [Int.natCast_mul] at hs hr
    rw [hr, hs]
    rcases hs2 with rfl | rfl <;> rcases hr2 with rfl | rfl <;> grind
  have key2 : ((L : Int) * t).fdiv l = s * r * (T : Int) := by
    rw [key, Int.mul_fdiv_cancel _ hl]
  refine ⟨_, _, rfl, rfl, ?_, ?_, ?_, ?_, fun n hn h1 h2 => ?_⟩
  · rw [e1, key2, key]
  · rw [e1]
    omega
  · rw [e1, hL, Int.natAbs_natCast]
    exact Nat.le_mul_of_pos_left _ hg
  · rw [e1, key2, hT, Int.natAbs_mul, Int.natAbs_mul]
    have hsa : s.natAbs = 1 := by rcases hs2 with rfl | rfl <;> rfl
    have hra : r.natAbs = 1 := by rcases hr2 with rfl | rfl <;> rfl
    rw [hsa, hra, Int.natAbs_natCast]
    have := Nat.le_mul_of_pos_left T hg
    omega
  · rw [e1] at h1
    rw [e1, key2] at h2
    have h3 : n ∣ L := Int.natCast_dvd_natCast.mp h1
    have h4 : n ∣ T := by
      rcases hn.2 _ _ h2 with h | h
      · exfalso
        have h5 : (n : Int) ∣ 1 := by
          have e : s * r = 1 ∨ s * r = -1 := by rcases hs2 with rfl | rfl <;> rcases hr2 with rfl | rfl <;> simp
          rcases e with e | e <;> rw [e] at h
          · exact h
          · exact Int.dvd_neg.mp h
        have := Int.le_of_dvd (by decide) h5
        have := hn.1
        omega
      · exact Int.natCast_dvd_natCast.mp h
    have h5 := Nat.dvd_gcd h3 h4
    rw [hco] at h5
    have := Nat.le_of_dvd (by decide) h5
    have := hn.1
    omega
theorem DvS.len_le {ns ms : List Int} {x y i : Nat} {m : Int} {qs rs : List Int} (h : DvS ns ms x y i m qs rs) : i + rs.length ≤ ns.length := by
  rcases h.len with ⟨h1, h2⟩ | h
  · rw [h1, h2]
    omega
  · exact h.1
theorem DvS.i_le {ns ms : List Int} {x y i : Nat} {m : Int} {qs rs : List Int} (h : DvS ns ms x y i m qs rs) : i ≤ stepsI ns ms := by
  rcases h.len with ⟨h1, _⟩ | h
  · omega
  · exact h.2
theorem mul_lt_pow {a b : Int} {u v : Nat} (h1 : a.natAbs ≤ 2 ^ u) (h2 : b.natAbs < 2 ^ v) : (a * b).natAbs < 2 ^ (u + v) := by
  rw [Int.natAbs_mul, Nat.pow_add]
  exact Nat.lt_of_le_of_lt (Nat.mul_le_mul_right _ h1) (Nat.mul_lt_mul_of_pos_left h2 (two_le_pow u))
theorem add_lt_pow {a b : Int} {u : Nat} (h1 : a.natAbs < 2 ^ u) (h2 : b.natAbs < 2 ^ u) : (a + b).natAbs < 2 ^ (u + 1) := by
  have := Int.natAbs_add_le a b
  rw [Nat.pow_succ]
  omega
theorem sub_lt_pow {a b : Int} {u : Nat} (h1 : a.natAbs < 2 ^ u) (h2 : b.natAbs < 2 ^ u) : (a - b).natAbs < 2 ^ (u + 1) := by
  have := Int.natAbs_sub_le a b
  rw [Nat.pow_succ]
  omega
theorem lt_pow_mono {a : Int} {u v : Nat} (h : a.natAbs < 2 ^ u) (hv : u ≤ v) : a.natAbs < 2 ^ v := Nat.lt_of_lt_of_le h (pow_mono2 hv)
/-- one step -/
theorem DvS.step {ns ms : List Int} {x y i : Nat} {m : Int} {qs rs : List Int} (h : DvS ns ms x y i m qs rs) (hm : Nf ms) (h0 : ms ≠ []) (hy : ∀ k, (cf ms k).natAbs < 2 ^ y) (hl : ms.length ≤ rs.length) {more number : Int}
    (e : more * cf rs (rs.length - 1) = number * cf ms (ms.length - 1)) (m1 : 1 ≤ more) (mb : more.natAbs ≤ (cf ms (ms.length - 1)).natAbs) (nb : number.natAbs ≤ (cf rs (rs.length - 1)).natAbs)
    (co : ∀ n : Nat, Po.Pn n → (n : Int) ∣ more → ¬ (n : Int) ∣ number) :
    DvS ns ms x y (i + 1) (m * more) (plusI (scaledI more qs) (shI (rs.length - ms.length) [number])) (minusI (scaledI more rs) (shI (rs.length - ms.length) (scaledI number ms))) ∧ (minusI (scaledI more rs) (shI (rs.length - ms.length) (scaledI number ms))).length < rs.length := by
  have hms : 0 < ms.length := List.length_pos_iff.mpr h0
  obtain ⟨k0, hk0⟩ : ∃ k0, k0 = rs.length - ms.length := ⟨_, rfl⟩
  rw [← hk0]
  have cq : ∀ k, cf (plusI (scaledI more qs) (shI k0 [number])) k = more * cf qs k + (if k = k0 then number else 0) := fun k => by
    rw [cf_plus, cf_scaled, cf_sh]
    congr 1
    by_cases h1 : k < k0
    · rw [if_pos h1, if_neg (by omega)]
    · rw [if_neg h1, cf_one]
      by_cases h2 : k = k0
      · rw [if_pos h2, if_pos (by omega)]
      · rw [if_neg h2, if_neg (by omega)]
  have cr : ∀ k, cf (minusI (scaledI more rs) (shI k0 (scaledI number ms))) k = more * cf rs k - (if k < k0 then 0 else number * cf ms (k - k0)) := fun k => by
    rw [cf_minus, cf_scaled, cf_sh, cf_scaled]
  have hshort : (minusI (scaledI more rs) (shI k0 (scaledI number ms))).length ≤ rs.length - 1 := by
    refine Decidable.by_contra fun hc => ?_
    have h1 := nf_last (nf_trim _ : Nf (minusI (scaledI more rs) (shI k0 (scaledI number ms)))) (fun e0 => by
      unfold minusI at hc
      rw [e0] at hc
      exact hc (Nat.zero_le _))
    refine h1 ?_
    show cf (minusI (scaledI more rs) (shI k0 (scaledI number ms))) ((minusI (scaledI more rs) (shI k0 (scaledI number ms))).length - 1) = 0
    generalize hL : (minusI (scaledI more rs) (shI k0 (scaledI number ms))).length = L at hc
    rw [cr]
    by_cases h2 : L - 1 = rs.length - 1
    · rw [h2, if_neg (by omega), show rs.length - 1 - k0 = ms.length - 1 by omega, e]
      omega
    · rw [cf_ge (p := rs) (by omega), if_neg (by omega), cf_ge (p := ms) (by omega)]
      omega
  have hir := h.len_le
  have hst : i + 1 ≤ stepsI ns ms := by unfold stepsI; omega
  have hb1 : ∀ k, (more * cf rs k).natAbs < 2 ^ (y + (x + i * (y + 1))) := fun k => mul_lt_pow (Nat.le_of_lt (Nat.lt_of_le_of_lt mb (hy _))) (h.rb k)
  have hb2 : ∀ k, (number * cf ms k).natAbs < 2 ^ (y + (x + i * (y + 1))) := fun k => by
    rw [Nat.add_comm y]
    exact mul_lt_pow (Nat.le_of_lt (Nat.lt_of_le_of_lt nb (h.rb _))) (hy k)
  have hb3 : ∀ k, (more * cf qs k).natAbs < 2 ^ (y + (x + i * (y + 1))) := fun k => mul_lt_pow (Nat.le_of_lt (Nat.lt_of_le_of_lt mb (hy _))) (h.qb k)
  have hb4 : number.natAbs < 2 ^ (y + (x + i * (y + 1))) := lt_pow_mono (Nat.lt_of_le_of_lt nb (h.rb _)) (by omega)
  have hx1 : x + (i + 1) * (y + 1) = y + (x + i * (y + 1)) + 1 := by rw [Nat.succ_mul]; omega
  have hz : ∀ u : Nat, (0 : Int).natAbs < 2 ^ u := fun u => Nat.pos_of_ne_zero (by simp)
  refine ⟨⟨nf_plus _ _, nf_trim _, ?_, ?_, fun n hn hd hq hr => ?_, fun k hk => ?_, .inr ⟨by omega, hst⟩, ?_, ?_, fun k => ?_, fun k => ?_⟩, by omega⟩
  · have := Int.mul_le_mul h.mp m1 (by decide) (by have := h.mp; omega)
    omega
  · rw [Po.of_plusI, Po.of_minusI, Po.of_scaledI, Po.of_scaledI, Po.of_sh, Po.of_sh, Po.of_scaledI, Po.of_one, Po.C_mul]
    have := h.eq
    generalize Po.Xp ^ k0 = X
    grind
  · have hqk : cf qs k0 = 0 := h.lo k0 (by omega)
    have hnum : (n : Int) ∣ number := by
      have := hq k0
      rw [cq, hqk, if_pos rfl, Int.mul_zero, Int.zero_add] at this
      exact this
    have hnm : ¬ (n : Int) ∣ more := fun hc => co n hn hc hnum
    refine h.g n hn ((hn.2 _ _ hd).resolve_right hnm) (fun k => ?_) (fun k => ?_)
    · have h1 := hq k
      rw [cq] at h1
      have h2 : (n : Int) ∣ more * cf qs k := by
        split at h1
        · exact (Int.dvd_add_left hnum).mp h1
        · rw [Int.add_zero] at h1
          exact h1
      exact (hn.2 _ _ h2).resolve_left hnm
    · have h1 := hr k
      rw [cr] at h1
      have h2 : (n : Int) ∣ more * cf rs k := by
        have h3 : (n : Int) ∣ (if k < k0 then 0 else number * cf ms (k - k0)) := by
          split
          · exact Int.dvd_zero _
          · exact Int.dvd_trans hnum (Int.dvd_mul_right _ _)
        have := Int.dvd_add h1 h3
        rw [Int.sub_add_cancel] at this
        exact this
      exact (hn.2 _ _ h2).resolve_left hnm
  · rw [cq, h.lo k (by omega), Int.mul_zero, if_neg (by omega)]
    rfl
  · refine Nat.le_trans (plus_len _ _) ?_
    rw [sh_len]
    have h1 := scaled_len more qs
    have h2 := h.lq
    show max _ (k0 + 1) ≤ _
    unfold stepsI at *
    omega
  · rw [Int.natAbs_mul, Nat.succ_mul, Nat.pow_add]
    exact Nat.mul_le_mul h.mb (Nat.le_of_lt (Nat.lt_of_le_of_lt mb (hy _)))
  · rw [cq, hx1]
    refine add_lt_pow (hb3 k) ?_
    split
    · exact hb4
    · exact hz _
  · rw [cr, hx1]
    refine sub_lt_pow (hb1 k) ?_
    split
    · exact hz _
    · exact hb2 _
/-- what a division tells -/
structure DivR (ns ms : List Int) (x y : Nat) (m : Int) (qs rs : List Int) : Prop where
  nq : Nf qs
  nr : Nf rs
  mp : 1 ≤ m
  lr : rs.length < ms.length
  ln : rs.length ≤ ns.length
  eq : Po.C m * Po.of ns = Po.of qs * Po.of ms + Po.of rs
  g : Nat.gcd m.natAbs (Nat.gcd (cont qs) (cont rs)) = 1
  lq : qs.length ≤ stepsI ns ms
  mb : m.natAbs ≤ 2 ^ (stepsI ns ms * y)
  qb : ∀ k, (cf qs k).natAbs < 2 ^ (x + stepsI ns ms * (y + 1))
  rb : ∀ k, (cf rs k).natAbs < 2 ^ (x + stepsI ns ms * (y + 1))
theorem DvS.done {ns ms : List Int} {x y i : Nat} {m : Int} {qs rs : List Int} (h : DvS ns ms x y i m qs rs) (hl : rs.length < ms.length) : DivR ns ms x y m qs rs := by
  have hi := h.i_le
  have h1 := Nat.mul_le_mul_right (y + 1) hi
  refine ⟨h.nq, h.nr, h.mp, hl, by have := h.len_le; omega, h.eq, ?_, h.lq, Nat.le_trans h.mb (pow_mono2 (Nat.mul_le_mul_right y hi)), fun k => lt_pow_mono (h.qb k) (by omega), fun k => lt_pow_mono (h.rb k) (by omega)⟩
  refine Classical.byContradiction fun hc => ?_
  have hp : 0 < Nat.gcd m.natAbs (Nat.gcd (cont qs) (cont rs)) := Nat.gcd_pos_of_pos_left _ (by have := h.mp; omega)
  obtain ⟨n, hn, hd⟩ := Po.prime_in (Nat.gcd m.natAbs (Nat.gcd (cont qs) (cont rs))) (by omega)
  have d1 := Nat.dvd_trans hd (Nat.gcd_dvd_left _ _)
  have d2 := Nat.dvd_trans hd (Nat.gcd_dvd_right _ _)
  have d3 := Nat.dvd_trans d2 (Nat.gcd_dvd_left _ _)
  have d4 := Nat.dvd_trans d2 (Nat.gcd_dvd_right _ _)
  exact h.g n hn (Po.ndvd.mpr d1) (fun k => Int.dvd_trans (Int.natCast_dvd_natCast.mpr d3) (cont_dvd_cf _ _)) (fun k => Int.dvd_trans (Int.natCast_dvd_natCast.mpr d4) (cont_dvd_cf _ _))
/-- a division that leaves nothing and takes the row once tells the quotient; else there is none -/
theorem DivR.whole {ns ms : List Int} {x y : Nat} {m : Int} {qs rs : List Int} (h : DivR ns ms x y m qs rs) (hm : Nf ms) (h0 : ms ≠ []) : (∃ q, Po.of ns = q * Po.of ms) ↔ m = 1 ∧ rs = [] := by
  have hne : Po.of ms ≠ 0 := fun e => h0 (Po.of_inj hm nf_nil e)
  constructor
  · intro ⟨q, hq⟩
    have e1 : Po.of rs = (Po.C m * q - Po.of qs) * Po.of ms := by
      have := h.eq
      rw [hq] at this
      grind
    have e2 : Po.C m * q - Po.of qs = 0 := Classical.byContradiction fun hc => by
      have h1 := Po.sz_mul hc hne
      have h2 := Po.sz_pos hc
      rw [← e1, Po.sz_of' h.nr, Po.sz_of' hm] at h1
      have := h.lr
      omega
    have e3 : rs = [] := Po.of_inj h.nr nf_nil (by
      rw [e1, e2]
      show 0 * _ = (0 : Po)
      grind)
    refine ⟨?_, e3⟩
    have e4 : Po.of qs = Po.C m * q := by grind
    have h5 : m.natAbs ∣ cont qs := dvd_cont fun z hz => by
      obtain ⟨i, hi, e⟩ := List.getElem_of_mem hz
      have : (Po.of qs).c i = m * q.c i := by rw [e4, Po.c_Cmul]
      rw [Po.c_of, cf_lt hi, e] at this
      rw [this]
      exact Int.dvd_trans (Int.natAbs_dvd.mpr (Int.dvd_refl _)) (Int.dvd_mul_right _ _)
    have h6 := h.g
    rw [e3, cont_nil, Nat.gcd_zero_right, Nat.gcd_eq_left h5] at h6
    have := h.mp
    omega
  · rintro ⟨rfl, rfl⟩
    refine ⟨Po.of qs, ?_⟩
    have := h.eq
    rw [Po.of_nil, ← Po.one_C] at this
    grind
end PP
/-! Fac: sizes of what divides a row; the steps of a meeting -/
namespace PP
namespace Po
theorem ev_add (x : Int) (p q : Po) : ev x (p + q) = ev x p + ev x q := by
  show valI (plusI p.l q.l) x = _
  rw [plus_eq, val_trim, val_addL]
  rfl
theorem ev_X (x : Int) : ev x Xp = x := by
  show valI [0, 1] x = x
  simp [valI]
theorem ev_sub (x : Int) (p q : Po) : ev x (p - q) = ev x p - ev x q := by
  have e : ev x (p - q + q) = ev x (p - q) + ev x q := ev_add _ _ _
  rw [show p - q + q = p by grind] at e
  omega
/-- a place taken out -/
theorem root_out (a : Int) : ∀ p : Po, ∃ q, p = (Xp - C a) * q + C (ev a p) := by
  refine ind ⟨0, ?_⟩ fun x p ⟨q, hq⟩ => ⟨Xp * q + C (ev a p), ?_⟩
  · rw [show ev a 0 = 0 from ev_C a 0, ← zero_C]
    grind
  · have e : ev a (C x + Xp * p) = x + a * ev a p := by rw [ev_add, ev_C, ev_mul, ev_X]
    rw [e, C_add, C_mul]
    generalize ev a p = w at *
    grind
theorem c_lin (a : Int) (q : Po) (k : Nat) : ((Xp - C a) * q).c k = (if k = 0 then 0 else q.c (k - 1)) - a * q.c k := by
  rw [show (Xp - C a) * q = Xp * q - C a * q by grind, c_sub, c_Xmul, c_Cmul]
theorem sz_out {a e : Int} {p q : Po} (h : p = (Xp - C a) * q + C e) {n : Nat} (hp : p.sz ≤ n + 1) : q.sz ≤ n := by
  refine Decidable.by_contra fun hc => ?_
  have h1 : p.c q.sz = q.ld := by
    rw [h, c_add, c_lin, c_C, if_neg (by omega), if_neg (by omega), c_ge (Nat.le_refl _)]
    unfold ld
    omega
  have h2 : q.ld ≠ 0 := ld_ne (ne_of_sz (by omega))
  have h3 := sz_lt (p := p) (k := q.sz) (by rw [h1]; exact h2)
  omega
/-- small at so many places: small numbers -/
theorem small_of (A : Nat) : ∀ (n : Nat) (p : Po) (as : List Int) (M : Nat), p.sz ≤ n → as.Nodup → n ≤ as.length → (∀ a ∈ as, a.natAbs ≤ A ∧ (ev a p).natAbs ≤ M) → ∀ k, (p.c k).natAbs ≤ M * (2 * A + 3) ^ n
  | 0, p, as, M, h, _, _, _, k => by
    rw [c_ge (by omega)]
    exact Nat.zero_le _
  | n + 1, p, [], M, _, _, hl, _, k => absurd hl (by simp)
  | n + 1, p, a :: as, M, h, hd, hl, hs, k => by
    obtain ⟨q, hq⟩ := root_out a p
    obtain ⟨ha, hM⟩ := hs a List.mem_cons_self
    rw [List.nodup_cons] at hd
    have ih := small_of A n q as (2 * M) (sz_out hq h) hd.2 (by simpa using hl) fun b hb => by
      obtain ⟨h1, h2⟩ := hs b (List.mem_cons_of_mem _ hb)
      refine ⟨h1, ?_⟩
      have e : ev b p = (b - a) * ev b q + ev a p := by
        have := congrArg (ev b) hq
        rw [ev_add, ev_mul, ev_sub, ev_X, ev_C, ev_C] at this
        exact this
      have hne : b - a ≠ 0 := fun e0 => hd.1 (by rw [show a = b by omega]; exact hb)
      have h3 : (ev b q).natAbs ≤ ((b - a) * ev b q).natAbs := by
        rw [Int.natAbs_mul]
        exact Nat.le_mul_of_pos_left _ (Int.natAbs_pos.mpr hne)
      omega
    have hF : 1 ≤ (2 * A + 3) ^ n := Nat.pos_of_ne_zero (by simp)
    generalize hFe : (2 * A + 3) ^ n = F at ih hF
    have e1 : p.c k = (if k = 0 then 0 else q.c (k - 1)) - a * q.c k + (if k = 0 then ev a p else 0) := by
      conv => lhs; rw [hq]
      rw [c_add, c_lin, c_C]
    have h1 := ih (k - 1)
    have h2 := ih k
    have h3 : (a * q.c k).natAbs ≤ A * (2 * M * F) := by
      rw [Int.natAbs_mul]
      exact Nat.mul_le_mul ha h2
    have h4 : M ≤ M * F := Nat.le_mul_of_pos_right _ hF
    have h5 : M * (2 * A + 3) ^ (n + 1) = 2 * M * F + A * (2 * M * F) + M * F := by
      rw [Nat.pow_succ, hFe]
      grind
    rw [e1, h5]
    split <;> omega
/-- its noughts are fewer than its numbers -/
theorem roots_lt : ∀ (as : List Int) (p : Po), p ≠ 0 → as.Nodup → (∀ a ∈ as, ev a p = 0) → as.length < p.sz
  | [], p, h, _, _ => sz_pos h
  | a :: as, p, h, hd, hr => by
    obtain ⟨q, hq⟩ := root_out a p
    rw [hr a List.mem_cons_self, ← zero_C] at hq
    have hq2 : p = (Xp - C a) * q := by rw [hq]; grind
    rw [List.nodup_cons] at hd
    have hq0 : q ≠ 0 := fun e => h (by rw [hq2, e]; grind)
    have ih := roots_lt as q hq0 hd.2 fun b hb => by
      have h1 := hr b (List.mem_cons_of_mem _ hb)
      rw [hq2, ev_mul, ev_sub, ev_X, ev_C] at h1
      rcases Int.mul_eq_zero.mp h1 with h2 | h2
      · exact absurd (show a = b by omega) fun e => hd.1 (e ▸ hb)
      · exact h2
    have h2 : q.sz ≤ p.sz - 1 := sz_out hq (n := p.sz - 1) (by have := sz_pos h; omega)
    have := sz_pos h
    simp
    omega
def places : List Int := (List.range 27).map fun (i : Nat) => (i : Int) - 13
/-- what divides a row of at most 14 numbers is not much greater -/
theorem fac_lt {f g : Po} {b : Nat} (hf : f ≠ 0) (hs : f.sz ≤ 14) (hb : ∀ k, (f.c k).natAbs < 2 ^ b) (hg : g ∣ f) (k : Nat) : (g.c k).natAbs < 2 ^ (b + 140) := by
  have hpl : places.Nodup := by decide +kernel
  have hpb : ∀ a ∈ places, a.natAbs ≤ 13 := by decide +kernel
  have hgs := sz_dvd hg hf
  have hr := roots_lt (places.filter fun a => ev a f == 0) f hf (hpl.filter _) fun a ha => by
    have := (List.mem_filter.mp ha).2
    simpa using this
  have hcount : (places.filter fun a => ev a f == 0).length + (places.filter fun a => !(ev a f == 0)).length = 27 := by
    rw [← List.countP_eq_length_filter, ← List.countP_eq_length_filter]
    have := List.length_eq_countP_add_countP (fun a => ev a f == 0) (l := places)
    have e : (fun a => decide (¬(ev a f == 0) = true)) = fun a => !(ev a f == 0) := by
      funext a
      cases ev a f == 0 <;> rfl
    rw [e] at this
    have h27 : places.length = 27 := by decide +kernel
    omega
  have hM : ∀ a ∈ places, (ev a f).natAbs ≤ 2 ^ (b + 14 * (4 + 1) + 1) := fun a ha => by
    refine Nat.le_of_lt (val_lt (c := 4) (n := 14) (Nat.lt_of_le_of_lt (hpb a ha) (by decide)) f.l (fun x hx => ?_) hs)
    obtain ⟨i, hi, e⟩ := List.getElem_of_mem hx
    have := hb i
    unfold c at this
    rw [cf_lt hi, e] at this
    exact this
  have h1 := small_of 13 14 g (places.filter fun a => !(ev a f == 0)) (2 ^ (b + 14 * (4 + 1) + 1)) (by omega) (hpl.filter _) (by omega) (fun a ha => by
    obtain ⟨h2, h3⟩ := List.mem_filter.mp ha
    refine ⟨hpb a h2, Nat.le_trans ?_ (hM a h2)⟩
    obtain ⟨h, rfl⟩ := hg
    have h3 : ev a (g * h) ≠ 0 := by simpa using h3
    rw [ev_mul] at h3 ⊢
    rw [Int.natAbs_mul]
    exact Nat.le_mul_of_pos_right _ (Int.natAbs_pos.mpr fun e => h3 (by rw [e, Int.mul_zero]))) k
  refine Nat.lt_of_le_of_lt h1 ?_
  have e : (2 * 13 + 3) ^ 14 < 2 ^ 69 := by decide
  have e2 : 2 ^ (b + 140) = 2 ^ (b + 14 * (4 + 1) + 1) * 2 ^ 69 := by rw [← Nat.pow_add]
  rw [e2]
  exact Nat.mul_lt_mul_of_pos_left e (two_le_pow _)
end Po
end PP
/-! Met: the steps of a meeting: what they keep, and their sizes -/
namespace PP
/-- bounds of rows, by how far the power has fallen -/
def bdI (V : Nat) : Nat → Nat
  | 0 => V
  | k + 1 => (5 * bdI V k + 1) / 2
theorem bd_grow (V k : Nat) : 5 * bdI V k ≤ 2 * bdI V (k + 1) := by
  show _ ≤ 2 * ((5 * bdI V k + 1) / 2)
  omega
theorem bd_mono {V : Nat} : ∀ {k j : Nat}, k ≤ j → bdI V k ≤ bdI V j
  | k, 0, h => by
    rw [show k = 0 by omega]
    exact Nat.le_refl _
  | k, j + 1, h => by
    by_cases e : k = j + 1
    · rw [e]
      exact Nat.le_refl _
    · have h1 := bd_mono (V := V) (show k ≤ j by omega)
      have h2 := bd_grow V j
      omega
theorem bd_V {V : Nat} (k : Nat) : V ≤ bdI V k := bd_mono (V := V) (Nat.zero_le k)
theorem bd_first {V : Nat} (hV : 30 ≤ V) : ∀ j : Nat, V + j * (V + 1) ≤ bdI V j
  | 0 => by
    show V + 0 * (V + 1) ≤ V
    omega
  | j + 1 => by
    have h1 := bd_first hV j
    have h2 := bd_grow V j
    rw [Nat.succ_mul]
    by_cases h : j = 0
    · subst h
      have : bdI V 0 = V := rfl
      omega
    · have h3 : V + 1 ≤ j * (V + 1) := Nat.le_mul_of_pos_left _ (by omega)
      omega
theorem bd_next {p V i : Nat} (hV : 30 ≤ V) (hp : 5 * p ≤ 2 * bdI V i) : ∀ g : Nat, 1 ≤ g → p + (g + 1) * (bdI V i + 1) ≤ bdI V (i + g)
  | 0, h => absurd h (by decide)
  | g + 1, _ => by
    have h2 := bd_V (V := V) i
    by_cases e : g = 0
    · subst e
      have h1 := bd_grow V i
      show p + 2 * (bdI V i + 1) ≤ bdI V (i + 1)
      omega
    · have h1 := bd_next hV hp g (by omega)
      have h4 := bd_grow V (i + g)
      have h3 : bdI V i + 1 ≤ (g + 1) * (bdI V i + 1) := Nat.le_mul_of_pos_left _ (by omega)
      show p + (g + 1 + 1) * (bdI V i + 1) ≤ bdI V (i + g + 1)
      rw [Nat.succ_mul (g + 1)]
      omega
/-- a row by a number that divides all its numbers -/
def lessI (d : Int) (l : List Int) : List Int := l.map fun x => x.fdiv d
theorem less_len (d : Int) (l : List Int) : (lessI d l).length = l.length := by simp [lessI]
theorem cf_less (d : Int) (l : List Int) (k : Nat) : cf (lessI d l) k = (cf l k).fdiv d := by
  unfold lessI cf
  rw [List.getD_eq_getElem?_getD, List.getD_eq_getElem?_getD, List.getElem?_map]
  cases l[k]? with
  | none => simp
  | some y => rfl
theorem less_mul {d : Int} {l : List Int} (hd : ∀ k, d ∣ cf l k) (k : Nat) : d * cf (lessI d l) k = cf l k := by
  rw [cf_less]
  exact Int.mul_fdiv_cancel' (hd k)
theorem less_abs {d : Int} {l : List Int} (h0 : d ≠ 0) (hd : ∀ k, d ∣ cf l k) (k : Nat) : (cf (lessI d l) k).natAbs ≤ (cf l k).natAbs := by
  rw [← less_mul hd k, Int.natAbs_mul]
  exact Nat.le_mul_of_pos_left _ (Int.natAbs_pos.mpr h0)
theorem less_nf {d : Int} {l : List Int} (h0 : d ≠ 0) (hd : ∀ k, d ∣ cf l k) (h : Nf l) : Nf (lessI d l) := by
  by_cases e : l = []
  · rw [e]
    exact nf_nil
  · refine nf_of_last (.inr fun z => nf_last h e ?_)
    rw [less_len] at z
    rw [← less_mul hd, z, Int.mul_zero]
theorem of_less {d : Int} {l : List Int} (hd : ∀ k, d ∣ cf l k) : Po.of l = Po.C d * Po.of (lessI d l) := Po.ext fun k => by rw [Po.c_Cmul, Po.c_of, Po.c_of, less_mul hd]
theorem sc_dvd (l : List Int) (k : Nat) : scI l ∣ cf l k := by
  have h := cont_dvd_cf l k
  unfold scI
  split
  · exact Int.neg_dvd.mpr h
  · exact h
theorem simple_less {l : List Int} (h : Nf l) : simpleI l = lessI (scI l) l := (simple_sc h).symm
theorem of_simple {l : List Int} (h : Nf l) : Po.of l = Po.C (scI l) * Po.of (simpleI l) := by
  rw [simple_less h]
  exact of_less (sc_dvd l)
theorem simple_abs {l : List Int} (h : Nf l) (k : Nat) : (cf (simpleI l) k).natAbs ≤ (cf l k).natAbs := by
  by_cases e : l = []
  · rw [e]
    exact Nat.le_refl _
  · rw [simple_less h]
    exact less_abs ((sc_ne h).resolve_left e) (sc_dvd l) k
theorem simple_sim {l : List Int} (h : Nf l) (h0 : l ≠ []) : Po.Sim (Po.of (simpleI l)) ∧ Nf (simpleI l) := by
  obtain ⟨c, _, _, h1, h2⟩ := Po.simple_of h h0
  exact ⟨h1, h2⟩
theorem simple_nil : simpleI [] = [] := rfl
theorem sc_nil : scI [] = 0 := rfl
/-- a step: u times the one and v times the other come to n times the row -/
structure MtS (a b : Po) (row u v : List Int) (n : Int) : Prop where
  nr : Nf row
  nu : Nf u
  nv : Nf v
  sim : row = [] ∧ n = 0 ∨ row ≠ [] ∧ Po.Sim (Po.of row) ∧ 1 ≤ n
  eq : Po.of u * a + Po.of v * b = Po.C n * Po.of row
/-- what is shared, with its sign -/
def shrI (m : Int) (u v : List Int) : Int := if m < 0 then -((Nat.gcd (Nat.gcd m.natAbs (cont u)) (cont v) : Nat) : Int) else ((Nat.gcd (Nat.gcd m.natAbs (cont u)) (cont v) : Nat) : Int)
theorem shr_abs (m : Int) (u v : List Int) : (shrI m u v).natAbs = Nat.gcd (Nat.gcd m.natAbs (cont u)) (cont v) := by
  unfold shrI
  split <;> omega
theorem nf_cont {l : List Int} (h : Nf l) (h0 : l ≠ []) : 0 < cont l := cont_pos ⟨_, last_mem h0, nf_last h h0⟩
theorem shr_ne {m : Int} {u v : List Int} (hu : Nf u) (hv : Nf v) (h : u ≠ [] ∨ v ≠ []) : shrI m u v ≠ 0 := by
  have h1 := shr_abs m u v
  have h2 : 0 < Nat.gcd (Nat.gcd m.natAbs (cont u)) (cont v) := by
    rcases h with h | h
    · exact Nat.gcd_pos_of_pos_left _ (Nat.gcd_pos_of_pos_right _ (nf_cont hu h))
    · exact Nat.gcd_pos_of_pos_right _ (nf_cont hv h)
  omega
theorem shr_dvd (m : Int) (u v : List Int) : shrI m u v ∣ m ∧ (∀ k, shrI m u v ∣ cf u k) ∧ ∀ k, shrI m u v ∣ cf v k := by
  have key : ∀ {x : Int}, Nat.gcd (Nat.gcd m.natAbs (cont u)) (cont v) ∣ x.natAbs → shrI m u v ∣ x := fun h => Int.natAbs_dvd_natAbs.mp (by rw [shr_abs]; exact h)
  have h1 := Nat.gcd_dvd_left (Nat.gcd m.natAbs (cont u)) (cont v)
  refine ⟨key (Nat.dvd_trans h1 (Nat.gcd_dvd_left _ _)), fun k => key ?_, fun k => key ?_⟩
  · exact Nat.dvd_trans (Nat.dvd_trans h1 (Nat.gcd_dvd_right _ _)) (Po.ndvd.mp (cont_dvd_cf u k))
  · exact Nat.dvd_trans (Nat.gcd_dvd_right _ _) (Po.ndvd.mp (cont_dvd_cf v k))
/-- what the least step of a row tells -/
theorem MtS.least {a b : Po} {row u v : List Int} {n : Int} (hr : Nf row) (hu : Nf u) (hv : Nf v) (h : u ≠ [] ∨ v ≠ []) (hn : row = [] ∨ n ≠ 0) (eq : Po.of u * a + Po.of v * b = Po.C n * Po.of row) :
    MtS a b (simpleI row) (lessI (shrI (n * scI row) u v) u) (lessI (shrI (n * scI row) u v) v) ((n * scI row).fdiv (shrI (n * scI row) u v)) := by
  obtain ⟨m, hm⟩ : ∃ m, m = n * scI row := ⟨_, rfl⟩
  rw [← hm]
  have h0 := shr_ne (m := m) hu hv h
  obtain ⟨d1, d2, d3⟩ := shr_dvd m u v
  have hs : m < 0 → shrI m u v < 0 := fun hlt => by
    have h1 := shr_abs m u v
    unfold shrI at h0 ⊢
    rw [if_pos hlt] at h0 ⊢
    omega
  have hs2 : ¬ m < 0 → 0 < shrI m u v := fun hge => by
    unfold shrI at h0 ⊢
    rw [if_neg hge] at h0 ⊢
    omega
  generalize hd : shrI m u v = d at *
  obtain ⟨q, rfl⟩ := d1
  have hq : (d * q).fdiv d = q := Int.mul_fdiv_cancel_left _ h0
  rw [hq]
  have e1 : Po.C d * (Po.of (lessI d u) * a + Po.of (lessI d v) * b) = Po.C d * (Po.C q * Po.of (simpleI row)) := by
    have h1 := of_less d2
    have h2 := of_less d3
    have h3 := of_simple hr
    have h4 : Po.C (d * q) = Po.C n * Po.C (scI row) := by rw [hm, Po.C_mul]
    rw [Po.C_mul] at h4
    rw [h1, h2, h3] at eq
    generalize Po.of (lessI d u) = U at *
    generalize Po.of (lessI d v) = W at *
    generalize Po.of (simpleI row) = S at *
    grind
  have e2 := Po.mul_cancel (Po.C_ne h0) e1
  refine ⟨?_, less_nf h0 d2 hu, less_nf h0 d3 hv, ?_, e2⟩
  · by_cases e : row = []
    · rw [e, simple_nil]
      exact nf_nil
    · exact (simple_sim hr e).2
  · by_cases e : row = []
    · left
      rw [e, sc_nil, Int.mul_zero] at hm
      refine ⟨by rw [e]; rfl, ?_⟩
      exact (Int.mul_eq_zero.mp hm).resolve_left h0
    · right
      have hm0 : d * q ≠ 0 := by
        rw [hm]
        exact Int.mul_ne_zero (hn.resolve_left e) ((sc_ne hr).resolve_left e)
      have hl := simple_len row
      refine ⟨fun z => e (List.eq_nil_of_length_eq_zero (by rw [← hl, z]; rfl)), (simple_sim hr e).1, ?_⟩
      by_cases hlt : d * q < 0
      · have h1 := hs hlt
        refine Decidable.by_contra fun hc => ?_
        have := Int.mul_nonneg_of_nonpos_of_nonpos (show d ≤ 0 by omega) (show q ≤ 0 by omega)
        omega
      · have h1 := hs2 hlt
        refine Decidable.by_contra fun hc => ?_
        have := Int.mul_nonpos_of_nonneg_of_nonpos (show 0 ≤ d by omega) (show q ≤ 0 by omega)
        omega
/-- the unreduced next step -/
theorem MtS.next {a b : Po} {row u v by_ bu bv qs rs : List Int} {n bn m : Int} (h : MtS a b row u v n) (k : MtS a b by_ bu bv bn) (hb : by_ ≠ []) (eq : Po.C m * Po.of row = Po.of qs * Po.of by_ + Po.of rs) (hl : rs.length ≤ row.length) :
    Po.of (minusI (scaledI (m * bn) u) (mulI (scaledI n qs) bu)) * a + Po.of (minusI (scaledI (m * bn) v) (mulI (scaledI n qs) bv)) * b = Po.C (n * bn) * Po.of rs ∧ (rs = [] ∨ n * bn ≠ 0) ∧
    Po.of bu * Po.of (minusI (scaledI (m * bn) v) (mulI (scaledI n qs) bv)) - Po.of (minusI (scaledI (m * bn) u) (mulI (scaledI n qs) bu)) * Po.of bv = Po.C (-(m * bn)) * (Po.of u * Po.of bv - Po.of bu * Po.of v) := by
  have h1 := h.eq
  have h2 := k.eq
  refine ⟨?_, ?_, ?_⟩
  · rw [Po.of_minusI, Po.of_minusI, Po.of_scaledI, Po.of_scaledI, Po.of_mulI, Po.of_mulI, Po.of_scaledI, Po.C_mul, Po.C_mul]
    generalize Po.of u = U at *
    generalize Po.of v = W at *
    generalize Po.of bu = BU at *
    generalize Po.of bv = BV at *
    generalize Po.of row = R at *
    generalize Po.of by_ = Y at *
    generalize Po.of qs = G at *
    generalize Po.of rs = S at *
    have e : (Po.C m * Po.C bn * U - Po.C n * G * BU) * a + (Po.C m * Po.C bn * W - Po.C n * G * BV) * b = Po.C m * Po.C bn * (U * a + W * b) - Po.C n * G * (BU * a + BV * b) := by grind
    rw [e, h1, h2]
    have e2 : S = Po.C m * R - G * Y := by grind
    rw [e2]
    grind
  · by_cases e : rs = []
    · exact .inl e
    · refine .inr (Int.mul_ne_zero ?_ ?_)
      · rcases h.sim with ⟨h3, _⟩ | ⟨_, _, h3⟩
        · rw [h3] at hl
          exact absurd (List.eq_nil_of_length_eq_zero (by simpa using hl)) e
        · omega
      · rcases k.sim with ⟨h3, _⟩ | ⟨_, _, h3⟩
        · exact absurd h3 hb
        · omega
  · rw [Po.of_minusI, Po.of_minusI, Po.of_scaledI, Po.of_scaledI, Po.of_mulI, Po.of_mulI, Po.of_scaledI, Po.C_neg, Po.C_mul]
    grind
/-- sizes of two steps -/
structure MtZ (V L : Nat) (row0 u0 v0 : List Int) (n0 : Int) (row1 u1 v1 : List Int) (n1 : Int) (p b K0 K1 : Nat) : Prop where
  r0 : ∀ k, (cf row0 k).natAbs < 2 ^ p
  r1 : ∀ k, (cf row1 k).natAbs < 2 ^ b
  u0 : ∀ k, (cf u0 k).natAbs < 2 ^ K0
  v0 : ∀ k, (cf v0 k).natAbs < 2 ^ K0
  n0 : n0.natAbs < 2 ^ K0
  u1 : ∀ k, (cf u1 k).natAbs < 2 ^ K1
  v1 : ∀ k, (cf v1 k).natAbs < 2 ^ K1
  n1 : n1.natAbs < 2 ^ K1
  st : (p = V ∧ b = V ∧ K0 = V ∧ K1 = V) ∨ (row1.length < row0.length ∧ 5 * p ≤ 2 * b ∧ K0 ≤ 3 * p + 10 ∧ K1 ≤ 3 * b + 10 ∧ b = bdI V (L + 1 - row0.length))
/-- the bounds of one step -/
theorem MtZ.bounds {V L : Nat} {row0 u0 v0 row1 u1 v1 : List Int} {n0 n1 : Int} {p b K0 K1 : Nat} (Z : MtZ V L row0 u0 v0 n0 row1 u1 v1 n1 p b K0 K1) (hV : 30 ≤ V) (l0 : row0.length ≤ L) (l1 : row1.length ≤ L) (hne : row1 ≠ []) :
    p + stepsI row0 row1 * (b + 1) ≤ bdI V (L + 1 - row1.length) ∧ K0 + K1 + (p + stepsI row0 row1 * (b + 1)) + 13 ≤ 3 * bdI V (L + 1 - row1.length) + 10 ∧ 5 * b ≤ 2 * bdI V (L + 1 - row1.length) ∧ K1 ≤ 3 * b + 10 := by
  have h1 := List.length_pos_iff.mpr hne
  obtain ⟨j, hj⟩ : ∃ j, L + 1 - row1.length = j + 1 := ⟨L - row1.length, by omega⟩
  have hg := bd_grow V j
  have hVj := bd_V (V := V) j
  rw [hj]
  rcases Z.st with ⟨e1, e2, e3, e4⟩ | ⟨hlt, h5, hK0, hK1, hb⟩
  · rw [e1, e2, e3, e4]
    have h2 := bd_first hV (j + 1)
    have h3 : stepsI row0 row1 * (V + 1) ≤ (j + 1) * (V + 1) := Nat.mul_le_mul_right _ (by unfold stepsI; omega)
    refine ⟨by omega, by omega, by omega, by omega⟩
  · have h6 : bdI V (L + 1 - row0.length) ≤ bdI V j := bd_mono (by omega)
    have h2 := bd_next hV (i := L + 1 - row0.length) (p := p) (by rw [← hb]; exact h5) (row0.length - row1.length) (by omega)
    rw [show L + 1 - row0.length + (row0.length - row1.length) = j + 1 by omega, ← hb, show row0.length - row1.length + 1 = stepsI row0 row1 by unfold stepsI; omega] at h2
    have h7 := bd_V (V := V) (L + 1 - row0.length)
    rw [← hb] at h6 h7
    refine ⟨h2, by omega, by omega, hK1⟩
/-- two steps, and what all steps keep -/
structure MtI (a b : Po) (V L i : Nat) (row0 u0 v0 : List Int) (n0 : Int) (row1 u1 v1 : List Int) (n1 : Int) : Prop where
  s0 : MtS a b row0 u0 v0 n0
  s1 : MtS a b row1 u1 v1 n1
  det : Po.of u0 * Po.of v1 - Po.of u1 * Po.of v0 ≠ 0
  back : ∀ h, Po.Pr h → h ∣ Po.of row0 → h ∣ Po.of row1 → h ∣ a ∧ h ∣ b
  l0 : row0.length ≤ L
  lu0 : u0.length ≤ 1 + i * (L + 1)
  lv0 : v0.length ≤ 1 + i * (L + 1)
  lu1 : u1.length ≤ 1 + i * (L + 1)
  lv1 : v1.length ≤ 1 + i * (L + 1)
  il : i + row1.length ≤ L
/-- what divides both divides each row -/
theorem MtS.fwd {a b : Po} {row u v : List Int} {n : Int} (s : MtS a b row u v n) {h : Po} (hp : Po.Pr h) (ha : h ∣ a) (hb : h ∣ b) : h ∣ Po.of row := by
  rcases s.sim with ⟨e, _⟩ | ⟨_, _, hn⟩
  · rw [e, Po.of_nil]
    exact Po.dvd_zero' _
  · refine Po.dvd_of_C hp (m := n) (by omega) ?_
    rw [← s.eq]
    exact Po.dvd_add' (Po.dvd_mulL ha _) (Po.dvd_mulL hb _)
theorem add_lt_pow' {a b : Int} {u : Nat} (h1 : a.natAbs < 2 ^ u) (h2 : b.natAbs ≤ 2 ^ (u + 12)) : (a - b).natAbs < 2 ^ (u + 13) := by
  have h3 := Int.natAbs_sub_le a b
  have e1 : 2 ^ (u + 13) = 2 ^ (u + 12) * 2 := Nat.pow_succ ..
  have e2 : 2 ^ u ≤ 2 ^ (u + 12) := pow_mono2 (by omega)
  omega
theorem cont_bound {l : List Int} {R : Nat} (h : Nf l) (hb : ∀ k, (cf l k).natAbs < 2 ^ R) : cont l < 2 ^ R := by
  by_cases e : l = []
  · rw [e, cont_nil]
    exact Nat.pos_of_ne_zero (by simp)
  · exact Nat.lt_of_le_of_lt (cont_le (last_mem e) (nf_last h e)) (hb _)
/-- one row of the next step -/
theorem next_lt {m bn n : Int} {u qs bu : List Int} {R K0 K1 e : Nat} (hm : m.natAbs ≤ 2 ^ e) (he : e ≤ R) (hbn : bn.natAbs < 2 ^ K1) (hu : ∀ k, (cf u k).natAbs < 2 ^ K0) (hn : n.natAbs < 2 ^ K0) (hq : ∀ k, (cf qs k).natAbs < 2 ^ R) (hbu : ∀ k, (cf bu k).natAbs < 2 ^ K1) (lq : qs.length ≤ 16) (lb : bu.length ≤ 256) (k : Nat) :
    (cf (minusI (scaledI (m * bn) u) (mulI (scaledI n qs) bu)) k).natAbs < 2 ^ (K0 + K1 + R + 13) := by
  rw [cf_minus, cf_scaled]
  refine add_lt_pow' ?_ ?_
  · have h1 : (m * bn).natAbs ≤ 2 ^ (e + K1) := Nat.le_of_lt (mul_lt_pow hm hbn)
    exact lt_pow_mono (mul_lt_pow h1 (hu k)) (by omega)
  · have h1 : nrm (scaledI n qs) ≤ 2 ^ (4 + (K0 + R)) := nrm_cf (n := 4) (fun j => by
      rw [cf_scaled]
      exact mul_lt_pow (Nat.le_of_lt hn) (hq j)) (Nat.le_trans (scaled_len _ _) lq)
    have h2 : nrm bu ≤ 2 ^ (8 + K1) := nrm_cf (n := 8) hbu lb
    refine Nat.le_trans (cf_nrm _ k) (Nat.le_trans (nrm_mulI _ _) (Nat.le_trans (Nat.mul_le_mul h1 h2) ?_))
    rw [← Nat.pow_add]
    exact pow_mono2 (by omega)
theorem next_len {x n : Int} {u qs bu : List Int} {J s : Nat} (hu : u.length ≤ J) (hb : bu.length ≤ J) (hq : qs.length ≤ s) : (minusI (scaledI x u) (mulI (scaledI n qs) bu)).length ≤ J + s := by
  have h1 := minus_len (scaledI x u) (mulI (scaledI n qs) bu)
  have h2 := scaled_len x u
  have h3 := mulI_len (scaledI n qs) bu
  have h4 := scaled_len n qs
  omega
/-- the next step keeps it all -/
theorem MtI.step {a b : Po} {V L i : Nat} {row0 u0 v0 row1 u1 v1 : List Int} {n0 n1 : Int} {p bb K0 K1 : Nat} (hV : 30 ≤ V) (hL : L ≤ 14) (I : MtI a b V L i row0 u0 v0 n0 row1 u1 v1 n1) (Z : MtZ V L row0 u0 v0 n0 row1 u1 v1 n1 p bb K0 K1) (hne : row1 ≠ []) {m : Int} {qs rs nl nr : List Int} (dv : DivR row0 row1 p bb m qs rs)
    (hnl : nl = minusI (scaledI (m * n1) u0) (mulI (scaledI n0 qs) u1)) (hnr : nr = minusI (scaledI (m * n1) v0) (mulI (scaledI n0 qs) v1)) {d : Int} (hd : d = shrI (n0 * n1 * scI rs) nl nr) :
    Nf nl ∧ Nf nr ∧ (nl ≠ [] ∨ nr ≠ []) ∧ nl.length ≤ 256 ∧ nr.length ≤ 256 ∧ (∀ k, (cf nl k).natAbs < 2 ^ (K0 + K1 + (p + stepsI row0 row1 * (bb + 1)) + 13)) ∧ (∀ k, (cf nr k).natAbs < 2 ^ (K0 + K1 + (p + stepsI row0 row1 * (bb + 1)) + 13)) ∧
    MtI a b V L (i + 1) row1 u1 v1 n1 (simpleI rs) (lessI d nl) (lessI d nr) ((n0 * n1 * scI rs).fdiv d) ∧
    MtZ V L row1 u1 v1 n1 (simpleI rs) (lessI d nl) (lessI d nr) ((n0 * n1 * scI rs).fdiv d) bb (bdI V (L + 1 - row1.length)) K1 (K0 + K1 + (p + stepsI row0 row1 * (bb + 1)) + 13) := by
  have il := I.il
  have h1 := List.length_pos_iff.mpr hne
  obtain ⟨b1, b2, b3, b4⟩ := Z.bounds hV I.l0 (by omega) hne
  obtain ⟨g1, g2, g3⟩ := MtS.next I.s0 I.s1 hne dv.eq dv.ln
  rw [← hnl, ← hnr] at g1 g3
  have nfl : Nf nl := by rw [hnl]; exact nf_trim _
  have nfr : Nf nr := by rw [hnr]; exact nf_trim _
  have hm1 : m * n1 ≠ 0 := by
    rcases I.s1.sim with ⟨e, _⟩ | ⟨_, _, h2⟩
    · exact absurd e hne
    · exact Int.mul_ne_zero (by have := dv.mp; omega) (by omega)
  have hdet : Po.of u1 * Po.of nr - Po.of nl * Po.of v1 ≠ 0 := by
    rw [g3]
    exact Po.mul_ne (Po.C_ne (by omega)) I.det
  have hno : nl ≠ [] ∨ nr ≠ [] := Classical.byContradiction fun hc => by
    rw [not_or, Classical.not_not, Classical.not_not] at hc
    refine hdet ?_
    rw [hc.1, hc.2, Po.of_nil]
    grind
  have h0 := shr_ne (m := n0 * n1 * scI rs) nfl nfr hno
  obtain ⟨d1, d2, d3⟩ := shr_dvd (n0 * n1 * scI rs) nl nr
  have hst : stepsI row0 row1 ≤ L + 1 := by have := I.l0; unfold stepsI; omega
  have hJ : 1 + i * (L + 1) + (L + 1) ≤ 256 := by
    have h2 : (i + 1) * (L + 1) ≤ 14 * 15 := Nat.mul_le_mul (by omega) (by omega)
    rw [Nat.succ_mul] at h2
    omega
  have lnl : nl.length ≤ 1 + (i + 1) * (L + 1) := by
    have h2 := next_len (x := m * n1) (n := n0) I.lu0 I.lu1 dv.lq
    rw [← hnl] at h2
    rw [Nat.succ_mul]
    omega
  have lnr : nr.length ≤ 1 + (i + 1) * (L + 1) := by
    have h2 := next_len (x := m * n1) (n := n0) I.lv0 I.lv1 dv.lq
    rw [← hnr] at h2
    rw [Nat.succ_mul]
    omega
  have hJ1 : 1 + (i + 1) * (L + 1) ≤ 256 := by
    rw [Nat.succ_mul]
    omega
  have lq := dv.lq
  have hdb : stepsI row0 row1 * bb ≤ p + stepsI row0 row1 * (bb + 1) := by
    have := Nat.mul_le_mul_left (stepsI row0 row1) (show bb ≤ bb + 1 by omega)
    omega
  have lu1 := I.lu1
  have lv1 := I.lv1
  have znl : ∀ k, (cf nl k).natAbs < 2 ^ (K0 + K1 + (p + stepsI row0 row1 * (bb + 1)) + 13) := fun k => by
    rw [hnl]
    exact next_lt dv.mb hdb Z.n1 Z.u0 Z.n0 dv.qb Z.u1 (by omega) (by omega) k
  have znr : ∀ k, (cf nr k).natAbs < 2 ^ (K0 + K1 + (p + stepsI row0 row1 * (bb + 1)) + 13) := fun k => by
    rw [hnr]
    exact next_lt dv.mb hdb Z.n1 Z.v0 Z.n0 dv.qb Z.v1 (by omega) (by omega) k
  have hleast := MtS.least dv.nr nfl nfr hno g2 g1
  have hsl := simple_len rs
  have hlr := dv.lr
  have hmul : (1 : Nat) + i * (L + 1) ≤ 1 + (i + 1) * (L + 1) := by
    rw [Nat.succ_mul]
    omega
  rw [← hd] at h0 d1 d2 d3 hleast
  refine ⟨nfl, nfr, hno, by omega, by omega, znl, znr, ⟨I.s1, hleast, ?_, ?_, by omega, by omega, by omega, ?_, ?_, by omega⟩, ⟨Z.r1, ?_, Z.u1, Z.v1, Z.n1, ?_, ?_, ?_, .inr ⟨by omega, by omega, b4, by omega, rfl⟩⟩⟩
  · intro hz
    refine hdet ?_
    rw [of_less d2, of_less d3]
    have e : Po.of u1 * (Po.C d * Po.of (lessI d nr)) - Po.C d * Po.of (lessI d nl) * Po.of v1 = Po.C d * (Po.of u1 * Po.of (lessI d nr) - Po.of (lessI d nl) * Po.of v1) := by grind
    rw [e, hz]
    grind
  · intro h hp hd1 hd2
    refine I.back h hp ?_ hd1
    refine Po.dvd_of_C hp (m := m) (by have := dv.mp; omega) ?_
    rw [dv.eq, of_simple dv.nr]
    exact Po.dvd_add' (Po.dvd_mulL hd1 _) (Po.dvd_mulL hd2 _)
  · rw [less_len]
    exact lnl
  · rw [less_len]
    exact lnr
  · intro k
    exact lt_pow_mono (Nat.lt_of_le_of_lt (simple_abs dv.nr k) (dv.rb k)) b1
  · intro k
    exact Nat.lt_of_le_of_lt (less_abs h0 d2 k) (znl k)
  · intro k
    exact Nat.lt_of_le_of_lt (less_abs h0 d3 k) (znr k)
  · have h2 : (n0 * n1 * scI rs).natAbs < 2 ^ (K0 + K1 + (p + stepsI row0 row1 * (bb + 1))) := by
      refine mul_lt_pow (Nat.le_of_lt (mul_lt_pow (Nat.le_of_lt Z.n0) Z.n1)) ?_
      rw [sc_abs]
      exact cont_bound dv.nr dv.rb
    obtain ⟨q, hq⟩ := d1
    rw [hq, Int.mul_fdiv_cancel_left _ h0]
    rw [hq, Int.natAbs_mul] at h2
    have h3 : q.natAbs ≤ d.natAbs * q.natAbs := Nat.le_mul_of_pos_left _ (Int.natAbs_pos.mpr h0)
    exact Nat.lt_of_le_of_lt h3 (Nat.lt_of_lt_of_le h2 (pow_mono2 (by omega)))
/-- the end -/
theorem MtI.done {a b : Po} {V L i : Nat} {row0 u0 v0 row1 u1 v1 : List Int} {n0 n1 : Int} (I : MtI a b V L i row0 u0 v0 n0 row1 u1 v1 n1) (h1 : row1 = []) (h0 : ¬(a = 0 ∧ b = 0)) : row0 ≠ [] ∧ Po.Sim (Po.of row0) ∧ 1 ≤ n0 ∧ Po.of row0 ∣ a ∧ Po.of row0 ∣ b := by
  have hne : row0 ≠ [] := fun e => h0 (by
    have e0 := I.s0.eq
    have e1 := I.s1.eq
    rw [e, Po.of_nil] at e0
    rw [h1, Po.of_nil] at e1
    have z0 : Po.of u0 * a + Po.of v0 * b = 0 := by rw [e0]; grind
    have z1 : Po.of u1 * a + Po.of v1 * b = 0 := by rw [e1]; grind
    have k1 : (Po.of u0 * Po.of v1 - Po.of u1 * Po.of v0) * a = (Po.of u0 * Po.of v1 - Po.of u1 * Po.of v0) * 0 := by grind
    have k2 : (Po.of u0 * Po.of v1 - Po.of u1 * Po.of v0) * b = (Po.of u0 * Po.of v1 - Po.of u1 * Po.of v0) * 0 := by grind
    exact ⟨Po.mul_cancel I.det k1, Po.mul_cancel I.det k2⟩)
  rcases I.s0.sim with ⟨e, _⟩ | ⟨_, hs, hn⟩
  · exact absurd e hne
  · have := I.back _ hs.1 (Po.dvd_refl' _) (by rw [h1, Po.of_nil]; exact Po.dvd_zero' _)
    exact ⟨hne, hs, hn, this.1, this.2⟩
theorem shr_sign (m : Int) (u v : List Int) : shrI m u v = if m < 0 then -((Nat.gcd (Nat.gcd m.natAbs (cont u)) (cont v) : Nat) : Int) else ((Nat.gcd (Nat.gcd m.natAbs (cont u)) (cont v) : Nat) : Int) := rfl
/-- the start: the two rows, each told by itself -/
theorem MtI.init {ns ms : List Int} {V L : Nat} (hn : Nf ns) (hm : Nf ms) (ln : ns.length ≤ L) (lm : ms.length ≤ L) (hV : 1 ≤ V) (xn : ∀ k, (cf ns k).natAbs < 2 ^ V) (xm : ∀ k, (cf ms k).natAbs < 2 ^ V) {d e : Int} (hd : d = shrI (1 * scI ns) [1] []) (he : e = shrI (1 * scI ms) [] [1]) :
    MtI (Po.of ns) (Po.of ms) V L 0 (simpleI ns) (lessI d [1]) (lessI d []) ((1 * scI ns).fdiv d) (simpleI ms) (lessI e []) (lessI e [1]) ((1 * scI ms).fdiv e) ∧
    MtZ V L (simpleI ns) (lessI d [1]) (lessI d []) ((1 * scI ns).fdiv d) (simpleI ms) (lessI e []) (lessI e [1]) ((1 * scI ms).fdiv e) V V V V := by
  have n1 : Nf [1] := nf_one
  have s0 := MtS.least (a := Po.of ns) (b := Po.of ms) hn n1 nf_nil (.inl (by simp)) (.inr (by decide : (1 : Int) ≠ 0)) (by rw [Po.of_nil, Po.of_one]; grind)
  have s1 := MtS.least (a := Po.of ns) (b := Po.of ms) hm nf_nil n1 (.inr (by simp)) (.inr (by decide : (1 : Int) ≠ 0)) (by rw [Po.of_nil, Po.of_one]; grind)
  rw [← hd] at s0
  rw [← he] at s1
  have d0 : d ≠ 0 := hd ▸ shr_ne (m := 1 * scI ns) n1 nf_nil (.inl (by simp))
  have e0 : e ≠ 0 := he ▸ shr_ne (m := 1 * scI ms) nf_nil n1 (.inr (by simp))
  obtain ⟨dm, du, _⟩ := shr_dvd (1 * scI ns) [1] []
  obtain ⟨em, _, ev⟩ := shr_dvd (1 * scI ms) [] [1]
  rw [← hd] at dm du
  rw [← he] at em ev
  have small : ∀ {z : Int}, z ≠ 0 → (∀ k, z ∣ cf [1] k) → ∀ k, (cf (lessI z [1]) k).natAbs < 2 ^ V := fun {z} h0 hz k => by
    refine Nat.lt_of_le_of_lt (less_abs h0 hz k) (Nat.lt_of_le_of_lt (m := 1) ?_ (Nat.lt_of_lt_of_le (by decide : 1 < 2 ^ 1) (pow_mono2 hV)))
    rw [cf_one]
    split <;> decide
  have nul : ∀ (z : Int) (k : Nat), (cf (lessI z []) k).natAbs < 2 ^ V := fun z k => by
    show (cf [] k).natAbs < _
    rw [cf_nil]
    exact two_le_pow V
  have num : ∀ {z c : Int} {l : List Int}, Nf l → z ≠ 0 → z ∣ 1 * scI l → (∀ k, (cf l k).natAbs < 2 ^ V) → ((1 * scI l).fdiv z).natAbs < 2 ^ V := fun {z c l} hl h0 hz hx => by
    obtain ⟨q, hq⟩ := hz
    have h2 : (1 * scI l).natAbs < 2 ^ V := by
      rw [Int.one_mul, sc_abs]
      exact cont_bound hl hx
    rw [hq, Int.mul_fdiv_cancel_left _ h0]
    rw [hq, Int.natAbs_mul] at h2
    exact Nat.lt_of_le_of_lt (Nat.le_mul_of_pos_left _ (Int.natAbs_pos.mpr h0)) h2
  have len1 := less_len d [1]
  have len2 := less_len e [1]
  have sl1 := simple_len ns
  have sl2 := simple_len ms
  refine ⟨⟨s0, s1, ?_, ?_, by omega, by rw [len1]; simp, by show 0 ≤ _; omega, by show 0 ≤ _; omega, by rw [len2]; simp, by omega⟩, ⟨fun k => Nat.lt_of_le_of_lt (simple_abs hn k) (xn k), fun k => Nat.lt_of_le_of_lt (simple_abs hm k) (xm k), small d0 du, nul d, num (c := 0) hn d0 dm xn, nul e, small e0 ev, num (c := 0) hm e0 em xm, .inl ⟨rfl, rfl, rfl, rfl⟩⟩⟩
  · have z1 : Po.of (lessI d [1]) ≠ 0 := fun z => by
      have := of_less (d := d) (l := [1]) du
      rw [z, Po.of_one, ← Po.one_C] at this
      exact Po.one_ne (by rw [this]; grind)
    have z2 : Po.of (lessI e [1]) ≠ 0 := fun z => by
      have := of_less (d := e) (l := [1]) ev
      rw [z, Po.of_one, ← Po.one_C] at this
      exact Po.one_ne (by rw [this]; grind)
    intro hz
    refine Po.mul_ne z1 z2 ?_
    rw [← hz]
    show _ = _ - Po.of [] * Po.of []
    rw [Po.of_nil]
    grind
  · intro h hp h1 h2
    rw [of_simple hn, of_simple hm]
    exact ⟨Po.dvd_mulL h1 _, Po.dvd_mulL h2 _⟩
end PP
/-! Yun: parts by meeting with the slope: what each turn keeps, and its sizes -/
namespace PP
namespace Po
/-- what is told of the first i counts taken out of f: w is what is left, t what is left of the slope -/
structure YunS (f : Po) (i : Nat) (w t : Po) (rows : List (Po × Nat)) : Prop where
  wn : w ≠ 0
  wf : w ∣ f
  wv : ∀ P, Ir P → v P w = if i < v P f then 1 else 0
  tw : ∀ P h, Ir P → i < v P f → w = P * h → P ∣ t - C ((v P f : Int) - (i : Int)) * D P * h
  ts : t.sz ≤ w.sz - 1
  row : ∀ r ∈ rows, Sim r.1 ∧ 2 ≤ r.1.sz ∧ 1 ≤ r.2 ∧ r.2 ≤ i ∧ ∀ P, Ir P → v P r.1 = if v P f = r.2 then 1 else 0
  up : rows.Pairwise fun a b => a.2 < b.2
  sum : ∀ P, Ir P → sumV P rows = if v P f ≤ i then v P f else 0
theorem v_le_sz {P f : Po} (hP : Ir P) (hf : f ≠ 0) : v P f + 1 ≤ f.sz := by
  obtain ⟨h, e, _⟩ := v_val hP hf
  have hh : h ≠ 0 := fun z => hf (by rw [e, z]; grind)
  have key : ∀ n : Nat, n + 1 ≤ (P ^ n).sz := fun n => by
    induction n with
    | zero => rw [pow_zero', sz_one]; omega
    | succ n ih =>
      rw [pow_succ', sz_mul (pow_ne hP.ne n) hP.ne]
      have := hP.two
      omega
  have h1 := key (v P f)
  have h2 := sz_mul (pow_ne hP.ne (v P f)) hh
  rw [← e] at h2
  have := sz_pos hh
  omega
/-- the first turn: without what f has in common with its slope -/
theorem yun_init {f g w t x y : Po} {m : Int} (hf : f ≠ 0) (hg : Sim g) (h1 : f = g * w) (h2 : D f = g * t) (hm : m ≠ 0) (hb : x * f + y * D f = C m * g) : YunS f 0 w t [] := by
  have hw : w ≠ 0 := fun z => hf (by rw [h1, z]; grind)
  have hwf : w ∣ f := ⟨g, by rw [h1]; grind⟩
  have vg : ∀ P, Ir P → v P f = v P g + v P w := fun P hP => by
    have := v_mul hP hg.ne hw
    rw [← h1] at this
    exact this
  have gv : ∀ P, Ir P → 0 < v P f → v P g + 1 = v P f := fun P hP hk => by
    obtain ⟨d0, hd⟩ := v_D hP hf hk
    have h3 := v_meet hP hf d0 h1 h2 hm hb
    omega
  refine ⟨hw, hwf, fun P hP => ?_, fun P h hP hk e => ?_, ?_, fun r hr => absurd hr (by simp), List.Pairwise.nil, fun P hP => ?_⟩
  · have h3 := vg P hP
    by_cases hk : 0 < v P f
    · rw [if_pos hk]
      have := gv P hP hk
      omega
    · rw [if_neg hk]
      omega
  · have hgk := gv P hP hk
    obtain ⟨g', eg, ng⟩ := v_val hP hg.ne
    generalize hk0 : v P g = k at *
    have hkf : v P f = k + 1 := hgk.symm
    have ef : f = P ^ (k + 1) * (g' * h) := by
      rw [h1, eg, e, pow_succ']
      generalize P ^ k = q
      grind
    have hd : P ^ k * (g' * t) = P ^ k * (C ((k + 1 : Nat) : Int) * D P * (g' * h) + P * D (g' * h)) := by
      have h3 : D f = P ^ k * g' * t := by rw [h2, eg]
      have h4 := D_mul (P ^ (k + 1)) (g' * h)
      rw [← ef, h3, D_pow, pow_succ'] at h4
      generalize P ^ k = q at *
      generalize D (g' * h) = z at *
      generalize C ((k + 1 : Nat) : Int) = c at *
      grind
    have h5 := mul_cancel (pow_ne hP.ne k) hd
    have h6 : P ∣ g' * (t - C ((v P f : Int) - ((0 : Nat) : Int)) * D P * h) := ⟨D (g' * h), by
      have ec : (v P f : Int) - ((0 : Nat) : Int) = ((k + 1 : Nat) : Int) := by omega
      rw [ec]
      generalize D (g' * h) = z at *
      generalize C ((k + 1 : Nat) : Int) = c at *
      grind⟩
    exact (hP.prime h6).resolve_left ng
  · have s1 := sz_mul hg.ne hw
    rw [← h1] at s1
    have hw1 := sz_pos hw
    have hg1 := sz_pos hg.ne
    by_cases ht : t = 0
    · rw [ht, sz_zero]
      omega
    · have s2 := sz_mul hg.ne ht
      rw [← h2] at s2
      have s3 := sz_D f
      have ht1 := sz_pos ht
      omega
  · show 0 = _
    split <;> omega
/-- another turn -/
theorem YunS.step {f w t : Po} {i : Nat} {rows : List (Po × Nat)} (Y : YunS f i w t rows) {g w' t' x y : Po} {m : Int} (hg : Sim g) (h1 : w = g * w') (h2 : t - D w = g * t') (hm : m ≠ 0) (hb : x * w + y * (t - D w) = C m * g) (hf : f ≠ 0) :
    YunS f (i + 1) w' t' (rows ++ (if 1 < g.sz then [(g, i + 1)] else [])) ∧ ∀ P, Ir P → v P g = if v P f = i + 1 then 1 else 0 := by
  have hw' : w' ≠ 0 := fun z => Y.wn (by rw [h1, z]; grind)
  -- what a prime of w does to the new slope
  have key : ∀ P h, Ir P → i < v P f → w = P * h → P ∣ (t - D w) - C ((v P f : Int) - ((i + 1 : Nat) : Int)) * D P * h := fun P h hP hk e => by
    obtain ⟨q, hq⟩ := Y.tw P h hP hk e
    have h3 : D w = D P * h + P * D h := by rw [e]; exact D_mul _ _
    refine ⟨q - D h, ?_⟩
    have ec : C ((v P f : Int) - ((i + 1 : Nat) : Int)) = C ((v P f : Int) - (i : Int)) - 1 := by
      rw [show (v P f : Int) - ((i + 1 : Nat) : Int) = (v P f : Int) - (i : Int) - 1 by omega, C_sub]
      rfl
    rw [ec, h3]
    generalize C ((v P f : Int) - (i : Int)) = c at *
    generalize D h = z at *
    grind
  have cof : ∀ P, Ir P → i < v P f → ∃ h, w = P * h ∧ ¬P ∣ h := fun P hP hk => by
    have h3 := Y.wv P hP
    rw [if_pos hk] at h3
    obtain ⟨h, e, n⟩ := v_val hP Y.wn
    rw [h3, pow_one'] at e
    exact ⟨h, e, n⟩
  have far : ∀ P, Ir P → i + 1 < v P f → ¬P ∣ t - D w := fun P hP hk hd => by
    obtain ⟨h, e, n⟩ := cof P hP (by omega)
    have h3 := dvd_sub' hd (key P h hP (by omega) e)
    have h4 : t - D w - (t - D w - C ((v P f : Int) - ((i + 1 : Nat) : Int)) * D P * h) = C ((v P f : Int) - ((i + 1 : Nat) : Int)) * D P * h := by
      generalize C ((v P f : Int) - ((i + 1 : Nat) : Int)) = c at *
      grind
    rw [h4] at h3
    rcases hP.prime h3 with h5 | h5
    · rcases hP.prime h5 with h6 | h6
      · exact hP.not_C (by omega) h6
      · exact hP.not_D h6
    · exact n h5
  have near : ∀ P, Ir P → v P f = i + 1 → P ∣ t - D w := fun P hP hk => by
    obtain ⟨h, e, n⟩ := cof P hP (by omega)
    have h3 := key P h hP (by omega) e
    have ec : (v P f : Int) - ((i + 1 : Nat) : Int) = 0 := by omega
    rw [ec, ← zero_C] at h3
    rw [show t - D w - 0 * D P * h = t - D w by grind] at h3
    exact h3
  have gdv : ∀ P, Ir P → v P g = if v P f = i + 1 then 1 else 0 := fun P hP => by
    have hgw : v P g ≤ v P w := v_mono hP Y.wn ⟨w', h1⟩
    have hw3 := Y.wv P hP
    by_cases hk : v P f = i + 1
    · rw [if_pos hk]
      rw [if_pos (by omega)] at hw3
      have hPw : P ∣ w := (v_pos hP Y.wn).mp (by omega)
      have hPd := near P hP hk
      have h3 : P ∣ C m * g := by
        rw [← hb]
        exact dvd_add' (dvd_mulL hPw _) (dvd_mulL hPd _)
      have h4 := dvd_of_C hP.sim.1 hm h3
      have := (v_pos hP hg.ne).mpr h4
      omega
    · rw [if_neg hk]
      by_cases hk2 : i + 1 < v P f
      · refine v_zero hP hg.ne fun hd => far P hP hk2 ?_
        rw [h2]
        exact dvd_mulR hd _
      · rw [if_neg (by omega)] at hw3
        omega
  have wv' : ∀ P, Ir P → v P w' = if i + 1 < v P f then 1 else 0 := fun P hP => by
    have h3 := v_mul hP hg.ne hw'
    rw [← h1, Y.wv P hP, gdv P hP] at h3
    split at h3 <;> split at h3 <;> split <;> omega
  refine ⟨⟨hw', dvd_tr ⟨g, by rw [h1]; grind⟩ Y.wf, wv', fun P h hP hk e => ?_, ?_, fun r hr => ?_, ?_, fun P hP => ?_⟩, gdv⟩
  · have h3 := key P (g * h) hP (by omega) (by rw [h1, e]; grind)
    have h4 : P ∣ g * (t' - C ((v P f : Int) - ((i + 1 : Nat) : Int)) * D P * h) := by
      obtain ⟨q, hq⟩ := h3
      refine ⟨q, ?_⟩
      rw [h2] at hq
      generalize C ((v P f : Int) - ((i + 1 : Nat) : Int)) = c at *
      grind
    refine (hP.prime h4).resolve_left fun hd => ?_
    have := (v_pos hP hg.ne).mpr hd
    rw [gdv P hP, if_neg (by omega)] at this
    omega
  · have s1 := sz_mul hg.ne hw'
    rw [← h1] at s1
    have hw1 := sz_pos hw'
    have hg1 := sz_pos hg.ne
    by_cases ht : t' = 0
    · rw [ht, sz_zero]
      omega
    · have s2 := sz_mul hg.ne ht
      rw [← h2] at s2
      have s3 := sz_D w
      have s4 := Y.ts
      have ht1 := sz_pos ht
      have s5 : (t - D w).sz ≤ w.sz - 1 := sz_le fun k hk => by
        rw [c_sub, c_ge (show t.sz ≤ k by omega), c_ge (show (D w).sz ≤ k by omega)]
        rfl
      omega
  · rcases List.mem_append.mp hr with hr | hr
    · obtain ⟨a, b, c, d, e⟩ := Y.row r hr
      exact ⟨a, b, c, by omega, e⟩
    · split at hr
      · rename_i hs
        simp only [List.mem_singleton] at hr
        subst hr
        exact ⟨hg, by show 2 ≤ g.sz; omega, by show 1 ≤ i + 1; omega, Nat.le_refl _, gdv⟩
      · exact absurd hr (by simp)
  · refine List.pairwise_append.mpr ⟨Y.up, by split <;> simp, fun a ha b hb => ?_⟩
    split at hb
    · simp only [List.mem_singleton] at hb
      subst hb
      have := (Y.row a ha).2.2.2.1
      show a.2 < i + 1
      omega
    · exact absurd hb (by simp)
  · have happ : ∀ l m : List (Po × Nat), sumV P (l ++ m) = sumV P l + sumV P m := fun l m => by
      induction l with
      | nil => exact (Nat.zero_add _).symm
      | cons r l ih =>
        show r.2 * v P r.1 + sumV P (l ++ m) = r.2 * v P r.1 + sumV P l + sumV P m
        rw [ih]
        omega
    rw [happ, Y.sum P hP]
    have hgv := gdv P hP
    by_cases hs : 1 < g.sz
    · rw [if_pos hs]
      show _ + ((i + 1) * v P g + 0) = _
      rw [hgv]
      split <;> split <;> split <;> omega
    · rw [if_neg hs]
      have h3 : v P g = 0 := by
        rw [hg.one (by omega), v_one hP]
      rw [h3] at hgv
      show _ + 0 = _
      split at hgv <;> split <;> split <;> omega
/-- when nothing is left -/
theorem YunS.done {f w t : Po} {i : Nat} {rows : List (Po × Nat)} (Y : YunS f i w t rows) (hs : w.sz ≤ 1) {c : Int} {s : Po} (hc : c ≠ 0) (hsim : Sim s) (e : f = C c * s) : IsParts f c rows := by
  have hw0 : ∀ P, Ir P → v P f ≤ i := fun P hP => Decidable.by_contra fun hk => by
    have h1 := Y.wv P hP
    rw [if_pos (by omega)] at h1
    have h2 := v_le_sz hP Y.wn
    omega
  have hsv : s = prodP rows := by
    have hpr : ∀ r ∈ rows, r.1 ≠ 0 := fun r hr => (Y.row r hr).1.ne
    have hps : ∀ l : List (Po × Nat), (∀ r ∈ l, Sim r.1) → Sim (prodP l) := fun l => by
      induction l with
      | nil => intro _; exact sim_one
      | cons r l ih =>
        intro h
        exact ((h r List.mem_cons_self).pow _).mul (ih fun q hq => h q (List.mem_cons_of_mem _ hq))
    refine sim_of_v hsim (hps rows fun r hr => (Y.row r hr).1) fun P hP => ?_
    rw [v_prodP hP hpr, Y.sum P hP, if_pos (hw0 P hP), e, v_Cmul hP hsim.ne hc]
  exact ⟨hc, by rw [e, hsv], fun r hr => by
    obtain ⟨a, b, d, _, h⟩ := Y.row r hr
    exact ⟨a, b, d, h⟩, Y.up⟩
/-- as long as something is left the count is below the power -/
theorem YunS.more {f w t : Po} {i : Nat} {rows : List (Po × Nat)} (Y : YunS f i w t rows) (hf : f ≠ 0) (hs : 1 < w.sz) : i + 1 < f.sz := by
  obtain ⟨P, hP, hd⟩ := ir_in _ w (Nat.le_refl _) hs
  have h1 := (v_pos hP Y.wn).mpr hd
  rw [Y.wv P hP] at h1
  have h2 := v_le_sz hP hf
  split at h1 <;> omega
/-- what is left behind the first count is of no more than half the power -/
theorem YunS.half {f w t : Po} {i : Nat} {rows : List (Po × Nat)} (Y : YunS f (i + 1) w t rows) (hf : f ≠ 0) : 2 * (w.sz - 1) + 1 ≤ f.sz := by
  obtain ⟨m, hm, hd⟩ := dvd_of_v _ (w * w) f (Nat.le_refl _) (mul_ne Y.wn Y.wn) hf fun P hP => by
    rw [v_mul hP Y.wn Y.wn, Y.wv P hP]
    split <;> omega
  have h1 := sz_dvd hd (mul_ne (C_ne hm) hf)
  rw [sz_Cmul hm, sz_mul Y.wn Y.wn] at h1
  have := sz_pos Y.wn
  omega
/-- the first rest has just the primes of f -/
theorem YunS.rad {f w t : Po} {rows : List (Po × Nat)} (Y : YunS f 0 w t rows) {r : Po} (hr : r ≠ 0) (h : ∀ P, Ir P → 0 < v P f → 0 < v P r) : w.sz ≤ r.sz := by
  obtain ⟨m, hm, hd⟩ := dvd_of_v _ w r (Nat.le_refl _) Y.wn hr fun P hP => by
    rw [Y.wv P hP]
    split
    · exact h P hP ‹_›
    · exact Nat.zero_le _
  have h1 := sz_dvd hd (mul_ne (C_ne hm) hr)
  rw [sz_Cmul hm] at h1
  exact h1
end Po
/-- the slope as a row -/
theorem of_slope (ns : List Int) : Po.of (slopeI ns) = Po.D (Po.of ns) := Po.ext fun k => by
  rw [Po.c_of, Po.cf_slope, Po.c_D, Po.c_of]
theorem slope_len (ns : List Int) : (slopeI ns).length = ns.length - 1 := by simp [slopeI]
theorem slope_nf {ns : List Int} (h : Nf ns) : Nf (slopeI ns) := by
  by_cases e : ns.length ≤ 1
  · have : slopeI ns = [] := List.eq_nil_of_length_eq_zero (by rw [slope_len]; omega)
    rw [this]
    exact nf_nil
  · refine nf_of_last (.inr ?_)
    rw [slope_len, Po.cf_slope]
    have hne : ns ≠ [] := fun z => by
      rw [z] at e
      exact e (by simp)
    have h1 := nf_last h hne
    rw [show ns.length - 1 - 1 + 1 = ns.length - 1 by omega]
    exact Int.mul_ne_zero (by omega) h1
theorem slope_lt {ns : List Int} {b : Nat} (hl : ns.length ≤ 16) (hb : ∀ k, (cf ns k).natAbs < 2 ^ b) (k : Nat) : (cf (slopeI ns) k).natAbs < 2 ^ (b + 4) := by
  rw [Po.cf_slope]
  by_cases h : k + 1 < ns.length
  · rw [Int.natAbs_mul, Int.natAbs_natCast, Nat.pow_add, Nat.mul_comm]
    have h1 := hb (k + 1)
    have h2 := two_le_pow b
    exact Nat.lt_of_le_of_lt (Nat.mul_le_mul_left _ (show k + 1 ≤ 15 by omega)) (by omega)
  · rw [cf_ge (p := ns) (by omega), Int.mul_zero]
    exact two_le_pow _
end PP
namespace PP
open PySem PySem.Spec PyProof.Rows L2 Evl
/-! small lemmas about lists of ints -/
theorem given_all (n : Nat) (v : Nat → V) : given n (fun _ => true) v = (List.range n).map v := by
  unfold given
  rw [List.filter_eq_self.mpr (fun _ _ => rfl)]
theorem et_yes {σ : L2.St} {H : Hp} : EvT tYes σ H true := fun H1 _ _ q => q H1 (Ex.refl H1)
theorem kx {i n : Nat} (h : i < n) (hn : n ≤ 1000) : ((i : Nat) : Int).natAbs < 2 ^ 10 := by
  rw [Int.natAbs_natCast]
  omega
theorem given_map (ns : List Int) (f : Int → Int) : given (ns.map V.int).length (fun _ => true) (fun i => V.int (f (ns.getD i 0))) = (ns.map f).map V.int := by
  rw [given_all, List.length_map]
  refine List.ext_getElem (by simp) fun i h1 h2 => ?_
  have h3 : i < ns.length := by simpa using h2
  simp [List.getD_eq_getElem?_getD, List.getElem?_eq_getElem h3]
theorem int_at {ns : List Int} {i : Nat} {x : V} (h : (ns.map V.int)[i]? = some x) : i < ns.length ∧ x = .int (ns.getD i 0) ∧ ns.getD i 0 ∈ ns := by
  rw [List.getElem?_map] at h
  by_cases hi : i < ns.length
  · rw [List.getElem?_eq_getElem hi] at h
    rw [List.getD_eq_getElem?_getD, List.getElem?_eq_getElem hi]
    exact ⟨hi, (Option.some.inj h).symm, List.getElem_mem hi⟩
  · rw [List.getElem?_eq_none (by omega)] at h
    cases h
theorem nrm_mulx {ns ms : List Int} {x y : Nat} {i j : Int} (h1 : nrm ns ≤ 2 ^ x) (h2 : nrm ms ≤ 2 ^ y) (hx : x + y + 2 ≤ 100000000) (hi : i.natAbs ≤ nrm ns) (hj : j.natAbs ≤ nrm ms) : CMulX i j := by
  have e1 : 2 ^ (x + 1) = 2 ^ x * 2 := Nat.pow_succ ..
  have e2 : 2 ^ (y + 1) = 2 ^ y * 2 := Nat.pow_succ ..
  have p1 := Nat.two_pow_pos x
  have p2 := Nat.two_pow_pos y
  exact mulx (a := x + 1) (b := y + 1) (by omega) (by omega) (by omega)
theorem map_empty {ns : List Int} : (ns.map V.int).isEmpty = ns.isEmpty := by cases ns <;> rfl
theorem cf_getD (p : List Int) (k : Nat) : p.getD k 0 = cf p k := rfl
theorem st_is {t : TS} {D : Ends} {σ : L2.St} {H : Hp} (σ' : L2.St) (e : σ = σ') (h : t D σ' H) : t D σ H := e ▸ h
theorem evp_tup2 {σ : L2.St} {H : Hp} {ta tb : TE} {x y : V} (ha : Ev ta σ H x) (hb : Ev tb σ H y) : EvP (tTup (tCons ta (tCons tb tNil))) σ H (fun v H2 => ∃ t, v = .ref t ∧ H2 t = some (.tup [x, y])) := fun H1 e Q q =>
  ha H1 e _ fun H2 e2 => hb H2 (e.trans e2) _ fun H3 e3 => ⟨sz_of (by simp), fun t ht => q _ _ ((e2.trans e3).trans (Ex.new ht)) ⟨t, rfl, upd_same⟩⟩

-- USES: Lists
-- IMPORT: HandS.StrMore HandS.RevRange HandS.Zip HandS.Flow HandS.Codes
/-! texts: readings by name, rules for what evaluates -/
open SX in
section
abbrev oCatS : R2 := fun x y H Q => ∃ i j : Str, x = .str i ∧ y = .str j ∧ i.length + j.length ≤ sizeLine ∧ Q (.str (i ++ j)) H
abbrev rStrI : List V → Hp → VK → Prop := fun xs H Q => ∃ i : Int, xs = [.int i] ∧ i.natAbs.log2 < 1920 ∧ Q (.str (toString i)) H
abbrev rIntS : List V → Hp → VK → Prop := fun xs H Q => ∃ (a : Str) (n : Int), xs = [.str a] ∧ PySem.intText? a = some n ∧ a.length ≤ 640 ∧ Q (.int n) H
abbrev rAscii : V → List V → Hp → VK → Prop := fun x xs H Q => ∃ a : Str, x = .str a ∧ xs = [] ∧ True ∧ Q (.bl (Txt.isascii a)) H
abbrev rDigit : V → List V → Hp → VK → Prop := fun x xs H Q => ∃ a : Str, x = .str a ∧ xs = [] ∧ True ∧ Q (.bl (Txt.isdigit a)) H
abbrev rStarts : V → List V → Hp → VK → Prop := fun x xs H Q => ∃ a b : Str, x = .str a ∧ xs = [.str b] ∧ Q (.bl (Txt.startswith a b)) H
abbrev rPartn : V → List V → Hp → VK → Prop := fun x xs H Q => ∃ a b : Str, x = .str a ∧ xs = [.str b] ∧ (b.length == 0) = false ∧ a.length ≤ sizeLine ∧
    ∀ p, H p = none → Q (.ref p) (upd H p (.tup [.str (Txt.partition a b).1, .str (Txt.partition a b).2.1, .str (Txt.partition a b).2.2]))
abbrev rSplit : V → List V → Hp → VK → Prop := fun x xs H Q => ∃ a b : Str, x = .str a ∧ xs = [.str b] ∧ (b.length == 0) = false ∧ a.length + 2 ≤ sizeLine ∧ rNewStrs (Txt.split a b) H Q
def ipS : TIp := fun x y H Q => ∃ i j : Str, x = .str i ∧ y = .str j ∧ i.length + j.length ≤ sizeLine ∧ Q (.str (i ++ j)) H
theorem ip_addS {X : Cx} : PIp X .Add ipS := fun pins s σ H x y v u Q I rx ry h => iop_add_str pins s σ H x y v u Q I rx ry h
/-! xs[0::2], xs[1::2] -/
def evn : List α → List α
  | [] => []
  | [a] => [a]
  | a :: _ :: r => a :: evn r
theorem Vals.evn : ∀ {xs : List V} {us : List Value}, Vals xs us → Vals (PP.evn xs) (PP.evn us)
  | [], _, .nil => .nil
  | [_], _, .cons r .nil => .cons r .nil
  | _ :: _ :: xs, _, .cons r (.cons _ t) => .cons r (Vals.evn t)
theorem evn_get : ∀ (xs : List α) (i : Nat), (evn xs)[i]? = xs[2 * i]?
  | [], i => by simp [evn]
  | [a], 0 => rfl
  | [a], i + 1 => by simp [evn]
  | a :: b :: r, 0 => rfl
  | a :: b :: r, i + 1 => by
    show (evn r)[i]? = _
    rw [evn_get r i, show 2 * (i + 1) = 2 * i + 1 + 1 by omega]
    rfl
theorem evn_len : ∀ xs : List α, (evn xs).length = (xs.length + 1) / 2
  | [] => by simp [evn]
  | [a] => by simp [evn]
  | a :: b :: r => by
    have := evn_len r
    show (evn r).length + 1 = _
    rw [this, List.length_cons, List.length_cons]
    omega
theorem fm_congr {f g : α → Option β} : ∀ {l : List α}, (∀ x, x ∈ l → f x = g x) → l.filterMap f = l.filterMap g
  | [], _ => rfl
  | x :: l, h => by
    rw [List.filterMap_cons, List.filterMap_cons, h x List.mem_cons_self, fm_congr fun y hy => h y (List.mem_cons_of_mem _ hy)]
theorem range2 (c n : Nat) (h : c ≤ n) : sliceRange (c : Int) (n : Int) 2 = (List.range ((n - c + 1) / 2)).map fun k => c + 2 * k := by
  unfold sliceRange
  by_cases hc : (c : Int) < (n : Int)
  · have e : ((n : Int) - (c : Int) + 2 - 1) / 2 = (((n - c + 1) / 2 : Nat) : Int) := by omega
    simp only [show (2 : Int) > 0 by decide, if_true, hc, e, Int.toNat_natCast]
    apply List.map_congr_left
    intro k _
    omega
  · have e : (n - c + 1) / 2 = 0 := by omega
    simp only [show (2 : Int) > 0 by decide, if_true, hc, if_false, e]
    rfl
theorem pick2 (us : List Value) (c : Nat) (hc : c ≤ 1) : slicePick us.toArray (some (c : Int)) none (some 2) = (evn (us.drop c)).toArray := by
  unfold slicePick
  have hb : sliceBounds (some (c : Int)) none (some 2) us.toArray.size = (((min c us.length : Nat) : Int), (us.length : Int), 2) := by
    unfold sliceBounds
    simp only [Option.getD_some, List.size_toArray]
    have e : max 0 (min (if (c : Int) < 0 then (c : Int) + (us.length : Int) else (c : Int)) (us.length : Int)) = ((min c us.length : Nat) : Int) := by
      rw [if_neg (by omega)]
      omega
    simp [e]
  rw [hb]
  show ((sliceRange ((min c us.length : Nat) : Int) (us.length : Int) 2).filterMap (us.toArray[·]?)).toArray = _
  congr 1
  rw [range2 _ _ (Nat.min_le_right _ _), List.filterMap_map]
  have hl : ∀ k, k ∈ List.range ((us.length - min c us.length + 1) / 2) → ((fun x => us.toArray[x]?) ∘ fun k => min c us.length + 2 * k) k = (evn (us.drop c))[k]? := fun k hk => by
    have hk := List.mem_range.mp hk
    show us.toArray[min c us.length + 2 * k]? = _
    rw [evn_get, List.getElem?_drop, List.getElem?_toArray]
    congr 1
    omega
  rw [fm_congr hl]
  have e2 : (us.length - min c us.length + 1) / 2 = (evn (us.drop c)).length := by
    rw [evn_len, List.length_drop]
    omega
  rw [e2]
  generalize evn (us.drop c) = l
  have key := PySem.W.krv_all l.toArray
  simpa using key
def tStepL (K : PySem.W.Frag) (c : Nat) (te : TE) : TE := fun σ H Q => te σ H fun x H1 => ∃ a xs, x = .ref a ∧ SqL K H1 a xs ∧ ∀ p, H1 p = none → Q (.ref p) (upd H1 p (.lst (evn (xs.drop c))))
theorem Vals.dropC : ∀ {xs : List V} {us : List Value} (c : Nat), Vals xs us → Vals (xs.drop c) (us.drop c)
  | _, _, 0, h => h
  | [], _, _ + 1, .nil => .nil
  | _ :: _, _, c + 1, .cons _ t => Vals.dropC c t
theorem pe_stepL {X : Cx} {e : Expr} {te : TE} {c : Nat} {k k2 : Nat} {p1 p2 p3 pos : Pos} (he : PE X e te) (hc : c ≤ 1 := by decide) : PE X (.Subscript e (.Slice (some (.Constant (.int (c : Int)) k p1)) none (some (.Constant (.int 2) k2 p2)) p3) pos) (tStepL X.K c te) := by
  refine ⟨fun pins s σ H Q I h => ?_⟩
  refine Subscript_ (thn (he.run pins s σ H _ I h) fun v s1 ⟨x, H1, I1, r1, q1⟩ => ?_)
  obtain ⟨a, xs, ex, hx, q⟩ := q1
  subst ex
  cases r1
  have hlo : PO X (some (.Constant (.int (c : Int)) k p1)) (tPart (tC (.int (c : Int)))) := po_some pe_int
  have hst : PO X (some (.Constant (.int 2) k2 p2)) (tPart (tC (.int 2))) := po_some pe_int
  refine wpAny_Slice (thn (hlo.run pins s1 σ H1 (fun o H2 => o = some (c : Int) ∧ H2 = H1) I1 ⟨(c : Int), rfl, rfl, rfl⟩) fun vl s2 ⟨l, H2, I2, pl, el, e2⟩ => ?_)
  subst el e2
  refine thn (po_none.run pins s2 σ H2 (fun o H3 => o = none ∧ H3 = H2) I2 ⟨rfl, rfl⟩) fun vu s3 ⟨u, H3, I3, pu, eu, e3⟩ => ?_
  subst eu e3
  refine thn (hst.run pins s3 σ H3 (fun o H4 => o = some 2 ∧ H4 = H3) I3 ⟨2, rfl, rfl, rfl⟩) fun vs s4 ⟨o, H4, I4, ps, eo, e4⟩ => ?_
  subst eo e4
  have I5 : Inv X pins σ H4 { s4 with heap := s4.heap.push { cls := .type "slice", data := .fields #[vl, vu, vs] } } := I4.kept (t' := s4.toks) fun b ob q => Heap.get?_push_of_some _ q
  obtain ⟨its, r, ht, hz⟩ := I5.list hx
  have hlen := r.length
  show wpAny (model X.prog X.w) X.A (subscriptTail e (.Slice (some (.Constant (.int (c : Int)) k p1)) none (some (.Constant (.int 2) k2 p2)) p3) (.ref a) (.ref s4.heap.objs.size)) (EP X pins σ Q) X.xe { s4 with heap := s4.heap.push { cls := .type "slice", data := .fields #[vl, vu, vs] } }
  refine tail_any (ops := [.ref a, .ref s4.heap.objs.size]) ht.isList.typeIs (PySem.slot_list_getitem.lookup) ?_ (by with_unfolding_all rfl)
  refine wpAny_getItem_list_slice ht.isList (Heap.IsSliceOf.new _ vl vu vs) pl pu ps (by decide) ?_ (by rw [List.size_toArray]; omega)
  rw [pick2 _ _ hc]
  refine ⟨.ref _, _, I5.laid (t' := s4.toks) (o := .lst (evn (xs.drop c))) (fun b ob q => Heap.get?_push_of_some _ q) (Nat.le_refl _) ?_, rfl, q _ (I5.hok.fresh (Nat.le_refl _))⟩
  refine ⟨?_, _, 0, Vals.evn (Vals.dropC c r), Heap.get?_push_size _ rfl⟩
  rw [evn_len, List.length_drop]
  omega
end

-- USES: TextX
/-! how polynomials are written, as lists of signs -/
abbrev S (l : List Nat) : Str := SX.S l
abbrev numL (n : Nat) : List Nat := TL.numL n
theorem str_num (n : Nat) : (toString ((n : Nat) : Int) : Str) = S (numL n) := TL.ext_tl (TL.tl_num n)
/-- a term without its sign -/
def termL (s p : Nat) : List Nat := if p = 0 then numL s else (if s = 1 then [] else numL s) ++ (if p = 1 then [120] else [120, 94] ++ numL p)
/-- what stands ahead of a term -/
def signL (neg first : Bool) : List Nat := if first = true then (if neg = true then [45] else []) else (if neg = true then [32, 45, 32] else [32, 43, 32])
/-- the text of the i greatest powers -/
def lineT (ns : List Int) : Nat → List Nat
  | 0 => []
  | i + 1 => if ns.getD (ns.length - 1 - i) 0 = 0 then lineT ns i else lineT ns i ++ (signL (decide (ns.getD (ns.length - 1 - i) 0 < 0)) (decide (lineT ns i = [])) ++ termL (ns.getD (ns.length - 1 - i) 0).natAbs (ns.length - 1 - i))
def shownL (ns : List Int) : List Nat := if lineT ns ns.length = [] then [48] else lineT ns ns.length
theorem numL_len (n k : Nat) (hk : 0 < k) (h : n < 10 ^ k) : (numL n).length ≤ k := TL.numL_len hk h
theorem termL_len {s p : Nat} (hs : s < 10 ^ 60) (hp : p < 10 ^ 3) : (termL s p).length ≤ 65 := by
  have h1 := numL_len s 60 (by decide) hs
  have h2 := numL_len p 3 (by decide) hp
  unfold termL
  split
  · omega
  · split <;> split <;> simp only [List.length_append, List.length_cons, List.length_nil] <;> omega
theorem signL_len (a b : Bool) : (signL a b).length ≤ 3 := by cases a <;> cases b <;> decide
theorem lineT_len {ns : List Int} (hx : ∀ k, (ns.getD k 0).natAbs < 10 ^ 60) (hl : ns.length ≤ 1000) : ∀ i, (lineT ns i).length ≤ 68 * i
  | 0 => by simp [lineT]
  | i + 1 => by
    have ih := lineT_len hx hl i
    unfold lineT
    split
    · omega
    · have h1 := termL_len (hx (ns.length - 1 - i)) (p := ns.length - 1 - i) (by omega)
      have h2 := signL_len (decide (ns.getD (ns.length - 1 - i) 0 < 0)) (decide (lineT ns i = []))
      rw [List.length_append, List.length_append]
      omega
theorem log_small {n : Nat} (h : n < 10 ^ 60) : ((n : Nat) : Int).natAbs.log2 < 1920 := by
  rw [Int.natAbs_natCast]
  have h1 : n < 2 ^ 200 := Nat.lt_trans h (by decide +kernel)
  exact Nat.lt_of_lt_of_le (PySem.Flt.log2_lt_of (by decide) h1) (by decide)
section
variable {K : PySem.W.Frag} {σ : L2.St} {H : Hp} {ta tb te : TE}
theorem S_length (l : List Nat) : (S l).length = l.length := SX.S_len l
theorem ev_fmtI {n : Nat} (h : Ev te σ H (.int (n : Int))) (hn : n < 10 ^ 60) : Ev (tFmt te) σ H (.str (S (numL n))) := fun H1 e Q q => h H1 e _ fun H2 e2 => .inr ⟨n, rfl, log_small hn, by
  rw [str_num]
  exact q H2 e2⟩
theorem ev_fmtS {l : List Nat} (h : Ev te σ H (.str (S l))) (hl : l.length ≤ 90000) : Ev (tFmt te) σ H (.str (S l)) := fun H1 e Q q => h H1 e _ fun H2 e2 => .inl ⟨S l, rfl, sz_of (by rw [S_length]; omega), q H2 e2⟩
theorem ev_join2 {x y : List Nat} (h1 : Ev ta σ H (.str (S x))) (h2 : Ev tb σ H (.str (S y))) (hl : x.length + y.length ≤ 90000) : Ev (tJoin [ta, tb]) σ H (.str (S (x ++ y))) := fun H1 e Q q => by
  refine h1 H1 e _ fun H2 e2 => ⟨S x, rfl, ?_, ?_⟩
  · have e0 : Str.empty ++ S x = S x := SX.S_cat [] x
    rw [e0]
    exact sz_of (by rw [S_length]; omega)
  · have e0 : Str.empty ++ S x = S x := SX.S_cat [] x
    rw [e0]
    refine h2 H2 (e.trans e2) _ fun H3 e3 => ⟨S y, rfl, ?_, ?_⟩
    · rw [SX.S_cat]
      exact sz_of (by rw [S_length, List.length_append]; omega)
    · show Q (.str (S x ++ S y)) H3
      rw [SX.S_cat]
      exact q H3 (e2.trans e3)
theorem ev_catS {x y : List Nat} (h1 : Ev ta σ H (.str (S x))) (h2 : Ev tb σ H (.str (S y))) (hl : x.length + y.length ≤ 90000) : Ev (tOp oCatS ta tb) σ H (.str (S (x ++ y))) := ev_op h1 h2 fun H2 e2 Q q => ⟨S x, S y, rfl, rfl, sz_of (by rw [S_length, S_length]; omega), by
  rw [SX.S_cat]
  exact q H2 (Ex.refl H2)⟩
theorem ev_strI {n : Nat} (h : Ev te σ H (.int (n : Int))) (hn : n < 10 ^ 60) : Ev (tCB rStrI (tCons te tNil)) σ H (.str (S (numL n))) := fun H1 e Q q => h H1 e _ fun H2 e2 => ⟨n, rfl, log_small hn, by
  rw [str_num]
  exact q H2 e2⟩
theorem S_eq {x y : List Nat} : decide (V.str (S x) = V.str (S y)) = decide (x = y) := by
  by_cases h : x = y
  · subst h
    rw [decide_eq_true rfl, decide_eq_true rfl]
  · rw [decide_eq_false h, decide_eq_false]
    intro e
    exact h (SX.S_inj (V.str.inj e))
theorem ev_eqT {x y : List Nat} (h1 : Ev ta σ H (.str (S x))) (h2 : Ev tb σ H (.str (S y))) : Ev (tOp rEq ta tb) σ H (.bl (decide (x = y))) := ev_is (ev_eqS h1 h2) (by rw [S_eq])
theorem ev_neT {x y : List Nat} (h1 : Ev ta σ H (.str (S x))) (h2 : Ev tb σ H (.str (S y))) : Ev (tOp rNe ta tb) σ H (.bl (!decide (x = y))) := ev_is (ev_neS h1 h2) (by rw [S_eq])
theorem ev_cS {s : Str} {l : List Nat} (h : s = S l) : Ev (tC (.str s)) σ H (.str (S l)) := by
  rw [h]
  exact ev_c
end

-- USES: TxtM
-- IMPORT: HandS.Replace HandS.Walk
/-! texts read: what is told or refused -/
abbrev rLenT : List V → Hp → VK → Prop := fun xs H Q => ∃ z : Str, xs = [.str z] ∧ z.length ≤ sizeLine ∧ Q (.int z.length) H
theorem rLenT_S {l : List Nat} {H : Hp} {Q : VK} (hl : l.length ≤ 90000) (q : Q (.int (l.length : Int)) H) : rLenT [.str (S l)] H Q := ⟨S l, rfl, sz_of (by rw [S_length]; omega), by
  rw [S_length]
  exact q⟩
/-- evaluating goes another way -/
def EvR (te : TE) (σ : L2.St) (H : Hp) : Prop := ∀ H1, Ex H H1 → ∀ Q : VK, te σ H1 Q
section
variable {K : PySem.W.Frag} {σ : L2.St} {H : Hp} {ta tb te : TE} {D : Ends} {tz : TS}
theorem ev_callS {sp : Sp} {W : WX} {tt : TA} {vs : List V} {v : V} (h : EvA tt σ H vs) (hs : ∀ H1, Ex H H1 → ∀ Q : VK, RetV v H1 Q → sp vs H1 Q (fun cls d H2 => W cls d σ H2)) : Ev (tCallS sp (WE W) tt) σ H v := fun H1 e Q q => h H1 e _ fun H2 e2 => hs H2 (e.trans e2) Q fun H3 e3 => q H3 (e2.trans e3)
theorem er_callS {sp : Sp} {W : WX} {tt : TA} {vs : List V} (h : EvA tt σ H vs) (hs : ∀ H1, Ex H H1 → ∀ Q : VK, sp vs H1 Q (fun cls d H2 => W cls d σ H2)) : EvR (tCallS sp (WE W) tt) σ H := fun H1 e Q => h H1 e _ fun H2 e2 => hs H2 (e.trans e2) Q
theorem r_ret (h : EvR te σ H) : tRet te D σ H := h H (Ex.refl H) _
theorem r_asg {g : TG} (h : EvR te σ H) : tSeq (tAsg te g) tz D σ H := h H (Ex.refl H) _
theorem er_tup1 {tt : TA} (h : EvR ta σ H) : EvR (tTup (tCons ta tt)) σ H := fun H1 e _ => h H1 e _
theorem er_tup2 {v : V} (h1 : Ev ta σ H v) (h : EvR tb σ H) : EvR (tTup (tCons ta (tCons tb tNil))) σ H := fun H1 e _ => h1 H1 e _ fun H2 e2 => h H2 (e.trans e2) _
theorem ty_S {x : Str} : tyV K "str" (.str x) H := by
  show "str" = "str"
  rfl
theorem ev_ascii {l : List Nat} (h : Ev te σ H (.str (S l))) : Ev (tBM0 K "str" rAscii te) σ H (.bl (l.all (· < 128))) := fun H1 e Q q => h H1 e _ fun H2 e2 => ⟨ty_S, S l, rfl, rfl, trivial, by
  have e0 : Txt.isascii (S l) = l.all (· < 128) := by
    show (S l).cps.all (· < 128) = _
    rw [← Array.all_toList]
  rw [e0]
  exact q H2 e2⟩
theorem ev_digit {l : List Nat} (h : Ev te σ H (.str (S l))) : Ev (tBM0 K "str" rDigit te) σ H (.bl (decide (0 < l.length) && l.all Unicode.isDigit)) := fun H1 e Q q => h H1 e _ fun H2 e2 => ⟨ty_S, S l, rfl, rfl, trivial, by
  have e0 : Txt.isdigit (S l) = (decide (0 < l.length) && l.all Unicode.isDigit) := by
    show (decide ((S l).length > 0) && (S l).cps.all Unicode.isDigit) = _
    rw [← Array.all_toList, S_length]
  rw [e0]
  exact q H2 e2⟩
theorem starts_S (l : List Nat) (c : Nat) : Txt.startswith (S l) (S [c]) = decide (l.head? = some c) := by
  unfold Txt.startswith
  rw [StrLaws.subAt_eq, S_length, S_length]
  show (decide (0 + 1 ≤ l.length) && ((l.drop 0).take 1 == [c])) = _
  rw [List.drop_zero]
  cases l with
  | nil => rfl
  | cons x l =>
    rw [List.head?_cons, List.length_cons]
    show (decide (0 + 1 ≤ l.length + 1) && ([x] == [c])) = _
    rw [decide_eq_true (by omega), Bool.true_and]
    by_cases h : x = c
    · subst h
      simp
    · rw [decide_eq_false (by intro e; exact h (Option.some.inj e))]
      simp [h]
theorem ev_starts {l : List Nat} {s : Str} (c : Nat) (hs : s = S [c]) (h : Ev te σ H (.str (S l))) : Ev (tBM K "str" rStarts te (tCons (tC (.str s)) tNil)) σ H (.bl (decide (l.head? = some c))) := fun H1 e Q q => h H1 e _ fun H2 e2 => ⟨ty_S, ⟨S l, s, rfl, rfl, by
  rw [hs, starts_S]
  exact q H2 e2⟩⟩
theorem cut_tail (l : List Nat) : cutS (S l) (some 1) none = S l.tail := by
  unfold cutS
  congr 1
  rw [S_length]
  have h1 : HT.sIx l.length 0 (some ((1 : Nat) : Int)) = min 1 l.length := HT.sIx_nat l.length _ 1
  have h2 : HT.sIx l.length l.length none = l.length := HT.sIx_none ..
  show ((l.drop (HT.sIx l.length 0 (some ((1 : Nat) : Int)))).take (HT.sIx l.length l.length none - HT.sIx l.length 0 (some ((1 : Nat) : Int)))).toArray = _
  rw [h1, h2]
  cases l with
  | nil => rfl
  | cons x l =>
    rw [List.length_cons, Nat.min_eq_left (by omega), List.drop_succ_cons, List.drop_zero, List.take_of_length_le (by omega)]
    rfl
theorem ev_tail {l : List Nat} (h : Ev te σ H (.str (S l))) (hl : l.length ≤ 90000) : Ev (tSl rSlS te (tPart (tC (.int 1))) tNoPart) σ H (.str (S l.tail)) := fun H1 e Q q => h H1 e _ fun H2 e2 => (eo_some (ev_c (v := .int 1)) : EvO (tPart (tC (.int 1))) σ H2 (some 1)) H2 (Ex.refl H2) _ fun H3 e3 => (eo_none : EvO tNoPart σ H3 none) H3 (Ex.refl H3) _ fun H4 e4 => ⟨S l, rfl, sz_of (by rw [S_length]; omega), by
  rw [cut_tail]
  exact q H4 ((e2.trans e3).trans e4)⟩
theorem et_truthT {l : List Nat} (h : Ev te σ H (.str (S l))) (hl : l.length ≤ 90000) : EvT (tTruth K te) σ H (!decide (l = [])) := fun H1 e Q q => h H1 e _ fun H2 e2 => ⟨!decide (l = []), (show (S l).length ≤ sizeLine ∧ (!decide (l = [])) = (((S l).length : Int) != 0) from ⟨sz_of (by rw [S_length]; omega), by
  rw [S_length]
  cases l with
  | nil => rfl
  | cons x l =>
    rw [decide_eq_false (by simp)]
    exact (bne_iff_ne.mpr (by rw [List.length_cons]; omega)).symm⟩), q H2 e2⟩
theorem ev_lenS {l : List Nat} (h : Ev te σ H (.str (S l))) (hl : l.length ≤ 90000) : Ev (tCB rLenT (tCons te tNil)) σ H (.int (l.length : Int)) := fun H1 e Q q => h H1 e _ fun H2 e2 => rLenT_S hl (q H2 e2)
end
/-! ### numbers, sizes, powers -/
def digL (l : List Nat) : Bool := l.all fun c => decide (48 ≤ c) && decide (c ≤ 57)
theorem dig_ascii : ∀ c : Nat, c < 128 → PySem.Unicode.isDigit c = (decide (48 ≤ c) && decide (c ≤ 57)) := by
  have h : (List.range 128).all (fun c => PySem.Unicode.isDigit c == (decide (48 ≤ c) && decide (c ≤ 57))) = true := by decide +kernel
  intro c hc
  exact eq_of_beq (List.all_eq_true.mp h c (List.mem_range.mpr hc))
theorem dig_one (c : Nat) : (decide (48 ≤ c) && decide (c ≤ 57)) = (decide (c < 128) && PySem.Unicode.isDigit c) := by
  by_cases hc : c < 128
  · rw [dig_ascii c hc, decide_eq_true hc, Bool.true_and]
  · rw [decide_eq_false hc, decide_eq_false (show ¬ c ≤ 57 by omega), Bool.and_false, Bool.false_and]
theorem dig_all : ∀ l : List Nat, digL l = (l.all (fun c => decide (c < 128)) && l.all PySem.Unicode.isDigit)
  | [] => rfl
  | c :: l => by
    have ih := dig_all l
    unfold digL at ih ⊢
    rw [List.all_cons, List.all_cons, List.all_cons, ih, dig_one]
    cases decide (c < 128) <;> cases PySem.Unicode.isDigit c <;> cases l.all (fun c => decide (c < 128)) <;> cases l.all PySem.Unicode.isDigit <;> rfl
def wholeN (l : List Nat) : Option Nat := if (decide (l ≠ []) && digL l) = true ∧ l.head? ≠ some 48 then some (NumText.digitsVal l) else none
/-! ### one sign in a text; where it stands -/
abbrev oInS : R2 := fun x y H Q => ∃ i j : Str, x = .str i ∧ y = .str j ∧ Q (.bl (!(Builtin.Str.occurrences j i 0 j.length 1).isEmpty)) H
abbrev oNotInS : R2 := fun x y H Q => ∃ i j : Str, x = .str i ∧ y = .str j ∧ Q (.bl (!(!(Builtin.Str.occurrences j i 0 j.length 1).isEmpty))) H
abbrev rSIndex : V → List V → Hp → VK → Prop := fun x xs H Q => ∃ (a b : Str) (i : Nat) (rest : List Nat), x = .str a ∧ xs = [.str b] ∧ Builtin.Str.occurrences a b 0 a.length 1 = i :: rest ∧ Q (.int (i : Nat)) H
theorem ev_notInS {σ : L2.St} {H : Hp} {ta tb : TE} {c : Nat} {l : List Nat} (h1 : Ev ta σ H (.str (S [c]))) (h2 : Ev tb σ H (.str (S l))) : Ev (tOp oNotInS ta tb) σ H (.bl (!decide (c ∈ l))) := ev_op h1 h2 fun H2 e2 Q q => ⟨S [c], S l, rfl, rfl, by
  rw [SX.in_one]
  exact q H2 (Ex.refl H2)⟩
/-- for c in a text -/
theorem q_forS {σ : L2.St} {H : Hp} {D : Ends} {tu tz : TS} {te : TE} {l : List Nat} {j : Nat} (h : Ev te σ H (.str (S l))) (Pv : Nat → L2.St → Hp → Prop) (h0 : ∀ H1, Ex H H1 → Pv 0 σ H1)
    (hs : ∀ (i : Nat) (c : Nat) σ' H', l[i]? = some c → Pv i σ' H' → tu { D with nx := Pv (i + 1), ct := Pv (i + 1), bk := tz D } (σ'.set j (some (.str (S [c])))) H') (hd : ∀ σ' H', Pv l.length σ' H' → tz D σ' H') : tSeq (tFor (iStr te) (gName j) tu) tz D σ H := h H (Ex.refl H) _ fun H1 e1 => ⟨S l, rfl, for_it (D := { D with nx := tz D }) (walk_str (z := S l)) Pv (h0 H1 e1) (fun _ _ _ _ _ => trivial) (fun i x σ' H' H'' hi hP hY => by
  obtain ⟨rfl, c, hc, rfl⟩ := hY
  refine hs i c σ' H'' ?_ hP
  simpa using hc) (fun σ' H' hP => hd σ' H' (by simpa using hP))⟩

-- USES: ReadX
-- EXC: NotWritten
/-! _whole_number, _size_of, _power_of -/
theorem whole_cond (l : List Nat) : (!(l.all fun c => decide (c < 128)) || (!(decide (0 < l.length) && l.all PySem.Unicode.isDigit) || decide (l.head? = some 48))) = decide (wholeN l = none) := by
  have hd := dig_all l
  have e1 : decide (0 < l.length) = decide (l ≠ []) := by cases l <;> simp
  unfold wholeN
  rw [e1, hd]
  cases (l.all fun c => decide (c < 128)) <;> cases decide (l ≠ []) <;> cases (l.all PySem.Unicode.isDigit) <;> by_cases h : l.head? = some 48 <;> simp [h]
theorem whole_dig {l : List Nat} {n : Nat} (h : wholeN l = some n) : NumText.AllDigits l ∧ l ≠ [] ∧ n = NumText.digitsVal l := by
  unfold wholeN at h
  split at h
  · rename_i hc
    rw [Bool.and_eq_true] at hc
    refine ⟨fun c hm => ?_, of_decide_eq_true hc.1.1, (Option.some.inj h).symm⟩
    have h1 := List.all_eq_true.mp hc.1.2 c hm
    rw [Bool.and_eq_true] at h1
    exact ⟨of_decide_eq_true h1.1, of_decide_eq_true h1.2⟩
  · cases h
def sp_P_whole_number (K : PySem.W.Frag) (cs : Cs) : Sp := fun vs H Q E => ∃ l : List Nat, vs = [.str (S l)] ∧ l.length ≤ 640 ∧ ((wholeN l = none ∧ ∀ H', Ex H H' → E (.ref cs.NotWritten) none H') ∨ ∃ n : Nat, wholeN l = some n ∧ RetV (.int (n : Int)) H Q)
def t_P_whole_number (K : PySem.W.Frag) (cs : Cs) (E : XK) : TS :=
  (tSeq (tIfS (tOr (tNot (tB (tBM0 K "str" rAscii (tVar 0)))) (tOr (tNot (tB (tBM0 K "str" rDigit (tVar 0)))) (tB (tBM K "str" rStarts (tVar 0) (tCons (tC (.str "0")) tNil))))) (tRaiseC cs.NotWritten (wOf E)) tNext) (tRet (tCB rIntS (tCons (tVar 0) tNil))))
theorem run_P_whole_number {K : PySem.W.Frag} {cs : Cs} {vs : List V} {H : Hp} {Q : VK} {E : XK} {l : List Addr} (_ : Tx K cs.PolyError l) (_ : cs.NotWritten ∈ l) (h : sp_P_whole_number K cs vs H Q E) : t_P_whole_number K cs E { nx := fun _ H' => Q .non H', rt := Q } (start ["figures"] vs) H := by
  obtain ⟨l, rfl, hl, h⟩ := h
  refine q_when (b := decide (wholeN l = none)) (et_is (et_or (et_not (et_B (ev_ascii (ev_var rfl)))) fun _ => et_or (et_not (et_B (ev_digit (ev_var rfl)))) fun _ => et_B (ev_starts 48 (by decide +kernel) (ev_var rfl))) (whole_cond l)) (fun hb H1 e1 => ?_) (fun hb H1 e1 => ?_)
  · have h0 := of_decide_eq_true hb
    rcases h with ⟨_, h⟩ | ⟨n, h, _⟩
    · exact h H1 e1
    · rw [h0] at h
      cases h
  · have h0 := of_decide_eq_false hb
    rcases h with ⟨h, _⟩ | ⟨n, h, q⟩
    · exact absurd h h0
    · obtain ⟨d1, d2, d3⟩ := whole_dig h
      have hi : PySem.intText? (S l) = some ((n : Nat) : Int) := by
        rw [d3]
        exact PySem.intText_digits (x := S l) d1 d2 (by rw [S_length]; omega)
      refine (ev_var (v := V.str (S l)) rfl) H1 (Ex.refl H1) _ fun H2 e2 => ?_
      exact ⟨S l, (n : Int), rfl, hi, by rw [S_length]; exact hl, q H2 (e1.trans e2)⟩
theorem ev_whole {K : PySem.W.Frag} {cs : Cs} {σ : L2.St} {H : Hp} {W : WX} {tt : TA} {l : List Nat} {n : Nat} (h : EvA tt σ H [.str (S l)]) (hl : l.length ≤ 640) (hn : wholeN l = some n) : Ev (tCallS (sp_P_whole_number K cs) (WE W) tt) σ H (.int (n : Int)) := ev_callS h fun H1 e Q q => ⟨l, rfl, hl, .inr ⟨n, hn, q⟩⟩
theorem er_whole {K : PySem.W.Frag} {cs : Cs} {σ : L2.St} {H : Hp} {W : WX} {tt : TA} {l : List Nat} (h : EvA tt σ H [.str (S l)]) (hl : l.length ≤ 640) (hn : wholeN l = none) (hW : ∀ H', Ex H H' → W (.ref cs.NotWritten) none σ H') : EvR (tCallS (sp_P_whole_number K cs) (WE W) tt) σ H := er_callS h fun H1 e Q => ⟨l, rfl, hl, .inl ⟨hn, fun H' e' => hW H' (e.trans e')⟩⟩

-- USES: ReadX P_whole_number
-- EXC: NotWritten
def sizeN (l : List Nat) : Option Nat := if l = [] then some 1 else if l = [49] then none else wholeN l
def sp_P_size_of (K : PySem.W.Frag) (cs : Cs) : Sp := fun vs H Q E => ∃ l : List Nat, vs = [.str (S l)] ∧ l.length ≤ 640 ∧ ((sizeN l = none ∧ ∀ H', Ex H H' → E (.ref cs.NotWritten) none H') ∨ ∃ n : Nat, sizeN l = some n ∧ RetV (.int (n : Int)) H Q)
def t_P_size_of (K : PySem.W.Frag) (cs : Cs) (E : XK) : TS :=
  (tSeq (tIfS (tNot (tTruth K (tVar 0))) (tRet (tC (.int 1))) tNext) (tSeq (tIfS (tTest (tOp rEq (tVar 0) (tC (.str "1")))) (tRaiseC cs.NotWritten (wOf E)) tNext) (tRet (tCallS (sp_P_whole_number K cs) (WE (wOf E)) (tCons (tVar 0) tNil)))))
theorem run_P_size_of {K : PySem.W.Frag} {cs : Cs} {vs : List V} {H : Hp} {Q : VK} {E : XK} {l : List Addr} (_ : Tx K cs.PolyError l) (_ : cs.NotWritten ∈ l) (h : sp_P_size_of K cs vs H Q E) : t_P_size_of K cs E { nx := fun _ H' => Q .non H', rt := Q } (start ["figures"] vs) H := by
  obtain ⟨l, rfl, hl, h⟩ := h
  unfold sizeN at h
  refine q_when (et_not (et_truthT (ev_var rfl) (by omega))) (fun hb H1 e1 => ?_) (fun hb H1 e1 => ?_)
  · have h0 : l = [] := by simpa using hb
    rw [if_pos h0] at h
    rcases h with ⟨h, _⟩ | ⟨n, h, q⟩
    · cases h
    · cases h
      exact s_ret ev_c fun H2 e2 => q H2 (e1.trans e2)
  have h0 : l ≠ [] := by simpa using hb
  rw [if_neg h0] at h
  refine q_when (et_test (ev_eqT (ev_var rfl) (ev_cS (l := [49]) (by decide +kernel)))) (fun hb H2 e2 => ?_) (fun hb H2 e2 => ?_)
  · have h1 := of_decide_eq_true hb
    rw [if_pos h1] at h
    rcases h with ⟨_, h⟩ | ⟨n, h, _⟩
    · exact h H2 (e1.trans e2)
    · cases h
  have h1 := of_decide_eq_false hb
  rw [if_neg h1] at h
  rcases h with ⟨hn, h⟩ | ⟨n, hn, q⟩
  · exact r_ret (er_whole (ea_cons (ev_var rfl) ea_nil) hl hn fun H' e' => h H' ((e1.trans e2).trans e'))
  · exact s_ret (ev_whole (ea_cons (ev_var rfl) ea_nil) hl hn) fun H3 e3 => q H3 ((e1.trans e2).trans e3)
theorem ev_size {K : PySem.W.Frag} {cs : Cs} {σ : L2.St} {H : Hp} {W : WX} {tt : TA} {l : List Nat} {n : Nat} (h : EvA tt σ H [.str (S l)]) (hl : l.length ≤ 640) (hn : sizeN l = some n) : Ev (tCallS (sp_P_size_of K cs) (WE W) tt) σ H (.int (n : Int)) := ev_callS h fun H1 e Q q => ⟨l, rfl, hl, .inr ⟨n, hn, q⟩⟩
theorem er_size {K : PySem.W.Frag} {cs : Cs} {σ : L2.St} {H : Hp} {W : WX} {tt : TA} {l : List Nat} (h : EvA tt σ H [.str (S l)]) (hl : l.length ≤ 640) (hn : sizeN l = none) (hW : ∀ H', Ex H H' → W (.ref cs.NotWritten) none σ H') : EvR (tCallS (sp_P_size_of K cs) (WE W) tt) σ H := er_callS h fun H1 e Q => ⟨l, rfl, hl, .inl ⟨hn, fun H' e' => hW H' (e.trans e')⟩⟩

-- USES: ReadX P_whole_number
-- EXC: NotWritten
def powerN (l : List Nat) : Option Nat := if l = [] then some 1 else if (!decide (l.head? = some 94) || decide ((3 : Int) < (l.length : Int))) = true then none else if wholeN l.tail = some 1 then none else wholeN l.tail
def sp_P_power_of (K : PySem.W.Frag) (cs : Cs) : Sp := fun vs H Q E => ∃ l : List Nat, vs = [.str (S l)] ∧ l.length ≤ 90000 ∧ ((powerN l = none ∧ ∀ H', Ex H H' → E (.ref cs.NotWritten) none H') ∨ ∃ n : Nat, powerN l = some n ∧ RetV (.int (n : Int)) H Q)
def t_P_power_of (K : PySem.W.Frag) (cs : Cs) (E : XK) : TS :=
  (tSeq (tIfS (tNot (tTruth K (tVar 0))) (tRet (tC (.int 1))) tNext) (tSeq (tIfS (tOr (tNot (tB (tBM K "str" rStarts (tVar 0) (tCons (tC (.str "^")) tNil)))) (tTest (tOp oGt (tCB rLenT (tCons (tVar 0) tNil)) (tC (.int 3))))) (tRaiseC cs.NotWritten (wOf E)) tNext) (tSeq (tAsg (tCallS (sp_P_whole_number K cs) (WE (wOf E)) (tCons (tSl rSlS (tVar 0) (tPart (tC (.int 1))) tNoPart) tNil)) (gName 1)) (tSeq (tIfS (tTest (tOp rEq (tVar 1) (tC (.int 1)))) (tRaiseC cs.NotWritten (wOf E)) tNext) (tRet (tVar 1))))))
theorem run_P_power_of {K : PySem.W.Frag} {cs : Cs} {vs : List V} {H : Hp} {Q : VK} {E : XK} {l : List Addr} (_ : Tx K cs.PolyError l) (_ : cs.NotWritten ∈ l) (h : sp_P_power_of K cs vs H Q E) : t_P_power_of K cs E { nx := fun _ H' => Q .non H', rt := Q } (start ["tail", "power"] vs) H := by
  obtain ⟨l, rfl, hl, h⟩ := h
  unfold powerN at h
  refine q_when (et_not (et_truthT (ev_var rfl) hl)) (fun hb H1 e1 => ?_) (fun hb H1 e1 => ?_)
  · have h0 : l = [] := by simpa using hb
    rw [if_pos h0] at h
    rcases h with ⟨h, _⟩ | ⟨n, h, q⟩
    · cases h
    · cases h
      exact s_ret ev_c fun H2 e2 => q H2 (e1.trans e2)
  have h0 : l ≠ [] := by simpa using hb
  rw [if_neg h0] at h
  refine q_when (et_or (et_not (et_B (ev_starts 94 (by decide +kernel) (ev_var rfl)))) fun _ => et_test (ev_gt (ev_lenS (ev_var rfl) hl) ev_c)) (fun hb H2 e2 => ?_) (fun hb H2 e2 => ?_)
  · rw [if_pos hb] at h
    rcases h with ⟨_, h⟩ | ⟨n, h, _⟩
    · exact h H2 (e1.trans e2)
    · cases h
  rw [hb, if_neg (by decide)] at h
  have e12 := e1.trans e2
  have hl3 : l.length ≤ 3 := by
    rw [Bool.or_eq_false_iff] at hb
    have := of_decide_eq_false hb.2
    omega
  have htl : l.tail.length ≤ 640 := by
    rw [List.length_tail]
    omega
  cases hw : wholeN l.tail with
  | none =>
    rw [hw, if_neg (by decide)] at h
    rcases h with ⟨_, h⟩ | ⟨n, h, _⟩
    · exact r_asg (er_whole (ea_cons (ev_tail (ev_var rfl) hl) ea_nil) htl hw fun H' e' => h H' (e12.trans e'))
    · cases h
  | some n =>
    rw [hw] at h
    refine q_asg (ev_whole (ea_cons (ev_tail (ev_var rfl) hl) ea_nil) htl hw) fun H3 e3 => ?_
    refine q_when (et_test (ev_eqI (ev_var rfl) ev_c)) (fun hb H4 e4 => ?_) (fun hb H4 e4 => ?_)
    · have hn : n = 1 := by
        have := of_decide_eq_true hb
        omega
      rw [if_pos (by rw [hn])] at h
      rcases h with ⟨_, h⟩ | ⟨n, h, _⟩
      · exact h H4 ((e12.trans e3).trans e4)
      · cases h
    · have hn : n ≠ 1 := by
        have := of_decide_eq_false hb
        omega
      rw [if_neg (by intro e; exact hn (Option.some.inj e))] at h
      rcases h with ⟨h, _⟩ | ⟨m, h, q⟩
      · cases h
      · cases h
        exact s_ret (ev_var rfl) fun H5 e5 => q H5 (((e12.trans e3).trans e4).trans e5)
theorem ev_power {K : PySem.W.Frag} {cs : Cs} {σ : L2.St} {H : Hp} {W : WX} {tt : TA} {l : List Nat} {n : Nat} (h : EvA tt σ H [.str (S l)]) (hl : l.length ≤ 90000) (hn : powerN l = some n) : Ev (tCallS (sp_P_power_of K cs) (WE W) tt) σ H (.int (n : Int)) := ev_callS h fun H1 e Q q => ⟨l, rfl, hl, .inr ⟨n, hn, q⟩⟩
theorem er_power {K : PySem.W.Frag} {cs : Cs} {σ : L2.St} {H : Hp} {W : WX} {tt : TA} {l : List Nat} (h : EvA tt σ H [.str (S l)]) (hl : l.length ≤ 90000) (hn : powerN l = none) (hW : ∀ H', Ex H H' → W (.ref cs.NotWritten) none σ H') : EvR (tCallS (sp_P_power_of K cs) (WE W) tt) σ H := er_callS h fun H1 e Q => ⟨l, rfl, hl, .inl ⟨hn, fun H' e' => hW H' (e.trans e')⟩⟩

-- USES: ReadX P_size_of P_power_of
-- EXC: NotWritten
def pairN : Option Nat → Option Nat → Option (Nat × Nat)
  | none, _ => none
  | some _, none => none
  | some n, some p => some (n, p)
/-- size and power of a term -/
def termN (l : List Nat) : Option (Nat × Nat) := match TL.par [120] [] l with
  | none => (wholeN l).map fun n => (n, 0)
  | some ab => pairN (sizeN ab.1) (powerN ab.2)
theorem termN_none {l : List Nat} (h : TL.par [120] [] l = none) : termN l = (wholeN l).map fun n => (n, 0) := by
  unfold termN
  rw [h]
theorem termN_some {l a b : List Nat} (h : TL.par [120] [] l = some (a, b)) : termN l = pairN (sizeN a) (powerN b) := by
  unfold termN
  rw [h]
def IntPr (n p : Nat) : V → Hp → Prop := fun v H => ∃ t, v = .ref t ∧ H t = some (.tup [.int (n : Int), .int (p : Int)])
def sp_P_size_and_power (K : PySem.W.Frag) (cs : Cs) : Sp := fun vs H Q E => ∃ l : List Nat, vs = [.str (S l)] ∧ l.length ≤ 640 ∧ ((termN l = none ∧ ∀ H', Ex H H' → E (.ref cs.NotWritten) none H') ∨ ∃ n p : Nat, termN l = some (n, p) ∧ RetP (IntPr n p) H Q)
def t_P_size_and_power (K : PySem.W.Frag) (cs : Cs) (E : XK) : TS :=
  (tSeq (tAsg (tBM K "str" rPartn (tVar 0) (tCons (tC (.str "x")) tNil)) (gTup K 3 (gCons (gName 1) (gCons (gName 2) (gCons (gName 3) gNil))))) (tSeq (tIfS (tNot (tTruth K (tVar 2))) (tRet (tTup (tCons (tCallS (sp_P_whole_number K cs) (WE (wOf E)) (tCons (tVar 1) tNil)) (tCons (tC (.int 0)) tNil)))) tNext) (tRet (tTup (tCons (tCallS (sp_P_size_of K cs) (WE (wOf E)) (tCons (tVar 1) tNil)) (tCons (tCallS (sp_P_power_of K cs) (WE (wOf E)) (tCons (tVar 3) tNil)) tNil))))))
theorem par_lens : ∀ (l acc a b : List Nat), TL.par [120] acc l = some (a, b) → a.length + b.length ≤ acc.length + l.length
  | [], acc, a, b, h => by cases h
  | c :: l, acc, a, b, h => by
    unfold TL.par at h
    split at h
    · cases h
      simp
    · have := par_lens l _ a b h
      simp at this ⊢
      omega
theorem q_part {K : PySem.W.Frag} {σ : L2.St} {H : Hp} {D : Ends} {tz : TS} {te : TE} {l x y z : List Nat} {s : Str} {c n1 n2 n3 : Nat} (hs : s = S [c]) (h : Ev te σ H (.str (S l))) (hl : l.length ≤ 90000) (hp : Txt.partition (S l) (S [c]) = (S x, S y, S z)) (k : ∀ H1, Ex H H1 → tz D (((σ.set n1 (some (.str (S x)))).set n2 (some (.str (S y)))).set n3 (some (.str (S z)))) H1) :
    tSeq (tAsg (tBM K "str" rPartn te (tCons (tC (.str s)) tNil)) (gTup K 3 (gCons (gName n1) (gCons (gName n2) (gCons (gName n3) gNil))))) tz D σ H := h H (Ex.refl H) _ fun H1 e1 => ⟨ty_S, ⟨S l, s, rfl, rfl, by rw [hs]; rfl, sz_of (by rw [S_length]; omega), fun p np => by
  rw [hs, hp]
  exact ⟨p, _, rfl, .inl (.inl upd_same), rfl, _, _, rfl, _, _, rfl, _, _, rfl, rfl, k _ (e1.trans (Ex.new np))⟩⟩⟩
theorem run_P_size_and_power {K : PySem.W.Frag} {cs : Cs} {vs : List V} {H : Hp} {Q : VK} {E : XK} {l : List Addr} (_ : Tx K cs.PolyError l) (_ : cs.NotWritten ∈ l) (h : sp_P_size_and_power K cs vs H Q E) : t_P_size_and_power K cs E { nx := fun _ H' => Q .non H', rt := Q } (start ["term", "figures", "letter", "tail"] vs) H := by
  obtain ⟨l, rfl, hl, h⟩ := h
  cases hp : TL.par [120] [] l with
  | none =>
    rw [termN_none hp] at h
    refine q_part (c := 120) (by decide +kernel) (ev_var rfl) (by omega) (SX.partition_none (by simp) hp) fun H1 e1 => ?_
    refine q_when (b := true) (et_is (et_not (et_truthT (l := []) (ev_var rfl) (by decide))) rfl) (fun _ H2 e2 => ?_) (fun hb => nomatch hb)
    have e12 := e1.trans e2
    rcases h with ⟨hn, h⟩ | ⟨n, p, hn, q⟩
    · have hw : wholeN l = none := by simpa using hn
      exact r_ret (er_tup1 (er_whole (ea_cons (ev_var rfl) ea_nil) hl hw fun H' e' => h H' (e12.trans e')))
    · cases hw : wholeN l with
      | none => rw [hw] at hn; cases hn
      | some m =>
        rw [hw] at hn
        cases hn
        refine s_retP (evp_tup2 (ev_whole (ea_cons (ev_var rfl) ea_nil) hl hw) ev_c) fun v H3 e3 hv => ?_
        obtain ⟨t, rfl, ht⟩ := hv
        exact q _ H3 (e12.trans e3) ⟨t, rfl, ht⟩
  | some ab =>
    obtain ⟨a, b⟩ := ab
    rw [termN_some hp] at h
    have hlen := par_lens l [] a b hp
    simp only [List.length_nil, Nat.zero_add] at hlen
    refine q_part (c := 120) (by decide +kernel) (ev_var rfl) (by omega) (SX.partition_some (by simp) hp) fun H1 e1 => ?_
    refine q_when (b := false) (et_is (et_not (et_truthT (l := [120]) (ev_var rfl) (by decide))) rfl) (fun hb => nomatch hb) (fun _ H2 e2 => ?_)
    have e12 := e1.trans e2
    cases hs : sizeN a with
    | none =>
      rw [hs] at h
      rcases h with ⟨_, h⟩ | ⟨n, p, hn, _⟩
      · exact r_ret (er_tup1 (er_size (ea_cons (ev_var rfl) ea_nil) (by omega) hs fun H' e' => h H' (e12.trans e')))
      · cases hn
    | some n =>
      rw [hs] at h
      cases hw : powerN b with
      | none =>
        rw [hw] at h
        rcases h with ⟨_, h⟩ | ⟨n, p, hn, _⟩
        · exact r_ret (er_tup2 (ev_size (ea_cons (ev_var rfl) ea_nil) (by omega) hs) (er_power (ea_cons (ev_var rfl) ea_nil) (by omega) hw fun H' e' => h H' (e12.trans e')))
        · cases hn
      | some p =>
        rw [hw] at h
        rcases h with ⟨h, _⟩ | ⟨n', p', hn, q⟩
        · cases h
        · cases hn
          refine s_retP (evp_tup2 (ev_size (ea_cons (ev_var rfl) ea_nil) (by omega) hs) (ev_power (ea_cons (ev_var rfl) ea_nil) (by omega) hw)) fun v H3 e3 hv => ?_
          obtain ⟨t, rfl, ht⟩ := hv
          exact q _ H3 (e12.trans e3) ⟨t, rfl, ht⟩

-- USES: ReadX
/-! _signs_and_terms -/
def wordsN (l : List Nat) : List (List Nat) := if l.head? = some 45 then [45] :: TL.spl [32] 0 [] l.tail else [43] :: TL.spl [32] 0 [] l
def strV (ws : List (List Nat)) : List V := ws.map fun w => V.str (S w)
theorem spl_len (l : List Nat) : (TL.spl [32] 0 [] l).length ≤ l.length + 2 := by
  have h := PyProof.Rows.split_le (S l) (S [32])
  rw [SX.split_S (by simp) (by decide), List.length_map, S_length] at h
  exact h
theorem wordsN_len (l : List Nat) : (wordsN l).length ≤ l.length + 3 := by
  unfold wordsN
  have h1 := spl_len l
  have h2 := spl_len l.tail
  have h3 : l.tail.length ≤ l.length := by rw [List.length_tail]; omega
  split <;> rw [List.length_cons] <;> omega
theorem el_split {K : PySem.W.Frag} {σ : L2.St} {H : Hp} {te : TE} {l : List Nat} {s : Str} (hs : s = S [32]) (h : Ev te σ H (.str (S l))) (hl : l.length ≤ 90000) : EvL (tBM K "str" rSplit te (tCons (tC (.str s)) tNil)) σ H (strV (TL.spl [32] 0 [] l)) := fun H1 e Q q => h H1 e _ fun H2 e2 => ⟨ty_S, ⟨S l, s, rfl, rfl, by rw [hs]; rfl, sz_of (by rw [S_length]; omega), fun p np => by
  have e0 : (Txt.split (S l) s).map V.str = strV (TL.spl [32] 0 [] l) := by
    rw [hs, SX.split_S (by simp) (by decide), List.map_map]
    rfl
  rw [e0]
  exact q p _ (fresh_back e2 np) (e2.trans (Ex.new np)) upd_same⟩⟩
def sp_P_signs_and_terms (K : PySem.W.Frag) : Sp := fun vs H Q _ => ∃ l : List Nat, vs = [.str (S l)] ∧ l.length ≤ 80000 ∧ RetL (strV (wordsN l)) H Q
def t_P_signs_and_terms (K : PySem.W.Frag) : TS :=
  (tSeq (tIfS (tB (tBM K "str" rStarts (tVar 0) (tCons (tC (.str "-")) tNil))) (tRet (tOp rCat (tLst (tCons (tC (.str "-")) tNil)) (tBM K "str" rSplit (tSl rSlS (tVar 0) (tPart (tC (.int 1))) tNoPart) (tCons (tC (.str " ")) tNil)))) tNext) (tRet (tOp rCat (tLst (tCons (tC (.str "+")) tNil)) (tBM K "str" rSplit (tVar 0) (tCons (tC (.str " ")) tNil)))))
theorem run_P_signs_and_terms {K : PySem.W.Frag} {vs : List V} {H : Hp} {Q : VK} {E : XK} (h : sp_P_signs_and_terms K vs H Q E) : t_P_signs_and_terms K { nx := fun _ H' => Q .non H', rt := Q } (start ["line"] vs) H := by
  obtain ⟨l, rfl, hl, q⟩ := h
  unfold wordsN at q
  have h1 := spl_len l
  have h2 := spl_len l.tail
  have h3 : l.tail.length ≤ l.length := by rw [List.length_tail]; omega
  refine q_when (et_B (ev_starts 45 (by decide +kernel) (ev_var rfl))) (fun hb H1 e1 => ?_) (fun hb H1 e1 => ?_)
  · rw [if_pos (of_decide_eq_true hb)] at q
    refine s_retL (el_cat (xs := [.str (S [45])]) (el_lst (ea_cons (ev_cS (by decide +kernel)) ea_nil) (by simp)) (el_split (by decide +kernel) (ev_tail (ev_var rfl) (by omega)) (by omega)) (by unfold strV; rw [List.length_map]; show 1 + _ ≤ _; omega)) fun p H2 np e2 hp => q p H2 (fresh_back e1 np) (e1.trans e2) hp
  · rw [if_neg (of_decide_eq_false hb)] at q
    refine s_retL (el_cat (xs := [.str (S [43])]) (el_lst (ea_cons (ev_cS (by decide +kernel)) ea_nil) (by simp)) (el_split (by decide +kernel) (ev_var rfl) (by omega)) (by unfold strV; rw [List.length_map]; show 1 + _ ≤ _; omega)) fun p H2 np e2 hp => q p H2 (fresh_back e1 np) (e1.trans e2) hp
theorem sl_P_signs_and_terms {K : PySem.W.Frag} {H : Hp} {l : List Nat} (hl : l.length ≤ 80000) : SpL (sp_P_signs_and_terms K) [.str (S l)] H (strV (wordsN l)) := fun H1 e Q q E => ⟨l, rfl, hl, q⟩

-- USES: Lists ReadX P_size_and_power P_signs_and_terms
-- EXC: NotWritten
/-! read -/
def stepN (st : List Int × Nat) (sg t : List Nat) : Option (List Int × Nat) := match termN t with
  | none => none
  | some np => if (!(decide (sg = [43]) || decide (sg = [45])) || decide (st.2 ≤ np.2)) = true then none else some ((if st.1 = [] then List.replicate (np.2 + 1) 0 else st.1).set np.2 (if sg = [45] then -(np.1 : Int) else (np.1 : Int)), np.2)
def runN : List (List Nat × List Nat) → List Int × Nat → Option (List Int × Nat)
  | [], st => some st
  | w :: r, st => match stepN st w.1 w.2 with
    | none => none
    | some st' => runN r st'
def prN (ws : List (List Nat)) : List (List Nat × List Nat) := (evn ws).zip (evn (ws.drop 1))
def readN (l : List Nat) : Option (List Int) := if l = [48] then some [] else if (wordsN l).length % 2 = 1 then none else (runN (prN (wordsN l)) ([], 100)).map fun st => st.1
theorem evn_map (f : α → β) : ∀ l : List α, evn (l.map f) = (evn l).map f
  | [] => rfl
  | [a] => rfl
  | a :: b :: r => by
    show f a :: evn (r.map f) = f a :: (evn r).map f
    rw [evn_map f r]
theorem evn_mem : ∀ {l : List α} {x : α}, x ∈ evn l → x ∈ l
  | [], _, h => h
  | [a], _, h => h
  | a :: b :: r, x, h => by
    rcases List.mem_cons.mp h with e | h
    · rw [e]
      exact List.mem_cons_self
    · exact List.mem_cons_of_mem _ (List.mem_cons_of_mem _ (evn_mem h))
def sp_P_read (K : PySem.W.Frag) (cs : Cs) : Sp := fun vs H Q E => ∃ l : List Nat, vs = [.str (S l)] ∧ l.length ≤ 80000 ∧ (∀ w ∈ wordsN l, w.length ≤ 640) ∧ ((readN l = none ∧ ∀ H', Ex H H' → E (.ref cs.NotWritten) none H') ∨ ∃ ns, readN l = some ns ∧ RetL (ns.map V.int) H Q)
def t_P_read (K : PySem.W.Frag) (cs : Cs) (E : XK) : TS :=
  (tSeq (tIfS (tTest (tOp rEq (tVar 0) (tC (.str "0")))) (tRet (tLst tNil)) tNext) (tSeq (tAsg (tCall (sp_P_signs_and_terms K) [] E0 (tCons (tVar 0) tNil)) (gName 1)) (tSeq (tIfS (tTruth K (tOp oOdd (tCB (rLenS K) (tCons (tVar 1) tNil)) (tC (.int 1)))) (tRaiseC cs.NotWritten (wOf E)) tNext) (tSeq (tAsg (tLst tNil) (gName 2)) (tSeq (tAsg (tOp oAdd (tC (.int 99)) (tC (.int 1))) (gName 3)) (tSeq (tFor (RZ.iZipA K (tCons (tStepL K 0 (tVar 1)) (tCons (tStepL K 1 (tVar 1)) tNil))) (gTup K 2 (gCons (gName 4) (gCons (gName 5) gNil))) (tSeq (tAsg (tCallS (sp_P_size_and_power K cs) (WE (wOf E)) (tCons (tVar 5) tNil)) (gTup K 2 (gCons (gName 6) (gCons (gName 7) gNil)))) (tSeq (tIfS (tOr (tTest (tOp (rIn K true) (tVar 4) (tTup (tCons (tC (.str "+")) (tCons (tC (.str "-")) tNil))))) (tTest (tOp oGe (tVar 7) (tVar 3)))) (tRaiseC cs.NotWritten (wOf E)) tNext) (tSeq (tAsg (tVar 7) (gName 3)) (tSeq (tIfS (tNot (tTruth K (tVar 2))) (tAsg (tOp rRep (tLst (tCons (tC (.int 0)) tNil)) (tOp oAdd (tVar 7) (tC (.int 1)))) (gName 2)) tNext) (tAsg (tIf (tTest (tOp rEq (tVar 4) (tC (.str "-")))) (tUn uNeg (tVar 6)) (tVar 6)) (gSub (tVar 2) (tVar 7) rSetL))))))) (tRet (tVar 2))))))))
theorem q_zip {K : PySem.W.Frag} {σ : L2.St} {H : Hp} {D : Ends} {tu tz : TS} {t1 t2 : TE} {xs ys : List V} {n1 n2 : Nat} (h1 : EvL t1 σ H xs) (h2 : ∀ H1, Ex H H1 → EvL t2 σ H1 ys) (hl : xs.length = ys.length) (Pv : Hp → Nat → L2.St → Hp → Prop) (h0 : ∀ H1, Ex H H1 → Pv H1 0 σ H1) (hq : ∀ H1 i σ' H', Pv H1 i σ' H' → Ex H1 H')
    (hs : ∀ H1, Ex H H1 → ∀ (i : Nat) (x y : V) (T : Addr) (σ' : L2.St) (H' : Hp), xs[i]? = some x → ys[i]? = some y → Pv H1 i σ' H' → H' T = none → tu { D with nx := Pv H1 (i + 1), ct := Pv H1 (i + 1), bk := tz D } ((σ'.set n1 (some x)).set n2 (some y)) (upd H' T (.tup [x, y]))) (hd : ∀ H1, Ex H H1 → ∀ σ' H', Pv H1 xs.length σ' H' → tz D σ' H') :
    tSeq (tFor (RZ.iZipA K (tCons t1 (tCons t2 tNil))) (gTup K 2 (gCons (gName n1) (gCons (gName n2) gNil))) tu) tz D σ H := h1 H (Ex.refl H) _ fun a H1 na e1 ha => h2 H1 e1 H1 (Ex.refl H1) _ fun b H2 nb e2 hb =>
  ⟨a, b, xs, ys, rfl, .inl ⟨sq_of (e2 _ _ ha), sq_of hb, RZ.for_zipL (D := { D with nx := tz D }) hl (Pv H2) (h0 H2 (e1.trans e2)) (fun i σ' H' hP => ⟨sq_of ((hq H2 i σ' H' hP) _ _ (e2 _ _ ha)), sq_of ((hq H2 i σ' H' hP) _ _ hb)⟩) (fun i x y T σ' H' hx hy hP nT => ⟨T, _, rfl, .inl (.inl upd_same), rfl, x, _, rfl, y, _, rfl, rfl, hs H2 (e1.trans e2) i x y T σ' H' hx hy hP nT⟩) (hd H2 (e1.trans e2))⟩⟩
theorem el_step {K : PySem.W.Frag} {σ : L2.St} {H : Hp} {te : TE} {c : Nat} {a : Addr} {xs : List V} (h : Ev te σ H (.ref a)) (ha : H a = some (.lst xs)) : EvL (tStepL K c te) σ H (evn (xs.drop c)) := fun H1 e Q q => h H1 e _ fun H2 e2 => ⟨a, xs, rfl, sq_of ((e.trans e2) _ _ ha), fun p np => q p _ (fresh_back e2 np) (e2.trans (Ex.new np)) upd_same⟩
theorem sg_in (sg : List Nat) : inV (.str (S sg)) [.str (S [43]), .str (S [45])] = (decide (sg = [43]) || decide (sg = [45])) := by
  show (S [43] == S sg || (S [45] == S sg || false)) = _
  rw [SX.S_beq_eq, SX.S_beq_eq, Bool.or_false, show decide ([43] = sg) = decide (sg = [43]) from decide_eq_decide.mpr eq_comm, show decide ([45] = sg) = decide (sg = [45]) from decide_eq_decide.mpr eq_comm]
theorem runN_drop {ps : List (List Nat × List Nat)} {i : Nat} {st : List Int × Nat} {w : List Nat × List Nat} (h : ps[i]? = some w) : runN (ps.drop i) st = match stepN st w.1 w.2 with
    | none => none
    | some st' => runN (ps.drop (i + 1)) st' := by
  obtain ⟨hi, e⟩ := List.getElem?_eq_some_iff.mp h
  rw [List.drop_eq_getElem_cons hi, e]
  rfl
theorem stepN_term {st : List Int × Nat} {sg t : List Nat} {n p : Nat} (h : termN t = some (n, p)) : stepN st sg t = if (!(decide (sg = [43]) || decide (sg = [45])) || decide (st.2 ≤ p)) = true then none else some ((if st.1 = [] then List.replicate (p + 1) 0 else st.1).set p (if sg = [45] then -(n : Int) else (n : Int)), p) := by
  unfold stepN
  rw [h]
theorem stepN_no {st : List Int × Nat} {sg t : List Nat} (h : termN t = none) : stepN st sg t = none := by
  unfold stepN
  rw [h]
theorem run_P_read {K : PySem.W.Frag} {cs : Cs} {vs : List V} {H : Hp} {Q : VK} {E : XK} {l : List Addr} (_ : Tx K cs.PolyError l) (_ : cs.NotWritten ∈ l) (h : sp_P_read K cs vs H Q E) : t_P_read K cs E { nx := fun _ H' => Q .non H', rt := Q } (start ["line", "words", "row", "lowest", "sign", "term", "size", "power"] vs) H := by
  obtain ⟨l, rfl, hl, hw, h⟩ := h
  unfold readN at h
  refine q_when (et_test (ev_eqT (ev_var rfl) (ev_cS (l := [48]) (by decide +kernel)))) (fun hb H1 e1 => ?_) (fun hb H1 e1 => ?_)
  · rw [if_pos (of_decide_eq_true hb)] at h
    rcases h with ⟨h, _⟩ | ⟨ns, h, q⟩
    · cases h
    · cases h
      exact s_retL (el_lst ea_nil (by simp)) fun p H2 np e2 hp => q p H2 (fresh_back e1 np) (e1.trans e2) hp
  rw [if_neg (of_decide_eq_false hb)] at h
  have wl := wordsN_len l
  refine q_asgL (el_call (ea_cons (ev_var rfl) ea_nil) (sl_P_signs_and_terms hl)) fun wa H2 nwa e2 hwa => ?_
  generalize wordsN l = ws at *
  have e12 := e1.trans e2
  have sl : (strV ws).length = ws.length := by
    unfold strV
    rw [List.length_map]
  have hodd : EvT (tTruth K (tOp oOdd (tCB (rLenS K) (tCons (tVar 1) tNil)) (tC (.int 1)))) ([some (.str (S l)), some (.ref wa), none, none, none, none, none, none] : L2.St) H2 (decide (ws.length % 2 = 1)) := by
    have h1 : EvT (tTruth K (tOp oOdd (tCB (rLenS K) (tCons (tVar 1) tNil)) (tC (.int 1)))) ([some (.str (S l)), some (.ref wa), none, none, none, none, none, none] : L2.St) H2 (((ws.length % 2 : Nat) : Int) != 0) := et_truthI (ev_odd (n := ws.length) (ev_is (ev_len (ev_var rfl) (sq_of (K := K) hwa)) (by rw [sl])))
    have e : (((ws.length % 2 : Nat) : Int) != 0) = decide (ws.length % 2 = 1) := by
      rcases Nat.mod_two_eq_zero_or_one ws.length with h | h
      · rw [h]; rfl
      · rw [h]; rfl
    rw [e] at h1
    exact h1
  refine q_when hodd (fun hb H3 e3 => ?_) (fun hb H3 e3 => ?_)
  · rw [if_pos (of_decide_eq_true hb)] at h
    rcases h with ⟨_, h⟩ | ⟨ns, h, _⟩
    · exact h H3 (e12.trans e3)
    · cases h
  have hev := of_decide_eq_false hb
  rw [if_neg hev] at h
  refine q_asgL (el_lst ea_nil (by simp)) fun r0 H4 nr0 e4 hr0 => ?_
  refine q_asg (v := .int ((100 : Nat) : Int)) (ev_is (ev_add ev_c ev_c) (by rfl)) fun H5 e5 => ?_
  have e13 := e12.trans e3
  have e15 := (e13.trans e4).trans e5
  have hwa5 := ((e3.trans e4).trans e5) _ _ hwa
  have hr5 := e5 _ _ hr0
  have nr0H := fresh_back e13 nr0
  refine st_is [some (.str (S l)), some (.ref wa), some (.ref r0), some (.int ((100 : Nat) : Int)), none, none, none, none] rfl ?_
  have hev0 : evn ((strV ws).drop 0) = strV (evn ws) := by
    rw [List.drop_zero]
    unfold strV
    exact evn_map _ ws
  have hev1 : evn ((strV ws).drop 1) = strV (evn (ws.drop 1)) := by
    unfold strV
    rw [← List.map_drop]
    exact evn_map _ _
  have le : (evn ws).length = (evn (ws.drop 1)).length := by
    rw [evn_len, evn_len, List.length_drop]
    omega
  have pl : (prN ws).length = (evn ws).length := by
    unfold prN
    rw [List.length_zip, ← le, Nat.min_self]
  have hat : ∀ (i : Nat) (x y : V), (strV (evn ws))[i]? = some x → (strV (evn (ws.drop 1)))[i]? = some y → ∃ sg t, (prN ws)[i]? = some (sg, t) ∧ x = .str (S sg) ∧ y = .str (S t) ∧ t.length ≤ 640 := fun i x y hx hy => by
    unfold strV at hx hy
    rw [List.getElem?_map] at hx hy
    cases h1 : (evn ws)[i]? with
    | none => rw [h1] at hx; cases hx
    | some sg =>
      cases h2 : (evn (ws.drop 1))[i]? with
      | none => rw [h2] at hy; cases hy
      | some t =>
        rw [h1] at hx
        rw [h2] at hy
        refine ⟨sg, t, ?_, (Option.some.inj hx).symm, (Option.some.inj hy).symm, hw t (List.mem_of_mem_drop (evn_mem (List.mem_of_getElem? h2)))⟩
        unfold prN
        rw [List.getElem?_zip_eq_some]
        exact ⟨h1, h2⟩
  generalize prN ws = ps at *
  have lz : (strV (evn ws)).length = ps.length := by
    unfold strV
    rw [List.length_map, pl]
  have z0 : EvL (tStepL K 0 (tVar 1)) ([some (.str (S l)), some (.ref wa), some (.ref r0), some (.int ((100 : Nat) : Int)), none, none, none, none] : L2.St) H5 (strV (evn ws)) := by
    rw [← hev0]
    exact el_step (ev_var rfl) hwa5
  have z1 : ∀ H6, Ex H5 H6 → EvL (tStepL K 1 (tVar 1)) ([some (.str (S l)), some (.ref wa), some (.ref r0), some (.int ((100 : Nat) : Int)), none, none, none, none] : L2.St) H6 (strV (evn (ws.drop 1))) := fun H6 e6 => by
    rw [← hev1]
    exact el_step (ev_var rfl) (e6 _ _ hwa5)
  refine q_zip z0 z1 (by unfold strV; rw [List.length_map, List.length_map]; exact le) (fun H7 i σ' H' => ∃ (y4 y5 y6 y7 : Option V) (r : Addr) (row : List Int) (low : Nat), σ' = [some (.str (S l)), some (.ref wa), some (.ref r), some (.int (low : Int)), y4, y5, y6, y7] ∧ Ex H7 H' ∧ H' r = some (.lst (row.map V.int)) ∧ H r = none ∧ (row = [] ∨ H7 r = none) ∧ (row = [] ∨ low < row.length) ∧ low ≤ 100 ∧ row.length ≤ 200 ∧ runN (ps.drop i) (row, low) = runN ps ([], 100))
    (fun H7 e7 => ⟨none, none, none, none, r0, [], 100, rfl, Ex.refl H7, e7 _ _ hr5, nr0H, .inl rfl, .inl rfl, Nat.le_refl _, by simp, by rw [List.drop_zero]⟩) (fun H7 i σ' H' hP => ?_) (fun H7 e7 i x y T σ' H8 hx hy hP nT => ?_) (fun H7 e7 σ' H8 hP => ?_)
  · obtain ⟨_, _, _, _, _, _, _, _, e8, _⟩ := hP
    exact e8
  · obtain ⟨y4, y5, y6, y7, r, row, low, rfl, e8, hr, nrH, nr7, hlow, l100, rl, hrun⟩ := hP
    obtain ⟨sg, t, hpi, rfl, rfl, ht⟩ := hat i x y hx hy
    have e16 := e15.trans e7
    have eT : Ex H8 (upd H8 T (.tup [.str (S sg), .str (S t)])) := Ex.new nT
    generalize upd H8 T (.tup [.str (S sg), .str (S t)]) = H9 at *
    refine st_is [some (.str (S l)), some (.ref wa), some (.ref r), some (.int (low : Int)), some (.str (S sg)), some (.str (S t)), y6, y7] rfl ?_
    rw [runN_drop hpi] at hrun
    have e79 := e8.trans eT
    have e19 := e16.trans e79
    cases hterm : termN t with
    | none =>
      rw [stepN_no hterm] at hrun
      rw [← hrun] at h
      rcases h with ⟨_, h⟩ | ⟨ns, h, _⟩
      · exact r_asg (er_callS (ea_cons (ev_var rfl) ea_nil) fun H10 e10 Q10 => ⟨t, rfl, ht, .inl ⟨hterm, fun H' e' => h H' ((e19.trans e10).trans e')⟩⟩)
      · cases h
    | some np =>
      obtain ⟨n, p⟩ := np
      rw [stepN_term hterm] at hrun
      have hcall : EvP (tCallS (sp_P_size_and_power K cs) (WE (wOf E)) (tCons (tVar 5) tNil)) ([some (.str (S l)), some (.ref wa), some (.ref r), some (.int (low : Int)), some (.str (S sg)), some (.str (S t)), y6, y7] : L2.St) H9 (IntPr n p) := fun H10 e10 Q10 q10 => (ea_cons (ev_var rfl) ea_nil : EvA (tCons (tVar 5) tNil) _ H9 [.str (S t)]) H10 e10 _ fun H11 e11 => ⟨t, rfl, ht, .inr ⟨n, p, hterm, fun v H12 e12 hv => q10 v H12 (e11.trans e12) hv⟩⟩
      refine hcall H9 (Ex.refl H9) _ fun v H10 e10 hv => ?_
      obtain ⟨tt, rfl, htt⟩ := hv
      refine ⟨tt, _, rfl, .inl (.inl htt), rfl, _, _, rfl, _, _, rfl, rfl, ?_⟩
      refine st_is [some (.str (S l)), some (.ref wa), some (.ref r), some (.int (low : Int)), some (.str (S sg)), some (.str (S t)), some (.int (n : Int)), some (.int (p : Int))] rfl ?_
      have hsg : Ev (tOp (rIn K true) (tVar 4) (tTup (tCons (tC (.str "+")) (tCons (tC (.str "-")) tNil)))) ([some (.str (S l)), some (.ref wa), some (.ref r), some (.int (low : Int)), some (.str (S sg)), some (.str (S t)), some (.int (n : Int)), some (.int (p : Int))] : L2.St) H10 (.bl (!(decide (sg = [43]) || decide (sg = [45])))) := by
        rw [← sg_in sg]
        exact ev_niU (ev_var rfl) (eu_tup (ea_cons (ev_cS (l := [43]) (by decide +kernel)) (ea_cons (ev_cS (l := [45]) (by decide +kernel)) ea_nil)) (by simp)) rfl rfl
      refine q_when (et_is (et_or (et_test hsg) fun _ => et_test (ev_ge (ev_var rfl) (ev_var rfl))) (b := (!(decide (sg = [43]) || decide (sg = [45])) || decide (low ≤ p))) (by
        congr 1
        exact decide_eq_decide.mpr (by omega))) (fun hb H11 e11 => ?_) (fun hb H11 e11 => ?_)
      · rw [if_pos hb] at hrun
        rw [← hrun] at h
        rcases h with ⟨_, h⟩ | ⟨ns, h, _⟩
        · exact h H11 ((e19.trans e10).trans e11)
        · cases h
      rw [if_neg (by rw [hb]; decide)] at hrun
      have hplow : p < low := by
        rw [Bool.or_eq_false_iff] at hb
        have := of_decide_eq_false hb.2
        omega
      refine q_asg (ev_var rfl) fun H12 e12 => ?_
      refine st_is [some (.str (S l)), some (.ref wa), some (.ref r), some (.int (p : Int)), some (.str (S sg)), some (.str (S t)), some (.int (n : Int)), some (.int (p : Int))] rfl ?_
      have e912 := (e10.trans e11).trans e12
      have hr12 := (eT.trans e912) _ _ hr
      have e712 := e79.trans e912
      refine q_whenAsg (P := fun v H' => ∃ r2, v = .ref r2 ∧ H' r2 = some (.lst ((if row = [] then List.replicate (p + 1) 0 else row).map V.int)) ∧ H r2 = none ∧ H7 r2 = none) (et_not (et_truthL (ev_var rfl) (sq_of (K := K) hr12))) (fun hb => ?_) (fun hb => ?_) fun v H13 e13' hv => ?_
      · have h0 : row = [] := by simpa using hb
        refine (evp_lf (el_rep (k := p + 1) (el_lst (ea_cons ev_c ea_nil) (by simp)) (ev_add (ev_var rfl) ev_c) (by omega) (by omega))).imp fun v H' hv => ?_
        obtain ⟨r2, rfl, nr2, hr2⟩ := hv
        refine ⟨r2, rfl, ?_, fresh_back (e16.trans e712) nr2, fresh_back e712 nr2⟩
        rw [if_pos h0, List.map_replicate]
        exact hr2
      · have h0 : row ≠ [] := by simpa using hb
        refine ⟨.ref r, rfl, fun H' e' => ⟨r, rfl, ?_, nrH, nr7.resolve_left h0⟩⟩
        rw [if_neg h0]
        exact e' _ _ hr12
      obtain ⟨r2, rfl, hr2, nr2H, nr27⟩ := hv
      refine st_is [some (.str (S l)), some (.ref wa), some (.ref r2), some (.int (p : Int)), some (.str (S sg)), some (.str (S t)), some (.int (n : Int)), some (.int (p : Int))] rfl ?_
      have hlen : p < (if row = [] then List.replicate (p + 1) (0 : Int) else row).length ∧ (if row = [] then List.replicate (p + 1) (0 : Int) else row).length ≤ 200 := by
        split
        · rw [List.length_replicate]
          omega
        · rename_i h0
          have := hlow.resolve_left h0
          omega
      generalize (if row = [] then List.replicate (p + 1) (0 : Int) else row) = row2 at hr2 hlen hrun
      refine s_setL (j := p) hr2 (v := .int (if sg = [45] then -(n : Int) else (n : Int))) (ev_if (et_test (ev_eqT (ev_var rfl) (ev_cS (l := [45]) (by decide +kernel)))) (fun hb => ?_) (fun hb => ?_)) (ev_var rfl) (ev_var rfl) (by rw [List.length_map]; exact hlen.1) fun H14 e14 => ?_
      · rw [if_pos (of_decide_eq_true hb)]
        exact ev_neg (ev_var rfl)
      · rw [if_neg (of_decide_eq_false hb)]
        exact ev_var rfl
      refine ⟨some (.str (S sg)), some (.str (S t)), some (.int (n : Int)), some (.int (p : Int)), r2, row2.set p (if sg = [45] then -(n : Int) else (n : Int)), p, rfl, Ex.mut ((e712.trans e13').trans e14) nr27, ?_, nr2H, .inr nr27, .inr (by rw [List.length_set]; exact hlen.1), by omega, by rw [List.length_set]; exact hlen.2, hrun⟩
      rw [List.map_set]
      exact upd_same
  · obtain ⟨y4, y5, y6, y7, r, row, low, rfl, e8, hr, nrH, nr7, hlow, l100, rl, hrun⟩ := hP
    have e16 := e15.trans e7
    rw [lz, List.drop_length] at hrun
    rw [← hrun] at h
    rcases h with ⟨h, _⟩ | ⟨ns, h, q⟩
    · cases h
    · cases h
      exact s_ret (ev_var rfl) fun H9 e9 => q r H9 nrH ((e16.trans e8).trans e9) (e9 _ _ hr)

/-! _is_whole, of anything whose type is known -/
def Kn (K : PySem.W.Frag) (H : Hp) (x : V) (b : Bool) : Prop := ∃ T b1 b2, (∀ H1, Ex H H1 → TyX K H1 x (.type T)) ∧ kitB T "int" = some b1 ∧ kitB T "bool" = some b2 ∧ (b1 && !b2) = b
theorem Kn.mono {K : PySem.W.Frag} {H H' : Hp} {x : V} {b : Bool} (e : Ex H H') (h : Kn K H x b) : Kn K H' x b := by
  obtain ⟨T, b1, b2, h1, h2⟩ := h
  exact ⟨T, b1, b2, fun H1 e1 => h1 H1 (e.trans e1), h2⟩
theorem kn_int {K : PySem.W.Frag} {H : Hp} (i : Int) : Kn K H (.int i) true := ⟨"int", true, false, ty_int, by decide +kernel, by decide +kernel, rfl⟩
theorem kn_bl {K : PySem.W.Frag} {H : Hp} (b : Bool) : Kn K H (.bl b) false := ⟨"bool", true, true, fun _ _ => .base (.bl b), by decide +kernel, by decide +kernel, rfl⟩
theorem kn_non {K : PySem.W.Frag} {H : Hp} : Kn K H .non false := ⟨"NoneType", false, false, fun _ _ => .base .non, by decide +kernel, by decide +kernel, rfl⟩
theorem kn_str {K : PySem.W.Frag} {H : Hp} (x : Str) : Kn K H (.str x) false := ⟨"str", false, false, fun _ _ => .base (.str x), by decide +kernel, by decide +kernel, rfl⟩
theorem kn_lst {K : PySem.W.Frag} {H : Hp} {a : Addr} {xs : List V} (h : H a = some (.lst xs)) : Kn K H (.ref a) false := ⟨"list", false, false, ty_lst h, by decide +kernel, by decide +kernel, rfl⟩
theorem kn_tup {K : PySem.W.Frag} {H : Hp} {a : Addr} {xs : List V} (h : H a = some (.tup xs)) : Kn K H (.ref a) false := ⟨"tuple", false, false, ty_tup h, by decide +kernel, by decide +kernel, rfl⟩
def sp_P_is_whole (K : PySem.W.Frag) : Sp := fun vs H Q _ => ∃ (x : V) (b : Bool), vs = [x] ∧ Kn K H x b ∧ RetV (.bl b) H Q
def t_P_is_whole (K : PySem.W.Frag) : TS :=
  (tRet (tAndV (tCB (rIsi K) (tCons (tVar 0) (tCons (tC (.ty "int")) tNil))) (tNotV (tCB (rIsi K) (tCons (tVar 0) (tCons (tC (.ty "bool")) tNil))))))
theorem run_P_is_whole {K : PySem.W.Frag} {vs : List V} {H : Hp} {Q : VK} {E : XK} (h : sp_P_is_whole K vs H Q E) : t_P_is_whole K { nx := fun _ H' => Q .non H', rt := Q } (start ["thing"] vs) H := by
  obtain ⟨x, b, rfl, ⟨T, b1, b2, ht, h1, h2, hb⟩, q⟩ := h
  subst hb
  exact s_ret (ev_andV (ev_isinst (ev_var rfl) ht h1) fun _ => ev_notV (ev_isinst (ev_var rfl) ht h2)) q
theorem sv_P_is_whole {K : PySem.W.Frag} {H : Hp} {x : V} {b : Bool} (h : Kn K H x b) : SpV (sp_P_is_whole K) [x] H (.bl b) := fun H1 e Q q E => ⟨x, b, rfl, h.mono e, q⟩

/-! _without_end_noughts, of a list -/
def sp_P_without_end_noughts (K : PySem.W.Frag) : Sp := fun vs H Q _ => ∃ (a : Addr) (ns : List Int), vs = [.ref a] ∧ SqL K H a (ns.map V.int) ∧ RetL ((trimI ns).map V.int) H Q
def t_P_without_end_noughts (K : PySem.W.Frag) : TS :=
  (tSeq (tAsg (tCB (rLenS K) (tCons (tVar 0) tNil)) (gName 1)) (tSeq (tWhile (tAnd (tTest (tOp oGt (tVar 1) (tC (.int 0)))) (tTest (tOp rEq (tOp (rIxL K) (tVar 0) (tOp oSub (tVar 1) (tC (.int 1)))) (tC (.int 0))))) (tAug 1 (tC (.int 1)) (ipI fun i j => i - j))) (tRet (tCB (rListS K) (tCons (tSl (rSlL K) (tVar 0) tNoPart (tPart (tVar 1))) tNil)))))
theorem run_P_without_end_noughts {K : PySem.W.Frag} {vs : List V} {H : Hp} {Q : VK} {E : XK} (h : sp_P_without_end_noughts K vs H Q E) : t_P_without_end_noughts K { nx := fun _ H' => Q .non H', rt := Q } (start ["numbers", "end"] vs) H := by
  obtain ⟨a, ns, rfl, hS, q⟩ := h
  refine q_asg (ev_len (ev_var rfl) hS) fun H1 e1 => ?_
  refine q_while (fun m σ' H' => σ' = [some (.ref a), some (.int (m : Int))] ∧ Ex H H' ∧ m ≤ ns.length ∧ ∀ i, m ≤ i → i < ns.length → ns.getD i 0 = 0) ns.length
    ⟨by rw [List.length_map]; rfl, e1, Nat.le_refl _, fun i h1 h2 => by omega⟩ fun m σ' H' hW => ?_
  obtain ⟨rfl, e2, hm, hz⟩ := hW
  refine ⟨_, et_and (et_test (ev_gt (ev_var rfl) ev_c)) (fun hb => et_test (ev_eqI (ev_ixI (j := m - 1) (ev_var rfl) (ev_sub (ev_var rfl) ev_c) (ex_l e2 hS) ?_ ?_) ev_c)), fun hb H3 e3 => ?_, fun hb H3 e3 => ?_⟩
  · have := of_decide_eq_true hb
    omega
  · have := of_decide_eq_true hb
    omega
  · rw [Bool.and_eq_true] at hb
    have h1 := of_decide_eq_true hb.1
    have h2 := of_decide_eq_true hb.2
    refine ⟨fun σ2 H2 => σ2 = [some (.ref a), some (.int ((m - 1 : Nat) : Int))] ∧ Ex H H2, fun σ2 H2 hN => ⟨m - 1, by omega, hN.1, hN.2, by omega, fun i h3 h4 => ?_⟩, ?_⟩
    · by_cases e : i = m - 1
      · rw [e]
        exact h2
      · exact hz i (by omega) h4
    · refine s_aug (a := (m : Int)) rfl ev_c fun H4 e4 => ⟨?_, (e2.trans e3).trans e4⟩
      have e : ((m : Int) - 1) = ((m - 1 : Nat) : Int) := by omega
      rw [e]
      rfl
  · refine s_retL (el_listN (el_sl (ev_var rfl) eo_none (eo_some (ev_var rfl)) (ex_l (e2.trans e3) hS))) fun p H4 hp e4 h4 => ?_
    have hn : m = 0 ∨ ns.getD (m - 1) 0 ≠ 0 := by
      by_cases h0 : m = 0
      · exact .inl h0
      · right
        intro hc
        rw [decide_eq_true (show (0 : Int) < m by omega), decide_eq_true hc] at hb
        cases hb
    have e := trim_take ns m hm hz hn
    rw [cut_take, ← e] at h4
    exact q.go (e2.trans e3) hp e4 h4
theorem sl_P_without_end_noughts {K : PySem.W.Frag} {H : Hp} {a : Addr} {ns : List Int} (hS : SqL K H a (ns.map V.int)) : SpL (sp_P_without_end_noughts K) [.ref a] H ((trimI ns).map V.int) := fun H1 e Q q E =>
  ⟨a, ns, rfl, ex_l e hS, q⟩

-- USES: P_is_whole P_without_end_noughts TxtM
/-! made, of a list of nothing but None -/
def sp_P_made (K : PySem.W.Frag) (cs : Cs) : Sp := fun vs H Q E => ∃ a : Addr, vs = [.ref a] ∧ SqL K H a [.non] ∧ ∀ H', Ex H H' → E (.ref cs.NoNumber) none H'
def t_P_made (K : PySem.W.Frag) (cs : Cs) (E : XK) : TS :=
  (tSeq (tFor (iEnum K (tCons (tVar 0) tNil)) (gTup K 2 (gCons (gName 1) (gCons (gName 2) gNil))) (tIfS (tNot (tB (tCall (sp_P_is_whole K) [] E0 (tCons (tVar 2) tNil)))) (tRaise1 cs.NoNumber (wOf E) (tJoin [(tC (.str "no whole number at place ")), (tFmt (tVar 1))])) tNext)) (tRet (tCall (sp_P_without_end_noughts K) [] E0 (tCons (tVar 0) tNil))))
theorem run_P_made {K : PySem.W.Frag} {cs : Cs} {vs : List V} {H : Hp} {Q : VK} {E : XK} (h : sp_P_made K cs vs H Q E) : t_P_made K cs E { nx := fun _ H' => Q .non H', rt := Q } (start ["numbers", "place", "number"] vs) H := by
  obtain ⟨a, rfl, hS, hE⟩ := h
  refine q_forEnum (ea_cons (ev_var rfl) ea_nil) hS (fun i σ' H' => σ' = [some (.ref a), none, none] ∧ Ex H H' ∧ i = 0) (fun H1 e1 => ⟨rfl, e1, rfl⟩) (fun i σ' H' hi hP => ex_l hP.2.1 hS) (fun i x σ' H' H'' hi hP e2 => ?_) (fun σ' H' hP => by
    have := hP.2.2
    simp at this)
  obtain ⟨rfl, e1, rfl⟩ := hP
  have ex : x = .non := (Option.some.inj hi).symm
  subst ex
  have e12 := e1.trans e2
  refine s_when (et_not (et_B (ev_call (ea_cons (ev_var rfl) ea_nil) (sv_P_is_whole kn_non)))) (fun _ H3 e3 => ?_) (fun hb => nomatch hb)
  have hs : (Str.ofString "no whole number at place " : Str) = S [110, 111, 32, 119, 104, 111, 108, 101, 32, 110, 117, 109, 98, 101, 114, 32, 97, 116, 32, 112, 108, 97, 99, 101, 32] := by decide +kernel
  have h1 : Ev (tJoin [(tC (.str "no whole number at place ")), (tFmt (tVar 1))]) ([some (.ref a), some (.int ((0 : Nat) : Int)), some .non] : L2.St) H3 (.str (S ([110, 111, 32, 119, 104, 111, 108, 101, 32, 110, 117, 109, 98, 101, 114, 32, 97, 116, 32, 112, 108, 97, 99, 101, 32] ++ numL 0))) := ev_join2 (ev_cS hs) (ev_fmtI (ev_var rfl) (by decide +kernel)) (by have := numL_len 0 1 (by decide) (by decide); simp only [List.length_cons, List.length_nil]; omega)
  exact h1 H3 (Ex.refl H3) (fun _ H4 => E (.ref cs.NoNumber) none H4) fun H4 e4 => hE H4 ((e12.trans e3).trans e4)

/-! _number_at -/
def sp_P_number_at (K : PySem.W.Frag) : Sp := fun vs H Q _ => ∃ (a : Addr) (ns : List Int) (j : Nat), vs = [.ref a, .int (j : Int)] ∧ SqL K H a (ns.map V.int) ∧ RetV (.int (ns.getD j 0)) H Q
def t_P_number_at (K : PySem.W.Frag) : TS :=
  (tRet (tIf (tTest (tOp oLt (tVar 1) (tCB (rLenS K) (tCons (tVar 0) tNil)))) (tOp (rIxL K) (tVar 0) (tVar 1)) (tC (.int 0))))
theorem run_P_number_at {K : PySem.W.Frag} {vs : List V} {H : Hp} {Q : VK} {E : XK} (h : sp_P_number_at K vs H Q E) : t_P_number_at K { nx := fun _ H' => Q .non H', rt := Q } (start ["row", "power"] vs) H := by
  obtain ⟨a, ns, j, rfl, hS, q⟩ := h
  refine s_ret (ev_if (et_test (ev_lt (ev_var rfl) (ev_len (ev_var rfl) hS))) (fun hb => ?_) (fun hb => ?_)) q
  · have hj : j < ns.length := by
      have := of_decide_eq_true hb
      rw [List.length_map] at this
      omega
    exact ev_ixI (ev_var rfl) (ev_var rfl) hS rfl hj
  · have hj : ¬ j < ns.length := fun hj => by
      have := of_decide_eq_false hb
      rw [List.length_map] at this
      omega
    have e : ns.getD j 0 = 0 := by
      rw [List.getD_eq_getElem?_getD, List.getElem?_eq_none (by omega)]
      rfl
    rw [e]
    exact ev_c
theorem sv_P_number_at {K : PySem.W.Frag} {H : Hp} {a : Addr} {ns : List Int} {i : Int} (j : Nat) (hS : SqL K H a (ns.map V.int)) (hi : i = (j : Int)) : SpV (sp_P_number_at K) [.ref a, .int i] H (.int (ns.getD j 0)) := fun H1 e Q q E =>
  ⟨a, ns, j, by rw [hi], ex_l e hS, q⟩

-- USES: Lists P_without_end_noughts P_number_at
/-! plus -/
def sp_P_plus (K : PySem.W.Frag) : Sp := fun vs H Q _ => ∃ (a b : Addr) (ns ms : List Int), vs = [.ref a, .ref b] ∧ SqL K H a (ns.map V.int) ∧ SqL K H b (ms.map V.int) ∧ ns.length ≤ 20000 ∧ ms.length ≤ 20000 ∧ RetL ((plusI ns ms).map V.int) H Q
def t_P_plus (K : PySem.W.Frag) : TS :=
  (tSeq (tAsg (tCB rRng1 (tCons (tCB rMax2 (tCons (tCB (rLenS K) (tCons (tVar 0) tNil)) (tCons (tCB (rLenS K) (tCons (tVar 1) tNil)) tNil))) tNil)) (gName 2)) (tRet (tCall (sp_P_without_end_noughts K) [] E0 (tCons (tLc (iRngV (tVar 2)) (gName 3) tYes (tOp oAdd (tCall (sp_P_number_at K) [] E0 (tCons (tVar 0) (tCons (tVar 3) tNil))) (tCall (sp_P_number_at K) [] E0 (tCons (tVar 1) (tCons (tVar 3) tNil)))) [3]) tNil))))
theorem run_P_plus {K : PySem.W.Frag} {vs : List V} {H : Hp} {Q : VK} {E : XK} (h : sp_P_plus K vs H Q E) : t_P_plus K { nx := fun _ H' => Q .non H', rt := Q } (start ["ones", "others", "powers", "power"] vs) H := by
  obtain ⟨a, b, ns, ms, rfl, hA, hB, hn, hm, q⟩ := h
  refine q_asgN (en_range1 (n := ((max ns.length ms.length : Nat) : Int)) (ev_is (ev_max2 (ev_len (ev_var rfl) hA) (ev_len (ev_var rfl) hB)) (by rw [List.length_map, List.length_map, max_if]))) fun g H1 ng e1 hg => ?_
  refine s_retL (el_callN (el_lcRV (fun _ => true) (fun i => .int ((· + ·) (ns.getD i 0) (ms.getD i 0))) (ev_var rfl) hg ⟨by omega, by omega⟩ (fun _ => rfl) (fun i H1 e1 hi => et_yes)
    (fun i H2 e2 hi _ => ev_add (ev_call (ea_cons (ev_var rfl) (ea_cons (ev_var rfl) ea_nil)) (sv_P_number_at i (ex_l (e1.trans e2) hA) rfl)) (ev_call (ea_cons (ev_var rfl) (ea_cons (ev_var rfl) ea_nil)) (sv_P_number_at i (ex_l (e1.trans e2) hB) rfl))))
    (ys := (plusI ns ms).map V.int) fun p H2 h2 e2 => ?_) fun p H3 hp e3 h3 => q.go e1 hp e3 h3
  refine sl_P_without_end_noughts (ns := zipI (· + ·) ns ms) (sq_of ?_)
  rw [h2, given_all, Int.toNat_natCast]
  unfold zipI
  rw [List.map_map]
  rfl
theorem sl_P_plus {K : PySem.W.Frag} {H : Hp} {a b : Addr} {ns ms : List Int} (hA : SqL K H a (ns.map V.int)) (hB : SqL K H b (ms.map V.int)) (hn : ns.length ≤ 20000) (hm : ms.length ≤ 20000) : SpL (sp_P_plus K) [.ref a, .ref b] H ((plusI ns ms).map V.int) := fun H1 e Q q E =>
  ⟨a, b, ns, ms, rfl, ex_l e hA, ex_l e hB, hn, hm, q⟩

-- USES: Lists P_without_end_noughts P_number_at
/-! minus -/
def sp_P_minus (K : PySem.W.Frag) : Sp := fun vs H Q _ => ∃ (a b : Addr) (ns ms : List Int), vs = [.ref a, .ref b] ∧ SqL K H a (ns.map V.int) ∧ SqL K H b (ms.map V.int) ∧ ns.length ≤ 20000 ∧ ms.length ≤ 20000 ∧ RetL ((minusI ns ms).map V.int) H Q
def t_P_minus (K : PySem.W.Frag) : TS :=
  (tSeq (tAsg (tCB rRng1 (tCons (tCB rMax2 (tCons (tCB (rLenS K) (tCons (tVar 0) tNil)) (tCons (tCB (rLenS K) (tCons (tVar 1) tNil)) tNil))) tNil)) (gName 2)) (tRet (tCall (sp_P_without_end_noughts K) [] E0 (tCons (tLc (iRngV (tVar 2)) (gName 3) tYes (tOp oSub (tCall (sp_P_number_at K) [] E0 (tCons (tVar 0) (tCons (tVar 3) tNil))) (tCall (sp_P_number_at K) [] E0 (tCons (tVar 1) (tCons (tVar 3) tNil)))) [3]) tNil))))
theorem run_P_minus {K : PySem.W.Frag} {vs : List V} {H : Hp} {Q : VK} {E : XK} (h : sp_P_minus K vs H Q E) : t_P_minus K { nx := fun _ H' => Q .non H', rt := Q } (start ["ones", "others", "powers", "power"] vs) H := by
  obtain ⟨a, b, ns, ms, rfl, hA, hB, hn, hm, q⟩ := h
  refine q_asgN (en_range1 (n := ((max ns.length ms.length : Nat) : Int)) (ev_is (ev_max2 (ev_len (ev_var rfl) hA) (ev_len (ev_var rfl) hB)) (by rw [List.length_map, List.length_map, max_if]))) fun g H1 ng e1 hg => ?_
  refine s_retL (el_callN (el_lcRV (fun _ => true) (fun i => .int ((· - ·) (ns.getD i 0) (ms.getD i 0))) (ev_var rfl) hg ⟨by omega, by omega⟩ (fun _ => rfl) (fun i H1 e1 hi => et_yes)
    (fun i H2 e2 hi _ => ev_sub (ev_call (ea_cons (ev_var rfl) (ea_cons (ev_var rfl) ea_nil)) (sv_P_number_at i (ex_l (e1.trans e2) hA) rfl)) (ev_call (ea_cons (ev_var rfl) (ea_cons (ev_var rfl) ea_nil)) (sv_P_number_at i (ex_l (e1.trans e2) hB) rfl))))
    (ys := (minusI ns ms).map V.int) fun p H2 h2 e2 => ?_) fun p H3 hp e3 h3 => q.go e1 hp e3 h3
  refine sl_P_without_end_noughts (ns := zipI (· - ·) ns ms) (sq_of ?_)
  rw [h2, given_all, Int.toNat_natCast]
  unfold zipI
  rw [List.map_map]
  rfl
theorem sl_P_minus {K : PySem.W.Frag} {H : Hp} {a b : Addr} {ns ms : List Int} (hA : SqL K H a (ns.map V.int)) (hB : SqL K H b (ms.map V.int)) (hn : ns.length ≤ 20000) (hm : ms.length ≤ 20000) : SpL (sp_P_minus K) [.ref a, .ref b] H ((minusI ns ms).map V.int) := fun H1 e Q q E =>
  ⟨a, b, ns, ms, rfl, ex_l e hA, ex_l e hB, hn, hm, q⟩

-- USES: Lists
/-! times -/
def sp_P_times (K : PySem.W.Frag) : Sp := fun vs H Q _ => ∃ (a b : Addr) (ns ms : List Int) (x y : Nat), vs = [.ref a, .ref b] ∧ SqL K H a (ns.map V.int) ∧ SqL K H b (ms.map V.int) ∧ Nf ns ∧ Nf ms ∧ ns.length ≤ 20000 ∧ ms.length ≤ 20000 ∧ nrm ns ≤ 2 ^ x ∧ nrm ms ≤ 2 ^ y ∧ x + y + 2 ≤ 100000000 ∧
  RetL ((mulI ns ms).map V.int) H Q
def t_P_times (K : PySem.W.Frag) : TS :=
  (tSeq (tIfS (tOr (tNot (tTruth K (tVar 0))) (tNot (tTruth K (tVar 1)))) (tRet (tLst tNil)) tNext) (tSeq (tAsg (tOp rRep (tLst (tCons (tC (.int 0)) tNil)) (tOp oSub (tOp oAdd (tCB (rLenS K) (tCons (tVar 0) tNil)) (tCB (rLenS K) (tCons (tVar 1) tNil))) (tC (.int 1)))) (gName 2)) (tSeq (tFor (iEnum K (tCons (tVar 0) tNil)) (gTup K 2 (gCons (gName 3) (gCons (gName 4) gNil))) (tFor (iEnum K (tCons (tVar 1) tNil)) (gTup K 2 (gCons (gName 5) (gCons (gName 6) gNil))) (tAugS (tVar 2) (tOp oAdd (tVar 3) (tVar 5)) (tOp oMul (tVar 4) (tVar 6)) rGetL (ipI fun i j => i + j) rSetL))) (tRet (tVar 2)))))
theorem run_P_times {K : PySem.W.Frag} {vs : List V} {H : Hp} {Q : VK} {E : XK} (h : sp_P_times K vs H Q E) : t_P_times K { nx := fun _ H' => Q .non H', rt := Q } (start ["ones", "others", "totals", "low", "one", "high", "other"] vs) H := by
  obtain ⟨a, b, ns, ms, x, y, rfl, hA, hB, n1, n2, l1, l2, x1, x2, hxy, q⟩ := h
  refine q_when (et_or (et_not (et_truthL (ev_var rfl) hA)) fun _ => et_not (et_truthL (ev_var rfl) hB)) (fun hb H1 e1 => ?_) (fun hb H1 e1 => ?_)
  · rw [map_empty, map_empty] at hb
    refine s_retL (el_lst ea_nil (by simp)) fun p H2 hp e2 h2 => ?_
    have e : mulI ns ms = [] := by
      rcases ns with _ | ⟨u, ns⟩
      · rw [mulI_comm, mulI_nil]
      · rcases ms with _ | ⟨v, ms⟩
        · rw [mulI_nil]
        · simp at hb
    rw [e] at q
    exact q.go e1 hp e2 h2
  · rw [map_empty, map_empty] at hb
    have h1 : ns ≠ [] := fun e => by
      subst e
      simp at hb
    have h2 : ms ≠ [] := fun e => by
      subst e
      simp at hb
    have p1 := List.length_pos_iff.mpr h1
    have p2 := List.length_pos_iff.mpr h2
    have hA1 := ex_l e1 hA
    have hB1 := ex_l e1 hB
    refine q_asgL (el_rep (k := ns.length + ms.length - 1) (el_lst (ea_cons ev_c ea_nil) (by simp)) (ev_sub (ev_add (ev_len (ev_var rfl) hA1) (ev_len (ev_var rfl) hB1)) ev_c) (by rw [List.length_map, List.length_map]; omega) (by omega)) fun t H2 nt e2 ht => ?_
    have hA2 := ex_l e2 hA1
    have hB2 := ex_l e2 hB1
    refine q_forEnum (ea_cons (ev_var rfl) ea_nil) hA2 (fun i σ' H' => ∃ (y3 y4 y5 y6 : Option V) (tot : List Int), σ' = [some (.ref a), some (.ref b), some (.ref t), y3, y4, y5, y6] ∧ Ex H1 H' ∧ H' t = some (.lst (tot.map V.int)) ∧ tot.length = ns.length + ms.length - 1 ∧ ∀ k, cf tot k = cf (mulL (ns.take i) ms) k)
      (fun H3 e3 => ⟨none, none, none, none, List.replicate (ns.length + ms.length - 1) 0, rfl, e2.trans e3, ?_, List.length_replicate .., fun k => ?_⟩) (fun i σ' H' hi hP => ?_) (fun i w σ' H' H'' hi hP e3 => ?_) (fun σ' H' hP => ?_)
    · rw [List.map_replicate]
      exact e3 _ _ ht
    · rw [cf_rep, List.take_zero]
      simp [mulL]
    · obtain ⟨_, _, _, _, _, _, e, _⟩ := hP
      exact ex_l e hA1
    · obtain ⟨y3, y4, y5, y6, tot, rfl, e4, ht4, hl, hc⟩ := hP
      obtain ⟨hin, rfl, hmem⟩ := int_at hi
      have e14 := e4.trans e3
      refine s_forEnum (ea_cons (ev_var rfl) ea_nil) (ex_l e14 hB1) (fun j σ' H' => ∃ (y5 y6 : Option V) (tot : List Int), σ' = [some (.ref a), some (.ref b), some (.ref t), some (.int (i : Int)), some (.int (ns.getD i 0)), y5, y6] ∧ Ex H1 H' ∧ H' t = some (.lst (tot.map V.int)) ∧ tot.length = ns.length + ms.length - 1 ∧
        ∀ k, cf tot k = cf (mulL (ns.take i) ms) k + (if i ≤ k ∧ k < i + j then cf ns i * cf ms (k - i) else 0))
        (fun H5 e5 => ⟨y5, y6, tot, rfl, e14.trans e5, e5 _ _ (e3 _ _ ht4), hl, fun k => by rw [if_neg (by omega), Int.add_zero]; exact hc k⟩) (fun j σ' H' hj hP => ?_) (fun j w σ' H' H'' hj hP e5 => ?_) (fun σ' H' hP => ?_)
      · obtain ⟨_, _, _, _, e, _⟩ := hP
        exact ex_l e hB1
      · obtain ⟨z5, z6, tot2, rfl, e6, ht6, hl2, hc2⟩ := hP
        obtain ⟨hjn, rfl, hmem2⟩ := int_at hj
        refine s_augI (j := i + j) (e5 _ _ ht6) (ev_var rfl) (ev_add (ev_var rfl) (ev_var rfl)) (by omega) (by omega) (ev_mul (ev_var rfl) (ev_var rfl) (nrm_mulx x1 x2 hxy (mem_nrm hmem) (mem_nrm hmem2))) fun H7 e7 => ?_
        exact ⟨_, _, _, rfl, Ex.mut ((e6.trans e5).trans e7) nt, upd_same, by rw [List.length_set]; exact hl2, mul_step hin hjn (by omega) hc2⟩
      · obtain ⟨z5, z6, tot2, rfl, e6, ht6, hl2, hc2⟩ := hP
        rw [List.length_map] at hc2
        exact ⟨_, _, _, _, tot2, rfl, e6, ht6, hl2, mul_row hin hc2⟩
    · obtain ⟨y3, y4, y5, y6, tot, rfl, e4, ht4, hl, hc⟩ := hP
      rw [List.length_map, List.take_length] at hc
      refine s_ret (ev_var rfl) fun H5 e5 => ?_
      rw [← tot_mul n1 n2 h1 h2 hl hc] at q
      exact q.go e1 nt (e4.trans e5) (e5 _ _ ht4)
theorem sl_P_times {K : PySem.W.Frag} {H : Hp} {a b : Addr} {ns ms : List Int} (x y : Nat) (hA : SqL K H a (ns.map V.int)) (hB : SqL K H b (ms.map V.int)) (n1 : Nf ns) (n2 : Nf ms) (l1 : ns.length ≤ 20000) (l2 : ms.length ≤ 20000) (x1 : nrm ns ≤ 2 ^ x) (x2 : nrm ms ≤ 2 ^ y) (hxy : x + y + 2 ≤ 100000000) :
    SpL (sp_P_times K) [.ref a, .ref b] H ((mulI ns ms).map V.int) := fun H1 e Q q E => ⟨a, b, ns, ms, x, y, rfl, ex_l e hA, ex_l e hB, n1, n2, l1, l2, x1, x2, hxy, q⟩

-- USES: Lists P_without_end_noughts
/-! scaled -/
def sp_P_scaled (K : PySem.W.Frag) : Sp := fun vs H Q _ => ∃ (a : Addr) (ns : List Int) (m : Int) (b c : Nat), vs = [.ref a, .int m] ∧ SqL K H a (ns.map V.int) ∧ ns.length ≤ 20000 ∧ (∀ x ∈ ns, x.natAbs < 2 ^ b) ∧ m.natAbs < 2 ^ c ∧ b + c ≤ 100000000 ∧ RetL ((scaledI m ns).map V.int) H Q
def t_P_scaled (K : PySem.W.Frag) : TS :=
  (tRet (tCall (sp_P_without_end_noughts K) [] E0 (tCons (tLc (iList K (tVar 0)) (gName 2) tYes (tOp oMul (tVar 1) (tVar 2)) [2]) tNil)))
theorem run_P_scaled {K : PySem.W.Frag} {vs : List V} {H : Hp} {Q : VK} {E : XK} (h : sp_P_scaled K vs H Q E) : t_P_scaled K { nx := fun _ H' => Q .non H', rt := Q } (start ["row", "many", "number"] vs) H := by
  obtain ⟨a, ns, m, b, c, rfl, hS, hn, hx, hm, hbc, q⟩ := h
  refine s_retL (el_callN (el_lcL (fun _ => true) (fun i => .int (m * ns.getD i 0)) (ev_var rfl) hS (by rw [List.length_map]; omega) (fun _ => rfl) (fun i x H1 e1 hi => et_yes)
    (fun i x H1 e1 hi _ => ?_)) (ys := (scaledI m ns).map V.int) fun p H2 h2 e2 => ?_) fun p H3 hp e3 h3 => q p H3 hp e3 h3
  · obtain ⟨h1, rfl, h3⟩ := int_at hi
    exact ev_mul (ev_var rfl) (ev_var rfl) (mulx (a := c) (b := b) hm (hx _ h3) (by omega))
  · refine sl_P_without_end_noughts (ns := ns.map (m * ·)) (sq_of ?_)
    rw [h2, given_map]
theorem sl_P_scaled {K : PySem.W.Frag} {H : Hp} {a : Addr} {ns : List Int} {m : Int} (b c : Nat) (hS : SqL K H a (ns.map V.int)) (hn : ns.length ≤ 20000) (hx : ∀ x ∈ ns, x.natAbs < 2 ^ b) (hm : m.natAbs < 2 ^ c) (hbc : b + c ≤ 100000000) :
    SpL (sp_P_scaled K) [.ref a, .int m] H ((scaledI m ns).map V.int) := fun H1 e Q q E => ⟨a, ns, m, b, c, rfl, ex_l e hS, hn, hx, hm, hbc, q⟩

-- USES: P_times
/-! raised: refused below nought; else the power -/
def sp_P_raised (K : PySem.W.Frag) (cs : Cs) : Sp := fun vs H Q E => ∃ (a : Addr) (ns : List Int) (many : Int), vs = [.ref a, .int many] ∧ SqL K H a (ns.map V.int) ∧
  ((many < 0 ∧ ∀ H', Ex H H' → E (.ref cs.NoPower) none H') ∨ ∃ (n b : Nat), many = (n : Int) ∧ Nf ns ∧ ns.length ≤ 10000 ∧ ns.length * n ≤ 10000 ∧ nrm ns ≤ 2 ^ b ∧ b ≤ 10000000 ∧ b * n ≤ 10000000 ∧ RetL ((powI ns n).map V.int) H Q)
def t_P_raised (K : PySem.W.Frag) (cs : Cs) (E : XK) : TS :=
  (tSeq (tIfS (tTest (tOp oLt (tVar 1) (tC (.int 0)))) (tRaiseC cs.NoPower (wOf E)) tNext) (tSeq (tAsg (tLst (tCons (tC (.int 1)) tNil)) (gName 2)) (tSeq (tAsg (tVar 0) (gName 3)) (tSeq (tAsg (tVar 1) (gName 4)) (tSeq (tWhile (tTest (tOp oGt (tVar 4) (tC (.int 0)))) (tSeq (tIfS (tTruth K (tOp oOdd (tVar 4) (tC (.int 1)))) (tAsg (tCall (sp_P_times K) [] E0 (tCons (tVar 2) (tCons (tVar 3) tNil))) (gName 2)) tNext) (tSeq (tAsg (tOp oHalf (tVar 4) (tC (.int 1))) (gName 4)) (tIfS (tTest (tOp oGt (tVar 4) (tC (.int 0)))) (tAsg (tCall (sp_P_times K) [] E0 (tCons (tVar 3) (tCons (tVar 3) tNil))) (gName 3)) tNext)))) (tRet (tVar 2)))))))
theorem powI_mul (p : List Int) (m n : Nat) : mulI (powI p m) (powI p n) = powI p (m + n) := (powI_add p m n).symm
theorem run_P_raised {K : PySem.W.Frag} {cs : Cs} {vs : List V} {H : Hp} {Q : VK} {E : XK} (h : sp_P_raised K cs vs H Q E) : t_P_raised K cs E { nx := fun _ H' => Q .non H', rt := Q } (start ["row", "many", "answer", "square", "left"] vs) H := by
  obtain ⟨a, ns, many, rfl, hS, h⟩ := h
  refine q_when (et_test (ev_lt (ev_var rfl) ev_c)) (fun hb H1 e1 => ?_) (fun hb H1 e1 => ?_)
  · have hlt := of_decide_eq_true hb
    rcases h with ⟨_, h⟩ | ⟨n, b, h, _⟩
    · exact h H1 e1
    · omega
  · have hlt := of_decide_eq_false hb
    rcases h with ⟨h, _⟩ | ⟨n, b, rfl, hn, hl, hln, hx, hb0, hbn, q⟩
    · omega
    refine q_asgL (el_lst (ea_cons ev_c ea_nil) (by simp)) fun p H2 np e2 hp => q_asg (ev_var rfl) fun H3 e3 => q_asg (ev_var rfl) fun H4 e4 => ?_
    have e24 := e3.trans e4
    have bnd : ∀ v, v ≤ n → b * v ≤ 10000000 := fun v hv => Nat.le_trans (Nat.mul_le_mul_left b hv) hbn
    have lnd : ∀ v, v ≤ n → (powI ns v).length ≤ 10001 := fun v hv => by
      have h1 := powI_len ns v
      have h2 := Nat.mul_le_mul_left ns.length hv
      omega
    refine q_while (fun m σ' H' => ∃ (pa ps : Addr) (u v : Nat), σ' = [some (.ref a), some (.int (n : Int)), some (.ref pa), some (.ref ps), some (.int (m : Int))] ∧ Ex H H' ∧ H pa = none ∧ H' pa = some (.lst ((powI ns u).map V.int)) ∧ u ≤ n ∧ (m = 0 → u = n) ∧ (0 < m → u + v * m = n ∧ SqL K H' ps ((powI ns v).map V.int))) n
      ⟨p, a, 0, 1, rfl, (e1.trans e2).trans e24, fresh_back e1 np, e24 _ _ hp, Nat.zero_le _, fun h => h.symm, fun _ => ⟨by omega, ?_⟩⟩ fun m σ' H' hW => ?_
    · have e : powI ns 1 = ns := by
        show mulI [1] ns = ns
        rw [mulI_comm, mulI_one hn]
      rw [e]
      exact ex_l ((e1.trans e2).trans e24) hS
    · obtain ⟨pa, ps, u, v, rfl, e5, npa, hpa, hun, h0, h1⟩ := hW
      refine ⟨_, et_test (ev_gt (ev_var rfl) ev_c), fun hb H6 e6 => ?_, fun hb H6 e6 => ?_⟩
      · have hm : 0 < m := by
          have := of_decide_eq_true hb
          omega
        obtain ⟨hu, hS'⟩ := h1 hm
        have hv : v ≤ n := by
          have := Nat.mul_le_mul_left v (show 1 ≤ m from hm)
          omega
        refine ⟨fun σ2 H2 => ∃ (pa ps : Addr) (u v : Nat), σ2 = [some (.ref a), some (.int (n : Int)), some (.ref pa), some (.ref ps), some (.int ((m / 2 : Nat) : Int))] ∧ Ex H H2 ∧ H pa = none ∧ H2 pa = some (.lst ((powI ns u).map V.int)) ∧ u ≤ n ∧ (m / 2 = 0 → u = n) ∧ (0 < m / 2 → u + v * (m / 2) = n ∧ SqL K H2 ps ((powI ns v).map V.int)),
          fun σ2 H2 hN => ⟨m / 2, Nat.div_lt_self hm (by decide), hN⟩, ?_⟩
        have nb1 := bnd u hun
        have nb2 := bnd v hv
        have nl1 := lnd u hun
        have nl2 := lnd v hv
        refine q_whenAsg (P := fun w H' => ∃ pa, w = .ref pa ∧ H pa = none ∧ H' pa = some (.lst ((powI ns (if m % 2 = 1 then u + v else u)).map V.int))) (et_truthI (ev_odd (ev_var rfl))) (fun hb2 => ?_) (fun hb2 => ?_) fun w H7 e7 hP => ?_
        · have hodd : m % 2 = 1 := by
            simp at hb2
            omega
          rw [if_pos hodd, powI_add]
          refine (evp_lf (el_call (ea_cons (ev_var rfl) (ea_cons (ev_var rfl) ea_nil)) (sl_P_times (b * u) (b * v) (sq_of (e6 _ _ hpa)) (ex_l e6 hS') (nf_powI _ _) (nf_powI _ _) (by omega) (by omega) (nrm_powI hx u) (nrm_powI hx v) (by omega)))).imp fun w H1 hw => ?_
          obtain ⟨p1, h2, h3, h4⟩ := hw
          exact ⟨p1, h2, fresh_back (e5.trans e6) h3, h4⟩
        · have hev : ¬ m % 2 = 1 := by
            simp at hb2
            omega
          rw [if_neg hev]
          exact ⟨.ref pa, rfl, fun H1 e1 => ⟨pa, rfl, npa, (e6.trans e1) _ _ hpa⟩⟩
        obtain ⟨pa2, rfl, npa2, hpa2⟩ := hP
        have hsum : (if m % 2 = 1 then u + v else u) + 2 * v * (m / 2) = n := by
          have hdm := Nat.div_add_mod m 2
          have e1 : v * m = v * (2 * (m / 2)) + v * (m % 2) := by rw [← Nat.mul_add, hdm]
          rw [Nat.mul_comm 2 v, Nat.mul_assoc]
          split
          · rename_i h
            rw [h, Nat.mul_one] at e1
            omega
          · rename_i h
            have : m % 2 = 0 := by omega
            rw [this, Nat.mul_zero] at e1
            omega
        generalize hU : (if m % 2 = 1 then u + v else u) = U at hsum hpa2
        refine q_asg (ev_half (ev_var rfl)) fun H8 e8 => ?_
        have e58 := (e5.trans e6).trans (e7.trans e8)
        refine s_whenM (Mid := fun σ' H' => ∃ (ps' : Addr), σ' = [some (.ref a), some (.int (n : Int)), some (.ref pa2), some (.ref ps'), some (.int ((m / 2 : Nat) : Int))] ∧ Ex H8 H' ∧ (0 < m / 2 → SqL K H' ps' ((powI ns (2 * v)).map V.int))) (fun σ' H' hM => ?_) (et_test (ev_gt (ev_var rfl) ev_c)) (fun hb3 k H9 e9 => ?_) (fun hb3 H9 e9 => ⟨ps, rfl, e9, fun h => ?_⟩)
        · obtain ⟨ps', rfl, e9, hs'⟩ := hM
          exact ⟨pa2, ps', U, 2 * v, rfl, e58.trans e9, npa2, (e8.trans e9) _ _ hpa2, by omega, fun h => by rw [h, Nat.mul_zero] at hsum; omega, fun h => ⟨hsum, hs' h⟩⟩
        · have hS8 := ex_l ((e6.trans e7).trans (e8.trans e9)) hS'
          refine s_asgL (el_call (ea_cons (ev_var rfl) (ea_cons (ev_var rfl) ea_nil)) (sl_P_times (b * v) (b * v) hS8 hS8 (nf_powI _ _) (nf_powI _ _) (by omega) (by omega) (nrm_powI hx v) (nrm_powI hx v) (by omega))) fun p9 H10 np9 e10 hp9 => k _ _ ⟨p9, rfl, e9.trans e10, fun _ => ?_⟩
          rw [powI_mul, show v + v = 2 * v by omega] at hp9
          exact sq_of hp9
        · have := of_decide_eq_false hb3
          omega
      · have hm : m = 0 := by
          have := of_decide_eq_false hb
          omega
        have hu := h0 hm
        subst hu
        exact s_ret (ev_var rfl) fun H7 e7 => q pa H7 npa ((e5.trans e6).trans e7) ((e6.trans e7) _ _ hpa)
theorem sl_P_raised {K : PySem.W.Frag} {cs : Cs} {H : Hp} {a : Addr} {ns : List Int} (n b : Nat) (hS : SqL K H a (ns.map V.int)) (hn : Nf ns) (hl : ns.length ≤ 10000) (hln : ns.length * n ≤ 10000) (hx : nrm ns ≤ 2 ^ b) (hb0 : b ≤ 10000000) (hbn : b * n ≤ 10000000) :
    SpL (sp_P_raised K cs) [.ref a, .int (n : Int)] H ((powI ns n).map V.int) := fun H1 e Q q E => ⟨a, ns, n, rfl, ex_l e hS, .inr ⟨n, b, rfl, hn, hl, hln, hx, hb0, hbn, q⟩⟩

-- USES: Lists
/-! slope -/
def sp_P_slope (K : PySem.W.Frag) : Sp := fun vs H Q _ => ∃ (a : Addr) (ns : List Int) (b : Nat), vs = [.ref a] ∧ SqL K H a (ns.map V.int) ∧ ns.length ≤ 20000 ∧ (∀ x ∈ ns, x.natAbs < 2 ^ b) ∧ b ≤ 100000000 ∧ RetL ((slopeI ns).map V.int) H Q
def t_P_slope (K : PySem.W.Frag) : TS :=
  (tRet (tSl (rSlL K) (tLc (iEnum K (tCons (tVar 0) tNil)) (gTup K 2 (gCons (gName 1) (gCons (gName 2) gNil))) tYes (tOp oMul (tVar 1) (tVar 2)) [1, 2]) (tPart (tC (.int 1))) tNoPart))
theorem slope_drop (ns : List Int) : ((List.range ns.length).map fun (k : Nat) => (k : Int) * cf ns k).drop 1 = slopeI ns := by
  unfold slopeI
  refine List.ext_getElem (by simp) fun i h1 h2 => ?_
  simp only [List.getElem_drop, List.getElem_map, List.getElem_range]
  rw [Nat.add_comm 1 i]
theorem kx15 {i n : Nat} (h : i < n) (hn : n ≤ 20000) : ((i : Nat) : Int).natAbs < 2 ^ 15 := by
  rw [Int.natAbs_natCast]
  omega
theorem run_P_slope {K : PySem.W.Frag} {vs : List V} {H : Hp} {Q : VK} {E : XK} (h : sp_P_slope K vs H Q E) : t_P_slope K { nx := fun _ H' => Q .non H', rt := Q } (start ["row", "power", "number"] vs) H := by
  obtain ⟨a, ns, b, rfl, hS, hn, hx, hb, q⟩ := h
  have h1 := el_lcEnum (K := K) (σ := start ["row", "power", "number"] [.ref a]) (n1 := 1) (n2 := 2) (vs := [1, 2]) (te := tOp oMul (tVar 1) (tVar 2)) (ta := tCons (tVar 0) tNil) (fun (i : Nat) => .int ((i : Int) * cf ns i)) (ea_cons (ev_var rfl) ea_nil) hS (by rw [List.length_map]; omega) (fun _ _ => rfl) fun i x H1 e1 hi => by
    obtain ⟨h1, rfl, h3⟩ := int_at hi
    exact ev_mul (ev_var rfl) (ev_var rfl) (mulx (a := 15) (b := b) (kx15 h1 hn) (hx _ h3) (by omega))
  have e : (List.range (ns.map V.int).length).map (fun (i : Nat) => V.int ((i : Int) * cf ns i)) = ((List.range ns.length).map fun (k : Nat) => (k : Int) * cf ns k).map V.int := by
    rw [List.length_map, List.map_map]
    rfl
  rw [e] at h1
  refine s_retL (el_dropN (k := 1) h1 ev_c rfl) fun p H3 hp e3 h3 => ?_
  rw [slope_drop] at h3
  exact q p H3 hp e3 h3
theorem sl_P_slope {K : PySem.W.Frag} {H : Hp} {a : Addr} {ns : List Int} (b : Nat) (hS : SqL K H a (ns.map V.int)) (hn : ns.length ≤ 20000) (hx : ∀ x ∈ ns, x.natAbs < 2 ^ b) (hb : b ≤ 100000000) :
    SpL (sp_P_slope K) [.ref a] H ((slopeI ns).map V.int) := fun H1 e Q q E => ⟨a, ns, b, rfl, ex_l e hS, hn, hx, hb, q⟩

-- USES: Lists
/-! content -/
def sp_P_content (K : PySem.W.Frag) : Sp := fun vs H Q _ => ∃ (a : Addr) (ns : List Int), vs = [.ref a] ∧ SqL K H a (ns.map V.int) ∧ RetV (.int (cont ns : Nat)) H Q
def t_P_content (K : PySem.W.Frag) : TS :=
  (tSeq (tAsg (tC (.int 0)) (gName 1)) (tSeq (tFor (iList K (tVar 0)) (gName 2) (tAsg (tCB rGcd (tCons (tVar 1) (tCons (tVar 2) tNil))) (gName 1))) (tRet (tVar 1))))
theorem ev_gcd {σ : L2.St} {H : Hp} {ta tb : TE} {i j : Int} (ha : Ev ta σ H (.int i)) (hb : Ev tb σ H (.int j)) : Ev (tCB rGcd (tCons ta (tCons tb tNil))) σ H (.int ((Nat.gcd i.natAbs j.natAbs : Nat) : Int)) := fun H1 e Q q =>
  ha H1 e _ fun H2 e2 => hb H2 (e.trans e2) _ fun H3 e3 => ⟨i, j, rfl, q H3 (e2.trans e3)⟩
theorem run_P_content {K : PySem.W.Frag} {vs : List V} {H : Hp} {Q : VK} {E : XK} (h : sp_P_content K vs H Q E) : t_P_content K { nx := fun _ H' => Q .non H', rt := Q } (start ["row", "found", "number"] vs) H := by
  obtain ⟨a, ns, rfl, hS, q⟩ := h
  refine q_asg ev_c fun H1 e1 => ?_
  refine q_forLn (ev_var rfl) (ex_l e1 hS) (fun i σ' H' => ∃ y, σ' = [some (.ref a), some (.int (cont (ns.take i) : Nat)), y] ∧ Ex H H')
    (fun H3 e3 => ⟨none, rfl, e1.trans e3⟩) (fun i σ' H' hi hP => ex_l hP.choose_spec.2 hS) (fun i x σ' H' hi hP => ?_) (fun σ' H' hP => ?_)
  · obtain ⟨y, rfl, e3⟩ := hP
    obtain ⟨h1, rfl, h3⟩ := int_at hi
    refine s_asg (ev_gcd (ev_var rfl) (ev_var rfl)) fun H4 e4 => ⟨some (.int (ns.getD i 0)), ?_, e3.trans e4⟩
    rw [cont_take h1, Int.natAbs_natCast]
    rfl
  · obtain ⟨y, rfl, e3⟩ := hP
    refine s_ret (ev_var rfl) fun H4 e4 => ?_
    rw [List.length_map, List.take_length]
    exact q H4 (e3.trans e4)
theorem sv_P_content {K : PySem.W.Frag} {H : Hp} {a : Addr} {ns : List Int} (hS : SqL K H a (ns.map V.int)) : SpV (sp_P_content K) [.ref a] H (.int (cont ns : Nat)) := fun H1 e Q q E => ⟨a, ns, rfl, ex_l e hS, q⟩

/-! two polynomials handed to be divided -/
structure QuoA (K : PySem.W.Frag) (H : Hp) (a b : Addr) (ns ms : List Int) : Prop where
  sa : SqL K H a (ns.map V.int)
  sb : SqL K H b (ms.map V.int)
  la : ns.length ≤ 200
  lb : ms.length ≤ 200
  na : Nf ns
  nb : Nf ms
  xa : ∀ k, (cf ns k).natAbs < 2 ^ 300
  xb : ∀ k, (cf ms k).natAbs < 2 ^ 200
theorem QuoA.mono {K : PySem.W.Frag} {H H' : Hp} {a b : Addr} {ns ms : List Int} (h : QuoA K H a b ns ms) (e : Ex H H') : QuoA K H' a b ns ms := { h with sa := ex_l e h.sa, sb := ex_l e h.sb }

/-! (sizes of rows told by their numbers: now in Ring) -/

-- USES: Lists P_plus P_minus P_scaled P_content QuoA NrmX
-- EXC: ByNought
/-! divided -/
structure DivA (K : PySem.W.Frag) (H : Hp) (a b : Addr) (ns ms : List Int) (x y : Nat) : Prop where
  sa : SqL K H a (ns.map V.int)
  sb : SqL K H b (ms.map V.int)
  la : ns.length ≤ 300
  lb : ms.length ≤ 300
  na : Nf ns
  nb : Nf ms
  xa : ∀ k, (cf ns k).natAbs < 2 ^ x
  xb : ∀ k, (cf ms k).natAbs < 2 ^ y
  bd : x + stepsI ns ms * (y + 1) + y ≤ 90000000
theorem DivA.mono {K : PySem.W.Frag} {H H' : Hp} {a b : Addr} {ns ms : List Int} {x y : Nat} (h : DivA K H a b ns ms x y) (e : Ex H H') : DivA K H' a b ns ms x y := { h with sa := ex_l e h.sa, sb := ex_l e h.sb }
def DivP (ns ms : List Int) (x y : Nat) (H0 : Hp) : V → Hp → Prop := fun v H => ∃ (t p r : Addr) (m : Int) (qs rs : List Int), v = .ref t ∧ H t = some (.tup [.int m, .ref p, .ref r]) ∧ H p = some (.lst (qs.map V.int)) ∧ H r = some (.lst (rs.map V.int)) ∧ H0 p = none ∧ H0 r = none ∧ p ≠ r ∧ DivR ns ms x y m qs rs
def sp_P_divided (K : PySem.W.Frag) (cs : Cs) : Sp := fun vs H Q E => ∃ (a b : Addr) (ns ms : List Int) (x y : Nat), vs = [.ref a, .ref b] ∧ DivA K H a b ns ms x y ∧ ((ms = [] ∧ ∀ H', Ex H H' → E (.ref cs.ByNought) none H') ∨ (ms ≠ [] ∧ RetP (DivP ns ms x y H) H Q))
def t_P_divided (K : PySem.W.Frag) (cs : Cs) (E : XK) : TS :=
  (tSeq (tIfS (tNot (tTruth K (tVar 1))) (tRaiseC cs.ByNought (wOf E)) tNext) (tSeq (tPar3 2 3 4 (tCons (tC (.int 1)) (tCons (tLst tNil) (tCons (tCB (rListS K) (tCons (tVar 0) tNil)) tNil)))) (tSeq (tWhile (tTest (tOp oGe (tCB (rLenS K) (tCons (tVar 4) tNil)) (tCB (rLenS K) (tCons (tVar 1) tNil)))) (tSeq (tAsg (tOp oDivG (tCB rAbs (tCons (tOp (rIxL K) (tVar 1) (tUn uNeg (tC (.int 1)))) tNil)) (tCB rGcd (tCons (tOp (rIxL K) (tVar 1) (tUn uNeg (tC (.int 1)))) (tCons (tOp (rIxL K) (tVar 4) (tUn uNeg (tC (.int 1)))) tNil)))) (gName 5)) (tSeq (tAsg (tOp oDivG (tOp oMul (tVar 5) (tOp (rIxL K) (tVar 4) (tUn uNeg (tC (.int 1))))) (tOp (rIxL K) (tVar 1) (tUn uNeg (tC (.int 1))))) (gName 6)) (tSeq (tAsg (tOp rRep (tLst (tCons (tC (.int 0)) tNil)) (tOp oSub (tCB (rLenS K) (tCons (tVar 4) tNil)) (tCB (rLenS K) (tCons (tVar 1) tNil)))) (gName 7)) (tSeq (tAsg (tOp oMul (tVar 2) (tVar 5)) (gName 2)) (tSeq (tAsg (tCall (sp_P_plus K) [] E0 (tCons (tCall (sp_P_scaled K) [] E0 (tCons (tVar 3) (tCons (tVar 5) tNil))) (tCons (tOp rCat (tVar 7) (tLst (tCons (tVar 6) tNil))) tNil))) (gName 3)) (tAsg (tCall (sp_P_minus K) [] E0 (tCons (tCall (sp_P_scaled K) [] E0 (tCons (tVar 4) (tCons (tVar 5) tNil))) (tCons (tOp rCat (tVar 7) (tCall (sp_P_scaled K) [] E0 (tCons (tVar 1) (tCons (tVar 6) tNil)))) tNil))) (gName 4)))))))) (tRet (tTup (tCons (tVar 2) (tCons (tVar 3) (tCons (tVar 4) tNil))))))))
/-- x, y, z = a tuple of a value and two new lists -/
theorem q_par3 {σ : L2.St} {H : Hp} {D : Ends} {tz : TS} {ta tb tc : TE} {n1 n2 n3 : Nat} {z : V} {xs ys : List V} (ha : Ev ta σ H z) (hb : EvL tb σ H xs) (hc : EvL tc σ H ys)
    (k : ∀ p r H1, H p = none → H r = none → p ≠ r → Ex H H1 → H1 p = some (.lst xs) → H1 r = some (.lst ys) → tz D (((σ.set n1 (some z)).set n2 (some (.ref p))).set n3 (some (.ref r))) H1) :
    tSeq (tPar3 n1 n2 n3 (tCons ta (tCons tb (tCons tc tNil)))) tz D σ H :=
  ha H (Ex.refl H) _ fun H1 e1 => hb H1 e1 _ fun p H2 hp e2 h2 => hc H2 (e1.trans e2) _ fun r H3 hr e3 h3 => ⟨z, .ref p, .ref r, rfl, by
    refine k p r _ (fresh_back e1 hp) (fresh_back (e1.trans e2) hr) (fun e => ?_) ((e1.trans e2).trans e3) (e3 _ _ h2) h3
    rw [e, hr] at h2
    cases h2⟩
theorem evp_tup3 {σ : L2.St} {H : Hp} {ta tb tc : TE} {x y z : V} (ha : Ev ta σ H x) (hb : Ev tb σ H y) (hc : Ev tc σ H z) : EvP (tTup (tCons ta (tCons tb (tCons tc tNil)))) σ H (fun v H2 => ∃ t, v = .ref t ∧ H2 t = some (.tup [x, y, z])) := fun H1 e Q q =>
  ha H1 e _ fun H2 e2 => hb H2 (e.trans e2) _ fun H3 e3 => hc H3 ((e.trans e2).trans e3) _ fun H4 e4 => ⟨sz_of (by simp), fun t ht => q _ _ (((e2.trans e3).trans e4).trans (Ex.new ht)) ⟨t, rfl, upd_same⟩⟩
theorem el_catA {σ : L2.St} {H : Hp} {ta tb : TE} {p : Addr} {xs ys : List V} (h1 : Ev ta σ H (.ref p)) (hp : H p = some (.lst xs)) (h2 : EvL tb σ H ys) (hz : xs.length + ys.length ≤ 100000) : EvL (tOp rCat ta tb) σ H (xs ++ ys) := fun H1 e Q q =>
  h1 H1 e _ fun H2 e2 => h2 H2 (e.trans e2) _ fun p2 H3 hp2 e3 hy => ⟨p, p2, xs, ys, rfl, rfl, ((e.trans e2).trans e3) _ _ hp, hy, sz_of hz, fun l hl => q l _ (fresh_back (e2.trans e3) hl) ((e2.trans e3).trans (Ex.new hl)) upd_same⟩
theorem sh_map (k : Nat) (l : List Int) : List.replicate k (V.int 0) ++ l.map V.int = (shI k l).map V.int := by
  unfold shI
  rw [List.map_append, List.map_replicate]
theorem nil_empty {ns : List Int} (h : (ns.map V.int).isEmpty = true) : ns = [] := by
  cases ns with
  | nil => rfl
  | cons x r => cases h
theorem nil_not {ns : List Int} (h : (ns.map V.int).isEmpty = false) : ns ≠ [] := fun e => by
  rw [e] at h
  cases h
theorem run_P_divided {K : PySem.W.Frag} {cs : Cs} {vs : List V} {H : Hp} {Q : VK} {E : XK} {l : List Addr} (_ : Tx K cs.PolyError l) (_ : cs.ByNought ∈ l) (h : sp_P_divided K cs vs H Q E) : t_P_divided K cs E { nx := fun _ H' => Q .non H', rt := Q } (start ["row", "by", "many", "found", "rest", "more", "number", "noughts"] vs) H := by
  obtain ⟨a, b, ns, ms, x, y, rfl, hA, h⟩ := h
  refine q_when (et_not (et_truthL (ev_var rfl) hA.sb)) (fun hb H1 e1 => ?_) (fun hb H1 e1 => ?_)
  · rcases h with ⟨_, h⟩ | ⟨h0, _⟩
    · exact h H1 e1
    · exact absurd (nil_empty (by simpa using hb)) h0
  have h0 : ms ≠ [] := nil_not (by simpa using hb)
  rcases h with ⟨h, _⟩ | ⟨_, q⟩
  · exact absurd h h0
  have hms := List.length_pos_iff.mpr h0
  have la := hA.la
  have lb := hA.lb
  have hbd := hA.bd
  refine q_par3 ev_c (el_lst ea_nil (by simp)) (el_list (ev_var rfl) (ex_l e1 hA.sa)) fun p r H2 np nr pr e2 hp hr => ?_
  refine q_while (fun u σ' H' => ∃ (i : Nat) (m : Int) (p r : Addr) (qs rs : List Int) (y5 y6 y7 : Option V), σ' = [some (.ref a), some (.ref b), some (.int m), some (.ref p), some (.ref r), y5, y6, y7] ∧ Ex H H' ∧ H p = none ∧ H r = none ∧ p ≠ r ∧ H' p = some (.lst (qs.map V.int)) ∧ H' r = some (.lst (rs.map V.int)) ∧ DvS ns ms x y i m qs rs ∧ u = rs.length) ns.length
    ⟨0, 1, p, r, [], ns, none, none, none, rfl, e1.trans e2, fresh_back e1 np, fresh_back e1 nr, pr, hp, hr, DvS.init hA.na hA.xa, rfl⟩ fun u σ' H' hW => ?_
  obtain ⟨i, m, p, r, qs, rs, y5, y6, y7, rfl, e3, np, nr, pr, hp, hr, ds, hu⟩ := hW
  have hB := ex_l e3 hA.sb
  have hle := ds.len_le
  have hlq := ds.lq
  have hst : stepsI ns ms ≤ 301 := by unfold stepsI; omega
  refine ⟨_, et_test (ev_ge (ev_len (ev_var rfl) (sq_of (K := K) hr)) (ev_len (ev_var rfl) hB)), fun hb H4 e4 => ?_, fun hb H4 e4 => ?_⟩
  · have hl : ms.length ≤ rs.length := by
      have := of_decide_eq_true hb
      rw [List.length_map, List.length_map] at this
      omega
    have hrs : rs ≠ [] := fun e => by
      rw [e] at hl
      exact absurd hl (by simp; exact h0)
    have hB4 := ex_l e4 hB
    have hr4 := e4 _ _ hr
    have hp4 := e4 _ _ hp
    have hlast := nf_last hA.nb h0
    have hi1 : (i + 1) * (y + 1) ≤ stepsI ns ms * (y + 1) := Nat.mul_le_mul_right _ (by unfold stepsI; omega)
    rw [Nat.succ_mul] at hi1
    obtain ⟨more, number, hm, hn, he, m1, mb, nb, co⟩ := step_numbers (l := cf ms (ms.length - 1)) (t := cf rs (rs.length - 1)) hlast
    obtain ⟨ds2, hshort⟩ := ds.step hA.nb h0 hA.xb hl he m1 mb nb co
    have hxb := hA.xb (ms.length - 1)
    have hrb := ds.rb (rs.length - 1)
    have hmb : more.natAbs < 2 ^ y := Nat.lt_of_le_of_lt mb hxb
    refine ⟨fun σ2 H2 => ∃ (i : Nat) (m : Int) (p r : Addr) (qs rs2 : List Int) (y5 y6 y7 : Option V), σ2 = [some (.ref a), some (.ref b), some (.int m), some (.ref p), some (.ref r), y5, y6, y7] ∧ Ex H H2 ∧ H p = none ∧ H r = none ∧ p ≠ r ∧ H2 p = some (.lst (qs.map V.int)) ∧ H2 r = some (.lst (rs2.map V.int)) ∧ DvS ns ms x y i m qs rs2 ∧ rs2.length < rs.length, fun σ2 H2 hN => ?_, ?_⟩
    · obtain ⟨i, m, p, r, qs, rs2, y5, y6, y7, g1, g2, g3, g4, g5, g6, g7, g8, g9⟩ := hN
      exact ⟨rs2.length, by omega, i, m, p, r, qs, rs2, y5, y6, y7, g1, g2, g3, g4, g5, g6, g7, g8, rfl⟩
    have hgp : ((Nat.gcd (cf ms (ms.length - 1)).natAbs (cf rs (rs.length - 1)).natAbs : Nat) : Int) ≠ 0 := by
      have := Nat.gcd_pos_of_pos_left (cf rs (rs.length - 1)).natAbs (Int.natAbs_pos.mpr hlast)
      omega
    refine q_asg (v := .int more) (ev_is (ev_op (ev_abs (ev_last (ev_var rfl) hB4 h0)) (ev_gcd (ev_last (ev_var rfl) hB4 h0) (ev_last (ev_var rfl) (sq_of hr4) hrs)) (rv_I hgp)) ?_) fun H5 e5 => ?_
    · rw [hm]
      congr 2
      show (if cf ms (ms.length - 1) < 0 then -cf ms (ms.length - 1) else cf ms (ms.length - 1)) = _
      split <;> omega
    have e45 := e4.trans e5
    refine q_asg (v := .int number) (ev_is (ev_op (ev_mul (ev_var rfl) (ev_last (ev_var rfl) (sq_of (e5 _ _ hr4)) hrs) (mulx hmb hrb (by omega))) (ev_last (ev_var rfl) (ex_l e5 hB4) h0) (rv_I hlast)) ?_) fun H6 e6 => ?_
    · rw [hn]
      rfl
    have e46 := e45.trans e6
    have hr6 := e46 _ _ hr
    have hp6 := e46 _ _ hp
    have hB6 := ex_l e46 hB
    refine q_asgL (el_rep (k := rs.length - ms.length) (el_lst (ea_cons ev_c ea_nil) (by simp)) (ev_sub (ev_len (ev_var rfl) (sq_of (K := K) hr6)) (ev_len (ev_var rfl) hB6)) (by rw [List.length_map, List.length_map]; omega) (by omega)) fun nn H7 nnn e7 hnn => ?_
    have hmn : m.natAbs < 2 ^ (i * y + 1) := by
      have := ds.mb
      rw [Nat.pow_succ]
      have := two_le_pow (i * y)
      omega
    have hiy : i * y ≤ i * (y + 1) := Nat.mul_le_mul_left _ (by omega)
    refine q_asg (v := .int (m * more)) (ev_mul (ev_var rfl) (ev_var rfl) (mulx hmn hmb (by omega))) fun H8 e8 => ?_
    have e78 := e7.trans e8
    have nn8 := e8 _ _ hnn
    have hp8 := e78 _ _ hp6
    have hr8 := e78 _ _ hr6
    have hB8 := ex_l e78 hB6
    have hqm := mem_cf ds.qb
    have hrm := mem_cf ds.rb
    refine q_asgL (el_call2 (evp_l (el_call (ea_cons (ev_var rfl) (ea_cons (ev_var rfl) ea_nil)) (sl_P_scaled (x + i * (y + 1)) y (sq_of hp8) (by omega) hqm hmb (by omega)))) (evp_l (xs := (shI (rs.length - ms.length) [number]).map V.int) ?_) fun a1 b1 H9 e9 h1 h2 => sl_P_plus (sq_of h1) (sq_of h2) (Nat.le_trans (scaled_len _ _) (by omega)) (by rw [sh_len]; simp; omega)) fun p9 H9 np9 e9 hp9 => ?_
    · rw [← sh_map]
      exact el_catA (ev_var rfl) nn8 (el_lst (ea_cons (ev_var rfl) ea_nil) (by simp)) (by rw [List.length_replicate]; simp; omega)
    have hr9 := e9 _ _ hr8
    have hB9 := ex_l e9 hB8
    have nn9 := e9 _ _ nn8
    refine s_asgL (el_call2 (evp_l (el_call (ea_cons (ev_var rfl) (ea_cons (ev_var rfl) ea_nil)) (sl_P_scaled (x + i * (y + 1)) y (sq_of hr9) (by omega) hrm hmb (by omega)))) (evp_l (xs := (shI (rs.length - ms.length) (scaledI number ms)).map V.int) ?_) fun a1 b1 H10 e10 h1 h2 => sl_P_minus (sq_of h1) (sq_of h2) (Nat.le_trans (scaled_len _ _) (by omega)) (by rw [sh_len]; have := scaled_len number ms; omega)) fun r10 H10 nr10 e10 hr10 => ?_
    · rw [← sh_map]
      refine el_catA (ev_var rfl) nn9 (el_call (ea_cons (ev_var rfl) (ea_cons (ev_var rfl) ea_nil)) (sl_P_scaled y (x + i * (y + 1)) hB9 (by omega) (mem_cf hA.xb) (Nat.lt_of_le_of_lt nb hrb) (by omega))) ?_
      rw [List.length_replicate, List.length_map]
      have := scaled_len number ms
      omega
    have e48 := e46.trans e78
    have e39 := e3.trans (e48.trans e9)
    refine ⟨i + 1, m * more, p9, r10, _, _, _, _, _, rfl, e39.trans e10, fresh_back (e3.trans e48) np9, fresh_back e39 nr10, fun e => ?_, e10 _ _ hp9, hr10, ds2, hshort⟩
    rw [e, nr10] at hp9
    cases hp9
  · have hl : rs.length < ms.length := by
      have := of_decide_eq_false hb
      rw [List.length_map, List.length_map] at this
      omega
    refine s_retP (evp_tup3 (ev_var rfl) (ev_var rfl) (ev_var rfl)) fun v H5 e5 hv => ?_
    obtain ⟨t, rfl, ht⟩ := hv
    have e45 := e4.trans e5
    exact q.go (Ex.refl H) (e3.trans e45) ⟨t, p, r, m, qs, rs, rfl, ht, e45 _ _ hp, e45 _ _ hr, np, nr, pr, ds.done hl⟩
theorem spp_P_divided' {K : PySem.W.Frag} {cs : Cs} {H : Hp} {a b : Addr} {ns ms : List Int} {x y : Nat} (h : DivA K H a b ns ms x y) (h0 : ms ≠ []) : SpP (sp_P_divided K cs) [.ref a, .ref b] H (DivP ns ms x y H) := fun H1 e Q q E =>
  ⟨a, b, ns, ms, x, y, rfl, h.mono e, .inr ⟨h0, fun v H2 e2 hv => q v H2 e2 (by
    obtain ⟨t, p, r, m, qs, rs, g1, g2, g3, g4, g5, g6, g7⟩ := hv
    exact ⟨t, p, r, m, qs, rs, g1, g2, g3, g4, fresh_back e g5, fresh_back e g6, g7⟩)⟩⟩
/-! the same for the rows that a law draws -/
structure DivOk (ns ms : List Int) (m : Int) (qs rs : List Int) : Prop where
  nq : Nf qs
  nr : Nf rs
  mp : 1 ≤ m
  lr : rs.length < ms.length
  eq : Po.C m * Po.of ns = Po.of qs * Po.of ms + Po.of rs
  g : Nat.gcd m.natAbs (Nat.gcd (cont qs) (cont rs)) = 1
  mb : m.natAbs < 2 ^ 1000000
  lq : qs.length ≤ 201
  qb : ∀ k, (cf qs k).natAbs < 2 ^ 1000000
  rb : ∀ k, (cf rs k).natAbs < 2 ^ 1000000
def DivPk (ns ms : List Int) (H0 : Hp) : V → Hp → Prop := fun v H => ∃ (t p r : Addr) (m : Int) (qs rs : List Int), v = .ref t ∧ H t = some (.tup [.int m, .ref p, .ref r]) ∧ H p = some (.lst (qs.map V.int)) ∧ H r = some (.lst (rs.map V.int)) ∧ H0 p = none ∧ H0 r = none ∧ p ≠ r ∧ DivOk ns ms m qs rs
theorem QuoA.div {K : PySem.W.Frag} {H : Hp} {a b : Addr} {ns ms : List Int} (h : QuoA K H a b ns ms) : DivA K H a b ns ms 300 200 := by
  have la := h.la
  have lb := h.lb
  have h1 : stepsI ns ms ≤ 201 := by unfold stepsI; omega
  exact ⟨h.sa, h.sb, by omega, by omega, h.na, h.nb, h.xa, h.xb, by omega⟩
theorem DivR.ok {ns ms : List Int} {m : Int} {qs rs : List Int} (h : DivR ns ms 300 200 m qs rs) (la : ns.length ≤ 200) : DivOk ns ms m qs rs := by
  have h1 : stepsI ns ms ≤ 201 := by unfold stepsI; omega
  exact ⟨h.nq, h.nr, h.mp, h.lr, h.eq, h.g, Nat.lt_of_le_of_lt h.mb (Nat.pow_lt_pow_right (by decide) (by omega)), Nat.le_trans h.lq h1, fun k => lt_pow_mono (h.qb k) (by omega), fun k => lt_pow_mono (h.rb k) (by omega)⟩
theorem spp_P_divided {K : PySem.W.Frag} {cs : Cs} {H : Hp} {a b : Addr} {ns ms : List Int} (h : QuoA K H a b ns ms) (h0 : ms ≠ []) : SpP (sp_P_divided K cs) [.ref a, .ref b] H (DivPk ns ms H) := fun H1 e Q q E =>
  spp_P_divided' h.div h0 H1 e Q (fun v H2 e2 hv => q v H2 e2 (by
    obtain ⟨t, p, r, m, qs, rs, g1, g2, g3, g4, g5, g6, g7, g8⟩ := hv
    exact ⟨t, p, r, m, qs, rs, g1, g2, g3, g4, g5, g6, g7, g8.ok h.la⟩)) E

-- USES: QuoA P_divided
-- EXC: ByNought NotWhole
/-! quotient -/
def sp_P_quotient (K : PySem.W.Frag) (cs : Cs) : Sp := fun vs H Q E => ∃ (a b : Addr) (ns ms : List Int) (x y : Nat), vs = [.ref a, .ref b] ∧ DivA K H a b ns ms x y ∧
  ((ms = [] ∧ ∀ H', Ex H H' → E (.ref cs.ByNought) none H') ∨ (ms ≠ [] ∧ (¬∃ q, Po.of ns = q * Po.of ms) ∧ ∀ H', Ex H H' → E (.ref cs.NotWhole) none H') ∨ (ms ≠ [] ∧ ∃ qs : List Int, Nf qs ∧ Po.of ns = Po.of qs * Po.of ms ∧ RetL (qs.map V.int) H Q))
def t_P_quotient (K : PySem.W.Frag) (cs : Cs) (E : XK) : TS :=
  (tSeq (tAsg (tCallS (sp_P_divided K cs) (WE (wOf E)) (tCons (tVar 0) (tCons (tVar 1) tNil))) (gTup K 3 (gCons (gName 2) (gCons (gName 3) (gCons (gName 4) gNil))))) (tSeq (tIfS (tOr (tTest (tOp rNe (tVar 2) (tC (.int 1)))) (tTruth K (tVar 4))) (tRaiseC cs.NotWhole (wOf E)) tNext) (tRet (tVar 3))))
theorem q_asgS {σ : L2.St} {H : Hp} {D : Ends} {tz : TS} {sp : Sp} {W : WX} {ta : TA} {vs : List V} {g : TG} (h : EvA ta σ H vs) (k : ∀ H1, Ex H H1 → sp vs H1 (fun x H2 => g x σ H2 (tz D)) (fun cls d H2 => W cls d σ H2)) : tSeq (tAsg (tCallS sp (WE W) ta) g) tz D σ H :=
  h H (Ex.refl H) _ fun H1 e1 => k H1 e1
theorem run_P_quotient {K : PySem.W.Frag} {cs : Cs} {vs : List V} {H : Hp} {Q : VK} {E : XK} {l : List Addr} (_ : Tx K cs.PolyError l) (_ : cs.ByNought ∈ l) (_ : cs.NotWhole ∈ l) (h : sp_P_quotient K cs vs H Q E) : t_P_quotient K cs E { nx := fun _ H' => Q .non H', rt := Q } (start ["row", "by", "many", "found", "rest"] vs) H := by
  obtain ⟨a, b, ns, ms, x, y, rfl, hA, h⟩ := h
  refine q_asgS (ea_cons (ev_var rfl) (ea_cons (ev_var rfl) ea_nil)) fun H1 e1 => ⟨a, b, ns, ms, x, y, rfl, hA.mono e1, ?_⟩
  by_cases h0 : ms = []
  · rcases h with ⟨_, h⟩ | ⟨h, _⟩ | ⟨h, _⟩
    · exact .inl ⟨h0, fun H2 e2 => h H2 (e1.trans e2)⟩
    · exact absurd h0 h
    · exact absurd h0 h
  refine .inr ⟨h0, fun v H2 e2 hv => ?_⟩
  obtain ⟨t, p, r, m, qs, rs, rfl, ht, hp, hr, np, nr, pr, ok⟩ := hv
  refine ⟨t, _, rfl, .inl (.inl ht), rfl, .int m, _, rfl, .ref p, _, rfl, .ref r, _, rfl, rfl, ?_⟩
  have e12 := e1.trans e2
  have hw := ok.whole hA.nb h0
  refine q_when (b := !decide (m = 1 ∧ rs = [])) (et_is (et_or (et_test (ev_neI (ev_var rfl) ev_c)) fun _ => et_truthL (ev_var rfl) (sq_of (K := K) hr)) ?_) (fun hb H3 e3 => ?_) (fun hb H3 e3 => ?_)
  · rw [map_empty]
    by_cases h1 : m = 1
    · subst h1
      cases rs with
      | nil => rfl
      | cons x r => simp
    · simp [h1]
  · have hno : ¬∃ q, Po.of ns = q * Po.of ms := fun hq => by
      rw [decide_eq_true (hw.mp hq)] at hb
      cases hb
    rcases h with ⟨h, _⟩ | ⟨_, _, h⟩ | ⟨_, qs2, _, hq, _⟩
    · exact absurd h h0
    · exact h H3 (e12.trans e3)
    · exact absurd ⟨_, hq⟩ hno
  · have hyes : m = 1 ∧ rs = [] := by simpa using hb
    rcases h with ⟨h, _⟩ | ⟨_, h, _⟩ | ⟨_, qs2, nq2, hq, q⟩
    · exact absurd h h0
    · exact absurd (hw.mpr hyes) h
    · refine s_ret (ev_var rfl) fun H4 e4 => ?_
      have eq : qs = qs2 := by
        have h1 := ok.eq
        rw [hyes.1, hyes.2, Po.of_nil, ← Po.one_C] at h1
        have hne : Po.of ms ≠ 0 := fun e => h0 (Po.of_inj hA.nb nf_nil e)
        refine Po.of_inj ok.nq nq2 (Po.mul_cancel hne ?_)
        rw [hq] at h1
        grind
      rw [← eq] at q
      exact q.go e1 np ((e2.trans e3).trans e4) ((e3.trans e4) _ _ hp)
theorem sl_P_quotient' {K : PySem.W.Frag} {cs : Cs} {H : Hp} {a b : Addr} {ns ms qs : List Int} {x y : Nat} (h : DivA K H a b ns ms x y) (h0 : ms ≠ []) (hq : Nf qs) (e : Po.of ns = Po.of qs * Po.of ms) : SpL (sp_P_quotient K cs) [.ref a, .ref b] H (qs.map V.int) := fun H1 e1 Q q E => ⟨a, b, ns, ms, x, y, rfl, h.mono e1, .inr (.inr ⟨h0, qs, hq, e, q⟩)⟩
theorem sl_P_quotient {K : PySem.W.Frag} {cs : Cs} {H : Hp} {a b : Addr} {ns ms qs : List Int} (h : QuoA K H a b ns ms) (h0 : ms ≠ []) (hq : Nf qs) (e : Po.of ns = Po.of qs * Po.of ms) : SpL (sp_P_quotient K cs) [.ref a, .ref b] H (qs.map V.int) := sl_P_quotient' h.div h0 hq e

/-! on simple rows -/
theorem log2_lt {c b : Nat} (h : c < 2 ^ b) (hb : b ≤ 9000) (h0 : 0 < b) : c.log2 < 9000 := by
  have := PySem.Flt.log2_lt_of h0 h
  omega

-- USES: P_content SimpleX
/-! signed_content -/
def sp_P_signed_content (K : PySem.W.Frag) : Sp := fun vs H Q _ => ∃ (a : Addr) (ns : List Int), vs = [.ref a] ∧ SqL K H a (ns.map V.int) ∧ RetV (.int (scI ns)) H Q
def t_P_signed_content (K : PySem.W.Frag) : TS :=
  (tSeq (tIfS (tAnd (tTruth K (tVar 0)) (tTest (tOp oLt (tOp (rIxL K) (tVar 0) (tUn uNeg (tC (.int 1)))) (tC (.int 0))))) (tRet (tUn uNeg (tCall (sp_P_content K) [] E0 (tCons (tVar 0) tNil)))) tNext) (tRet (tCall (sp_P_content K) [] E0 (tCons (tVar 0) tNil))))
theorem run_P_signed_content {K : PySem.W.Frag} {vs : List V} {H : Hp} {Q : VK} {E : XK} (h : sp_P_signed_content K vs H Q E) : t_P_signed_content K { nx := fun _ H' => Q .non H', rt := Q } (start ["row"] vs) H := by
  obtain ⟨a, ns, rfl, hS, q⟩ := h
  refine q_when (b := decide (ns.getD (ns.length - 1) 0 < 0)) (et_is (et_and (b := decide (ns.getD (ns.length - 1) 0 < 0)) (et_truthL (ev_var rfl) hS) fun hb => et_test (ev_lt (ev_last (ev_var rfl) hS ?_) ev_c)) ?_) (fun hb H1 e1 => ?_) (fun hb H1 e1 => ?_)
  · intro e
    rw [map_empty, e] at hb
    cases hb
  · rw [map_empty]
    cases ns with
    | nil => rfl
    | cons x r => rfl
  · refine s_ret (ev_neg (ev_call (ea_cons (ev_var rfl) ea_nil) (sv_P_content (ex_l e1 hS)))) fun H2 e2 => ?_
    have e : scI ns = -(cont ns : Int) := if_pos (of_decide_eq_true hb)
    rw [← e]
    exact q H2 (e1.trans e2)
  · refine s_ret (ev_call (ea_cons (ev_var rfl) ea_nil) (sv_P_content (ex_l e1 hS))) fun H2 e2 => ?_
    have e : scI ns = (cont ns : Int) := if_neg (of_decide_eq_false hb)
    rw [← e]
    exact q H2 (e1.trans e2)
theorem sv_P_signed_content {K : PySem.W.Frag} {H : Hp} {a : Addr} {ns : List Int} (hS : SqL K H a (ns.map V.int)) : SpV (sp_P_signed_content K) [.ref a] H (.int (scI ns)) := fun H1 e Q q E => ⟨a, ns, rfl, ex_l e hS, q⟩

-- USES: Lists
/-! lessened -/
def sp_P_lessened (K : PySem.W.Frag) : Sp := fun vs H Q _ => ∃ (a : Addr) (ns : List Int) (d : Int), vs = [.ref a, .int d] ∧ SqL K H a (ns.map V.int) ∧ ns.length ≤ 20000 ∧ (ns = [] ∨ d ≠ 0) ∧ RetL ((ns.map fun x => x.fdiv d).map V.int) H Q
def t_P_lessened (K : PySem.W.Frag) : TS :=
  (tRet (tLc (iList K (tVar 0)) (gName 2) tYes (tOp oDivG (tVar 2) (tVar 1)) [2]))
theorem run_P_lessened {K : PySem.W.Frag} {vs : List V} {H : Hp} {Q : VK} {E : XK} (h : sp_P_lessened K vs H Q E) : t_P_lessened K { nx := fun _ H' => Q .non H', rt := Q } (start ["row", "by", "number"] vs) H := by
  obtain ⟨a, ns, d, rfl, hS, hl, hd, q⟩ := h
  refine s_retL (el_lcL (fun _ => true) (fun i => .int ((ns.getD i 0).fdiv d)) (ev_var rfl) hS (by rw [List.length_map]; omega) (fun _ => rfl) (fun i x H1 e1 hi => et_yes) fun i x H4 e4 hi _ => ?_) fun p H4 hp e4 h4 => ?_
  · obtain ⟨g1, rfl, g3⟩ := int_at hi
    exact ev_op (ev_var rfl) (ev_var rfl) (rv_I (hd.resolve_left fun e => by
      rw [e] at g1
      exact absurd g1 (Nat.not_lt_zero _)))
  · rw [given_map (f := fun x => x.fdiv d)] at h4
    exact q p H4 hp e4 h4
theorem sl_P_lessened {K : PySem.W.Frag} {H : Hp} {a : Addr} {ns : List Int} {d : Int} (hS : SqL K H a (ns.map V.int)) (hl : ns.length ≤ 20000) (hd : ns = [] ∨ d ≠ 0) : SpL (sp_P_lessened K) [.ref a, .int d] H ((ns.map fun x => x.fdiv d).map V.int) := fun H1 e Q q E => ⟨a, ns, d, rfl, ex_l e hS, hl, hd, q⟩

-- USES: P_signed_content P_lessened SimpleX
/-! simple -/
def sp_P_simple (K : PySem.W.Frag) : Sp := fun vs H Q _ => ∃ (a : Addr) (ns : List Int), vs = [.ref a] ∧ SqL K H a (ns.map V.int) ∧ Nf ns ∧ ns.length ≤ 20000 ∧ RetL ((simpleI ns).map V.int) H Q
def t_P_simple (K : PySem.W.Frag) : TS :=
  (tRet (tCall (sp_P_lessened K) [] E0 (tCons (tVar 0) (tCons (tCall (sp_P_signed_content K) [] E0 (tCons (tVar 0) tNil)) tNil))))
theorem run_P_simple {K : PySem.W.Frag} {vs : List V} {H : Hp} {Q : VK} {E : XK} (h : sp_P_simple K vs H Q E) : t_P_simple K { nx := fun _ H' => Q .non H', rt := Q } (start ["row"] vs) H := by
  obtain ⟨a, ns, rfl, hS, hn, hl, q⟩ := h
  refine s_retL (el_callP (xs := (simpleI ns).map V.int) (eps_V (ev_var rfl) (eps_V (ev_call (ea_cons (ev_var rfl) ea_nil) (sv_P_signed_content hS)) eps_nil)) fun vs H1 e1 hvs => ?_) q
  obtain ⟨v, w, rfl, rfl, rfl⟩ := all2_two hvs
  rw [← simple_sc hn]
  exact sl_P_lessened (ex_l e1 hS) hl (sc_ne hn)
theorem sl_P_simple' {K : PySem.W.Frag} {H : Hp} {a : Addr} {ns : List Int} (hS : SqL K H a (ns.map V.int)) (hn : Nf ns) (hl : ns.length ≤ 20000) : SpL (sp_P_simple K) [.ref a] H ((simpleI ns).map V.int) := fun H1 e Q q E => ⟨a, ns, rfl, ex_l e hS, hn, hl, q⟩
theorem sl_P_simple {K : PySem.W.Frag} {H : Hp} {a : Addr} {ns : List Int} (b : Nat) (hS : SqL K H a (ns.map V.int)) (hn : Nf ns) (hl : ns.length ≤ 20000) (_ : ∀ x ∈ ns, x.natAbs < 2 ^ b) (_ : b ≤ 9000) : SpL (sp_P_simple K) [.ref a] H ((simpleI ns).map V.int) := sl_P_simple' hS hn hl

-- USES: P_content P_signed_content P_lessened P_simple
/-! _least_step -/
structure StpH (H : Hp) (t p q r : Addr) (n : Int) (pl ql rl : List Int) : Prop where
  ht : H t = some (.tup [.ref p, .ref q, .ref r, .int n])
  hp : H p = some (.lst (pl.map V.int))
  hq : H q = some (.lst (ql.map V.int))
  hr : H r = some (.lst (rl.map V.int))
theorem StpH.mono {H H' : Hp} {t p q r : Addr} {n : Int} {pl ql rl : List Int} (e : Ex H H') (h : StpH H t p q r n pl ql rl) : StpH H' t p q r n pl ql rl := ⟨e _ _ h.ht, e _ _ h.hp, e _ _ h.hq, e _ _ h.hr⟩
def StpP (n : Int) (pl ql rl : List Int) (H0 : Hp) : V → Hp → Prop := fun v H => ∃ t p q r : Addr, v = .ref t ∧ StpH H t p q r n pl ql rl ∧ H0 p = none ∧ H0 q = none ∧ H0 r = none ∧ p ≠ q ∧ p ≠ r ∧ q ≠ r
theorem StpP.back {n : Int} {pl ql rl : List Int} {H0 H1 H : Hp} {v : V} (e : Ex H0 H1) (h : StpP n pl ql rl H1 v H) : StpP n pl ql rl H0 v H := by
  obtain ⟨t, p, q, r, h1, h2, h3, h4, h5, h6⟩ := h
  exact ⟨t, p, q, r, h1, h2, fresh_back e h3, fresh_back e h4, fresh_back e h5, h6⟩
theorem evp_step {σ : L2.St} {H : Hp} {ta tb tc td : TE} {n : Int} {pl ql rl : List Int} (ha : EvL ta σ H (pl.map V.int)) (hb : EvL tb σ H (ql.map V.int)) (hc : EvL tc σ H (rl.map V.int)) (hd : Ev td σ H (.int n)) : EvP (tTup (tCons ta (tCons tb (tCons tc (tCons td tNil))))) σ H (StpP n pl ql rl H) := fun H1 e Q k =>
  ha H1 e _ fun p H2 hp e2 h2 => hb H2 (e.trans e2) _ fun q H3 hq e3 h3 => hc H3 ((e.trans e2).trans e3) _ fun r H4 hr e4 h4 => hd H4 (((e.trans e2).trans e3).trans e4) _ fun H5 e5 => ⟨sz_of (by simp), fun t ht => by
    have n1 : p ≠ q := fun z => by
      rw [z, hq] at h2
      cases h2
    have n2 : p ≠ r := fun z => by
      rw [z] at h2
      rw [e3 _ _ h2] at hr
      cases hr
    have n3 : q ≠ r := fun z => by
      rw [z, hr] at h3
      cases h3
    exact k _ _ ((((e2.trans e3).trans e4).trans e5).trans (Ex.new ht)) ⟨t, p, q, r, rfl, ⟨upd_same, Ex.new ht _ _ (e5 _ _ (e4 _ _ (e3 _ _ h2))), Ex.new ht _ _ (e5 _ _ (e4 _ _ h3)), Ex.new ht _ _ (e5 _ _ h4)⟩, fresh_back e hp, fresh_back (e.trans e2) hq, fresh_back ((e.trans e2).trans e3) hr, n1, n2, n3⟩⟩
structure LstA (K : PySem.W.Frag) (H : Hp) (a b c : Addr) (m : Int) (ns us ws : List Int) (x y : Nat) : Prop where
  sa : SqL K H a (ns.map V.int)
  sb : SqL K H b (us.map V.int)
  sc : SqL K H c (ws.map V.int)
  na : Nf ns
  nb : Nf us
  nc : Nf ws
  la : ns.length ≤ 20000
  lb : us.length ≤ 20000
  lc : ws.length ≤ 20000
  no : us ≠ [] ∨ ws ≠ []
  mx : m.natAbs < 2 ^ x
  cy : cont ns < 2 ^ y
  xy : x + y ≤ 130000000
theorem LstA.mono {K : PySem.W.Frag} {H H' : Hp} {a b c : Addr} {m : Int} {ns us ws : List Int} {x y : Nat} (h : LstA K H a b c m ns us ws x y) (e : Ex H H') : LstA K H' a b c m ns us ws x y := { h with sa := ex_l e h.sa, sb := ex_l e h.sb, sc := ex_l e h.sc }
def sp_P_least_step (K : PySem.W.Frag) : Sp := fun vs H Q _ => ∃ (a b c : Addr) (m : Int) (ns us ws : List Int) (x y : Nat), vs = [.ref a, .ref b, .ref c, .int m] ∧ LstA K H a b c m ns us ws x y ∧ RetP (StpP ((m * scI ns).fdiv (shrI (m * scI ns) us ws)) (simpleI ns) (lessI (shrI (m * scI ns) us ws) us) (lessI (shrI (m * scI ns) us ws) ws) H) H Q
def t_P_least_step (K : PySem.W.Frag) : TS :=
  (tSeq (tAsg (tOp oMul (tVar 3) (tCall (sp_P_signed_content K) [] E0 (tCons (tVar 0) tNil))) (gName 3)) (tSeq (tAsg (tCB rGcd3 (tCons (tVar 3) (tCons (tCall (sp_P_content K) [] E0 (tCons (tVar 1) tNil)) (tCons (tCall (sp_P_content K) [] E0 (tCons (tVar 2) tNil)) tNil)))) (gName 4)) (tSeq (tIfS (tTest (tOp oLt (tVar 3) (tC (.int 0)))) (tAsg (tUn uNeg (tVar 4)) (gName 4)) tNext) (tRet (tTup (tCons (tCall (sp_P_simple K) [] E0 (tCons (tVar 0) tNil)) (tCons (tCall (sp_P_lessened K) [] E0 (tCons (tVar 1) (tCons (tVar 4) tNil))) (tCons (tCall (sp_P_lessened K) [] E0 (tCons (tVar 2) (tCons (tVar 4) tNil))) (tCons (tOp oDivG (tVar 3) (tVar 4)) tNil)))))))))
theorem run_P_least_step {K : PySem.W.Frag} {vs : List V} {H : Hp} {Q : VK} {E : XK} (h : sp_P_least_step K vs H Q E) : t_P_least_step K { nx := fun _ H' => Q .non H', rt := Q } (start ["row", "left", "right", "many", "shared"] vs) H := by
  obtain ⟨a, b, c, m, ns, us, ws, x, y, rfl, hA, q⟩ := h
  have h0 := shr_ne (m := m * scI ns) hA.nb hA.nc hA.no
  have hsg := shr_sign (m * scI ns) us ws
  refine q_asg (ev_mul (ev_var rfl) (ev_call (ea_cons (ev_var rfl) ea_nil) (sv_P_signed_content hA.sa)) (mulx hA.mx (by rw [sc_abs]; exact hA.cy) (by have := hA.xy; omega))) fun H1 e1 => ?_
  generalize hm : m * scI ns = mm at *
  have h1 := hA.mono e1
  refine q_asg (ev_gcd3 (ev_var rfl) (ev_call (ea_cons (ev_var rfl) ea_nil) (sv_P_content h1.sb)) (ev_call (ea_cons (ev_var rfl) ea_nil) (sv_P_content h1.sc))) fun H2 e2 => ?_
  rw [Int.natAbs_natCast, Int.natAbs_natCast]
  refine q_ifAsg (v := .int (shrI mm us ws)) (et_test (ev_lt (ev_var rfl) ev_c)) (fun hb => ?_) (fun hb => ?_) fun H3 e3 => ?_
  · rw [hsg, if_pos (of_decide_eq_true hb)]
    exact ev_neg (ev_var rfl)
  · rw [hsg, if_neg (of_decide_eq_false hb)]
    rfl
  generalize shrI mm us ws = d at *
  have h3 := h1.mono (e2.trans e3)
  refine s_retP (evp_step (el_call (ea_cons (ev_var rfl) ea_nil) (sl_P_simple' h3.sa h3.na h3.la)) (el_call (ea_cons (ev_var rfl) (ea_cons (ev_var rfl) ea_nil)) (sl_P_lessened h3.sb h3.lb (.inr h0))) (el_call (ea_cons (ev_var rfl) (ea_cons (ev_var rfl) ea_nil)) (sl_P_lessened h3.sc h3.lc (.inr h0))) (ev_op (ev_var rfl) (ev_var rfl) (rv_I h0))) fun v H4 e4 hv => ?_
  exact q.go (Ex.refl H) ((e1.trans (e2.trans e3)).trans e4) (hv.back (e1.trans (e2.trans e3)))
theorem spp_P_least_step {K : PySem.W.Frag} {H : Hp} {a b c : Addr} {m : Int} {ns us ws : List Int} {x y : Nat} (h : LstA K H a b c m ns us ws x y) : SpP (sp_P_least_step K) [.ref a, .ref b, .ref c, .int m] H (StpP ((m * scI ns).fdiv (shrI (m * scI ns) us ws)) (simpleI ns) (lessI (shrI (m * scI ns) us ws) us) (lessI (shrI (m * scI ns) us ws) ws) H) := fun H1 e Q q E =>
  ⟨a, b, c, m, ns, us, ws, x, y, rfl, h.mono e, fun v H2 e2 hv => q v H2 e2 (hv.back e)⟩

-- USES: P_least_step P_divided P_scaled P_times P_minus
-- EXC: ByNought
/-! _next_step -/
theorem q_unp4 {K : PySem.W.Frag} {σ : L2.St} {H : Hp} {D : Ends} {tz : TS} {te : TE} {n1 n2 n3 n4 : Nat} {t : Addr} {x y z w : V} (h : Ev te σ H (.ref t)) (ht : H t = some (.tup [x, y, z, w])) (k : ∀ H1, Ex H H1 → tz D ((((σ.set n1 (some x)).set n2 (some y)).set n3 (some z)).set n4 (some w)) H1) :
    tSeq (tAsg te (gTup K 4 (gCons (gName n1) (gCons (gName n2) (gCons (gName n3) (gCons (gName n4) gNil)))))) tz D σ H := h H (Ex.refl H) _ fun H1 e => ⟨t, _, rfl, .inl (.inl (e _ _ ht)), rfl, x, _, rfl, y, _, rfl, z, _, rfl, w, _, rfl, rfl, k H1 e⟩
theorem q_unp3P {K : PySem.W.Frag} {σ : L2.St} {H : Hp} {D : Ends} {tz : TS} {te : TE} {n1 n2 n3 : Nat} {P : V → Hp → Prop} (h : EvP te σ H P) (k : ∀ v H1, Ex H H1 → P v H1 → ∃ (t : Addr) (x y z : V), v = .ref t ∧ H1 t = some (.tup [x, y, z]) ∧ tz D (((σ.set n1 (some x)).set n2 (some y)).set n3 (some z)) H1) :
    tSeq (tAsg te (gTup K 3 (gCons (gName n1) (gCons (gName n2) (gCons (gName n3) gNil))))) tz D σ H := h H (Ex.refl H) _ fun v H1 e hv => by
  obtain ⟨t, x, y, z, rfl, ht, g⟩ := k v H1 e hv
  exact ⟨t, _, rfl, .inl (.inl ht), rfl, x, _, rfl, y, _, rfl, z, _, rfl, rfl, g⟩
structure NxtA (H : Hp) (t0 p0 q0 r0 t1 p1 q1 r1 : Addr) (a b : Po) (N L i : Nat) (row0 u0 v0 : List Int) (n0 : Int) (row1 u1 v1 : List Int) (n1 : Int) (p bb K0 K1 : Nat) : Prop where
  h0 : StpH H t0 p0 q0 r0 n0 row0 u0 v0
  h1 : StpH H t1 p1 q1 r1 n1 row1 u1 v1
  I : MtI a b N L i row0 u0 v0 n0 row1 u1 v1 n1
  Z : MtZ N L row0 u0 v0 n0 row1 u1 v1 n1 p bb K0 K1
  ne : row1 ≠ []
  hV : 30 ≤ N
  hL : L ≤ 14
  hB : bdI N (L + 1 - row1.length) ≤ 29000000
def NxtP (a b : Po) (N L i : Nat) (row1 u1 v1 : List Int) (n1 : Int) (H0 : Hp) : V → Hp → Prop := fun v H => ∃ (row2 u2 v2 : List Int) (n2 : Int) (p bb K0 K1 : Nat), StpP n2 row2 u2 v2 H0 v H ∧ MtI a b N L (i + 1) row1 u1 v1 n1 row2 u2 v2 n2 ∧ MtZ N L row1 u1 v1 n1 row2 u2 v2 n2 p bb K0 K1 ∧ row2.length < row1.length
theorem NxtP.back {a b : Po} {N L i : Nat} {row1 u1 v1 : List Int} {n1 : Int} {H0 H1 H : Hp} {v : V} (e : Ex H0 H1) (h : NxtP a b N L i row1 u1 v1 n1 H1 v H) : NxtP a b N L i row1 u1 v1 n1 H0 v H := by
  obtain ⟨row2, u2, v2, n2, p, bb, K0, K1, h1, h2⟩ := h
  exact ⟨row2, u2, v2, n2, p, bb, K0, K1, h1.back e, h2⟩
def sp_P_next_step (K : PySem.W.Frag) (cs : Cs) : Sp := fun vs H Q _ => ∃ (t0 p0 q0 r0 t1 p1 q1 r1 : Addr) (a b : Po) (N L i : Nat) (row0 u0 v0 : List Int) (n0 : Int) (row1 u1 v1 : List Int) (n1 : Int) (p bb K0 K1 : Nat), vs = [.ref t0, .ref t1] ∧ NxtA H t0 p0 q0 r0 t1 p1 q1 r1 a b N L i row0 u0 v0 n0 row1 u1 v1 n1 p bb K0 K1 ∧ RetP (NxtP a b N L i row1 u1 v1 n1 H) H Q
def t_P_next_step (K : PySem.W.Frag) (cs : Cs) : TS :=
  (tSeq (tAsg (tVar 0) (gTup K 4 (gCons (gName 2) (gCons (gName 3) (gCons (gName 4) (gCons (gName 5) gNil)))))) (tSeq (tAsg (tVar 1) (gTup K 4 (gCons (gName 6) (gCons (gName 7) (gCons (gName 8) (gCons (gName 9) gNil)))))) (tSeq (tAsg (tCall (sp_P_divided K cs) [] E0 (tCons (tVar 2) (tCons (tVar 6) tNil))) (gTup K 3 (gCons (gName 10) (gCons (gName 11) (gCons (gName 12) gNil))))) (tSeq (tAsg (tOp oMul (tVar 10) (tVar 9)) (gName 13)) (tSeq (tAsg (tCall (sp_P_scaled K) [] E0 (tCons (tVar 11) (tCons (tVar 5) tNil))) (gName 14)) (tSeq (tAsg (tCall (sp_P_minus K) [] E0 (tCons (tCall (sp_P_scaled K) [] E0 (tCons (tVar 3) (tCons (tVar 13) tNil))) (tCons (tCall (sp_P_times K) [] E0 (tCons (tVar 14) (tCons (tVar 7) tNil))) tNil))) (gName 15)) (tSeq (tAsg (tCall (sp_P_minus K) [] E0 (tCons (tCall (sp_P_scaled K) [] E0 (tCons (tVar 4) (tCons (tVar 13) tNil))) (tCons (tCall (sp_P_times K) [] E0 (tCons (tVar 14) (tCons (tVar 8) tNil))) tNil))) (gName 16)) (tRet (tCall (sp_P_least_step K) [] E0 (tCons (tVar 12) (tCons (tVar 15) (tCons (tVar 16) (tCons (tOp oMul (tVar 5) (tVar 9)) tNil)))))))))))))
theorem run_P_next_step {K : PySem.W.Frag} {cs : Cs} {vs : List V} {H : Hp} {Q : VK} {E : XK} {l : List Addr} (_ : Tx K cs.PolyError l) (_ : cs.ByNought ∈ l) (h : sp_P_next_step K cs vs H Q E) : t_P_next_step K cs { nx := fun _ H' => Q .non H', rt := Q } (start ["last", "now", "row", "left", "right", "many", "by", "by_left", "by_right", "by_many", "row_many", "found", "rest", "ahead", "behind", "next_left", "next_right"] vs) H := by
  obtain ⟨t0, p0, q0, r0, t1, p1, q1, r1, a, b, N, L, i, row0, u0, v0, n0, row1, u1, v1, n1, p, bb, K0, K1, rfl, A, q⟩ := h
  obtain ⟨h0, h1, I, Z, ne, hV, hL, hB⟩ := A
  refine q_unp4 (ev_var rfl) h0.ht fun H1 e1 => q_unp4 (ev_var rfl) (h1.mono e1).ht fun H2 e2 => ?_
  have e12 := e1.trans e2
  have k0 := h0.mono e12
  have k1 := h1.mono e12
  have il := I.il
  have hl1 := List.length_pos_iff.mpr ne
  obtain ⟨b1, b2, b3, b4⟩ := Z.bounds hV I.l0 (by omega) ne
  have l0 := I.l0
  have hA : DivA K H2 p0 p1 row0 row1 p bb := ⟨sq_of k0.hp, sq_of k1.hp, by omega, by omega, I.s0.nr, I.s1.nr, Z.r0, Z.r1, by omega⟩
  refine st_is [some (.ref t0), some (.ref t1), some (.ref p0), some (.ref q0), some (.ref r0), some (.int n0), some (.ref p1), some (.ref q1), some (.ref r1), some (.int n1), none, none, none, none, none, none, none] rfl ?_
  refine q_unp3P (evp_call (ea_cons (ev_var rfl) (ea_cons (ev_var rfl) ea_nil)) (spp_P_divided' hA ne)) fun v H3 e3 hv => ?_
  obtain ⟨t, f, g, m, qs, rs, rfl, ht, hf, hg, nf, ng, fg, dv⟩ := hv
  refine ⟨t, _, _, _, rfl, ht, ?_⟩
  obtain ⟨R, hR⟩ : ∃ R, R = p + stepsI row0 row1 * (bb + 1) := ⟨_, rfl⟩
  have hdb : stepsI row0 row1 * bb ≤ R := by
    have := Nat.mul_le_mul_left (stepsI row0 row1) (show bb ≤ bb + 1 by omega)
    omega
  have hstp : stepsI row0 row1 ≤ 15 := by unfold stepsI; omega
  have hm : m.natAbs < 2 ^ (R + 1) := Nat.lt_of_le_of_lt dv.mb (Nat.pow_lt_pow_right (by decide) (by omega))
  refine st_is [some (.ref t0), some (.ref t1), some (.ref p0), some (.ref q0), some (.ref r0), some (.int n0), some (.ref p1), some (.ref q1), some (.ref r1), some (.int n1), some (.int m), some (.ref f), some (.ref g), none, none, none, none] rfl ?_
  refine q_asg (ev_mul (ev_var rfl) (ev_var rfl) (mulx hm Z.n1 (by omega))) fun H4 e4 => ?_
  have hah : (m * n1).natAbs < 2 ^ (R + K1) := mul_lt_pow (Nat.le_trans dv.mb (pow_mono2 hdb)) Z.n1
  have lq := dv.lq
  have hqR : ∀ k, (cf qs k).natAbs < 2 ^ R := by rw [hR]; exact dv.qb
  have hrR : ∀ k, (cf rs k).natAbs < 2 ^ R := by rw [hR]; exact dv.rb
  refine q_asgL (el_call (ea_cons (ev_var rfl) (ea_cons (ev_var rfl) ea_nil)) (sl_P_scaled R K0 (sq_of (e4 _ _ hf)) (by omega) (mem_cf hqR) Z.n0 (by omega))) fun bh H5 nb e5 hbh => ?_
  have e345 := e3.trans (e4.trans e5)
  have m0 := k0.mono e345
  have m1 := k1.mono e345
  have lu0 := I.lu0
  have lv0 := I.lv0
  have lu1 := I.lu1
  have lv1 := I.lv1
  have hJ : 1 + i * (L + 1) ≤ 256 := by
    have h2 : i * (L + 1) ≤ 14 * 15 := Nat.mul_le_mul (by omega) (by omega)
    omega
  have nbh : nrm (scaledI n0 qs) ≤ 2 ^ (4 + (K0 + R)) := nrm_cf (n := 4) (fun j => by
    rw [cf_scaled]
    exact mul_lt_pow (Nat.le_of_lt Z.n0) (hqR j)) (Nat.le_trans (scaled_len _ _) (by omega))
  have lbh := scaled_len n0 qs
  refine st_is [some (.ref t0), some (.ref t1), some (.ref p0), some (.ref q0), some (.ref r0), some (.int n0), some (.ref p1), some (.ref q1), some (.ref r1), some (.int n1), some (.int m), some (.ref f), some (.ref g), some (.int (m * n1)), some (.ref bh), none, none] rfl ?_
  have row : ∀ (σ : L2.St) (H6 : Hp) (tx ty : TE) (tm th : TE) (x y : Addr) (us bs : List Int), Ev tx σ H6 (.ref x) → H6 x = some (.lst (us.map V.int)) → Ev tm σ H6 (.int (m * n1)) → Ev th σ H6 (.ref bh) → H6 bh = some (.lst ((scaledI n0 qs).map V.int)) → Ev ty σ H6 (.ref y) → H6 y = some (.lst (bs.map V.int)) → Nf bs → us.length ≤ 256 → bs.length ≤ 256 → (∀ k, (cf us k).natAbs < 2 ^ K0) → (∀ k, (cf bs k).natAbs < 2 ^ K1) →
      EvL (tCall (sp_P_minus K) [] E0 (tCons (tCall (sp_P_scaled K) [] E0 (tCons tx (tCons tm tNil))) (tCons (tCall (sp_P_times K) [] E0 (tCons th (tCons ty tNil))) tNil))) σ H6 ((minusI (scaledI (m * n1) us) (mulI (scaledI n0 qs) bs)).map V.int) := by
    intro σ H6 tx ty tm th x y us bs g1 g2 g3 g4 g5 g6 g7 nfb g8 g9 g10 g11
    refine el_call2 (xs := (scaledI (m * n1) us).map V.int) (ys := (mulI (scaledI n0 qs) bs).map V.int) (evp_l (el_call (ea_cons g1 (ea_cons g3 ea_nil)) (sl_P_scaled K0 (R + K1) (sq_of g2) (by omega) (mem_cf g10) hah (by omega)))) (evp_l (el_call (ea_cons g4 (ea_cons g6 ea_nil)) (sl_P_times (4 + (K0 + R)) (8 + K1) (sq_of g5) (sq_of g7) (nf_trim _) nfb (by omega) (by omega) nbh (nrm_cf (n := 8) g11 (by omega)) (by omega)))) fun a1 b1 H7 e7 w1 w2 => sl_P_minus (sq_of w1) (sq_of w2) (Nat.le_trans (scaled_len _ _) (by omega)) (Nat.le_trans (mulI_len _ _) (by omega))
  refine q_asgL (row _ H5 _ _ _ _ q0 q1 u0 u1 (ev_var rfl) m0.hq (ev_var rfl) (ev_var rfl) hbh (ev_var rfl) m1.hq I.s1.nu (by omega) (by omega) Z.u0 Z.u1) fun nl H6 nnl e6 hnl => ?_
  refine q_asgL (row _ H6 _ _ _ _ r0 r1 v0 v1 (ev_var rfl) (m0.mono e6).hr (ev_var rfl) (ev_var rfl) (e6 _ _ hbh) (ev_var rfl) (m1.mono e6).hr I.s1.nv (by omega) (by omega) Z.v0 Z.v1) fun nr H7 nnr e7 hnr => ?_
  obtain ⟨f1, f2, f3, f4, f5, f6, f7, f8, f9⟩ := MtI.step hV hL I Z ne dv rfl rfl rfl
  refine st_is [some (.ref t0), some (.ref t1), some (.ref p0), some (.ref q0), some (.ref r0), some (.int n0), some (.ref p1), some (.ref q1), some (.ref r1), some (.int n1), some (.int m), some (.ref f), some (.ref g), some (.int (m * n1)), some (.ref bh), some (.ref nl), some (.ref nr)] rfl ?_
  have hLA : ∀ H8, Ex H7 H8 → LstA K H8 g nl nr (n0 * n1) rs (minusI (scaledI (m * n1) u0) (mulI (scaledI n0 qs) u1)) (minusI (scaledI (m * n1) v0) (mulI (scaledI n0 qs) v1)) (K0 + K1) R := fun H8 e8 =>
    ⟨sq_of (((e4.trans e5).trans (e6.trans (e7.trans e8))) _ _ hg), sq_of ((e7.trans e8) _ _ hnl), sq_of (e8 _ _ hnr), dv.nr, f1, f2, by have := dv.ln; omega, by omega, by omega, f3, mul_lt_pow (Nat.le_of_lt Z.n0) Z.n1, cont_bound dv.nr hrR, by omega⟩
  refine s_retP (evp_call (ea_cons (ev_var rfl) (ea_cons (ev_var rfl) (ea_cons (ev_var rfl) (ea_cons (ev_mul (ev_var rfl) (ev_var rfl) (mulx Z.n0 Z.n1 (by omega))) ea_nil)))) (spp_P_least_step (hLA H7 (Ex.refl _)))) fun v H8 e8 hv => ?_
  have eall := e12.trans (e345.trans (e6.trans e7))
  have hsl := simple_len rs
  have hlr := dv.lr
  exact q.go (Ex.refl H) (eall.trans e8) ⟨_, _, _, _, _, _, _, _, hv.back eall, f8, f9, by omega⟩
theorem spp_P_next_step {K : PySem.W.Frag} {cs : Cs} {H : Hp} {t0 p0 q0 r0 t1 p1 q1 r1 : Addr} {a b : Po} {N L i : Nat} {row0 u0 v0 : List Int} {n0 : Int} {row1 u1 v1 : List Int} {n1 : Int} {p bb K0 K1 : Nat} (h : NxtA H t0 p0 q0 r0 t1 p1 q1 r1 a b N L i row0 u0 v0 n0 row1 u1 v1 n1 p bb K0 K1) : SpP (sp_P_next_step K cs) [.ref t0, .ref t1] H (NxtP a b N L i row1 u1 v1 n1 H) := fun H1 e Q q E =>
  ⟨t0, p0, q0, r0, t1, p1, q1, r1, a, b, N, L, i, row0, u0, v0, n0, row1, u1, v1, n1, p, bb, K0, K1, rfl, { h with h0 := h.h0.mono e, h1 := h.h1.mono e }, fun v H2 e2 hv => q v H2 e2 (hv.back e)⟩

-- USES: P_next_step P_quotient
-- EXC: ByNought NotWhole NoMeet
/-! meet -/
structure MeetA (K : PySem.W.Frag) (H : Hp) (a b : Addr) (ns ms : List Int) (N L e : Nat) : Prop where
  sa : SqL K H a (ns.map V.int)
  sb : SqL K H b (ms.map V.int)
  la : ns.length ≤ L
  lb : ms.length ≤ L
  hL : L ≤ 14
  na : Nf ns
  nb : Nf ms
  n30 : 30 ≤ N
  hN : N ≤ 5000000
  xa : ∀ k, (cf ns k).natAbs < 2 ^ N
  xb : ∀ k, (cf ms k).natAbs < 2 ^ N
  com : ∃ h : Po, Po.Pr h ∧ h ∣ Po.of ns ∧ h ∣ Po.of ms ∧ e ≤ h.sz
  bd : bdI N (L + 1 - e) ≤ 29000000
theorem MeetA.mono {K : PySem.W.Frag} {H H' : Hp} {a b : Addr} {ns ms : List Int} {N L e : Nat} (h : MeetA K H a b ns ms N L e) (x : Ex H H') : MeetA K H' a b ns ms N L e := { h with sa := ex_l x h.sa, sb := ex_l x h.sb }
/-- a row of an answer -/
structure Ans (b : Nat) (ns : List Int) : Prop where
  nf : Nf ns
  len : ns.length ≤ 256
  lt : ∀ k, (cf ns k).natAbs < 2 ^ b
theorem Ans.wide {b c : Nat} {ns : List Int} (h : Ans b ns) (e : b ≤ c) : Ans c ns := ⟨h.nf, h.len, fun k => lt_pow_mono (h.lt k) e⟩
structure MeetOk (ns ms : List Int) (N : Nat) (g s t u v : List Int) (n : Int) : Prop where
  ag : Ans (N + 140) g
  as : Ans (N + 140) s
  at_ : Ans (N + 140) t
  au : Ans 87000010 u
  av : Ans 87000010 v
  sim : Po.Sim (Po.of g)
  e1 : Po.of ns = Po.of g * Po.of s
  e2 : Po.of ms = Po.of g * Po.of t
  n1 : 1 ≤ n
  nb : n.natAbs < 2 ^ 87000010
  e3 : Po.of u * Po.of ns + Po.of v * Po.of ms = Po.C n * Po.of g
structure MeetH (H : Hp) (tt g s t u v : Addr) (n : Int) (gl sl tl ul vl : List Int) : Prop where
  ht : H tt = some (.tup [.ref g, .ref s, .ref t, .ref u, .ref v, .int n])
  hg : H g = some (.lst (gl.map V.int))
  hs : H s = some (.lst (sl.map V.int))
  htt : H t = some (.lst (tl.map V.int))
  hu : H u = some (.lst (ul.map V.int))
  hv : H v = some (.lst (vl.map V.int))
theorem MeetH.mono {H H' : Hp} {tt g s t u v : Addr} {n : Int} {gl sl tl ul vl : List Int} (e : Ex H H') (h : MeetH H tt g s t u v n gl sl tl ul vl) : MeetH H' tt g s t u v n gl sl tl ul vl := ⟨e _ _ h.ht, e _ _ h.hg, e _ _ h.hs, e _ _ h.htt, e _ _ h.hu, e _ _ h.hv⟩
def MeetP (ns ms : List Int) (N : Nat) (H0 : Hp) : V → Hp → Prop := fun x H => ∃ (tt g s t u v : Addr) (n : Int) (gl sl tl ul vl : List Int), x = .ref tt ∧ MeetH H tt g s t u v n gl sl tl ul vl ∧ (∀ p ∈ [g, s, t, u, v], H0 p = none) ∧ [g, s, t, u, v].Nodup ∧ MeetOk ns ms N gl sl tl ul vl n
theorem st_Meet {ns ms : List Int} {N : Nat} {H0 : Hp} : Stable (MeetP ns ms N H0) := fun _ _ _ e hv => by
  obtain ⟨tt, g, s, t, u, v, n, gl, sl, tl, ul, vl, h1, h2, h3⟩ := hv
  exact ⟨tt, g, s, t, u, v, n, gl, sl, tl, ul, vl, h1, h2.mono e, h3⟩
theorem MeetP.back {ns ms : List Int} {N : Nat} {H0 H1 H : Hp} {x : V} (e : Ex H0 H1) (hv : MeetP ns ms N H1 x H) : MeetP ns ms N H0 x H := by
  obtain ⟨tt, g, s, t, u, v, n, gl, sl, tl, ul, vl, h1, h2, h3, h4⟩ := hv
  exact ⟨tt, g, s, t, u, v, n, gl, sl, tl, ul, vl, h1, h2, fun p hp => fresh_back e (h3 p hp), h4⟩
def sp_P_meet (K : PySem.W.Frag) (cs : Cs) : Sp := fun vs H Q E => ∃ (a b : Addr) (ns ms : List Int) (N L e : Nat), vs = [.ref a, .ref b] ∧ MeetA K H a b ns ms N L e ∧ ((ns = [] ∧ ms = [] ∧ ∀ H', Ex H H' → E (.ref cs.NoMeet) none H') ∨ (¬(ns = [] ∧ ms = []) ∧ RetP (MeetP ns ms N H) H Q))
def t_P_meet (K : PySem.W.Frag) (cs : Cs) (E : XK) : TS :=
  (tSeq (tIfS (tAnd (tNot (tTruth K (tVar 0))) (tNot (tTruth K (tVar 1)))) (tRaiseC cs.NoMeet (wOf E)) tNext) (tSeq (tAsg (tCall (sp_P_least_step K) [] E0 (tCons (tVar 0) (tCons (tLst (tCons (tC (.int 1)) tNil)) (tCons (tLst tNil) (tCons (tC (.int 1)) tNil))))) (gName 2)) (tSeq (tAsg (tCall (sp_P_least_step K) [] E0 (tCons (tVar 1) (tCons (tLst tNil) (tCons (tLst (tCons (tC (.int 1)) tNil)) (tCons (tC (.int 1)) tNil))))) (gName 3)) (tSeq (tWhile (tTruth K (tOp (rIxT K) (tVar 3) (tC (.int 0)))) (tPar 2 3 (tCons (tVar 3) (tCons (tCall (sp_P_next_step K cs) [] E0 (tCons (tVar 2) (tCons (tVar 3) tNil))) tNil)))) (tSeq (tAsg (tVar 2) (gTup K 4 (gCons (gName 4) (gCons (gName 5) (gCons (gName 6) (gCons (gName 7) gNil)))))) (tRet (tTup (tCons (tVar 4) (tCons (tCall (sp_P_quotient K cs) [] E0 (tCons (tVar 0) (tCons (tVar 4) tNil))) (tCons (tCall (sp_P_quotient K cs) [] E0 (tCons (tVar 1) (tCons (tVar 4) tNil))) (tCons (tVar 5) (tCons (tVar 6) (tCons (tVar 7) tNil)))))))))))))
theorem all2_four {P1 P2 P3 P4 : V → Hp → Prop} {vs : List V} {H : Hp} (h : All2 [P1, P2, P3, P4] vs H) : ∃ v w u z, vs = [v, w, u, z] ∧ P1 v H ∧ P2 w H ∧ P3 u H ∧ P4 z H := by
  match vs, h with
  | [v, w, u, z], ⟨a, b, c, d, _⟩ => exact ⟨v, w, u, z, rfl, a, b, c, d⟩
theorem evp_callP {σ : L2.St} {H : Hp} {sp : Sp} {E : XK} {ta : TA} {Ps : List (V → Hp → Prop)} {P : V → Hp → Prop} (h : EvPs ta σ H Ps) (hs : ∀ vs H1, Ex H H1 → All2 Ps vs H1 → SpP sp vs H1 P) : EvP (tCall sp [] E ta) σ H P := fun H1 e Q q =>
  h H1 e _ fun vs H2 e2 hvs => by
    rw [List.append_nil]
    exact hs vs H2 (e.trans e2) hvs H2 (Ex.refl H2) Q (fun v H3 e3 hv => q v H3 (e2.trans e3) hv) E
theorem evp_tup6 {σ : L2.St} {H : Hp} {t0 t1 t2 t3 t4 t5 : TE} {x0 x3 x4 x5 : V} {xs ys : List V} (h0 : Ev t0 σ H x0) (h1 : EvL t1 σ H xs) (h2 : EvL t2 σ H ys) (h3 : Ev t3 σ H x3) (h4 : Ev t4 σ H x4) (h5 : Ev t5 σ H x5) :
    EvP (tTup (tCons t0 (tCons t1 (tCons t2 (tCons t3 (tCons t4 (tCons t5 tNil))))))) σ H (fun v H' => ∃ t p q, v = .ref t ∧ H' t = some (.tup [x0, .ref p, .ref q, x3, x4, x5]) ∧ H' p = some (.lst xs) ∧ H' q = some (.lst ys) ∧ H p = none ∧ H q = none ∧ p ≠ q) := fun H1 e Q k =>
  h0 H1 e _ fun H2 e2 => h1 H2 (e.trans e2) _ fun p H3 hp e3 w1 => h2 H3 ((e.trans e2).trans e3) _ fun q H4 hq e4 w2 => by
    have f4 := ((e.trans e2).trans e3).trans e4
    exact h3 H4 f4 _ fun H5 e5 => h4 H5 (f4.trans e5) _ fun H6 e6 => h5 H6 ((f4.trans e5).trans e6) _ fun H7 e7 => ⟨sz_of (by simp), fun t ht => by
      have f7 : Ex H4 (upd H7 t (.tup [x0, .ref p, .ref q, x3, x4, x5])) := (e5.trans e6).trans (e7.trans (Ex.new ht))
      exact k _ _ (((e2.trans e3).trans e4).trans f7) ⟨t, p, q, rfl, upd_same, f7 _ _ (e4 _ _ w1), f7 _ _ w2, fresh_back (e.trans e2) hp, fresh_back ((e.trans e2).trans e3) hq, fun z => by
        rw [z, hq] at w1
        cases w1⟩⟩
/-- last, now = now, what a call tells -/
theorem s_par {σ : L2.St} {H : Hp} {D : Ends} {ta tb : TE} {n1 n2 : Nat} {x : V} {P : V → Hp → Prop} (ha : Ev ta σ H x) (hb : EvP tb σ H P) (k : ∀ y H1, Ex H H1 → P y H1 → D.nx ((σ.set n1 (some x)).set n2 (some y)) H1) : tPar n1 n2 (tCons ta (tCons tb tNil)) D σ H :=
  ha H (Ex.refl H) _ fun H1 e1 => hb H1 e1 _ fun y H2 e2 hy => ⟨x, y, rfl, k y H2 (e1.trans e2) hy⟩
theorem of_zero {ns : List Int} (h : Nf ns) : Po.of ns = 0 ↔ ns = [] := ⟨fun e => Po.of_inj h nf_nil e, fun e => by rw [e]; rfl⟩
/-- two steps in the heap -/
structure MtH (H0 H : Hp) (t0 p0 q0 r0 t1 : Addr) (a b : Po) (N L i : Nat) (row0 u0 v0 : List Int) (n0 : Int) (row1 u1 v1 : List Int) (n1 : Int) : Prop where
  h0 : StpH H t0 p0 q0 r0 n0 row0 u0 v0
  fr : H0 p0 = none ∧ H0 q0 = none ∧ H0 r0 = none ∧ p0 ≠ q0 ∧ p0 ≠ r0 ∧ q0 ≠ r0
  h1 : StpP n1 row1 u1 v1 H0 (.ref t1) H
  I : MtI a b N L i row0 u0 v0 n0 row1 u1 v1 n1
  z : ∃ p bb K0 K1, MtZ N L row0 u0 v0 n0 row1 u1 v1 n1 p bb K0 K1
theorem run_P_meet {K : PySem.W.Frag} {cs : Cs} {vs : List V} {H : Hp} {Q : VK} {E : XK} {l : List Addr} (_ : Tx K cs.PolyError l) (_ : cs.ByNought ∈ l) (_ : cs.NotWhole ∈ l) (_ : cs.NoMeet ∈ l) (h : sp_P_meet K cs vs H Q E) : t_P_meet K cs E { nx := fun _ H' => Q .non H', rt := Q } (start ["ones", "others", "last", "now", "common", "left", "right", "many"] vs) H := by
  obtain ⟨a, b, ns, ms, N, L, e, rfl, A, h⟩ := h
  refine q_when (b := ns.isEmpty && ms.isEmpty) (et_is (et_and (et_not (et_truthL (ev_var rfl) A.sa)) fun _ => et_not (et_truthL (ev_var rfl) A.sb)) ?_) (fun hb H1 e1 => ?_) (fun hb H1 e1 => ?_)
  · rw [map_empty, map_empty, Bool.not_not, Bool.not_not]
  · rw [Bool.and_eq_true] at hb
    rcases h with ⟨_, _, h⟩ | ⟨h, _⟩
    · exact h H1 e1
    · exact absurd ⟨List.isEmpty_iff.mp hb.1, List.isEmpty_iff.mp hb.2⟩ h
  have hno : ¬(ns = [] ∧ ms = []) := fun z => by
    rw [z.1, z.2] at hb
    cases hb
  rcases h with ⟨h1, h2, _⟩ | ⟨_, q⟩
  · exact absurd ⟨h1, h2⟩ hno
  have la := A.la
  have lb := A.lb
  have hL := A.hL
  have hN := A.hN
  have n30 := A.n30
  have c1 : cont [(1 : Int)] = 1 := rfl
  refine q_asgP (P := StpP ((1 * scI ns).fdiv (shrI (1 * scI ns) [1] [])) (simpleI ns) (lessI (shrI (1 * scI ns) [1] []) [1]) (lessI (shrI (1 * scI ns) [1] []) []) H) (evp_callP (eps_V (ev_var rfl) (eps_l (el_lst (ea_cons ev_c ea_nil) (by simp)) (eps_l (el_lst ea_nil (by simp)) (eps_V ev_c eps_nil)))) fun vs H2 e2 hvs => ?_) fun v2 H2 e2 hv2 => ?_
  · obtain ⟨x, y, z, w, rfl, rfl, ⟨p, rfl, hp⟩, ⟨p', rfl, hp'⟩, rfl⟩ := all2_four hvs
    · intro H3 e3 Q3 q3 E3
      have LA : LstA K H2 a p p' 1 ns [1] [] 1 N := ⟨ex_l (e1.trans e2) A.sa, sq_of hp, sq_of hp', A.na, nf_one, nf_nil, by omega, by simp, by simp, .inl (by simp), by decide, cont_bound A.na A.xa, by omega⟩
      exact spp_P_least_step LA H3 e3 Q3 (fun v H4 e4 hv => q3 v H4 e4 (hv.back (e1.trans e2))) E3
  refine q_asgP (P := StpP ((1 * scI ms).fdiv (shrI (1 * scI ms) [] [1])) (simpleI ms) (lessI (shrI (1 * scI ms) [] [1]) []) (lessI (shrI (1 * scI ms) [] [1]) [1]) H) (evp_callP (eps_V (ev_var rfl) (eps_l (el_lst ea_nil (by simp)) (eps_l (el_lst (ea_cons ev_c ea_nil) (by simp)) (eps_V ev_c eps_nil)))) fun vs H3 e3 hvs => ?_) fun v3 H3 e3 hv3 => ?_
  · obtain ⟨x, y, z, w, rfl, rfl, ⟨p, rfl, hp⟩, ⟨p', rfl, hp'⟩, rfl⟩ := all2_four hvs
    · intro H4 e4 Q4 q4 E4
      have LA : LstA K H3 b p p' 1 ms [] [1] 1 N := ⟨ex_l ((e1.trans e2).trans e3) A.sb, sq_of hp, sq_of hp', A.nb, nf_nil, nf_one, by omega, by simp, by simp, .inr (by simp), by decide, cont_bound A.nb A.xb, by omega⟩
      exact spp_P_least_step LA H4 e4 Q4 (fun v H5 e5 hv => q4 v H5 e5 (hv.back ((e1.trans e2).trans e3))) E4
  obtain ⟨I0, Z0⟩ := MtI.init A.na A.nb A.la A.lb (show 1 ≤ N by omega) A.xa A.xb rfl rfl
  generalize (1 * scI ns).fdiv (shrI (1 * scI ns) [1] []) = n0 at *
  generalize (1 * scI ms).fdiv (shrI (1 * scI ms) [] [1]) = n1 at *
  generalize simpleI ns = row0 at *
  generalize simpleI ms = row1 at *
  generalize lessI (shrI (1 * scI ns) [1] []) [1] = u0 at *
  generalize lessI (shrI (1 * scI ns) [1] []) [] = w0 at *
  generalize lessI (shrI (1 * scI ms) [] [1]) [] = u1 at *
  generalize lessI (shrI (1 * scI ms) [] [1]) [1] = w1 at *
  obtain ⟨t0, p0, q0, r0, rfl, k0, f0⟩ := hv2
  obtain ⟨t1, p1, q1, r1, rfl, k1, f1⟩ := hv3
  have e13 := (e1.trans e2).trans e3
  obtain ⟨hh, hp, hd1, hd2, hsz⟩ := A.com
  have hne0 : ¬(Po.of ns = 0 ∧ Po.of ms = 0) := fun z => hno ⟨(of_zero A.na).mp z.1, (of_zero A.nb).mp z.2⟩
  refine q_while (fun u σ' H' => ∃ (t0 p0 q0 r0 t1 : Addr) (i : Nat) (row0 u0 v0 : List Int) (n0 : Int) (row1 u1 v1 : List Int) (n1 : Int), σ' = [some (.ref a), some (.ref b), some (.ref t0), some (.ref t1), none, none, none, none] ∧ Ex H H' ∧ MtH H H' t0 p0 q0 r0 t1 (Po.of ns) (Po.of ms) N L i row0 u0 v0 n0 row1 u1 v1 n1 ∧ u = row1.length) row1.length
    ⟨t0, p0, q0, r0, t1, 0, row0, u0, w0, n0, row1, u1, w1, n1, rfl, e13, ⟨k0.mono e3, f0, ⟨t1, p1, q1, r1, rfl, k1, f1⟩, I0, _, _, _, _, Z0⟩, rfl⟩ fun u σ' H4 hW => ?_
  clear I0 Z0 k0 k1 f0 f1
  obtain ⟨t0, p0, q0, r0, t1, i, row0, u0, v0, n0, row1, u1, v1, n1, rfl, e4, M, rfl⟩ := hW
  obtain ⟨t1', p1, q1, r1, et, k1, f1⟩ := M.h1
  cases et
  obtain ⟨p, bb, K0, K1, Z⟩ := M.z
  refine ⟨_, et_truthL (ev_ixT (j := 0) (ev_var rfl) ev_c k1.ht rfl rfl) (sq_of k1.hp), fun hb H5 e5 => ?_, fun hb H5 e5 => ?_⟩
  · have hne : row1 ≠ [] := nil_not (by simpa using hb)
    have hdv := M.I.s1.fwd hp hd1 hd2
    have hle := Po.sz_dvd hdv (fun z => hne ((of_zero M.I.s1.nr).mp z))
    rw [Po.sz_of' M.I.s1.nr] at hle
    have hB : bdI N (L + 1 - row1.length) ≤ 29000000 := Nat.le_trans (bd_mono (by omega)) A.bd
    refine ⟨fun σ2 H2 => ∃ (t0 p0 q0 r0 t1 : Addr) (i : Nat) (row0 u0 v0 : List Int) (n0 : Int) (row2 u1 v1 : List Int) (n1 : Int), σ2 = [some (.ref a), some (.ref b), some (.ref t0), some (.ref t1), none, none, none, none] ∧ Ex H H2 ∧ MtH H H2 t0 p0 q0 r0 t1 (Po.of ns) (Po.of ms) N L i row0 u0 v0 n0 row2 u1 v1 n1 ∧ row2.length < row1.length, fun σ2 H2 hN => ?_, ?_⟩
    · obtain ⟨t0, p0, q0, r0, t1, i, row0, u0, v0, n0, row2, u1, v1, n1, g1, g2, g3, g4⟩ := hN
      exact ⟨row2.length, g4, t0, p0, q0, r0, t1, i, row0, u0, v0, n0, row2, u1, v1, n1, g1, g2, g3, rfl⟩
    refine s_par (ev_var rfl) (evp_call (ea_cons (ev_var rfl) (ea_cons (ev_var rfl) ea_nil)) (spp_P_next_step ⟨M.h0.mono e5, k1.mono e5, M.I, Z, hne, n30, hL, hB⟩)) fun y H6 e6 hy => ?_
    obtain ⟨row2, u2, v2, n2, p', b', K0', K1', g1, g2, g3, g4⟩ := hy
    have e46 := e4.trans e5
    obtain ⟨t2, p2, q2, r2, rfl, g5, g6, g7, g8, g9⟩ := g1
    exact ⟨t1, p1, q1, r1, t2, i + 1, row1, u1, v1, n1, row2, u2, v2, n2, rfl, e46.trans e6, ⟨(k1.mono e5).mono e6, f1, ⟨t2, p2, q2, r2, rfl, g5, fresh_back e46 g6, fresh_back e46 g7, fresh_back e46 g8, g9⟩, g2, _, _, _, _, g3⟩, g4⟩
  · have hz : row1 = [] := nil_empty (by simpa using hb)
    obtain ⟨hr0, hsim, hn0, hda, hdb⟩ := M.I.done hz hne0
    have k0 := M.h0.mono e5
    refine q_unp4 (ev_var rfl) k0.ht fun H6 e6 => ?_
    have m0 := k0.mono e6
    have e46 := (e4.trans e5).trans e6
    have l0 := M.I.l0
    have hdv := M.I.s0.fwd hp hd1 hd2
    have hle := Po.sz_dvd hdv (fun z => hr0 ((of_zero M.I.s0.nr).mp z))
    rw [Po.sz_of' M.I.s0.nr] at hle
    have hB : bdI N (L + 1 - row0.length) ≤ 29000000 := Nat.le_trans (bd_mono (by omega)) A.bd
    have hK0 : K0 ≤ 87000010 := by
      rcases Z.st with ⟨_, _, z, _⟩ | ⟨_, z1, z2, _, z3⟩
      · omega
      · omega
    have gb : ∀ k, (cf row0 k).natAbs < 2 ^ (N + 140) := fun k => by
      rw [← Po.c_of]
      by_cases hn : ns = []
      · have hm : ms ≠ [] := fun z => hno ⟨hn, z⟩
        exact Po.fac_lt (fun z => hm ((of_zero A.nb).mp z)) (by rw [Po.sz_of' A.nb]; omega) (fun j => by rw [Po.c_of]; exact A.xb j) hdb k
      · exact Po.fac_lt (fun z => hn ((of_zero A.na).mp z)) (by rw [Po.sz_of' A.na]; omega) (fun j => by rw [Po.c_of]; exact A.xa j) hda k
    have cof : ∀ {l : List Int}, Nf l → l.length ≤ L → (∀ k, (cf l k).natAbs < 2 ^ N) → Po.of row0 ∣ Po.of l → ∃ s : List Int, Nf s ∧ Po.of l = Po.of row0 * Po.of s ∧ Ans (N + 140) s := fun {l} nl hl xl hd => by
      obtain ⟨c, hc⟩ := hd
      refine ⟨c.l, c.nf, by rw [Po.of_l]; exact hc, c.nf, ?_, fun k => ?_⟩
      · by_cases z : l = []
        · have : c = 0 := Classical.byContradiction fun h0 => Po.mul_ne hsim.ne h0 (by rw [← hc, z]; rfl)
          rw [this]
          show (Po.C 0).l.length ≤ 256
          decide
        · have h1 := Po.sz_dvd (a := c) (b := Po.of l) ⟨Po.of row0, by rw [hc]; grind⟩ (fun w => z ((of_zero nl).mp w))
          rw [Po.sz_of' nl] at h1
          show c.sz ≤ 256
          omega
      · show (c.c k).natAbs < _
        by_cases z : l = []
        · have : c = 0 := Classical.byContradiction fun h0 => Po.mul_ne hsim.ne h0 (by rw [← hc, z]; rfl)
          rw [this, Po.c_zero]
          exact two_le_pow _
        · exact Po.fac_lt (fun w => z ((of_zero nl).mp w)) (by rw [Po.sz_of' nl]; omega) (fun j => by rw [Po.c_of]; exact xl j) ⟨Po.of row0, by rw [hc]; grind⟩ k
    obtain ⟨sl, ns1, es, as⟩ := cof A.na A.la A.xa hda
    obtain ⟨tl, nt1, et, at_⟩ := cof A.nb A.lb A.xb hdb
    have dva : ∀ {x : Addr} {l : List Int}, SqL K H6 x (l.map V.int) → l.length ≤ L → Nf l → (∀ k, (cf l k).natAbs < 2 ^ N) → DivA K H6 x p0 l row0 N (N + 140) := fun {x l} s1 s2 s3 s4 => by
      have h1 : stepsI l row0 ≤ 15 := by unfold stepsI; omega
      have h2 := Nat.mul_le_mul_right (N + 140 + 1) h1
      exact ⟨s1, sq_of m0.hp, by omega, by omega, s3, M.I.s0.nr, s4, gb, by omega⟩
    have hi := M.I.il
    have hJ : 1 + i * (L + 1) ≤ 256 := by
      have h2 : i * (L + 1) ≤ 14 * 15 := Nat.mul_le_mul (by omega) (by omega)
      omega
    refine s_retP (evp_tup6 (ev_var rfl) (el_call (ea_cons (ev_var rfl) (ea_cons (ev_var rfl) ea_nil)) (sl_P_quotient' (dva (ex_l e46 A.sa) A.la A.na A.xa) hr0 ns1 (by rw [es]; grind))) (el_call (ea_cons (ev_var rfl) (ea_cons (ev_var rfl) ea_nil)) (sl_P_quotient' (dva (ex_l e46 A.sb) A.lb A.nb A.xb) hr0 nt1 (by rw [et]; grind))) (ev_var rfl) (ev_var rfl) (ev_var rfl)) fun v H7 e7 hv => ?_
    obtain ⟨t, x, y, rfl, g1, g2, g3, g4, g5, g6⟩ := hv
    obtain ⟨f1, f2, f3, f4, f5, f6⟩ := M.fr
    have old : ∀ {z : Addr} {o : HO}, H6 z = some o → z ≠ x ∧ z ≠ y := fun {z o} hz => by
      constructor
      · intro w
        rw [w, g4] at hz
        cases hz
      · intro w
        rw [w, g5] at hz
        cases hz
    have o1 := old m0.hp
    have o2 := old m0.hq
    have o3 := old m0.hr
    have lu0 := M.I.lu0
    have lv0 := M.I.lv0
    have m7 := m0.mono e7
    refine q.go (Ex.refl H) (e46.trans e7) ⟨t, p0, x, y, q0, r0, n0, row0, sl, tl, u0, v0, rfl, ⟨g1, m7.hp, g2, g3, m7.hq, m7.hr⟩, fun z hz => ?_, ?_, ⟨⟨M.I.s0.nr, by omega, gb⟩, as, at_, ⟨M.I.s0.nu, by omega, fun k => lt_pow_mono (Z.u0 k) hK0⟩, ⟨M.I.s0.nv, by omega, fun k => lt_pow_mono (Z.v0 k) hK0⟩, hsim, es, et, hn0, Nat.lt_of_lt_of_le Z.n0 (pow_mono2 hK0), M.I.s0.eq⟩⟩
    · simp only [List.mem_cons, List.not_mem_nil, or_false] at hz
      rcases hz with rfl | rfl | rfl | rfl | rfl
      · exact f1
      · exact fresh_back e46 g4
      · exact fresh_back e46 g5
      · exact f2
      · exact f3
    · simp only [List.nodup_cons, List.mem_cons, List.not_mem_nil, or_false, not_or, not_false_eq_true, List.nodup_nil, and_true]
      exact ⟨⟨o1.1, o1.2, f4, f5⟩, ⟨g6, fun w => o2.1 w.symm, fun w => o3.1 w.symm⟩, ⟨fun w => o2.2 w.symm, fun w => o3.2 w.symm⟩, f6⟩
theorem spp_P_meet {K : PySem.W.Frag} {cs : Cs} {H : Hp} {a b : Addr} {ns ms : List Int} {N L e : Nat} (h : MeetA K H a b ns ms N L e) (h0 : ¬(ns = [] ∧ ms = [])) : SpP (sp_P_meet K cs) [.ref a, .ref b] H (MeetP ns ms N H) := fun H1 x Q q E =>
  ⟨a, b, ns, ms, N, L, e, rfl, h.mono x, .inr ⟨h0, fun v H2 e2 hv => q v H2 e2 (hv.back x)⟩⟩
theorem MeetP.wide {ns ms : List Int} {N M : Nat} {H0 H : Hp} {x : V} (hNM : N ≤ M) (h : MeetP ns ms N H0 x H) : MeetP ns ms M H0 x H := by
  obtain ⟨tt, g, s, t, u, v, n, gl, sl, tl, ul, vl, h1, h2, h3, h4, h5⟩ := h
  exact ⟨tt, g, s, t, u, v, n, gl, sl, tl, ul, vl, h1, h2, h3, h4, { h5 with ag := h5.ag.wide (by omega), as := h5.as.wide (by omega), at_ := h5.at_.wide (by omega) }⟩
theorem spp_P_meetW {K : PySem.W.Frag} {cs : Cs} {H : Hp} {a b : Addr} {ns ms : List Int} {N L e : Nat} (M : Nat) (h : MeetA K H a b ns ms N L e) (h0 : ¬(ns = [] ∧ ms = [])) (hM : N ≤ M) : SpP (sp_P_meet K cs) [.ref a, .ref b] H (MeetP ns ms M H) := fun H1 x Q q E =>
  spp_P_meet h h0 H1 x Q (fun v H2 e2 hv => q v H2 e2 (hv.wide hM)) E
theorem com_one (ns ms : List Int) : ∃ h : Po, Po.Pr h ∧ h ∣ Po.of ns ∧ h ∣ Po.of ms ∧ 1 ≤ h.sz :=
  ⟨1, Po.pr_one, ⟨Po.of ns, by grind⟩, ⟨Po.of ms, by grind⟩, Nat.le_of_eq Po.sz_one.symm⟩

-- USES: P_meet P_slope P_minus P_signed_content
-- EXC: ByNought NotWhole NoMeet NoParts
/-! parts -/
/-- pairs of a row and a count: the values, the rows' addresses, what they are -/
def PrsH (H : Hp) : List V → List Addr → List (List Int × Nat) → Prop
  | [], [], [] => True
  | x :: xs, p :: ps, r :: rs => (∃ t, x = .ref t ∧ H t = some (.tup [.ref p, .int (r.2 : Int)]) ∧ H p = some (.lst (r.1.map V.int))) ∧ PrsH H xs ps rs
  | _, _, _ => False
theorem PrsH.mono {H H' : Hp} (e : Ex H H') : ∀ {xs : List V} {ps : List Addr} {rs : List (List Int × Nat)}, PrsH H xs ps rs → PrsH H' xs ps rs
  | [], [], [], _ => trivial
  | _ :: _, _ :: _, _ :: _, ⟨⟨t, h1, h2, h3⟩, h⟩ => ⟨⟨t, h1, e _ _ h2, e _ _ h3⟩, h.mono e⟩
  | [], [], _ :: _, h => h.elim
  | [], _ :: _, _, h => h.elim
  | _ :: _, [], _, h => h.elim
  | _ :: _, _ :: _, [], h => h.elim
theorem PrsH.len : ∀ {H : Hp} {xs : List V} {ps : List Addr} {rs : List (List Int × Nat)}, PrsH H xs ps rs → xs.length = rs.length ∧ ps.length = rs.length
  | _, [], [], [], _ => ⟨rfl, rfl⟩
  | _, _ :: _, _ :: _, _ :: _, ⟨_, h⟩ => by
    have := h.len
    simp [this.1, this.2]
  | _, [], [], _ :: _, h => h.elim
  | _, [], _ :: _, _, h => h.elim
  | _, _ :: _, [], _, h => h.elim
  | _, _ :: _, _ :: _, [], h => h.elim
theorem PrsH.snoc {H : Hp} {t p : Addr} {r : List Int × Nat} (h1 : H t = some (.tup [.ref p, .int (r.2 : Int)])) (h2 : H p = some (.lst (r.1.map V.int))) : ∀ {xs : List V} {ps : List Addr} {rs : List (List Int × Nat)}, PrsH H xs ps rs → PrsH H (xs ++ [.ref t]) (ps ++ [p]) (rs ++ [r])
  | [], [], [], _ => ⟨⟨t, rfl, h1, h2⟩, trivial⟩
  | _ :: _, _ :: _, _ :: _, ⟨a, h⟩ => ⟨a, h.snoc h1 h2⟩
  | [], [], _ :: _, h => h.elim
  | [], _ :: _, _, h => h.elim
  | _ :: _, [], _, h => h.elim
  | _ :: _, _ :: _, [], h => h.elim
theorem PrsH.get : ∀ {H : Hp} {xs : List V} {ps : List Addr} {rs : List (List Int × Nat)} {j : Nat}, PrsH H xs ps rs → j < rs.length → ∃ t p r, xs[j]? = some (.ref t) ∧ ps[j]? = some p ∧ rs[j]? = some r ∧ H t = some (.tup [.ref p, .int (r.2 : Int)]) ∧ H p = some (.lst (r.1.map V.int))
  | _, [], [], [], _, _, h => absurd h (Nat.not_lt_zero _)
  | _, _ :: _, p :: _, r :: _, 0, ⟨⟨t, h1, h2, h3⟩, _⟩, _ => ⟨t, p, r, by rw [h1]; rfl, rfl, rfl, h2, h3⟩
  | _, _ :: _, _ :: _, _ :: _, j + 1, ⟨_, h⟩, hj => h.get (j := j) (by simpa using hj)
  | _, [], [], _ :: _, _, h, _ => h.elim
  | _, [], _ :: _, _, _, h, _ => h.elim
  | _, _ :: _, [], _, _, h, _ => h.elim
  | _, _ :: _, _ :: _, [], _, h, _ => h.elim
theorem PrsH.mem : ∀ {H : Hp} {xs : List V} {ps : List Addr} {rs : List (List Int × Nat)} {p : Addr}, PrsH H xs ps rs → p ∈ ps → ∃ l, H p = some (.lst l)
  | _, [], [], [], _, _, h => absurd h (by simp)
  | _, _ :: _, q :: _, r :: _, p, ⟨⟨t, h1, h2, h3⟩, h⟩, hp => by
    rcases List.mem_cons.mp hp with e | hp
    · exact ⟨_, by rw [e]; exact h3⟩
    · exact h.mem hp
  | _, [], [], _ :: _, _, h, _ => h.elim
  | _, [], _ :: _, _, _, h, _ => h.elim
  | _, _ :: _, [], _, _, h, _ => h.elim
  | _, _ :: _, _ :: _, [], _, h, _ => h.elim
/-- a list changed that is none of them -/
theorem PrsH.put {H : Hp} {l : Addr} {ys zs : List V} (hl : H l = some (.lst ys)) : ∀ {xs : List V} {ps : List Addr} {rs : List (List Int × Nat)}, PrsH H xs ps rs → l ∉ ps → PrsH (upd H l (.lst zs)) xs ps rs
  | [], [], [], _, _ => trivial
  | _ :: _, p :: _, _ :: _, ⟨⟨t, h1, h2, h3⟩, h⟩, hm => ⟨⟨t, h1, by
      rw [upd_ne (fun e => by
        rw [e, hl] at h2
        cases h2)]
      exact h2, by
      rw [upd_ne (fun e => hm (by rw [e]; exact List.mem_cons_self))]
      exact h3⟩, h.put hl (fun z => hm (List.mem_cons_of_mem _ z))⟩
  | [], [], _ :: _, h, _ => h.elim
  | [], _ :: _, _, h, _ => h.elim
  | _ :: _, [], _, h, _ => h.elim
  | _ :: _, _ :: _, [], h, _ => h.elim
def poR (rows : List (List Int × Nat)) : List (Po × Nat) := rows.map fun r => (Po.of r.1, r.2)
structure PartsA (K : PySem.W.Frag) (H : Hp) (a : Addr) (ns : List Int) (N R : Nat) : Prop where
  sa : SqL K H a (ns.map V.int)
  na : Nf ns
  la : ns.length ≤ 13
  n30 : 30 ≤ N
  nN : N ≤ 5000
  xa : ∀ k, (cf ns k).natAbs < 2 ^ N
  rad : ns = [] ∨ ∃ r : Po, r ≠ 0 ∧ r.sz ≤ R ∧ ∀ P, Po.Ir P → 0 < Po.v P (Po.of ns) → 0 < Po.v P r
  bd : bdI (N + 4) R ≤ 29000000
theorem PartsA.mono {K : PySem.W.Frag} {H H' : Hp} {a : Addr} {ns : List Int} {N R : Nat} (h : PartsA K H a ns N R) (e : Ex H H') : PartsA K H' a ns N R := { h with sa := ex_l e h.sa }
/-- what parts tells of a row -/
structure ParOk (ns : List Int) (N : Nat) (rows : List (List Int × Nat)) : Prop where
  p : Po.IsParts (Po.of ns) (scI ns) (poR rows)
  nf : ∀ r ∈ rows, Nf r.1
  len : ∀ r ∈ rows, r.1.length ≤ ns.length
  lt : ∀ r ∈ rows, ∀ k, (cf r.1 k).natAbs < 2 ^ (N + 140)
def ParP (ns : List Int) (N : Nat) (H0 : Hp) : V → Hp → Prop := fun v H => ∃ (t l : Addr) (xs : List V) (ps : List Addr) (rows : List (List Int × Nat)), v = .ref t ∧ H t = some (.tup [.int (scI ns), .ref l]) ∧ H l = some (.lst xs) ∧ H0 l = none ∧ PrsH H xs ps rows ∧ (∀ p ∈ ps, H0 p = none) ∧ l ∉ ps ∧ ps.Nodup ∧ ParOk ns N rows
theorem ParP.back {ns : List Int} {N : Nat} {H0 H1 H : Hp} {v : V} (e : Ex H0 H1) (h : ParP ns N H1 v H) : ParP ns N H0 v H := by
  obtain ⟨t, l, xs, ps, rows, h1, h2, h3, h4, h5, h6, h7⟩ := h
  exact ⟨t, l, xs, ps, rows, h1, h2, h3, fresh_back e h4, h5, fun p hp => fresh_back e (h6 p hp), h7⟩
def sp_P_parts (K : PySem.W.Frag) (cs : Cs) : Sp := fun vs H Q E => ∃ (a : Addr) (ns : List Int) (N R : Nat), vs = [.ref a] ∧ PartsA K H a ns N R ∧ ((ns = [] ∧ ∀ H', Ex H H' → E (.ref cs.NoParts) none H') ∨ (ns ≠ [] ∧ RetP (ParP ns N H) H Q))
def t_P_parts (K : PySem.W.Frag) (cs : Cs) (E : XK) : TS :=
  (tSeq (tIfS (tNot (tTruth K (tVar 0))) (tRaiseC cs.NoParts (wOf E)) tNext) (tSeq (tAsg (tSl (rSlT K) (tCall (sp_P_meet K cs) [] E0 (tCons (tVar 0) (tCons (tCall (sp_P_slope K) [] E0 (tCons (tVar 0) tNil)) tNil))) (tPart (tC (.int 1))) (tPart (tC (.int 3)))) (gTup K 2 (gCons (gName 1) (gCons (gName 2) gNil)))) (tSeq (tAsg (tLst tNil) (gName 3)) (tSeq (tAsg (tC (.int 0)) (gName 4)) (tSeq (tWhile (tTest (tOp oGt (tCB (rLenS K) (tCons (tVar 1) tNil)) (tC (.int 1)))) (tSeq (tAug 4 (tC (.int 1)) (ipI fun i j => i + j)) (tSeq (tAsg (tSl (rSlT K) (tCall (sp_P_meet K cs) [] E0 (tCons (tVar 1) (tCons (tCall (sp_P_minus K) [] E0 (tCons (tVar 2) (tCons (tCall (sp_P_slope K) [] E0 (tCons (tVar 1) tNil)) tNil))) tNil))) tNoPart (tPart (tC (.int 3)))) (gTup K 3 (gCons (gName 5) (gCons (gName 1) (gCons (gName 2) gNil))))) (tIfS (tTest (tOp oGt (tCB (rLenS K) (tCons (tVar 5) tNil)) (tC (.int 1)))) (tDrop (tBM K "list" rAppend (tVar 3) (tCons (tTup (tCons (tVar 5) (tCons (tVar 4) tNil))) tNil))) tNext)))) (tRet (tTup (tCons (tCall (sp_P_signed_content K) [] E0 (tCons (tVar 0) tNil)) (tCons (tVar 3) tNil)))))))))
theorem q_unSl2 {K : PySem.W.Frag} {σ : L2.St} {H : Hp} {D : Ends} {tz : TS} {te : TE} {n1 n2 : Nat} {P : V → Hp → Prop} {lo hi : Option Int} {tl th : TO} (h : EvP te σ H P) (h1 : ∀ H1, Ex H H1 → EvO tl σ H1 lo) (h2 : ∀ H1, Ex H H1 → EvO th σ H1 hi)
    (k : ∀ v H1, Ex H H1 → P v H1 → ∃ (t : Addr) (vs : List V) (x y : V), v = .ref t ∧ H1 t = some (.tup vs) ∧ ¬(HT.sIx vs.length 0 lo = 0 ∧ HT.sIx vs.length vs.length hi = vs.length) ∧ cutV vs lo hi = [x, y] ∧ ∀ H2, Ex H1 H2 → tz D ((σ.set n1 (some x)).set n2 (some y)) H2) :
    tSeq (tAsg (tSl (rSlT K) te tl th) (gTup K 2 (gCons (gName n1) (gCons (gName n2) gNil)))) tz D σ H := h H (Ex.refl H) _ fun v H1 e1 hv => by
  obtain ⟨t, vs, x, y, rfl, ht, hw, hc, g⟩ := k v H1 e1 hv
  refine h1 H1 e1 H1 (Ex.refl _) _ fun H2 e2 => h2 H1 e1 H2 e2 _ fun H3 e3 => ⟨t, vs, rfl, st_of ((e2.trans e3) _ _ ht), hw, fun p hp => ?_⟩
  rw [hc]
  exact ⟨p, _, rfl, .inl (.inl upd_same), rfl, x, _, rfl, y, _, rfl, rfl, g _ ((e2.trans e3).trans (Ex.new hp))⟩
theorem q_unSl3 {K : PySem.W.Frag} {σ : L2.St} {H : Hp} {D : Ends} {tz : TS} {te : TE} {n1 n2 n3 : Nat} {P : V → Hp → Prop} {lo hi : Option Int} {tl th : TO} (h : EvP te σ H P) (h1 : ∀ H1, Ex H H1 → EvO tl σ H1 lo) (h2 : ∀ H1, Ex H H1 → EvO th σ H1 hi)
    (k : ∀ v H1, Ex H H1 → P v H1 → ∃ (t : Addr) (vs : List V) (x y z : V), v = .ref t ∧ H1 t = some (.tup vs) ∧ ¬(HT.sIx vs.length 0 lo = 0 ∧ HT.sIx vs.length vs.length hi = vs.length) ∧ cutV vs lo hi = [x, y, z] ∧ ∀ H2, Ex H1 H2 → tz D (((σ.set n1 (some x)).set n2 (some y)).set n3 (some z)) H2) :
    tSeq (tAsg (tSl (rSlT K) te tl th) (gTup K 3 (gCons (gName n1) (gCons (gName n2) (gCons (gName n3) gNil))))) tz D σ H := h H (Ex.refl H) _ fun v H1 e1 hv => by
  obtain ⟨t, vs, x, y, z, rfl, ht, hw, hc, g⟩ := k v H1 e1 hv
  refine h1 H1 e1 H1 (Ex.refl _) _ fun H2 e2 => h2 H1 e1 H2 e2 _ fun H3 e3 => ⟨t, vs, rfl, st_of ((e2.trans e3) _ _ ht), hw, fun p hp => ?_⟩
  rw [hc]
  exact ⟨p, _, rfl, .inl (.inl upd_same), rfl, x, _, rfl, y, _, rfl, z, _, rfl, rfl, g _ ((e2.trans e3).trans (Ex.new hp))⟩
theorem bd_three (V : Nat) (hV : 1 ≤ V) : ∀ k : Nat, bdI V k ≤ 3 ^ k * V
  | 0 => by
    show V ≤ 3 ^ 0 * V
    omega
  | k + 1 => by
    have h1 := bd_three V hV k
    have h2 : 1 ≤ bdI V k := Nat.le_trans hV (bd_V k)
    show (5 * bdI V k + 1) / 2 ≤ 3 ^ (k + 1) * V
    rw [Nat.pow_succ, Nat.mul_comm (3 ^ k) 3, Nat.mul_assoc]
    omega
theorem eo_of {σ : L2.St} {te : TE} {i : Int} {H : Hp} (h : ∀ H1, Ex H H1 → Ev te σ H1 (.int i)) : ∀ H1, Ex H H1 → EvO (tPart te) σ H1 (some i) := fun H1 e => eo_some (h H1 e)
/-- the loop of parts -/
structure ParI (H0 H : Hp) (ns : List Int) (N i : Nat) (lw lt lr : Addr) (wl tl : List Int) (xs : List V) (ps : List Addr) (rows : List (List Int × Nat)) : Prop where
  hw : H lw = some (.lst (wl.map V.int))
  ht : H lt = some (.lst (tl.map V.int))
  hr : H lr = some (.lst xs)
  fr : H0 lr = none
  pr : PrsH H xs ps rows
  fp : ∀ p ∈ ps, H0 p = none
  lp : lr ∉ ps
  nd : ps.Nodup
  nw : Nf wl
  nt : Nf tl
  Y : Po.YunS (Po.of ns) i (Po.of wl) (Po.of tl) (poR rows)
  tb : ∀ k, (cf tl k).natAbs < 2 ^ (N + 144 + 141 * i)
  nf : ∀ r ∈ rows, Nf r.1
  len : ∀ r ∈ rows, r.1.length ≤ ns.length
  lt : ∀ r ∈ rows, ∀ k, (cf r.1 k).natAbs < 2 ^ (N + 140)
theorem ParI.mono {H0 H H' : Hp} {ns : List Int} {N i : Nat} {lw lt lr : Addr} {wl tl : List Int} {xs : List V} {ps : List Addr} {rows : List (List Int × Nat)} (h : ParI H0 H ns N i lw lt lr wl tl xs ps rows) (e : Ex H H') : ParI H0 H' ns N i lw lt lr wl tl xs ps rows := { h with hw := e _ _ h.hw, ht := e _ _ h.ht, hr := e _ _ h.hr, pr := h.pr.mono e }
theorem len_pos_sz {l : List Int} (h : Nf l) : (Po.of l).sz = l.length := Po.sz_of' h
/-- the meeting of a row with its slope -/
theorem PartsA.meetA {K : PySem.W.Frag} {H : Hp} {a : Addr} {ns : List Int} {N R : Nat} (A : PartsA K H a ns N R) (h0 : ns ≠ []) {H2 : Hp} {p : Addr} (e2 : Ex H H2) (hp : H2 p = some (.lst ((slopeI ns).map V.int))) : ∃ L e, MeetA K H2 a p ns (slopeI ns) (N + 4) L e := by
  have la := A.la
  have n30 := A.n30
  have nN := A.nN
  have hf : Po.of ns ≠ 0 := fun z => h0 ((of_zero A.na).mp z)
  have hfs := len_pos_sz A.na
  have xD : ∀ k, (cf (slopeI ns) k).natAbs < 2 ^ (N + 4) := slope_lt (by omega) A.xa
  obtain ⟨rr, rr0, rrs, rrv⟩ := A.rad.resolve_left h0
  obtain ⟨g, s, t, x, y, m, hg, g1, g2, g3, g4⟩ := Po.bez _ (Po.of ns) (Po.of (slopeI ns)) (Nat.le_refl _) (.inl hf)
  rw [of_slope] at g2 g4
  have Y := Po.yun_init hf hg g1 g2 g3 g4
  have h1 := Y.rad rr0 rrv
  have hs := Po.sz_mul hg.ne Y.wn
  rw [← g1] at hs
  have hs1 := Po.sz_pos hg.ne
  have hs2 := Po.sz_pos Y.wn
  refine ⟨ns.length, g.sz, ex_l e2 A.sa, sq_of hp, Nat.le_refl _, by rw [slope_len]; omega, by omega, A.na, slope_nf A.na, by omega, by omega, fun k => lt_pow_mono (A.xa k) (by omega), xD, ⟨g, hg.1, ⟨s, g1⟩, ⟨t, by rw [of_slope]; exact g2⟩, Nat.le_refl _⟩, ?_⟩
  rw [show ns.length + 1 - g.sz = s.sz by omega]
  exact Nat.le_trans (bd_mono (by omega)) A.bd
theorem run_P_parts {K : PySem.W.Frag} {cs : Cs} {vs : List V} {H : Hp} {Q : VK} {E : XK} {l : List Addr} (_ : Tx K cs.PolyError l) (_ : cs.ByNought ∈ l) (_ : cs.NotWhole ∈ l) (_ : cs.NoMeet ∈ l) (_ : cs.NoParts ∈ l) (h : sp_P_parts K cs vs H Q E) : t_P_parts K cs E { nx := fun _ H' => Q .non H', rt := Q } (start ["row", "left", "turned", "rows", "many", "part"] vs) H := by
  obtain ⟨a, ns, N, R, rfl, A, h⟩ := h
  refine q_when (et_not (et_truthL (ev_var rfl) A.sa)) (fun hb H1 e1 => ?_) (fun hb H1 e1 => ?_)
  · rcases h with ⟨_, h⟩ | ⟨h0, _⟩
    · exact h H1 e1
    · exact absurd (nil_empty (by simpa using hb)) h0
  have h0 : ns ≠ [] := nil_not (by simpa using hb)
  rcases h with ⟨h, _⟩ | ⟨_, q⟩
  · exact absurd h h0
  have la := A.la
  have n30 := A.n30
  have nN := A.nN
  have hf : Po.of ns ≠ 0 := fun z => h0 ((of_zero A.na).mp z)
  have hfs := len_pos_sz A.na
  refine q_unSl2 (P := MeetP ns (slopeI ns) (N + 4) H1) (lo := some 1) (hi := some 3) (evp_callP (eps_V (ev_var rfl) (eps_l (el_call (ea_cons (ev_var rfl) ea_nil) (sl_P_slope N (ex_l e1 A.sa) (by omega) (mem_cf A.xa) (by omega))) eps_nil)) fun vs H2 e2 hvs => ?_) (eo_of fun H2 e2 => ev_c) (eo_of fun H2 e2 => ev_c) fun v H2 e2 hv => ?_
  · obtain ⟨v, w, rfl, rfl, p, rfl, hp⟩ := all2_two hvs
    obtain ⟨L, e, hA⟩ := A.meetA h0 (e1.trans e2) hp
    exact fun H3 e3 Q3 q3 E3 => spp_P_meet hA (fun z => h0 z.1) H3 e3 Q3 (fun v H4 e4 hv => q3 v H4 e4 (hv.back e2)) E3
  obtain ⟨tt, g, s, t, u, v, n, gl, sl, tl, ul, vl, rfl, mh, mfr, mnd, mok⟩ := hv
  refine ⟨tt, _, .ref s, .ref t, rfl, mh.ht, (by show ¬(HT.sIx 6 0 (some 1) = 0 ∧ HT.sIx 6 6 (some 3) = 6); decide), rfl, fun H3 e3 => ?_⟩
  have m3 := mh.mono e3
  refine q_asgL (el_lst ea_nil (by simp)) fun lr H4 nlr e4 hlr => q_asg ev_c fun H5 e5 => ?_
  have e2' := mok.e2
  have e3' := mok.e3
  rw [of_slope] at e2' e3'
  have Y0 := Po.yun_init hf mok.sim mok.e1 e2' (by have := mok.n1; omega) e3'
  have e13 := (e1.trans e2).trans e3
  have m5 := (m3.mono e4).mono e5
  refine q_while (fun m σ' H' => ∃ (i : Nat) (lw lt lr : Addr) (wl tl : List Int) (xs : List V) (ps : List Addr) (rows : List (List Int × Nat)) (y5 : Option V), σ' = [some (.ref a), some (.ref lw), some (.ref lt), some (.ref lr), some (.int (i : Int)), y5] ∧ Ex H H' ∧ ParI H H' ns N i lw lt lr wl tl xs ps rows ∧ m = ns.length - i) (ns.length - 0)
    ⟨0, s, t, lr, sl, tl, [], [], [], none, rfl, (e13.trans e4).trans e5, ⟨m5.hs, m5.htt, e5 _ _ hlr, fresh_back e13 nlr, trivial, fun p hp => absurd hp (by simp), by simp, List.nodup_nil, mok.as.nf, mok.at_.nf, Y0, mok.at_.lt, fun r hr => absurd hr (by simp), fun r hr => absurd hr (by simp), fun r hr => absurd hr (by simp)⟩, rfl⟩ fun m σ' H6 hW => ?_
  clear Y0 m5 m3 hlr nlr e3' e2' mok mnd mfr mh e4 e5 e13
  obtain ⟨i, lw, lt, lr, wl, tl, xs, ps, rows, y5, rfl, e6, I, hm⟩ := hW
  have hws := len_pos_sz I.nw
  refine ⟨_, et_test (ev_gt (ev_len (ev_var rfl) (sq_of (K := K) I.hw)) ev_c), fun hb H7 e7 => ?_, fun hb H7 e7 => ?_⟩
  · have hl1 : 1 < wl.length := by
      have := of_decide_eq_true hb
      rw [List.length_map] at this
      omega
    have hmore := I.Y.more hf (by omega)
    have hwl : wl ≠ [] := fun z => by
      rw [z] at hl1
      exact absurd hl1 (by decide)
    have I7 := I.mono e7
    have hwle : wl.length ≤ 13 := by
      have := Po.sz_dvd I.Y.wf hf
      omega
    have hwb : ∀ k, (cf wl k).natAbs < 2 ^ (N + 140) := fun k => by
      rw [← Po.c_of]
      exact Po.fac_lt hf (by omega) (fun j => by rw [Po.c_of]; exact A.xa j) I.Y.wf k
    have hts := I.Y.ts
    rw [len_pos_sz I.nt, hws] at hts
    refine ⟨fun σ2 H2 => ∃ (lw lt lr : Addr) (wl tl : List Int) (xs : List V) (ps : List Addr) (rows : List (List Int × Nat)) (y5 : Option V), σ2 = [some (.ref a), some (.ref lw), some (.ref lt), some (.ref lr), some (.int ((i + 1 : Nat) : Int)), y5] ∧ Ex H H2 ∧ ParI H H2 ns N (i + 1) lw lt lr wl tl xs ps rows, fun σ2 H2 hN => ?_, ?_⟩
    · obtain ⟨lw, lt, lr, wl, tl, xs, ps, rows, y5, g1, g2, g3⟩ := hN
      exact ⟨ns.length - (i + 1), by omega, i + 1, lw, lt, lr, wl, tl, xs, ps, rows, y5, g1, g2, g3, rfl⟩
    refine q_aug (a := (i : Int)) rfl ev_c fun H8 e8 => ?_
    have I8 := I7.mono e8
    have hdl : (minusI tl (slopeI wl)).length ≤ wl.length := by
      have := minus_len tl (slopeI wl)
      rw [slope_len] at this
      omega
    have hdb : ∀ k, (cf (minusI tl (slopeI wl)) k).natAbs < 2 ^ (N + 145 + 141 * i) := fun k => by
      rw [cf_minus]
      rw [show N + 145 + 141 * i = N + 144 + 141 * i + 1 by omega]
      exact sub_lt_pow (I.tb k) (lt_pow_mono (slope_lt (by omega) hwb k) (by omega))
    have hod : Po.of (minusI tl (slopeI wl)) = Po.of tl - Po.D (Po.of wl) := by rw [Po.of_minusI, of_slope]
    have hmA : ∀ {H9 : Hp} {p : Addr}, Ex H8 H9 → H9 p = some (.lst ((minusI tl (slopeI wl)).map V.int)) → ∃ e, MeetA K H9 lw p wl (minusI tl (slopeI wl)) (N + 145 + 141 * i) wl.length e := fun {H9 p} e9 hp => by
      obtain ⟨g, s, t, x, y, m, hg, g1, g2, g3, g4⟩ := Po.bez _ (Po.of wl) (Po.of (minusI tl (slopeI wl))) (Nat.le_refl _) (.inl I.Y.wn)
      rw [hod] at g2 g4
      have Y2 := (I.Y.step hg g1 g2 g3 g4 hf).1
      have h7 := Y2.half hf
      have hs := Po.sz_mul hg.ne Y2.wn
      rw [← g1] at hs
      have hs1 := Po.sz_pos hg.ne
      have hs2 := Po.sz_pos Y2.wn
      refine ⟨g.sz, sq_of (e9 _ _ I8.hw), sq_of hp, Nat.le_refl _, hdl, by omega, I.nw, nf_trim _, by omega, by omega, fun k => lt_pow_mono (hwb k) (by omega), hdb, ⟨g, hg.1, ⟨s, g1⟩, ⟨t, by rw [hod]; exact g2⟩, Nat.le_refl _⟩, ?_⟩
      refine Nat.le_trans (bd_mono (k := wl.length + 1 - g.sz) (j := 7) (by omega)) (Nat.le_trans (bd_three _ (by omega) 7) ?_)
      omega
    refine q_unSl3 (P := MeetP wl (minusI tl (slopeI wl)) (N + 145 + 141 * i) H8) (lo := none) (hi := some 3) (evp_callP (eps_V (ev_var rfl) (eps_l (el_call2 (evp_at (ev_var rfl) I8.ht) (evp_l (el_call (ea_cons (ev_var rfl) ea_nil) (sl_P_slope (N + 140) (sq_of I8.hw) (by omega) (mem_cf hwb) (by omega)))) fun a1 b1 H9 e9 h1 h2 => sl_P_minus (sq_of h1) (sq_of h2) (by omega) (by rw [slope_len]; omega)) eps_nil)) fun vs H9 e9 hvs => ?_) (fun H9 e9 => eo_none) (eo_of fun H9 e9 => ev_c) fun v H9 e9 hv => ?_
    · obtain ⟨v, w, rfl, rfl, p, rfl, hp⟩ := all2_two hvs
      obtain ⟨e, hA⟩ := hmA e9 hp
      exact fun H3 e3 Q3 q3 E3 => spp_P_meet hA (fun z => hwl z.1) H3 e3 Q3 (fun v H4 e4 hv => q3 v H4 e4 (hv.back e9)) E3
    obtain ⟨tt, g, s, t, u, v, n, gl, sl, tl2, ul, vl, rfl, mh, mfr, mnd, mok⟩ := hv
    refine ⟨tt, _, .ref g, .ref s, .ref t, rfl, mh.ht, (by show ¬(HT.sIx 6 0 none = 0 ∧ HT.sIx 6 6 (some 3) = 6); decide), rfl, fun H10 e10 => ?_⟩
    have m10 := mh.mono e10
    have g2 := mok.e2
    have g3 := mok.e3
    rw [hod] at g2 g3
    obtain ⟨Y2, hgv⟩ := I.Y.step mok.sim mok.e1 g2 (by have := mok.n1; omega) g3 hf
    have e68 := (e6.trans e7).trans e8
    have I10 := (I8.mono e9).mono e10
    have hgf : Po.of gl ∣ Po.of ns := Po.dvd_tr ⟨Po.of sl, mok.e1⟩ I.Y.wf
    have hgb : ∀ k, (cf gl k).natAbs < 2 ^ (N + 140) := fun k => by
      rw [← Po.c_of]
      exact Po.fac_lt hf (by omega) (fun j => by rw [Po.c_of]; exact A.xa j) hgf k
    have hgl := len_pos_sz mok.ag.nf
    have hgs := Po.sz_dvd hgf hf
    have fr8 : ∀ p ∈ [g, s, t, u, v], H8 p = none := mfr
    have ng := fr8 g (by simp)
    have ne_of : ∀ {p q : Addr} {o : HO}, H8 p = some o → H8 q = none → q ≠ p := fun {p q o} h1 h2 z => by
      rw [z, h1] at h2
      cases h2
    have nsr := ne_of I8.hr (fr8 s (by simp))
    have ntr := ne_of I8.hr (fr8 t (by simp))
    have ngr := ne_of I8.hr ng
    have tb2 : ∀ k, (cf tl2 k).natAbs < 2 ^ (N + 144 + 141 * (i + 1)) := fun k => lt_pow_mono (mok.at_.lt k) (by omega)
    refine s_when (et_test (ev_gt (ev_len (ev_var rfl) (sq_of (K := K) m10.hg)) ev_c)) (fun hb H11 e11 => ?_) (fun hb H11 e11 => ?_)
    · have hlen : 1 < gl.length := by
        have := of_decide_eq_true hb
        rw [List.length_map] at this
        omega
      have I11 := I10.mono e11
      have hxl := I.pr.len
      have hrl : rows.length ≤ i := by
        have h1 := I.Y.row
        have h2 := I.Y.up
        have key : ∀ (l : List (Po × Nat)) (b : Nat), l.Pairwise (fun a b => a.2 < b.2) → (∀ r ∈ l, b ≤ r.2 ∧ r.2 ≤ i) → b ≤ i + 1 → l.length + b ≤ i + 1 := fun l => by
          induction l with
          | nil => intro b _ _ h; simpa using h
          | cons r l ih =>
            intro b hp hr hb
            rw [List.pairwise_cons] at hp
            have h3 := hr r List.mem_cons_self
            have := ih (r.2 + 1) hp.2 (fun q hq => ⟨hp.1 q hq, (hr q (List.mem_cons_of_mem _ hq)).2⟩) (by omega)
            simp
            omega
        have := key (poR rows) 1 h2 (fun r hr => ⟨(h1 r hr).2.2.1, (h1 r hr).2.2.2.1⟩) (by omega)
        unfold poR at this
        rw [List.length_map] at this
        omega
      refine s_appU I11.hr (ev_var rfl) (eu_tup (ea_cons (ev_var rfl) (ea_cons (ev_var rfl) ea_nil)) (by simp)) (by omega) fun tp H12 ntp e12 htp => ?_
      have m12 := (m10.mono e11).mono e12
      have I12 := I11.mono e12
      have eH := (((e68.trans e9).trans e10).trans e11).trans e12
      have hgn : g ∉ ps := fun hm => by
        obtain ⟨l, hl⟩ := I8.pr.mem hm
        rw [ng] at hl
        cases hl
      have hpr : PrsH H12 (xs ++ [.ref tp]) (ps ++ [g]) (rows ++ [(gl, i + 1)]) := I12.pr.snoc (r := (gl, i + 1)) htp m12.hg
      have hlp : lr ∉ ps ++ [g] := fun hm => by
        rcases List.mem_append.mp hm with hm | hm
        · exact I.lp hm
        · simp only [List.mem_singleton] at hm
          exact ngr hm.symm
      have hput : Ex H (upd H12 lr (.lst (xs ++ [.ref tp]))) := Ex.mut eH I.fr
      refine ⟨s, t, lr, sl, tl2, xs ++ [.ref tp], ps ++ [g], rows ++ [(gl, i + 1)], some (.ref g), rfl, hput, ⟨?_, ?_, upd_same, I.fr, hpr.put I12.hr hlp, fun p hp => ?_, hlp, ?_, mok.as.nf, mok.at_.nf, ?_, tb2, fun r hr => ?_, fun r hr => ?_, fun r hr => ?_⟩⟩
      · rw [upd_ne nsr]
        exact m12.hs
      · rw [upd_ne ntr]
        exact m12.htt
      · rcases List.mem_append.mp hp with hp | hp
        · exact I.fp p hp
        · simp only [List.mem_singleton] at hp
          rw [hp]
          exact fresh_back e68 ng
      · exact List.nodup_append.mpr ⟨I.nd, by simp, fun x hx y hy => by
          simp only [List.mem_singleton] at hy
          intro z
          exact hgn (by rw [← hy, ← z]; exact hx)⟩
      · have h1 := Y2
        rw [if_pos (by omega)] at h1
        show Po.YunS _ _ _ _ ((rows ++ [(gl, i + 1)]).map fun r => (Po.of r.1, r.2))
        rw [List.map_append]
        exact h1
      · rcases List.mem_append.mp hr with hr | hr
        · exact I.nf r hr
        · simp only [List.mem_singleton] at hr
          rw [hr]
          exact mok.ag.nf
      · rcases List.mem_append.mp hr with hr | hr
        · exact I.len r hr
        · simp only [List.mem_singleton] at hr
          rw [hr]
          show gl.length ≤ ns.length
          omega
      · rcases List.mem_append.mp hr with hr | hr
        · exact I.lt r hr
        · simp only [List.mem_singleton] at hr
          rw [hr]
          exact hgb
    · have hlen : ¬ 1 < gl.length := by
        have := of_decide_eq_false hb
        rw [List.length_map] at this
        omega
      rw [if_neg (by omega), List.append_nil] at Y2
      have I11 := I10.mono e11
      have m11 := m10.mono e11
      exact ⟨s, t, lr, sl, tl2, xs, ps, rows, some (.ref g), rfl, ((e68.trans e9).trans e10).trans e11, ⟨m11.hs, m11.htt, I11.hr, I.fr, I11.pr, I.fp, I.lp, I.nd, mok.as.nf, mok.at_.nf, Y2, tb2, I.nf, I.len, I.lt⟩⟩
  · have hl1 : wl.length ≤ 1 := by
      have := of_decide_eq_false hb
      rw [List.length_map] at this
      omega
    have hok := I.Y.done (by omega) ((sc_ne A.na).resolve_left h0) (simple_sim A.na h0).1 (of_simple A.na)
    have I7 := I.mono e7
    refine s_retP (evp_tup2 (ev_call (ea_cons (ev_var rfl) ea_nil) (sv_P_signed_content (ex_l (e6.trans e7) A.sa))) (ev_var rfl)) fun v H8 e8 hv => ?_
    obtain ⟨t, rfl, ht⟩ := hv
    have I8 := I7.mono e8
    exact q.go (Ex.refl H) ((e6.trans e7).trans e8) ⟨t, lr, xs, ps, rows, rfl, ht, I8.hr, I.fr, I8.pr, I.fp, I.lp, I.nd, ⟨hok, I.nf, I.len, I.lt⟩⟩
theorem spp_P_parts {K : PySem.W.Frag} {cs : Cs} {H : Hp} {a : Addr} {ns : List Int} {N R : Nat} (h : PartsA K H a ns N R) (h0 : ns ≠ []) : SpP (sp_P_parts K cs) [.ref a] H (ParP ns N H) := fun H1 e Q q E =>
  ⟨a, ns, N, R, rfl, h.mono e, .inr ⟨h0, fun v H2 e2 hv => q v H2 e2 (hv.back e)⟩⟩

/-! _law_whole: of an int, True -/
def sp_L_whole (K : PySem.W.Frag) : Sp := fun vs H Q _ => ∃ i : Int, vs = [.int i] ∧ RetV (.bl true) H Q
def t_L_whole (K : PySem.W.Frag) : TS :=
  (tRet (tAndV (tCB (rIsi K) (tCons (tVar 0) (tCons (tC (.ty "int")) tNil))) (tNotV (tCB (rIsi K) (tCons (tVar 0) (tCons (tC (.ty "bool")) tNil))))))
theorem run_L_whole {K : PySem.W.Frag} {vs : List V} {H : Hp} {Q : VK} {E : XK} (h : sp_L_whole K vs H Q E) : t_L_whole K { nx := fun _ H' => Q .non H', rt := Q } (start ["_law_found"] vs) H := by
  obtain ⟨i, rfl, q⟩ := h
  refine s_ret (v := .bl true) (ev_is (ev_andV (a := true) (b := true) ?_ fun _ => ?_) rfl) q
  · exact ev_isinst (ev_var rfl) ty_int (by decide +kernel)
  · exact ev_is (ev_notV (a := false) (ev_isinst (ev_var rfl) ty_int (by decide +kernel))) rfl
theorem sv_L_whole {K : PySem.W.Frag} {H : Hp} (i : Int) : SpV (sp_L_whole K) [.int i] H (.bl true) := fun H1 e Q q E => ⟨i, rfl, q⟩

/-! _law_cell_at -/
def sp_L_cell_at (K : PySem.W.Frag) : Sp := fun vs H Q _ => ∃ (a : Addr) (ns : List Int) (j : Nat), vs = [.ref a, .int (j : Int)] ∧ SqL K H a (ns.map V.int) ∧ RetV (.int (cellI ns j)) H Q
def t_L_cell_at (K : PySem.W.Frag) : TS :=
  (tSeq (tIfS (tTest (tOp oLt (tVar 1) (tCB (rLenS K) (tCons (tVar 0) tNil)))) (tRet (tOp (rIxL K) (tVar 0) (tVar 1))) tNext) (tRet (tC (.int 0))))
theorem run_L_cell_at {K : PySem.W.Frag} {vs : List V} {H : Hp} {Q : VK} {E : XK} (h : sp_L_cell_at K vs H Q E) : t_L_cell_at K { nx := fun _ H' => Q .non H', rt := Q } (start ["_law_script", "_law_k"] vs) H := by
  obtain ⟨a, ns, j, rfl, hS, q⟩ := h
  refine q_when (et_test (ev_lt (ev_var rfl) (ev_len (ev_var rfl) hS))) (fun hb H1 e1 => ?_) (fun hb H1 e1 => ?_)
  · have hj : j < ns.length := by
      have := of_decide_eq_true hb
      rw [List.length_map] at this
      omega
    exact s_ret (ev_ixI (ev_var rfl) (ev_var rfl) (ex_l e1 hS) rfl hj) fun H2 e2 => q H2 (e1.trans e2)
  · have hj : ¬ j < ns.length := fun hj => by
      have := of_decide_eq_false hb
      rw [List.length_map] at this
      omega
    refine s_ret ev_c fun H2 e2 => ?_
    have e : cellI ns j = 0 := by
      unfold cellI
      rw [List.getD_eq_getElem?_getD, List.getElem?_eq_none (by omega)]
      rfl
    rw [e] at q
    exact q H2 (e1.trans e2)
theorem sv_L_cell_at {K : PySem.W.Frag} {H : Hp} {a : Addr} {ns : List Int} {i : Int} (j : Nat) (hS : SqL K H a (ns.map V.int)) (hi : i = (j : Int)) : SpV (sp_L_cell_at K) [.ref a, .int i] H (.int (cellI ns j)) := fun H1 e Q q E =>
  ⟨a, ns, j, by rw [hi], ex_l e hS, q⟩

/-! _law_trim -/
def sp_L_trim (K : PySem.W.Frag) : Sp := fun vs H Q _ => ∃ (a : Addr) (ns : List Int), vs = [.ref a] ∧ SqL K H a (ns.map V.int) ∧ RetL ((trimI ns).map V.int) H Q
def t_L_trim (K : PySem.W.Frag) : TS :=
  (tSeq (tAsg (tCB (rLenS K) (tCons (tVar 0) tNil)) (gName 1)) (tSeq (tWhile (tAnd (tTest (tOp oGt (tVar 1) (tC (.int 0)))) (tTest (tOp rEq (tOp (rIxL K) (tVar 0) (tOp oSub (tVar 1) (tC (.int 1)))) (tC (.int 0))))) (tAsg (tOp oSub (tVar 1) (tC (.int 1))) (gName 1))) (tRet (tSl (rSlL K) (tVar 0) tNoPart (tPart (tVar 1))))))
theorem run_L_trim {K : PySem.W.Frag} {vs : List V} {H : Hp} {Q : VK} {E : XK} (h : sp_L_trim K vs H Q E) : t_L_trim K { nx := fun _ H' => Q .non H', rt := Q } (start ["_law_row", "_law_size"] vs) H := by
  obtain ⟨a, ns, rfl, hS, q⟩ := h
  refine q_asg (ev_len (ev_var rfl) hS) fun H1 e1 => ?_
  refine q_while (fun m σ' H' => σ' = [some (.ref a), some (.int (m : Int))] ∧ Ex H H' ∧ m ≤ ns.length ∧ ∀ i, m ≤ i → i < ns.length → ns.getD i 0 = 0) ns.length
    ⟨by rw [List.length_map]; rfl, e1, Nat.le_refl _, fun i h1 h2 => by omega⟩ fun m σ' H' hW => ?_
  obtain ⟨rfl, e2, hm, hz⟩ := hW
  refine ⟨_, et_and (et_test (ev_gt (ev_var rfl) ev_c)) (fun hb => et_test (ev_eqI (ev_ixI (j := m - 1) (ev_var rfl) (ev_sub (ev_var rfl) ev_c) (ex_l e2 hS) ?_ ?_) ev_c)), fun hb H3 e3 => ?_, fun hb H3 e3 => ?_⟩
  · have := of_decide_eq_true hb
    omega
  · have := of_decide_eq_true hb
    omega
  · rw [Bool.and_eq_true] at hb
    have h1 := of_decide_eq_true hb.1
    have h2 := of_decide_eq_true hb.2
    refine ⟨fun σ2 H2 => σ2 = [some (.ref a), some (.int ((m - 1 : Nat) : Int))] ∧ Ex H H2, fun σ2 H2 hN => ⟨m - 1, by omega, hN.1, hN.2, by omega, fun i h3 h4 => ?_⟩, ?_⟩
    · by_cases e : i = m - 1
      · rw [e]
        exact h2
      · exact hz i (by omega) h4
    · refine s_asg (ev_sub (ev_var rfl) ev_c) fun H4 e4 => ⟨?_, (e2.trans e3).trans e4⟩
      have e : ((m : Int) - 1) = ((m - 1 : Nat) : Int) := by omega
      rw [e]
      rfl
  · refine s_retL (el_sl (ev_var rfl) eo_none (eo_some (ev_var rfl)) (ex_l (e2.trans e3) hS)) fun p H4 hp e4 h4 => ?_
    have hn : m = 0 ∨ ns.getD (m - 1) 0 ≠ 0 := by
      by_cases h0 : m = 0
      · exact .inl h0
      · right
        intro hc
        rw [decide_eq_true (show (0 : Int) < m by omega), decide_eq_true hc] at hb
        cases hb
    have e := trim_take ns m hm hz hn
    rw [cut_take, ← e] at h4
    exact q.go (e2.trans e3) hp e4 h4
theorem sl_L_trim {K : PySem.W.Frag} {H : Hp} {a : Addr} {ns : List Int} (hS : SqL K H a (ns.map V.int)) : SpL (sp_L_trim K) [.ref a] H ((trimI ns).map V.int) := fun H1 e Q q E =>
  ⟨a, ns, rfl, ex_l e hS, q⟩

-- USES: L_whole
/-! _law_same: of two lists of ints -/
def sp_L_same (K : PySem.W.Frag) : Sp := fun vs H Q _ => ∃ (a b : Addr) (ns ms : List Int), vs = [.ref a, .ref b] ∧ H a = some (.lst (ns.map V.int)) ∧ SqL K H b (ms.map V.int) ∧ ms.length ≤ 90000 ∧ RetV (.bl (decide (ns = ms))) H Q
def t_L_same (K : PySem.W.Frag) : TS :=
  (tSeq (tIfS (tOr (tNot (tB (tCB (rIsi K) (tCons (tVar 0) (tCons (tC (.ty "list")) tNil))))) (tTest (tOp rNe (tCB (rLenS K) (tCons (tVar 0) tNil)) (tCB (rLenS K) (tCons (tVar 1) tNil))))) (tRet (tC (.bl false))) tNext) (tSeq (tFor (iRng1 (tCons (tCB (rLenS K) (tCons (tVar 1) tNil)) tNil)) (gName 2) (tIfS (tOr (tNot (tB (tCall (sp_L_whole K) [] E0 (tCons (tOp (rIxL K) (tVar 0) (tVar 2)) tNil)))) (tTest (tOp rNe (tOp (rIxL K) (tVar 0) (tVar 2)) (tOp (rIxL K) (tVar 1) (tVar 2))))) (tRet (tC (.bl false))) tNext)) (tRet (tC (.bl true)))))
theorem eq_of_getD {ns ms : List Int} (hl : ns.length = ms.length) (h : ∀ i, i < ms.length → ns.getD i 0 = ms.getD i 0) : ns = ms := by
  refine List.ext_getElem hl fun i h1 h2 => ?_
  have := h i h2
  rw [List.getD_eq_getElem?_getD, List.getD_eq_getElem?_getD, List.getElem?_eq_getElem h1, List.getElem?_eq_getElem h2] at this
  exact this
theorem run_L_same {K : PySem.W.Frag} {vs : List V} {H : Hp} {Q : VK} {E : XK} (h : sp_L_same K vs H Q E) : t_L_same K { nx := fun _ H' => Q .non H', rt := Q } (start ["_law_found", "_law_due", "_law_k"] vs) H := by
  obtain ⟨a, b, ns, ms, rfl, hA, hB, hl, q⟩ := h
  have hAs : SqL K H a (ns.map V.int) := sq_of hA
  refine q_when (et_or (a := false) (et_is (et_not (et_B (ev_isinst (ev_var rfl) (ty_lst hA) (b := true) (by decide +kernel)))) rfl) (fun _ => et_test (ev_neI (ev_len (ev_var rfl) hAs) (ev_len (ev_var rfl) hB)))) (fun hb H1 e1 => ?_) (fun hb H1 e1 => ?_)
  · refine s_ret ev_c fun H2 e2 => ?_
    have hne : ns ≠ ms := fun e => by
      subst e
      simp at hb
    rw [decide_eq_false hne] at q
    exact q H2 (e1.trans e2)
  · have hlen : ns.length = ms.length := by
      simp at hb
      omega
    refine q_forR1 (n := (ms.length : Int)) (ea_cons (ev_is (ev_len (ev_var rfl) (ex_l e1 hB)) (by rw [List.length_map])) ea_nil) ⟨by omega, by omega⟩
      (fun i σ' H' => ∃ y, σ' = [some (.ref a), some (.ref b), y] ∧ Ex H H' ∧ ∀ j, j < i → ns.getD j 0 = ms.getD j 0) (fun H2 e2 => ⟨_, rfl, e1.trans e2, fun j hj => by omega⟩) (fun i σ' H' hi hP => ?_) (fun σ' H' hP => ?_)
    · obtain ⟨y, rfl, e2, hs⟩ := hP
      have hi' : i < ms.length := by omega
      refine s_when (et_or (a := false) (et_is (et_not (et_B (ev_call (ea_cons (ev_ixI (ev_var rfl) (ev_var rfl) (ex_l e2 hAs) rfl (by omega)) ea_nil) (sv_L_whole _)))) rfl) (fun _ => et_test (ev_neI (ev_ixI (ev_var rfl) (ev_var rfl) (ex_l e2 hAs) rfl (by omega)) (ev_ixI (ev_var rfl) (ev_var rfl) (ex_l e2 hB) rfl hi')))) (fun hb H3 e3 => ?_) (fun hb H3 e3 => ?_)
      · refine s_ret ev_c fun H4 e4 => ?_
        have hne : ns ≠ ms := fun e => by
          subst e
          simp at hb
        rw [decide_eq_false hne] at q
        exact q H4 ((e2.trans e3).trans e4)
      · refine ⟨_, rfl, e2.trans e3, fun j hj => ?_⟩
        by_cases e : j = i
        · subst e
          simpa using hb
        · exact hs j (by omega)
    · obtain ⟨y, rfl, e2, hs⟩ := hP
      refine s_ret ev_c fun H4 e4 => ?_
      have he : ns = ms := eq_of_getD hlen fun j hj => hs j (by omega)
      rw [decide_eq_true he] at q
      exact q H4 (e2.trans e4)
theorem sv_L_same {K : PySem.W.Frag} {H : Hp} {a b : Addr} {ns ms : List Int} (hA : H a = some (.lst (ns.map V.int))) (hB : SqL K H b (ms.map V.int)) (hl : ms.length ≤ 90000) : SpV (sp_L_same K) [.ref a, .ref b] H (.bl (decide (ns = ms))) := fun H1 e Q q E =>
  ⟨a, b, ns, ms, rfl, e _ _ hA, ex_l e hB, hl, q⟩

/-! bounds of signs and rests -/
theorem mod2x {i : Int} : (i % 2).natAbs < 2 ^ 1 := by
  have h1 : 0 ≤ i % 2 := Int.emod_nonneg _ (by decide)
  have h2 : i % 2 < 2 := Int.emod_lt_of_pos _ (by decide)
  omega
theorem sgnx {i : Int} : (1 - i % 2 * 2).natAbs < 2 ^ 2 := by
  have h1 : 0 ≤ i % 2 := Int.emod_nonneg _ (by decide)
  have h2 : i % 2 < 2 := Int.emod_lt_of_pos _ (by decide)
  omega
theorem modx {i j : Int} {b : Nat} (h0 : 0 < j) (h : j ≤ 2 ^ b) : (i % j).natAbs < 2 ^ b := by
  have h1 : 0 ≤ i % j := Int.emod_nonneg _ (by omega)
  have h2 : i % j < j := Int.emod_lt_of_pos _ h0
  have h3 : ((2 ^ b : Nat) : Int) = 2 ^ b := by simp
  omega

-- USES: Lists NumX
/-! _law_number: up to fifty-nine figures -/
def num11I (c : Int) : Int := if c % 7 = 0 then 0 else if c % 7 = 1 then (1 - c / 7 % 2 * 2) * (c / 14 % 10 ^ 59) else if c % 7 < 4 then c / 7 % 3 - 1 else c / 7 % 19 - 9
theorem num11_lt (c : Int) : (num11I c).natAbs < 10 ^ 59 := by
  have hp : (100 : Nat) < 10 ^ 59 := by decide +kernel
  unfold num11I
  split
  · exact Nat.lt_trans (by decide) hp
  split
  · have h1 : 0 ≤ c / 7 % 2 := Int.emod_nonneg _ (by decide)
    have h2 : c / 7 % 2 < 2 := Int.emod_lt_of_pos _ (by decide)
    have e1 : (1 - c / 7 % 2 * 2).natAbs = 1 := by omega
    rw [Int.natAbs_mul, e1, Nat.one_mul]
    have hP : (0 : Int) < 10 ^ 59 := by decide +kernel
    have h3 : 0 ≤ c / 14 % 10 ^ 59 := Int.emod_nonneg _ (by omega)
    have h4 : c / 14 % 10 ^ 59 < 10 ^ 59 := Int.emod_lt_of_pos _ hP
    have h5 : ((10 ^ 59 : Nat) : Int) = 10 ^ 59 := by decide +kernel
    generalize (10 : Int) ^ 60 = P at *
    generalize (10 : Nat) ^ 60 = R at *
    omega
  split
  · have h1 : 0 ≤ c / 7 % 3 := Int.emod_nonneg _ (by decide)
    have h2 : c / 7 % 3 < 3 := Int.emod_lt_of_pos _ (by decide)
    omega
  · have h1 : 0 ≤ c / 7 % 19 := Int.emod_nonneg _ (by decide)
    have h2 : c / 7 % 19 < 19 := Int.emod_lt_of_pos _ (by decide)
    omega
def sp_L_number (K : PySem.W.Frag) : Sp := fun vs H Q _ => ∃ c : Int, vs = [.int c] ∧ RetV (.int (num11I c)) H Q
def t_L_number (K : PySem.W.Frag) : TS :=
  (tSeq (tIfS (tTest (tOp rEq (tOp oMod (tVar 0) (tC (.int 7))) (tC (.int 0)))) (tRet (tC (.int 0))) tNext) (tSeq (tIfS (tTest (tOp rEq (tOp oMod (tVar 0) (tC (.int 7))) (tC (.int 1)))) (tRet (tOp oMul (tOp oSub (tC (.int 1)) (tOp oMul (tOp oMod (tOp oDiv (tVar 0) (tC (.int 7))) (tC (.int 2))) (tC (.int 2)))) (tOp oMod (tOp oDiv (tVar 0) (tC (.int 14))) (tOp oPow (tC (.int 10)) (tC (.int 59)))))) tNext) (tSeq (tIfS (tTest (tOp oLt (tOp oMod (tVar 0) (tC (.int 7))) (tC (.int 4)))) (tRet (tOp oSub (tOp oMod (tOp oDiv (tVar 0) (tC (.int 7))) (tC (.int 3))) (tC (.int 1)))) tNext) (tRet (tOp oSub (tOp oMod (tOp oDiv (tVar 0) (tC (.int 7))) (tC (.int 19))) (tC (.int 9)))))))
theorem run_L_number {K : PySem.W.Frag} {vs : List V} {H : Hp} {Q : VK} {E : XK} (h : sp_L_number K vs H Q E) : t_L_number K { nx := fun _ H' => Q .non H', rt := Q } (start ["_law_cell"] vs) H := by
  obtain ⟨c, rfl, q⟩ := h
  unfold num11I at q
  refine q_when (et_test (ev_eqI (ev_mod (ev_var rfl) ev_c (by decide)) ev_c)) (fun hb H1 e1 => ?_) (fun hb H1 e1 => ?_)
  · rw [if_pos (of_decide_eq_true hb)] at q
    exact s_ret ev_c fun H2 e2 => q H2 (e1.trans e2)
  rw [if_neg (of_decide_eq_false hb)] at q
  refine q_when (et_test (ev_eqI (ev_mod (ev_var rfl) ev_c (by decide)) ev_c)) (fun hb2 H2 e2 => ?_) (fun hb2 H2 e2 => ?_)
  · rw [if_pos (of_decide_eq_true hb2)] at q
    refine s_ret (ev_mul (ev_sub ev_c (ev_mul (ev_mod (ev_div (ev_var rfl) ev_c (div_small (by decide) (by decide))) ev_c (by decide)) ev_c (mulx (a := 1) (b := 3) mod2x (by decide) (by decide))))
      (ev_mod (ev_div (ev_var rfl) ev_c (div_small (by decide) (by decide))) (ev_pow ev_c ev_c ⟨by decide, by decide, by decide⟩) (by decide +kernel)) (mulx (a := 2) (b := 200) sgnx (modx (by decide +kernel) (by decide +kernel)) (by decide))) fun H3 e3 => q H3 ((e1.trans e2).trans e3)
  rw [if_neg (of_decide_eq_false hb2)] at q
  refine q_when (et_test (ev_lt (ev_mod (ev_var rfl) ev_c (by decide)) ev_c)) (fun hb3 H3 e3 => ?_) (fun hb3 H3 e3 => ?_)
  · rw [if_pos (of_decide_eq_true hb3)] at q
    exact s_ret (ev_sub (ev_mod (ev_div (ev_var rfl) ev_c (div_small (by decide) (by decide))) ev_c (by decide)) ev_c) fun H4 e4 => q H4 (((e1.trans e2).trans e3).trans e4)
  · rw [if_neg (of_decide_eq_false hb3)] at q
    exact s_ret (ev_sub (ev_mod (ev_div (ev_var rfl) ev_c (div_small (by decide) (by decide))) ev_c (by decide)) ev_c) fun H4 e4 => q H4 (((e1.trans e2).trans e3).trans e4)
theorem sv_L_number {K : PySem.W.Frag} {H : Hp} (c : Int) : SpV (sp_L_number K) [.int c] H (.int (num11I c)) := fun H1 e Q q E => ⟨c, rfl, q⟩

-- USES: Lists L_number_k11 L_cell_at L_trim
/-! _law_drawn -/
def sp_L_drawn (K : PySem.W.Frag) : Sp := fun vs H Q _ => ∃ (a : Addr) (ns : List Int) (p s m : Nat), vs = [.ref a, .int (p : Int), .int (s : Int), .int (m : Int)] ∧ SqL K H a (ns.map V.int) ∧ s ≤ 1000 ∧ m ≤ 1000 ∧ RetL ((drawnI num11I ns p s m).map V.int) H Q
def t_L_drawn (K : PySem.W.Frag) : TS :=
  (tSeq (tAsg (tLc (iRng1 (tCons (tVar 2) tNil)) (gName 5) tYes (tCall (sp_L_number K) [] E0 (tCons (tCall (sp_L_cell_at K) [] E0 (tCons (tVar 0) (tCons (tOp oAdd (tVar 1) (tVar 5)) tNil))) tNil)) [5]) (gName 4)) (tSeq (tIfS (tTest (tOp oGt (tVar 3) (tC (.int 0)))) (tAsg (tLc (iRng1 (tCons (tVar 3) tNil)) (gName 5) tYes (tCall (sp_L_number K) [] E0 (tCons (tOp oAdd (tOp oAdd (tCall (sp_L_cell_at K) [] E0 (tCons (tVar 0) (tCons (tVar 1) tNil))) (tOp oMul (tOp oMul (tC (.int 97)) (tVar 5)) (tVar 5))) (tOp oMul (tC (.int 13)) (tVar 5))) tNil)) [5]) (gName 4)) tNext) (tRet (tCall (sp_L_trim K) [] E0 (tCons (tVar 4) tNil)))))
theorem run_L_drawn {K : PySem.W.Frag} {vs : List V} {H : Hp} {Q : VK} {E : XK} (h : sp_L_drawn K vs H Q E) : t_L_drawn K { nx := fun _ H' => Q .non H', rt := Q } (start ["_law_script", "_law_place", "_law_size", "_law_many", "_law_row", "_law_k"] vs) H := by
  obtain ⟨a, ns, p, s, m, rfl, hS, hs, hm, q⟩ := h
  refine q_asgL (el_lcR1 (n := (s : Int)) (fun _ => true) (fun i => .int (num11I (cellI ns (p + i)))) (ea_cons (ev_var rfl) ea_nil) ⟨by omega, by omega⟩ (fun _ => rfl) (fun i H1 e1 hi => et_yes)
    (fun i H1 e1 hi _ => ev_call (ea_cons (ev_call (ea_cons (ev_var rfl) (ea_cons (ev_add (ev_var rfl) (ev_var rfl)) ea_nil)) (sv_L_cell_at (p + i) (ex_l e1 hS) (by omega))) ea_nil) (sv_L_number _))) fun r H1 nr e1 hr => ?_
  rw [given_all, Int.toNat_natCast] at hr
  refine q_when (et_test (ev_gt (ev_var rfl) ev_c)) (fun hb H2 e2 => ?_) (fun hb H2 e2 => ?_)
  · have h0 := of_decide_eq_true hb
    refine s_asgL (el_lcR1 (n := (m : Int)) (fun _ => true) (fun i => .int (num11I (cellI ns p + 97 * (i : Int) * (i : Int) + 13 * (i : Int)))) (ea_cons (ev_var rfl) ea_nil) ⟨by omega, by omega⟩ (fun _ => rfl) (fun i H1 e1 hi => et_yes)
      (fun i H3 e3 hi _ => ev_call (ea_cons (ev_add (ev_add (ev_call (ea_cons (ev_var rfl) (ea_cons (ev_var rfl) ea_nil)) (sv_L_cell_at p (ex_l (e2.trans e3) (ex_l e1 hS)) rfl))
        (ev_mul (ev_mul ev_c (ev_var rfl) (mulx (a := 7) (b := 10) (by decide) (kx (n := m) (by omega) hm) (by decide))) (ev_var rfl) (mulx (a := 17) (b := 10) (wide_lt (a := 7) (b := 10) (by decide) (kx (n := m) (by omega) hm)) (kx (n := m) (by omega) hm) (by decide))))
        (ev_mul ev_c (ev_var rfl) (mulx (a := 4) (b := 10) (by decide) (kx (n := m) (by omega) hm) (by decide)))) ea_nil) (sv_L_number _))) fun r2 H3 nr2 e3 hr2 => ?_
    rw [given_all, Int.toNat_natCast] at hr2
    refine s_retL (el_call (xs := (drawnI num11I ns p s m).map V.int) (ea_cons (ev_var rfl) ea_nil) ?_) fun p4 H4 n4 e4 h4 => q.go ((e1.trans e2).trans e3) n4 e4 h4
    unfold drawnI
    rw [if_pos (by omega)]
    refine sl_L_trim (sq_of ?_)
    rw [hr2, List.map_map]
    rfl
  · have h0 := of_decide_eq_false hb
    refine s_retL (el_call (xs := (drawnI num11I ns p s m).map V.int) (ea_cons (ev_var rfl) ea_nil) ?_) fun p4 H4 n4 e4 h4 => q.go (e1.trans e2) n4 e4 h4
    unfold drawnI
    rw [if_neg (by omega)]
    refine sl_L_trim (sq_of (e2 _ _ ?_))
    rw [hr, List.map_map]
    rfl
theorem sl_L_drawn {K : PySem.W.Frag} {H : Hp} {a : Addr} {ns : List Int} {i j k : Int} (p s m : Nat) (hS : SqL K H a (ns.map V.int)) (hs : s ≤ 1000) (hm : m ≤ 1000) (hi : i = (p : Int)) (hj : j = (s : Int)) (hk : k = (m : Int)) :
    SpL (sp_L_drawn K) [.ref a, .int i, .int j, .int k] H ((drawnI num11I ns p s m).map V.int) := fun H1 e Q q E =>
  ⟨a, ns, p, s, m, by rw [hi, hj, hk], ex_l e hS, hs, hm, q⟩
theorem drawn_all {P : Int → Prop} {num : Int → Int} (h : ∀ c, P (num c)) (ns : List Int) (p s m : Nat) : ∀ x ∈ drawnI num ns p s m, P x := fun x hx => by
  unfold drawnI at hx
  have h1 := trim_mem _ _ hx
  split at h1
  · obtain ⟨k, _, rfl⟩ := List.mem_map.mp h1
    exact h _
  · obtain ⟨k, _, rfl⟩ := List.mem_map.mp h1
    exact h _

-- USES: Lists TxtM
/-! _law_written -/
def sp_L_written (K : PySem.W.Frag) : Sp := fun vs H Q _ => ∃ (a : Addr) (ns : List Int), vs = [.ref a] ∧ SqL K H a (ns.map V.int) ∧ ns.length ≤ 1000 ∧ (∀ k, (ns.getD k 0).natAbs < 10 ^ 60) ∧ RetV (.str (S (shownL ns))) H Q
def t_L_written (K : PySem.W.Frag) : TS :=
  (tSeq (tAsg (tC (.str "")) (gName 1)) (tSeq (tFor (iRng1 (tCons (tCB (rLenS K) (tCons (tVar 0) tNil)) tNil)) (gName 2) (tSeq (tAsg (tOp oSub (tOp oSub (tCB (rLenS K) (tCons (tVar 0) tNil)) (tC (.int 1))) (tVar 2)) (gName 3)) (tIfS (tTest (tOp rNe (tOp (rIxL K) (tVar 0) (tVar 3)) (tC (.int 0)))) (tSeq (tAsg (tCB rStrI (tCons (tCB rAbs (tCons (tOp (rIxL K) (tVar 0) (tVar 3)) tNil)) tNil)) (gName 4)) (tSeq (tIfS (tAnd (tTest (tOp oGt (tVar 3) (tC (.int 0)))) (tTest (tOp rEq (tVar 4) (tC (.str "1"))))) (tAsg (tC (.str "")) (gName 4)) tNext) (tSeq (tIfS (tTest (tOp rEq (tVar 3) (tC (.int 1)))) (tAsg (tOp oCatS (tVar 4) (tC (.str "x"))) (gName 4)) tNext) (tSeq (tIfS (tTest (tOp oGt (tVar 3) (tC (.int 1)))) (tAsg (tOp oCatS (tOp oCatS (tVar 4) (tC (.str "x^"))) (tCB rStrI (tCons (tVar 3) tNil))) (gName 4)) tNext) (tSeq (tIfS (tAnd (tTest (tOp rNe (tVar 1) (tC (.str "")))) (tTest (tOp oGt (tOp (rIxL K) (tVar 0) (tVar 3)) (tC (.int 0))))) (tAsg (tOp oCatS (tC (.str " + ")) (tVar 4)) (gName 4)) tNext) (tSeq (tIfS (tAnd (tTest (tOp rNe (tVar 1) (tC (.str "")))) (tTest (tOp oLt (tOp (rIxL K) (tVar 0) (tVar 3)) (tC (.int 0))))) (tAsg (tOp oCatS (tC (.str " - ")) (tVar 4)) (gName 4)) tNext) (tSeq (tIfS (tAnd (tTest (tOp rEq (tVar 1) (tC (.str "")))) (tTest (tOp oLt (tOp (rIxL K) (tVar 0) (tVar 3)) (tC (.int 0))))) (tAsg (tOp oCatS (tC (.str "-")) (tVar 4)) (gName 4)) tNext) (tAsg (tOp oCatS (tVar 1) (tVar 4)) (gName 1))))))))) tNext))) (tSeq (tIfS (tTest (tOp rEq (tVar 1) (tC (.str "")))) (tRet (tC (.str "0"))) tNext) (tRet (tVar 1)))))
theorem numL_one {n : Nat} : numL n = [49] ↔ n = 1 := by
  have e : numL 1 = [49] := TL.numL_lt (by decide)
  constructor
  · intro h
    exact TL.numL_inj (h.trans e.symm)
  · intro h
    rw [h]
    exact e
def wd1 (n p : Nat) : List Nat := if (decide ((0 : Int) < (p : Int)) && decide (numL n = [49])) = true then [] else numL n
def wd2 (n p : Nat) : List Nat := if (decide ((p : Int) = 1)) = true then wd1 n p ++ [120] else wd1 n p
def wd3 (n p : Nat) : List Nat := if (decide ((1 : Int) < (p : Int))) = true then (wd2 n p ++ [120, 94]) ++ numL p else wd2 n p
theorem wd_term (n p : Nat) : wd3 n p = termL n p := by
  unfold wd3 wd2 wd1 termL
  rcases Nat.lt_trichotomy p 1 with h | h | h
  · have h0 : p = 0 := by omega
    subst h0
    simp
  · subst h
    by_cases h1 : n = 1
    · subst h1
      have := numL_one.mpr (rfl : 1 = 1)
      simp [this]
    · have : ¬numL n = [49] := fun h => h1 (numL_one.mp h)
      simp [this, h1]
  · have e1 : ¬ ((p : Int) = 1) := by omega
    have e2 : (1 : Int) < (p : Int) := by omega
    have e3 : (0 : Int) < (p : Int) := by omega
    have e4 : p ≠ 0 := by omega
    have e5 : p ≠ 1 := by omega
    by_cases h1 : n = 1
    · subst h1
      have := numL_one.mpr (rfl : 1 = 1)
      have e6 : 0 < p := by omega
      simp [this, e1, e2, e4, e5, e6]
    · have : ¬numL n = [49] := fun h => h1 (numL_one.mp h)
      simp [this, h1, e1, e2, e4, e5]
def wd4 (x : Int) (f w : List Nat) : List Nat := if (!decide (f = []) && decide (0 < x)) = true then [32, 43, 32] ++ w else w
def wd5 (x : Int) (f w : List Nat) : List Nat := if (!decide (f = []) && decide (x < 0)) = true then [32, 45, 32] ++ w else w
def wd6 (x : Int) (f w : List Nat) : List Nat := if (decide (f = []) && decide (x < 0)) = true then [45] ++ w else w
theorem wd_sign {x : Int} (hx : x ≠ 0) (f w : List Nat) : wd6 x f (wd5 x f (wd4 x f w)) = signL (decide (x < 0)) (decide (f = [])) ++ w := by
  unfold wd6 wd5 wd4 signL
  by_cases hf : f = []
  · by_cases h : x < 0
    · simp [hf, h]
    · simp [hf, h]
  · by_cases h : x < 0
    · have : ¬ 0 < x := by omega
      simp [hf, h, this]
    · have : 0 < x := by omega
      simp [hf, h, this]
theorem wd4_len (x : Int) (f w : List Nat) : (wd4 x f w).length ≤ w.length + 3 := by
  unfold wd4
  split
  · rw [List.length_append]
    simp
    omega
  · omega
theorem wd5_len (x : Int) (f w : List Nat) : (wd5 x f w).length ≤ w.length + 3 := by
  unfold wd5
  split
  · rw [List.length_append]
    simp
    omega
  · omega
theorem run_L_written {K : PySem.W.Frag} {vs : List V} {H : Hp} {Q : VK} {E : XK} (h : sp_L_written K vs H Q E) : t_L_written K { nx := fun _ H' => Q .non H', rt := Q } (start ["_law_row", "_law_found", "_law_step", "_law_power", "_law_word"] vs) H := by
  obtain ⟨a, ns, rfl, hS, hl, hx, q⟩ := h
  have ln := lineT_len hx hl
  refine q_asg (ev_cS (l := []) (by decide +kernel)) fun H1 e1 => ?_
  refine q_forR1 (n := (ns.length : Int)) (ea_cons (ev_is (ev_len (ev_var rfl) (ex_l e1 hS)) (by rw [List.length_map])) ea_nil) ⟨by omega, by omega⟩ (fun i σ' H' => (∃ y2 y3 y4 : Option V, σ' = [some (.ref a), some (.str (S (lineT ns i))), y2, y3, y4]) ∧ Ex H H') (fun H2 e2 => ⟨⟨none, none, none, rfl⟩, e1.trans e2⟩) (fun i σ' H2 hi hP => ?_) (fun σ' H2 hP => ?_)
  · obtain ⟨⟨y2, y3, y4, rfl⟩, e2⟩ := hP
    have hin : i < ns.length := by omega
    have lni := ln i
    have hxp := hx (ns.length - 1 - i)
    have hstep : lineT ns (i + 1) = if ns.getD (ns.length - 1 - i) 0 = 0 then lineT ns i else lineT ns i ++ (signL (decide (ns.getD (ns.length - 1 - i) 0 < 0)) (decide (lineT ns i = [])) ++ termL (ns.getD (ns.length - 1 - i) 0).natAbs (ns.length - 1 - i)) := rfl
    refine q_asg (v := .int ((ns.length - 1 - i : Nat) : Int)) (ev_is (ev_sub (ev_sub (ev_is (ev_len (ev_var rfl) (ex_l e2 hS)) (by rw [List.length_map])) ev_c) (ev_var rfl)) (by
      have : (ns.length : Int) - 1 - (i : Int) = ((ns.length - 1 - i : Nat) : Int) := by omega
      rw [this])) fun H3 e3 => ?_
    have e23 := e2.trans e3
    have ix : ∀ {H' : Hp} {σ : L2.St}, Ex H H' → σ[0]? = some (some (.ref a)) → σ[3]? = some (some (.int ((ns.length - 1 - i : Nat) : Int))) → Ev (tOp (rIxL K) (tVar 0) (tVar 3)) σ H' (.int (ns.getD (ns.length - 1 - i) 0)) := fun e z1 z2 => ev_ixI (j := ns.length - 1 - i) (ev_var z1) (ev_var z2) (ex_l e hS) rfl (by omega)
    have tl := termL_len hxp (p := ns.length - 1 - i) (by omega)
    have hp3 : ns.length - 1 - i < 10 ^ 3 := by omega
    have hp60 : ns.length - 1 - i < 10 ^ 60 := Nat.lt_trans hp3 (by decide +kernel)
    generalize ns.getD (ns.length - 1 - i) 0 = x at *
    generalize ns.length - 1 - i = p at *
    refine s_when (et_test (ev_neI (ix e23 rfl rfl) ev_c)) (fun hb H4 e4 => ?_) (fun hb H4 e4 => ?_)
    · have hx0 : x ≠ 0 := by
        rw [Bool.not_eq_true', decide_eq_false_iff_not] at hb
        exact hb
      rw [if_neg hx0] at hstep
      have e24 := e23.trans e4
      have nl := numL_len x.natAbs 60 (by decide) hxp
      have pl := numL_len p 3 (by decide) hp3
      refine q_asg (ev_strI (n := x.natAbs) (ev_is (ev_abs (ix e24 rfl rfl)) (by congr 1; split <;> omega)) hxp) fun H5 e5 => ?_
      refine q_ifAsg (v := .str (S (wd1 x.natAbs p))) (et_and (a := decide ((0 : Int) < (p : Int))) (et_test (ev_gt (ev_var rfl) ev_c)) fun _ => et_test (ev_eqT (x := numL x.natAbs) (y := [49]) (ev_var rfl) (ev_cS (by decide +kernel)))) (fun hb => ?_) (fun hb => ?_) fun H6 e6 => ?_
      · unfold wd1
        rw [if_pos hb]
        exact ev_cS (by decide +kernel)
      · unfold wd1
        rw [hb, if_neg (by decide)]
        rfl
      have l1 : (wd1 x.natAbs p).length ≤ 60 := by
        unfold wd1
        split
        · exact Nat.zero_le _
        · exact nl
      refine q_ifAsg (v := .str (S (wd2 x.natAbs p))) (et_test (ev_eqI (ev_var rfl) ev_c)) (fun hb => ?_) (fun hb => ?_) fun H7 e7 => ?_
      · unfold wd2
        rw [if_pos hb]
        exact ev_catS (ev_var rfl) (ev_cS (by decide +kernel)) (by simp only [List.length_cons, List.length_nil]; omega)
      · unfold wd2
        rw [hb, if_neg (by decide)]
        rfl
      have l2 : (wd2 x.natAbs p).length ≤ 61 := by
        unfold wd2
        split
        · rw [List.length_append]
          simp only [List.length_cons, List.length_nil]
          omega
        · omega
      refine q_ifAsg (v := .str (S (wd3 x.natAbs p))) (et_test (ev_gt (ev_var rfl) ev_c)) (fun hb => ?_) (fun hb => ?_) fun H8 e8 => ?_
      · unfold wd3
        rw [if_pos hb]
        exact ev_catS (ev_catS (ev_var rfl) (ev_cS (by decide +kernel)) (by simp only [List.length_cons, List.length_nil]; omega)) (ev_strI (ev_var rfl) hp60) (by simp only [List.length_append, List.length_cons, List.length_nil]; omega)
      · unfold wd3
        rw [hb, if_neg (by decide)]
        rfl
      rw [wd_term]
      have e28 := ((e24.trans e5).trans e6).trans (e7.trans e8)
      generalize hw : termL x.natAbs p = w at *
      generalize hf : lineT ns i = f at *
      have l4 := wd4_len x f w
      have l5 := wd5_len x f (wd4 x f w)
      refine q_ifAsg (v := .str (S (wd4 x f w))) (et_and (a := !decide (f = [])) (et_test (ev_neT (x := f) (y := []) (ev_var rfl) (ev_cS (by decide +kernel)))) fun _ => et_test (ev_gt (ix e28 rfl rfl) ev_c)) (fun hb => ?_) (fun hb => ?_) fun H9 e9 => ?_
      · unfold wd4
        rw [if_pos hb]
        exact ev_catS (ev_cS (by decide +kernel)) (ev_var rfl) (by simp only [List.length_cons, List.length_nil]; omega)
      · unfold wd4
        rw [hb, if_neg (by decide)]
        rfl
      refine q_ifAsg (v := .str (S (wd5 x f (wd4 x f w)))) (et_and (a := !decide (f = [])) (et_test (ev_neT (x := f) (y := []) (ev_var rfl) (ev_cS (by decide +kernel)))) fun _ => et_test (ev_lt (ix (e28.trans e9) rfl rfl) ev_c)) (fun hb => ?_) (fun hb => ?_) fun H10 e10 => ?_
      · unfold wd5
        rw [if_pos hb]
        exact ev_catS (ev_cS (by decide +kernel)) (ev_var rfl) (by simp only [List.length_cons, List.length_nil]; omega)
      · unfold wd5
        rw [hb, if_neg (by decide)]
        rfl
      refine q_ifAsg (v := .str (S (wd6 x f (wd5 x f (wd4 x f w))))) (et_and (a := decide (f = [])) (et_test (ev_eqT (x := f) (y := []) (ev_var rfl) (ev_cS (by decide +kernel)))) fun _ => et_test (ev_lt (ix ((e28.trans e9).trans e10) rfl rfl) ev_c)) (fun hb => ?_) (fun hb => ?_) fun H11 e11 => ?_
      · unfold wd6
        rw [if_pos hb]
        exact ev_catS (ev_cS (by decide +kernel)) (ev_var rfl) (by simp only [List.length_cons, List.length_nil]; omega)
      · unfold wd6
        rw [hb, if_neg (by decide)]
        rfl
      rw [wd_sign hx0]
      have sl := signL_len (decide (x < 0)) (decide (f = []))
      refine s_asg (ev_catS (x := f) (ev_var rfl) (ev_var rfl) (by rw [List.length_append]; omega)) fun H12 e12 => ⟨⟨some (.int (i : Int)), some (.int (p : Int)), some (.str (S (signL (decide (x < 0)) (decide (f = [])) ++ w))), ?_⟩, (((e28.trans e9).trans e10).trans e11).trans e12⟩
      rw [hstep]
      rfl
    · have hx0 : x = 0 := by
        rw [Bool.not_eq_false', decide_eq_true_iff] at hb
        exact hb
      rw [if_pos hx0] at hstep
      refine ⟨⟨some (.int (i : Int)), some (.int (p : Int)), y4, ?_⟩, e23.trans e4⟩
      rw [hstep]
      rfl
  · obtain ⟨⟨y2, y3, y4, rfl⟩, e2⟩ := hP
    rw [Int.toNat_natCast]
    unfold shownL at q
    refine q_when (et_test (ev_eqT (ev_var rfl) (ev_cS (l := []) (by decide +kernel)))) (fun hb H3 e3 => ?_) (fun hb H3 e3 => ?_)
    · have h0 := of_decide_eq_true hb
      rw [if_pos h0] at q
      exact s_ret (ev_cS (by decide +kernel)) fun H4 e4 => q H4 ((e2.trans e3).trans e4)
    · have h0 := of_decide_eq_false hb
      rw [if_neg h0] at q
      exact s_ret (ev_var rfl) fun H4 e4 => q H4 ((e2.trans e3).trans e4)
theorem sv_L_written {K : PySem.W.Frag} {H : Hp} {a : Addr} {ns : List Int} (hS : SqL K H a (ns.map V.int)) (hl : ns.length ≤ 1000) (hx : ∀ k, (ns.getD k 0).natAbs < 10 ^ 60) : SpV (sp_L_written K) [.ref a] H (.str (S (shownL ns))) := fun H1 e Q q E => ⟨a, ns, rfl, ex_l e hS, hl, hx, q⟩

-- USES: ReadX P_whole_number
/-! _law_figures -/
def figN (l : List Nat) (m : Nat) : Int := if l = [] ∨ m < l.length then -1 else if digL l = true then (NumText.digitsVal l : Nat) else -1
def sp_L_figures (K : PySem.W.Frag) : Sp := fun vs H Q _ => ∃ (l : List Nat) (m : Nat), vs = [.str (S l), .int (m : Int)] ∧ l.length ≤ 90000 ∧ m ≤ 640 ∧ RetV (.int (figN l m)) H Q
def t_L_figures (K : PySem.W.Frag) : TS :=
  (tSeq (tIfS (tOr (tTest (tOp rEq (tVar 0) (tC (.str "")))) (tTest (tOp oGt (tCB rLenT (tCons (tVar 0) tNil)) (tVar 1)))) (tRet (tUn uNeg (tC (.int 1)))) tNext) (tSeq (tFor (iStr (tVar 0)) (gName 2) (tIfS (tTest (tOp oNotInS (tVar 2) (tC (.str "0123456789")))) (tRet (tUn uNeg (tC (.int 1)))) tNext)) (tRet (tCB rIntS (tCons (tVar 0) tNil)))))
theorem dig_mem (c : Nat) : c ∈ [48, 49, 50, 51, 52, 53, 54, 55, 56, 57] ↔ 48 ≤ c ∧ c ≤ 57 := by
  simp only [List.mem_cons, List.not_mem_nil, or_false]
  omega
theorem run_L_figures {K : PySem.W.Frag} {vs : List V} {H : Hp} {Q : VK} {E : XK} (h : sp_L_figures K vs H Q E) : t_L_figures K { nx := fun _ H' => Q .non H', rt := Q } (start ["_law_word", "_law_most", "_law_sign_here"] vs) H := by
  obtain ⟨l, m, rfl, hl, hm, q⟩ := h
  unfold figN at q
  refine q_when (et_or (et_test (ev_eqT (ev_var rfl) (ev_cS (l := []) (by decide +kernel)))) fun _ => et_test (ev_gt (ev_lenS (ev_var rfl) hl) (ev_var rfl))) (fun hb H1 e1 => ?_) (fun hb H1 e1 => ?_)
  · have h0 : l = [] ∨ m < l.length := by
      rw [Bool.or_eq_true] at hb
      rcases hb with hb | hb
      · exact .inl (of_decide_eq_true hb)
      · exact .inr (by have := of_decide_eq_true hb; omega)
    rw [if_pos h0] at q
    exact s_ret (ev_neg ev_c) fun H2 e2 => q H2 (e1.trans e2)
  have h0 : ¬(l = [] ∨ m < l.length) := by
    rw [Bool.or_eq_false_iff] at hb
    rintro (h | h)
    · exact of_decide_eq_false hb.1 h
    · have := of_decide_eq_false hb.2
      omega
  rw [if_neg h0] at q
  refine q_forS (ev_var rfl) (fun i σ' H' => (∃ y : Option V, σ' = [some (.str (S l)), some (.int (m : Int)), y]) ∧ Ex H H' ∧ digL (l.take i) = true) (fun H2 e2 => ⟨⟨none, rfl⟩, e1.trans e2, rfl⟩) (fun i c σ' H2 hi hP => ?_) (fun σ' H2 hP => ?_)
  · obtain ⟨⟨y, rfl⟩, e2, hd⟩ := hP
    have hcm : c ∈ l := List.mem_of_getElem? hi
    refine s_when (et_test (ev_notInS (l := [48, 49, 50, 51, 52, 53, 54, 55, 56, 57]) (ev_var rfl) (ev_cS (by decide +kernel)))) (fun hb H3 e3 => ?_) (fun hb H3 e3 => ⟨⟨_, rfl⟩, e2.trans e3, ?_⟩)
    · have hno : ¬(48 ≤ c ∧ c ≤ 57) := fun h => by
        rw [decide_eq_true ((dig_mem c).mpr h)] at hb
        cases hb
      have hdl : digL l ≠ true := fun h => by
        have := List.all_eq_true.mp h c hcm
        rw [Bool.and_eq_true] at this
        exact hno ⟨of_decide_eq_true this.1, of_decide_eq_true this.2⟩
      rw [if_neg hdl] at q
      exact s_ret (ev_neg ev_c) fun H4 e4 => q H4 ((e2.trans e3).trans e4)
    · have hyes : 48 ≤ c ∧ c ≤ 57 := by
        rw [Bool.not_eq_false', decide_eq_true_iff] at hb
        exact (dig_mem c).mp hb
      unfold digL at hd ⊢
      rw [List.take_add_one, hi, List.all_append, hd]
      simp [hyes]
  · obtain ⟨⟨y, rfl⟩, e2, hd⟩ := hP
    rw [List.take_length] at hd
    rw [if_pos hd] at q
    have had : NumText.AllDigits l := fun c hc => by
      have := List.all_eq_true.mp hd c hc
      rw [Bool.and_eq_true] at this
      exact ⟨of_decide_eq_true this.1, of_decide_eq_true this.2⟩
    have hne : l ≠ [] := fun h => h0 (.inl h)
    have hlm : l.length ≤ 640 := by
      have : ¬ m < l.length := fun h => h0 (.inr h)
      omega
    refine (ev_var (i := 0) (v := V.str (S l)) rfl) H2 (Ex.refl H2) _ fun H3 e3 => ?_
    exact ⟨S l, _, rfl, PySem.intText_digits (x := S l) had hne (by rw [S_length]; omega), by rw [S_length]; exact hlm, q H3 (e2.trans e3)⟩
theorem sv_L_figures {K : PySem.W.Frag} {H : Hp} {l : List Nat} {i : Int} (m : Nat) (hi : i = (m : Int)) (hl : l.length ≤ 90000) (hm : m ≤ 640) : SpV (sp_L_figures K) [.str (S l), .int i] H (.int (figN l m)) := fun H1 e Q q E => ⟨l, m, by rw [hi], hl, hm, q⟩

-- USES: ReadX L_figures
/-! _law_term -/
theorem par_split : ∀ (l acc a b : List Nat), TL.par [120] acc l = some (a, b) → ∃ a', a = acc ++ a' ∧ l = a' ++ 120 :: b ∧ 120 ∉ a'
  | [], acc, a, b, h => by cases h
  | c :: l, acc, a, b, h => by
    unfold TL.par at h
    have hp : TL.pre [120] (c :: l) = decide (c = 120) := by
      unfold TL.pre
      show ([c] == [120]) = _
      by_cases h : c = 120
      · rw [h]
        rfl
      · rw [decide_eq_false h]
        simp [h]
    rw [hp] at h
    by_cases hc : c = 120
    · rw [decide_eq_true hc, if_pos rfl] at h
      cases h
      exact ⟨[], by simp, by rw [hc]; rfl, by simp⟩
    · rw [decide_eq_false hc, if_neg (by decide)] at h
      obtain ⟨a', h1, h2, h3⟩ := par_split l (acc ++ [c]) a b h
      refine ⟨c :: a', by rw [h1]; simp, by rw [h2]; rfl, fun hm => ?_⟩
      rcases List.mem_cons.mp hm with e | e
      · exact hc e.symm
      · exact h3 e
theorem par_mem (l : List Nat) : 120 ∈ l → ∃ a b, TL.par [120] [] l = some (a, b) := fun h => by
  cases hp : TL.par [120] [] l with
  | some ab => exact ⟨ab.1, ab.2, rfl⟩
  | none =>
    have h1 := SX.partition_none (a := l) (b := [120]) (by simp) hp
    obtain ⟨a, b, e⟩ := List.append_of_mem h
    have key : ∀ (x acc : List Nat), TL.par [120] acc (x ++ 120 :: b) ≠ none := fun x => by
      induction x with
      | nil =>
        intro acc hn
        rw [List.nil_append, TL.par_hit (by rfl)] at hn
        cases hn
      | cons c x ih =>
        intro acc hn
        rw [List.cons_append] at hn
        unfold TL.par at hn
        split at hn
        · cases hn
        · exact ih _ hn
    rw [e] at hp
    exact absurd hp (key a [])
theorem idx_par {l a b : List Nat} (h : TL.par [120] [] l = some (a, b)) : ∃ rest, Builtin.Str.occurrences (S l) (S [120]) 0 (S l).length 1 = a.length :: rest := by
  have h1 := SX.partition_some (a := l) (b := [120]) (by simp) h
  obtain ⟨a', ha, hl, _⟩ := par_split l [] a b h
  rw [List.nil_append] at ha
  subst ha
  cases ho : Builtin.Str.occurrences (S l) (S [120]) 0 (S l).length 1 with
  | nil =>
    unfold Txt.partition at h1
    rw [ho] at h1
    have h2 : Str.empty = S [120] := congrArg (fun z => z.2.1) h1
    have h3 := congrArg Str.length h2
    cases h3
  | cons i r =>
    unfold Txt.partition at h1
    rw [ho] at h1
    have h2 : Builtin.Str.strSub (S l) 0 i = S a := congrArg (fun z => z.1) h1
    have h3 := congrArg (fun z => (TL.tl z).length) h2
    have h4 : (TL.tl (Builtin.Str.strSub (S l) 0 i)).length = a.length := h3
    rw [TL.tl_strSub, List.drop_zero, List.length_take] at h4
    have h5 : (TL.tl (S l)).length = l.length := rfl
    rw [h5] at h4
    have h6 : l.length = a.length + (b.length + 1) := by
      rw [hl, List.length_append]
      rfl
    exact ⟨r, by rw [show i = a.length by omega]⟩
theorem cut_takeS (l : List Nat) (k : Nat) : cutS (S l) none (some (k : Int)) = S (l.take k) := by
  unfold cutS
  congr 1
  rw [S_length, HT.sIx_none, show HT.sIx l.length l.length (some (k : Int)) = min k l.length from HT.sIx_nat l.length _ k]
  show ((l.drop 0).take (min k l.length - 0)).toArray = (l.take k).toArray
  rw [List.drop_zero, Nat.sub_zero]
  congr 1
  rw [List.take_eq_take_iff]
  omega
theorem cut_dropS (l : List Nat) (k : Nat) : cutS (S l) (some (k : Int)) none = S (l.drop k) := by
  unfold cutS
  congr 1
  rw [S_length, HT.sIx_none, show HT.sIx l.length 0 (some (k : Int)) = min k l.length from HT.sIx_nat l.length _ k]
  show ((l.drop (min k l.length)).take (l.length - min k l.length)).toArray = (l.drop k).toArray
  congr 1
  by_cases h : k ≤ l.length
  · rw [Nat.min_eq_left h, List.take_of_length_le (by rw [List.length_drop]; omega)]
  · rw [Nat.min_eq_right (by omega), List.drop_of_length_le (Nat.le_refl _), List.drop_of_length_le (by omega), List.take_nil]
section
variable {K : PySem.W.Frag} {σ : L2.St} {H : Hp} {te tk : TE}
theorem ev_takeS {l : List Nat} {k : Nat} (h : Ev te σ H (.str (S l))) (h2 : Ev tk σ H (.int (k : Int))) (hl : l.length ≤ 90000) : Ev (tSl rSlS te tNoPart (tPart tk)) σ H (.str (S (l.take k))) := fun H1 e Q q => h H1 e _ fun H2 e2 => (eo_none : EvO tNoPart σ H2 none) H2 (Ex.refl H2) _ fun H3 e3 => (eo_some (h2.mono (e.trans (e2.trans e3))) : EvO (tPart tk) σ H3 (some (k : Int))) H3 (Ex.refl H3) _ fun H4 e4 => ⟨S l, rfl, sz_of (by rw [S_length]; omega), by
  rw [cut_takeS]
  exact q H4 ((e2.trans e3).trans e4)⟩
theorem ev_dropS {l : List Nat} {k : Nat} (h : Ev te σ H (.str (S l))) (h2 : Ev tk σ H (.int (k : Int))) (hl : l.length ≤ 90000) : Ev (tSl rSlS te (tPart tk) tNoPart) σ H (.str (S (l.drop k))) := fun H1 e Q q => h H1 e _ fun H2 e2 => (eo_some (h2.mono (e.trans e2)) : EvO (tPart tk) σ H2 (some (k : Int))) H2 (Ex.refl H2) _ fun H3 e3 => (eo_none : EvO tNoPart σ H3 none) H3 (Ex.refl H3) _ fun H4 e4 => ⟨S l, rfl, sz_of (by rw [S_length]; omega), by
  rw [cut_dropS]
  exact q H4 ((e2.trans e3).trans e4)⟩
theorem ev_index {l a b : List Nat} {s : Str} (hs : s = S [120]) (h : Ev te σ H (.str (S l))) (hp : TL.par [120] [] l = some (a, b)) : Ev (tBM K "str" rSIndex te (tCons (tC (.str s)) tNil)) σ H (.int (a.length : Int)) := fun H1 e Q q => h H1 e _ fun H2 e2 => ⟨ty_S, ⟨S l, s, a.length, (idx_par hp).choose, rfl, rfl, by rw [hs]; exact (idx_par hp).choose_spec, q H2 e2⟩⟩
end
/-- what _law_term tells -/
def termW (l : List Nat) : Int × Int := match TL.par [120] [] l with
  | none => (figN l 60, 0)
  | some ab => (if ab.1 = [] then 1 else figN ab.1 60, if ab.2 = [] then 1 else if ab.2.head? = some 94 then figN ab.2.tail 2 else -1)
def TermP (l : List Nat) : V → Hp → Prop := fun v H => ∃ t, v = .ref t ∧ H t = some (.tup [.int (termW l).1, .int (termW l).2])
def sp_L_term (K : PySem.W.Frag) : Sp := fun vs H Q _ => ∃ l : List Nat, vs = [.str (S l)] ∧ l.length ≤ 80000 ∧ RetP (TermP l) H Q
def t_L_term (K : PySem.W.Frag) : TS :=
  (tSeq (tIfS (tTest (tOp oNotInS (tC (.str "x")) (tVar 0))) (tRet (tTup (tCons (tCall (sp_L_figures K) [] E0 (tCons (tVar 0) (tCons (tC (.int 60)) tNil))) (tCons (tC (.int 0)) tNil)))) tNext) (tSeq (tAsg (tSl rSlS (tVar 0) tNoPart (tPart (tBM K "str" rSIndex (tVar 0) (tCons (tC (.str "x")) tNil)))) (gName 1)) (tSeq (tAsg (tSl rSlS (tVar 0) (tPart (tOp oAdd (tCB rLenT (tCons (tVar 1) tNil)) (tC (.int 1)))) tNoPart) (gName 2)) (tSeq (tAsg (tC (.int 1)) (gName 3)) (tSeq (tAsg (tC (.int 1)) (gName 4)) (tSeq (tIfS (tTest (tOp rNe (tVar 1) (tC (.str "")))) (tAsg (tCall (sp_L_figures K) [] E0 (tCons (tVar 1) (tCons (tC (.int 60)) tNil))) (gName 3)) tNext) (tSeq (tIfS (tTest (tOp rNe (tVar 2) (tC (.str "")))) (tSeq (tAsg (tUn uNeg (tC (.int 1))) (gName 4)) (tIfS (tTest (tOp rEq (tOp rIxS (tVar 2) (tC (.int 0))) (tC (.str "^")))) (tAsg (tCall (sp_L_figures K) [] E0 (tCons (tSl rSlS (tVar 2) (tPart (tC (.int 1))) tNoPart) (tCons (tC (.int 2)) tNil))) (gName 4)) tNext)) tNext) (tRet (tTup (tCons (tVar 3) (tCons (tVar 4) tNil)))))))))))
theorem ev_head {σ : L2.St} {H : Hp} {te : TE} {c : Nat} {l : List Nat} (h : Ev te σ H (.str (S (c :: l)))) (hl : l.length ≤ 80000) : Ev (tOp rIxS te (tC (.int 0))) σ H (.str (S [c])) := ev_op h ev_c (rv_ixS (w := S (c :: l)) (by rw [S_length, List.length_cons]; omega) (show atI (c :: l) ((0 : Nat) : Int) = some c from atI_nat rfl))
theorem run_L_term {K : PySem.W.Frag} {vs : List V} {H : Hp} {Q : VK} {E : XK} (h : sp_L_term K vs H Q E) : t_L_term K { nx := fun _ H' => Q .non H', rt := Q } (start ["_law_word", "_law_ahead", "_law_rest", "_law_number_here", "_law_power"] vs) H := by
  obtain ⟨l, rfl, hl, q⟩ := h
  unfold TermP termW at q
  refine q_when (et_test (ev_notInS (c := 120) (l := l) (ev_cS (by decide +kernel)) (ev_var rfl))) (fun hb H1 e1 => ?_) (fun hb H1 e1 => ?_)
  · have hno : 120 ∉ l := by
      rw [Bool.not_eq_true', decide_eq_false_iff_not] at hb
      exact hb
    rw [show TL.par [120] [] l = none from TL.par_none1 hno] at q
    refine s_retP (evp_tup2 (ev_call (ea_cons (ev_var rfl) (ea_cons ev_c ea_nil)) (sv_L_figures 60 rfl (by omega) (by decide))) ev_c) fun v H2 e2 hv => ?_
    obtain ⟨t, rfl, ht⟩ := hv
    exact q _ H2 (e1.trans e2) ⟨t, rfl, ht⟩
  have hin : 120 ∈ l := by
    rw [Bool.not_eq_false', decide_eq_true_iff] at hb
    exact hb
  obtain ⟨a, b, hp⟩ := par_mem l hin
  rw [hp] at q
  obtain ⟨a', ha, hl2, _⟩ := par_split l [] a b hp
  rw [List.nil_append] at ha
  subst ha
  have hlen : l.length = a.length + (b.length + 1) := by
    rw [hl2, List.length_append]
    rfl
  have htake : l.take a.length = a := by
    rw [hl2, List.take_append_of_le_length (Nat.le_refl _), List.take_length]
  have hdrop : l.drop (a.length + 1) = b := by
    rw [hl2, List.drop_append]
    simp
  refine q_asg (v := .str (S a)) (ev_is (ev_takeS (k := a.length) (ev_var rfl) (ev_index (by decide +kernel) (ev_var rfl) hp) (by omega)) (by rw [htake])) fun H2 e2 => ?_
  refine q_asg (v := .str (S b)) (ev_is (ev_dropS (l := l) (k := a.length + 1) (ev_var rfl) (ev_is (ev_add (ev_lenS (l := a) (ev_var rfl) (by omega)) ev_c) (by rfl)) (by omega)) (by rw [hdrop])) fun H3 e3 => ?_
  refine q_asg ev_c fun H4 e4 => q_asg ev_c fun H5 e5 => ?_
  have e15 := (((e1.trans e2).trans e3).trans e4).trans e5
  refine q_ifAsg (v := .int (if a = [] then 1 else figN a 60)) (et_test (ev_neT (x := a) (y := []) (ev_var rfl) (ev_cS (by decide +kernel)))) (fun hb => ?_) (fun hb => ?_) fun H6 e6 => ?_
  · have h0 : a ≠ [] := by
      rw [Bool.not_eq_true', decide_eq_false_iff_not] at hb
      exact hb
    rw [if_neg h0]
    exact ev_call (ea_cons (ev_var rfl) (ea_cons ev_c ea_nil)) (sv_L_figures 60 rfl (by omega) (by decide))
  · have h0 : a = [] := by
      rw [Bool.not_eq_false', decide_eq_true_iff] at hb
      exact hb
    rw [if_pos h0]
    rfl
  have q2 : ∀ H', Ex H H' → ∀ t, H' t = some (.tup [.int (if a = [] then 1 else figN a 60), .int (if b = [] then 1 else if b.head? = some 94 then figN b.tail 2 else -1)]) → Q (.ref t) H' := fun H' e t ht => q _ H' e ⟨t, rfl, ht⟩
  generalize (if a = [] then (1 : Int) else figN a 60) = n at q2 ⊢
  refine q_whenM (Mid := fun σ' H' => σ' = [some (.str (S l)), some (.str (S a)), some (.str (S b)), some (.int n), some (.int (if b = [] then 1 else if b.head? = some 94 then figN b.tail 2 else -1))] ∧ Ex H H') (fun σ' H7 hM => ?_) (et_test (ev_neT (x := b) (y := []) (ev_var rfl) (ev_cS (by decide +kernel)))) (fun hb k H7 e7 => ?_) (fun hb H7 e7 => ?_)
  · obtain ⟨rfl, e7⟩ := hM
    refine s_retP (evp_tup2 (ev_var rfl) (ev_var rfl)) fun v H8 e8 hv => ?_
    obtain ⟨t, rfl, ht⟩ := hv
    exact q2 H8 (e7.trans e8) t ht
  · have h0 : b ≠ [] := by
      rw [Bool.not_eq_true', decide_eq_false_iff_not] at hb
      exact hb
    obtain ⟨c, r, rfl⟩ := List.exists_cons_of_ne_nil h0
    simp only [List.length_cons] at hlen
    refine q_asg (ev_neg ev_c) fun H8 e8 => ?_
    refine s_ifAsg (v := .int (if (c :: r).head? = some 94 then figN (c :: r).tail 2 else -1)) (et_test (ev_eqT (x := [c]) (y := [94]) (ev_head (l := r) (ev_var rfl) (by omega)) (ev_cS (by decide +kernel)))) (fun hb => ?_) (fun hb => ?_) fun H9 e9 => k _ _ ⟨?_, (((e15.trans e6).trans e7).trans e8).trans e9⟩
    · have hc : c = 94 := by
        have := of_decide_eq_true hb
        injection this
      rw [if_pos (by rw [hc]; rfl)]
      exact ev_call (ea_cons (ev_tail (ev_var rfl) (by rw [List.length_cons]; omega)) (ea_cons ev_c ea_nil)) (sv_L_figures 2 rfl (by rw [List.length_tail, List.length_cons]; omega) (by decide))
    · have hc : ¬((c :: r).head? = some 94) := fun h => by
        have := Option.some.inj h
        rw [this] at hb
        cases hb
      rw [if_neg hc]
      rfl
    · rw [if_neg h0]
      rfl
  · have h0 : b = [] := by
      rw [Bool.not_eq_false', decide_eq_true_iff] at hb
      exact hb
    refine ⟨?_, (e15.trans e6).trans e7⟩
    rw [if_pos h0]
    rfl
theorem spp_L_term {K : PySem.W.Frag} {H : Hp} {l : List Nat} (hl : l.length ≤ 80000) : SpP (sp_L_term K) [.str (S l)] H (TermP l) := fun H1 e Q q E => ⟨l, rfl, hl, q⟩

-- USES: Lists L_term L_trim L_written P_signs_and_terms
/-! _law_due -/
/-- the words of a line, its first sign -/
def dueW (l : List Nat) : List (List Nat) := if l.head? = some 45 then TL.spl [32] 0 [] l.tail else TL.spl [32] 0 [] l
def sgW (l : List Nat) : Int := if l.head? = some 45 then -1 else 1
def stepD (st : List Int × Int) (i : Nat) (w : List Nat) : Option (List Int × Int) := if i % 2 = 0 then (if (termW w).1 < 0 ∨ (termW w).2 < 0 then none else some (st.1.set (termW w).2.toNat (st.2 * (termW w).1), st.2)) else some (st.1, if w = [45] then -1 else 1)
def runD (ws : List (List Nat)) : Nat → Option (List Int × Int) → Option (List Int × Int)
  | 0, st => st
  | i + 1, st => match runD ws i st with
    | none => none
    | some st' => stepD st' i (ws.getD i [])
def endD (l : List Nat) : Option (List Int × Int) → Option (List Int)
  | none => none
  | some st => if shownL (trimI st.1) = l then some (trimI st.1) else none
def dueN (l : List Nat) : Option (List Int) := endD l (runD (dueW l) (dueW l).length (some (List.replicate 100 0, sgW l)))
def DueP (l : List Nat) (H0 : Hp) : V → Hp → Prop := fun v H => (v = .non ∧ dueN l = none) ∨ ∃ (p : Addr) (ns : List Int), v = .ref p ∧ H0 p = none ∧ H p = some (.lst (ns.map V.int)) ∧ dueN l = some ns
def sp_L_due (K : PySem.W.Frag) : Sp := fun vs H Q _ => ∃ l : List Nat, vs = [.str (S l)] ∧ l.length ≤ 70000 ∧ RetP (DueP l H) H Q
def t_L_due (K : PySem.W.Frag) : TS :=
  (tSeq (tAsg (tOp rRep (tLst (tCons (tC (.int 0)) tNil)) (tC (.int 100))) (gName 1)) (tSeq (tAsg (tC (.int 1)) (gName 2)) (tSeq (tAsg (tBM K "str" rSplit (tVar 0) (tCons (tC (.str " ")) tNil)) (gName 3)) (tSeq (tIfS (tTest (tOp rEq (tSl rSlS (tVar 0) tNoPart (tPart (tC (.int 1)))) (tC (.str "-")))) (tSeq (tAsg (tUn uNeg (tC (.int 1))) (gName 2)) (tAsg (tBM K "str" rSplit (tSl rSlS (tVar 0) (tPart (tC (.int 1))) tNoPart) (tCons (tC (.str " ")) tNil)) (gName 3))) tNext) (tSeq (tFor (iRng1 (tCons (tCB (rLenS K) (tCons (tVar 3) tNil)) tNil)) (gName 4) (tIfS (tTest (tOp rEq (tOp oMod (tVar 4) (tC (.int 2))) (tC (.int 0)))) (tSeq (tAsg (tCall (sp_L_term K) [] E0 (tCons (tOp (rIxL K) (tVar 3) (tVar 4)) tNil)) (gName 5)) (tSeq (tIfS (tOr (tTest (tOp oLt (tOp (rIxT K) (tVar 5) (tC (.int 0))) (tC (.int 0)))) (tTest (tOp oLt (tOp (rIxT K) (tVar 5) (tC (.int 1))) (tC (.int 0))))) (tRet (tC .non)) tNext) (tAsg (tOp oMul (tVar 2) (tOp (rIxT K) (tVar 5) (tC (.int 0)))) (gSub (tVar 1) (tOp (rIxT K) (tVar 5) (tC (.int 1))) rSetL)))) (tSeq (tAsg (tC (.int 1)) (gName 2)) (tIfS (tTest (tOp rEq (tOp (rIxL K) (tVar 3) (tVar 4)) (tC (.str "-")))) (tAsg (tUn uNeg (tC (.int 1))) (gName 2)) tNext)))) (tSeq (tAsg (tCall (sp_L_trim K) [] E0 (tCons (tVar 1) tNil)) (gName 1)) (tSeq (tIfS (tTest (tOp rNe (tCall (sp_L_written K) [] E0 (tCons (tVar 1) tNil)) (tVar 0))) (tRet (tC .non)) tNext) (tRet (tVar 1)))))))))
theorem fig_val {l : List Nat} {m : Nat} (h : 0 ≤ figN l m) : digL l = true ∧ l.length ≤ m ∧ figN l m = (NumText.digitsVal l : Nat) := by
  unfold figN at h ⊢
  split at h
  · omega
  · rename_i h1
    rw [if_neg h1]
    split at h
    · rename_i h2
      refine ⟨h2, ?_, by rw [if_pos h2]⟩
      have : ¬ m < l.length := fun h => h1 (.inr h)
      omega
    · omega
theorem dig_bound : ∀ (l : List Nat) (acc : Nat), digL l = true → l.foldl (fun a c => a * 10 + (c - 48)) acc < (acc + 1) * 10 ^ l.length
  | [], acc, _ => by simp
  | c :: l, acc, h => by
    unfold digL at h
    rw [List.all_cons, Bool.and_eq_true, Bool.and_eq_true] at h
    have hc := of_decide_eq_true h.1.2
    have ih := dig_bound l (acc * 10 + (c - 48)) h.2
    rw [List.foldl_cons, List.length_cons]
    refine Nat.lt_of_lt_of_le ih ?_
    rw [Nat.pow_succ, Nat.mul_comm (10 ^ l.length) 10, ← Nat.mul_assoc]
    exact Nat.mul_le_mul_right _ (by omega)
theorem fig_lt {l : List Nat} {m : Nat} (h : 0 ≤ figN l m) : (figN l m).natAbs < 10 ^ m := by
  obtain ⟨h1, h2, h3⟩ := fig_val h
  rw [h3, Int.natAbs_natCast]
  have := dig_bound l 0 h1
  rw [Nat.zero_add, Nat.one_mul] at this
  exact Nat.lt_of_lt_of_le this (Nat.pow_le_pow_right (by decide) h2)
theorem term_fits {w : List Nat} (h1 : 0 ≤ (termW w).1) (h2 : 0 ≤ (termW w).2) : (termW w).1.natAbs < 10 ^ 60 ∧ (termW w).2 < 100 := by
  unfold termW at *
  cases hp : TL.par [120] [] w with
  | none =>
    rw [hp] at h1
    exact ⟨fig_lt h1, (show (0 : Int) < 100 by decide)⟩
  | some ab =>
    rw [hp] at h1 h2
    have one : (1 : Int).natAbs < 10 ^ 60 := by decide +kernel
    constructor
    · show (if ab.1 = [] then (1 : Int) else figN ab.1 60).natAbs < 10 ^ 60
      have h1 : 0 ≤ (if ab.1 = [] then (1 : Int) else figN ab.1 60) := h1
      split
      · exact one
      · rename_i h
        rw [if_neg h] at h1
        exact fig_lt h1
    · show (if ab.2 = [] then (1 : Int) else if ab.2.head? = some 94 then figN ab.2.tail 2 else -1) < 100
      have h2 : 0 ≤ (if ab.2 = [] then (1 : Int) else if ab.2.head? = some 94 then figN ab.2.tail 2 else -1) := h2
      split
      · decide
      · rename_i h
        rw [if_neg h] at h2
        split
        · rename_i h3
          rw [if_pos h3] at h2
          have := fig_lt h2
          omega
        · decide
theorem runD_succ (ws : List (List Nat)) (i : Nat) (st : Option (List Int × Int)) : runD ws (i + 1) st = match runD ws i st with
    | none => none
    | some st' => stepD st' i (ws.getD i []) := rfl
theorem runD_none {ws : List (List Nat)} {st : Option (List Int × Int)} {i : Nat} (h : runD ws i st = none) : ∀ j, runD ws (i + j) st = none
  | 0 => h
  | j + 1 => by
    show runD ws (i + j + 1) st = none
    rw [runD_succ, runD_none h j]
theorem spl_words : ∀ (l : List Nat) (k : Nat) (acc w : List Nat), w ∈ TL.spl [32] k acc l → w.length ≤ acc.length + l.length
  | [], k, acc, w, h => by
    rw [TL.spl_nil, List.mem_singleton] at h
    rw [h]
    simp
  | c :: l, 0, acc, w, h => by
    by_cases hp : TL.pre [32] (c :: l) = true
    · rw [TL.spl_hit hp] at h
      rcases List.mem_cons.mp h with e | h
      · rw [e]
        omega
      · have := spl_words l _ [] w h
        simp only [List.length_nil, List.length_cons] at this ⊢
        omega
    · rw [TL.spl_miss (by simpa using hp)] at h
      have := spl_words l 0 (acc ++ [c]) w h
      rw [List.length_append] at this
      simp only [List.length_cons, List.length_nil] at this ⊢
      omega
  | c :: l, k + 1, acc, w, h => by
    have := spl_words l k acc w h
    rw [List.length_cons]
    omega
theorem run_L_due {K : PySem.W.Frag} {vs : List V} {H : Hp} {Q : VK} {E : XK} (h : sp_L_due K vs H Q E) : t_L_due K { nx := fun _ H' => Q .non H', rt := Q } (start ["_law_line", "_law_row", "_law_sign_here", "_law_words", "_law_k", "_law_told"] vs) H := by
  obtain ⟨l, rfl, hl, q⟩ := h
  have hl1 := spl_len l
  have hl2 := spl_len l.tail
  have hlt : l.tail.length ≤ l.length := by rw [List.length_tail]; omega
  refine q_asgL (el_rep (k := 100) (el_lst (ea_cons ev_c ea_nil) (by simp)) ev_c (by rfl) (by decide)) fun r H1 nr e1 hr => ?_
  refine q_asg ev_c fun H2 e2 => ?_
  refine q_asgL (el_split (by decide +kernel) (ev_var rfl) (by omega)) fun wa H3 nwa e3 hwa => ?_
  refine st_is [some (.str (S l)), some (.ref r), some (.int 1), some (.ref wa), none, none] rfl ?_
  have hr3 := (e2.trans e3) _ _ hr
  have e13 := (e1.trans e2).trans e3
  have hhead : decide (l.take 1 = [45]) = decide (l.head? = some 45) := by
    cases l with
    | nil => rfl
    | cons c l => simp
  refine q_whenM (Mid := fun σ' H' => ∃ wa, σ' = [some (.str (S l)), some (.ref r), some (.int (sgW l)), some (.ref wa), none, none] ∧ Ex H3 H' ∧ H' wa = some (.lst (strV (dueW l))) ∧ wa ≠ r) (fun σ' H4 hM => ?_) (et_is (et_test (ev_eqT (ev_takeS (k := 1) (ev_var rfl) ev_c (by omega)) (ev_cS (l := [45]) (by decide +kernel)))) hhead) (fun hb k H4 e4 => ?_) (fun hb H4 e4 => ?_)
  · obtain ⟨wa, rfl, e4, hwa, wr⟩ := hM
    have hwl : (dueW l).length ≤ 80000 := by
      unfold dueW
      split <;> omega
    have hdue : dueN l = endD l (runD (dueW l) (dueW l).length (some (List.replicate 100 0, sgW l))) := rfl
    have hword : ∀ w ∈ dueW l, w.length ≤ 80000 := fun w hw => by
      unfold dueW at hw
      split at hw
      · have := spl_words l.tail 0 [] w hw
        simp only [List.length_nil] at this
        omega
      · have := spl_words l 0 [] w hw
        simp only [List.length_nil] at this
        omega
    have hsg : sgW l = 1 ∨ sgW l = -1 := by
      unfold sgW
      split
      · exact .inr rfl
      · exact .inl rfl
    generalize dueW l = ws at *
    generalize sgW l = s0 at *
    have sl : (strV ws).length = ws.length := by
      unfold strV
      rw [List.length_map]
    have e14 := e13.trans e4
    have p60 : (0 : Int).natAbs < 10 ^ 60 := by decide +kernel
    refine q_forR1 (n := (ws.length : Int)) (ea_cons (ev_is (ev_len (ev_var rfl) (sq_of (K := K) hwa)) (by rw [sl])) ea_nil) ⟨by omega, by omega⟩ (fun i σ' H' => ∃ (y4 y5 : Option V) (row : List Int) (sg : Int), σ' = [some (.str (S l)), some (.ref r), some (.int sg), some (.ref wa), y4, y5] ∧ Ex H H' ∧ H' wa = some (.lst (strV ws)) ∧ H' r = some (.lst (row.map V.int)) ∧ row.length = 100 ∧ (∀ x ∈ row, x.natAbs < 10 ^ 60) ∧ (sg = 1 ∨ sg = -1) ∧ runD ws i (some (List.replicate 100 0, s0)) = some (row, sg))
      (fun H5 e5 => ⟨none, none, List.replicate 100 0, s0, rfl, e14.trans e5, e5 _ _ hwa, by rw [List.map_replicate]; exact (e4.trans e5) _ _ hr3, List.length_replicate .., fun x hx => by rw [(List.mem_replicate.mp hx).2]; exact p60, hsg, rfl⟩) (fun i σ' H5 hi hP => ?_) (fun σ' H5 hP => ?_)
    · obtain ⟨y4, y5, row, sg, rfl, e5, hwa, hr, rl, rb, hs, hrun⟩ := hP
      have hil : i < ws.length := by omega
      have hwi : ws[i]? = some ws[i] := List.getElem?_eq_getElem hil
      have hsi : (strV ws)[i]? = some (.str (S ws[i])) := by
        unfold strV
        rw [List.getElem?_map, hwi]
        rfl
      have hwl2 := hword _ (List.getElem_mem hil)
      have hnext : runD ws (i + 1) (some (List.replicate 100 0, s0)) = stepD (row, sg) i ws[i] := by
        rw [runD_succ, hrun, List.getD_eq_getElem?_getD, hwi]
        rfl
      generalize ws[i] = w at *
      have hix : ∀ {H' : Hp} {σ : L2.St}, Ex H5 H' → σ[3]? = some (some (.ref wa)) → σ[4]? = some (some (.int (i : Int))) → Ev (tOp (rIxL K) (tVar 3) (tVar 4)) σ H' (.str (S w)) := fun e z1 z2 => ev_op (ev_var z1) (ev_var z2) (rv_ixL (sq_of (e _ _ hwa)) (atI_nat hsi))
      refine s_if (et_test (ev_eqI (ev_mod (ev_var rfl) ev_c (by decide)) ev_c)) (fun hb H6 e6 => ?_) (fun hb H6 e6 => ?_)
      · have h0 : i % 2 = 0 := by
          have := of_decide_eq_true hb
          omega
        unfold stepD at hnext
        rw [if_pos h0] at hnext
        refine q_asgP (evp_call (ea_cons (hix e6 rfl rfl) ea_nil) (spp_L_term hwl2)) fun v H7 e7 hv => ?_
        obtain ⟨t, rfl, ht⟩ := hv
        have e57 := e6.trans e7
        refine st_is [some (.str (S l)), some (.ref r), some (.int sg), some (.ref wa), some (.int (i : Int)), some (.ref t)] rfl ?_
        refine q_when (et_or (et_test (ev_lt (ev_ixT (j := 0) (ev_var rfl) ev_c ht rfl rfl) ev_c)) fun _ => et_test (ev_lt (ev_ixT (j := 1) (ev_var rfl) ev_c ht rfl rfl) ev_c)) (fun hb H8 e8 => ?_) (fun hb H8 e8 => ?_)
        · have hneg : (termW w).1 < 0 ∨ (termW w).2 < 0 := by
            rw [Bool.or_eq_true] at hb
            exact hb.imp of_decide_eq_true of_decide_eq_true
          rw [if_pos hneg] at hnext
          have hall := runD_none hnext (ws.length - (i + 1))
          rw [show i + 1 + (ws.length - (i + 1)) = ws.length by omega] at hall
          rw [hall] at hdue
          exact s_ret ev_c fun H9 e9 => q _ H9 ((e5.trans e57).trans (e8.trans e9)) (.inl ⟨rfl, hdue⟩)
        · have hneg : ¬((termW w).1 < 0 ∨ (termW w).2 < 0) := by
            rw [Bool.or_eq_false_iff] at hb
            rintro (h | h)
            · exact of_decide_eq_false hb.1 h
            · exact of_decide_eq_false hb.2 h
          rw [if_neg hneg] at hnext
          have t1 : 0 ≤ (termW w).1 := by omega
          have t2 : 0 ≤ (termW w).2 := by omega
          obtain ⟨f1, f2⟩ := term_fits t1 t2
          have hb200 : (10 : Nat) ^ 60 < 2 ^ 200 := by decide +kernel
          have hp2 : (termW w).2 = (((termW w).2.toNat : Nat) : Int) := by omega
          have e58 := e57.trans e8
          refine s_setL (j := (termW w).2.toNat) (e58 _ _ hr) (ev_mul (ev_var rfl) (ev_ixT (j := 0) (ev_var rfl) ev_c (e8 _ _ ht) rfl rfl) (mulx (a := 1) (b := 200) (by rcases hs with h | h <;> rw [h] <;> decide) (Nat.lt_trans f1 hb200) (by decide))) (ev_var rfl) (ev_is (ev_ixT (j := 1) (ev_var rfl) ev_c (e8 _ _ ht) rfl rfl) (congrArg V.int hp2)) (by rw [List.length_map]; omega) fun H9 e9 => ?_
          have e59 := e58.trans e9
          refine ⟨_, _, row.set (termW w).2.toNat (sg * (termW w).1), sg, rfl, Ex.mut (e5.trans e59) (fresh_back (Ex.refl H) nr), ?_, ?_, by rw [List.length_set]; exact rl, fun x hx => ?_, hs, hnext⟩
          · rw [upd_ne wr]
            exact e59 _ _ hwa
          · rw [List.map_set]
            exact upd_same
          · rcases List.mem_or_eq_of_mem_set hx with h | h
            · exact rb x h
            · rw [h, Int.natAbs_mul]
              have : sg.natAbs = 1 := by omega
              rw [this, Nat.one_mul]
              exact f1
      · have h0 : ¬ i % 2 = 0 := by
          have := of_decide_eq_false hb
          omega
        unfold stepD at hnext
        rw [if_neg h0] at hnext
        refine q_asg ev_c fun H7 e7 => ?_
        refine s_ifAsg (v := .int (if w = [45] then -1 else 1)) (et_test (ev_eqT (ev_op (ev_var (i := 3) rfl) (ev_var (i := 4) rfl) (rv_ixL (sq_of ((e6.trans e7) _ _ hwa)) (atI_nat hsi))) (ev_cS (l := [45]) (by decide +kernel)))) (fun hb => ?_) (fun hb => ?_) fun H8 e8 => ⟨_, _, row, _, rfl, e5.trans ((e6.trans e7).trans e8), ((e6.trans e7).trans e8) _ _ hwa, ((e6.trans e7).trans e8) _ _ hr, rl, rb, ?_, hnext⟩
        · rw [if_pos (of_decide_eq_true hb)]
          exact ev_neg ev_c
        · rw [if_neg (of_decide_eq_false hb)]
          rfl
        · split
          · exact .inr rfl
          · exact .inl rfl
    · obtain ⟨y4, y5, row, sg, rfl, e5, hwa, hr, rl, rb, hs, hrun⟩ := hP
      rw [Int.toNat_natCast] at hrun
      rw [hrun] at hdue
      have hdue : dueN l = if shownL (trimI row) = l then some (trimI row) else none := hdue
      refine q_asgL (el_call (ea_cons (ev_var rfl) ea_nil) (sl_L_trim (sq_of hr))) fun p H6 np e6 hp => ?_
      have tl := trim_len row
      have tb : ∀ k, ((trimI row).getD k 0).natAbs < 10 ^ 60 := fun k => by
        by_cases hk : k < (trimI row).length
        · rw [List.getD_eq_getElem?_getD, List.getElem?_eq_getElem hk]
          exact rb _ (trim_mem _ _ (List.getElem_mem hk))
        · rw [List.getD_eq_getElem?_getD, List.getElem?_eq_none (by omega)]
          exact p60
      refine q_when (et_test (ev_neT (ev_call (ea_cons (ev_var rfl) ea_nil) (sv_L_written (sq_of hp) (by omega) tb)) (ev_var rfl))) (fun hb H7 e7 => ?_) (fun hb H7 e7 => ?_)
      · have h0 : shownL (trimI row) ≠ l := by
          rw [Bool.not_eq_true', decide_eq_false_iff_not] at hb
          exact hb
        rw [if_neg h0] at hdue
        exact s_ret ev_c fun H8 e8 => q _ H8 ((e5.trans e6).trans (e7.trans e8)) (.inl ⟨rfl, hdue⟩)
      · have h0 : shownL (trimI row) = l := by
          rw [Bool.not_eq_false', decide_eq_true_iff] at hb
          exact hb
        rw [if_pos h0] at hdue
        exact s_ret (ev_var rfl) fun H8 e8 => q _ H8 ((e5.trans e6).trans (e7.trans e8)) (.inr ⟨p, trimI row, rfl, fresh_back e5 np, (e7.trans e8) _ _ hp, hdue⟩)
  · have h0 := of_decide_eq_true hb
    refine q_asg (ev_neg ev_c) fun H5 e5 => ?_
    refine s_asgL (el_split (by decide +kernel) (ev_tail (ev_var rfl) (by omega)) (by omega)) fun wb H6 nwb e6 hwb => k _ _ ⟨wb, ?_, (e4.trans e5).trans e6, ?_, fun z => ?_⟩
    · unfold sgW
      rw [if_pos h0]
      rfl
    · unfold dueW
      rw [if_pos h0]
      exact hwb
    · rw [z, (e4.trans e5) _ _ hr3] at nwb
      cases nwb
  · have h0 := of_decide_eq_false hb
    refine ⟨wa, ?_, e4, ?_, fun z => ?_⟩
    · unfold sgW
      rw [if_neg h0]
    · unfold dueW
      rw [if_neg h0]
      exact e4 _ _ hwa
    · rw [z, e2 _ _ hr] at nwa
      cases nwa

-- USES: TxtM
/-! _law_odd: one of thirty-eight written lines -/
def oddS : List Str := ([Str.ofString "", Str.ofString "0", Str.ofString "-0", Str.ofString "00", Str.ofString "+1", Str.ofString "1x", Str.ofString "-1x", Str.ofString "x^1", Str.ofString "x^0", Str.ofString "2x^0", Str.ofString "x^01", Str.ofString "x^100", Str.ofString "x^-1", Str.ofString "x^", Str.ofString "^2", Str.ofString "X"] ++ [Str.ofString "x + 0", Str.ofString "0x", Str.ofString "x + x", Str.ofString "1 + x", Str.ofString "x^2 + x^3", Str.ofString "x +1", Str.ofString "x+1", Str.ofString " x", Str.ofString "x ", Str.ofString "x  + 1", Str.ofString "x + -1"]) ++ [Str.ofString "x - -1", Str.ofString "--x", Str.ofString "- x", Str.ofString "2*x", Str.ofString "x^2^2", Str.ofString "x +", Str.ofString "x -", Str.ofString "1 +", Str.ofString "3x^2 - x -", Str.ofString "x^2 x", Str.ofString "-"]
theorem el_catAL {σ : L2.St} {H : Hp} {ta tb : TE} {a : Addr} {xs ys : List V} (h1 : Ev ta σ H (.ref a)) (hx : H a = some (.lst xs)) (h2 : EvL tb σ H ys) (hz : xs.length + ys.length ≤ 100000) : EvL (tOp rCat ta tb) σ H (xs ++ ys) := fun H1 e Q q =>
  h1 H1 e _ fun H2 e2 => h2 H2 (e.trans e2) _ fun b H3 nb e3 hb => ⟨a, b, xs, ys, rfl, rfl, ((e.trans e2).trans e3) _ _ hx, hb, sz_of hz, fun l hl => q l _ (fresh_back (e2.trans e3) hl) ((e2.trans e3).trans (Ex.new hl)) upd_same⟩
def sp_L_odd (K : PySem.W.Frag) : Sp := fun vs H Q _ => ∃ c : Int, vs = [.int c] ∧ RetP (fun v _ => ∃ w ∈ oddS, v = .str w) H Q
def t_L_odd (K : PySem.W.Frag) : TS :=
  (tSeq (tAsg (tLst (tCons (tC (.str "")) (tCons (tC (.str "0")) (tCons (tC (.str "-0")) (tCons (tC (.str "00")) (tCons (tC (.str "+1")) (tCons (tC (.str "1x")) (tCons (tC (.str "-1x")) (tCons (tC (.str "x^1")) (tCons (tC (.str "x^0")) (tCons (tC (.str "2x^0")) (tCons (tC (.str "x^01")) (tCons (tC (.str "x^100")) (tCons (tC (.str "x^-1")) (tCons (tC (.str "x^")) (tCons (tC (.str "^2")) (tCons (tC (.str "X")) tNil))))))))))))))))) (gName 1)) (tSeq (tAsg (tOp rCat (tVar 1) (tLst (tCons (tC (.str "x + 0")) (tCons (tC (.str "0x")) (tCons (tC (.str "x + x")) (tCons (tC (.str "1 + x")) (tCons (tC (.str "x^2 + x^3")) (tCons (tC (.str "x +1")) (tCons (tC (.str "x+1")) (tCons (tC (.str " x")) (tCons (tC (.str "x ")) (tCons (tC (.str "x  + 1")) (tCons (tC (.str "x + -1")) tNil))))))))))))) (gName 1)) (tSeq (tAsg (tOp rCat (tVar 1) (tLst (tCons (tC (.str "x - -1")) (tCons (tC (.str "--x")) (tCons (tC (.str "- x")) (tCons (tC (.str "2*x")) (tCons (tC (.str "x^2^2")) (tCons (tC (.str "x +")) (tCons (tC (.str "x -")) (tCons (tC (.str "1 +")) (tCons (tC (.str "3x^2 - x -")) (tCons (tC (.str "x^2 x")) (tCons (tC (.str "-")) tNil))))))))))))) (gName 1)) (tRet (tOp (rIxL K) (tVar 1) (tOp oMod (tVar 0) (tC (.int 38))))))))
theorem run_L_odd {K : PySem.W.Frag} {vs : List V} {H : Hp} {Q : VK} {E : XK} (h : sp_L_odd K vs H Q E) : t_L_odd K { nx := fun _ H' => Q .non H', rt := Q } (start ["_law_cell", "_law_some"] vs) H := by
  obtain ⟨c, rfl, q⟩ := h
  refine q_asgL (el_lst (ea_cons ev_c (ea_cons ev_c (ea_cons ev_c (ea_cons ev_c (ea_cons ev_c (ea_cons ev_c (ea_cons ev_c (ea_cons ev_c (ea_cons ev_c (ea_cons ev_c (ea_cons ev_c (ea_cons ev_c (ea_cons ev_c (ea_cons ev_c (ea_cons ev_c (ea_cons ev_c ea_nil)))))))))))))))) (by decide)) fun a H1 na e1 ha => ?_
  refine q_asgL (el_catAL (ev_var rfl) ha (el_lst (ea_cons ev_c (ea_cons ev_c (ea_cons ev_c (ea_cons ev_c (ea_cons ev_c (ea_cons ev_c (ea_cons ev_c (ea_cons ev_c (ea_cons ev_c (ea_cons ev_c (ea_cons ev_c ea_nil))))))))))) (by decide)) (by decide)) fun b H2 nb e2 hb => ?_
  refine q_asgL (el_catAL (ev_var rfl) hb (el_lst (ea_cons ev_c (ea_cons ev_c (ea_cons ev_c (ea_cons ev_c (ea_cons ev_c (ea_cons ev_c (ea_cons ev_c (ea_cons ev_c (ea_cons ev_c (ea_cons ev_c (ea_cons ev_c ea_nil))))))))))) (by decide)) (by decide)) fun d H3 nd e3 hd => ?_
  have h0 := Int.emod_nonneg c (show (38 : Int) ≠ 0 by decide)
  have h1 := Int.emod_lt_of_pos c (show (0 : Int) < 38 by decide)
  have hl : oddS.length = 38 := rfl
  have hd : H3 d = some (.lst (oddS.map V.str)) := hd
  have hk : (oddS.map V.str)[(c % 38).toNat]? = some (V.str (oddS[(c % 38).toNat]'(by omega))) := by
    rw [List.getElem?_map, List.getElem?_eq_getElem (by omega)]
    rfl
  refine s_ret (v := V.str (oddS[(c % 38).toNat]'(by omega))) (ev_op (ev_var rfl) (ev_is (v := .int (((c % 38).toNat : Nat) : Int)) (ev_is (ev_mod (ev_var rfl) ev_c (by decide)) (by rw [Int.toNat_of_nonneg h0])) rfl) (rv_ixL (sq_of hd) (atI_nat hk))) fun H4 e4 => q _ H4 (((e1.trans e2).trans e3).trans e4) ⟨_, List.getElem_mem _, rfl⟩
theorem spp_L_odd {K : PySem.W.Frag} {H : Hp} (c : Int) : SpP (sp_L_odd K) [.int c] H (fun v _ => ∃ w ∈ oddS, v = .str w) := fun H1 e Q q E => ⟨c, rfl, q⟩

-- USES: ReadX L_term
/-! _law_sign: a text of one sign -/
def sgA : List Nat := [32, 33, 34, 35, 36, 38, 39, 40, 41, 42, 43, 44, 45, 46, 47, 48, 49, 50, 51, 52, 53, 54, 55, 56, 57, 58, 59, 60, 61, 62, 63, 64, 65, 66, 67, 68, 69, 70, 71, 72, 73, 74, 75, 76, 77, 78, 79, 80, 81, 82, 83, 84, 85, 86, 87, 88, 89, 90, 91, 92, 93, 94, 95, 96]
def sgB : List Nat := [97, 98, 99, 100, 101, 102, 103, 104, 105, 106, 107, 108, 109, 110, 111, 112, 113, 114, 115, 116, 117, 118, 119, 120, 121, 122, 123, 124, 125, 126, 10, 9]
def sgC : List Nat := [48, 49, 50, 51, 52, 53, 54, 55, 56, 57, 120, 94, 43, 45, 32]
def sp_L_sign (K : PySem.W.Frag) : Sp := fun vs H Q _ => ∃ c : Int, vs = [.int c] ∧ RetP (fun v _ => ∃ d, (d ∈ sgA ++ sgB ∨ d ∈ sgC) ∧ v = .str (S [d])) H Q
def t_L_sign (K : PySem.W.Frag) : TS :=
  (tSeq (tAsg (tC (.str " !\"#$&'()*+,-./0123456789:;<=>?@ABCDEFGHIJKLMNOPQRSTUVWXYZ[\\]^_`")) (gName 1)) (tSeq (tAsg (tOp oCatS (tVar 1) (tC (.str "abcdefghijklmnopqrstuvwxyz{|}~\n\t"))) (gName 1)) (tSeq (tIfS (tTest (tOp rEq (tOp oMod (tVar 0) (tC (.int 2))) (tC (.int 1)))) (tAsg (tC (.str "0123456789x^+- ")) (gName 1)) tNext) (tRet (tOp rIxS (tVar 1) (tOp oMod (tOp oDiv (tVar 0) (tC (.int 2))) (tCB rLenT (tCons (tVar 1) tNil))))))))
theorem ev_atS {σ : L2.St} {H : Hp} {te ti : TE} {l : List Nat} {j : Nat} {i : Int} {d : Nat} (h : Ev te σ H (.str (S l))) (hi : Ev ti σ H (.int i)) (he : i = (j : Int)) (hj : l[j]? = some d) (hl : l.length ≤ 90000) : Ev (tOp rIxS te ti) σ H (.str (S [d])) := by
  subst he
  exact ev_op h hi (rv_ixS (w := S l) (by rw [S_length]; omega) (show atI l (j : Int) = some d from atI_nat hj))
theorem run_L_sign {K : PySem.W.Frag} {vs : List V} {H : Hp} {Q : VK} {E : XK} (h : sp_L_sign K vs H Q E) : t_L_sign K { nx := fun _ H' => Q .non H', rt := Q } (start ["_law_cell", "_law_some"] vs) H := by
  obtain ⟨c, rfl, q⟩ := h
  refine q_asg (ev_cS (l := sgA) (by decide +kernel)) fun H1 e1 => ?_
  refine q_asg (ev_catS (x := sgA) (y := sgB) (ev_var rfl) (ev_cS (by decide +kernel)) (by decide)) fun H2 e2 => ?_
  refine q_ifAsg (v := .str (S (if c % 2 = 1 then sgC else sgA ++ sgB))) (et_test (ev_eqI (ev_mod (ev_var rfl) ev_c (by decide)) ev_c)) (fun hb => ?_) (fun hb => ?_) fun H3 e3 => ?_
  · rw [if_pos (of_decide_eq_true hb)]
    exact ev_cS (by decide +kernel)
  · rw [if_neg (of_decide_eq_false hb)]
    rfl
  have hin : ∀ d, d ∈ (if c % 2 = 1 then sgC else sgA ++ sgB) → d ∈ sgA ++ sgB ∨ d ∈ sgC := fun d hd => by
    split at hd
    · exact .inr hd
    · exact .inl hd
  have hlen : 0 < (if c % 2 = 1 then sgC else sgA ++ sgB).length ∧ (if c % 2 = 1 then sgC else sgA ++ sgB).length ≤ 200 := by
    split <;> decide
  generalize (if c % 2 = 1 then sgC else sgA ++ sgB) = l at *
  have h0 := Int.emod_nonneg (c / 2) (show (l.length : Int) ≠ 0 by omega)
  have h1 := Int.emod_lt_of_pos (c / 2) (show (0 : Int) < (l.length : Int) by omega)
  have hj : (c / 2 % (l.length : Int)).toNat < l.length := by omega
  refine s_ret (ev_atS (l := l) (j := (c / 2 % (l.length : Int)).toNat) (d := l[(c / 2 % (l.length : Int)).toNat]) (ev_var rfl) (ev_mod (ev_div (ev_var rfl) ev_c (div_small (by decide) (by decide))) (ev_lenS (ev_var rfl) (by omega)) (by omega)) (by rw [Int.toNat_of_nonneg h0]) (List.getElem?_eq_getElem hj) (by omega)) fun H4 e4 => q _ H4 (((e1.trans e2).trans e3).trans e4) ⟨_, hin _ (List.getElem_mem hj), rfl⟩
theorem spp_L_sign {K : PySem.W.Frag} {H : Hp} (c : Int) : SpP (sp_L_sign K) [.int c] H (fun v _ => ∃ d, (d ∈ sgA ++ sgB ∨ d ∈ sgC) ∧ v = .str (S [d])) := fun H1 e Q q E => ⟨c, rfl, q⟩

-- USES: ReadX L_term L_sign
/-! _law_turned: one sign put in, left out, or another one -/
/-- a sign that may be put in -/
def SgOk (d : Nat) : Prop := d ∈ sgA ++ sgB ∨ d ∈ sgC
inductive Turned (l : List Nat) : List Nat → Prop where
  | put (p d : Nat) (hp : p ≤ l.length) (hd : SgOk d) : Turned l (l.take p ++ [d] ++ l.drop p)
  | out (p : Nat) (hp : p ≤ l.length) : Turned l (l.take p ++ l.drop (p + 1))
  | other (p d : Nat) (hp : p ≤ l.length) (hd : SgOk d) : Turned l (l.take p ++ [d] ++ l.drop (p + 1))
def sp_L_turned (K : PySem.W.Frag) : Sp := fun vs H Q _ => ∃ (l : List Nat) (c s : Int), vs = [.str (S l), .int c, .int s] ∧ l.length ≤ 40000 ∧ RetP (fun v _ => ∃ m, Turned l m ∧ v = .str (S m)) H Q
def t_L_turned (K : PySem.W.Frag) : TS :=
  (tSeq (tAsg (tCall (sp_L_sign K) [] E0 (tCons (tOp oDiv (tVar 1) (tC (.int 3))) tNil)) (gName 3)) (tSeq (tAsg (tOp oMod (tVar 2) (tOp oAdd (tCB rLenT (tCons (tVar 0) tNil)) (tC (.int 1)))) (gName 4)) (tSeq (tIfS (tTest (tOp rEq (tOp oMod (tVar 1) (tC (.int 3))) (tC (.int 0)))) (tRet (tOp oCatS (tOp oCatS (tSl rSlS (tVar 0) tNoPart (tPart (tVar 4))) (tVar 3)) (tSl rSlS (tVar 0) (tPart (tVar 4)) tNoPart))) tNext) (tSeq (tIfS (tTest (tOp rEq (tOp oMod (tVar 1) (tC (.int 3))) (tC (.int 1)))) (tRet (tOp oCatS (tSl rSlS (tVar 0) tNoPart (tPart (tVar 4))) (tSl rSlS (tVar 0) (tPart (tOp oAdd (tVar 4) (tC (.int 1)))) tNoPart))) tNext) (tRet (tOp oCatS (tOp oCatS (tSl rSlS (tVar 0) tNoPart (tPart (tVar 4))) (tVar 3)) (tSl rSlS (tVar 0) (tPart (tOp oAdd (tVar 4) (tC (.int 1)))) tNoPart)))))))
theorem run_L_turned {K : PySem.W.Frag} {vs : List V} {H : Hp} {Q : VK} {E : XK} (h : sp_L_turned K vs H Q E) : t_L_turned K { nx := fun _ H' => Q .non H', rt := Q } (start ["_law_line", "_law_cell", "_law_spot", "_law_sign_here", "_law_place"] vs) H := by
  obtain ⟨l, c, s, rfl, hl, q⟩ := h
  refine q_asgP (evp_call (ea_cons (ev_div (ev_var rfl) ev_c (div_small (by decide) (by decide))) ea_nil) (spp_L_sign (c / 3))) fun v H1 e1 hv => ?_
  obtain ⟨d, hd, rfl⟩ := hv
  have h0 := Int.emod_nonneg s (show ((l.length : Int) + 1) ≠ 0 by omega)
  have h1 := Int.emod_lt_of_pos s (show (0 : Int) < (l.length : Int) + 1 by omega)
  obtain ⟨p, hp⟩ : ∃ p : Nat, s % ((l.length : Int) + 1) = (p : Int) := ⟨(s % ((l.length : Int) + 1)).toNat, by omega⟩
  have hpl : p ≤ l.length := by omega
  refine q_asg (v := .int (p : Int)) (ev_is (ev_mod (ev_var rfl) (ev_add (ev_lenS (ev_var rfl) (by omega)) ev_c) (by omega)) (by rw [hp])) fun H2 e2 => ?_
  have e12 := e1.trans e2
  have lt := List.length_take_le p l
  have ld : ∀ k, (l.drop k).length ≤ l.length := fun k => by rw [List.length_drop]; omega
  have ltl : (l.take p).length ≤ l.length := by rw [List.length_take]; omega
  have tk : ∀ {H' : Hp} {σ : L2.St}, σ[0]? = some (some (.str (S l))) → σ[4]? = some (some (.int (p : Int))) → Ev (tSl rSlS (tVar 0) tNoPart (tPart (tVar 4))) σ H' (.str (S (l.take p))) := fun z1 z2 => ev_takeS (ev_var z1) (ev_var z2) (by omega)
  have dr : ∀ {H' : Hp} {σ : L2.St}, σ[0]? = some (some (.str (S l))) → σ[4]? = some (some (.int (p : Int))) → Ev (tSl rSlS (tVar 0) (tPart (tOp oAdd (tVar 4) (tC (.int 1)))) tNoPart) σ H' (.str (S (l.drop (p + 1)))) := fun z1 z2 => ev_dropS (k := p + 1) (ev_var z1) (ev_is (ev_add (ev_var z2) ev_c) (by rfl)) (by omega)
  refine q_when (et_test (ev_eqI (ev_mod (ev_var rfl) ev_c (by decide)) ev_c)) (fun hb H3 e3 => ?_) (fun hb H3 e3 => ?_)
  · have h2 := ld p
    exact s_ret (ev_catS (ev_catS (tk rfl rfl) (ev_var rfl) (by simp only [List.length_cons, List.length_nil]; omega)) (ev_dropS (ev_var rfl) (ev_var rfl) (by omega)) (by simp only [List.length_append, List.length_cons, List.length_nil]; omega)) fun H4 e4 => q _ H4 ((e12.trans e3).trans e4) ⟨_, .put p d hpl hd, rfl⟩
  have h2 := ld (p + 1)
  refine q_when (et_test (ev_eqI (ev_mod (ev_var rfl) ev_c (by decide)) ev_c)) (fun hb H4 e4 => ?_) (fun hb H4 e4 => ?_)
  · exact s_ret (ev_catS (tk rfl rfl) (dr rfl rfl) (by omega)) fun H5 e5 => q _ H5 (((e12.trans e3).trans e4).trans e5) ⟨_, .out p hpl, rfl⟩
  · exact s_ret (ev_catS (ev_catS (tk rfl rfl) (ev_var rfl) (by simp only [List.length_cons, List.length_nil]; omega)) (dr rfl rfl) (by simp only [List.length_append, List.length_cons, List.length_nil]; omega)) fun H5 e5 => q _ H5 (((e12.trans e3).trans e4).trans e5) ⟨_, .other p d hpl hd, rfl⟩
theorem spp_L_turned {K : PySem.W.Frag} {H : Hp} {l : List Nat} (c s : Int) (hl : l.length ≤ 40000) : SpP (sp_L_turned K) [.str (S l), .int c, .int s] H (fun v _ => ∃ m, Turned l m ∧ v = .str (S m)) := fun H1 e Q q E => ⟨l, c, s, rfl, hl, q⟩

-- USES: ReadX P_made_k11 P_raised P_quotient P_meet P_parts P_read
-- EXC: NoNumber NoPower ByNought NotWhole NoMeet NoParts NotWritten
/-! _law_refuse: one thing refused of each class -/
def clsK (cs : Cs) : Nat → Addr
  | 0 => cs.NoNumber
  | 1 => cs.NoPower
  | 2 => cs.ByNought
  | 3 => cs.NotWhole
  | 4 => cs.NoMeet
  | 5 => cs.NoParts
  | _ => cs.NotWritten
def sp_L_refuse (K : PySem.W.Frag) (cs : Cs) : Sp := fun vs H Q E => ∃ k : Nat, vs = [.int (k : Int)] ∧ k ≤ 6 ∧ ∀ H', Ex H H' → E (.ref (clsK cs k)) none H'
def t_L_refuse (K : PySem.W.Frag) (cs : Cs) (E : XK) : TS :=
  (tSeq (tIfS (tTest (tOp rEq (tVar 0) (tC (.int 0)))) (tRet (tCallS (sp_P_made K cs) (WE (wOf E)) (tCons (tLst (tCons (tC .non) tNil)) tNil))) tNext) (tSeq (tIfS (tTest (tOp rEq (tVar 0) (tC (.int 1)))) (tRet (tCallS (sp_P_raised K cs) (WE (wOf E)) (tCons (tLst (tCons (tC (.int 2)) tNil)) (tCons (tUn uNeg (tC (.int 1))) tNil)))) tNext) (tSeq (tIfS (tTest (tOp rEq (tVar 0) (tC (.int 2)))) (tRet (tCallS (sp_P_quotient K cs) (WE (wOf E)) (tCons (tLst (tCons (tC (.int 1)) tNil)) (tCons (tLst tNil) tNil)))) tNext) (tSeq (tIfS (tTest (tOp rEq (tVar 0) (tC (.int 3)))) (tRet (tCallS (sp_P_quotient K cs) (WE (wOf E)) (tCons (tLst (tCons (tC (.int 1)) tNil)) (tCons (tLst (tCons (tC (.int 2)) tNil)) tNil)))) tNext) (tSeq (tIfS (tTest (tOp rEq (tVar 0) (tC (.int 4)))) (tRet (tCallS (sp_P_meet K cs) (WE (wOf E)) (tCons (tLst tNil) (tCons (tLst tNil) tNil)))) tNext) (tSeq (tIfS (tTest (tOp rEq (tVar 0) (tC (.int 5)))) (tRet (tCallS (sp_P_parts K cs) (WE (wOf E)) (tCons (tLst tNil) tNil))) tNext) (tRet (tCallS (sp_P_read K cs) (WE (wOf E)) (tCons (tC (.str "")) tNil)))))))))
theorem er_callP {σ : L2.St} {H : Hp} {sp : Sp} {W : WX} {tt : TA} {Ps : List (V → Hp → Prop)} (h : EvPs tt σ H Ps) (hs : ∀ vs H1, Ex H H1 → All2 Ps vs H1 → ∀ Q : VK, sp vs H1 Q (fun cls d H2 => W cls d σ H2)) : EvR (tCallS sp (WE W) tt) σ H := fun H1 e Q => h H1 e _ fun vs H2 e2 hvs => hs vs H2 (e.trans e2) hvs Q
theorem no_half : ¬∃ q, Po.of [1] = q * Po.of [2] := fun ⟨q, h⟩ => by
  have e1 := congrArg (Po.ev 0) h
  rw [Po.ev_mul, Po.ev_of, Po.ev_of] at e1
  have e1 : (1 : Int) = Po.ev 0 q * 2 := e1
  omega
theorem cf_small {l : List Int} (h : ∀ x ∈ l, x.natAbs < 2 ^ 30) : ∀ k, (cf l k).natAbs < 2 ^ 30 := fun k => by
  by_cases hk : k < l.length
  · rw [cf_lt hk]
    exact h _ (List.getElem_mem hk)
  · rw [cf_ge (by omega)]
    exact two_le_pow 30
theorem run_L_refuse {K : PySem.W.Frag} {cs : Cs} {vs : List V} {H : Hp} {Q : VK} {E : XK} {l : List Addr} (_ : Tx K cs.PolyError l) (_ : cs.NoNumber ∈ l) (_ : cs.NoPower ∈ l) (_ : cs.ByNought ∈ l) (_ : cs.NotWhole ∈ l) (_ : cs.NoMeet ∈ l) (_ : cs.NoParts ∈ l) (_ : cs.NotWritten ∈ l) (h : sp_L_refuse K cs vs H Q E) : t_L_refuse K cs E { nx := fun _ H' => Q .non H', rt := Q } (start ["_law_which"] vs) H := by
  obtain ⟨k, rfl, hk, hE⟩ := h
  refine q_when (et_test (ev_eqI (ev_var rfl) ev_c)) (fun hb H1 e1 => ?_) (fun hb H1 e1 => ?_)
  · have h0 : k = 0 := by
      have := of_decide_eq_true hb
      omega
    subst h0
    refine r_ret (er_callP (eps_l (el_lst (ea_cons ev_c ea_nil) (by simp)) eps_nil) fun vs H2 e2 hvs Q2 => ?_)
    obtain ⟨v, rfl, p, rfl, hp⟩ := all2_one hvs
    exact ⟨p, rfl, sq_of hp, fun H' e' => hE H' ((e1.trans e2).trans e')⟩
  have k0 : k ≠ 0 := by
    have := of_decide_eq_false hb
    omega
  refine q_when (et_test (ev_eqI (ev_var rfl) ev_c)) (fun hb H2 e2 => ?_) (fun hb H2 e2 => ?_)
  · have h0 : k = 1 := by
      have := of_decide_eq_true hb
      omega
    subst h0
    refine r_ret (er_callP (eps_l (el_lst (ea_cons ev_c ea_nil) (by simp)) (eps_V (ev_neg ev_c) eps_nil)) fun vs H3 e3 hvs Q3 => ?_)
    obtain ⟨v, w, rfl, ⟨p, rfl, hp⟩, rfl⟩ := all2_two hvs
    exact ⟨p, [2], -1, rfl, sq_of hp, .inl ⟨by decide, fun H' e' => hE H' (((e1.trans e2).trans e3).trans e')⟩⟩
  have k1 : k ≠ 1 := by
    have := of_decide_eq_false hb
    omega
  have e12 := e1.trans e2
  have dA : ∀ {H' : Hp} {p q : Addr} (ms : List Int), (ms = [] ∨ ms = [2]) → H' p = some (.lst [.int 1]) → H' q = some (.lst (ms.map V.int)) → DivA K H' p q [1] ms 30 30 := fun ms hms hp hq => ⟨sq_of (xs := [1].map V.int) hp, sq_of hq, by decide, by rcases hms with h | h <;> rw [h] <;> decide, nf_of_last (.inr (by show (1 : Int) ≠ 0; decide)), by
    rcases hms with h | h
    · rw [h]
      exact nf_nil
    · rw [h]
      exact nf_of_last (.inr (by show (2 : Int) ≠ 0; decide)), cf_small (fun x hx => by simp at hx; rw [hx]; decide), cf_small (fun x hx => by
      rcases hms with h | h
      · rw [h] at hx
        simp at hx
      · rw [h] at hx
        simp at hx
        rw [hx]
        decide), by rcases hms with h | h <;> rw [h] <;> decide +kernel⟩
  refine q_when (et_test (ev_eqI (ev_var rfl) ev_c)) (fun hb H3 e3 => ?_) (fun hb H3 e3 => ?_)
  · have h0 : k = 2 := by
      have := of_decide_eq_true hb
      omega
    subst h0
    refine r_ret (er_callP (eps_l (el_lst (ea_cons ev_c ea_nil) (by simp)) (eps_l (el_lst ea_nil (by simp)) eps_nil)) fun vs H4 e4 hvs Q4 => ?_)
    obtain ⟨v, w, rfl, ⟨p, rfl, hp⟩, ⟨p2, rfl, hp2⟩⟩ := all2_two hvs
    exact ⟨p, p2, [1], [], 30, 30, rfl, dA [] (.inl rfl) hp hp2, .inl ⟨rfl, fun H' e' => hE H' (((e12.trans e3).trans e4).trans e')⟩⟩
  have k2 : k ≠ 2 := by
    have := of_decide_eq_false hb
    omega
  refine q_when (et_test (ev_eqI (ev_var rfl) ev_c)) (fun hb H4 e4 => ?_) (fun hb H4 e4 => ?_)
  · have h0 : k = 3 := by
      have := of_decide_eq_true hb
      omega
    subst h0
    refine r_ret (er_callP (eps_l (el_lst (ea_cons ev_c ea_nil) (by simp)) (eps_l (el_lst (ea_cons ev_c ea_nil) (by simp)) eps_nil)) fun vs H5 e5 hvs Q5 => ?_)
    obtain ⟨v, w, rfl, ⟨p, rfl, hp⟩, ⟨p2, rfl, hp2⟩⟩ := all2_two hvs
    exact ⟨p, p2, [1], [2], 30, 30, rfl, dA [2] (.inr rfl) hp hp2, .inr (.inl ⟨by simp, no_half, fun H' e' => hE H' ((((e12.trans e3).trans e4).trans e5).trans e')⟩)⟩
  have k3 : k ≠ 3 := by
    have := of_decide_eq_false hb
    omega
  have e14 := (e12.trans e3).trans e4
  refine q_when (et_test (ev_eqI (ev_var rfl) ev_c)) (fun hb H5 e5 => ?_) (fun hb H5 e5 => ?_)
  · have h0 : k = 4 := by
      have := of_decide_eq_true hb
      omega
    subst h0
    refine r_ret (er_callP (eps_l (el_lst ea_nil (by simp)) (eps_l (el_lst ea_nil (by simp)) eps_nil)) fun vs H6 e6 hvs Q6 => ?_)
    obtain ⟨v, w, rfl, ⟨p, rfl, hp⟩, ⟨p2, rfl, hp2⟩⟩ := all2_two hvs
    exact ⟨p, p2, [], [], 30, 1, 1, rfl, ⟨sq_of hp, sq_of hp2, by simp, by simp, by decide, nf_nil, nf_nil, by decide, by decide, fun k => by rw [cf_nil]; exact Nat.pow_pos (by decide), fun k => by rw [cf_nil]; exact Nat.pow_pos (by decide), com_one _ _, by decide⟩, .inl ⟨rfl, rfl, fun H' e' => hE H' (((e14.trans e5).trans e6).trans e')⟩⟩
  have k4 : k ≠ 4 := by
    have := of_decide_eq_false hb
    omega
  refine q_when (et_test (ev_eqI (ev_var rfl) ev_c)) (fun hb H6 e6 => ?_) (fun hb H6 e6 => ?_)
  · have h0 : k = 5 := by
      have := of_decide_eq_true hb
      omega
    subst h0
    refine r_ret (er_callP (eps_l (el_lst ea_nil (by simp)) eps_nil) fun vs H7 e7 hvs Q7 => ?_)
    obtain ⟨v, rfl, p, rfl, hp⟩ := all2_one hvs
    exact ⟨p, [], 30, 0, rfl, ⟨sq_of hp, nf_nil, by simp, by decide, by decide, fun k => by rw [cf_nil]; exact Nat.pow_pos (by decide), .inl rfl, by decide⟩, .inl ⟨rfl, fun H' e' => hE H' ((((e14.trans e5).trans e6).trans e7).trans e')⟩⟩
  have k5 : k ≠ 5 := by
    have := of_decide_eq_false hb
    omega
  have h0 : k = 6 := by omega
  subst h0
  refine r_ret (er_callS (ea_cons (ev_cS (l := []) (by decide +kernel)) ea_nil) fun H7 e7 Q7 => ⟨[], rfl, by decide, by decide +kernel, .inl ⟨by decide +kernel, fun H' e' => hE H' ((((e14.trans e5).trans e6).trans e7).trans e')⟩⟩)

-- USES: L_refuse
-- EXC: NoNumber NoPower ByNought NotWhole NoMeet NoParts NotWritten NoPower/NoNumber ByNought/NoNumber ByNought/NoPower NotWhole/NoNumber NotWhole/NoPower NotWhole/ByNought NoMeet/NoNumber NoMeet/NoPower NoMeet/ByNought NoMeet/NotWhole NoParts/NoNumber NoParts/NoPower NoParts/ByNought NoParts/NotWhole NoParts/NoMeet NotWritten/NoNumber NotWritten/NoPower NotWritten/ByNought NotWritten/NotWhole NotWritten/NoMeet NotWritten/NoParts
/-! _law_first: which class takes the refusal -/
def sp_L_first (K : PySem.W.Frag) (cs : Cs) : Sp := fun vs H Q _ => ∃ k : Nat, vs = [.int (k : Int)] ∧ k ≤ 6 ∧ RetV (.int (k : Int)) H Q
def t_L_first (K : PySem.W.Frag) (cs : Cs) : TS :=
  (tSeq (tTryM K [(.ref cs.NoNumber, fun a cls d => (tRet (tC (.int 0)))), (.ref cs.NoPower, fun a cls d => (tRet (tC (.int 1)))), (.ref cs.ByNought, fun a cls d => (tRet (tC (.int 2)))), (.ref cs.NotWhole, fun a cls d => (tRet (tC (.int 3)))), (.ref cs.NoMeet, fun a cls d => (tRet (tC (.int 4)))), (.ref cs.NoParts, fun a cls d => (tRet (tC (.int 5)))), (.ref cs.NotWritten, fun a cls d => (tRet (tC (.int 6))))] (fun W1 => (tDrop (tCallS (sp_L_refuse K cs) (WE W1) (tCons (tVar 0) tNil)))) wNone) (tRet (tC (.int 7))))
theorem run_L_first {K : PySem.W.Frag} {cs : Cs} {vs : List V} {H : Hp} {Q : VK} {E : XK} {l : List Addr} (T : Tx K cs.PolyError l) (i0 : cs.NoNumber ∈ l) (i1 : cs.NoPower ∈ l) (i2 : cs.ByNought ∈ l) (i3 : cs.NotWhole ∈ l) (i4 : cs.NoMeet ∈ l) (i5 : cs.NoParts ∈ l) (i6 : cs.NotWritten ∈ l) (n10 : PySem.W.subIn K (.ref cs.NoPower) (.ref cs.NoNumber) = some false) (n20 : PySem.W.subIn K (.ref cs.ByNought) (.ref cs.NoNumber) = some false) (n21 : PySem.W.subIn K (.ref cs.ByNought) (.ref cs.NoPower) = some false) (n30 : PySem.W.subIn K (.ref cs.NotWhole) (.ref cs.NoNumber) = some false) (n31 : PySem.W.subIn K (.ref cs.NotWhole) (.ref cs.NoPower) = some false) (n32 : PySem.W.subIn K (.ref cs.NotWhole) (.ref cs.ByNought) = some false) (n40 : PySem.W.subIn K (.ref cs.NoMeet) (.ref cs.NoNumber) = some false) (n41 : PySem.W.subIn K (.ref cs.NoMeet) (.ref cs.NoPower) = some false) (n42 : PySem.W.subIn K (.ref cs.NoMeet) (.ref cs.ByNought) = some false) (n43 : PySem.W.subIn K (.ref cs.NoMeet) (.ref cs.NotWhole) = some false) (n50 : PySem.W.subIn K (.ref cs.NoParts) (.ref cs.NoNumber) = some false) (n51 : PySem.W.subIn K (.ref cs.NoParts) (.ref cs.NoPower) = some false) (n52 : PySem.W.subIn K (.ref cs.NoParts) (.ref cs.ByNought) = some false) (n53 : PySem.W.subIn K (.ref cs.NoParts) (.ref cs.NotWhole) = some false) (n54 : PySem.W.subIn K (.ref cs.NoParts) (.ref cs.NoMeet) = some false) (n60 : PySem.W.subIn K (.ref cs.NotWritten) (.ref cs.NoNumber) = some false) (n61 : PySem.W.subIn K (.ref cs.NotWritten) (.ref cs.NoPower) = some false) (n62 : PySem.W.subIn K (.ref cs.NotWritten) (.ref cs.ByNought) = some false) (n63 : PySem.W.subIn K (.ref cs.NotWritten) (.ref cs.NotWhole) = some false) (n64 : PySem.W.subIn K (.ref cs.NotWritten) (.ref cs.NoMeet) = some false) (n65 : PySem.W.subIn K (.ref cs.NotWritten) (.ref cs.NoParts) = some false) (h : sp_L_first K cs vs H Q E) : t_L_first K cs { nx := fun _ H' => Q .non H', rt := Q } (start ["_law_which"] vs) H := by
  obtain ⟨k, rfl, hk, q⟩ := h
  refine q_tryM (s_dropS (ea_cons (ev_var rfl) ea_nil) fun H1 e1 => ⟨k, rfl, hk, fun H2 e2 => ?_⟩)
  match k, hk, q with
  | 0, _, q => exact ⟨true, T.self i0, fun _ x hx => s_ret ev_c fun H3 e3 => q H3 ((e1.trans e2).trans e3), fun q => nomatch q⟩
  | 1, _, q => exact ⟨false, (T.cls _ i0).1.exm n10, (fun q => nomatch q), fun _ => ⟨true, T.self i1, fun _ x hx => s_ret ev_c fun H3 e3 => q H3 ((e1.trans e2).trans e3), fun q => nomatch q⟩⟩
  | 2, _, q => exact ⟨false, (T.cls _ i0).1.exm n20, (fun q => nomatch q), fun _ => ⟨false, (T.cls _ i1).1.exm n21, (fun q => nomatch q), fun _ => ⟨true, T.self i2, fun _ x hx => s_ret ev_c fun H3 e3 => q H3 ((e1.trans e2).trans e3), fun q => nomatch q⟩⟩⟩
  | 3, _, q => exact ⟨false, (T.cls _ i0).1.exm n30, (fun q => nomatch q), fun _ => ⟨false, (T.cls _ i1).1.exm n31, (fun q => nomatch q), fun _ => ⟨false, (T.cls _ i2).1.exm n32, (fun q => nomatch q), fun _ => ⟨true, T.self i3, fun _ x hx => s_ret ev_c fun H3 e3 => q H3 ((e1.trans e2).trans e3), fun q => nomatch q⟩⟩⟩⟩
  | 4, _, q => exact ⟨false, (T.cls _ i0).1.exm n40, (fun q => nomatch q), fun _ => ⟨false, (T.cls _ i1).1.exm n41, (fun q => nomatch q), fun _ => ⟨false, (T.cls _ i2).1.exm n42, (fun q => nomatch q), fun _ => ⟨false, (T.cls _ i3).1.exm n43, (fun q => nomatch q), fun _ => ⟨true, T.self i4, fun _ x hx => s_ret ev_c fun H3 e3 => q H3 ((e1.trans e2).trans e3), fun q => nomatch q⟩⟩⟩⟩⟩
  | 5, _, q => exact ⟨false, (T.cls _ i0).1.exm n50, (fun q => nomatch q), fun _ => ⟨false, (T.cls _ i1).1.exm n51, (fun q => nomatch q), fun _ => ⟨false, (T.cls _ i2).1.exm n52, (fun q => nomatch q), fun _ => ⟨false, (T.cls _ i3).1.exm n53, (fun q => nomatch q), fun _ => ⟨false, (T.cls _ i4).1.exm n54, (fun q => nomatch q), fun _ => ⟨true, T.self i5, fun _ x hx => s_ret ev_c fun H3 e3 => q H3 ((e1.trans e2).trans e3), fun q => nomatch q⟩⟩⟩⟩⟩⟩
  | 6, _, q => exact ⟨false, (T.cls _ i0).1.exm n60, (fun q => nomatch q), fun _ => ⟨false, (T.cls _ i1).1.exm n61, (fun q => nomatch q), fun _ => ⟨false, (T.cls _ i2).1.exm n62, (fun q => nomatch q), fun _ => ⟨false, (T.cls _ i3).1.exm n63, (fun q => nomatch q), fun _ => ⟨false, (T.cls _ i4).1.exm n64, (fun q => nomatch q), fun _ => ⟨false, (T.cls _ i5).1.exm n65, (fun q => nomatch q), fun _ => ⟨true, T.self i6, fun _ x hx => s_ret ev_c fun H3 e3 => q H3 ((e1.trans e2).trans e3), fun q => nomatch q⟩⟩⟩⟩⟩⟩⟩
  | k + 7, hk, _ => omega
theorem sv_L_first {K : PySem.W.Frag} {cs : Cs} {H : Hp} {k : Nat} (hk : k ≤ 6) : SpV (sp_L_first K cs) [.int (k : Int)] H (.int (k : Int)) := fun H1 e Q q E => ⟨k, rfl, hk, q⟩

-- USES: L_refuse
-- EXC: NoNumber NoPower ByNought NotWhole NoMeet NoParts NotWritten NoNumber/NotWritten NoNumber/NoParts NoNumber/NoMeet NoNumber/NotWhole NoNumber/ByNought NoNumber/NoPower NoPower/NotWritten NoPower/NoParts NoPower/NoMeet NoPower/NotWhole NoPower/ByNought ByNought/NotWritten ByNought/NoParts ByNought/NoMeet ByNought/NotWhole NotWhole/NotWritten NotWhole/NoParts NotWhole/NoMeet NoMeet/NotWritten NoMeet/NoParts NoParts/NotWritten
/-! _law_last: which class takes the refusal -/
def sp_L_last (K : PySem.W.Frag) (cs : Cs) : Sp := fun vs H Q _ => ∃ k : Nat, vs = [.int (k : Int)] ∧ k ≤ 6 ∧ RetV (.int (k : Int)) H Q
def t_L_last (K : PySem.W.Frag) (cs : Cs) : TS :=
  (tSeq (tTryM K [(.ref cs.NotWritten, fun a cls d => (tRet (tC (.int 6)))), (.ref cs.NoParts, fun a cls d => (tRet (tC (.int 5)))), (.ref cs.NoMeet, fun a cls d => (tRet (tC (.int 4)))), (.ref cs.NotWhole, fun a cls d => (tRet (tC (.int 3)))), (.ref cs.ByNought, fun a cls d => (tRet (tC (.int 2)))), (.ref cs.NoPower, fun a cls d => (tRet (tC (.int 1)))), (.ref cs.NoNumber, fun a cls d => (tRet (tC (.int 0))))] (fun W1 => (tDrop (tCallS (sp_L_refuse K cs) (WE W1) (tCons (tVar 0) tNil)))) wNone) (tRet (tC (.int 7))))
theorem run_L_last {K : PySem.W.Frag} {cs : Cs} {vs : List V} {H : Hp} {Q : VK} {E : XK} {l : List Addr} (T : Tx K cs.PolyError l) (i0 : cs.NoNumber ∈ l) (i1 : cs.NoPower ∈ l) (i2 : cs.ByNought ∈ l) (i3 : cs.NotWhole ∈ l) (i4 : cs.NoMeet ∈ l) (i5 : cs.NoParts ∈ l) (i6 : cs.NotWritten ∈ l) (n06 : PySem.W.subIn K (.ref cs.NoNumber) (.ref cs.NotWritten) = some false) (n05 : PySem.W.subIn K (.ref cs.NoNumber) (.ref cs.NoParts) = some false) (n04 : PySem.W.subIn K (.ref cs.NoNumber) (.ref cs.NoMeet) = some false) (n03 : PySem.W.subIn K (.ref cs.NoNumber) (.ref cs.NotWhole) = some false) (n02 : PySem.W.subIn K (.ref cs.NoNumber) (.ref cs.ByNought) = some false) (n01 : PySem.W.subIn K (.ref cs.NoNumber) (.ref cs.NoPower) = some false) (n16 : PySem.W.subIn K (.ref cs.NoPower) (.ref cs.NotWritten) = some false) (n15 : PySem.W.subIn K (.ref cs.NoPower) (.ref cs.NoParts) = some false) (n14 : PySem.W.subIn K (.ref cs.NoPower) (.ref cs.NoMeet) = some false) (n13 : PySem.W.subIn K (.ref cs.NoPower) (.ref cs.NotWhole) = some false) (n12 : PySem.W.subIn K (.ref cs.NoPower) (.ref cs.ByNought) = some false) (n26 : PySem.W.subIn K (.ref cs.ByNought) (.ref cs.NotWritten) = some false) (n25 : PySem.W.subIn K (.ref cs.ByNought) (.ref cs.NoParts) = some false) (n24 : PySem.W.subIn K (.ref cs.ByNought) (.ref cs.NoMeet) = some false) (n23 : PySem.W.subIn K (.ref cs.ByNought) (.ref cs.NotWhole) = some false) (n36 : PySem.W.subIn K (.ref cs.NotWhole) (.ref cs.NotWritten) = some false) (n35 : PySem.W.subIn K (.ref cs.NotWhole) (.ref cs.NoParts) = some false) (n34 : PySem.W.subIn K (.ref cs.NotWhole) (.ref cs.NoMeet) = some false) (n46 : PySem.W.subIn K (.ref cs.NoMeet) (.ref cs.NotWritten) = some false) (n45 : PySem.W.subIn K (.ref cs.NoMeet) (.ref cs.NoParts) = some false) (n56 : PySem.W.subIn K (.ref cs.NoParts) (.ref cs.NotWritten) = some false) (h : sp_L_last K cs vs H Q E) : t_L_last K cs { nx := fun _ H' => Q .non H', rt := Q } (start ["_law_which"] vs) H := by
  obtain ⟨k, rfl, hk, q⟩ := h
  refine q_tryM (s_dropS (ea_cons (ev_var rfl) ea_nil) fun H1 e1 => ⟨k, rfl, hk, fun H2 e2 => ?_⟩)
  match k, hk, q with
  | 0, _, q => exact ⟨false, (T.cls _ i6).1.exm n06, (fun q => nomatch q), fun _ => ⟨false, (T.cls _ i5).1.exm n05, (fun q => nomatch q), fun _ => ⟨false, (T.cls _ i4).1.exm n04, (fun q => nomatch q), fun _ => ⟨false, (T.cls _ i3).1.exm n03, (fun q => nomatch q), fun _ => ⟨false, (T.cls _ i2).1.exm n02, (fun q => nomatch q), fun _ => ⟨false, (T.cls _ i1).1.exm n01, (fun q => nomatch q), fun _ => ⟨true, T.self i0, fun _ x hx => s_ret ev_c fun H3 e3 => q H3 ((e1.trans e2).trans e3), fun q => nomatch q⟩⟩⟩⟩⟩⟩⟩
  | 1, _, q => exact ⟨false, (T.cls _ i6).1.exm n16, (fun q => nomatch q), fun _ => ⟨false, (T.cls _ i5).1.exm n15, (fun q => nomatch q), fun _ => ⟨false, (T.cls _ i4).1.exm n14, (fun q => nomatch q), fun _ => ⟨false, (T.cls _ i3).1.exm n13, (fun q => nomatch q), fun _ => ⟨false, (T.cls _ i2).1.exm n12, (fun q => nomatch q), fun _ => ⟨true, T.self i1, fun _ x hx => s_ret ev_c fun H3 e3 => q H3 ((e1.trans e2).trans e3), fun q => nomatch q⟩⟩⟩⟩⟩⟩
  | 2, _, q => exact ⟨false, (T.cls _ i6).1.exm n26, (fun q => nomatch q), fun _ => ⟨false, (T.cls _ i5).1.exm n25, (fun q => nomatch q), fun _ => ⟨false, (T.cls _ i4).1.exm n24, (fun q => nomatch q), fun _ => ⟨false, (T.cls _ i3).1.exm n23, (fun q => nomatch q), fun _ => ⟨true, T.self i2, fun _ x hx => s_ret ev_c fun H3 e3 => q H3 ((e1.trans e2).trans e3), fun q => nomatch q⟩⟩⟩⟩⟩
  | 3, _, q => exact ⟨false, (T.cls _ i6).1.exm n36, (fun q => nomatch q), fun _ => ⟨false, (T.cls _ i5).1.exm n35, (fun q => nomatch q), fun _ => ⟨false, (T.cls _ i4).1.exm n34, (fun q => nomatch q), fun _ => ⟨true, T.self i3, fun _ x hx => s_ret ev_c fun H3 e3 => q H3 ((e1.trans e2).trans e3), fun q => nomatch q⟩⟩⟩⟩
  | 4, _, q => exact ⟨false, (T.cls _ i6).1.exm n46, (fun q => nomatch q), fun _ => ⟨false, (T.cls _ i5).1.exm n45, (fun q => nomatch q), fun _ => ⟨true, T.self i4, fun _ x hx => s_ret ev_c fun H3 e3 => q H3 ((e1.trans e2).trans e3), fun q => nomatch q⟩⟩⟩
  | 5, _, q => exact ⟨false, (T.cls _ i6).1.exm n56, (fun q => nomatch q), fun _ => ⟨true, T.self i5, fun _ x hx => s_ret ev_c fun H3 e3 => q H3 ((e1.trans e2).trans e3), fun q => nomatch q⟩⟩
  | 6, _, q => exact ⟨true, T.self i6, fun _ x hx => s_ret ev_c fun H3 e3 => q H3 ((e1.trans e2).trans e3), fun q => nomatch q⟩
  | k + 7, hk, _ => omega
theorem sv_L_last {K : PySem.W.Frag} {cs : Cs} {H : Hp} {k : Nat} (hk : k ≤ 6) : SpV (sp_L_last K cs) [.int (k : Int)] H (.int (k : Int)) := fun H1 e Q q E => ⟨k, rfl, hk, q⟩

-- USES: P_read
-- EXC: NotWritten
/-! _law_refused: a text that is refused, taken by the base -/
def sp_L_refused (K : PySem.W.Frag) (cs : Cs) : Sp := fun vs H Q _ => ∃ l : List Nat, vs = [.str (S l)] ∧ l.length ≤ 80000 ∧ (∀ w ∈ wordsN l, w.length ≤ 640) ∧ readN l = none ∧ RetV (.bl true) H Q
def t_L_refused (K : PySem.W.Frag) (cs : Cs) : TS :=
  (tSeq (tTryA K (.ref cs.PolyError) 1 (fun W1 => (tDrop (tCallS (sp_P_read K cs) (WE W1) (tCons (tVar 0) tNil)))) (fun a cls d => (tRet (tIsE K a cls d (tVar 1) "ValueError"))) wNone) (tRet (tC (.bl false))))
theorem run_L_refused {K : PySem.W.Frag} {cs : Cs} {vs : List V} {H : Hp} {Q : VK} {E : XK} {l : List Addr} (T : Tx K cs.PolyError l) (h1 : cs.NotWritten ∈ l) (h : sp_L_refused K cs vs H Q E) : t_L_refused K cs { nx := fun _ H' => Q .non H', rt := Q } (start ["_law_line", "e"] vs) H := by
  obtain ⟨l, rfl, hl, hw, hn, q⟩ := h
  refine q_tryA (s_dropS (ea_cons (ev_var rfl) ea_nil) fun H1 e1 => ⟨l, rfl, hl, hw, .inl ⟨hn, fun H3 e3 => ⟨true, T.up h1, fun _ x hx => ?_, fun q => nomatch q⟩⟩⟩)
  exact s_ret (ev_isE (ev_var rfl) (T.cls _ h1).1.c (T.cls _ h1).1.v) fun H4 e4 => q H4 ((e1.trans e3).trans e4)
theorem sv_L_refused {K : PySem.W.Frag} {cs : Cs} {H : Hp} {l : List Nat} (hl : l.length ≤ 80000) (hw : ∀ w ∈ wordsN l, w.length ≤ 640) (hn : readN l = none) : SpV (sp_L_refused K cs) [.str (S l)] H (.bl true) := fun H1 e Q q E => ⟨l, rfl, hl, hw, hn, q⟩

-- USES: P_read
/-! what is shown is read again -/
theorem numL_head : ∀ n : Nat, 1 ≤ n → (numL n).head? ≠ some 48 := by
  intro n
  induction n using Nat.strongRecOn with
  | _ n ih =>
    intro h1 hc
    by_cases h : n < 10
    · rw [show numL n = [48 + n] from TL.numL_lt h] at hc
      have := Option.some.inj hc
      omega
    · rw [show numL n = numL (n / 10) ++ [48 + n % 10] from TL.numL_step (by omega), List.head?_append] at hc
      have h2 := ih (n / 10) (by omega) (by omega)
      cases h3 : (numL (n / 10)).head? with
      | none => exact absurd (List.head?_eq_none_iff.mp h3) (TL.numL_ne _)
      | some c =>
        rw [h3] at hc h2
        exact h2 hc
theorem whole_num {n : Nat} (h : 1 ≤ n) : wholeN (numL n) = some n := by
  unfold wholeN
  have h1 : digL (numL n) = true := List.all_eq_true.mpr fun c hc => by
    have := TL.numL_digits n c hc
    rw [Bool.and_eq_true]
    exact ⟨decide_eq_true this.1, decide_eq_true this.2⟩
  rw [if_pos ⟨by rw [h1, decide_eq_true (TL.numL_ne n)]; rfl, numL_head n h⟩, TL.numL_val]
theorem size_num {n : Nat} (h : 1 ≤ n) : sizeN (if n = 1 then [] else numL n) = some n := by
  by_cases h1 : n = 1
  · rw [if_pos h1, h1]
    rfl
  · rw [if_neg h1]
    unfold sizeN
    have e : numL n ≠ [49] := fun e => by
      have e2 : numL 1 = [49] := TL.numL_lt (by decide)
      exact h1 (TL.numL_inj (e.trans e2.symm))
    rw [if_neg (TL.numL_ne n), if_neg e, whole_num h]
theorem power_num {p : Nat} (h : 1 ≤ p) (hp : p < 100) : powerN (if p = 1 then [] else [94] ++ numL p) = some p := by
  by_cases h1 : p = 1
  · rw [if_pos h1, h1]
    rfl
  · rw [if_neg h1]
    unfold powerN
    have hl := numL_len p 2 (by decide) (by omega)
    have e : (!decide (([94] ++ numL p).head? = some 94) || decide ((3 : Int) < ((([94] ++ numL p).length : Nat) : Int))) = false := by
      have e1 : decide (([94] ++ numL p).head? = some 94) = true := decide_eq_true rfl
      have e2 : decide ((3 : Int) < ((([94] ++ numL p).length : Nat) : Int)) = false := decide_eq_false (by rw [List.length_append]; simp only [List.length_cons, List.length_nil]; omega)
      rw [e1, e2]
      rfl
    rw [if_neg (by simp), e, if_neg (by decide)]
    show (if wholeN (numL p) = some 1 then none else wholeN (numL p)) = some p
    rw [whole_num h, if_neg (by intro e; exact h1 (Option.some.inj e))]
theorem term_num {s p : Nat} (h : 1 ≤ s) (hp : p < 100) : termN (termL s p) = some (s, p) := by
  by_cases h0 : p = 0
  · have e : termL s p = numL s := by
      unfold termL
      rw [if_pos h0]
    rw [e, termN_none (TL.par_none1 (TL.numL_free (by decide))), whole_num h, h0]
    rfl
  · have e : termL s p = (if s = 1 then [] else numL s) ++ ([120] ++ (if p = 1 then [] else [94] ++ numL p)) := by
      unfold termL
      rw [if_neg h0]
      congr 1
      split <;> rfl
    have hn : 120 ∉ (if s = 1 then [] else numL s) := by
      split
      · simp
      · exact TL.numL_free (by decide)
    have hpar : TL.par [120] [] (termL s p) = some ((if s = 1 then [] else numL s), (if p = 1 then [] else [94] ++ numL p)) := by
      rw [e]
      have := TL.par_part1 (s := 120) (S := []) (acc := []) (rest := (if p = 1 then [] else [94] ++ numL p)) hn
      rw [List.nil_append] at this
      exact this
    rw [termN_some hpar, size_num h, power_num (by omega) hp]
    rfl
theorem term_ne (s p : Nat) : termL s p ≠ [] := by
  unfold termL
  split
  · exact TL.numL_ne s
  · intro e
    have := (List.append_eq_nil_iff.mp e).2
    split at this <;> simp at this
theorem term_free {s p c : Nat} (h : c < 48 ∨ 57 < c) (h1 : c ≠ 120) (h2 : c ≠ 94) : c ∉ termL s p := by
  unfold termL
  intro hm
  split at hm
  · exact TL.numL_free h hm
  · rcases List.mem_append.mp hm with hm | hm
    · split at hm
      · simp at hm
      · exact TL.numL_free h hm
    · split at hm
      · simp at hm
        exact h1 hm
      · rcases List.mem_append.mp hm with hm | hm
        · simp at hm
          rcases hm with hm | hm
          · exact h1 hm
          · exact h2 hm
        · exact TL.numL_free h hm
theorem term_head {s p : Nat} (h : 1 ≤ s) : (termL s p).head? ≠ some 48 := by
  unfold termL
  split
  · exact numL_head s h
  · by_cases h1 : s = 1
    · rw [if_pos h1, List.nil_append]
      split <;> simp
    · rw [if_neg h1, List.head?_append]
      have h2 := numL_head s h
      cases h3 : (numL s).head? with
      | none => exact absurd (List.head?_eq_none_iff.mp h3) (TL.numL_ne _)
      | some c =>
        rw [h3] at h2
        exact h2
/-- signs and terms, from the greatest power down -/
def sgL (x : Int) : List Nat := if x < 0 then [45] else [43]
def wT (ns : List Int) : Nat → List (List Nat × List Nat)
  | 0 => []
  | i + 1 => if ns.getD (ns.length - 1 - i) 0 = 0 then wT ns i else wT ns i ++ [(sgL (ns.getD (ns.length - 1 - i) 0), termL (ns.getD (ns.length - 1 - i) 0).natAbs (ns.length - 1 - i))]
def flatW : List (List Nat × List Nat) → List (List Nat)
  | [] => []
  | w :: r => w.1 :: w.2 :: flatW r
theorem flat_app : ∀ a b : List (List Nat × List Nat), flatW (a ++ b) = flatW a ++ flatW b
  | [], b => rfl
  | w :: a, b => by
    show w.1 :: w.2 :: flatW (a ++ b) = w.1 :: w.2 :: (flatW a ++ flatW b)
    rw [flat_app a b]
theorem flat_len : ∀ a : List (List Nat × List Nat), (flatW a).length = 2 * a.length
  | [] => rfl
  | w :: a => by
    have := flat_len a
    show (flatW a).length + 1 + 1 = _
    rw [this, List.length_cons]
    omega
theorem flat_evn : ∀ a : List (List Nat × List Nat), evn (flatW a) = a.map fun w => w.1
  | [] => rfl
  | w :: a => by
    show w.1 :: evn (flatW a) = _
    rw [flat_evn a]
    rfl
theorem evn_tail : ∀ a : List (List Nat × List Nat), evn ((flatW a).drop 1) = a.map fun w => w.2
  | [] => rfl
  | [w] => rfl
  | w :: v :: a => by
    have := evn_tail (v :: a)
    show w.2 :: evn ((flatW (v :: a)).drop 1) = _
    rw [this]
    rfl
theorem pr_flat (a : List (List Nat × List Nat)) : prN (flatW a) = a := by
  unfold prN
  rw [flat_evn, evn_tail]
  induction a with
  | nil => rfl
  | cons w a ih =>
    rw [List.map_cons, List.map_cons, List.zip_cons_cons, ih]
theorem join_snoc2 : ∀ (ps : List (List Nat)) (a b : List Nat), ps ≠ [] → TL.joinL [32] (ps ++ [a, b]) = TL.joinL [32] ps ++ ([32] ++ (a ++ ([32] ++ b)))
  | [], _, _, h => absurd rfl h
  | [p], a, b, _ => rfl
  | p :: q :: r, a, b, _ => by
    have ih := join_snoc2 (q :: r) a b (by simp)
    show p ++ ([32] ++ TL.joinL [32] (q :: r ++ [a, b])) = p ++ ([32] ++ TL.joinL [32] (q :: r)) ++ _
    rw [ih]
    simp
def preL (ws : List (List Nat × List Nat)) : List Nat := match ws with
  | [] => []
  | w :: _ => if w.1 = [45] then [45] else []
theorem pre_app {a b : List (List Nat × List Nat)} (h : a ≠ []) : preL (a ++ b) = preL a := by
  cases a with
  | nil => exact absurd rfl h
  | cons w r => rfl
theorem line_w (ns : List Int) : ∀ i : Nat, (wT ns i = [] ↔ lineT ns i = []) ∧ lineT ns i = preL (wT ns i) ++ TL.joinL [32] ((flatW (wT ns i)).drop 1)
  | 0 => ⟨⟨fun _ => rfl, fun _ => rfl⟩, rfl⟩
  | i + 1 => by
    obtain ⟨h1, h2⟩ := line_w ns i
    unfold wT lineT
    generalize ns.getD (ns.length - 1 - i) 0 = x
    by_cases hx : x = 0
    · rw [if_pos hx, if_pos hx]
      exact ⟨h1, h2⟩
    · rw [if_neg hx, if_neg hx]
      have ht := term_ne x.natAbs (ns.length - 1 - i)
      generalize termL x.natAbs (ns.length - 1 - i) = t at *
      refine ⟨⟨fun h => by simp at h, fun h => by
        have := (List.append_eq_nil_iff.mp (List.append_eq_nil_iff.mp h).2).2
        exact absurd this ht⟩, ?_⟩
      by_cases hw : wT ns i = []
      · have hl := h1.mp hw
        rw [hw, hl, decide_eq_true rfl]
        show [] ++ (signL (decide (x < 0)) true ++ t) = (if sgL x = [45] then [45] else []) ++ t
        unfold signL sgL
        by_cases hn : x < 0
        · simp [hn]
        · simp [hn]
      · have hl : lineT ns i ≠ [] := fun h => hw (h1.mpr h)
        rw [decide_eq_false hl, pre_app hw, flat_app]
        have hf : (flatW (wT ns i)).drop 1 ≠ [] := by
          have := flat_len (wT ns i)
          have h3 : 0 < (wT ns i).length := List.length_pos_iff.mpr hw
          intro h4
          have := congrArg List.length h4
          rw [List.length_drop] at this
          simp at this
          omega
        have hd : (flatW (wT ns i) ++ flatW [(sgL x, t)]).drop 1 = (flatW (wT ns i)).drop 1 ++ [sgL x, t] := by
          rw [List.drop_append_of_le_length (by have := flat_len (wT ns i); have h3 : 0 < (wT ns i).length := List.length_pos_iff.mpr hw; omega)]
          rfl
        have ea : ∀ R : List Nat, preL (wT ns i) ++ (TL.joinL [32] ((flatW (wT ns i)).drop 1) ++ R) = lineT ns i ++ R := fun R => by rw [← List.append_assoc, ← h2]
        rw [hd, join_snoc2 _ _ _ hf, ea]
        congr 1
        unfold signL sgL
        by_cases hn : x < 0
        · simp [hn]
        · simp [hn]
theorem wT_mem (ns : List Int) : ∀ (i : Nat) (w : List Nat × List Nat), w ∈ wT ns i → ∃ (x : Int) (p : Nat), x ≠ 0 ∧ w = (sgL x, termL x.natAbs p) ∧ x = ns.getD p 0 ∧ p ≤ ns.length - 1
  | 0, w, h => by simp [wT] at h
  | i + 1, w, h => by
    unfold wT at h
    split at h
    · exact wT_mem ns i w h
    · rename_i hx
      rcases List.mem_append.mp h with h | h
      · exact wT_mem ns i w h
      · rw [List.mem_singleton] at h
        exact ⟨_, ns.length - 1 - i, hx, h, rfl, by omega⟩
theorem sg_free (x : Int) : 32 ∉ sgL x := by
  unfold sgL
  split <;> simp
theorem flat_mem : ∀ {a : List (List Nat × List Nat)} {v : List Nat}, v ∈ flatW a → ∃ w ∈ a, v = w.1 ∨ v = w.2
  | w :: a, v, h => by
    rcases List.mem_cons.mp h with e | h
    · exact ⟨w, List.mem_cons_self, .inl e⟩
    · rcases List.mem_cons.mp h with e | h
      · exact ⟨w, List.mem_cons_self, .inr e⟩
      · obtain ⟨y, hy, h2⟩ := flat_mem h
        exact ⟨y, List.mem_cons_of_mem _ hy, h2⟩
theorem words_line {ns : List Int} (h : lineT ns ns.length ≠ []) : wordsN (lineT ns ns.length) = flatW (wT ns ns.length) := by
  obtain ⟨h1, h2⟩ := line_w ns ns.length
  have hm := wT_mem ns ns.length
  cases hw : wT ns ns.length with
  | nil => exact absurd (h1.mp hw) h
  | cons w r =>
    rw [hw] at h2 hm
    obtain ⟨x, p, hx, ew, _, _⟩ := hm w List.mem_cons_self
    have hfree : ∀ v ∈ w.2 :: flatW r, 32 ∉ v := fun v hv => by
      have hv2 : v ∈ flatW (w :: r) := List.mem_cons_of_mem _ hv
      obtain ⟨y, hy, h3⟩ := flat_mem hv2
      obtain ⟨x2, p2, _, e2, _, _⟩ := hm y hy
      rcases h3 with h3 | h3
      · rw [h3, e2]
        exact sg_free x2
      · rw [h3, e2]
        exact term_free (by decide) (by decide) (by decide)
    have hspl := TL.spl_join (s := 32) (S := []) (parts := w.2 :: flatW r) (by simp) hfree
    have hj : lineT ns ns.length = (if w.1 = [45] then [45] else []) ++ TL.joinL [32] (w.2 :: flatW r) := h2
    have hne : w.2 ≠ [] := by
      rw [ew]
      exact term_ne _ _
    have hhead : ∀ c, (TL.joinL [32] (w.2 :: flatW r)).head? = some c → c ∈ w.2 := fun c hc => by
      have key : (TL.joinL [32] (w.2 :: flatW r)).head? = w.2.head? := by
        cases h4 : w.2 with
        | nil => exact absurd h4 hne
        | cons d l =>
          cases flatW r with
          | nil => rfl
          | cons e f => rfl
      rw [key] at hc
      exact List.mem_of_mem_head? hc
    have hw1 : w.1 = sgL x := by rw [ew]
    have h45 : (TL.joinL [32] (w.2 :: flatW r)).head? ≠ some 45 := fun hc => by
      have := hhead 45 hc
      rw [ew] at this
      exact term_free (by decide) (by decide) (by decide) this
    show _ = w.1 :: w.2 :: flatW r
    generalize TL.joinL [32] (w.2 :: flatW r) = J at *
    by_cases hn : x < 0
    · have e1 : w.1 = [45] := by
        rw [hw1]
        unfold sgL
        rw [if_pos hn]
      rw [hj, e1, if_pos rfl]
      show wordsN (45 :: J) = [45] :: w.2 :: flatW r
      unfold wordsN
      rw [if_pos (show (45 :: J).head? = some 45 from rfl)]
      show [45] :: TL.spl [32] 0 [] J = _
      rw [hspl]
    · have e1 : w.1 = [43] := by
        rw [hw1]
        unfold sgL
        rw [if_neg hn]
      rw [hj, e1, if_neg (by decide), List.nil_append]
      unfold wordsN
      rw [if_neg h45, hspl]
theorem runN_app : ∀ (a b : List (List Nat × List Nat)) (st : List Int × Nat), runN (a ++ b) st = (runN a st).bind (runN b)
  | [], b, st => rfl
  | w :: a, b, st => by
    show (match stepN st w.1 w.2 with | none => none | some st' => runN (a ++ b) st') = (match stepN st w.1 w.2 with | none => none | some st' => runN a st').bind (runN b)
    cases stepN st w.1 w.2 with
    | none => rfl
    | some st' => exact runN_app a b st'
/-- the row as far as it is read -/
def rowP (ns : List Int) (i : Nat) : List Int := (List.range ns.length).map fun k => if ns.length - i ≤ k then ns.getD k 0 else 0
theorem rowP_len (ns : List Int) (i : Nat) : (rowP ns i).length = ns.length := by
  unfold rowP
  rw [List.length_map, List.length_range]
theorem rowP_at (ns : List Int) (i k : Nat) (h : k < ns.length) : (rowP ns i)[k]'(by rw [rowP_len]; exact h) = if ns.length - i ≤ k then ns.getD k 0 else 0 := by
  unfold rowP
  rw [List.getElem_map, List.getElem_range]
theorem rowP_step {ns : List Int} {i : Nat} (hi : i < ns.length) : rowP ns (i + 1) = (rowP ns i).set (ns.length - 1 - i) (ns.getD (ns.length - 1 - i) 0) := by
  refine List.ext_getElem (by rw [List.length_set, rowP_len, rowP_len]) fun k h1 h2 => ?_
  have hk : k < ns.length := by rw [rowP_len] at h1; exact h1
  rw [rowP_at ns (i + 1) k hk, List.getElem_set]
  by_cases he : ns.length - 1 - i = k
  · rw [if_pos he, if_pos (by omega), he]
  · rw [if_neg he, rowP_at ns i k hk]
    by_cases h3 : ns.length - i ≤ k
    · rw [if_pos (by omega), if_pos h3]
    · rw [if_neg (by omega), if_neg h3]
theorem rowP_zero {ns : List Int} {i : Nat} (hi : i < ns.length) (h : ns.getD (ns.length - 1 - i) 0 = 0) : rowP ns (i + 1) = rowP ns i := by
  rw [rowP_step hi, h]
  refine List.ext_getElem (by rw [List.length_set]) fun k h1 h2 => ?_
  have hk : k < ns.length := by rw [rowP_len] at h2; exact h2
  rw [List.getElem_set]
  by_cases he : ns.length - 1 - i = k
  · rw [if_pos he, rowP_at ns i k hk, if_neg (by omega)]
  · rw [if_neg he]
theorem rowP_none (ns : List Int) : rowP ns 0 = List.replicate ns.length 0 := by
  refine List.ext_getElem (by rw [rowP_len, List.length_replicate]) fun k h1 h2 => ?_
  have hk : k < ns.length := by rw [rowP_len] at h1; exact h1
  rw [rowP_at ns 0 k hk, if_neg (by omega), List.getElem_replicate]
theorem rowP_all (ns : List Int) : rowP ns ns.length = ns := by
  refine List.ext_getElem (rowP_len ns _) fun k h1 h2 => ?_
  rw [rowP_at ns ns.length k h2, if_pos (by omega), List.getD_eq_getElem?_getD, List.getElem?_eq_getElem h2]
  rfl
theorem sg_size (x : Int) : (if sgL x = [45] then -(x.natAbs : Int) else (x.natAbs : Int)) = x := by
  unfold sgL
  by_cases h : x < 0
  · rw [if_pos h, if_pos rfl]
    omega
  · rw [if_neg h, if_neg (by decide)]
    omega
theorem sg_ok (x : Int) : (decide (sgL x = [43]) || decide (sgL x = [45])) = true := by
  unfold sgL
  by_cases h : x < 0
  · rw [if_pos h]
    rfl
  · rw [if_neg h]
    rfl
theorem step_num {row : List Int} {low p : Nat} {x : Int} (hx : x ≠ 0) (hp : p < low) (hl : low ≤ 100) : stepN (row, low) (sgL x) (termL x.natAbs p) = some ((if row = [] then List.replicate (p + 1) 0 else row).set p x, p) := by
  rw [stepN_term (term_num (s := x.natAbs) (p := p) (by omega) (by omega)), sg_ok, decide_eq_false (show ¬ (low ≤ p) by omega), sg_size]
  rfl
theorem run_w {ns : List Int} (hn : Nf ns) (h0 : ns ≠ []) (hl : ns.length ≤ 100) : ∀ i : Nat, i < ns.length → ∃ low, runN (wT ns (i + 1)) ([], 100) = some (rowP ns (i + 1), low) ∧ ns.length - 1 - i ≤ low ∧ low ≤ ns.length - 1
  | 0, hi => by
    have hlast := nf_last hn h0
    have hx : ns.getD (ns.length - 1 - 0) 0 ≠ 0 := hlast
    refine ⟨ns.length - 1, ?_, by omega, Nat.le_refl _⟩
    have e : wT ns 1 = [(sgL (ns.getD (ns.length - 1 - 0) 0), termL (ns.getD (ns.length - 1 - 0) 0).natAbs (ns.length - 1 - 0))] := by
      show (if ns.getD (ns.length - 1 - 0) 0 = 0 then [] else [] ++ [_]) = _
      rw [if_neg hx]
      rfl
    rw [e, rowP_step hi, rowP_none]
    show (match stepN ([], 100) _ _ with | none => none | some st' => runN [] st') = _
    rw [step_num hx (by omega) (Nat.le_refl _), if_pos rfl]
    show some (_, _) = _
    rw [show ns.length - 1 - 0 + 1 = ns.length by omega]
    rfl
  | i + 1, hi => by
    obtain ⟨low, h1, h2, h3⟩ := run_w hn h0 hl i (by omega)
    have hstep : wT ns (i + 1 + 1) = if ns.getD (ns.length - 1 - (i + 1)) 0 = 0 then wT ns (i + 1) else wT ns (i + 1) ++ [(sgL (ns.getD (ns.length - 1 - (i + 1)) 0), termL (ns.getD (ns.length - 1 - (i + 1)) 0).natAbs (ns.length - 1 - (i + 1)))] := rfl
    by_cases hx : ns.getD (ns.length - 1 - (i + 1)) 0 = 0
    · rw [if_pos hx] at hstep
      refine ⟨low, ?_, by omega, h3⟩
      rw [hstep, h1, rowP_zero hi hx]
    · rw [if_neg hx] at hstep
      refine ⟨ns.length - 1 - (i + 1), ?_, Nat.le_refl _, by omega⟩
      rw [hstep, runN_app, h1, rowP_step hi]
      show (match stepN (rowP ns (i + 1), low) _ _ with | none => none | some st' => runN [] st') = _
      have hne : rowP ns (i + 1) ≠ [] := fun h => by
        have := rowP_len ns (i + 1)
        rw [h] at this
        simp at this
        omega
      rw [step_num hx (by omega) (by omega), if_neg hne]
      rfl
theorem line_head {ns : List Int} (h : lineT ns ns.length ≠ []) : lineT ns ns.length ≠ [48] := fun e => by
  have hw := words_line h
  rw [e] at hw
  have h2 : wordsN [48] = [[43], [48]] := by decide +kernel
  rw [h2] at hw
  have hm := wT_mem ns ns.length
  cases h3 : wT ns ns.length with
  | nil =>
    rw [h3] at hw
    cases hw
  | cons w r =>
    rw [h3] at hw hm
    have h4 : [[43], [48]] = w.1 :: w.2 :: flatW r := hw
    obtain ⟨x, p, hx, ew, _, _⟩ := hm w List.mem_cons_self
    have h5 : w.2 = [48] := by
      injection h4 with _ h4
      injection h4 with h4 _
      exact h4.symm
    rw [ew] at h5
    have h6 := term_head (s := x.natAbs) (p := p) (by omega)
    have h5 : termL x.natAbs p = [48] := h5
    rw [h5] at h6
    exact h6 rfl
theorem line_ne {ns : List Int} (hn : Nf ns) (h0 : ns ≠ []) : lineT ns ns.length ≠ [] := fun e => by
  have hl : 0 < ns.length := List.length_pos_iff.mpr h0
  have key : ∀ i, lineT ns (i + 1) ≠ [] := fun i => by
    induction i with
    | zero =>
      intro hc
      have hx : ns.getD (ns.length - 1 - 0) 0 ≠ 0 := nf_last hn h0
      have : lineT ns 1 = [] ++ (signL (decide (ns.getD (ns.length - 1 - 0) 0 < 0)) (decide (([] : List Nat) = [])) ++ termL (ns.getD (ns.length - 1 - 0) 0).natAbs (ns.length - 1 - 0)) := if_neg hx
      rw [this] at hc
      exact term_ne _ _ (List.append_eq_nil_iff.mp (List.append_eq_nil_iff.mp hc).2).2
    | succ i ih =>
      intro hc
      have hs : lineT ns (i + 1 + 1) = if ns.getD (ns.length - 1 - (i + 1)) 0 = 0 then lineT ns (i + 1) else lineT ns (i + 1) ++ (signL (decide (ns.getD (ns.length - 1 - (i + 1)) 0 < 0)) (decide (lineT ns (i + 1) = [])) ++ termL (ns.getD (ns.length - 1 - (i + 1)) 0).natAbs (ns.length - 1 - (i + 1))) := rfl
      rw [hs] at hc
      split at hc
      · exact ih hc
      · exact ih (List.append_eq_nil_iff.mp hc).1
  have := key (ns.length - 1)
  rw [show ns.length - 1 + 1 = ns.length by omega] at this
  exact this e
/-- what is shown is read again -/
theorem read_shown {ns : List Int} (hn : Nf ns) (hl : ns.length ≤ 100) : readN (shownL ns) = some ns := by
  by_cases h0 : ns = []
  · subst h0
    rfl
  have hne := line_ne hn h0
  have e : shownL ns = lineT ns ns.length := if_neg hne
  have hlen : 0 < ns.length := List.length_pos_iff.mpr h0
  obtain ⟨low, h1, _, _⟩ := run_w hn h0 hl (ns.length - 1) (by omega)
  rw [show ns.length - 1 + 1 = ns.length by omega, rowP_all] at h1
  unfold readN
  rw [e, if_neg (line_head hne), words_line hne, flat_len, if_neg (by omega), pr_flat, h1]
  rfl
theorem shown_words {ns : List Int} (hx : ∀ k, (ns.getD k 0).natAbs < 10 ^ 60) (hl : ns.length ≤ 100) : ∀ w ∈ wordsN (shownL ns), w.length ≤ 640 := by
  by_cases hne : lineT ns ns.length = []
  · have e : shownL ns = [48] := if_pos hne
    rw [e]
    decide +kernel
  · have e : shownL ns = lineT ns ns.length := if_neg hne
    rw [e, words_line hne]
    intro v hv
    obtain ⟨y, hy, h3⟩ := flat_mem hv
    obtain ⟨x, p, _, e2, hxe, hp⟩ := wT_mem ns ns.length y hy
    rcases h3 with h3 | h3
    · rw [h3, e2]
      show (sgL x).length ≤ 640
      unfold sgL
      split <;> decide
    · rw [h3, e2]
      have := termL_len (s := x.natAbs) (p := p) (by rw [hxe]; exact hx p) (by omega)
      show (termL x.natAbs p).length ≤ 640
      omega

-- USES: ReadX L_sign
-- IMPORT: HandS.Replace HandS.ReplaceDef HandS.ReplaceLit PyProof.StrReplace2 PyProof.ToksMono
/-! line.replace("x", f(..)): two texts that may be alike, their tokens told apart -/
/-- a text whose token was not yet given out at n -/
def FrT (n : Nat) (u : Value) : Prop := ∃ (z : Str) (t : Tok), u = .str z t ∧ n ≤ t
theorem FrT.le {m n : Nat} {u : Value} (h : m ≤ n) (f : FrT n u) : FrT m u := by
  obtain ⟨z, t, e, g⟩ := f
  exact ⟨z, t, e, Nat.le_trans h g⟩
/-- an expression that tells such a text -/
def PEN (X : Cx) (e : Expr) (t : TE) : Prop :=
  ∀ (pn : List (Addr × Obj)) (s : Shared) (σ : L2.St) (H : Hp) (Q : VK), Inv X pn σ H s → t σ H Q → wpAny (model X.prog X.w) X.A (eval e X.env) (fun u s2 => EP X pn σ Q u s2 ∧ FrT s.toks u) X.xe s
/-- statements that return such a text -/
def PSsN (X : Cx) (ss : List Stmt) (t : TS) : Prop :=
  ∀ (pn : List (Addr × Obj)) (s : Shared) (σ : L2.St) (H : Hp) (D : Ends), Inv X pn σ H s → t D σ H → wpAny (model X.prog X.w) X.A (execs ss X.env) (fun f s2 => SP X pn D f s2 ∧ ∃ u, f = .ret u ∧ FrT s.toks u) X.xe s
section
variable {X : Cx} {st : Stmt} {rest : List Stmt} {t u : TS} {a b e : Expr} {ta tb te : TE} {pos : Pos}
theorem psn_cons (h1 : PS X st t) (hD : ∀ (D : Ends) (σ : L2.St) (H : Hp), t D σ H → t { nx := D.nx, rt := fun _ _ => False } σ H) (h2 : PSsN X rest u) : PSsN X (st :: rest) (tSeq t u) := by
  intro pn s σ H D I h
  have h0 := hD _ _ _ h
  refine wpAny_execs_cons (wpAny_mono (PySem.wpAny_toks (h1.run pn s σ H _ I h0)) (fun f s1 z => ?_) fun _ _ z => z.2)
  obtain ⟨le, z⟩ := z
  cases f with
  | next =>
    obtain ⟨σ1, H1, I1, z⟩ := z
    exact wpAny_mono (h2 pn s1 σ1 H1 D I1 z) (fun f s2 g => ⟨g.1, g.2.choose, g.2.choose_spec.1, g.2.choose_spec.2.le le⟩) fun _ _ g => g
  | ret v =>
    obtain ⟨_, _, _, _, _, z⟩ := z
    exact False.elim z
  | brk =>
    obtain ⟨_, _, _, z⟩ := z
    exact False.elim z
  | cont =>
    obtain ⟨_, _, _, z⟩ := z
    exact False.elim z
theorem psn_ret (h : PEN X e te) : PSsN X [.Return (some e) pos] (tRet te) := by
  intro pn s σ H D I q
  refine wpAny_execs_cons (wpAny_Return_some (wpAny_mono (h pn s σ H _ I q) (fun v s1 z => ?_) fun _ _ z => z))
  obtain ⟨⟨x, H1, I1, r1, z⟩, fr⟩ := z
  exact ⟨⟨x, σ, H1, I1, r1, z⟩, _, rfl, fr⟩
theorem pen_ixS (ha : PE X a ta) (hb : PE X b tb) (hs : PlainIxT b) : PEN X (.Subscript a b pos) (tOp rIxS ta tb) := by
  intro pn s σ H Q I q
  refine Subscript_ (wpAny_mono (PySem.wpAny_toks (ha.run pn s σ H _ I q)) (fun v s1 z => ?_) fun _ _ z => z.2)
  obtain ⟨le1, x, H1, I1, r1, z⟩ := z
  refine wpAny_mono (PySem.wpAny_toks (hb.run pn s1 σ H1 _ I1 z)) (fun w s2 z => ?_) fun _ _ z => z.2
  obtain ⟨le2, y, H2, I2, r2, z⟩ := z
  obtain ⟨str, i, c, rfl, rfl, hz, he, q2⟩ := z
  obtain ⟨tk1, rfl⟩ := r1
  obtain ⟨tk2, rfl⟩ := r2
  obtain ⟨j, g1, g2, g3, g4, g5⟩ := atI_get he
  have hl : str.cps.toList.length = str.length := by simp [Str.length]
  rw [hl] at g1 g4 g5
  have hn := line63
  have r1 : decide (i < -(2 ^ 63 : Int)) = false := decide_eq_false (by omega)
  have r2 : decide (i ≥ 2 ^ 63) = false := decide_eq_false (by omega)
  refine tail_any (typeIs_str s2 str tk1) slot_str_getitem.lookup (getItem_str (c := c) (by rw [r1, r2]; rfl) (by rw [g1]; simpa using g2) ?_) (hs _ _)
  exact ⟨⟨.str ⟨#[c]⟩, H2, I2.tok _, ⟨_, rfl⟩, q2⟩, _, _, rfl, Nat.le_trans le1 le2⟩
end
/-- a def that returns such a text -/
structure FnN (P : Program) (w : World) (K : PySem.W.Frag) (mg : Str → Option Value) (base : Heap) (k : Nat) (f : Addr) (fd : FuncData) (ps : List Str) (sp : Sp) : Prop where
  len : ∀ vs H Q E, sp vs H Q E → vs.length = ps.length
  run : ∀ (A : Around) (outer : List Env) (s : Shared) (H : Hp) (args : Args) (us : List Value) (vs : List V) (Q : VK) (E : XK), Room k A → Env0 P w K mg base A outer s H → BindsTo s fd args (ps.zip us) → Vals vs us → sp vs H Q E →
    codeAny (model P w) A (.call (.ref f) args) (fun r s2 => CR CX0 outer P w H s Q E r s2 ∧ ∀ u, r = .ok (.ret u) → FrT s.toks u) s
theorem fun_okN {P : Program} {w : World} {K : PySem.W.Frag} {mg : Str → Option Value} {base : Heap} {x qual : Str} {st : Stmt} {f : Addr} {fd : FuncData} {N ps : List Str} {k : Nat} {sp : Sp} (F : Fun K x qual st f fd) (S : FnScope N ps (defScope st)) (len : ∀ vs H Q E, sp vs H Q E → vs.length = ps.length)
    (hb : ∀ (cdv : Value) (A : Around) (outer : List Env) (s : Shared) (H : Hp) (vs : List V) (Q : VK) (E : XK), Room k (A.deeper (envOfC qual (defScope st) s.heap.objs.size f cdv)) → sp vs H Q E →
      ∃ t, PSsN (cxOf CX0 P w K mg base N qual (defScope st) f cdv A outer s H E).nox (defBody st) t ∧ t { nx := fun _ H2 => Q .non H2, rt := Q } (start N vs) H) : FnN P w K mg base (k + 1) f fd ps sp := by
  obtain ⟨oc, od, kV, doc, pm, an, cdv, ct, osl, rfl, lk, hcd⟩ := F.ex
  refine ⟨len, fun A outer s H args us vs Q E hr e0 bd vals hsp => ?_⟩
  have hl := len _ _ _ _ hsp
  have kin : K.In s.heap := e0.mod.kin.keeps fun b o h => (e0.bs b o h).1
  have lim : s.heap.NoLimit := e0.mod.nolimit.keeps fun b o h => (e0.bs b o h).1
  refine codeAny_call_function hr.depth (kin _ _ lk) rfl S.co S.gen rfl (PySem.W.codeRec_of kin hcd) (bd _ _ _ _ ?_)
  refine PySem.wpAny_with_toks (Nat.le_refl s.toks) (wpAny_newFunctionEnv_cells S.kind (fun ⟨n, v⟩ hy => ?_) fun env he s1 ic le => ?_)
  · rcases S.par n (List.of_mem_zip hy).1 with q | q
    · exact .inl q
    · exact .inr ⟨q, PySem.W.cellsFrom_some _ _ _ (.inl q)⟩
  subst he
  obtain ⟨t, ht, q⟩ := hb cdv A outer s H vs Q E (hr.deeper _) hsp
  have I : Inv (cxOf CX0 P w K mg base N qual (defScope st) f cdv A outer s H E) [] (start N vs) H s1 := inv_start S hr.hd e0 hl vals ic
  refine ⟨lim.keeps ic.toInCall.keep, codeAny_func (wpAny_mono (ht [] s1 (start N vs) H _ (I.wish _) q) (fun fl s2 z => ?_) fun e s2 z => False.elim z)⟩
  obtain ⟨z, u, rfl, fr⟩ := z
  obtain ⟨v, σ2, H2, J, rv, g⟩ := z
  have J2 := J.unwish
  exact ⟨⟨v, H2, J2.os, J2.bare, J2.base, J2.hok, rv, g⟩, fun w ew => by
    cases ew
    exact fr.le le⟩
structure ClN (P : Program) (w : World) (K : PySem.W.Frag) (mg : Str → Option Value) (base : Heap) (k : Nat) (x : Str) (sp : Sp) : Prop where
  ex : ∃ (f : Addr) (fd : FuncData) (ps : List Str), FnN P w K mg base k f fd ps sp ∧ mg x = some (.ref f) ∧ PySem.W.keepIn K (.ref f) = true ∧ Binds K fd ps []
section
variable {X : Cx} {k j : Nat} {x : Str} {sp : Sp} {p pos : Pos} {e : Expr} {es : List Expr} {t : TA}
theorem pcN (c : ClN X.prog X.w X.K X.mg X.base k x sp) (hr : Room j X.A) (hk : k ≤ j) (hg : Gl X x) (ha : PA X (e :: es) t)
    (hdb : (x == ("__debug__" : Str)) = false := by decide) (he : starEach (e :: es) X.env = (false, eval e X.env) :: starEach es X.env := by rfl) (hpl : (backTo pos (starEach es X.env)).any (·.1) = false := by rfl) :
    PEN X (.Call (.Name x p) (e :: es) [] pos) (tCall sp [] E0 t) := by
  obtain ⟨f, fd, ps, F, hm, kp, bd⟩ := c.ex
  intro pn s σ H Q I h
  refine wpAny_Call_Name_kw (ld_glob I hg hm ?_ hdb)
  refine PySem.W.callWith_K (h₀ := X.base) I.ok.mod.kin kp (wpAny_mono (PySem.wpAny_toks (ha.run pos pn s σ H _ I h)) (fun us s1 z => ?_) fun _ _ z => z.2) he hpl
  obtain ⟨le, vs, H1, I1, r, q⟩ := z
  have q : sp (vs ++ []) H1 Q E0 := q
  rw [List.append_nil] at q
  have hl : us.length = ps.length := by rw [← r.length]; exact F.len _ _ _ _ q
  have b0 := bd s1 us I1.kIn (by rw [List.append_nil]; exact hl)
  rw [List.append_nil] at b0
  refine ⟨I1.kIn, wpAny_call (codeAny_mono (F.run X.A X.stack s1 H1 ⟨us, []⟩ us vs Q E0 (hr.mono hk) I1.env0 b0 r q) fun g s2 z => ?_)⟩
  obtain ⟨z, fr⟩ := z
  cases g with
  | error e => exact pass0 pn σ H1 s1 e s2 I1 z
  | ok fl =>
    cases fl with
    | ret u => exact ⟨I1.after z, (fr u rfl).le le⟩
    | next => exact False.elim z
    | brk => exact False.elim z
    | cont => exact False.elim z
end
/-- no reader has booked a token -/
theorem booked_no {K : PySem.W.Frag} {h : Heap} (X : K.In h) (L : h.NoLimit) (e : PySem.W.nsIn K cStatics sharingNotToldKey = some none) : NoneBooked h := by
  obtain ⟨mc, G, _⟩ := L
  refine ⟨mc, G, ?_⟩
  obtain ⟨o, es, ep, ho, hd, _, hf⟩ := G
  unfold PySem.W.nsIn at e
  cases hk : K.lookup cStatics with
  | none => rw [hk] at e; cases e
  | some ob =>
    have same : ob = o := Option.some.inj ((X _ _ hk).symm.trans ho)
    subst same
    rw [hk] at e
    obtain ⟨oc, od, dt, sl⟩ := ob
    have hd : dt = .dict es ep := hd
    subst hd
    dsimp only at e
    cases hx : es.toList.find? (fun d => d.key.isStr sharingNotToldKey) with
    | some d => rw [hx] at e; cases e
    | none =>
      rw [← hf]
      show (es.find? _).map _ = _
      rw [← Array.find?_toList, hx]
      rfl
/-- x.replace(y, f(..)) -/
def tRepF (to : TE) (y : Str) (tz : TE) : TE := fun σ H Q => to σ H fun v H1 => ∃ x, v = .str x ∧ tz σ H1 fun w H2 => ∃ z, w = .str z ∧ x.length + (x.length + 1) * z.length ≤ 16777216 ∧ Q (.str (Txt.replace x y z)) H2
section
variable {X : Cx} {o e : Expr} {to tz : TE} {y : Str} {j : Nat} {c0 apos pos : Pos}
theorem pet_repF (hn : PySem.W.nsIn X.K cStatics sharingNotToldKey = some none) (ho : PE X o to) (hz : PEN X e tz)
    (hst : starEach [.Constant (.str y) j c0, e] X.env = [(false, eval (.Constant (.str y) j c0) X.env), (false, eval e X.env)] := by rfl)
    (hbase : attributeBase o "replace" X.env (eval o X.env) = eval o X.env := by rfl) (hline : (apos.endLine == pos.line) = true := by rfl) :
    PET X (.Call (.Attribute o "replace" apos) [.Constant (.str y) j c0, e] [] pos) (tRepF to y tz) := by
  intro pn s σ H Q h0 I h
  refine PySem.Call_method2 hbase hst hline (wpAny_mono (PySem.wpAny_toks (ho.run pn s σ H _ I h)) (fun v s1 g => ?_) fun _ _ g => g.2)
  obtain ⟨le, v1, H1, I1, r1, x, rfl, g⟩ := g
  obtain ⟨tx, rfl⟩ := r1
  refine ⟨"str", _, PySem.F.plainAttrs_str, PySem.F.slot_str_replace, PySem.F.type_str_replace, typeIs_str _ _ _, (fun _ e => nomatch e), Calls.callWith_builtin rfl (Calls.evalArgs_plain (Calls.spliced_cons (Calls.Constant_str (Calls.spliced_cons ?_))))⟩
  refine wpAny_mono (hz pn _ σ H1 _ (I1.tok (s1.toks + 1)) g) (fun u s2 g2 => ?_) fun _ _ g2 => g2
  obtain ⟨⟨w, H2, I2, r2, z, rfl, hb, q⟩, z2, t2, rfl, lt⟩ := g2
  obtain ⟨t3, e3⟩ := r2
  cases e3
  have lt : s1.toks + 1 ≤ t2 := lt
  have n1 : (s1.toks : Nat) ≠ 0 := by omega
  have n2 : t2 ≠ 0 := Nat.ne_of_gt (Nat.lt_of_lt_of_le (Nat.succ_pos _) lt)
  have n3 : s1.toks ≠ t2 := Nat.ne_of_lt lt
  exact Calls.spliced_nil (PySem.SC.replaceA n1 n2 n3 hb (fun t4 k => ⟨.str (Txt.replace x y z), H2, I2.tok k, ⟨t4, rfl⟩, q⟩) (booked_no I2.kIn I2.nolimit hn))
theorem pst_set {i : Nat} {x : Str} {te : TE} {pos2 : Pos} (hN : X.N.Nodup) (hi : X.N[i]? = some x) (hx : Loc X.env.scope x) (he : PET X e te) (hs : swapsWith e (some (.Name x pos2)) pos.line X.env = pure false := by rfl)
    (hf : X.fn x = true ∨ X.env.scope.names.lookup x = some .local := by first | exact .inl rfl | exact .inr rfl | assumption) : PST X (.Assign [.Name x pos2] e pos) (tAsg te (gName i)) := by
  intro pn s σ H D h0 I h
  refine wpAny_Assign_Name (wpAny_mono (he pn s σ H _ h0 I h) (fun v s1 g => ?_) fun _ _ g => g) hs
  obtain ⟨z, H1, I1, r1, q⟩ := g
  exact store_ok I1 hN hi hx r1 (fun s2 I2 => ⟨_, H1, I2, q⟩) hf
/-- behind a number that is stored a token is out -/
theorem pss_intT {i : Nat} {x : Str} {n : Int} {rest : List Stmt} {u : TS} {pos2 : Pos} (hN : X.N.Nodup) (hi : X.N[i]? = some x) (hx : Loc X.env.scope x) (h2 : PSsT X rest u) (hs : swapsWith (.Constant (.int n) j c0) (some (.Name x pos2)) pos.line X.env = pure false := by rfl)
    (hf : X.fn x = true ∨ X.env.scope.names.lookup x = some .local := by first | exact .inl rfl | exact .inr rfl | assumption) : PSs X (.Assign [.Name x pos2] (.Constant (.int n) j c0) pos :: rest) (tSeq (tAsg (tC (.int n)) (gName i)) u) := by
  refine ⟨fun pn s σ H D I h => wpAny_execs_cons (wpAny_Assign_Name (wpAny_Constant_int ?_) hs)⟩
  refine wpAny_mono (PySem.wpAny_toks (store_ok (v := V.int n) (u := Value.int n s.toks) (Q := fun _ s2 => Inv X pn (σ.set i (some (V.int n))) H s2) (I.tok (s.toks + 1)) hN hi hx ⟨s.toks, rfl⟩ (fun _ J => J) hf)) (fun _ s2 g => ?_) fun _ _ g => g.2
  have le : s.toks + 1 ≤ s2.toks := g.1
  exact h2 pn s2 _ H D (by omega) g.2 h
end

-- USES: RdM L_due_k11
/-! what is read was written so -/
theorem numL_lt10 (n : Nat) : n < 10 ^ (numL n).length := by
  have hd : digL (numL n) = true := List.all_eq_true.mpr fun c hc => by
    have := TL.numL_digits n c hc
    rw [Bool.and_eq_true]
    exact ⟨decide_eq_true this.1, decide_eq_true this.2⟩
  have h := dig_bound (numL n) 0 hd
  have hv := TL.numL_val n
  rw [Nat.zero_add, Nat.one_mul] at h
  have h2 : NumText.digitsVal (numL n) < 10 ^ (numL n).length := h
  rwa [hv] at h2
theorem num_back : ∀ (k : Nat) (l : List Nat), l.length = k → l ≠ [] → digL l = true → l.head? ≠ some 48 → numL (NumText.digitsVal l) = l
  | 0, l, hk, hne, _, _ => absurd (List.length_eq_zero_iff.mp hk) hne
  | k + 1, l, hk, hne, hd, h0 => by
    have e := List.dropLast_concat_getLast hne
    generalize l.getLast hne = c at e
    generalize hm : l.dropLast = m at e
    subst e
    have hv : NumText.digitsVal (m ++ [c]) = NumText.digitsVal m * 10 + (c - 48) := by
      show (m ++ [c]).foldl _ 0 = _
      rw [List.foldl_append]
      rfl
    have hd2 : digL m = true ∧ (48 ≤ c ∧ c ≤ 57) := by
      unfold digL at hd ⊢
      rw [List.all_append, Bool.and_eq_true] at hd
      refine ⟨hd.1, ?_⟩
      simpa using hd.2
    rw [hv]
    by_cases hme : m = []
    · subst hme
      rw [show NumText.digitsVal ([] : List Nat) * 10 + (c - 48) = c - 48 from Nat.zero_add _, show numL (c - 48) = [48 + (c - 48)] from TL.numL_lt (by omega), show 48 + (c - 48) = c by omega]
      rfl
    · have h1 : m.head? ≠ some 48 := by
        obtain ⟨d, m2, rfl⟩ := List.exists_cons_of_ne_nil hme
        exact h0
      have ih := num_back k m (by rw [List.length_append] at hk; simpa using hk) hme hd2.1 h1
      have hpos : 1 ≤ NumText.digitsVal m := by
        refine Nat.pos_of_ne_zero fun hz => ?_
        rw [hz] at ih
        have e0 : numL 0 = [48] := TL.numL_lt (by decide)
        rw [e0] at ih
        rw [← ih] at h1
        exact h1 rfl
      generalize NumText.digitsVal m = v at *
      rw [show numL (v * 10 + (c - 48)) = numL ((v * 10 + (c - 48)) / 10) ++ [48 + (v * 10 + (c - 48)) % 10] from TL.numL_step (by omega), show (v * 10 + (c - 48)) / 10 = v by omega, ih, show 48 + (v * 10 + (c - 48)) % 10 = c by omega]
theorem whole_back {l : List Nat} {n : Nat} (h : wholeN l = some n) : numL n = l ∧ 1 ≤ n := by
  unfold wholeN at h
  split at h
  · rename_i hc
    rw [Bool.and_eq_true] at hc
    have hn := Option.some.inj h
    have hl := num_back l.length l rfl (of_decide_eq_true hc.1.1) hc.1.2 hc.2
    rw [hn] at hl
    refine ⟨hl, Nat.pos_of_ne_zero fun hz => ?_⟩
    rw [hz] at hl
    have e0 : numL 0 = [48] := TL.numL_lt (by decide)
    rw [e0] at hl
    rw [← hl] at hc
    exact hc.2 rfl
  · cases h
theorem par_back : ∀ (l acc a b : List Nat), TL.par [120] acc l = some (a, b) → acc ++ l = a ++ ([120] ++ b)
  | [], acc, a, b, h => by cases h
  | c :: l, acc, a, b, h => by
    by_cases hp : TL.pre [120] (c :: l) = true
    · rw [TL.par_hit hp] at h
      have hc : c = 120 := by
        have : ([c] == [120]) = true := hp
        simpa using this
      injection h with h
      injection h with h1 h2
      rw [← h1, ← h2, hc]
      rfl
    · rw [TL.par_miss (by simpa using hp)] at h
      have := par_back l _ a b h
      rw [← this]
      simp
theorem term_back {t : List Nat} {n p : Nat} (h : termN t = some (n, p)) : termL n p = t ∧ 1 ≤ n ∧ p < 100 := by
  cases hp : TL.par [120] [] t with
  | none =>
    rw [termN_none hp] at h
    cases hw : wholeN t with
    | none => rw [hw] at h; cases h
    | some m =>
      rw [hw] at h
      cases h
      obtain ⟨h1, h2⟩ := whole_back hw
      refine ⟨?_, h2, by decide⟩
      unfold termL
      rw [if_pos rfl, h1]
  | some ab =>
    obtain ⟨a, b⟩ := ab
    rw [termN_some hp] at h
    have ht := par_back t [] a b hp
    rw [List.nil_append] at ht
    cases hs : sizeN a with
    | none => rw [hs] at h; cases h
    | some m =>
      cases hq : powerN b with
      | none => rw [hs, hq] at h; cases h
      | some q =>
        rw [hs, hq] at h
        cases h
        have h1 : (if n = 1 then [] else numL n) = a ∧ 1 ≤ n := by
          unfold sizeN at hs
          split at hs
          · rename_i ha
            cases hs
            rw [if_pos rfl, ha]
            exact ⟨rfl, Nat.le_refl _⟩
          · rename_i ha
            split at hs
            · cases hs
            · rename_i ha1
              obtain ⟨g1, g2⟩ := whole_back hs
              have hn1 : n ≠ 1 := fun e => by
                rw [e] at g1
                exact ha1 (g1.symm.trans (TL.numL_lt (by decide)))
              rw [if_neg hn1]
              exact ⟨g1, g2⟩
        have h2 : (if p = 1 then [120] else [120, 94] ++ numL p) = [120] ++ b ∧ 1 ≤ p ∧ p < 100 := by
          unfold powerN at hq
          split at hq
          · rename_i hb
            cases hq
            rw [if_pos rfl, hb]
            exact ⟨rfl, Nat.le_refl _, by decide⟩
          · rename_i hb
            split at hq
            · cases hq
            · rename_i hc
              split at hq
              · cases hq
              · rename_i h3
                obtain ⟨g1, g2⟩ := whole_back hq
                have hp1 : p ≠ 1 := fun e => by
                  rw [e] at hq
                  exact h3 hq
                have hc2 : (!decide (b.head? = some 94) || decide ((3 : Int) < (b.length : Int))) = false := by simpa using hc
                rw [Bool.or_eq_false_iff] at hc2
                have hh : b.head? = some 94 := by simpa using hc2.1
                have hl := of_decide_eq_false hc2.2
                obtain ⟨c, r, rfl⟩ := List.exists_cons_of_ne_nil hb
                have hc94 : c = 94 := Option.some.inj hh
                rw [List.length_cons] at hl
                have g1 : numL p = r := g1
                rw [if_neg hp1, hc94, g1]
                refine ⟨rfl, g2, ?_⟩
                have h5 := numL_lt10 p
                rw [g1] at h5
                have h6 : r.length ≤ 2 := by omega
                exact Nat.lt_of_lt_of_le h5 (Nat.pow_le_pow_right (by decide) h6)
        refine ⟨?_, h1.2, h2.2.2⟩
        unfold termL
        rw [if_neg (by omega), h1.1, h2.1, ht]
theorem wT_succ (ns : List Int) (i : Nat) : wT ns (i + 1) = if ns.getD (ns.length - 1 - i) 0 = 0 then wT ns i else wT ns i ++ [(sgL (ns.getD (ns.length - 1 - i) 0), termL (ns.getD (ns.length - 1 - i) 0).natAbs (ns.length - 1 - i))] := rfl
theorem wT_congr {a b : List Int} (hl : a.length = b.length) : ∀ i, (∀ j, j < i → a.getD (a.length - 1 - j) 0 = b.getD (a.length - 1 - j) 0) → wT a i = wT b i
  | 0, _ => rfl
  | i + 1, h => by
    rw [wT_succ, wT_succ, wT_congr hl i fun j hj => h j (by omega), h i (by omega), hl]
theorem wT_skip {a : List Int} (i : Nat) : ∀ d, (∀ j, i ≤ j → j < i + d → a.getD (a.length - 1 - j) 0 = 0) → wT a (i + d) = wT a i
  | 0, _ => rfl
  | d + 1, h => by
    rw [show i + (d + 1) = (i + d) + 1 by omega, wT_succ, if_pos (h (i + d) (by omega) (by omega)), wT_skip i d fun j h1 h2 => h j h1 (by omega)]
/-- what is read so far -/
def RdI (ps : List (List Nat × List Nat)) (st : List Int × Nat) : Prop := (ps = [] ∧ st = ([], 100)) ∨
  (st.1 ≠ [] ∧ st.1.length ≤ 100 ∧ st.2 < st.1.length ∧ st.1.getD (st.1.length - 1) 0 ≠ 0 ∧ (∀ k, k < st.2 → st.1.getD k 0 = 0) ∧ wT st.1 (st.1.length - st.2) = ps)
theorem getD_set (row : List Int) (p k : Nat) (x : Int) (hp : p < row.length) : (row.set p x).getD k 0 = if k = p then x else row.getD k 0 := by
  rw [List.getD_eq_getElem?_getD, List.getD_eq_getElem?_getD, List.getElem?_set]
  by_cases h : p = k
  · rw [if_pos h, if_pos h.symm, if_pos hp]
    rfl
  · rw [if_neg h, if_neg (fun e => h e.symm)]
theorem step_inv {ps : List (List Nat × List Nat)} {st st2 : List Int × Nat} {sg t : List Nat} (I : RdI ps st) (h : stepN st sg t = some st2) : RdI (ps ++ [(sg, t)]) st2 := by
  cases ht : termN t with
  | none => rw [stepN_no ht] at h; cases h
  | some np =>
    obtain ⟨n, p⟩ := np
    rw [stepN_term ht] at h
    obtain ⟨e1, hn, hp⟩ := term_back ht
    split at h
    · cases h
    rename_i hc
    have hc2 : (!(decide (sg = [43]) || decide (sg = [45])) || decide (st.2 ≤ p)) = false := by simpa using hc
    rw [Bool.or_eq_false_iff] at hc2
    have hlow : p < st.2 := by
      have := of_decide_eq_false hc2.2
      omega
    have hsg : sg = [43] ∨ sg = [45] := by
      have h9 : (decide (sg = [43]) || decide (sg = [45])) = true := by
        rw [← Bool.not_eq_false', hc2.1]
      rw [Bool.or_eq_true] at h9
      exact h9.imp of_decide_eq_true of_decide_eq_true
    have hx : ∃ x : Int, (if sg = [45] then -(n : Int) else (n : Int)) = x ∧ x ≠ 0 ∧ x.natAbs = n ∧ sgL x = sg := by
      refine ⟨_, rfl, ?_⟩
      rcases hsg with e | e
      · rw [if_neg (by rw [e]; decide)]
        refine ⟨by omega, by omega, ?_⟩
        unfold sgL
        rw [if_neg (by omega), e]
      · rw [if_pos e]
        refine ⟨by omega, by omega, ?_⟩
        unfold sgL
        rw [if_pos (by omega), e]
    obtain ⟨x, ex, x0, xn, xs⟩ := hx
    rw [ex] at h
    have h := Option.some.inj h
    subst h
    rcases I with ⟨hps, hst⟩ | ⟨h1, h2, h3, h4, h5, h6⟩
    · subst hst
      refine .inr ?_
      have hlen : ((if ([] : List Int) = [] then List.replicate (p + 1) (0 : Int) else []).set p x).length = p + 1 := by
        rw [if_pos rfl, List.length_set, List.length_replicate]
      have hat : ((if ([] : List Int) = [] then List.replicate (p + 1) (0 : Int) else []).set p x).getD p 0 = x := by
        rw [if_pos rfl, getD_set _ _ _ _ (by rw [List.length_replicate]; omega), if_pos rfl]
      have hlo : ∀ k, k < p → ((if ([] : List Int) = [] then List.replicate (p + 1) (0 : Int) else []).set p x).getD k 0 = 0 := fun k hk => by
        rw [if_pos rfl, getD_set _ _ _ _ (by rw [List.length_replicate]; omega), if_neg (by omega), List.getD_eq_getElem?_getD, List.getElem?_replicate]
        split <;> rfl
      show ((if ([] : List Int) = [] then List.replicate (p + 1) (0 : Int) else []).set p x) ≠ [] ∧ _
      show _ ∧ ((if ([] : List Int) = [] then List.replicate (p + 1) (0 : Int) else []).set p x).length ≤ 100 ∧ p < ((if ([] : List Int) = [] then List.replicate (p + 1) (0 : Int) else []).set p x).length ∧ ((if ([] : List Int) = [] then List.replicate (p + 1) (0 : Int) else []).set p x).getD (((if ([] : List Int) = [] then List.replicate (p + 1) (0 : Int) else []).set p x).length - 1) 0 ≠ 0 ∧ (∀ k, k < p → ((if ([] : List Int) = [] then List.replicate (p + 1) (0 : Int) else []).set p x).getD k 0 = 0) ∧ wT ((if ([] : List Int) = [] then List.replicate (p + 1) (0 : Int) else []).set p x) (((if ([] : List Int) = [] then List.replicate (p + 1) (0 : Int) else []).set p x).length - p) = ps ++ [(sg, t)]
      generalize ((if ([] : List Int) = [] then List.replicate (p + 1) (0 : Int) else []).set p x) = row at *
      refine ⟨fun e => by rw [e] at hlen; simp at hlen, by omega, by omega, by rw [hlen]; exact fun e => x0 (hat.symm.trans e), hlo, ?_⟩
      rw [hlen, show p + 1 - p = 0 + 1 by omega, wT_succ, hlen, show p + 1 - 1 - 0 = p by omega, hat, if_neg x0, xs, xn, e1, hps]
      rfl
    · refine .inr ?_
      obtain ⟨row, low⟩ := st
      have h1 : row ≠ [] := h1
      have h2 : row.length ≤ 100 := h2
      have h3 : low < row.length := h3
      have h4 : row.getD (row.length - 1) 0 ≠ 0 := h4
      have h5 : ∀ k, k < low → row.getD k 0 = 0 := h5
      have h6 : wT row (row.length - low) = ps := h6
      have hlow : p < low := hlow
      show (if row = [] then List.replicate (p + 1) (0 : Int) else row).set p x ≠ [] ∧ _
      rw [if_neg h1]
      have hlen : (row.set p x).length = row.length := List.length_set ..
      have hat := fun k => getD_set row p k x (by omega)
      show row.set p x ≠ [] ∧ (row.set p x).length ≤ 100 ∧ p < (row.set p x).length ∧ (row.set p x).getD ((row.set p x).length - 1) 0 ≠ 0 ∧ (∀ k, k < p → (row.set p x).getD k 0 = 0) ∧ wT (row.set p x) ((row.set p x).length - p) = ps ++ [(sg, t)]
      refine ⟨fun e => ?_, by omega, by omega, ?_, fun k hk => ?_, ?_⟩
      · rw [e] at hlen
        have : row.length = 0 := hlen.symm
        omega
      · rw [hlen, hat, if_neg (by omega)]
        exact h4
      · rw [hat, if_neg (by omega)]
        exact h5 k (by omega)
      · have s1 : wT (row.set p x) (row.length - low) = wT row (row.length - low) := wT_congr hlen _ fun j hj => by rw [hlen, hat, if_neg (by omega)]
        have s2 : wT (row.set p x) (row.length - low + (low - p - 1)) = wT (row.set p x) (row.length - low) := wT_skip _ _ fun j h7 h8 => by
          rw [hlen, hat, if_neg (by omega)]
          exact h5 _ (by omega)
        rw [hlen, show row.length - p = (row.length - low + (low - p - 1)) + 1 by omega, wT_succ, s2, s1, h6, hlen, show row.length - 1 - (row.length - low + (low - p - 1)) = p by omega, hat, if_pos rfl, if_neg x0, xs, xn, e1]
theorem run_inv : ∀ (qs ps : List (List Nat × List Nat)) (st st2 : List Int × Nat), RdI ps st → runN qs st = some st2 → RdI (ps ++ qs) st2
  | [], ps, st, st2, I, h => by
    cases h
    rw [List.append_nil]
    exact I
  | w :: qs, ps, st, st2, I, h => by
    have h : (match stepN st w.1 w.2 with | none => none | some st1 => runN qs st1) = some st2 := h
    cases hs : stepN st w.1 w.2 with
    | none => rw [hs] at h; cases h
    | some st1 =>
      rw [hs] at h
      have := run_inv qs (ps ++ [w]) st1 st2 (step_inv I hs) h
      rwa [List.append_assoc] at this
theorem flat_pr : ∀ ws : List (List Nat), ws.length % 2 = 0 → flatW (prN ws) = ws
  | [], _ => rfl
  | [a], h => by simp at h
  | a :: b :: r, h => by
    have hr : r.length % 2 = 0 := by
      rw [List.length_cons, List.length_cons] at h
      omega
    have ih := flat_pr r hr
    have e : evn (b :: r) = b :: evn (r.drop 1) := by
      cases r with
      | nil => rfl
      | cons c r => rfl
    have e2 : prN (a :: b :: r) = (a, b) :: prN r := by
      unfold prN
      show (a :: evn r).zip (evn (b :: r)) = _
      rw [e]
      rfl
    rw [e2]
    show a :: b :: flatW (prN r) = _
    rw [ih]
theorem spl_ne : ∀ (l acc : List Nat), TL.spl [32] 0 acc l ≠ []
  | [], acc => by rw [TL.spl_nil]; simp
  | c :: l, acc => by
    by_cases hp : TL.pre [32] (c :: l) = true
    · rw [TL.spl_hit hp]
      simp
    · rw [TL.spl_miss (by simpa using hp)]
      exact spl_ne l _
theorem join_spl : ∀ (l acc : List Nat), TL.joinL [32] (TL.spl [32] 0 acc l) = acc ++ l
  | [], acc => by
    rw [TL.spl_nil, List.append_nil]
    rfl
  | c :: l, acc => by
    by_cases hp : TL.pre [32] (c :: l) = true
    · have hc : c = 32 := by
        have : ([c] == [32]) = true := hp
        simpa using this
      have ih := join_spl l []
      have hne := spl_ne l []
      rw [TL.spl_hit hp]
      show TL.joinL [32] (acc :: TL.spl [32] 0 [] l) = _
      generalize TL.spl [32] 0 [] l = ws at *
      cases ws with
      | nil => exact absurd rfl hne
      | cons w ws =>
        show acc ++ ([32] ++ TL.joinL [32] (w :: ws)) = _
        rw [ih, hc]
        rfl
    · rw [TL.spl_miss (by simpa using hp), join_spl l]
      simp
/-- what is read was written so -/
theorem read_back {l : List Nat} {ns : List Int} (h : readN l = some ns) : Nf ns ∧ ns.length ≤ 100 ∧ shownL ns = l := by
  unfold readN at h
  split at h
  · rename_i h0
    cases h
    exact ⟨nf_nil, by decide, h0.symm⟩
  split at h
  · cases h
  rename_i h0 hev
  cases hr : runN (prN (wordsN l)) ([], 100) with
  | none => rw [hr] at h; cases h
  | some st =>
    rw [hr] at h
    have h := Option.some.inj h
    have I := run_inv (prN (wordsN l)) [] ([], 100) st (.inl ⟨rfl, rfl⟩) hr
    rw [List.nil_append] at I
    have hfl := flat_pr (wordsN l) (by omega)
    have hw : ∃ (sg : List Nat) (ws : List (List Nat)), wordsN l = sg :: ws ∧ ws ≠ [] ∧ (if sg = [45] then [45] else []) ++ TL.joinL [32] ws = l := by
      unfold wordsN
      split
      · rename_i hh
        cases l with
        | nil => cases hh
        | cons c r =>
          have hc : c = 45 := Option.some.inj hh
          refine ⟨_, _, rfl, spl_ne _ _, ?_⟩
          rw [if_pos rfl, join_spl, hc]
          rfl
      · refine ⟨_, _, rfl, spl_ne _ _, ?_⟩
        rw [if_neg (by decide), join_spl]
        rfl
    obtain ⟨sg, ws, e1, e2, e3⟩ := hw
    rw [e1] at hfl I hr
    generalize prN (sg :: ws) = ps at *
    have hps : ps ≠ [] := fun e => by
      rw [e] at hfl
      cases hfl
    rcases I with ⟨g, _⟩ | ⟨g1, g2, g3, g4, g5, g6⟩
    · exact absurd g hps
    obtain ⟨row, low⟩ := st
    have h : row = ns := h
    subst h
    have g3 : low < row.length := g3
    have g5 : ∀ k, k < low → row.getD k 0 = 0 := g5
    have g6 : wT row (row.length - low) = ps := g6
    have full : wT row row.length = ps := by
      have := wT_skip (a := row) (row.length - low) low fun j h1 h2 => g5 _ (by omega)
      rw [show row.length - low + low = row.length by omega] at this
      rw [this, g6]
    obtain ⟨k1, k2⟩ := line_w row row.length
    rw [full] at k1 k2
    have hne : lineT row row.length ≠ [] := fun e => hps (k1.mpr e)
    refine ⟨nf_of_last (.inr g4), g2, ?_⟩
    unfold shownL
    rw [if_neg hne, k2, hfl]
    cases ps with
    | nil => exact absurd rfl hps
    | cons w r =>
      have hw1 : w.1 = sg := by
        injection hfl
      show (if w.1 = [45] then [45] else []) ++ TL.joinL [32] ws = l
      rw [hw1]
      exact e3

-- USES: RdM L_due_k11
/-! the law's own reading of what is shown -/
theorem fig_num {n m : Nat} (hm : 0 < m) (h : n < 10 ^ m) : figN (numL n) m = (n : Int) := by
  have hd : digL (numL n) = true := List.all_eq_true.mpr fun c hc => by
    have := TL.numL_digits n c hc
    rw [Bool.and_eq_true]
    exact ⟨decide_eq_true this.1, decide_eq_true this.2⟩
  have hl := numL_len n m hm h
  unfold figN
  rw [if_neg (fun z => z.elim (TL.numL_ne n) fun z => by omega), if_pos hd, TL.numL_val]
theorem term_par {s p : Nat} (h0 : p ≠ 0) : TL.par [120] [] (termL s p) = some ((if s = 1 then [] else numL s), (if p = 1 then [] else [94] ++ numL p)) := by
  have e : termL s p = (if s = 1 then [] else numL s) ++ ([120] ++ (if p = 1 then [] else [94] ++ numL p)) := by
    unfold termL
    rw [if_neg h0]
    congr 1
    split <;> rfl
  have hn : 120 ∉ (if s = 1 then [] else numL s) := by
    split
    · simp
    · exact TL.numL_free (by decide)
  rw [e]
  have := TL.par_part1 (s := 120) (S := []) (acc := []) (rest := (if p = 1 then [] else [94] ++ numL p)) hn
  rw [List.nil_append] at this
  exact this
theorem termW_num {s p : Nat} (hs : s < 10 ^ 60) (hp : p < 100) : termW (termL s p) = ((s : Int), (p : Int)) := by
  by_cases h0 : p = 0
  · have e : termL s p = numL s := by
      unfold termL
      rw [if_pos h0]
    have e2 : TL.par [120] [] (numL s) = none := TL.par_none1 (TL.numL_free (by decide))
    unfold termW
    rw [e, e2]
    show (figN (numL s) 60, (0 : Int)) = _
    rw [fig_num (by decide) hs, h0]
    rfl
  · unfold termW
    rw [term_par h0]
    show ((if (if s = 1 then [] else numL s) = [] then (1 : Int) else figN (if s = 1 then [] else numL s) 60), (if (if p = 1 then [] else [94] ++ numL p) = [] then (1 : Int) else if (if p = 1 then [] else [94] ++ numL p).head? = some 94 then figN (if p = 1 then [] else [94] ++ numL p).tail 2 else -1)) = _
    congr 1
    · by_cases h1 : s = 1
      · rw [if_pos h1, if_pos rfl, h1]
        rfl
      · rw [if_neg h1, if_neg (TL.numL_ne s), fig_num (by decide) hs]
    · by_cases h1 : p = 1
      · rw [if_pos h1, if_pos rfl, h1]
        rfl
      · rw [if_neg h1, if_neg (by simp)]
        exact (if_pos rfl).trans (fig_num (by decide) hp)
def sgnD (sg : List Nat) : Int := if sg = [45] then -1 else 1
theorem sgn_sg (x : Int) : sgnD (sgL x) * (x.natAbs : Int) = x := by
  unfold sgnD sgL
  by_cases h : x < 0
  · rw [if_pos h, if_pos rfl]
    omega
  · rw [if_neg h, if_neg (by decide)]
    omega
theorem flat_at : ∀ (ps : List (List Nat × List Nat)) (j : Nat), (flatW ps)[2 * j]? = ps[j]?.map (fun w => w.1) ∧ (flatW ps)[2 * j + 1]? = ps[j]?.map (fun w => w.2)
  | [], j => by simp [flatW]
  | w :: ps, 0 => ⟨rfl, rfl⟩
  | w :: ps, j + 1 => by
    have ih := flat_at ps j
    show (w.1 :: w.2 :: flatW ps)[2 * (j + 1)]? = _ ∧ (w.1 :: w.2 :: flatW ps)[2 * (j + 1) + 1]? = _
    rw [show 2 * (j + 1) = (2 * j + 1) + 1 by omega, List.getElem?_cons_succ, List.getElem?_cons_succ, List.getElem?_cons_succ, List.getElem?_cons_succ, List.getElem?_cons_succ]
    exact ih
def accD (ps : List (List Nat × List Nat)) (row : List Int) : List Int := ps.foldl (fun row w => row.set (termW w.2).2.toNat (sgnD w.1 * (termW w.2).1)) row
theorem runD_flat {ps : List (List Nat × List Nat)} {w0 : List Nat × List Nat} {row : List Int} (h0 : ps[0]? = some w0) (hok : ∀ w ∈ ps, 0 ≤ (termW w.2).1 ∧ 0 ≤ (termW w.2).2) :
    ∀ (j : Nat) (w : List Nat × List Nat), ps[j]? = some w → runD (flatW ps).tail (2 * j + 1) (some (row, sgnD w0.1)) = some (accD (ps.take (j + 1)) row, sgnD w.1)
  | 0, w, hw => by
    have ew : w0 = w := Option.some.inj (h0.symm.trans hw)
    subst ew
    have ht : (flatW ps).tail.getD 0 [] = w0.2 := by
      rw [List.getD_eq_getElem?_getD, List.getElem?_tail, (flat_at ps 0).2, h0]
      rfl
    obtain ⟨g1, g2⟩ := hok w0 (List.mem_of_getElem? h0)
    rw [runD_succ]
    show stepD (row, sgnD w0.1) 0 ((flatW ps).tail.getD 0 []) = _
    rw [ht]
    unfold stepD
    rw [if_pos rfl, if_neg (by omega)]
    obtain ⟨hlt, _⟩ := List.getElem?_eq_some_iff.mp h0
    rw [List.take_add_one, h0]
    rfl
  | j + 1, w, hw => by
    obtain ⟨hlt, _⟩ := List.getElem?_eq_some_iff.mp hw
    have hj : ps[j]? = some (ps[j]'(by omega)) := List.getElem?_eq_getElem _
    have ih := runD_flat (row := row) h0 hok j _ hj
    generalize ps[j]'(by omega) = v at *
    obtain ⟨g1, g2⟩ := hok w (List.mem_of_getElem? hw)
    have t1 : (flatW ps).tail.getD (2 * j + 1) [] = w.1 := by
      rw [List.getD_eq_getElem?_getD, List.getElem?_tail, show 2 * j + 1 + 1 = 2 * (j + 1) by omega, (flat_at ps (j + 1)).1, hw]
      rfl
    have t2 : (flatW ps).tail.getD (2 * j + 2) [] = w.2 := by
      rw [List.getD_eq_getElem?_getD, List.getElem?_tail, show 2 * j + 2 + 1 = 2 * (j + 1) + 1 by omega, (flat_at ps (j + 1)).2, hw]
      rfl
    rw [show 2 * (j + 1) + 1 = (2 * j + 1 + 1) + 1 by omega, runD_succ, runD_succ, ih]
    show (match stepD (accD (ps.take (j + 1)) row, sgnD v.1) (2 * j + 1) ((flatW ps).tail.getD (2 * j + 1) []) with | none => none | some st' => stepD st' (2 * j + 1 + 1) ((flatW ps).tail.getD (2 * j + 1 + 1) [])) = _
    rw [t1, show 2 * j + 1 + 1 = 2 * j + 2 by omega, t2]
    have s1 : stepD (accD (ps.take (j + 1)) row, sgnD v.1) (2 * j + 1) w.1 = some (accD (ps.take (j + 1)) row, sgnD w.1) := by
      unfold stepD
      rw [if_neg (by omega)]
      rfl
    rw [s1]
    show stepD (accD (ps.take (j + 1)) row, sgnD w.1) (2 * j + 2) w.2 = _
    unfold stepD
    rw [if_pos (by omega), if_neg (by omega)]
    have e : ps.take (j + 1 + 1) = ps.take (j + 1) ++ [w] := by
      rw [List.take_add_one, hw]
      rfl
    rw [e]
    unfold accD
    rw [List.foldl_append]
    rfl
/-- a hundred places, the i greatest powers told -/
def padP (ns : List Int) (i : Nat) : List Int := (List.range 100).map fun k => if ns.length - i ≤ k then ns.getD k 0 else 0
theorem padP_len (ns : List Int) (i : Nat) : (padP ns i).length = 100 := by
  unfold padP
  rw [List.length_map, List.length_range]
theorem padP_at (ns : List Int) (i k : Nat) (h : k < 100) : (padP ns i)[k]'(by rw [padP_len]; exact h) = if ns.length - i ≤ k then ns.getD k 0 else 0 := by
  unfold padP
  rw [List.getElem_map, List.getElem_range]
theorem padP_step {ns : List Int} {i : Nat} (hi : i < ns.length) : padP ns (i + 1) = (padP ns i).set (ns.length - 1 - i) (ns.getD (ns.length - 1 - i) 0) := by
  refine List.ext_getElem (by rw [List.length_set, padP_len, padP_len]) fun k h1 h2 => ?_
  have hk : k < 100 := by rw [padP_len] at h1; exact h1
  rw [padP_at ns (i + 1) k hk, List.getElem_set]
  by_cases he : ns.length - 1 - i = k
  · rw [if_pos he, if_pos (by omega), he]
  · rw [if_neg he, padP_at ns i k hk]
    by_cases h3 : ns.length - i ≤ k
    · rw [if_pos (by omega), if_pos h3]
    · rw [if_neg (by omega), if_neg h3]
theorem padP_zero {ns : List Int} {i : Nat} (hi : i < ns.length) (h : ns.getD (ns.length - 1 - i) 0 = 0) : padP ns (i + 1) = padP ns i := by
  refine List.ext_getElem (by rw [padP_len, padP_len]) fun k h1 h2 => ?_
  have hk : k < 100 := by rw [padP_len] at h2; exact h2
  rw [padP_at ns (i + 1) k hk, padP_at ns i k hk]
  by_cases he : ns.length - 1 - i = k
  · rw [if_pos (by omega), if_neg (by omega), ← he, h]
  · by_cases h3 : ns.length - i ≤ k
    · rw [if_pos (by omega), if_pos h3]
    · rw [if_neg (by omega), if_neg h3]
theorem padP_none (ns : List Int) : padP ns 0 = List.replicate 100 0 := by
  refine List.ext_getElem (by rw [padP_len, List.length_replicate]) fun k h1 h2 => ?_
  have hk : k < 100 := by rw [padP_len] at h1; exact h1
  rw [padP_at ns 0 k hk, List.getElem_replicate]
  split
  · rename_i h
    rw [List.getD_eq_getElem?_getD, List.getElem?_eq_none (by omega)]
    rfl
  · rfl
theorem padP_all {ns : List Int} (hn : Nf ns) (hl : ns.length ≤ 100) : trimI (padP ns ns.length) = ns := by
  refine Eq.trans (trim_ext (q := ns) fun k => ?_) hn
  show (padP ns ns.length).getD k 0 = ns.getD k 0
  by_cases hk : k < 100
  · rw [List.getD_eq_getElem?_getD, List.getElem?_eq_getElem (by rw [padP_len]; exact hk), padP_at ns ns.length k hk, if_pos (by omega)]
    rfl
  · rw [List.getD_eq_getElem?_getD, List.getElem?_eq_none (by rw [padP_len]; omega), List.getD_eq_getElem?_getD, List.getElem?_eq_none (by omega)]
theorem accD_w {ns : List Int} (hx : ∀ k, (ns.getD k 0).natAbs < 10 ^ 60) (hl : ns.length ≤ 100) : ∀ i, i ≤ ns.length → accD (wT ns i) (List.replicate 100 0) = padP ns i
  | 0, _ => (padP_none ns).symm
  | i + 1, hi => by
    have ih := accD_w hx hl i (by omega)
    have hs : wT ns (i + 1) = if ns.getD (ns.length - 1 - i) 0 = 0 then wT ns i else wT ns i ++ [(sgL (ns.getD (ns.length - 1 - i) 0), termL (ns.getD (ns.length - 1 - i) 0).natAbs (ns.length - 1 - i))] := rfl
    rw [hs]
    by_cases h0 : ns.getD (ns.length - 1 - i) 0 = 0
    · rw [if_pos h0, ih, padP_zero (by omega) h0]
    · rw [if_neg h0, padP_step (by omega), ← ih]
      unfold accD
      rw [List.foldl_append]
      show List.set (List.foldl _ _ _) (termW (termL _ _)).2.toNat (sgnD (sgL _) * (termW (termL _ _)).1) = _
      rw [termW_num (hx _) (by omega), sgn_sg]
      rfl
/-- the law's own reading tells what is shown -/
theorem due_shown {ns : List Int} (hn : Nf ns) (hl : ns.length ≤ 100) (hx : ∀ k, (ns.getD k 0).natAbs < 10 ^ 60) : dueN (shownL ns) = some ns := by
  by_cases h0 : ns = []
  · subst h0
    decide +kernel
  have hne := line_ne hn h0
  have e : shownL ns = lineT ns ns.length := if_neg hne
  have hw := words_line hne
  have hmem := wT_mem ns ns.length
  have hacc := accD_w hx hl ns.length (Nat.le_refl _)
  have hwords : wordsN (lineT ns ns.length) = (if (lineT ns ns.length).head? = some 45 then [45] else [43]) :: dueW (lineT ns ns.length) := by
    unfold wordsN dueW
    split <;> rfl
  rw [hw] at hwords
  have hall : ∀ w ∈ wT ns ns.length, 0 ≤ (termW w.2).1 ∧ 0 ≤ (termW w.2).2 := fun w hwm => by
    obtain ⟨x, p, hx0, ew, exp, hp⟩ := hmem w hwm
    rw [ew, termW_num (by rw [exp]; exact hx p) (by omega)]
    exact ⟨by show (0 : Int) ≤ _; omega, by show (0 : Int) ≤ _; omega⟩
  unfold dueN
  rw [e]
  have hsh := e
  generalize lineT ns ns.length = L at *
  cases hps : wT ns ns.length with
  | nil =>
    rw [hps] at hwords
    cases hwords
  | cons w r =>
    rw [hps] at hwords hall hacc
    have h1 : w.1 = (if L.head? = some 45 then [45] else [43]) := by injection hwords
    have h2 : (flatW (w :: r)).tail = dueW L := by
      show w.2 :: flatW r = _
      injection hwords
    have hs : sgW L = sgnD w.1 := by
      rw [h1]
      unfold sgW sgnD
      by_cases h : L.head? = some 45
      · rw [if_pos h, if_pos h, if_pos rfl]
      · rw [if_neg h, if_neg h, if_neg (by decide)]
    have hlen := flat_len (w :: r)
    have hlast : (w :: r)[r.length]? = some ((w :: r)[r.length]'(by simp)) := List.getElem?_eq_getElem _
    have hrun := runD_flat (row := List.replicate 100 0) (show (w :: r)[0]? = some w from rfl) hall r.length _ hlast
    rw [← h2, hs, List.length_tail, hlen, List.length_cons, show 2 * (r.length + 1) - 1 = 2 * r.length + 1 by omega, hrun]
    show (if shownL (trimI (accD ((w :: r).take (r.length + 1)) (List.replicate 100 0))) = L then some (trimI (accD ((w :: r).take (r.length + 1)) (List.replicate 100 0))) else none) = some ns
    rw [List.take_of_length_le (by simp), hacc, padP_all hn hl, if_pos hsh]

-- USES: RdA RdC L_turned L_odd_k11
/-! the law's lines: how long their words and their runs of figures are -/
def isF (c : Nat) : Bool := decide (48 ≤ c) && decide (c ≤ 57)
theorem infix_app {α : Type} {r a b : List α} (h : r <:+: a ++ b) : r <:+: a ∨ r <:+: b ∨ ∃ r1 r2, r = r1 ++ r2 ∧ r1 <:+ a ∧ r2 <+: b := by
  obtain ⟨s, t, e⟩ := h
  rw [List.append_assoc] at e
  rcases List.append_eq_append_iff.mp e with ⟨m, h1, h2⟩ | ⟨m, h1, h2⟩
  · rcases List.append_eq_append_iff.mp h2 with ⟨k, g1, g2⟩ | ⟨k, g1, g2⟩
    · refine .inl ⟨s, k, ?_⟩
      rw [h1, g1, List.append_assoc]
    · exact .inr (.inr ⟨m, k, g1, ⟨s, h1.symm⟩, ⟨t, g2.symm⟩⟩)
  · exact .inr (.inl ⟨m, t, by rw [h2, List.append_assoc]⟩)
/-- infixes of one kind are short -/
def Inf (P : List Nat → Prop) (k : Nat) (l : List Nat) : Prop := ∀ r, P r → r <:+: l → r.length ≤ k
def NoB (r : List Nat) : Prop := 32 ∉ r
def Fig (r : List Nat) : Prop := ∀ c ∈ r, isF c = true
/-- the states of a reader that holds a line's form: n figures in a row, what the last sign was -/
inductive Sta where
  | st | mi | fi (n : Nat) | xx | ca | b1 | op | b2
def nxt : Sta → Nat → Option Sta
  | .st, c => if isF c = true then some (.fi 1) else if c = 120 then some .xx else if c = 45 then some .mi else none
  | .mi, c => if isF c = true then some (.fi 1) else if c = 120 then some .xx else none
  | .fi n, c => if isF c = true then (if n + 1 ≤ 59 then some (.fi (n + 1)) else none) else if c = 120 then some .xx else if c = 32 then some .b1 else none
  | .xx, c => if c = 94 then some .ca else if c = 32 then some .b1 else none
  | .ca, c => if isF c = true then some (.fi 1) else none
  | .b1, c => if c = 43 ∨ c = 45 then some .op else none
  | .op, c => if c = 32 then some .b2 else none
  | .b2, c => if isF c = true then some (.fi 1) else if c = 120 then some .xx else none
def run : List Nat → Sta → Option Sta
  | [], s => some s
  | c :: l, s => match nxt s c with
    | none => none
    | some s1 => run l s1
theorem run_app : ∀ (a b : List Nat) (s : Sta), run (a ++ b) s = (run a s).bind (run b)
  | [], b, s => rfl
  | c :: a, b, s => by
    show (match nxt s c with | none => none | some s1 => run (a ++ b) s1) = (match nxt s c with | none => none | some s1 => run a s1).bind (run b)
    cases nxt s c with
    | none => rfl
    | some s1 => exact run_app a b s1
theorem run_split {a b : List Nat} {s t : Sta} (h : run (a ++ b) s = some t) : ∃ m, run a s = some m ∧ run b m = some t := by
  rw [run_app] at h
  cases hm : run a s with
  | none => rw [hm] at h; cases h
  | some m =>
    rw [hm] at h
    exact ⟨m, rfl, h⟩
theorem run_cons {c : Nat} {l : List Nat} {s t : Sta} (h : run (c :: l) s = some t) : ∃ m, nxt s c = some m ∧ run l m = some t := by
  have h : (match nxt s c with | none => none | some s1 => run l s1) = some t := h
  cases hm : nxt s c with
  | none => rw [hm] at h; cases h
  | some m =>
    rw [hm] at h
    exact ⟨m, rfl, h⟩
/-- behind a figure: in figures -/
theorem nxt_fig {s t : Sta} {c : Nat} (hc : isF c = true) (h : nxt s c = some t) : ∃ n, t = .fi n ∧ 1 ≤ n ∧ n ≤ 59 ∧ ∀ m, s = .fi m → n = m + 1 := by
  have hx : c ≠ 94 ∧ c ≠ 32 ∧ c ≠ 43 ∧ c ≠ 45 := by
    unfold isF at hc
    rw [Bool.and_eq_true, decide_eq_true_iff, decide_eq_true_iff] at hc
    omega
  cases s with
  | st =>
    dsimp only [nxt] at h
    rw [if_pos hc] at h
    cases h
    exact ⟨1, rfl, by omega, by omega, fun m e => nomatch e⟩
  | mi =>
    dsimp only [nxt] at h
    rw [if_pos hc] at h
    cases h
    exact ⟨1, rfl, by omega, by omega, fun m e => nomatch e⟩
  | fi n =>
    dsimp only [nxt] at h
    rw [if_pos hc] at h
    split at h
    · cases h
      exact ⟨n + 1, rfl, by omega, by omega, fun m e => by cases e; rfl⟩
    · cases h
  | xx =>
    dsimp only [nxt] at h
    rw [if_neg hx.1, if_neg hx.2.1] at h
    cases h
  | ca =>
    dsimp only [nxt] at h
    rw [if_pos hc] at h
    cases h
    exact ⟨1, rfl, by omega, by omega, fun m e => nomatch e⟩
  | b1 =>
    dsimp only [nxt] at h
    rw [if_neg (by omega)] at h
    cases h
  | op =>
    dsimp only [nxt] at h
    rw [if_neg hx.2.1] at h
    cases h
  | b2 =>
    dsimp only [nxt] at h
    rw [if_pos hc] at h
    cases h
    exact ⟨1, rfl, by omega, by omega, fun m e => nomatch e⟩
theorem run_figs : ∀ (r : List Nat) (s t : Sta), Fig r → r ≠ [] → run r s = some t → ∃ n, t = .fi n ∧ r.length ≤ n ∧ n ≤ 59 ∧ ∀ m, s = .fi m → n = m + r.length
  | [], _, _, _, h, _ => absurd rfl h
  | [c], s, t, hf, _, h => by
    obtain ⟨m, h1, h2⟩ := run_cons h
    cases h2
    obtain ⟨n, e, g1, g2, g3⟩ := nxt_fig (hf c List.mem_cons_self) h1
    exact ⟨n, e, g1, g2, g3⟩
  | c :: d :: r, s, t, hf, _, h => by
    obtain ⟨m, h1, h2⟩ := run_cons h
    obtain ⟨n, e, g1, g2, g3⟩ := nxt_fig (hf c List.mem_cons_self) h1
    obtain ⟨k, e2, k1, k2, k3⟩ := run_figs (d :: r) m t (fun x hx => hf x (List.mem_cons_of_mem _ hx)) (by simp) h2
    have := k3 n e
    refine ⟨k, e2, ?_, k2, fun m2 em => ?_⟩
    · rw [List.length_cons]
      omega
    · have := g3 m2 em
      rw [List.length_cons]
      omega
/-- a line of that form -/
def Ln (l : List Nat) : Prop := ∃ t, run l .st = some t
theorem Ln.figs {l : List Nat} (h : Ln l) : Inf Fig 59 l := fun r hf hr => by
  obtain ⟨t, h⟩ := h
  obtain ⟨a, b, rfl⟩ := hr
  obtain ⟨m, h1, _⟩ := run_split h
  obtain ⟨k, _, h3⟩ := run_split h1
  by_cases hne : r = []
  · rw [hne]
    decide
  · obtain ⟨n, _, g1, g2, _⟩ := run_figs r k m hf hne h3
    omega
/-- a sign that is no figure has no figures on both sides -/
theorem Ln.side {u v r1 r2 : List Nat} {c : Nat} (h : Ln (u ++ c :: v)) (hc : isF c = false) (h1 : r1 <:+ u) (h2 : r2 <+: v) (f1 : Fig r1) (f2 : Fig r2) : r1 = [] ∨ r2 = [] := by
  by_cases e1 : r1 = []
  · exact .inl e1
  by_cases e2 : r2 = []
  · exact .inr e2
  obtain ⟨t, h⟩ := h
  obtain ⟨a, rfl⟩ := h1
  obtain ⟨b, rfl⟩ := h2
  obtain ⟨m, g1, g2⟩ := run_split h
  obtain ⟨k, _, g3⟩ := run_split g1
  obtain ⟨n, rfl, _, _, _⟩ := run_figs r1 k m f1 e1 g3
  obtain ⟨p, g4, g5⟩ := run_cons g2
  obtain ⟨q, g6, _⟩ := run_split g5
  obtain ⟨d, r, rfl⟩ := List.exists_cons_of_ne_nil e2
  obtain ⟨w, g7, _⟩ := run_cons g6
  have hd := f2 d List.mem_cons_self
  have hx : d ≠ 94 ∧ d ≠ 32 ∧ d ≠ 43 ∧ d ≠ 45 := by
    unfold isF at hd
    rw [Bool.and_eq_true, decide_eq_true_iff, decide_eq_true_iff] at hd
    omega
  dsimp only [nxt] at g4
  rw [if_neg (by rw [hc]; decide)] at g4
  split at g4
  · cases g4
    dsimp only [nxt] at g7
    rw [if_neg hx.1, if_neg hx.2.1] at g7
    cases g7
  · split at g4
    · cases g4
      dsimp only [nxt] at g7
      rw [if_neg (by omega)] at g7
      cases g7
    · cases g4
/-- behind an x: its power, a blank, or nothing -/
theorem Ln.behind {u v : List Nat} {c : Nat} (h : Ln (u ++ 120 :: c :: v)) : isF c = false ∧ c ≠ 120 := by
  obtain ⟨t, h⟩ := h
  obtain ⟨m, _, g2⟩ := run_split h
  obtain ⟨p, g4, g5⟩ := run_cons g2
  obtain ⟨q, g6, _⟩ := run_cons g5
  have hp : p = .xx := by
    cases m <;> dsimp only [nxt] at g4 <;> simp [isF] at g4 <;> first | exact g4.symm | (exact absurd g4 (by simp))
  subst hp
  dsimp only [nxt] at g6
  split at g6
  · rename_i hc
    rw [hc]
    decide
  · split at g6
    · rename_i hc
      rw [hc]
      decide
    · cases g6
theorem run_num {n : Nat} {s : Sta} (hs : s = .st ∨ s = .mi ∨ s = .ca ∨ s = .b2) (hl : (numL n).length ≤ 59) : run (numL n) s = some (.fi (numL n).length) := by
  have hd : Fig (numL n) := fun c hc => by
    have := TL.numL_digits n c hc
    unfold isF
    rw [Bool.and_eq_true]
    exact ⟨decide_eq_true this.1, decide_eq_true this.2⟩
  have hne : numL n ≠ [] := TL.numL_ne n
  have key : ∀ (r : List Nat) (k : Nat), Fig r → k + r.length ≤ 59 → run r (.fi k) = some (.fi (k + r.length)) := fun r => by
    induction r with
    | nil => intro k _ _; rfl
    | cons c r ih =>
      intro k hf hk
      rw [List.length_cons] at hk
      have h1 : nxt (.fi k) c = some (.fi (k + 1)) := by
        dsimp only [nxt]
        rw [if_pos (hf c List.mem_cons_self), if_pos (by omega)]
      show (match nxt (.fi k) c with | none => none | some s1 => run r s1) = _
      rw [h1]
      show run r (.fi (k + 1)) = _
      rw [ih (k + 1) (fun x hx => hf x (List.mem_cons_of_mem _ hx)) (by omega), List.length_cons, show k + 1 + r.length = k + (r.length + 1) by omega]
  generalize numL n = l at *
  obtain ⟨c, r, rfl⟩ := List.exists_cons_of_ne_nil hne
  have hc := hd c List.mem_cons_self
  have h1 : nxt s c = some (.fi 1) := by
    rcases hs with rfl | rfl | rfl | rfl <;> dsimp only [nxt] <;> rw [if_pos hc]
  show (match nxt s c with | none => none | some s1 => run r s1) = _
  rw [h1]
  rw [List.length_cons] at hl ⊢
  show run r (.fi 1) = _
  rw [key r 1 (fun x hx => hd x (List.mem_cons_of_mem _ hx)) (by omega), show 1 + r.length = r.length + 1 by omega]
/-- behind a term -/
def Beh (s : Sta) : Prop := s = .xx ∨ ∃ n, s = .fi n
theorem run_term {n p : Nat} {s : Sta} (hs : s = .st ∨ s = .mi ∨ s = .b2) (hn : n < 10 ^ 59) (hp : p < 100) : ∃ t, run (termL n p) s = some t ∧ Beh t := by
  have hl := numL_len n 59 (by decide) hn
  have hs2 : s = .st ∨ s = .mi ∨ s = .ca ∨ s = .b2 := by
    rcases hs with h | h | h
    · exact .inl h
    · exact .inr (.inl h)
    · exact .inr (.inr (.inr h))
  unfold termL
  by_cases h0 : p = 0
  · rw [if_pos h0]
    exact ⟨_, run_num hs2 hl, .inr ⟨_, rfl⟩⟩
  rw [if_neg h0, run_app]
  have hx : ∃ m, run (if n = 1 then [] else numL n) s = some m ∧ nxt m 120 = some .xx := by
    by_cases h1 : n = 1
    · rw [if_pos h1]
      refine ⟨s, rfl, ?_⟩
      rcases hs with rfl | rfl | rfl <;> rfl
    · rw [if_neg h1]
      exact ⟨_, run_num hs2 hl, rfl⟩
  obtain ⟨m, e1, e2⟩ := hx
  rw [e1]
  show ∃ t, run (if p = 1 then [120] else [120, 94] ++ numL p) m = some t ∧ Beh t
  by_cases h1 : p = 1
  · rw [if_pos h1]
    refine ⟨.xx, ?_, .inl rfl⟩
    show (match nxt m 120 with | none => none | some s1 => run [] s1) = _
    rw [e2]
    rfl
  · rw [if_neg h1]
    have hp2 := numL_len p 2 (by decide) hp
    refine ⟨.fi (numL p).length, ?_, .inr ⟨_, rfl⟩⟩
    show (match nxt m 120 with | none => none | some s1 => run (94 :: numL p) s1) = _
    rw [e2]
    show run (numL p) .ca = _
    exact run_num (.inr (.inr (.inl rfl))) (by omega)
theorem run_sign (neg : Bool) {s : Sta} (h : Beh s) : run (signL neg false) s = some .b2 := by
  rcases h with rfl | ⟨n, rfl⟩ <;> cases neg <;> rfl
theorem line_run {ns : List Int} (hx : ∀ k, (ns.getD k 0).natAbs < 10 ^ 59) (hl : ns.length ≤ 100) : ∀ i, i ≤ ns.length → (lineT ns i = [] ∨ ∃ t, run (lineT ns i) .st = some t ∧ Beh t)
  | 0, _ => .inl rfl
  | i + 1, hi => by
    have ih := line_run hx hl i (by omega)
    have hs : lineT ns (i + 1) = if ns.getD (ns.length - 1 - i) 0 = 0 then lineT ns i else lineT ns i ++ (signL (decide (ns.getD (ns.length - 1 - i) 0 < 0)) (decide (lineT ns i = [])) ++ termL (ns.getD (ns.length - 1 - i) 0).natAbs (ns.length - 1 - i)) := rfl
    rw [hs]
    have hxi := hx (ns.length - 1 - i)
    generalize ns.getD (ns.length - 1 - i) 0 = x at *
    by_cases h0 : x = 0
    · rw [if_pos h0]
      exact ih
    rw [if_neg h0]
    refine .inr ?_
    by_cases hne : lineT ns i = []
    · rw [hne, decide_eq_true rfl, List.nil_append, run_app]
      have hm : ∃ m, run (signL (decide (x < 0)) true) .st = some m ∧ (m = .st ∨ m = .mi ∨ m = .b2) := by
        cases decide (x < 0)
        · exact ⟨.st, rfl, .inl rfl⟩
        · exact ⟨.mi, rfl, .inr (.inl rfl)⟩
      obtain ⟨m, e, h⟩ := hm
      rw [e]
      exact run_term h hxi (by omega)
    · obtain ⟨t, h1, h2⟩ := ih.resolve_left hne
      rw [decide_eq_false hne, run_app, h1]
      show ∃ t2, run (signL (decide (x < 0)) false ++ termL x.natAbs (ns.length - 1 - i)) t = some t2 ∧ Beh t2
      rw [run_app, run_sign _ h2]
      exact run_term (.inr (.inr rfl)) hxi (by omega)
theorem shown_ln {ns : List Int} (hx : ∀ k, (ns.getD k 0).natAbs < 10 ^ 59) (hl : ns.length ≤ 100) : Ln (shownL ns) := by
  unfold shownL
  split
  · exact ⟨_, rfl⟩
  · rename_i hne
    obtain ⟨t, h, _⟩ := (line_run hx hl ns.length (Nat.le_refl _)).resolve_left hne
    exact ⟨t, h⟩

-- USES: RdD RepT
-- IMPORT: HandS.ReplaceList
/-! both readings agree on the law's lines -/
theorem Inf.sub {P : List Nat → Prop} {k : Nat} {l u : List Nat} (h : Inf P k l) (hu : u <:+: l) : Inf P k u := fun r hr hi => h r hr (hi.trans hu)
theorem Inf.len {P : List Nat → Prop} (l : List Nat) : Inf P l.length l := fun r _ hi => hi.length_le
theorem Inf.le {P : List Nat → Prop} {k j : Nat} {l : List Nat} (h : Inf P k l) (hk : k ≤ j) : Inf P j l := fun r hr hi => Nat.le_trans (h r hr hi) hk
theorem fig_app {a b : List Nat} (h : Fig (a ++ b)) : Fig a ∧ Fig b := ⟨fun c hc => h c (List.mem_append_left _ hc), fun c hc => h c (List.mem_append_right _ hc)⟩
theorem fig_join {a b : List Nat} (h1 : Fig a) (h2 : Fig b) : Fig (a ++ b) := fun c hc => (List.mem_append.mp hc).elim (h1 c) (h2 c)
theorem nob_app {a b : List Nat} (h : NoB (a ++ b)) : NoB a ∧ NoB b := ⟨fun hc => h (List.mem_append_left _ hc), fun hc => h (List.mem_append_right _ hc)⟩
theorem Inf.app {P : List Nat → Prop} (cl : ∀ {a b}, P (a ++ b) → P a ∧ P b) {k j : Nat} {u v : List Nat} (h1 : Inf P k u) (h2 : Inf P j v) : Inf P (k + j) (u ++ v) := fun r hr hi => by
  rcases infix_app hi with h | h | ⟨r1, r2, rfl, g1, g2⟩
  · have := h1 r hr h
    omega
  · have := h2 r hr h
    omega
  · have a1 := h1 r1 (cl hr).1 g1.isInfix
    have a2 := h2 r2 (cl hr).2 g2.isInfix
    rw [List.length_append]
    omega
theorem take_inf (l : List Nat) (p : Nat) : l.take p <:+: l := (List.take_prefix p l).isInfix
theorem drop_inf (l : List Nat) (p : Nat) : l.drop p <:+: l := (List.drop_suffix p l).isInfix
theorem mid_inf {u v r1 r2 : List Nat} {w : List Nat} (h1 : r1 <:+ u) (h2 : r2 <+: v) : r1 ++ (w ++ r2) <:+: u ++ (w ++ v) := by
  obtain ⟨a, rfl⟩ := h1
  obtain ⟨b, rfl⟩ := h2
  exact ⟨a, b, by simp⟩
theorem pre_cons {d : Nat} {v r : List Nat} (h : r <+: d :: v) : r = [] ∨ ∃ r2, r = d :: r2 ∧ r2 <+: v := by
  obtain ⟨b, e⟩ := h
  cases r with
  | nil => exact .inl rfl
  | cons x r =>
    injection e with e1 e2
    exact .inr ⟨r, by rw [e1], b, e2⟩
/-- one sign between: the runs of figures grow by it at most -/
theorem fig_mid {u v : List Nat} {d k : Nat} (hu : Inf Fig k u) (hv : Inf Fig k v) (hm : ∀ r1 r2, r1 <:+ u → r2 <+: v → Fig r1 → Fig r2 → r1.length + r2.length ≤ k) : Inf Fig (k + 1) (u ++ d :: v) := fun r hr hi => by
  rcases infix_app hi with h | h | ⟨r1, r2, rfl, g1, g2⟩
  · have := hu r hr h
    omega
  · have h : r <:+: [d] ++ v := h
    have := (Inf.app fig_app (Inf.len [d]) hv) r hr h
    rw [List.length_singleton] at this
    omega
  · have hf := fig_app hr
    rcases pre_cons g2 with rfl | ⟨r3, rfl, g3⟩
    · have := hm r1 [] g1 (List.nil_prefix) hf.1 (fun c hc => nomatch hc)
      rw [List.length_append]
      simp only [List.length_nil] at this ⊢
      omega
    · have hf3 : Fig r3 := fun c hc => hf.2 c (List.mem_cons_of_mem _ hc)
      have := hm r1 r3 g1 g3 hf.1 hf3
      rw [List.length_append, List.length_cons]
      omega
/-- what stands on both sides of a sign of such a line -/
theorem Ln.mid {u v : List Nat} {c : Nat} (h : Ln (u ++ c :: v)) (r1 r2 : List Nat) (g1 : r1 <:+ u) (g2 : r2 <+: v) (f1 : Fig r1) (f2 : Fig r2) : r1.length + r2.length ≤ 59 := by
  have hf := h.figs
  have a1 : r1.length ≤ 59 := hf r1 f1 (g1.isInfix.trans ⟨[], c :: v, rfl⟩)
  have a2 : r2.length ≤ 59 := hf r2 f2 (g2.isInfix.trans ⟨u ++ [c], [], by simp⟩)
  cases hc : isF c with
  | true =>
    have := hf (r1 ++ ([c] ++ r2)) (fig_join f1 (fig_join (fun x hx => by rw [List.mem_singleton.mp hx]; exact hc) f2)) (mid_inf (w := [c]) g1 g2)
    rw [List.length_append, List.length_append, List.length_singleton] at this
    omega
  | false =>
    rcases h.side hc g1 g2 f1 f2 with e | e
    · rw [e, List.length_nil]
      omega
    · rw [e, List.length_nil]
      omega
structure LineOk (l : List Nat) : Prop where
  len : l.length ≤ 60000
  nob : Inf NoB 600 l
  fig : Inf Fig 60 l
theorem short_ok {l : List Nat} (h : l.length ≤ 60) : LineOk l := ⟨by omega, (Inf.len l).le (by omega), (Inf.len l).le h⟩
theorem turned_ok {l m : List Nat} (h : Ln l) (hB : Inf NoB 68 l) (hl : l.length ≤ 7000) (T : Turned l m) : LineOk m := by
  cases T with
  | put p d hp hd =>
    have e : l.take p ++ [d] ++ l.drop p = l.take p ++ d :: l.drop p := by simp
    rw [e]
    refine ⟨?_, ?_, fig_mid (k := 59) (h.figs.sub (take_inf l p)) (h.figs.sub (drop_inf l p)) fun r1 r2 g1 g2 f1 f2 => ?_⟩
    · rw [List.length_append, List.length_cons, List.length_take, List.length_drop]
      omega
    · exact (Inf.app nob_app (hB.sub (take_inf l p)) (Inf.app nob_app (Inf.len [d]) (hB.sub (drop_inf l p)))).le (by simp)
    · have := h.figs (r1 ++ ([] ++ r2)) (fig_join f1 f2) (by
        have := mid_inf (w := []) g1 g2
        rwa [List.nil_append, List.nil_append, List.take_append_drop] at this)
      rw [List.length_append, List.nil_append] at this
      exact this
  | out p hp =>
    by_cases he : p = l.length
    · have e : l.take p ++ l.drop (p + 1) = l := by
        rw [he, List.take_length, List.drop_eq_nil_of_le (by omega), List.append_nil]
      rw [e]
      exact ⟨by omega, hB.le (by decide), h.figs.le (by decide)⟩
    · have hlt : p < l.length := by omega
      have e := (List.take_append_drop p l).symm
      rw [List.drop_eq_getElem_cons hlt] at e
      have h2 : Ln (l.take p ++ l[p] :: l.drop (p + 1)) := e ▸ h
      refine ⟨?_, ?_, fun r hr hi => ?_⟩
      · rw [List.length_append, List.length_take, List.length_drop]
        omega
      · exact (Inf.app nob_app (hB.sub (take_inf l p)) (hB.sub (drop_inf l (p + 1)))).le (by decide)
      · rcases infix_app hi with g | g | ⟨r1, r2, rfl, g1, g2⟩
        · have := h.figs r hr (g.trans (take_inf l p))
          omega
        · have := h.figs r hr (g.trans (drop_inf l (p + 1)))
          omega
        · have := h2.mid r1 r2 g1 g2 (fig_app hr).1 (fig_app hr).2
          rw [List.length_append]
          omega
  | other p d hp hd =>
    by_cases he : p = l.length
    · have e : l.take p ++ [d] ++ l.drop (p + 1) = l ++ [d] := by
        rw [he, List.take_length, List.drop_eq_nil_of_le (by omega), List.append_nil]
      rw [e]
      refine ⟨by rw [List.length_append, List.length_singleton]; omega, (Inf.app nob_app hB (Inf.len [d])).le (by simp), (Inf.app fig_app h.figs (Inf.len [d])).le (by simp)⟩
    · have hlt : p < l.length := by omega
      have e := (List.take_append_drop p l).symm
      rw [List.drop_eq_getElem_cons hlt] at e
      have h2 : Ln (l.take p ++ l[p] :: l.drop (p + 1)) := e ▸ h
      have e2 : l.take p ++ [d] ++ l.drop (p + 1) = l.take p ++ d :: l.drop (p + 1) := by simp
      rw [e2]
      refine ⟨?_, ?_, fig_mid (k := 59) (h.figs.sub (take_inf l p)) (h.figs.sub (drop_inf l (p + 1))) h2.mid⟩
      · rw [List.length_append, List.length_cons, List.length_take, List.length_drop]
        omega
      · exact (Inf.app nob_app (hB.sub (take_inf l p)) (Inf.app nob_app (Inf.len [d]) (hB.sub (drop_inf l (p + 1))))).le (by simp)
/-- each x by another sign -/
def swapX (d : Nat) (l : List Nat) : List Nat := l.map fun c => if c = 120 then d else c
theorem swap_ok {l : List Nat} {d : Nat} (h : Ln l) (hB : Inf NoB 68 l) (hl : l.length ≤ 7000) : LineOk (swapX d l) := by
  have back : ∀ r, r <:+: swapX d l → ∃ r0, r0 <:+: l ∧ r = swapX d r0 := fun r hr => by
    obtain ⟨a, b, e⟩ := hr
    obtain ⟨x, y, e1, e2, e3⟩ := List.map_eq_append_iff.mp (show l.map (fun c => if c = 120 then d else c) = a ++ r ++ b from e.symm)
    obtain ⟨x1, x2, g1, g2, g3⟩ := List.map_eq_append_iff.mp e2
    exact ⟨x2, ⟨x1, y, by rw [e1, g1]⟩, g3.symm⟩
  refine ⟨by unfold swapX; rw [List.length_map]; omega, fun r hr hi => ?_, fun r hr hi => ?_⟩
  · obtain ⟨r0, h0, rfl⟩ := back r hi
    have := hB r0 (fun hc => hr (List.mem_map.mpr ⟨32, hc, rfl⟩)) h0
    unfold swapX
    rw [List.length_map]
    omega
  · obtain ⟨r0, h0, rfl⟩ := back r hi
    unfold swapX at hr ⊢
    rw [List.length_map]
    have keep : ∀ c, c ∈ r0 → c ≠ 120 → isF c = true := fun c hc hn => by
      have := hr _ (List.mem_map.mpr ⟨c, hc, rfl⟩)
      rwa [if_neg hn] at this
    by_cases hx : 120 ∈ r0
    · obtain ⟨a, b, e, hna⟩ := List.eq_append_cons_of_mem hx
      have ha : a.length ≤ 59 := h.figs a (fun c hc => keep c (by rw [e]; exact List.mem_append_left _ hc) (fun z => hna (z ▸ hc))) (List.IsInfix.trans ⟨[], 120 :: b, by rw [e]; rfl⟩ h0)
      cases b with
      | nil =>
        rw [e, List.length_append, List.length_singleton]
        omega
      | cons c b =>
        obtain ⟨s, t, et⟩ := h0
        have h2 : Ln ((s ++ a) ++ 120 :: c :: (b ++ t)) := by
          have : l = (s ++ a) ++ 120 :: c :: (b ++ t) := by
            rw [← et, e]
            simp
          exact this ▸ h
        obtain ⟨q1, q2⟩ := h2.behind
        have := keep c (by rw [e]; simp) q2
        rw [q1] at this
        cases this
    · have := h.figs r0 (fun c hc => keep c hc fun z => hx (z ▸ hc)) h0
      omega
theorem swap_repl (d : Nat) : ∀ l : List Nat, PySem.StrLaws.replL [120] [d] l = swapX d l
  | [] => PySem.StrLaws.replL_nil
  | c :: l => by
    by_cases hc : c = 120
    · rw [PySem.StrLaws.replL_hit (y := [120]) (z := [d]) (by simp) (show (c :: l).take 1 = [120] by rw [hc]; rfl)]
      show [d] ++ PySem.StrLaws.replL [120] [d] l = (if c = 120 then d else c) :: swapX d l
      rw [swap_repl d l, if_pos hc]
      rfl
    · rw [PySem.StrLaws.replL_miss (y := [120]) (z := [d]) (show ¬ (c :: l).take 1 = [120] from fun e => hc (by injection e)), swap_repl d l]
      show c :: swapX d l = (if c = 120 then d else c) :: swapX d l
      rw [if_neg hc]
theorem repl_S (l : List Nat) (d : Nat) : Txt.replace (S l) (S [120]) (S [d]) = S (swapX d l) := by
  have h := PySem.StrLaws.replace_list (x := S l) (y := S [120]) (z := S [d]) (by rw [S_length]; decide)
  refine TL.ext_tl ?_
  show (Txt.replace (S l) (S [120]) (S [d])).cps.toList = _
  rw [h]
  exact swap_repl d l
theorem lineT_nob {ns : List Int} (hx : ∀ k, (ns.getD k 0).natAbs < 10 ^ 60) (hl : ns.length ≤ 100) : ∀ i, Inf NoB 68 (lineT ns i)
  | 0 => (Inf.len []).le (by decide)
  | i + 1 => by
    have ih := lineT_nob hx hl i
    have hs : lineT ns (i + 1) = if ns.getD (ns.length - 1 - i) 0 = 0 then lineT ns i else lineT ns i ++ (signL (decide (ns.getD (ns.length - 1 - i) 0 < 0)) (decide (lineT ns i = [])) ++ termL (ns.getD (ns.length - 1 - i) 0).natAbs (ns.length - 1 - i)) := rfl
    rw [hs]
    split
    · exact ih
    have h1 := termL_len (hx (ns.length - 1 - i)) (p := ns.length - 1 - i) (by omega)
    have h2 := signL_len (decide (ns.getD (ns.length - 1 - i) 0 < 0)) (decide (lineT ns i = []))
    have hlen : (signL (decide (ns.getD (ns.length - 1 - i) 0 < 0)) (decide (lineT ns i = [])) ++ termL (ns.getD (ns.length - 1 - i) 0).natAbs (ns.length - 1 - i)).length ≤ 68 := by
      rw [List.length_append]
      omega
    intro r hr hi
    rcases infix_app hi with g | g | ⟨r1, r2, rfl, g1, g2⟩
    · exact ih r hr g
    · exact Nat.le_trans g.length_le hlen
    · by_cases hne : lineT ns i = []
      · rw [hne] at g1
        have e1 : r1 = [] := List.suffix_nil.mp g1
        rw [e1, List.nil_append]
        exact Nat.le_trans g2.length_le hlen
      · have hb : ∃ v, signL (decide (ns.getD (ns.length - 1 - i) 0 < 0)) (decide (lineT ns i = [])) ++ termL (ns.getD (ns.length - 1 - i) 0).natAbs (ns.length - 1 - i) = 32 :: v := by
          rw [decide_eq_false hne]
          cases decide (ns.getD (ns.length - 1 - i) 0 < 0) <;> exact ⟨_, rfl⟩
        obtain ⟨v, hv⟩ := hb
        rw [hv] at g2
        rcases pre_cons g2 with e | ⟨r3, e, _⟩
        · rw [e, List.append_nil]
          exact ih r1 (nob_app hr).1 g1.isInfix
        · exact absurd (show (32 : Nat) ∈ r1 ++ r2 by rw [e]; simp) hr
theorem shown_nob {ns : List Int} (hx : ∀ k, (ns.getD k 0).natAbs < 10 ^ 60) (hl : ns.length ≤ 100) : Inf NoB 68 (shownL ns) := by
  unfold shownL
  split
  · exact (Inf.len [48]).le (by decide)
  · exact lineT_nob hx hl _
theorem shown_len {ns : List Int} (hx : ∀ k, (ns.getD k 0).natAbs < 10 ^ 60) (hl : ns.length ≤ 100) : (shownL ns).length ≤ 7000 := by
  have := lineT_len hx (by omega) ns.length
  unfold shownL
  split
  · decide
  · omega
/-- words are infixes without a blank -/
theorem spl_inf : ∀ (l acc w : List Nat), w ∈ TL.spl [32] 0 acc l → NoB acc → NoB w ∧ w <:+: acc ++ l
  | [], acc, w, h, hb => by
    rw [TL.spl_nil, List.mem_singleton] at h
    rw [h, List.append_nil]
    exact ⟨hb, List.infix_rfl⟩
  | c :: l, acc, w, h, hb => by
    by_cases hp : TL.pre [32] (c :: l) = true
    · rw [TL.spl_hit hp] at h
      rcases List.mem_cons.mp h with e | h
      · rw [e]
        exact ⟨hb, (List.prefix_append acc _).isInfix⟩
      · obtain ⟨h1, h2⟩ := spl_inf l [] w h (fun hc => nomatch hc)
        exact ⟨h1, h2.trans ⟨acc ++ [c], [], by simp⟩⟩
    · have hc : c ≠ 32 := fun e => hp (by rw [e]; rfl)
      rw [TL.spl_miss (by simpa using hp)] at h
      obtain ⟨h1, h2⟩ := spl_inf l (acc ++ [c]) w h (fun hm => (List.mem_append.mp hm).elim hb fun hm => hc (List.mem_singleton.mp hm).symm)
      refine ⟨h1, ?_⟩
      rwa [List.append_assoc] at h2
theorem LineOk.words {l : List Nat} (h : LineOk l) : ∀ w ∈ wordsN l, w.length ≤ 640 := fun w hw => by
  have key : ∀ m : List Nat, m <:+: l → w ∈ TL.spl [32] 0 [] m → w.length ≤ 640 := fun m hm hw => by
    obtain ⟨h1, h2⟩ := spl_inf m [] w hw (fun hc => nomatch hc)
    have := h.nob w h1 (h2.trans hm)
    omega
  unfold wordsN at hw
  split at hw
  · rcases List.mem_cons.mp hw with e | hw
    · rw [e]
      decide
    · exact key _ (List.tail_suffix l).isInfix hw
  · rcases List.mem_cons.mp hw with e | hw
    · rw [e]
      decide
    · exact key _ List.infix_rfl hw
theorem lineT_pre (ns : List Int) (i : Nat) : ∀ d, lineT ns i <+: lineT ns (i + d)
  | 0 => List.prefix_rfl
  | d + 1 => by
    refine (lineT_pre ns i d).trans ?_
    have hs : lineT ns (i + d + 1) = if ns.getD (ns.length - 1 - (i + d)) 0 = 0 then lineT ns (i + d) else lineT ns (i + d) ++ (signL (decide (ns.getD (ns.length - 1 - (i + d)) 0 < 0)) (decide (lineT ns (i + d) = [])) ++ termL (ns.getD (ns.length - 1 - (i + d)) 0).natAbs (ns.length - 1 - (i + d))) := rfl
    rw [show i + (d + 1) = i + d + 1 by omega, hs]
    split
    · exact List.prefix_rfl
    · exact List.prefix_append _ _
theorem term_inf {ns : List Int} {k : Nat} (hk : k < ns.length) (h0 : ns.getD k 0 ≠ 0) : termL (ns.getD k 0).natAbs k <:+: shownL ns := by
  have e : ns.length - 1 - (ns.length - 1 - k) = k := by omega
  have hs : lineT ns (ns.length - 1 - k + 1) = if ns.getD (ns.length - 1 - (ns.length - 1 - k)) 0 = 0 then lineT ns (ns.length - 1 - k) else lineT ns (ns.length - 1 - k) ++ (signL (decide (ns.getD (ns.length - 1 - (ns.length - 1 - k)) 0 < 0)) (decide (lineT ns (ns.length - 1 - k) = [])) ++ termL (ns.getD (ns.length - 1 - (ns.length - 1 - k)) 0).natAbs (ns.length - 1 - (ns.length - 1 - k))) := rfl
  rw [e, if_neg h0] at hs
  have hp := lineT_pre ns (ns.length - 1 - k + 1) k
  rw [show ns.length - 1 - k + 1 + k = ns.length by omega] at hp
  have hi : termL (ns.getD k 0).natAbs k <:+: lineT ns ns.length := by
    refine List.IsInfix.trans ?_ hp.isInfix
    rw [hs]
    exact ⟨lineT ns (ns.length - 1 - k) ++ signL (decide (ns.getD k 0 < 0)) (decide (lineT ns (ns.length - 1 - k) = [])), [], by simp⟩
  have hne : lineT ns ns.length ≠ [] := fun z => by
    rw [z] at hi
    exact term_ne _ _ (List.infix_nil.mp hi)
  unfold shownL
  rwa [if_neg hne]
theorem num_inf {s p : Nat} (h : 2 ≤ s) : numL s <:+: termL s p := by
  unfold termL
  split
  · exact List.infix_rfl
  · rw [if_neg (by omega)]
    exact (List.prefix_append _ _).isInfix
theorem shown_small {ns : List Int} (hf : Inf Fig 60 (shownL ns)) : ∀ k, (ns.getD k 0).natAbs < 10 ^ 60 := fun k => by
  have one : 2 ≤ 10 ^ 60 := by decide +kernel
  by_cases hk : k < ns.length
  · by_cases h2 : 2 ≤ (ns.getD k 0).natAbs
    · have hd : Fig (numL (ns.getD k 0).natAbs) := fun c hc => by
        have := TL.numL_digits _ c hc
        unfold isF
        rw [Bool.and_eq_true]
        exact ⟨decide_eq_true this.1, decide_eq_true this.2⟩
      have hl := hf _ hd ((num_inf h2).trans (term_inf hk (by omega)))
      exact Nat.lt_of_lt_of_le (numL_lt10 _) (Nat.pow_le_pow_right (by decide) hl)
    · omega
  · rw [List.getD_eq_getElem?_getD, List.getElem?_eq_none (by omega)]
    show (0 : Int).natAbs < 10 ^ 60
    decide +kernel
theorem runD_len {ws : List (List Nat)} {st : List Int × Int} : ∀ (i : Nat) (st2 : List Int × Int), runD ws i (some st) = some st2 → st2.1.length = st.1.length
  | 0, st2, h => by
    cases h
    rfl
  | i + 1, st2, h => by
    rw [runD_succ] at h
    cases hr : runD ws i (some st) with
    | none => rw [hr] at h; cases h
    | some st1 =>
      rw [hr] at h
      have ih := runD_len i st1 hr
      have h : stepD st1 i (ws.getD i []) = some st2 := h
      unfold stepD at h
      split at h
      · split at h
        · cases h
        · cases h
          rw [List.length_set]
          exact ih
      · cases h
        exact ih
theorem due_back {l : List Nat} {ns : List Int} (h : dueN l = some ns) : Nf ns ∧ ns.length ≤ 100 ∧ shownL ns = l := by
  unfold dueN at h
  cases hr : runD (dueW l) (dueW l).length (some (List.replicate 100 0, sgW l)) with
  | none => rw [hr] at h; cases h
  | some st =>
    rw [hr] at h
    have hl := runD_len _ _ hr
    have h : (if shownL (trimI st.1) = l then some (trimI st.1) else none) = some ns := h
    split at h
    · rename_i hs
      cases h
      have := trim_len st.1
      rw [List.length_replicate] at hl
      exact ⟨nf_trim _, by omega, hs⟩
    · cases h
/-- both readings tell the same -/
theorem agree {l : List Nat} (h : LineOk l) : readN l = dueN l := by
  cases hr : readN l with
  | some ns =>
    obtain ⟨h1, h2, h3⟩ := read_back hr
    have hs := shown_small (ns := ns) (h3 ▸ h.fig)
    have := due_shown h1 h2 hs
    rw [h3] at this
    exact this.symm
  | none =>
    cases hd : dueN l with
    | none => rfl
    | some ns =>
      obtain ⟨h1, h2, h3⟩ := due_back hd
      have := read_shown h1 h2
      rw [h3, hr] at this
      cases this
theorem odd_ok : ∀ w ∈ oddS, ∃ l, w = S l ∧ LineOk l := fun w hw => by
  have hl : oddS.all (fun w => decide (w.cps.toList.length ≤ 60)) = true := by decide +kernel
  refine ⟨w.cps.toList, (TL.mk_tl w).symm, short_ok (of_decide_eq_true (List.all_eq_true.mp hl w hw))⟩

-- USES: Lists L_cell_at L_drawn_k11 L_same L_written L_first L_last L_turned L_odd_k11 L_due_k11 L_refused_k11 P_read RdM RepT RdE
-- EXC: NotWritten
theorem evp_repF {σ : L2.St} {H : Hp} {to tz : TE} {y : Str} {l : List Nat} (hs : y = S [120]) (h : Ev to σ H (.str (S l))) (hz : EvP tz σ H (fun v _ => ∃ d, (d ∈ sgA ++ sgB ∨ d ∈ sgC) ∧ v = .str (S [d]))) (hl : l.length ≤ 7000) :
    EvP (tRepF to y tz) σ H (fun v _ => ∃ d, v = .str (S (swapX d l))) := fun H1 e Q q => h H1 e _ fun H2 e2 => ⟨S l, rfl, hz H2 (e.trans e2) _ fun w H3 e3 hw => by
  obtain ⟨d, _, rfl⟩ := hw
  refine ⟨S [d], rfl, ?_, ?_⟩
  · rw [S_length, S_length, List.length_singleton]
    omega
  · rw [hs, repl_S]
    exact q _ H3 (e2.trans e3) ⟨d, rfl⟩⟩
theorem spp_L_due {K : PySem.W.Frag} {H : Hp} {l : List Nat} (hl : l.length ≤ 70000) : SpP (sp_L_due K) [.str (S l)] H (DueP l H) := fun H1 e Q q E => ⟨l, rfl, hl, fun v H2 e2 hv => q v H2 e2 (by
  rcases hv with hv | ⟨p, ns, h1, h2, h3, h4⟩
  · exact .inl hv
  · exact .inr ⟨p, ns, h1, fresh_back e h2, h3, h4⟩)⟩
theorem s_asgS {σ : L2.St} {H : Hp} {D : Ends} {sp : Sp} {W : WX} {tt : TA} {vs : List V} {i : Nat} (h : EvA tt σ H vs) (k : ∀ H1, Ex H H1 → sp vs H1 (fun x H2 => D.nx (σ.set i (some x)) H2) (fun cls d H2 => W cls d σ H2)) : tAsg (tCallS sp (WE W) tt) (gName i) D σ H := h H (Ex.refl H) _ fun H1 e1 => k H1 e1
def sp_law (K : PySem.W.Frag) : Sp := fun vs H Q _ => ∃ (a : Addr) (ns : List Int), vs = [.ref a] ∧ SqL K H a (ns.map V.int) ∧ RetV (.bl true) H Q
def t_law (K : PySem.W.Frag) (cs : Cs) : TS :=
  (tSeq (tAsg (tOp oMod (tCall (sp_L_cell_at K) [] E0 (tCons (tVar 0) (tCons (tC (.int 3)) tNil))) (tC (.int 7))) (gName 1)) (tSeq (tIfS (tOr (tTest (tOp rNe (tCall (sp_L_first K cs) [] E0 (tCons (tVar 1) tNil)) (tVar 1))) (tTest (tOp rNe (tCall (sp_L_last K cs) [] E0 (tCons (tVar 1) tNil)) (tVar 1)))) (tRet (tC (.bl false))) tNext) (tSeq (tAsg (tCall (sp_L_cell_at K) [] E0 (tCons (tVar 0) (tCons (tC (.int 0)) tNil))) (gName 2)) (tSeq (tAsg (tCall (sp_L_cell_at K) [] E0 (tCons (tVar 0) (tCons (tC (.int 1)) tNil))) (gName 3)) (tSeq (tAsg (tC (.int 0)) (gName 4)) (tSeq (tIfS (tTest (tOp rEq (tOp oMod (tVar 2) (tC (.int 6))) (tC (.int 1)))) (tAsg (tOp oMod (tOp oDiv (tVar 2) (tC (.int 6))) (tC (.int 101))) (gName 4)) tNext) (tSeq (tAsg (tCall (sp_L_written K) [] E0 (tCons (tCall (sp_L_drawn K) [] E0 (tCons (tVar 0) (tCons (tC (.int 4)) (tCons (tOp oMod (tOp oDiv (tVar 2) (tC (.int 6))) (tC (.int 6))) (tCons (tVar 4) tNil))))) tNil)) (gName 5)) (tSeq (tIfS (tTest (tOp rEq (tOp oMod (tVar 3) (tC (.int 2))) (tC (.int 1)))) (tAsg (tCall (sp_L_turned K) [] E0 (tCons (tVar 5) (tCons (tCall (sp_L_cell_at K) [] E0 (tCons (tVar 0) (tCons (tC (.int 2)) tNil))) (tCons (tCall (sp_L_cell_at K) [] E0 (tCons (tVar 0) (tCons (tC (.int 3)) tNil))) tNil)))) (gName 5)) tNext) (tSeq (tIfS (tTest (tOp rEq (tOp oMod (tVar 3) (tC (.int 10))) (tC (.int 8)))) (tAsg (tRepF (tVar 5) ("x") (tCall (sp_L_sign K) [] E0 (tCons (tCall (sp_L_cell_at K) [] E0 (tCons (tVar 0) (tCons (tC (.int 2)) tNil))) tNil))) (gName 5)) tNext) (tSeq (tIfS (tTest (tOp (rIn K false) (tOp oMod (tVar 3) (tC (.int 10))) (tTup (tCons (tC (.int 2)) (tCons (tC (.int 4)) (tCons (tC (.int 6)) tNil)))))) (tAsg (tCall (sp_L_odd K) [] E0 (tCons (tCall (sp_L_cell_at K) [] E0 (tCons (tVar 0) (tCons (tC (.int 2)) tNil))) tNil)) (gName 5)) tNext) (tSeq (tAsg (tCall (sp_L_due K) [] E0 (tCons (tVar 5) tNil)) (gName 6)) (tSeq (tAsg (tC (.bl false)) (gName 7)) (tSeq (tAsg (tLst tNil) (gName 8)) (tSeq (tTryO K (.ref cs.NotWritten) (fun W1 => (tAsg (tCallS (sp_P_read K cs) (WE W1) (tCons (tVar 5) tNil)) (gName 8))) (fun a cls d => (tAsg (tC (.bl true)) (gName 7))) wNone) (tSeq (tIfS (tTest (tOp oIsN (tVar 6) (tC .non))) (tRet (tAndV (tVar 7) (tCall (sp_L_refused K cs) [] E0 (tCons (tVar 5) tNil)))) tNext) (tSeq (tIfS (tOr (tB (tVar 7)) (tNot (tB (tCall (sp_L_same K) [] E0 (tCons (tVar 8) (tCons (tVar 6) tNil)))))) (tRet (tC (.bl false))) tNext) (tSeq (tDrop (tBM K "list" rAppend (tVar 8) (tCons (tC (.int 7)) tNil))) (tRet (tCall (sp_L_same K) [] E0 (tCons (tCall (sp_P_read K cs) [] E0 (tCons (tVar 5) tNil)) (tCons (tVar 6) tNil)))))))))))))))))))))
theorem run_law {K : PySem.W.Frag} {cs : Cs} {vs : List V} {H : Hp} {Q : VK} {E : XK} {l : List Addr} (T : Tx K cs.PolyError l) (hNW : cs.NotWritten ∈ l) (h : sp_law K vs H Q E) : t_law K cs { nx := fun _ H' => Q .non H', rt := Q } (start ["_law_script", "_law_which", "_law_first_here", "_law_second", "_law_many", "_law_line", "_law_due_here", "_law_refused_here", "_law_found"] vs) H := by
  obtain ⟨a, script, rfl, hS, q⟩ := h
  have cell : ∀ {H' : Hp} {σ : L2.St} (k : Nat) {i : Int}, Ex H H' → σ[0]? = some (some (.ref a)) → i = (k : Int) → Ev (tCall (sp_L_cell_at K) [] E0 (tCons (tVar 0) (tCons (tC (.int i)) tNil))) σ H' (.int (cellI script k)) := fun k i e z hi => ev_call (ea_cons (ev_var z) (ea_cons ev_c ea_nil)) (sv_L_cell_at k (ex_l e hS) hi)
  obtain ⟨w, hw6, ew⟩ : ∃ w : Nat, w ≤ 6 ∧ cellI script 3 % 7 = (w : Int) := by
    have h1 := Int.emod_nonneg (cellI script 3) (show (7 : Int) ≠ 0 by decide)
    have h2 := Int.emod_lt_of_pos (cellI script 3) (show (0 : Int) < 7 by decide)
    exact ⟨(cellI script 3 % 7).toNat, by omega, by omega⟩
  refine q_asg (v := .int (w : Int)) (ev_is (ev_mod (cell 3 (Ex.refl H) rfl rfl) ev_c (by decide)) (by rw [ew])) fun H1 e1 => ?_
  refine q_when (b := false) (et_is (et_or (a := false) (et_is (et_test (ev_neI (ev_call (ea_cons (ev_var rfl) ea_nil) (sv_L_first hw6)) (ev_var rfl))) (by simp)) fun _ => et_is (et_test (ev_neI (ev_call (ea_cons (ev_var rfl) ea_nil) (sv_L_last hw6)) (ev_var rfl))) (by simp)) rfl) (fun hb => nomatch hb) (fun _ H2 e2 => ?_)
  have e12 := e1.trans e2
  refine q_asg (cell 0 e12 rfl rfl) fun H3 e3 => ?_
  have e13 := e12.trans e3
  refine q_asg (cell 1 e13 rfl rfl) fun H4 e4 => ?_
  have e14 := e13.trans e4
  generalize cellI script 0 = c0
  generalize cellI script 1 = c1
  refine q_asg ev_c fun H5 e5 => ?_
  have many : ∃ m : Nat, m ≤ 100 ∧ (m : Int) = if c0 % 6 = 1 then c0 / 6 % 101 else 0 := by
    have h1 := Int.emod_nonneg (c0 / 6) (show (101 : Int) ≠ 0 by decide)
    have h2 := Int.emod_lt_of_pos (c0 / 6) (show (0 : Int) < 101 by decide)
    refine ⟨(if c0 % 6 = 1 then c0 / 6 % 101 else 0).toNat, ?_, ?_⟩
    · split <;> omega
    · split <;> omega
  obtain ⟨m, hm, em⟩ := many
  refine q_ifAsg (v := .int (m : Int)) (et_test (ev_eqI (ev_mod (ev_var rfl) ev_c (by decide)) ev_c)) (fun hb => ?_) (fun hb => ?_) fun H6 e6 => ?_
  · rw [if_pos (of_decide_eq_true hb)] at em
    rw [em]
    exact ev_mod (ev_div (ev_var rfl) ev_c (div_small (by decide) (by decide))) ev_c (by decide)
  · rw [if_neg (of_decide_eq_false hb)] at em
    rw [em]
    rfl
  have e16 := (e14.trans e5).trans e6
  have h6 := modN (i := c0 / 6) (j := 6) (by decide)
  have hlen : (drawnI num11I script 4 (c0 / 6 % 6).toNat m).length ≤ 100 := Nat.le_trans (drawn_len _ _ _ _ _) (by omega)
  have hall := drawn_all (P := fun x => x.natAbs < 10 ^ 59) num11_lt script 4 (c0 / 6 % 6).toNat m
  refine q_asg (v := .str (S (shownL (drawnI num11I script 4 (c0 / 6 % 6).toNat m)))) (ev_callN (el_call (ea_cons (ev_var rfl) (ea_cons ev_c (ea_cons (ev_mod (ev_div (ev_var rfl) ev_c (div_small (by decide) (by decide))) ev_c (by decide)) (ea_cons (ev_var rfl) ea_nil)))) (sl_L_drawn 4 (c0 / 6 % 6).toNat m (ex_l e16 hS) (by omega) (by omega) rfl h6.1 rfl)) fun p Hp hp ep => ?_) fun H7 e7 => ?_
  · refine sv_L_written (sq_of hp) (by omega) fun k => ?_
    by_cases hk : k < (drawnI num11I script 4 (c0 / 6 % 6).toNat m).length
    · rw [List.getD_eq_getElem?_getD, List.getElem?_eq_getElem hk]
      exact Nat.lt_of_lt_of_le (hall _ (List.getElem_mem hk)) (by decide +kernel)
    · rw [List.getD_eq_getElem?_getD, List.getElem?_eq_none (by omega)]
      show (0 : Int).natAbs < 10 ^ 60
      decide +kernel
  generalize drawnI num11I script 4 (c0 / 6 % 6).toNat m = ns at *
  have hx59 : ∀ k, (ns.getD k 0).natAbs < 10 ^ 59 := fun k => by
    by_cases hk : k < ns.length
    · rw [List.getD_eq_getElem?_getD, List.getElem?_eq_getElem hk]
      exact hall _ (List.getElem_mem hk)
    · rw [List.getD_eq_getElem?_getD, List.getElem?_eq_none (by omega)]
      show (0 : Int).natAbs < 10 ^ 59
      decide +kernel
  have hx60 : ∀ k, (ns.getD k 0).natAbs < 10 ^ 60 := fun k => Nat.lt_of_lt_of_le (hx59 k) (by decide +kernel)
  have hLn := shown_ln hx59 hlen
  have hnob := shown_nob hx60 hlen
  have hsl := shown_len hx60 hlen
  have hok : LineOk (shownL ns) := ⟨by omega, hnob.le (by decide), hLn.figs.le (by decide)⟩
  generalize shownL ns = L0 at *
  have e17 := e16.trans e7
  refine q_whenAsg (P := fun v _ => ∃ l, v = .str (S l) ∧ LineOk l ∧ (c1 % 2 ≠ 1 → l = L0)) (et_test (ev_eqI (ev_mod (ev_var rfl) ev_c (by decide)) ev_c)) (fun hb => ?_) (fun hb => ?_) fun v H8 e8 hv => ?_
  · have h1 : c1 % 2 = 1 := of_decide_eq_true hb
    refine (evp_call (ea_cons (ev_var rfl) (ea_cons (cell 2 e17 rfl rfl) (ea_cons (cell 3 e17 rfl rfl) ea_nil))) (spp_L_turned (cellI script 2) (cellI script 3) (by omega))).imp fun v H' hv => ?_
    obtain ⟨l, hT, rfl⟩ := hv
    exact ⟨l, rfl, turned_ok hLn hnob hsl hT, fun h => absurd h1 h⟩
  · exact ⟨_, rfl, fun H' e' => ⟨L0, rfl, hok, fun _ => rfl⟩⟩
  obtain ⟨l1, rfl, hok1, hl1⟩ := hv
  have e18 := e17.trans e8
  refine q_whenAsg (P := fun v _ => ∃ l, v = .str (S l) ∧ LineOk l) (et_test (ev_eqI (ev_mod (ev_var rfl) ev_c (by decide)) ev_c)) (fun hb => ?_) (fun hb => ?_) fun v H9 e9 hv => ?_
  · have h1 : c1 % 10 = 8 := of_decide_eq_true hb
    have e0 := hl1 (by omega)
    subst e0
    refine (evp_repF (by decide +kernel) (ev_var rfl) (evp_call (ea_cons (cell 2 e18 rfl rfl) ea_nil) (spp_L_sign (cellI script 2))) hsl).imp fun v H' hv => ?_
    obtain ⟨d, rfl⟩ := hv
    exact ⟨_, rfl, swap_ok hLn hnob hsl⟩
  · exact ⟨_, rfl, fun H' e' => ⟨l1, rfl, hok1⟩⟩
  obtain ⟨l2, rfl, hok2⟩ := hv
  have e19 := e18.trans e9
  refine q_whenAsg (P := fun v _ => ∃ l, v = .str (S l) ∧ LineOk l) (et_test (ev_inU (ev_mod (ev_var rfl) ev_c (by decide)) (eu_tup (ea_cons ev_c (ea_cons ev_c (ea_cons ev_c ea_nil))) (by simp)) rfl rfl)) (fun hb => ?_) (fun hb => ?_) fun v H10 e10 hv => ?_
  · refine (evp_call (ea_cons (cell 2 e19 rfl rfl) ea_nil) (spp_L_odd (cellI script 2))).imp fun v H' hv => ?_
    obtain ⟨s, hs, rfl⟩ := hv
    obtain ⟨l, rfl, hl⟩ := odd_ok s hs
    exact ⟨l, rfl, hl⟩
  · exact ⟨_, rfl, fun H' e' => ⟨l2, rfl, hok2⟩⟩
  obtain ⟨l3, rfl, hok3⟩ := hv
  have e110 := e19.trans e10
  have hlen3 := hok3.len
  have hwords := hok3.words
  have hagree := agree hok3
  refine q_asgP (evp_call (ea_cons (ev_var rfl) ea_nil) (spp_L_due (l := l3) (by omega))) fun dv H11 e11 hdv => ?_
  refine q_asg ev_c fun H12 e12' => ?_
  refine q_asgL (el_lst ea_nil (by simp)) fun f0 H13 nf0 e13' hf0 => ?_
  have e1113 := e12'.trans e13'
  have e113 := (e110.trans e11).trans e1113
  refine st_is [some (.ref a), some (.int (w : Int)), some (.int c0), some (.int c1), some (.int (m : Int)), some (.str (S l3)), some dv, some (.bl false), some (.ref f0)] rfl ?_
  refine q_tryO (s_asgS (ea_cons (ev_var rfl) ea_nil) fun H14 e14' => ⟨l3, rfl, by omega, hwords, ?_⟩)
  have e114 := e113.trans e14'
  cases hr : readN l3 with
  | none =>
    rw [hr] at hagree
    refine .inl ⟨rfl, fun H15 e15 => ⟨true, T.self hNW, fun _ x hx => ?_, fun q => nomatch q⟩⟩
    rcases hdv with ⟨rfl, _⟩ | ⟨p, ms, _, _, _, hd⟩
    · refine s_asg ev_c fun H16 e16' => ?_
      have e116 := (e114.trans e15).trans e16'
      refine q_when (b := true) (et_is (et_test (ev_isN (ev_var rfl))) (by simp)) (fun _ H17 e17' => ?_) (fun hb => nomatch hb)
      refine s_ret (v := .bl true) (ev_andV (a := true) (b := true) (ev_var rfl) fun _ => ev_call (ea_cons (ev_var rfl) ea_nil) (sv_L_refused (by omega) hwords hr)) fun H18 e18' => q H18 ((e116.trans e17').trans e18')
    · rw [hd] at hagree
      cases hagree
  | some ms =>
    rw [hr] at hagree
    refine .inr ⟨ms, rfl, fun f H15 nf e15 hf => ?_⟩
    rcases hdv with ⟨_, hd⟩ | ⟨p, ms2, rfl, np, hp, hd⟩
    · rw [hd] at hagree
      cases hagree
    rw [hd] at hagree
    cases hagree
    have hmsl : ms.length ≤ 100 := (read_back hr).2.1
    have e115 := e114.trans e15
    have hp14 := (e1113.trans e14') _ _ hp
    have hp15 := e15 _ _ hp14
    have hne : f ≠ p := fun e => by
      rw [e, hp14] at nf
      cases nf
    refine q_when (b := false) (et_is (et_test (ev_isN (ev_var rfl))) (by simp)) (fun hb => nomatch hb) (fun _ H16 e16' => ?_)
    have same : SpV (sp_L_same K) [.ref f, .ref p] H16 (.bl true) := by
      have h := sv_L_same (K := K) (e16' _ _ hf) (sq_of (e16' _ _ hp15)) (by omega)
      rw [decide_eq_true rfl] at h
      exact h
    refine q_when (b := false) (et_is (et_or (a := false) (et_B (ev_var rfl)) fun _ => et_not (et_B (ev_call (ea_cons (ev_var rfl) (ea_cons (ev_var rfl) ea_nil)) same))) rfl) (fun hb => nomatch hb) (fun _ H17 e17' => ?_)
    have e1517 := e16'.trans e17'
    refine q_app (e1517 _ _ hf) (ev_var rfl) ev_c (by rw [List.length_map]; omega) fun H18 e18' => ?_
    have hp18 := (e1517.trans e18') _ _ hp15
    have hp19 : upd H18 f (.lst (ms.map V.int ++ [.int 7])) p = some (.lst (ms.map V.int)) := by
      rw [upd_ne (fun e => hne e.symm)]
      exact hp18
    have em19 : Ex H (upd H18 f (.lst (ms.map V.int ++ [.int 7]))) := Ex.mut ((e115.trans e1517).trans e18') (fresh_back e114 nf)
    generalize upd H18 f (.lst (ms.map V.int ++ [.int 7])) = H19 at *
    have hread : SpL (sp_P_read K cs) [.str (S l3)] H19 (ms.map V.int) := fun H20 e20 Q20 q20 E20 => ⟨l3, rfl, by omega, hwords, .inr ⟨ms, hr, q20⟩⟩
    refine s_ret (v := .bl true) (ev_callP (eps_l (el_call (ea_cons (ev_var rfl) ea_nil) hread) (eps_V (ev_var rfl) eps_nil)) fun vs H20 e20 hvs => ?_) fun H21 e21 => q H21 (em19.trans e21)
    obtain ⟨v1, v2, rfl, ⟨q1, rfl, hq1⟩, rfl⟩ := all2_two hvs
    have h := sv_L_same (K := K) hq1 (sq_of (e20 _ _ hp19)) (by omega)
    rw [decide_eq_true rfl] at h
    exact h

/-! the text's defs by their places, and their derivations -/
def topS (i : Nat) : Stmt := PySem.Challenge.pw_polyarith_k11_read.main.body.getD i (.Pass ⟨0, 0, 0, 0⟩)
abbrev s_P_whole_number : Stmt := topS 13
theorem sc_P_whole_number : FnScope ["figures"] ["figures"] (defScope s_P_whole_number) := ⟨rfl, rfl, rfl, by decide +kernel, rfl, by decide +kernel, by decide +kernel⟩
abbrev s_P_size_of : Stmt := topS 14
theorem sc_P_size_of : FnScope ["figures"] ["figures"] (defScope s_P_size_of) := ⟨rfl, rfl, rfl, by decide +kernel, rfl, by decide +kernel, by decide +kernel⟩
abbrev s_P_power_of : Stmt := topS 15
theorem sc_P_power_of : FnScope ["tail", "power"] ["tail"] (defScope s_P_power_of) := ⟨rfl, rfl, rfl, by decide +kernel, rfl, by decide +kernel, by decide +kernel⟩
abbrev s_P_size_and_power : Stmt := topS 16
theorem sc_P_size_and_power : FnScope ["term", "figures", "letter", "tail"] ["term"] (defScope s_P_size_and_power) := ⟨rfl, rfl, rfl, by decide +kernel, rfl, by decide +kernel, by decide +kernel⟩
abbrev s_P_signs_and_terms : Stmt := topS 17
theorem sc_P_signs_and_terms : FnScope ["line"] ["line"] (defScope s_P_signs_and_terms) := ⟨rfl, rfl, rfl, by decide +kernel, rfl, by decide +kernel, by decide +kernel⟩
abbrev s_P_read : Stmt := topS 18
theorem sc_P_read : FnScope ["line", "words", "row", "lowest", "sign", "term", "size", "power"] ["line"] (defScope s_P_read) := ⟨rfl, rfl, rfl, by decide +kernel, rfl, by decide +kernel, by decide +kernel⟩
abbrev s_P_is_whole : Stmt := topS 20
theorem sc_P_is_whole : FnScope ["thing"] ["thing"] (defScope s_P_is_whole) := ⟨rfl, rfl, rfl, by decide +kernel, rfl, by decide +kernel, by decide +kernel⟩
abbrev s_P_without_end_noughts : Stmt := topS 21
theorem sc_P_without_end_noughts : FnScope ["numbers", "end"] ["numbers"] (defScope s_P_without_end_noughts) := ⟨rfl, rfl, rfl, by decide +kernel, rfl, by decide +kernel, by decide +kernel⟩
abbrev s_P_made : Stmt := topS 22
theorem sc_P_made : FnScope ["numbers", "place", "number"] ["numbers"] (defScope s_P_made) := ⟨rfl, rfl, rfl, by decide +kernel, rfl, by decide +kernel, by decide +kernel⟩
abbrev s_P_number_at : Stmt := topS 23
theorem sc_P_number_at : FnScope ["row", "power"] ["row", "power"] (defScope s_P_number_at) := ⟨rfl, rfl, rfl, by decide +kernel, rfl, by decide +kernel, by decide +kernel⟩
abbrev s_P_plus : Stmt := topS 24
theorem sc_P_plus : FnScope ["ones", "others", "powers", "power"] ["ones", "others"] (defScope s_P_plus) := ⟨rfl, rfl, rfl, by decide +kernel, rfl, by decide +kernel, by decide +kernel⟩
abbrev s_P_minus : Stmt := topS 25
theorem sc_P_minus : FnScope ["ones", "others", "powers", "power"] ["ones", "others"] (defScope s_P_minus) := ⟨rfl, rfl, rfl, by decide +kernel, rfl, by decide +kernel, by decide +kernel⟩
abbrev s_P_times : Stmt := topS 26
theorem sc_P_times : FnScope ["ones", "others", "totals", "low", "one", "high", "other"] ["ones", "others"] (defScope s_P_times) := ⟨rfl, rfl, rfl, by decide +kernel, rfl, by decide +kernel, by decide +kernel⟩
abbrev s_P_scaled : Stmt := topS 27
theorem sc_P_scaled : FnScope ["row", "many", "number"] ["row", "many"] (defScope s_P_scaled) := ⟨rfl, rfl, rfl, by decide +kernel, rfl, by decide +kernel, by decide +kernel⟩
abbrev s_P_raised : Stmt := topS 28
theorem sc_P_raised : FnScope ["row", "many", "answer", "square", "left"] ["row", "many"] (defScope s_P_raised) := ⟨rfl, rfl, rfl, by decide +kernel, rfl, by decide +kernel, by decide +kernel⟩
abbrev s_P_slope : Stmt := topS 29
theorem sc_P_slope : FnScope ["row", "power", "number"] ["row"] (defScope s_P_slope) := ⟨rfl, rfl, rfl, by decide +kernel, rfl, by decide +kernel, by decide +kernel⟩
abbrev s_P_divided : Stmt := topS 31
theorem sc_P_divided : FnScope ["row", "by", "many", "found", "rest", "more", "number", "noughts"] ["row", "by"] (defScope s_P_divided) := ⟨rfl, rfl, rfl, by decide +kernel, rfl, by decide +kernel, by decide +kernel⟩
abbrev s_P_quotient : Stmt := topS 32
theorem sc_P_quotient : FnScope ["row", "by", "many", "found", "rest"] ["row", "by"] (defScope s_P_quotient) := ⟨rfl, rfl, rfl, by decide +kernel, rfl, by decide +kernel, by decide +kernel⟩
abbrev s_P_content : Stmt := topS 34
theorem sc_P_content : FnScope ["row", "found", "number"] ["row"] (defScope s_P_content) := ⟨rfl, rfl, rfl, by decide +kernel, rfl, by decide +kernel, by decide +kernel⟩
abbrev s_P_signed_content : Stmt := topS 35
theorem sc_P_signed_content : FnScope ["row"] ["row"] (defScope s_P_signed_content) := ⟨rfl, rfl, rfl, by decide +kernel, rfl, by decide +kernel, by decide +kernel⟩
abbrev s_P_lessened : Stmt := topS 36
theorem sc_P_lessened : FnScope ["row", "by", "number"] ["row", "by"] (defScope s_P_lessened) := ⟨rfl, rfl, rfl, by decide +kernel, rfl, by decide +kernel, by decide +kernel⟩
abbrev s_P_simple : Stmt := topS 37
theorem sc_P_simple : FnScope ["row"] ["row"] (defScope s_P_simple) := ⟨rfl, rfl, rfl, by decide +kernel, rfl, by decide +kernel, by decide +kernel⟩
abbrev s_P_least_step : Stmt := topS 39
theorem sc_P_least_step : FnScope ["row", "left", "right", "many", "shared"] ["row", "left", "right", "many"] (defScope s_P_least_step) := ⟨rfl, rfl, rfl, by decide +kernel, rfl, by decide +kernel, by decide +kernel⟩
abbrev s_P_next_step : Stmt := topS 40
theorem sc_P_next_step : FnScope ["last", "now", "row", "left", "right", "many", "by", "by_left", "by_right", "by_many", "row_many", "found", "rest", "ahead", "behind", "next_left", "next_right"] ["last", "now"] (defScope s_P_next_step) := ⟨rfl, rfl, rfl, by decide +kernel, rfl, by decide +kernel, by decide +kernel⟩
abbrev s_P_meet : Stmt := topS 41
theorem sc_P_meet : FnScope ["ones", "others", "last", "now", "common", "left", "right", "many"] ["ones", "others"] (defScope s_P_meet) := ⟨rfl, rfl, rfl, by decide +kernel, rfl, by decide +kernel, by decide +kernel⟩
abbrev s_P_parts : Stmt := topS 43
theorem sc_P_parts : FnScope ["row", "left", "turned", "rows", "many", "part"] ["row"] (defScope s_P_parts) := ⟨rfl, rfl, rfl, by decide +kernel, rfl, by decide +kernel, by decide +kernel⟩
abbrev s_L_whole : Stmt := topS 45
theorem sc_L_whole : FnScope ["_law_found"] ["_law_found"] (defScope s_L_whole) := ⟨rfl, rfl, rfl, by decide +kernel, rfl, by decide +kernel, by decide +kernel⟩
abbrev s_L_cell_at : Stmt := topS 46
theorem sc_L_cell_at : FnScope ["_law_script", "_law_k"] ["_law_script", "_law_k"] (defScope s_L_cell_at) := ⟨rfl, rfl, rfl, by decide +kernel, rfl, by decide +kernel, by decide +kernel⟩
abbrev s_L_trim : Stmt := topS 47
theorem sc_L_trim : FnScope ["_law_row", "_law_size"] ["_law_row"] (defScope s_L_trim) := ⟨rfl, rfl, rfl, by decide +kernel, rfl, by decide +kernel, by decide +kernel⟩
abbrev s_L_same : Stmt := topS 48
theorem sc_L_same : FnScope ["_law_found", "_law_due_here", "_law_k"] ["_law_found", "_law_due_here"] (defScope s_L_same) := ⟨rfl, rfl, rfl, by decide +kernel, rfl, by decide +kernel, by decide +kernel⟩
abbrev s_L_number : Stmt := topS 49
theorem sc_L_number : FnScope ["_law_cell"] ["_law_cell"] (defScope s_L_number) := ⟨rfl, rfl, rfl, by decide +kernel, rfl, by decide +kernel, by decide +kernel⟩
abbrev s_L_drawn : Stmt := topS 50
theorem sc_L_drawn : FnScope ["_law_script", "_law_place", "_law_size", "_law_many", "_law_row", "_law_k"] ["_law_script", "_law_place", "_law_size", "_law_many"] (defScope s_L_drawn) := ⟨rfl, rfl, rfl, by decide +kernel, rfl, by decide +kernel, by decide +kernel⟩
abbrev s_L_written : Stmt := topS 51
theorem sc_L_written : FnScope ["_law_row", "_law_found", "_law_step", "_law_power", "_law_word"] ["_law_row"] (defScope s_L_written) := ⟨rfl, rfl, rfl, by decide +kernel, rfl, by decide +kernel, by decide +kernel⟩
abbrev s_L_figures : Stmt := topS 52
theorem sc_L_figures : FnScope ["_law_word", "_law_most", "_law_sign_here"] ["_law_word", "_law_most"] (defScope s_L_figures) := ⟨rfl, rfl, rfl, by decide +kernel, rfl, by decide +kernel, by decide +kernel⟩
abbrev s_L_term : Stmt := topS 53
theorem sc_L_term : FnScope ["_law_word", "_law_ahead", "_law_rest", "_law_number_here", "_law_power"] ["_law_word"] (defScope s_L_term) := ⟨rfl, rfl, rfl, by decide +kernel, rfl, by decide +kernel, by decide +kernel⟩
abbrev s_L_due : Stmt := topS 54
theorem sc_L_due : FnScope ["_law_line", "_law_row", "_law_sign_here", "_law_words", "_law_k", "_law_told"] ["_law_line"] (defScope s_L_due) := ⟨rfl, rfl, rfl, by decide +kernel, rfl, by decide +kernel, by decide +kernel⟩
abbrev s_L_odd : Stmt := topS 55
theorem sc_L_odd : FnScope ["_law_cell", "_law_some"] ["_law_cell"] (defScope s_L_odd) := ⟨rfl, rfl, rfl, by decide +kernel, rfl, by decide +kernel, by decide +kernel⟩
abbrev s_L_sign : Stmt := topS 56
theorem sc_L_sign : FnScope ["_law_cell", "_law_some"] ["_law_cell"] (defScope s_L_sign) := ⟨rfl, rfl, rfl, by decide +kernel, rfl, by decide +kernel, by decide +kernel⟩
abbrev s_L_turned : Stmt := topS 57
theorem sc_L_turned : FnScope ["_law_line", "_law_cell", "_law_spot", "_law_sign_here", "_law_place"] ["_law_line", "_law_cell", "_law_spot"] (defScope s_L_turned) := ⟨rfl, rfl, rfl, by decide +kernel, rfl, by decide +kernel, by decide +kernel⟩
abbrev s_L_refuse : Stmt := topS 58
theorem sc_L_refuse : FnScope ["_law_which"] ["_law_which"] (defScope s_L_refuse) := ⟨rfl, rfl, rfl, by decide +kernel, rfl, by decide +kernel, by decide +kernel⟩
abbrev s_L_first : Stmt := topS 59
theorem sc_L_first : FnScope ["_law_which"] ["_law_which"] (defScope s_L_first) := ⟨rfl, rfl, rfl, by decide +kernel, rfl, by decide +kernel, by decide +kernel⟩
abbrev s_L_last : Stmt := topS 60
theorem sc_L_last : FnScope ["_law_which"] ["_law_which"] (defScope s_L_last) := ⟨rfl, rfl, rfl, by decide +kernel, rfl, by decide +kernel, by decide +kernel⟩
abbrev s_L_refused : Stmt := topS 61
theorem sc_L_refused : FnScope ["_law_line", "e"] ["_law_line"] (defScope s_L_refused) := ⟨rfl, rfl, rfl, by decide +kernel, rfl, by decide +kernel, by decide +kernel⟩
abbrev s_law : Stmt := topS 62
theorem sc_law : FnScope ["_law_script", "_law_which", "_law_first_here", "_law_second", "_law_many", "_law_line", "_law_due_here", "_law_refused_here", "_law_found"] ["_law_script"] (defScope s_law) := ⟨rfl, rfl, rfl, by decide +kernel, rfl, by decide +kernel, by decide +kernel⟩
section
variable {P : Program} {w : World} {K : PySem.W.Frag} {mg : Str → Option Value} {base : Heap}
theorem ok_P_whole_number {cs : Cs} {f : Addr} {fd : FuncData} (F : Fun K "_whole_number" "_whole_number" s_P_whole_number f fd) (T : Tx K cs.PolyError [cs.NoNumber, cs.NoPower, cs.ByNought, cs.NotWhole, cs.NoMeet, cs.NoParts, cs.NotWritten]) (r_NotWritten : RsX K mg "NotWritten" cs.NotWritten)   (m_int : mg "int" = none) : FnOk P w K mg base (L2.CX P w) 1 f fd ["figures"] (sp_P_whole_number K cs) := by
  refine F.okX sc_P_whole_number (fun vs H Q E h => ?_) (fun cdv A outer s H vs Q E hr h => ⟨t_P_whole_number K cs E, ?_, run_P_whole_number T (by simp) h⟩)
  · first | (obtain ⟨_, rfl, _⟩ := h; rfl) | (obtain ⟨_, _, rfl, _⟩ := h; rfl) | (obtain ⟨_, _, _, rfl, _⟩ := h; rfl) | (obtain ⟨_, _, _, _, rfl, _⟩ := h; rfl) | (obtain ⟨_, _, _, _, _, rfl, _⟩ := h; rfl) | (obtain ⟨_, _, _, _, _, _, rfl, _⟩ := h; rfl) | (obtain ⟨_, _, _, _, _, _, _, rfl, _⟩ := h; rfl) | (obtain ⟨_, _, _, _, _, _, _, _, rfl, _⟩ := h; rfl) | (obtain ⟨_, _, _, _, _, _, _, _, _, rfl, _⟩ := h; rfl) | (obtain ⟨_, _, _, _, _, _, _, _, _, _, rfl, _⟩ := h; rfl) | (obtain ⟨_, _, _, _, _, _, _, _, _, _, _, rfl, _⟩ := h; rfl) | (obtain ⟨_, _, _, _, _, _, _, _, _, _, _, _, rfl, _⟩ := h; rfl) | (obtain ⟨_, _, _, _, _, _, _, _, _, _, _, _, _, rfl, _⟩ := h; rfl) | (obtain ⟨_, _, _, _, _, _, _, _, _, _, _, _, _, _, rfl, _⟩ := h; rfl) | (obtain ⟨_, _, _, _, _, _, _, _, _, _, _, _, _, _, _, rfl, _⟩ := h; rfl) | (obtain ⟨_, _, _, _, _, _, _, _, _, _, _, _, _, _, _, _, rfl, _⟩ := h; rfl) | (obtain ⟨_, _, _, _, _, _, _, _, _, _, _, _, _, _, _, _, _, rfl, _⟩ := h; rfl) | (obtain ⟨_, _, _, _, _, _, _, _, _, _, _, _, _, _, _, _, _, _, rfl, _⟩ := h; rfl) | (obtain ⟨_, _, _, _, _, _, _, _, _, _, _, _, _, _, _, _, _, _, _, rfl, _⟩ := h; rfl) | (obtain ⟨_, _, _, _, _, _, _, _, _, _, _, _, _, _, _, _, _, _, _, _, rfl, _⟩ := h; rfl) | (obtain ⟨_, _, _, _, _, _, _, _, _, _, _, _, _, _, _, _, _, _, _, _, _, rfl, _⟩ := h; rfl) | (obtain ⟨_, _, _, _, _, _, _, _, _, _, _, _, _, _, _, _, _, _, _, _, _, _, rfl, _⟩ := h; rfl) | (obtain ⟨_, _, _, _, _, _, _, _, _, _, _, _, _, _, _, _, _, _, _, _, _, _, _, rfl, _⟩ := h; rfl) | (obtain ⟨_, _, _, _, _, _, _, _, _, _, _, _, _, _, _, _, _, _, _, _, _, _, _, _, rfl, _⟩ := h; rfl) | (obtain ⟨_, _, _, _, _, _, _, _, _, _, _, _, _, _, _, _, _, _, _, _, _, _, _, _, _, rfl, _⟩ := h; rfl) | (obtain ⟨_, _, _, _, _, _, _, _, _, _, _, _, _, _, _, _, _, _, _, _, _, _, _, _, _, _, rfl, _⟩ := h; rfl) | (obtain ⟨_, _, _, _, _, _, _, _, _, _, _, _, _, _, _, _, _, _, _, _, _, _, _, _, _, _, _, rfl, _⟩ := h; rfl) | (obtain ⟨_, _, _, _, _, _, _, _, _, _, _, _, _, _, _, _, _, _, _, _, _, _, _, _, _, _, _, _, rfl, _⟩ := h; rfl) | (obtain ⟨_, _, _, _, _, _, _, _, _, _, _, _, _, _, _, _, _, _, _, _, _, _, _, _, _, _, _, _, _, rfl, _⟩ := h; rfl) | (obtain ⟨_, _, _, _, _, _, _, _, _, _, _, _, _, _, _, _, _, _, _, _, _, _, _, _, _, _, _, _, _, _, rfl, _⟩ := h; rfl)
  · exact (pss_cons (ps_if (PW.pt (pw_or (pt_not (pt_val (pe_bm0 PySem.F.plainAttrs_str PySem.F.slot_str_isascii PySem.F.type_str_isascii mt_isascii (pv 0)))) (pw_or (pt_not (pt_val (pe_bm0 PySem.F.plainAttrs_str PySem.F.slot_str_isdigit PySem.F.type_str_isdigit mt_isdigit (pv 0)))) (pw_or1 (pt_val (pe_bm PySem.F.plainAttrs_str PySem.F.slot_str_startswith PySem.F.type_str_startswith mt_startswith (pv 0) (pa_cons pe_str pa_nil))))))) (pss_one (ps_raiseC r_NotWritten rfl (takes_of rfl rfl rfl rfl) (by rfl))) pss_nil)
      (pss_one (ps_ret (pe_callTy call_int_str (by rfl) m_int (by decide +kernel) (pa_cons (pv 0) pa_nil)))))
theorem ok_P_size_of {cs : Cs} {f : Addr} {fd : FuncData} (F : Fun K "_size_of" "_size_of" s_P_size_of f fd) (T : Tx K cs.PolyError [cs.NoNumber, cs.NoPower, cs.ByNought, cs.NotWhole, cs.NoMeet, cs.NoParts, cs.NotWritten]) (r_NotWritten : RsX K mg "NotWritten" cs.NotWritten)  (c_P_whole_number : ClX P w K mg base 1 "_whole_number" (sp_P_whole_number K cs))  : FnOk P w K mg base (L2.CX P w) 2 f fd ["figures"] (sp_P_size_of K cs) := by
  refine F.okX sc_P_size_of (fun vs H Q E h => ?_) (fun cdv A outer s H vs Q E hr h => ⟨t_P_size_of K cs E, ?_, run_P_size_of T (by simp) h⟩)
  · first | (obtain ⟨_, rfl, _⟩ := h; rfl) | (obtain ⟨_, _, rfl, _⟩ := h; rfl) | (obtain ⟨_, _, _, rfl, _⟩ := h; rfl) | (obtain ⟨_, _, _, _, rfl, _⟩ := h; rfl) | (obtain ⟨_, _, _, _, _, rfl, _⟩ := h; rfl) | (obtain ⟨_, _, _, _, _, _, rfl, _⟩ := h; rfl) | (obtain ⟨_, _, _, _, _, _, _, rfl, _⟩ := h; rfl) | (obtain ⟨_, _, _, _, _, _, _, _, rfl, _⟩ := h; rfl) | (obtain ⟨_, _, _, _, _, _, _, _, _, rfl, _⟩ := h; rfl) | (obtain ⟨_, _, _, _, _, _, _, _, _, _, rfl, _⟩ := h; rfl) | (obtain ⟨_, _, _, _, _, _, _, _, _, _, _, rfl, _⟩ := h; rfl) | (obtain ⟨_, _, _, _, _, _, _, _, _, _, _, _, rfl, _⟩ := h; rfl) | (obtain ⟨_, _, _, _, _, _, _, _, _, _, _, _, _, rfl, _⟩ := h; rfl) | (obtain ⟨_, _, _, _, _, _, _, _, _, _, _, _, _, _, rfl, _⟩ := h; rfl) | (obtain ⟨_, _, _, _, _, _, _, _, _, _, _, _, _, _, _, rfl, _⟩ := h; rfl) | (obtain ⟨_, _, _, _, _, _, _, _, _, _, _, _, _, _, _, _, rfl, _⟩ := h; rfl) | (obtain ⟨_, _, _, _, _, _, _, _, _, _, _, _, _, _, _, _, _, rfl, _⟩ := h; rfl) | (obtain ⟨_, _, _, _, _, _, _, _, _, _, _, _, _, _, _, _, _, _, rfl, _⟩ := h; rfl) | (obtain ⟨_, _, _, _, _, _, _, _, _, _, _, _, _, _, _, _, _, _, _, rfl, _⟩ := h; rfl) | (obtain ⟨_, _, _, _, _, _, _, _, _, _, _, _, _, _, _, _, _, _, _, _, rfl, _⟩ := h; rfl) | (obtain ⟨_, _, _, _, _, _, _, _, _, _, _, _, _, _, _, _, _, _, _, _, _, rfl, _⟩ := h; rfl) | (obtain ⟨_, _, _, _, _, _, _, _, _, _, _, _, _, _, _, _, _, _, _, _, _, _, rfl, _⟩ := h; rfl) | (obtain ⟨_, _, _, _, _, _, _, _, _, _, _, _, _, _, _, _, _, _, _, _, _, _, _, rfl, _⟩ := h; rfl) | (obtain ⟨_, _, _, _, _, _, _, _, _, _, _, _, _, _, _, _, _, _, _, _, _, _, _, _, rfl, _⟩ := h; rfl) | (obtain ⟨_, _, _, _, _, _, _, _, _, _, _, _, _, _, _, _, _, _, _, _, _, _, _, _, _, rfl, _⟩ := h; rfl) | (obtain ⟨_, _, _, _, _, _, _, _, _, _, _, _, _, _, _, _, _, _, _, _, _, _, _, _, _, _, rfl, _⟩ := h; rfl) | (obtain ⟨_, _, _, _, _, _, _, _, _, _, _, _, _, _, _, _, _, _, _, _, _, _, _, _, _, _, _, rfl, _⟩ := h; rfl) | (obtain ⟨_, _, _, _, _, _, _, _, _, _, _, _, _, _, _, _, _, _, _, _, _, _, _, _, _, _, _, _, rfl, _⟩ := h; rfl) | (obtain ⟨_, _, _, _, _, _, _, _, _, _, _, _, _, _, _, _, _, _, _, _, _, _, _, _, _, _, _, _, _, rfl, _⟩ := h; rfl) | (obtain ⟨_, _, _, _, _, _, _, _, _, _, _, _, _, _, _, _, _, _, _, _, _, _, _, _, _, _, _, _, _, _, rfl, _⟩ := h; rfl)
  · exact (pss_cons (ps_if (pt_not (pt_truth (pv 0) (by intro _; rfl))) (pss_one (ps_ret pe_int)) pss_nil)
      (pss_cons (ps_if (pt_cmpR op_eq (pv 0) pe_str (nomark _)) (pss_one (ps_raiseC r_NotWritten rfl (takes_of rfl rfl rfl rfl) (by rfl))) pss_nil)
      (pss_one (ps_ret (pclS c_P_whole_number (takes_of rfl rfl rfl rfl) hr (by decide) (by rfl) (pa_cons (pv 0) pa_nil))))))
theorem ok_P_power_of {cs : Cs} {f : Addr} {fd : FuncData} (F : Fun K "_power_of" "_power_of" s_P_power_of f fd) (T : Tx K cs.PolyError [cs.NoNumber, cs.NoPower, cs.ByNought, cs.NotWhole, cs.NoMeet, cs.NoParts, cs.NotWritten]) (r_NotWritten : RsX K mg "NotWritten" cs.NotWritten)  (c_P_whole_number : ClX P w K mg base 1 "_whole_number" (sp_P_whole_number K cs)) (m_LONGEST_TAIL : ∃ t, mg "LONGEST_TAIL" = some (.int 3 t)) (m_len : mg "len" = none) : FnOk P w K mg base (L2.CX P w) 2 f fd ["tail"] (sp_P_power_of K cs) := by
  refine F.okX sc_P_power_of (fun vs H Q E h => ?_) (fun cdv A outer s H vs Q E hr h => ⟨t_P_power_of K cs E, ?_, run_P_power_of T (by simp) h⟩)
  · first | (obtain ⟨_, rfl, _⟩ := h; rfl) | (obtain ⟨_, _, rfl, _⟩ := h; rfl) | (obtain ⟨_, _, _, rfl, _⟩ := h; rfl) | (obtain ⟨_, _, _, _, rfl, _⟩ := h; rfl) | (obtain ⟨_, _, _, _, _, rfl, _⟩ := h; rfl) | (obtain ⟨_, _, _, _, _, _, rfl, _⟩ := h; rfl) | (obtain ⟨_, _, _, _, _, _, _, rfl, _⟩ := h; rfl) | (obtain ⟨_, _, _, _, _, _, _, _, rfl, _⟩ := h; rfl) | (obtain ⟨_, _, _, _, _, _, _, _, _, rfl, _⟩ := h; rfl) | (obtain ⟨_, _, _, _, _, _, _, _, _, _, rfl, _⟩ := h; rfl) | (obtain ⟨_, _, _, _, _, _, _, _, _, _, _, rfl, _⟩ := h; rfl) | (obtain ⟨_, _, _, _, _, _, _, _, _, _, _, _, rfl, _⟩ := h; rfl) | (obtain ⟨_, _, _, _, _, _, _, _, _, _, _, _, _, rfl, _⟩ := h; rfl) | (obtain ⟨_, _, _, _, _, _, _, _, _, _, _, _, _, _, rfl, _⟩ := h; rfl) | (obtain ⟨_, _, _, _, _, _, _, _, _, _, _, _, _, _, _, rfl, _⟩ := h; rfl) | (obtain ⟨_, _, _, _, _, _, _, _, _, _, _, _, _, _, _, _, rfl, _⟩ := h; rfl) | (obtain ⟨_, _, _, _, _, _, _, _, _, _, _, _, _, _, _, _, _, rfl, _⟩ := h; rfl) | (obtain ⟨_, _, _, _, _, _, _, _, _, _, _, _, _, _, _, _, _, _, rfl, _⟩ := h; rfl) | (obtain ⟨_, _, _, _, _, _, _, _, _, _, _, _, _, _, _, _, _, _, _, rfl, _⟩ := h; rfl) | (obtain ⟨_, _, _, _, _, _, _, _, _, _, _, _, _, _, _, _, _, _, _, _, rfl, _⟩ := h; rfl) | (obtain ⟨_, _, _, _, _, _, _, _, _, _, _, _, _, _, _, _, _, _, _, _, _, rfl, _⟩ := h; rfl) | (obtain ⟨_, _, _, _, _, _, _, _, _, _, _, _, _, _, _, _, _, _, _, _, _, _, rfl, _⟩ := h; rfl) | (obtain ⟨_, _, _, _, _, _, _, _, _, _, _, _, _, _, _, _, _, _, _, _, _, _, _, rfl, _⟩ := h; rfl) | (obtain ⟨_, _, _, _, _, _, _, _, _, _, _, _, _, _, _, _, _, _, _, _, _, _, _, _, rfl, _⟩ := h; rfl) | (obtain ⟨_, _, _, _, _, _, _, _, _, _, _, _, _, _, _, _, _, _, _, _, _, _, _, _, _, rfl, _⟩ := h; rfl) | (obtain ⟨_, _, _, _, _, _, _, _, _, _, _, _, _, _, _, _, _, _, _, _, _, _, _, _, _, _, rfl, _⟩ := h; rfl) | (obtain ⟨_, _, _, _, _, _, _, _, _, _, _, _, _, _, _, _, _, _, _, _, _, _, _, _, _, _, _, rfl, _⟩ := h; rfl) | (obtain ⟨_, _, _, _, _, _, _, _, _, _, _, _, _, _, _, _, _, _, _, _, _, _, _, _, _, _, _, _, rfl, _⟩ := h; rfl) | (obtain ⟨_, _, _, _, _, _, _, _, _, _, _, _, _, _, _, _, _, _, _, _, _, _, _, _, _, _, _, _, _, rfl, _⟩ := h; rfl) | (obtain ⟨_, _, _, _, _, _, _, _, _, _, _, _, _, _, _, _, _, _, _, _, _, _, _, _, _, _, _, _, _, _, rfl, _⟩ := h; rfl)
  · exact (pss_cons (ps_if (pt_not (pt_truth (pv 0) (by intro _; rfl))) (pss_one (ps_ret pe_int)) pss_nil)
      (pss_cons (ps_if (PW.pt (pw_or (pt_not (pt_val (pe_bm PySem.F.plainAttrs_str PySem.F.slot_str_startswith PySem.F.type_str_startswith mt_startswith (pv 0) (pa_cons pe_str pa_nil)))) (pw_or1 (pt_cmpR op_gt (pe_callB call_len_str (by rfl) m_len PySem.boot_len (pa_cons (pv 0) pa_nil)) (pe_glob (by rfl) m_LONGEST_TAIL.choose_spec ⟨_, rfl⟩) (nomark _))))) (pss_one (ps_raiseC r_NotWritten rfl (takes_of rfl rfl rfl rfl) (by rfl))) pss_nil)
      (pss_cons (ps_set (i := 1) sc_P_power_of.nd rfl (Or.inl rfl) (pclS c_P_whole_number (takes_of rfl rfl rfl rfl) hr (by decide) (by rfl) (pa_cons (pe_slice sl_str (pv 0) (po_some pe_int) po_none) pa_nil)))
      (pss_cons (ps_if (pt_cmpR op_eq (pv 1) pe_int (nomark _)) (pss_one (ps_raiseC r_NotWritten rfl (takes_of rfl rfl rfl rfl) (by rfl))) pss_nil)
      (pss_one (ps_ret (pv 1)))))))
theorem ok_P_size_and_power {cs : Cs} {f : Addr} {fd : FuncData} (F : Fun K "_size_and_power" "_size_and_power" s_P_size_and_power f fd) (T : Tx K cs.PolyError [cs.NoNumber, cs.NoPower, cs.ByNought, cs.NotWhole, cs.NoMeet, cs.NoParts, cs.NotWritten])   (c_P_whole_number : ClX P w K mg base 1 "_whole_number" (sp_P_whole_number K cs)) (c_P_power_of : ClX P w K mg base 2 "_power_of" (sp_P_power_of K cs)) (c_P_size_of : ClX P w K mg base 2 "_size_of" (sp_P_size_of K cs))  : FnOk P w K mg base (L2.CX P w) 3 f fd ["term"] (sp_P_size_and_power K cs) := by
  refine F.okX sc_P_size_and_power (fun vs H Q E h => ?_) (fun cdv A outer s H vs Q E hr h => ⟨t_P_size_and_power K cs E, ?_, run_P_size_and_power T (by simp) h⟩)
  · first | (obtain ⟨_, rfl, _⟩ := h; rfl) | (obtain ⟨_, _, rfl, _⟩ := h; rfl) | (obtain ⟨_, _, _, rfl, _⟩ := h; rfl) | (obtain ⟨_, _, _, _, rfl, _⟩ := h; rfl) | (obtain ⟨_, _, _, _, _, rfl, _⟩ := h; rfl) | (obtain ⟨_, _, _, _, _, _, rfl, _⟩ := h; rfl) | (obtain ⟨_, _, _, _, _, _, _, rfl, _⟩ := h; rfl) | (obtain ⟨_, _, _, _, _, _, _, _, rfl, _⟩ := h; rfl) | (obtain ⟨_, _, _, _, _, _, _, _, _, rfl, _⟩ := h; rfl) | (obtain ⟨_, _, _, _, _, _, _, _, _, _, rfl, _⟩ := h; rfl) | (obtain ⟨_, _, _, _, _, _, _, _, _, _, _, rfl, _⟩ := h; rfl) | (obtain ⟨_, _, _, _, _, _, _, _, _, _, _, _, rfl, _⟩ := h; rfl) | (obtain ⟨_, _, _, _, _, _, _, _, _, _, _, _, _, rfl, _⟩ := h; rfl) | (obtain ⟨_, _, _, _, _, _, _, _, _, _, _, _, _, _, rfl, _⟩ := h; rfl) | (obtain ⟨_, _, _, _, _, _, _, _, _, _, _, _, _, _, _, rfl, _⟩ := h; rfl) | (obtain ⟨_, _, _, _, _, _, _, _, _, _, _, _, _, _, _, _, rfl, _⟩ := h; rfl) | (obtain ⟨_, _, _, _, _, _, _, _, _, _, _, _, _, _, _, _, _, rfl, _⟩ := h; rfl) | (obtain ⟨_, _, _, _, _, _, _, _, _, _, _, _, _, _, _, _, _, _, rfl, _⟩ := h; rfl) | (obtain ⟨_, _, _, _, _, _, _, _, _, _, _, _, _, _, _, _, _, _, _, rfl, _⟩ := h; rfl) | (obtain ⟨_, _, _, _, _, _, _, _, _, _, _, _, _, _, _, _, _, _, _, _, rfl, _⟩ := h; rfl) | (obtain ⟨_, _, _, _, _, _, _, _, _, _, _, _, _, _, _, _, _, _, _, _, _, rfl, _⟩ := h; rfl) | (obtain ⟨_, _, _, _, _, _, _, _, _, _, _, _, _, _, _, _, _, _, _, _, _, _, rfl, _⟩ := h; rfl) | (obtain ⟨_, _, _, _, _, _, _, _, _, _, _, _, _, _, _, _, _, _, _, _, _, _, _, rfl, _⟩ := h; rfl) | (obtain ⟨_, _, _, _, _, _, _, _, _, _, _, _, _, _, _, _, _, _, _, _, _, _, _, _, rfl, _⟩ := h; rfl) | (obtain ⟨_, _, _, _, _, _, _, _, _, _, _, _, _, _, _, _, _, _, _, _, _, _, _, _, _, rfl, _⟩ := h; rfl) | (obtain ⟨_, _, _, _, _, _, _, _, _, _, _, _, _, _, _, _, _, _, _, _, _, _, _, _, _, _, rfl, _⟩ := h; rfl) | (obtain ⟨_, _, _, _, _, _, _, _, _, _, _, _, _, _, _, _, _, _, _, _, _, _, _, _, _, _, _, rfl, _⟩ := h; rfl) | (obtain ⟨_, _, _, _, _, _, _, _, _, _, _, _, _, _, _, _, _, _, _, _, _, _, _, _, _, _, _, _, rfl, _⟩ := h; rfl) | (obtain ⟨_, _, _, _, _, _, _, _, _, _, _, _, _, _, _, _, _, _, _, _, _, _, _, _, _, _, _, _, _, rfl, _⟩ := h; rfl) | (obtain ⟨_, _, _, _, _, _, _, _, _, _, _, _, _, _, _, _, _, _, _, _, _, _, _, _, _, _, _, _, _, _, rfl, _⟩ := h; rfl)
  · exact (pss_cons (ps_asg (pe_bm PySem.F.plainAttrs_str PySem.F.slot_str_partition PySem.F.type_str_partition mt_partition (pv 0) (pa_cons pe_str pa_nil)) (pg_tup rfl (pgs_cons (pg_name (i := 1) sc_P_size_and_power.nd rfl (Or.inl rfl)) (pgs_cons (pg_name (i := 2) sc_P_size_and_power.nd rfl (Or.inl rfl)) (pgs_cons (pg_name (i := 3) sc_P_size_and_power.nd rfl (Or.inl rfl)) pgs_nil)))))
      (pss_cons (ps_if (pt_not (pt_truth (pv 2) (by intro _; rfl))) (pss_one (ps_ret (pe_tup (pa_cons (pclS c_P_whole_number (takes_of rfl rfl rfl rfl) hr (by decide) (by rfl) (pa_cons (pv 1) pa_nil)) (pa_cons pe_int pa_nil))))) pss_nil)
      (pss_one (ps_ret (pe_tup (pa_cons (pclS c_P_size_of (takes_of rfl rfl rfl rfl) hr (by decide) (by rfl) (pa_cons (pv 1) pa_nil)) (pa_cons (pclS c_P_power_of (takes_of rfl rfl rfl rfl) hr (by decide) (by rfl) (pa_cons (pv 3) pa_nil)) pa_nil)))))))
theorem ok_P_signs_and_terms {f : Addr} {fd : FuncData} (F : Fun K "_signs_and_terms" "_signs_and_terms" s_P_signs_and_terms f fd)     : FnOk P w K mg base CX0 1 f fd ["line"] (sp_P_signs_and_terms K) := by
  refine F.ok sc_P_signs_and_terms (fun vs H Q E h => ?_) (fun cdv A outer s H vs Q E hr h => ⟨t_P_signs_and_terms K, ?_, run_P_signs_and_terms  h⟩)
  · first | (obtain ⟨_, rfl, _⟩ := h; rfl) | (obtain ⟨_, _, rfl, _⟩ := h; rfl) | (obtain ⟨_, _, _, rfl, _⟩ := h; rfl) | (obtain ⟨_, _, _, _, rfl, _⟩ := h; rfl) | (obtain ⟨_, _, _, _, _, rfl, _⟩ := h; rfl) | (obtain ⟨_, _, _, _, _, _, rfl, _⟩ := h; rfl) | (obtain ⟨_, _, _, _, _, _, _, rfl, _⟩ := h; rfl) | (obtain ⟨_, _, _, _, _, _, _, _, rfl, _⟩ := h; rfl) | (obtain ⟨_, _, _, _, _, _, _, _, _, rfl, _⟩ := h; rfl) | (obtain ⟨_, _, _, _, _, _, _, _, _, _, rfl, _⟩ := h; rfl) | (obtain ⟨_, _, _, _, _, _, _, _, _, _, _, rfl, _⟩ := h; rfl) | (obtain ⟨_, _, _, _, _, _, _, _, _, _, _, _, rfl, _⟩ := h; rfl) | (obtain ⟨_, _, _, _, _, _, _, _, _, _, _, _, _, rfl, _⟩ := h; rfl) | (obtain ⟨_, _, _, _, _, _, _, _, _, _, _, _, _, _, rfl, _⟩ := h; rfl) | (obtain ⟨_, _, _, _, _, _, _, _, _, _, _, _, _, _, _, rfl, _⟩ := h; rfl) | (obtain ⟨_, _, _, _, _, _, _, _, _, _, _, _, _, _, _, _, rfl, _⟩ := h; rfl) | (obtain ⟨_, _, _, _, _, _, _, _, _, _, _, _, _, _, _, _, _, rfl, _⟩ := h; rfl) | (obtain ⟨_, _, _, _, _, _, _, _, _, _, _, _, _, _, _, _, _, _, rfl, _⟩ := h; rfl) | (obtain ⟨_, _, _, _, _, _, _, _, _, _, _, _, _, _, _, _, _, _, _, rfl, _⟩ := h; rfl) | (obtain ⟨_, _, _, _, _, _, _, _, _, _, _, _, _, _, _, _, _, _, _, _, rfl, _⟩ := h; rfl) | (obtain ⟨_, _, _, _, _, _, _, _, _, _, _, _, _, _, _, _, _, _, _, _, _, rfl, _⟩ := h; rfl) | (obtain ⟨_, _, _, _, _, _, _, _, _, _, _, _, _, _, _, _, _, _, _, _, _, _, rfl, _⟩ := h; rfl) | (obtain ⟨_, _, _, _, _, _, _, _, _, _, _, _, _, _, _, _, _, _, _, _, _, _, _, rfl, _⟩ := h; rfl) | (obtain ⟨_, _, _, _, _, _, _, _, _, _, _, _, _, _, _, _, _, _, _, _, _, _, _, _, rfl, _⟩ := h; rfl) | (obtain ⟨_, _, _, _, _, _, _, _, _, _, _, _, _, _, _, _, _, _, _, _, _, _, _, _, _, rfl, _⟩ := h; rfl) | (obtain ⟨_, _, _, _, _, _, _, _, _, _, _, _, _, _, _, _, _, _, _, _, _, _, _, _, _, _, rfl, _⟩ := h; rfl) | (obtain ⟨_, _, _, _, _, _, _, _, _, _, _, _, _, _, _, _, _, _, _, _, _, _, _, _, _, _, _, rfl, _⟩ := h; rfl) | (obtain ⟨_, _, _, _, _, _, _, _, _, _, _, _, _, _, _, _, _, _, _, _, _, _, _, _, _, _, _, _, rfl, _⟩ := h; rfl) | (obtain ⟨_, _, _, _, _, _, _, _, _, _, _, _, _, _, _, _, _, _, _, _, _, _, _, _, _, _, _, _, _, rfl, _⟩ := h; rfl) | (obtain ⟨_, _, _, _, _, _, _, _, _, _, _, _, _, _, _, _, _, _, _, _, _, _, _, _, _, _, _, _, _, _, rfl, _⟩ := h; rfl)
  · exact (pss_cons (ps_if (pt_val (pe_bm PySem.F.plainAttrs_str PySem.F.slot_str_startswith PySem.F.type_str_startswith mt_startswith (pv 0) (pa_cons pe_str pa_nil))) (pss_one (ps_ret (pe_op op_cat (pe_lst (pa_cons pe_str pa_nil)) (pe_bm PySem.F.plainAttrs_str PySem.F.slot_str_split PySem.F.type_str_split mt_split (pe_slice sl_str (pv 0) (po_some pe_int) po_none) (pa_cons pe_str pa_nil))))) pss_nil)
      (pss_one (ps_ret (pe_op op_cat (pe_lst (pa_cons pe_str pa_nil)) (pe_bm PySem.F.plainAttrs_str PySem.F.slot_str_split PySem.F.type_str_split mt_split (pv 0) (pa_cons pe_str pa_nil))))))
theorem ok_P_read {cs : Cs} {f : Addr} {fd : FuncData} (F : Fun K "read" "read" s_P_read f fd) (T : Tx K cs.PolyError [cs.NoNumber, cs.NoPower, cs.ByNought, cs.NotWhole, cs.NoMeet, cs.NoParts, cs.NotWritten]) (r_NotWritten : RsX K mg "NotWritten" cs.NotWritten)  (c_P_signs_and_terms : Cl P w K mg base 1 "_signs_and_terms" (sp_P_signs_and_terms K)) (c_P_size_and_power : ClX P w K mg base 3 "_size_and_power" (sp_P_size_and_power K cs)) (m_GREATEST_POWER : ∃ t, mg "GREATEST_POWER" = some (.int 99 t)) (m_len : mg "len" = none) (m_zip : mg "zip" = none) : FnOk P w K mg base (L2.CX P w) 4 f fd ["line"] (sp_P_read K cs) := by
  refine F.okX sc_P_read (fun vs H Q E h => ?_) (fun cdv A outer s H vs Q E hr h => ⟨t_P_read K cs E, ?_, run_P_read T (by simp) h⟩)
  · first | (obtain ⟨_, rfl, _⟩ := h; rfl) | (obtain ⟨_, _, rfl, _⟩ := h; rfl) | (obtain ⟨_, _, _, rfl, _⟩ := h; rfl) | (obtain ⟨_, _, _, _, rfl, _⟩ := h; rfl) | (obtain ⟨_, _, _, _, _, rfl, _⟩ := h; rfl) | (obtain ⟨_, _, _, _, _, _, rfl, _⟩ := h; rfl) | (obtain ⟨_, _, _, _, _, _, _, rfl, _⟩ := h; rfl) | (obtain ⟨_, _, _, _, _, _, _, _, rfl, _⟩ := h; rfl) | (obtain ⟨_, _, _, _, _, _, _, _, _, rfl, _⟩ := h; rfl) | (obtain ⟨_, _, _, _, _, _, _, _, _, _, rfl, _⟩ := h; rfl) | (obtain ⟨_, _, _, _, _, _, _, _, _, _, _, rfl, _⟩ := h; rfl) | (obtain ⟨_, _, _, _, _, _, _, _, _, _, _, _, rfl, _⟩ := h; rfl) | (obtain ⟨_, _, _, _, _, _, _, _, _, _, _, _, _, rfl, _⟩ := h; rfl) | (obtain ⟨_, _, _, _, _, _, _, _, _, _, _, _, _, _, rfl, _⟩ := h; rfl) | (obtain ⟨_, _, _, _, _, _, _, _, _, _, _, _, _, _, _, rfl, _⟩ := h; rfl) | (obtain ⟨_, _, _, _, _, _, _, _, _, _, _, _, _, _, _, _, rfl, _⟩ := h; rfl) | (obtain ⟨_, _, _, _, _, _, _, _, _, _, _, _, _, _, _, _, _, rfl, _⟩ := h; rfl) | (obtain ⟨_, _, _, _, _, _, _, _, _, _, _, _, _, _, _, _, _, _, rfl, _⟩ := h; rfl) | (obtain ⟨_, _, _, _, _, _, _, _, _, _, _, _, _, _, _, _, _, _, _, rfl, _⟩ := h; rfl) | (obtain ⟨_, _, _, _, _, _, _, _, _, _, _, _, _, _, _, _, _, _, _, _, rfl, _⟩ := h; rfl) | (obtain ⟨_, _, _, _, _, _, _, _, _, _, _, _, _, _, _, _, _, _, _, _, _, rfl, _⟩ := h; rfl) | (obtain ⟨_, _, _, _, _, _, _, _, _, _, _, _, _, _, _, _, _, _, _, _, _, _, rfl, _⟩ := h; rfl) | (obtain ⟨_, _, _, _, _, _, _, _, _, _, _, _, _, _, _, _, _, _, _, _, _, _, _, rfl, _⟩ := h; rfl) | (obtain ⟨_, _, _, _, _, _, _, _, _, _, _, _, _, _, _, _, _, _, _, _, _, _, _, _, rfl, _⟩ := h; rfl) | (obtain ⟨_, _, _, _, _, _, _, _, _, _, _, _, _, _, _, _, _, _, _, _, _, _, _, _, _, rfl, _⟩ := h; rfl) | (obtain ⟨_, _, _, _, _, _, _, _, _, _, _, _, _, _, _, _, _, _, _, _, _, _, _, _, _, _, rfl, _⟩ := h; rfl) | (obtain ⟨_, _, _, _, _, _, _, _, _, _, _, _, _, _, _, _, _, _, _, _, _, _, _, _, _, _, _, rfl, _⟩ := h; rfl) | (obtain ⟨_, _, _, _, _, _, _, _, _, _, _, _, _, _, _, _, _, _, _, _, _, _, _, _, _, _, _, _, rfl, _⟩ := h; rfl) | (obtain ⟨_, _, _, _, _, _, _, _, _, _, _, _, _, _, _, _, _, _, _, _, _, _, _, _, _, _, _, _, _, rfl, _⟩ := h; rfl) | (obtain ⟨_, _, _, _, _, _, _, _, _, _, _, _, _, _, _, _, _, _, _, _, _, _, _, _, _, _, _, _, _, _, rfl, _⟩ := h; rfl)
  · exact (pss_cons (ps_if (pt_cmpR op_eq (pv 0) pe_str (nomark _)) (pss_one (ps_ret (pe_lst pa_nil))) pss_nil)
      (pss_cons (ps_set (i := 1) sc_P_read.nd rfl (Or.inl rfl) (pcl c_P_signs_and_terms hr (by decide) (by rfl) (pa_cons (pv 0) pa_nil)))
      (pss_cons (ps_if (pt_truth (pe_op op_odd (pe_callB call_len_seq (by rfl) m_len PySem.boot_len (pa_cons (pv 1) pa_nil)) pe_int) (by intro _; rfl)) (pss_one (ps_raiseC r_NotWritten rfl (takes_of rfl rfl rfl rfl) (by rfl))) pss_nil)
      (pss_cons (ps_set (i := 2) sc_P_read.nd rfl (Or.inl rfl) (pe_lst pa_nil))
      (pss_cons (ps_set (i := 3) sc_P_read.nd rfl (Or.inl rfl) (pe_op op_add (pe_glob (by rfl) m_GREATEST_POWER.choose_spec ⟨_, rfl⟩) pe_int))
      (pss_cons (ps_for (passes_of rfl) rfl (RZ.pi_zipA (by rfl) m_zip (pa_cons (pe_stepL (pv 1)) (pa_cons (pe_stepL (pv 1)) pa_nil))) (pg_tup rfl (pgs_cons (pg_name (i := 4) sc_P_read.nd rfl (Or.inl rfl)) (pgs_cons (pg_name (i := 5) sc_P_read.nd rfl (Or.inl rfl)) pgs_nil))) (pss_cons (ps_asg (pclS c_P_size_and_power (takes_of rfl rfl rfl rfl) hr (by decide) (by rfl) (pa_cons (pv 5) pa_nil)) (pg_tup rfl (pgs_cons (pg_name (i := 6) sc_P_read.nd rfl (Or.inl rfl)) (pgs_cons (pg_name (i := 7) sc_P_read.nd rfl (Or.inl rfl)) pgs_nil))))
      (pss_cons (ps_if (PW.pt (pw_or (pt_cmpR op_notIn_seq (pv 4) (pe_tup (pa_cons pe_str (pa_cons pe_str pa_nil))) (by rfl)) (pw_or1 (pt_cmpR op_ge (pv 7) (pv 3) (nomark _))))) (pss_one (ps_raiseC r_NotWritten rfl (takes_of rfl rfl rfl rfl) (by rfl))) pss_nil)
      (pss_cons (ps_set (i := 3) sc_P_read.nd rfl (Or.inl rfl) (pv 7))
      (pss_cons (ps_if (pt_not (pt_truth (pv 2) (by intro _; rfl))) (pss_one (ps_set (i := 2) sc_P_read.nd rfl (Or.inl rfl) (pe_op op_rep (pe_lst (pa_cons pe_int pa_nil)) (pe_op op_add (pv 7) pe_int)))) pss_nil)
      (pss_one (ps_asg (pe_ifExp (pt_cmpR op_eq (pv 4) pe_str (nomark _)) (pe_un un_neg (pv 6)) (pv 6)) (pg_sub (pv 2) (pv 7) set_list))))))))
      (pss_one (ps_ret (pv 2)))))))))
theorem ok_P_is_whole {f : Addr} {fd : FuncData} (F : Fun K "_is_whole" "_is_whole" s_P_is_whole f fd)    (m_bool : mg "bool" = none) (m_int : mg "int" = none) (m_isinstance : mg "isinstance" = none) : FnOk P w K mg base CX0 1 f fd ["thing"] (sp_P_is_whole K) := by
  refine F.ok sc_P_is_whole (fun vs H Q E h => ?_) (fun cdv A outer s H vs Q E hr h => ⟨t_P_is_whole K, ?_, run_P_is_whole  h⟩)
  · first | (obtain ⟨_, rfl, _⟩ := h; rfl) | (obtain ⟨_, _, rfl, _⟩ := h; rfl) | (obtain ⟨_, _, _, rfl, _⟩ := h; rfl) | (obtain ⟨_, _, _, _, rfl, _⟩ := h; rfl) | (obtain ⟨_, _, _, _, _, rfl, _⟩ := h; rfl) | (obtain ⟨_, _, _, _, _, _, rfl, _⟩ := h; rfl) | (obtain ⟨_, _, _, _, _, _, _, rfl, _⟩ := h; rfl) | (obtain ⟨_, _, _, _, _, _, _, _, rfl, _⟩ := h; rfl) | (obtain ⟨_, _, _, _, _, _, _, _, _, rfl, _⟩ := h; rfl) | (obtain ⟨_, _, _, _, _, _, _, _, _, _, rfl, _⟩ := h; rfl) | (obtain ⟨_, _, _, _, _, _, _, _, _, _, _, rfl, _⟩ := h; rfl) | (obtain ⟨_, _, _, _, _, _, _, _, _, _, _, _, rfl, _⟩ := h; rfl) | (obtain ⟨_, _, _, _, _, _, _, _, _, _, _, _, _, rfl, _⟩ := h; rfl) | (obtain ⟨_, _, _, _, _, _, _, _, _, _, _, _, _, _, rfl, _⟩ := h; rfl) | (obtain ⟨_, _, _, _, _, _, _, _, _, _, _, _, _, _, _, rfl, _⟩ := h; rfl) | (obtain ⟨_, _, _, _, _, _, _, _, _, _, _, _, _, _, _, _, rfl, _⟩ := h; rfl) | (obtain ⟨_, _, _, _, _, _, _, _, _, _, _, _, _, _, _, _, _, rfl, _⟩ := h; rfl) | (obtain ⟨_, _, _, _, _, _, _, _, _, _, _, _, _, _, _, _, _, _, rfl, _⟩ := h; rfl) | (obtain ⟨_, _, _, _, _, _, _, _, _, _, _, _, _, _, _, _, _, _, _, rfl, _⟩ := h; rfl) | (obtain ⟨_, _, _, _, _, _, _, _, _, _, _, _, _, _, _, _, _, _, _, _, rfl, _⟩ := h; rfl) | (obtain ⟨_, _, _, _, _, _, _, _, _, _, _, _, _, _, _, _, _, _, _, _, _, rfl, _⟩ := h; rfl) | (obtain ⟨_, _, _, _, _, _, _, _, _, _, _, _, _, _, _, _, _, _, _, _, _, _, rfl, _⟩ := h; rfl) | (obtain ⟨_, _, _, _, _, _, _, _, _, _, _, _, _, _, _, _, _, _, _, _, _, _, _, rfl, _⟩ := h; rfl) | (obtain ⟨_, _, _, _, _, _, _, _, _, _, _, _, _, _, _, _, _, _, _, _, _, _, _, _, rfl, _⟩ := h; rfl) | (obtain ⟨_, _, _, _, _, _, _, _, _, _, _, _, _, _, _, _, _, _, _, _, _, _, _, _, _, rfl, _⟩ := h; rfl) | (obtain ⟨_, _, _, _, _, _, _, _, _, _, _, _, _, _, _, _, _, _, _, _, _, _, _, _, _, _, rfl, _⟩ := h; rfl) | (obtain ⟨_, _, _, _, _, _, _, _, _, _, _, _, _, _, _, _, _, _, _, _, _, _, _, _, _, _, _, rfl, _⟩ := h; rfl) | (obtain ⟨_, _, _, _, _, _, _, _, _, _, _, _, _, _, _, _, _, _, _, _, _, _, _, _, _, _, _, _, rfl, _⟩ := h; rfl) | (obtain ⟨_, _, _, _, _, _, _, _, _, _, _, _, _, _, _, _, _, _, _, _, _, _, _, _, _, _, _, _, _, rfl, _⟩ := h; rfl) | (obtain ⟨_, _, _, _, _, _, _, _, _, _, _, _, _, _, _, _, _, _, _, _, _, _, _, _, _, _, _, _, _, _, rfl, _⟩ := h; rfl)
  · exact (pss_one (ps_ret (pe_and (pe_callB call_isi (by rfl) m_isinstance (by decide +kernel) (pa_cons (pv 0) (pa_cons (pe_bltn (by rfl) m_int (by decide +kernel) rfl) pa_nil))) (pe_one (pe_not (pe_callB call_isi (by rfl) m_isinstance (by decide +kernel) (pa_cons (pv 0) (pa_cons (pe_bltn (by rfl) m_bool (by decide +kernel) rfl) pa_nil))))))))
theorem ok_P_without_end_noughts {f : Addr} {fd : FuncData} (F : Fun K "_without_end_noughts" "_without_end_noughts" s_P_without_end_noughts f fd)    (m_len : mg "len" = none) (m_list : mg "list" = none) : FnOk P w K mg base CX0 1 f fd ["numbers"] (sp_P_without_end_noughts K) := by
  refine F.ok sc_P_without_end_noughts (fun vs H Q E h => ?_) (fun cdv A outer s H vs Q E hr h => ⟨t_P_without_end_noughts K, ?_, run_P_without_end_noughts  h⟩)
  · first | (obtain ⟨_, rfl, _⟩ := h; rfl) | (obtain ⟨_, _, rfl, _⟩ := h; rfl) | (obtain ⟨_, _, _, rfl, _⟩ := h; rfl) | (obtain ⟨_, _, _, _, rfl, _⟩ := h; rfl) | (obtain ⟨_, _, _, _, _, rfl, _⟩ := h; rfl) | (obtain ⟨_, _, _, _, _, _, rfl, _⟩ := h; rfl) | (obtain ⟨_, _, _, _, _, _, _, rfl, _⟩ := h; rfl) | (obtain ⟨_, _, _, _, _, _, _, _, rfl, _⟩ := h; rfl) | (obtain ⟨_, _, _, _, _, _, _, _, _, rfl, _⟩ := h; rfl) | (obtain ⟨_, _, _, _, _, _, _, _, _, _, rfl, _⟩ := h; rfl) | (obtain ⟨_, _, _, _, _, _, _, _, _, _, _, rfl, _⟩ := h; rfl) | (obtain ⟨_, _, _, _, _, _, _, _, _, _, _, _, rfl, _⟩ := h; rfl) | (obtain ⟨_, _, _, _, _, _, _, _, _, _, _, _, _, rfl, _⟩ := h; rfl) | (obtain ⟨_, _, _, _, _, _, _, _, _, _, _, _, _, _, rfl, _⟩ := h; rfl) | (obtain ⟨_, _, _, _, _, _, _, _, _, _, _, _, _, _, _, rfl, _⟩ := h; rfl) | (obtain ⟨_, _, _, _, _, _, _, _, _, _, _, _, _, _, _, _, rfl, _⟩ := h; rfl) | (obtain ⟨_, _, _, _, _, _, _, _, _, _, _, _, _, _, _, _, _, rfl, _⟩ := h; rfl) | (obtain ⟨_, _, _, _, _, _, _, _, _, _, _, _, _, _, _, _, _, _, rfl, _⟩ := h; rfl) | (obtain ⟨_, _, _, _, _, _, _, _, _, _, _, _, _, _, _, _, _, _, _, rfl, _⟩ := h; rfl) | (obtain ⟨_, _, _, _, _, _, _, _, _, _, _, _, _, _, _, _, _, _, _, _, rfl, _⟩ := h; rfl) | (obtain ⟨_, _, _, _, _, _, _, _, _, _, _, _, _, _, _, _, _, _, _, _, _, rfl, _⟩ := h; rfl) | (obtain ⟨_, _, _, _, _, _, _, _, _, _, _, _, _, _, _, _, _, _, _, _, _, _, rfl, _⟩ := h; rfl) | (obtain ⟨_, _, _, _, _, _, _, _, _, _, _, _, _, _, _, _, _, _, _, _, _, _, _, rfl, _⟩ := h; rfl) | (obtain ⟨_, _, _, _, _, _, _, _, _, _, _, _, _, _, _, _, _, _, _, _, _, _, _, _, rfl, _⟩ := h; rfl) | (obtain ⟨_, _, _, _, _, _, _, _, _, _, _, _, _, _, _, _, _, _, _, _, _, _, _, _, _, rfl, _⟩ := h; rfl) | (obtain ⟨_, _, _, _, _, _, _, _, _, _, _, _, _, _, _, _, _, _, _, _, _, _, _, _, _, _, rfl, _⟩ := h; rfl) | (obtain ⟨_, _, _, _, _, _, _, _, _, _, _, _, _, _, _, _, _, _, _, _, _, _, _, _, _, _, _, rfl, _⟩ := h; rfl) | (obtain ⟨_, _, _, _, _, _, _, _, _, _, _, _, _, _, _, _, _, _, _, _, _, _, _, _, _, _, _, _, rfl, _⟩ := h; rfl) | (obtain ⟨_, _, _, _, _, _, _, _, _, _, _, _, _, _, _, _, _, _, _, _, _, _, _, _, _, _, _, _, _, rfl, _⟩ := h; rfl) | (obtain ⟨_, _, _, _, _, _, _, _, _, _, _, _, _, _, _, _, _, _, _, _, _, _, _, _, _, _, _, _, _, _, rfl, _⟩ := h; rfl)
  · exact (pss_cons (ps_set (i := 1) sc_P_without_end_noughts.nd rfl (Or.inl rfl) (pe_callB call_len_seq (by rfl) m_len PySem.boot_len (pa_cons (pv 0) pa_nil)))
      (pss_cons (ps_while PassesOwn.never (PW.pt (pw_and (pt_cmpR op_gt (pv 1) pe_int (nomark _)) (pw_and1 (pt_cmpR op_eq (pe_ix ix_list (pv 0) (pe_op op_sub (pv 1) pe_int) (fun _ _ => rfl)) pe_int (nomark _))))) (pss_one (ps_aug (i := 1) sc_P_without_end_noughts.nd rfl (Or.inl rfl) pe_int ip_sub)))
      (pss_one (ps_ret (pe_callTy call_list_of (by rfl) m_list (by decide +kernel) (pa_cons (pe_slice sl_list (pv 0) po_none (po_some (pv 1))) pa_nil))))))
theorem ok_P_made {cs : Cs} {f : Addr} {fd : FuncData} (F : Fun K "made" "made" s_P_made f fd) (r_NoNumber : RsX K mg "NoNumber" cs.NoNumber)  (c_P_is_whole : Cl P w K mg base 1 "_is_whole" (sp_P_is_whole K)) (c_P_without_end_noughts : Cl P w K mg base 1 "_without_end_noughts" (sp_P_without_end_noughts K)) (m_enumerate : mg "enumerate" = none) : FnOk P w K mg base (L2.CX P w) 2 f fd ["numbers"] (sp_P_made K cs) := by
  refine F.okX sc_P_made (fun vs H Q E h => ?_) (fun cdv A outer s H vs Q E hr h => ⟨t_P_made K cs E, ?_, run_P_made  h⟩)
  · first | (obtain ⟨_, rfl, _⟩ := h; rfl) | (obtain ⟨_, _, rfl, _⟩ := h; rfl) | (obtain ⟨_, _, _, rfl, _⟩ := h; rfl) | (obtain ⟨_, _, _, _, rfl, _⟩ := h; rfl) | (obtain ⟨_, _, _, _, _, rfl, _⟩ := h; rfl) | (obtain ⟨_, _, _, _, _, _, rfl, _⟩ := h; rfl) | (obtain ⟨_, _, _, _, _, _, _, rfl, _⟩ := h; rfl) | (obtain ⟨_, _, _, _, _, _, _, _, rfl, _⟩ := h; rfl) | (obtain ⟨_, _, _, _, _, _, _, _, _, rfl, _⟩ := h; rfl) | (obtain ⟨_, _, _, _, _, _, _, _, _, _, rfl, _⟩ := h; rfl) | (obtain ⟨_, _, _, _, _, _, _, _, _, _, _, rfl, _⟩ := h; rfl) | (obtain ⟨_, _, _, _, _, _, _, _, _, _, _, _, rfl, _⟩ := h; rfl) | (obtain ⟨_, _, _, _, _, _, _, _, _, _, _, _, _, rfl, _⟩ := h; rfl) | (obtain ⟨_, _, _, _, _, _, _, _, _, _, _, _, _, _, rfl, _⟩ := h; rfl) | (obtain ⟨_, _, _, _, _, _, _, _, _, _, _, _, _, _, _, rfl, _⟩ := h; rfl) | (obtain ⟨_, _, _, _, _, _, _, _, _, _, _, _, _, _, _, _, rfl, _⟩ := h; rfl) | (obtain ⟨_, _, _, _, _, _, _, _, _, _, _, _, _, _, _, _, _, rfl, _⟩ := h; rfl) | (obtain ⟨_, _, _, _, _, _, _, _, _, _, _, _, _, _, _, _, _, _, rfl, _⟩ := h; rfl) | (obtain ⟨_, _, _, _, _, _, _, _, _, _, _, _, _, _, _, _, _, _, _, rfl, _⟩ := h; rfl) | (obtain ⟨_, _, _, _, _, _, _, _, _, _, _, _, _, _, _, _, _, _, _, _, rfl, _⟩ := h; rfl) | (obtain ⟨_, _, _, _, _, _, _, _, _, _, _, _, _, _, _, _, _, _, _, _, _, rfl, _⟩ := h; rfl) | (obtain ⟨_, _, _, _, _, _, _, _, _, _, _, _, _, _, _, _, _, _, _, _, _, _, rfl, _⟩ := h; rfl) | (obtain ⟨_, _, _, _, _, _, _, _, _, _, _, _, _, _, _, _, _, _, _, _, _, _, _, rfl, _⟩ := h; rfl) | (obtain ⟨_, _, _, _, _, _, _, _, _, _, _, _, _, _, _, _, _, _, _, _, _, _, _, _, rfl, _⟩ := h; rfl) | (obtain ⟨_, _, _, _, _, _, _, _, _, _, _, _, _, _, _, _, _, _, _, _, _, _, _, _, _, rfl, _⟩ := h; rfl) | (obtain ⟨_, _, _, _, _, _, _, _, _, _, _, _, _, _, _, _, _, _, _, _, _, _, _, _, _, _, rfl, _⟩ := h; rfl) | (obtain ⟨_, _, _, _, _, _, _, _, _, _, _, _, _, _, _, _, _, _, _, _, _, _, _, _, _, _, _, rfl, _⟩ := h; rfl) | (obtain ⟨_, _, _, _, _, _, _, _, _, _, _, _, _, _, _, _, _, _, _, _, _, _, _, _, _, _, _, _, rfl, _⟩ := h; rfl) | (obtain ⟨_, _, _, _, _, _, _, _, _, _, _, _, _, _, _, _, _, _, _, _, _, _, _, _, _, _, _, _, _, rfl, _⟩ := h; rfl) | (obtain ⟨_, _, _, _, _, _, _, _, _, _, _, _, _, _, _, _, _, _, _, _, _, _, _, _, _, _, _, _, _, _, rfl, _⟩ := h; rfl)
  · exact (pss_cons (ps_for (passes_of rfl) rfl (pi_enum (by rfl) m_enumerate (pa_cons (pv 0) pa_nil)) (pg_tup rfl (pgs_cons (pg_name (i := 1) sc_P_made.nd rfl (Or.inl rfl)) (pgs_cons (pg_name (i := 2) sc_P_made.nd rfl (Or.inl rfl)) pgs_nil))) (pss_one (ps_if (pt_not (pt_val (pcl c_P_is_whole hr (by decide) (by rfl) (pa_cons (pv 2) pa_nil)))) (pss_one (ps_raise1 r_NoNumber rfl (takes_of rfl rfl rfl rfl) (by rfl) (pe_joined (PJ.cons pe_str (PJ.cons (pe_fmt (pv 1)) PJ.nil))))) pss_nil)))
      (pss_one (ps_ret (pcl c_P_without_end_noughts hr (by decide) (by rfl) (pa_cons (pv 0) pa_nil)))))
theorem ok_P_number_at {f : Addr} {fd : FuncData} (F : Fun K "_number_at" "_number_at" s_P_number_at f fd)    (m_len : mg "len" = none) : FnOk P w K mg base CX0 1 f fd ["row", "power"] (sp_P_number_at K) := by
  refine F.ok sc_P_number_at (fun vs H Q E h => ?_) (fun cdv A outer s H vs Q E hr h => ⟨t_P_number_at K, ?_, run_P_number_at  h⟩)
  · first | (obtain ⟨_, rfl, _⟩ := h; rfl) | (obtain ⟨_, _, rfl, _⟩ := h; rfl) | (obtain ⟨_, _, _, rfl, _⟩ := h; rfl) | (obtain ⟨_, _, _, _, rfl, _⟩ := h; rfl) | (obtain ⟨_, _, _, _, _, rfl, _⟩ := h; rfl) | (obtain ⟨_, _, _, _, _, _, rfl, _⟩ := h; rfl) | (obtain ⟨_, _, _, _, _, _, _, rfl, _⟩ := h; rfl) | (obtain ⟨_, _, _, _, _, _, _, _, rfl, _⟩ := h; rfl) | (obtain ⟨_, _, _, _, _, _, _, _, _, rfl, _⟩ := h; rfl) | (obtain ⟨_, _, _, _, _, _, _, _, _, _, rfl, _⟩ := h; rfl) | (obtain ⟨_, _, _, _, _, _, _, _, _, _, _, rfl, _⟩ := h; rfl) | (obtain ⟨_, _, _, _, _, _, _, _, _, _, _, _, rfl, _⟩ := h; rfl) | (obtain ⟨_, _, _, _, _, _, _, _, _, _, _, _, _, rfl, _⟩ := h; rfl) | (obtain ⟨_, _, _, _, _, _, _, _, _, _, _, _, _, _, rfl, _⟩ := h; rfl) | (obtain ⟨_, _, _, _, _, _, _, _, _, _, _, _, _, _, _, rfl, _⟩ := h; rfl) | (obtain ⟨_, _, _, _, _, _, _, _, _, _, _, _, _, _, _, _, rfl, _⟩ := h; rfl) | (obtain ⟨_, _, _, _, _, _, _, _, _, _, _, _, _, _, _, _, _, rfl, _⟩ := h; rfl) | (obtain ⟨_, _, _, _, _, _, _, _, _, _, _, _, _, _, _, _, _, _, rfl, _⟩ := h; rfl) | (obtain ⟨_, _, _, _, _, _, _, _, _, _, _, _, _, _, _, _, _, _, _, rfl, _⟩ := h; rfl) | (obtain ⟨_, _, _, _, _, _, _, _, _, _, _, _, _, _, _, _, _, _, _, _, rfl, _⟩ := h; rfl) | (obtain ⟨_, _, _, _, _, _, _, _, _, _, _, _, _, _, _, _, _, _, _, _, _, rfl, _⟩ := h; rfl) | (obtain ⟨_, _, _, _, _, _, _, _, _, _, _, _, _, _, _, _, _, _, _, _, _, _, rfl, _⟩ := h; rfl) | (obtain ⟨_, _, _, _, _, _, _, _, _, _, _, _, _, _, _, _, _, _, _, _, _, _, _, rfl, _⟩ := h; rfl) | (obtain ⟨_, _, _, _, _, _, _, _, _, _, _, _, _, _, _, _, _, _, _, _, _, _, _, _, rfl, _⟩ := h; rfl) | (obtain ⟨_, _, _, _, _, _, _, _, _, _, _, _, _, _, _, _, _, _, _, _, _, _, _, _, _, rfl, _⟩ := h; rfl) | (obtain ⟨_, _, _, _, _, _, _, _, _, _, _, _, _, _, _, _, _, _, _, _, _, _, _, _, _, _, rfl, _⟩ := h; rfl) | (obtain ⟨_, _, _, _, _, _, _, _, _, _, _, _, _, _, _, _, _, _, _, _, _, _, _, _, _, _, _, rfl, _⟩ := h; rfl) | (obtain ⟨_, _, _, _, _, _, _, _, _, _, _, _, _, _, _, _, _, _, _, _, _, _, _, _, _, _, _, _, rfl, _⟩ := h; rfl) | (obtain ⟨_, _, _, _, _, _, _, _, _, _, _, _, _, _, _, _, _, _, _, _, _, _, _, _, _, _, _, _, _, rfl, _⟩ := h; rfl) | (obtain ⟨_, _, _, _, _, _, _, _, _, _, _, _, _, _, _, _, _, _, _, _, _, _, _, _, _, _, _, _, _, _, rfl, _⟩ := h; rfl)
  · exact (pss_one (ps_ret (pe_ifExp (pt_cmpR op_lt (pv 1) (pe_callB call_len_seq (by rfl) m_len PySem.boot_len (pa_cons (pv 0) pa_nil)) (nomark _)) (pe_ix ix_list (pv 0) (pv 1) (fun _ _ => rfl)) pe_int)))
theorem ok_P_plus {f : Addr} {fd : FuncData} (F : Fun K "plus" "plus" s_P_plus f fd)   (c_P_number_at : Cl P w K mg base 1 "_number_at" (sp_P_number_at K)) (c_P_without_end_noughts : Cl P w K mg base 1 "_without_end_noughts" (sp_P_without_end_noughts K)) (m_len : mg "len" = none) (m_max : mg "max" = none) (m_range : mg "range" = none) : FnOk P w K mg base CX0 2 f fd ["ones", "others"] (sp_P_plus K) := by
  refine F.ok sc_P_plus (fun vs H Q E h => ?_) (fun cdv A outer s H vs Q E hr h => ⟨t_P_plus K, ?_, run_P_plus  h⟩)
  · first | (obtain ⟨_, rfl, _⟩ := h; rfl) | (obtain ⟨_, _, rfl, _⟩ := h; rfl) | (obtain ⟨_, _, _, rfl, _⟩ := h; rfl) | (obtain ⟨_, _, _, _, rfl, _⟩ := h; rfl) | (obtain ⟨_, _, _, _, _, rfl, _⟩ := h; rfl) | (obtain ⟨_, _, _, _, _, _, rfl, _⟩ := h; rfl) | (obtain ⟨_, _, _, _, _, _, _, rfl, _⟩ := h; rfl) | (obtain ⟨_, _, _, _, _, _, _, _, rfl, _⟩ := h; rfl) | (obtain ⟨_, _, _, _, _, _, _, _, _, rfl, _⟩ := h; rfl) | (obtain ⟨_, _, _, _, _, _, _, _, _, _, rfl, _⟩ := h; rfl) | (obtain ⟨_, _, _, _, _, _, _, _, _, _, _, rfl, _⟩ := h; rfl) | (obtain ⟨_, _, _, _, _, _, _, _, _, _, _, _, rfl, _⟩ := h; rfl) | (obtain ⟨_, _, _, _, _, _, _, _, _, _, _, _, _, rfl, _⟩ := h; rfl) | (obtain ⟨_, _, _, _, _, _, _, _, _, _, _, _, _, _, rfl, _⟩ := h; rfl) | (obtain ⟨_, _, _, _, _, _, _, _, _, _, _, _, _, _, _, rfl, _⟩ := h; rfl) | (obtain ⟨_, _, _, _, _, _, _, _, _, _, _, _, _, _, _, _, rfl, _⟩ := h; rfl) | (obtain ⟨_, _, _, _, _, _, _, _, _, _, _, _, _, _, _, _, _, rfl, _⟩ := h; rfl) | (obtain ⟨_, _, _, _, _, _, _, _, _, _, _, _, _, _, _, _, _, _, rfl, _⟩ := h; rfl) | (obtain ⟨_, _, _, _, _, _, _, _, _, _, _, _, _, _, _, _, _, _, _, rfl, _⟩ := h; rfl) | (obtain ⟨_, _, _, _, _, _, _, _, _, _, _, _, _, _, _, _, _, _, _, _, rfl, _⟩ := h; rfl) | (obtain ⟨_, _, _, _, _, _, _, _, _, _, _, _, _, _, _, _, _, _, _, _, _, rfl, _⟩ := h; rfl) | (obtain ⟨_, _, _, _, _, _, _, _, _, _, _, _, _, _, _, _, _, _, _, _, _, _, rfl, _⟩ := h; rfl) | (obtain ⟨_, _, _, _, _, _, _, _, _, _, _, _, _, _, _, _, _, _, _, _, _, _, _, rfl, _⟩ := h; rfl) | (obtain ⟨_, _, _, _, _, _, _, _, _, _, _, _, _, _, _, _, _, _, _, _, _, _, _, _, rfl, _⟩ := h; rfl) | (obtain ⟨_, _, _, _, _, _, _, _, _, _, _, _, _, _, _, _, _, _, _, _, _, _, _, _, _, rfl, _⟩ := h; rfl) | (obtain ⟨_, _, _, _, _, _, _, _, _, _, _, _, _, _, _, _, _, _, _, _, _, _, _, _, _, _, rfl, _⟩ := h; rfl) | (obtain ⟨_, _, _, _, _, _, _, _, _, _, _, _, _, _, _, _, _, _, _, _, _, _, _, _, _, _, _, rfl, _⟩ := h; rfl) | (obtain ⟨_, _, _, _, _, _, _, _, _, _, _, _, _, _, _, _, _, _, _, _, _, _, _, _, _, _, _, _, rfl, _⟩ := h; rfl) | (obtain ⟨_, _, _, _, _, _, _, _, _, _, _, _, _, _, _, _, _, _, _, _, _, _, _, _, _, _, _, _, _, rfl, _⟩ := h; rfl) | (obtain ⟨_, _, _, _, _, _, _, _, _, _, _, _, _, _, _, _, _, _, _, _, _, _, _, _, _, _, _, _, _, _, rfl, _⟩ := h; rfl)
  · exact (pss_cons (ps_set (i := 2) sc_P_plus.nd rfl (Or.inl rfl) (pe_callTy cr_range1 (by rfl) m_range (by decide +kernel) (pa_cons (pe_callB (call_max2 rfl) (by rfl) m_max (by decide +kernel) (pa_cons (pe_callB call_len_seq (by rfl) m_len PySem.boot_len (pa_cons (pv 0) pa_nil)) (pa_cons (pe_callB call_len_seq (by rfl) m_len PySem.boot_len (pa_cons (pv 1) pa_nil)) pa_nil))) pa_nil)))
      (pss_one (ps_ret (pcl c_P_without_end_noughts hr (by decide) (by rfl) (pa_cons (pe_lc (own := [("power", 3)]) (g := (gName 3)) (by rfl) sc_P_plus.nd (pi_rngV (pv 2)) (blkOk_by (own := [("power", 3)]) (N := ["ones", "others", "powers", "power"]) (sc := defScope s_P_plus) (by decide +kernel)) (fun _ _ _ _ _ => (pg_name (i := 3) sc_P_plus.nd rfl (Or.inl rfl))) (fun _ _ _ _ _ => pts_nil) (fun _ _ _ _ _ => (pe_op op_add (pcl c_P_number_at hr (by decide) (by rfl) (pa_cons (pv 0) (pa_cons (pv 3) pa_nil))) (pcl c_P_number_at hr (by decide) (by rfl) (pa_cons (pv 1) (pa_cons (pv 3) pa_nil)))))) pa_nil)))))
theorem ok_P_minus {f : Addr} {fd : FuncData} (F : Fun K "minus" "minus" s_P_minus f fd)   (c_P_number_at : Cl P w K mg base 1 "_number_at" (sp_P_number_at K)) (c_P_without_end_noughts : Cl P w K mg base 1 "_without_end_noughts" (sp_P_without_end_noughts K)) (m_len : mg "len" = none) (m_max : mg "max" = none) (m_range : mg "range" = none) : FnOk P w K mg base CX0 2 f fd ["ones", "others"] (sp_P_minus K) := by
  refine F.ok sc_P_minus (fun vs H Q E h => ?_) (fun cdv A outer s H vs Q E hr h => ⟨t_P_minus K, ?_, run_P_minus  h⟩)
  · first | (obtain ⟨_, rfl, _⟩ := h; rfl) | (obtain ⟨_, _, rfl, _⟩ := h; rfl) | (obtain ⟨_, _, _, rfl, _⟩ := h; rfl) | (obtain ⟨_, _, _, _, rfl, _⟩ := h; rfl) | (obtain ⟨_, _, _, _, _, rfl, _⟩ := h; rfl) | (obtain ⟨_, _, _, _, _, _, rfl, _⟩ := h; rfl) | (obtain ⟨_, _, _, _, _, _, _, rfl, _⟩ := h; rfl) | (obtain ⟨_, _, _, _, _, _, _, _, rfl, _⟩ := h; rfl) | (obtain ⟨_, _, _, _, _, _, _, _, _, rfl, _⟩ := h; rfl) | (obtain ⟨_, _, _, _, _, _, _, _, _, _, rfl, _⟩ := h; rfl) | (obtain ⟨_, _, _, _, _, _, _, _, _, _, _, rfl, _⟩ := h; rfl) | (obtain ⟨_, _, _, _, _, _, _, _, _, _, _, _, rfl, _⟩ := h; rfl) | (obtain ⟨_, _, _, _, _, _, _, _, _, _, _, _, _, rfl, _⟩ := h; rfl) | (obtain ⟨_, _, _, _, _, _, _, _, _, _, _, _, _, _, rfl, _⟩ := h; rfl) | (obtain ⟨_, _, _, _, _, _, _, _, _, _, _, _, _, _, _, rfl, _⟩ := h; rfl) | (obtain ⟨_, _, _, _, _, _, _, _, _, _, _, _, _, _, _, _, rfl, _⟩ := h; rfl) | (obtain ⟨_, _, _, _, _, _, _, _, _, _, _, _, _, _, _, _, _, rfl, _⟩ := h; rfl) | (obtain ⟨_, _, _, _, _, _, _, _, _, _, _, _, _, _, _, _, _, _, rfl, _⟩ := h; rfl) | (obtain ⟨_, _, _, _, _, _, _, _, _, _, _, _, _, _, _, _, _, _, _, rfl, _⟩ := h; rfl) | (obtain ⟨_, _, _, _, _, _, _, _, _, _, _, _, _, _, _, _, _, _, _, _, rfl, _⟩ := h; rfl) | (obtain ⟨_, _, _, _, _, _, _, _, _, _, _, _, _, _, _, _, _, _, _, _, _, rfl, _⟩ := h; rfl) | (obtain ⟨_, _, _, _, _, _, _, _, _, _, _, _, _, _, _, _, _, _, _, _, _, _, rfl, _⟩ := h; rfl) | (obtain ⟨_, _, _, _, _, _, _, _, _, _, _, _, _, _, _, _, _, _, _, _, _, _, _, rfl, _⟩ := h; rfl) | (obtain ⟨_, _, _, _, _, _, _, _, _, _, _, _, _, _, _, _, _, _, _, _, _, _, _, _, rfl, _⟩ := h; rfl) | (obtain ⟨_, _, _, _, _, _, _, _, _, _, _, _, _, _, _, _, _, _, _, _, _, _, _, _, _, rfl, _⟩ := h; rfl) | (obtain ⟨_, _, _, _, _, _, _, _, _, _, _, _, _, _, _, _, _, _, _, _, _, _, _, _, _, _, rfl, _⟩ := h; rfl) | (obtain ⟨_, _, _, _, _, _, _, _, _, _, _, _, _, _, _, _, _, _, _, _, _, _, _, _, _, _, _, rfl, _⟩ := h; rfl) | (obtain ⟨_, _, _, _, _, _, _, _, _, _, _, _, _, _, _, _, _, _, _, _, _, _, _, _, _, _, _, _, rfl, _⟩ := h; rfl) | (obtain ⟨_, _, _, _, _, _, _, _, _, _, _, _, _, _, _, _, _, _, _, _, _, _, _, _, _, _, _, _, _, rfl, _⟩ := h; rfl) | (obtain ⟨_, _, _, _, _, _, _, _, _, _, _, _, _, _, _, _, _, _, _, _, _, _, _, _, _, _, _, _, _, _, rfl, _⟩ := h; rfl)
  · exact (pss_cons (ps_set (i := 2) sc_P_minus.nd rfl (Or.inl rfl) (pe_callTy cr_range1 (by rfl) m_range (by decide +kernel) (pa_cons (pe_callB (call_max2 rfl) (by rfl) m_max (by decide +kernel) (pa_cons (pe_callB call_len_seq (by rfl) m_len PySem.boot_len (pa_cons (pv 0) pa_nil)) (pa_cons (pe_callB call_len_seq (by rfl) m_len PySem.boot_len (pa_cons (pv 1) pa_nil)) pa_nil))) pa_nil)))
      (pss_one (ps_ret (pcl c_P_without_end_noughts hr (by decide) (by rfl) (pa_cons (pe_lc (own := [("power", 3)]) (g := (gName 3)) (by rfl) sc_P_minus.nd (pi_rngV (pv 2)) (blkOk_by (own := [("power", 3)]) (N := ["ones", "others", "powers", "power"]) (sc := defScope s_P_minus) (by decide +kernel)) (fun _ _ _ _ _ => (pg_name (i := 3) sc_P_minus.nd rfl (Or.inl rfl))) (fun _ _ _ _ _ => pts_nil) (fun _ _ _ _ _ => (pe_op op_sub (pcl c_P_number_at hr (by decide) (by rfl) (pa_cons (pv 0) (pa_cons (pv 3) pa_nil))) (pcl c_P_number_at hr (by decide) (by rfl) (pa_cons (pv 1) (pa_cons (pv 3) pa_nil)))))) pa_nil)))))
theorem ok_P_times {f : Addr} {fd : FuncData} (F : Fun K "times" "times" s_P_times f fd)    (m_enumerate : mg "enumerate" = none) (m_len : mg "len" = none) : FnOk P w K mg base CX0 1 f fd ["ones", "others"] (sp_P_times K) := by
  refine F.ok sc_P_times (fun vs H Q E h => ?_) (fun cdv A outer s H vs Q E hr h => ⟨t_P_times K, ?_, run_P_times  h⟩)
  · first | (obtain ⟨_, rfl, _⟩ := h; rfl) | (obtain ⟨_, _, rfl, _⟩ := h; rfl) | (obtain ⟨_, _, _, rfl, _⟩ := h; rfl) | (obtain ⟨_, _, _, _, rfl, _⟩ := h; rfl) | (obtain ⟨_, _, _, _, _, rfl, _⟩ := h; rfl) | (obtain ⟨_, _, _, _, _, _, rfl, _⟩ := h; rfl) | (obtain ⟨_, _, _, _, _, _, _, rfl, _⟩ := h; rfl) | (obtain ⟨_, _, _, _, _, _, _, _, rfl, _⟩ := h; rfl) | (obtain ⟨_, _, _, _, _, _, _, _, _, rfl, _⟩ := h; rfl) | (obtain ⟨_, _, _, _, _, _, _, _, _, _, rfl, _⟩ := h; rfl) | (obtain ⟨_, _, _, _, _, _, _, _, _, _, _, rfl, _⟩ := h; rfl) | (obtain ⟨_, _, _, _, _, _, _, _, _, _, _, _, rfl, _⟩ := h; rfl) | (obtain ⟨_, _, _, _, _, _, _, _, _, _, _, _, _, rfl, _⟩ := h; rfl) | (obtain ⟨_, _, _, _, _, _, _, _, _, _, _, _, _, _, rfl, _⟩ := h; rfl) | (obtain ⟨_, _, _, _, _, _, _, _, _, _, _, _, _, _, _, rfl, _⟩ := h; rfl) | (obtain ⟨_, _, _, _, _, _, _, _, _, _, _, _, _, _, _, _, rfl, _⟩ := h; rfl) | (obtain ⟨_, _, _, _, _, _, _, _, _, _, _, _, _, _, _, _, _, rfl, _⟩ := h; rfl) | (obtain ⟨_, _, _, _, _, _, _, _, _, _, _, _, _, _, _, _, _, _, rfl, _⟩ := h; rfl) | (obtain ⟨_, _, _, _, _, _, _, _, _, _, _, _, _, _, _, _, _, _, _, rfl, _⟩ := h; rfl) | (obtain ⟨_, _, _, _, _, _, _, _, _, _, _, _, _, _, _, _, _, _, _, _, rfl, _⟩ := h; rfl) | (obtain ⟨_, _, _, _, _, _, _, _, _, _, _, _, _, _, _, _, _, _, _, _, _, rfl, _⟩ := h; rfl) | (obtain ⟨_, _, _, _, _, _, _, _, _, _, _, _, _, _, _, _, _, _, _, _, _, _, rfl, _⟩ := h; rfl) | (obtain ⟨_, _, _, _, _, _, _, _, _, _, _, _, _, _, _, _, _, _, _, _, _, _, _, rfl, _⟩ := h; rfl) | (obtain ⟨_, _, _, _, _, _, _, _, _, _, _, _, _, _, _, _, _, _, _, _, _, _, _, _, rfl, _⟩ := h; rfl) | (obtain ⟨_, _, _, _, _, _, _, _, _, _, _, _, _, _, _, _, _, _, _, _, _, _, _, _, _, rfl, _⟩ := h; rfl) | (obtain ⟨_, _, _, _, _, _, _, _, _, _, _, _, _, _, _, _, _, _, _, _, _, _, _, _, _, _, rfl, _⟩ := h; rfl) | (obtain ⟨_, _, _, _, _, _, _, _, _, _, _, _, _, _, _, _, _, _, _, _, _, _, _, _, _, _, _, rfl, _⟩ := h; rfl) | (obtain ⟨_, _, _, _, _, _, _, _, _, _, _, _, _, _, _, _, _, _, _, _, _, _, _, _, _, _, _, _, rfl, _⟩ := h; rfl) | (obtain ⟨_, _, _, _, _, _, _, _, _, _, _, _, _, _, _, _, _, _, _, _, _, _, _, _, _, _, _, _, _, rfl, _⟩ := h; rfl) | (obtain ⟨_, _, _, _, _, _, _, _, _, _, _, _, _, _, _, _, _, _, _, _, _, _, _, _, _, _, _, _, _, _, rfl, _⟩ := h; rfl)
  · exact (pss_cons (ps_if (PW.pt (pw_or (pt_not (pt_truth (pv 0) (by intro _; rfl))) (pw_or1 (pt_not (pt_truth (pv 1) (by intro _; rfl)))))) (pss_one (ps_ret (pe_lst pa_nil))) pss_nil)
      (pss_cons (ps_set (i := 2) sc_P_times.nd rfl (Or.inl rfl) (pe_op op_rep (pe_lst (pa_cons pe_int pa_nil)) (pe_op op_sub (pe_op op_add (pe_callB call_len_seq (by rfl) m_len PySem.boot_len (pa_cons (pv 0) pa_nil)) (pe_callB call_len_seq (by rfl) m_len PySem.boot_len (pa_cons (pv 1) pa_nil))) pe_int)))
      (pss_cons (ps_for PassesOwn.never rfl (pi_enum (by rfl) m_enumerate (pa_cons (pv 0) pa_nil)) (pg_tup rfl (pgs_cons (pg_name (i := 3) sc_P_times.nd rfl (Or.inl rfl)) (pgs_cons (pg_name (i := 4) sc_P_times.nd rfl (Or.inl rfl)) pgs_nil))) (pss_one (ps_for PassesOwn.never rfl (pi_enum (by rfl) m_enumerate (pa_cons (pv 1) pa_nil)) (pg_tup rfl (pgs_cons (pg_name (i := 5) sc_P_times.nd rfl (Or.inl rfl)) (pgs_cons (pg_name (i := 6) sc_P_times.nd rfl (Or.inl rfl)) pgs_nil))) (pss_one (ps_augS (pv 2) (pe_op op_add (pv 3) (pv 5)) get_list (pe_op op_mulX (pv 4) (pv 6)) ip_add set_list)))))
      (pss_one (ps_ret (pv 2))))))
theorem ok_P_scaled {f : Addr} {fd : FuncData} (F : Fun K "scaled" "scaled" s_P_scaled f fd)   (c_P_without_end_noughts : Cl P w K mg base 1 "_without_end_noughts" (sp_P_without_end_noughts K))  : FnOk P w K mg base CX0 2 f fd ["row", "many"] (sp_P_scaled K) := by
  refine F.ok sc_P_scaled (fun vs H Q E h => ?_) (fun cdv A outer s H vs Q E hr h => ⟨t_P_scaled K, ?_, run_P_scaled  h⟩)
  · first | (obtain ⟨_, rfl, _⟩ := h; rfl) | (obtain ⟨_, _, rfl, _⟩ := h; rfl) | (obtain ⟨_, _, _, rfl, _⟩ := h; rfl) | (obtain ⟨_, _, _, _, rfl, _⟩ := h; rfl) | (obtain ⟨_, _, _, _, _, rfl, _⟩ := h; rfl) | (obtain ⟨_, _, _, _, _, _, rfl, _⟩ := h; rfl) | (obtain ⟨_, _, _, _, _, _, _, rfl, _⟩ := h; rfl) | (obtain ⟨_, _, _, _, _, _, _, _, rfl, _⟩ := h; rfl) | (obtain ⟨_, _, _, _, _, _, _, _, _, rfl, _⟩ := h; rfl) | (obtain ⟨_, _, _, _, _, _, _, _, _, _, rfl, _⟩ := h; rfl) | (obtain ⟨_, _, _, _, _, _, _, _, _, _, _, rfl, _⟩ := h; rfl) | (obtain ⟨_, _, _, _, _, _, _, _, _, _, _, _, rfl, _⟩ := h; rfl) | (obtain ⟨_, _, _, _, _, _, _, _, _, _, _, _, _, rfl, _⟩ := h; rfl) | (obtain ⟨_, _, _, _, _, _, _, _, _, _, _, _, _, _, rfl, _⟩ := h; rfl) | (obtain ⟨_, _, _, _, _, _, _, _, _, _, _, _, _, _, _, rfl, _⟩ := h; rfl) | (obtain ⟨_, _, _, _, _, _, _, _, _, _, _, _, _, _, _, _, rfl, _⟩ := h; rfl) | (obtain ⟨_, _, _, _, _, _, _, _, _, _, _, _, _, _, _, _, _, rfl, _⟩ := h; rfl) | (obtain ⟨_, _, _, _, _, _, _, _, _, _, _, _, _, _, _, _, _, _, rfl, _⟩ := h; rfl) | (obtain ⟨_, _, _, _, _, _, _, _, _, _, _, _, _, _, _, _, _, _, _, rfl, _⟩ := h; rfl) | (obtain ⟨_, _, _, _, _, _, _, _, _, _, _, _, _, _, _, _, _, _, _, _, rfl, _⟩ := h; rfl) | (obtain ⟨_, _, _, _, _, _, _, _, _, _, _, _, _, _, _, _, _, _, _, _, _, rfl, _⟩ := h; rfl) | (obtain ⟨_, _, _, _, _, _, _, _, _, _, _, _, _, _, _, _, _, _, _, _, _, _, rfl, _⟩ := h; rfl) | (obtain ⟨_, _, _, _, _, _, _, _, _, _, _, _, _, _, _, _, _, _, _, _, _, _, _, rfl, _⟩ := h; rfl) | (obtain ⟨_, _, _, _, _, _, _, _, _, _, _, _, _, _, _, _, _, _, _, _, _, _, _, _, rfl, _⟩ := h; rfl) | (obtain ⟨_, _, _, _, _, _, _, _, _, _, _, _, _, _, _, _, _, _, _, _, _, _, _, _, _, rfl, _⟩ := h; rfl) | (obtain ⟨_, _, _, _, _, _, _, _, _, _, _, _, _, _, _, _, _, _, _, _, _, _, _, _, _, _, rfl, _⟩ := h; rfl) | (obtain ⟨_, _, _, _, _, _, _, _, _, _, _, _, _, _, _, _, _, _, _, _, _, _, _, _, _, _, _, rfl, _⟩ := h; rfl) | (obtain ⟨_, _, _, _, _, _, _, _, _, _, _, _, _, _, _, _, _, _, _, _, _, _, _, _, _, _, _, _, rfl, _⟩ := h; rfl) | (obtain ⟨_, _, _, _, _, _, _, _, _, _, _, _, _, _, _, _, _, _, _, _, _, _, _, _, _, _, _, _, _, rfl, _⟩ := h; rfl) | (obtain ⟨_, _, _, _, _, _, _, _, _, _, _, _, _, _, _, _, _, _, _, _, _, _, _, _, _, _, _, _, _, _, rfl, _⟩ := h; rfl)
  · exact (pss_one (ps_ret (pcl c_P_without_end_noughts hr (by decide) (by rfl) (pa_cons (pe_lc (own := [("number", 2)]) (g := (gName 2)) (by rfl) sc_P_scaled.nd (pi_list (pv 0)) (blkOk_by (own := [("number", 2)]) (N := ["row", "many", "number"]) (sc := defScope s_P_scaled) (by decide +kernel)) (fun _ _ _ _ _ => (pg_name (i := 2) sc_P_scaled.nd rfl (Or.inl rfl))) (fun _ _ _ _ _ => pts_nil) (fun _ _ _ _ _ => (pe_op op_mulX (pv 1) (pv 2)))) pa_nil))))
theorem ok_P_raised {cs : Cs} {f : Addr} {fd : FuncData} (F : Fun K "raised" "raised" s_P_raised f fd) (r_NoPower : RsX K mg "NoPower" cs.NoPower)  (c_P_times : Cl P w K mg base 1 "times" (sp_P_times K))  : FnOk P w K mg base (L2.CX P w) 2 f fd ["row", "many"] (sp_P_raised K cs) := by
  refine F.okX sc_P_raised (fun vs H Q E h => ?_) (fun cdv A outer s H vs Q E hr h => ⟨t_P_raised K cs E, ?_, run_P_raised  h⟩)
  · first | (obtain ⟨_, rfl, _⟩ := h; rfl) | (obtain ⟨_, _, rfl, _⟩ := h; rfl) | (obtain ⟨_, _, _, rfl, _⟩ := h; rfl) | (obtain ⟨_, _, _, _, rfl, _⟩ := h; rfl) | (obtain ⟨_, _, _, _, _, rfl, _⟩ := h; rfl) | (obtain ⟨_, _, _, _, _, _, rfl, _⟩ := h; rfl) | (obtain ⟨_, _, _, _, _, _, _, rfl, _⟩ := h; rfl) | (obtain ⟨_, _, _, _, _, _, _, _, rfl, _⟩ := h; rfl) | (obtain ⟨_, _, _, _, _, _, _, _, _, rfl, _⟩ := h; rfl) | (obtain ⟨_, _, _, _, _, _, _, _, _, _, rfl, _⟩ := h; rfl) | (obtain ⟨_, _, _, _, _, _, _, _, _, _, _, rfl, _⟩ := h; rfl) | (obtain ⟨_, _, _, _, _, _, _, _, _, _, _, _, rfl, _⟩ := h; rfl) | (obtain ⟨_, _, _, _, _, _, _, _, _, _, _, _, _, rfl, _⟩ := h; rfl) | (obtain ⟨_, _, _, _, _, _, _, _, _, _, _, _, _, _, rfl, _⟩ := h; rfl) | (obtain ⟨_, _, _, _, _, _, _, _, _, _, _, _, _, _, _, rfl, _⟩ := h; rfl) | (obtain ⟨_, _, _, _, _, _, _, _, _, _, _, _, _, _, _, _, rfl, _⟩ := h; rfl) | (obtain ⟨_, _, _, _, _, _, _, _, _, _, _, _, _, _, _, _, _, rfl, _⟩ := h; rfl) | (obtain ⟨_, _, _, _, _, _, _, _, _, _, _, _, _, _, _, _, _, _, rfl, _⟩ := h; rfl) | (obtain ⟨_, _, _, _, _, _, _, _, _, _, _, _, _, _, _, _, _, _, _, rfl, _⟩ := h; rfl) | (obtain ⟨_, _, _, _, _, _, _, _, _, _, _, _, _, _, _, _, _, _, _, _, rfl, _⟩ := h; rfl) | (obtain ⟨_, _, _, _, _, _, _, _, _, _, _, _, _, _, _, _, _, _, _, _, _, rfl, _⟩ := h; rfl) | (obtain ⟨_, _, _, _, _, _, _, _, _, _, _, _, _, _, _, _, _, _, _, _, _, _, rfl, _⟩ := h; rfl) | (obtain ⟨_, _, _, _, _, _, _, _, _, _, _, _, _, _, _, _, _, _, _, _, _, _, _, rfl, _⟩ := h; rfl) | (obtain ⟨_, _, _, _, _, _, _, _, _, _, _, _, _, _, _, _, _, _, _, _, _, _, _, _, rfl, _⟩ := h; rfl) | (obtain ⟨_, _, _, _, _, _, _, _, _, _, _, _, _, _, _, _, _, _, _, _, _, _, _, _, _, rfl, _⟩ := h; rfl) | (obtain ⟨_, _, _, _, _, _, _, _, _, _, _, _, _, _, _, _, _, _, _, _, _, _, _, _, _, _, rfl, _⟩ := h; rfl) | (obtain ⟨_, _, _, _, _, _, _, _, _, _, _, _, _, _, _, _, _, _, _, _, _, _, _, _, _, _, _, rfl, _⟩ := h; rfl) | (obtain ⟨_, _, _, _, _, _, _, _, _, _, _, _, _, _, _, _, _, _, _, _, _, _, _, _, _, _, _, _, rfl, _⟩ := h; rfl) | (obtain ⟨_, _, _, _, _, _, _, _, _, _, _, _, _, _, _, _, _, _, _, _, _, _, _, _, _, _, _, _, _, rfl, _⟩ := h; rfl) | (obtain ⟨_, _, _, _, _, _, _, _, _, _, _, _, _, _, _, _, _, _, _, _, _, _, _, _, _, _, _, _, _, _, rfl, _⟩ := h; rfl)
  · exact (pss_cons (ps_if (pt_cmpR op_lt (pv 1) pe_int (nomark _)) (pss_one (ps_raiseC r_NoPower rfl (takes_of rfl rfl rfl rfl) (by rfl))) pss_nil)
      (pss_cons (ps_set (i := 2) sc_P_raised.nd rfl (Or.inl rfl) (pe_lst (pa_cons pe_int pa_nil)))
      (pss_cons (ps_set (i := 3) sc_P_raised.nd rfl (Or.inl rfl) (pv 0))
      (pss_cons (ps_set (i := 4) sc_P_raised.nd rfl (Or.inl rfl) (pv 1))
      (pss_cons (ps_while (passes_of rfl) (pt_cmpR op_gt (pv 4) pe_int (nomark _)) (pss_cons (ps_if (pt_truth (pe_op op_odd (pv 4) pe_int) (by intro _; rfl)) (pss_one (ps_set (i := 2) sc_P_raised.nd rfl (Or.inl rfl) (pcl c_P_times hr (by decide) (by rfl) (pa_cons (pv 2) (pa_cons (pv 3) pa_nil))))) pss_nil)
      (pss_cons (ps_set (i := 4) sc_P_raised.nd rfl (Or.inl rfl) (pe_op op_halfN (pv 4) pe_int))
      (pss_one (ps_if (pt_cmpR op_gt (pv 4) pe_int (nomark _)) (pss_one (ps_set (i := 3) sc_P_raised.nd rfl (Or.inl rfl) (pcl c_P_times hr (by decide) (by rfl) (pa_cons (pv 3) (pa_cons (pv 3) pa_nil))))) pss_nil)))))
      (pss_one (ps_ret (pv 2))))))))
theorem ok_P_slope {f : Addr} {fd : FuncData} (F : Fun K "slope" "slope" s_P_slope f fd)    (m_enumerate : mg "enumerate" = none) : FnOk P w K mg base CX0 1 f fd ["row"] (sp_P_slope K) := by
  refine F.ok sc_P_slope (fun vs H Q E h => ?_) (fun cdv A outer s H vs Q E hr h => ⟨t_P_slope K, ?_, run_P_slope  h⟩)
  · first | (obtain ⟨_, rfl, _⟩ := h; rfl) | (obtain ⟨_, _, rfl, _⟩ := h; rfl) | (obtain ⟨_, _, _, rfl, _⟩ := h; rfl) | (obtain ⟨_, _, _, _, rfl, _⟩ := h; rfl) | (obtain ⟨_, _, _, _, _, rfl, _⟩ := h; rfl) | (obtain ⟨_, _, _, _, _, _, rfl, _⟩ := h; rfl) | (obtain ⟨_, _, _, _, _, _, _, rfl, _⟩ := h; rfl) | (obtain ⟨_, _, _, _, _, _, _, _, rfl, _⟩ := h; rfl) | (obtain ⟨_, _, _, _, _, _, _, _, _, rfl, _⟩ := h; rfl) | (obtain ⟨_, _, _, _, _, _, _, _, _, _, rfl, _⟩ := h; rfl) | (obtain ⟨_, _, _, _, _, _, _, _, _, _, _, rfl, _⟩ := h; rfl) | (obtain ⟨_, _, _, _, _, _, _, _, _, _, _, _, rfl, _⟩ := h; rfl) | (obtain ⟨_, _, _, _, _, _, _, _, _, _, _, _, _, rfl, _⟩ := h; rfl) | (obtain ⟨_, _, _, _, _, _, _, _, _, _, _, _, _, _, rfl, _⟩ := h; rfl) | (obtain ⟨_, _, _, _, _, _, _, _, _, _, _, _, _, _, _, rfl, _⟩ := h; rfl) | (obtain ⟨_, _, _, _, _, _, _, _, _, _, _, _, _, _, _, _, rfl, _⟩ := h; rfl) | (obtain ⟨_, _, _, _, _, _, _, _, _, _, _, _, _, _, _, _, _, rfl, _⟩ := h; rfl) | (obtain ⟨_, _, _, _, _, _, _, _, _, _, _, _, _, _, _, _, _, _, rfl, _⟩ := h; rfl) | (obtain ⟨_, _, _, _, _, _, _, _, _, _, _, _, _, _, _, _, _, _, _, rfl, _⟩ := h; rfl) | (obtain ⟨_, _, _, _, _, _, _, _, _, _, _, _, _, _, _, _, _, _, _, _, rfl, _⟩ := h; rfl) | (obtain ⟨_, _, _, _, _, _, _, _, _, _, _, _, _, _, _, _, _, _, _, _, _, rfl, _⟩ := h; rfl) | (obtain ⟨_, _, _, _, _, _, _, _, _, _, _, _, _, _, _, _, _, _, _, _, _, _, rfl, _⟩ := h; rfl) | (obtain ⟨_, _, _, _, _, _, _, _, _, _, _, _, _, _, _, _, _, _, _, _, _, _, _, rfl, _⟩ := h; rfl) | (obtain ⟨_, _, _, _, _, _, _, _, _, _, _, _, _, _, _, _, _, _, _, _, _, _, _, _, rfl, _⟩ := h; rfl) | (obtain ⟨_, _, _, _, _, _, _, _, _, _, _, _, _, _, _, _, _, _, _, _, _, _, _, _, _, rfl, _⟩ := h; rfl) | (obtain ⟨_, _, _, _, _, _, _, _, _, _, _, _, _, _, _, _, _, _, _, _, _, _, _, _, _, _, rfl, _⟩ := h; rfl) | (obtain ⟨_, _, _, _, _, _, _, _, _, _, _, _, _, _, _, _, _, _, _, _, _, _, _, _, _, _, _, rfl, _⟩ := h; rfl) | (obtain ⟨_, _, _, _, _, _, _, _, _, _, _, _, _, _, _, _, _, _, _, _, _, _, _, _, _, _, _, _, rfl, _⟩ := h; rfl) | (obtain ⟨_, _, _, _, _, _, _, _, _, _, _, _, _, _, _, _, _, _, _, _, _, _, _, _, _, _, _, _, _, rfl, _⟩ := h; rfl) | (obtain ⟨_, _, _, _, _, _, _, _, _, _, _, _, _, _, _, _, _, _, _, _, _, _, _, _, _, _, _, _, _, _, rfl, _⟩ := h; rfl)
  · exact (pss_one (ps_ret (pe_slice sl_list (pe_lc (own := [("power", 1), ("number", 2)]) (g := (gTup _ 2 (gCons (gName 1) (gCons (gName 2) gNil)))) (by rfl) sc_P_slope.nd (pi_enum (by rfl) m_enumerate (pa_cons (pv 0) pa_nil)) (blkOk_by (own := [("power", 1), ("number", 2)]) (N := ["row", "power", "number"]) (sc := defScope s_P_slope) (by decide +kernel)) (fun _ _ _ _ _ => (pg_tup rfl (pgs_cons (pg_name (i := 1) sc_P_slope.nd rfl (Or.inl rfl)) (pgs_cons (pg_name (i := 2) sc_P_slope.nd rfl (Or.inl rfl)) pgs_nil)))) (fun _ _ _ _ _ => pts_nil) (fun _ _ _ _ _ => (pe_op op_mulX (pv 1) (pv 2)))) (po_some pe_int) po_none)))
theorem ok_P_divided {cs : Cs} {f : Addr} {fd : FuncData} (F : Fun K "divided" "divided" s_P_divided f fd) (T : Tx K cs.PolyError [cs.NoNumber, cs.NoPower, cs.ByNought, cs.NotWhole, cs.NoMeet, cs.NoParts, cs.NotWritten]) (sr : Sr P base) (r_ByNought : RsX K mg "ByNought" cs.ByNought)  (c_P_scaled : Cl P w K mg base 2 "scaled" (sp_P_scaled K)) (c_P_plus : Cl P w K mg base 2 "plus" (sp_P_plus K)) (c_P_minus : Cl P w K mg base 2 "minus" (sp_P_minus K)) (m_abs : mg "abs" = none) (g_gcd : mg "gcd" = some (.builtin "math.gcd")) (m_len : mg "len" = none) (m_list : mg "list" = none) : FnOk P w K mg base (L2.CX P w) 41 f fd ["row", "by"] (sp_P_divided K cs) := by
  refine F.okX sc_P_divided (fun vs H Q E h => ?_) (fun cdv A outer s H vs Q E hr h => ⟨t_P_divided K cs E, ?_, run_P_divided T (by simp) h⟩)
  · first | (obtain ⟨_, rfl, _⟩ := h; rfl) | (obtain ⟨_, _, rfl, _⟩ := h; rfl) | (obtain ⟨_, _, _, rfl, _⟩ := h; rfl) | (obtain ⟨_, _, _, _, rfl, _⟩ := h; rfl) | (obtain ⟨_, _, _, _, _, rfl, _⟩ := h; rfl) | (obtain ⟨_, _, _, _, _, _, rfl, _⟩ := h; rfl) | (obtain ⟨_, _, _, _, _, _, _, rfl, _⟩ := h; rfl) | (obtain ⟨_, _, _, _, _, _, _, _, rfl, _⟩ := h; rfl) | (obtain ⟨_, _, _, _, _, _, _, _, _, rfl, _⟩ := h; rfl) | (obtain ⟨_, _, _, _, _, _, _, _, _, _, rfl, _⟩ := h; rfl) | (obtain ⟨_, _, _, _, _, _, _, _, _, _, _, rfl, _⟩ := h; rfl) | (obtain ⟨_, _, _, _, _, _, _, _, _, _, _, _, rfl, _⟩ := h; rfl) | (obtain ⟨_, _, _, _, _, _, _, _, _, _, _, _, _, rfl, _⟩ := h; rfl) | (obtain ⟨_, _, _, _, _, _, _, _, _, _, _, _, _, _, rfl, _⟩ := h; rfl) | (obtain ⟨_, _, _, _, _, _, _, _, _, _, _, _, _, _, _, rfl, _⟩ := h; rfl) | (obtain ⟨_, _, _, _, _, _, _, _, _, _, _, _, _, _, _, _, rfl, _⟩ := h; rfl) | (obtain ⟨_, _, _, _, _, _, _, _, _, _, _, _, _, _, _, _, _, rfl, _⟩ := h; rfl) | (obtain ⟨_, _, _, _, _, _, _, _, _, _, _, _, _, _, _, _, _, _, rfl, _⟩ := h; rfl) | (obtain ⟨_, _, _, _, _, _, _, _, _, _, _, _, _, _, _, _, _, _, _, rfl, _⟩ := h; rfl) | (obtain ⟨_, _, _, _, _, _, _, _, _, _, _, _, _, _, _, _, _, _, _, _, rfl, _⟩ := h; rfl) | (obtain ⟨_, _, _, _, _, _, _, _, _, _, _, _, _, _, _, _, _, _, _, _, _, rfl, _⟩ := h; rfl) | (obtain ⟨_, _, _, _, _, _, _, _, _, _, _, _, _, _, _, _, _, _, _, _, _, _, rfl, _⟩ := h; rfl) | (obtain ⟨_, _, _, _, _, _, _, _, _, _, _, _, _, _, _, _, _, _, _, _, _, _, _, rfl, _⟩ := h; rfl) | (obtain ⟨_, _, _, _, _, _, _, _, _, _, _, _, _, _, _, _, _, _, _, _, _, _, _, _, rfl, _⟩ := h; rfl) | (obtain ⟨_, _, _, _, _, _, _, _, _, _, _, _, _, _, _, _, _, _, _, _, _, _, _, _, _, rfl, _⟩ := h; rfl) | (obtain ⟨_, _, _, _, _, _, _, _, _, _, _, _, _, _, _, _, _, _, _, _, _, _, _, _, _, _, rfl, _⟩ := h; rfl) | (obtain ⟨_, _, _, _, _, _, _, _, _, _, _, _, _, _, _, _, _, _, _, _, _, _, _, _, _, _, _, rfl, _⟩ := h; rfl) | (obtain ⟨_, _, _, _, _, _, _, _, _, _, _, _, _, _, _, _, _, _, _, _, _, _, _, _, _, _, _, _, rfl, _⟩ := h; rfl) | (obtain ⟨_, _, _, _, _, _, _, _, _, _, _, _, _, _, _, _, _, _, _, _, _, _, _, _, _, _, _, _, _, rfl, _⟩ := h; rfl) | (obtain ⟨_, _, _, _, _, _, _, _, _, _, _, _, _, _, _, _, _, _, _, _, _, _, _, _, _, _, _, _, _, _, rfl, _⟩ := h; rfl)
  · exact (pss_cons (ps_if (pt_not (pt_truth (pv 1) (by intro _; rfl))) (pss_one (ps_raiseC r_ByNought rfl (takes_of rfl rfl rfl rfl) (by rfl))) pss_nil)
      (pss_cons (ps_par3 (i := 2) (j := 3) (l := 4) rfl sc_P_divided.nd rfl rfl rfl (by decide) (by decide) (by decide) rfl rfl rfl (pa_cons pe_int (pa_cons (pe_lst pa_nil) (pa_cons (pe_callTy call_list_of (by rfl) m_list (by decide +kernel) (pa_cons (pv 0) pa_nil)) pa_nil))) (by rfl))
      (pss_cons (ps_while (passes_of rfl) (pt_cmpR op_ge (pe_callB call_len_seq (by rfl) m_len PySem.boot_len (pa_cons (pv 4) pa_nil)) (pe_callB call_len_seq (by rfl) m_len PySem.boot_len (pa_cons (pv 1) pa_nil)) (nomark _)) (pss_cons (ps_set (i := 5) sc_P_divided.nd rfl (Or.inl rfl) (pe_op (op_fdivL sr hr (by decide) ⟨_, _, rfl, rfl, rfl, rfl, rfl⟩) (pe_callB call_abs (by rfl) m_abs (by decide +kernel) (pa_cons (pe_ix ix_list (pv 1) (pe_un un_neg pe_int) (fun _ _ => rfl)) pa_nil)) (pe_callBfun cr_gcd (by rfl) g_gcd (pa_cons (pe_ix ix_list (pv 1) (pe_un un_neg pe_int) (fun _ _ => rfl)) (pa_cons (pe_ix ix_list (pv 4) (pe_un un_neg pe_int) (fun _ _ => rfl)) pa_nil)))))
      (pss_cons (ps_set (i := 6) sc_P_divided.nd rfl (Or.inl rfl) (pe_op (op_fdivL sr hr (by decide) ⟨_, _, rfl, rfl, rfl, rfl, rfl⟩) (pe_op op_mulX (pv 5) (pe_ix ix_list (pv 4) (pe_un un_neg pe_int) (fun _ _ => rfl))) (pe_ix ix_list (pv 1) (pe_un un_neg pe_int) (fun _ _ => rfl))))
      (pss_cons (ps_set (i := 7) sc_P_divided.nd rfl (Or.inl rfl) (pe_op op_rep (pe_lst (pa_cons pe_int pa_nil)) (pe_op op_sub (pe_callB call_len_seq (by rfl) m_len PySem.boot_len (pa_cons (pv 4) pa_nil)) (pe_callB call_len_seq (by rfl) m_len PySem.boot_len (pa_cons (pv 1) pa_nil)))))
      (pss_cons (ps_set (i := 2) sc_P_divided.nd rfl (Or.inl rfl) (pe_op op_mulX (pv 2) (pv 5)))
      (pss_cons (ps_set (i := 3) sc_P_divided.nd rfl (Or.inl rfl) (pcl c_P_plus hr (by decide) (by rfl) (pa_cons (pcl c_P_scaled hr (by decide) (by rfl) (pa_cons (pv 3) (pa_cons (pv 5) pa_nil))) (pa_cons (pe_op op_cat (pv 7) (pe_lst (pa_cons (pv 6) pa_nil))) pa_nil))))
      (pss_one (ps_set (i := 4) sc_P_divided.nd rfl (Or.inl rfl) (pcl c_P_minus hr (by decide) (by rfl) (pa_cons (pcl c_P_scaled hr (by decide) (by rfl) (pa_cons (pv 4) (pa_cons (pv 5) pa_nil))) (pa_cons (pe_op op_cat (pv 7) (pcl c_P_scaled hr (by decide) (by rfl) (pa_cons (pv 1) (pa_cons (pv 6) pa_nil)))) pa_nil)))))))))))
      (pss_one (ps_ret (pe_tup (pa_cons (pv 2) (pa_cons (pv 3) (pa_cons (pv 4) pa_nil)))))))))
theorem ok_P_quotient {cs : Cs} {f : Addr} {fd : FuncData} (F : Fun K "quotient" "quotient" s_P_quotient f fd) (T : Tx K cs.PolyError [cs.NoNumber, cs.NoPower, cs.ByNought, cs.NotWhole, cs.NoMeet, cs.NoParts, cs.NotWritten]) (r_NotWhole : RsX K mg "NotWhole" cs.NotWhole)  (c_P_divided : ClX P w K mg base 41 "divided" (sp_P_divided K cs))  : FnOk P w K mg base (L2.CX P w) 42 f fd ["row", "by"] (sp_P_quotient K cs) := by
  refine F.okX sc_P_quotient (fun vs H Q E h => ?_) (fun cdv A outer s H vs Q E hr h => ⟨t_P_quotient K cs E, ?_, run_P_quotient T (by simp) (by simp) h⟩)
  · first | (obtain ⟨_, rfl, _⟩ := h; rfl) | (obtain ⟨_, _, rfl, _⟩ := h; rfl) | (obtain ⟨_, _, _, rfl, _⟩ := h; rfl) | (obtain ⟨_, _, _, _, rfl, _⟩ := h; rfl) | (obtain ⟨_, _, _, _, _, rfl, _⟩ := h; rfl) | (obtain ⟨_, _, _, _, _, _, rfl, _⟩ := h; rfl) | (obtain ⟨_, _, _, _, _, _, _, rfl, _⟩ := h; rfl) | (obtain ⟨_, _, _, _, _, _, _, _, rfl, _⟩ := h; rfl) | (obtain ⟨_, _, _, _, _, _, _, _, _, rfl, _⟩ := h; rfl) | (obtain ⟨_, _, _, _, _, _, _, _, _, _, rfl, _⟩ := h; rfl) | (obtain ⟨_, _, _, _, _, _, _, _, _, _, _, rfl, _⟩ := h; rfl) | (obtain ⟨_, _, _, _, _, _, _, _, _, _, _, _, rfl, _⟩ := h; rfl) | (obtain ⟨_, _, _, _, _, _, _, _, _, _, _, _, _, rfl, _⟩ := h; rfl) | (obtain ⟨_, _, _, _, _, _, _, _, _, _, _, _, _, _, rfl, _⟩ := h; rfl) | (obtain ⟨_, _, _, _, _, _, _, _, _, _, _, _, _, _, _, rfl, _⟩ := h; rfl) | (obtain ⟨_, _, _, _, _, _, _, _, _, _, _, _, _, _, _, _, rfl, _⟩ := h; rfl) | (obtain ⟨_, _, _, _, _, _, _, _, _, _, _, _, _, _, _, _, _, rfl, _⟩ := h; rfl) | (obtain ⟨_, _, _, _, _, _, _, _, _, _, _, _, _, _, _, _, _, _, rfl, _⟩ := h; rfl) | (obtain ⟨_, _, _, _, _, _, _, _, _, _, _, _, _, _, _, _, _, _, _, rfl, _⟩ := h; rfl) | (obtain ⟨_, _, _, _, _, _, _, _, _, _, _, _, _, _, _, _, _, _, _, _, rfl, _⟩ := h; rfl) | (obtain ⟨_, _, _, _, _, _, _, _, _, _, _, _, _, _, _, _, _, _, _, _, _, rfl, _⟩ := h; rfl) | (obtain ⟨_, _, _, _, _, _, _, _, _, _, _, _, _, _, _, _, _, _, _, _, _, _, rfl, _⟩ := h; rfl) | (obtain ⟨_, _, _, _, _, _, _, _, _, _, _, _, _, _, _, _, _, _, _, _, _, _, _, rfl, _⟩ := h; rfl) | (obtain ⟨_, _, _, _, _, _, _, _, _, _, _, _, _, _, _, _, _, _, _, _, _, _, _, _, rfl, _⟩ := h; rfl) | (obtain ⟨_, _, _, _, _, _, _, _, _, _, _, _, _, _, _, _, _, _, _, _, _, _, _, _, _, rfl, _⟩ := h; rfl) | (obtain ⟨_, _, _, _, _, _, _, _, _, _, _, _, _, _, _, _, _, _, _, _, _, _, _, _, _, _, rfl, _⟩ := h; rfl) | (obtain ⟨_, _, _, _, _, _, _, _, _, _, _, _, _, _, _, _, _, _, _, _, _, _, _, _, _, _, _, rfl, _⟩ := h; rfl) | (obtain ⟨_, _, _, _, _, _, _, _, _, _, _, _, _, _, _, _, _, _, _, _, _, _, _, _, _, _, _, _, rfl, _⟩ := h; rfl) | (obtain ⟨_, _, _, _, _, _, _, _, _, _, _, _, _, _, _, _, _, _, _, _, _, _, _, _, _, _, _, _, _, rfl, _⟩ := h; rfl) | (obtain ⟨_, _, _, _, _, _, _, _, _, _, _, _, _, _, _, _, _, _, _, _, _, _, _, _, _, _, _, _, _, _, rfl, _⟩ := h; rfl)
  · exact (pss_cons (ps_asg (pclS c_P_divided (takes_of rfl rfl rfl rfl) hr (by decide) (by rfl) (pa_cons (pv 0) (pa_cons (pv 1) pa_nil))) (pg_tup rfl (pgs_cons (pg_name (i := 2) sc_P_quotient.nd rfl (Or.inl rfl)) (pgs_cons (pg_name (i := 3) sc_P_quotient.nd rfl (Or.inl rfl)) (pgs_cons (pg_name (i := 4) sc_P_quotient.nd rfl (Or.inl rfl)) pgs_nil)))))
      (pss_cons (ps_if (PW.pt (pw_or (pt_cmpR op_ne (pv 2) pe_int (nomark _)) (pw_or1 (pt_truth (pv 4) (by intro _; rfl))))) (pss_one (ps_raiseC r_NotWhole rfl (takes_of rfl rfl rfl rfl) (by rfl))) pss_nil)
      (pss_one (ps_ret (pv 3)))))
theorem ok_P_content {f : Addr} {fd : FuncData} (F : Fun K "content" "content" s_P_content f fd)    (g_gcd : mg "gcd" = some (.builtin "math.gcd")) : FnOk P w K mg base CX0 1 f fd ["row"] (sp_P_content K) := by
  refine F.ok sc_P_content (fun vs H Q E h => ?_) (fun cdv A outer s H vs Q E hr h => ⟨t_P_content K, ?_, run_P_content  h⟩)
  · first | (obtain ⟨_, rfl, _⟩ := h; rfl) | (obtain ⟨_, _, rfl, _⟩ := h; rfl) | (obtain ⟨_, _, _, rfl, _⟩ := h; rfl) | (obtain ⟨_, _, _, _, rfl, _⟩ := h; rfl) | (obtain ⟨_, _, _, _, _, rfl, _⟩ := h; rfl) | (obtain ⟨_, _, _, _, _, _, rfl, _⟩ := h; rfl) | (obtain ⟨_, _, _, _, _, _, _, rfl, _⟩ := h; rfl) | (obtain ⟨_, _, _, _, _, _, _, _, rfl, _⟩ := h; rfl) | (obtain ⟨_, _, _, _, _, _, _, _, _, rfl, _⟩ := h; rfl) | (obtain ⟨_, _, _, _, _, _, _, _, _, _, rfl, _⟩ := h; rfl) | (obtain ⟨_, _, _, _, _, _, _, _, _, _, _, rfl, _⟩ := h; rfl) | (obtain ⟨_, _, _, _, _, _, _, _, _, _, _, _, rfl, _⟩ := h; rfl) | (obtain ⟨_, _, _, _, _, _, _, _, _, _, _, _, _, rfl, _⟩ := h; rfl) | (obtain ⟨_, _, _, _, _, _, _, _, _, _, _, _, _, _, rfl, _⟩ := h; rfl) | (obtain ⟨_, _, _, _, _, _, _, _, _, _, _, _, _, _, _, rfl, _⟩ := h; rfl) | (obtain ⟨_, _, _, _, _, _, _, _, _, _, _, _, _, _, _, _, rfl, _⟩ := h; rfl) | (obtain ⟨_, _, _, _, _, _, _, _, _, _, _, _, _, _, _, _, _, rfl, _⟩ := h; rfl) | (obtain ⟨_, _, _, _, _, _, _, _, _, _, _, _, _, _, _, _, _, _, rfl, _⟩ := h; rfl) | (obtain ⟨_, _, _, _, _, _, _, _, _, _, _, _, _, _, _, _, _, _, _, rfl, _⟩ := h; rfl) | (obtain ⟨_, _, _, _, _, _, _, _, _, _, _, _, _, _, _, _, _, _, _, _, rfl, _⟩ := h; rfl) | (obtain ⟨_, _, _, _, _, _, _, _, _, _, _, _, _, _, _, _, _, _, _, _, _, rfl, _⟩ := h; rfl) | (obtain ⟨_, _, _, _, _, _, _, _, _, _, _, _, _, _, _, _, _, _, _, _, _, _, rfl, _⟩ := h; rfl) | (obtain ⟨_, _, _, _, _, _, _, _, _, _, _, _, _, _, _, _, _, _, _, _, _, _, _, rfl, _⟩ := h; rfl) | (obtain ⟨_, _, _, _, _, _, _, _, _, _, _, _, _, _, _, _, _, _, _, _, _, _, _, _, rfl, _⟩ := h; rfl) | (obtain ⟨_, _, _, _, _, _, _, _, _, _, _, _, _, _, _, _, _, _, _, _, _, _, _, _, _, rfl, _⟩ := h; rfl) | (obtain ⟨_, _, _, _, _, _, _, _, _, _, _, _, _, _, _, _, _, _, _, _, _, _, _, _, _, _, rfl, _⟩ := h; rfl) | (obtain ⟨_, _, _, _, _, _, _, _, _, _, _, _, _, _, _, _, _, _, _, _, _, _, _, _, _, _, _, rfl, _⟩ := h; rfl) | (obtain ⟨_, _, _, _, _, _, _, _, _, _, _, _, _, _, _, _, _, _, _, _, _, _, _, _, _, _, _, _, rfl, _⟩ := h; rfl) | (obtain ⟨_, _, _, _, _, _, _, _, _, _, _, _, _, _, _, _, _, _, _, _, _, _, _, _, _, _, _, _, _, rfl, _⟩ := h; rfl) | (obtain ⟨_, _, _, _, _, _, _, _, _, _, _, _, _, _, _, _, _, _, _, _, _, _, _, _, _, _, _, _, _, _, rfl, _⟩ := h; rfl)
  · exact (pss_cons (ps_set (i := 1) sc_P_content.nd rfl (Or.inl rfl) pe_int)
      (pss_cons (ps_for PassesOwn.never rfl (pi_list (pv 0)) (pg_name (i := 2) sc_P_content.nd rfl (Or.inl rfl)) (pss_one (ps_set (i := 1) sc_P_content.nd rfl (Or.inl rfl) (pe_callBfun cr_gcd (by rfl) g_gcd (pa_cons (pv 1) (pa_cons (pv 2) pa_nil))))))
      (pss_one (ps_ret (pv 1)))))
theorem ok_P_signed_content {f : Addr} {fd : FuncData} (F : Fun K "signed_content" "signed_content" s_P_signed_content f fd)   (c_P_content : Cl P w K mg base 1 "content" (sp_P_content K))  : FnOk P w K mg base CX0 2 f fd ["row"] (sp_P_signed_content K) := by
  refine F.ok sc_P_signed_content (fun vs H Q E h => ?_) (fun cdv A outer s H vs Q E hr h => ⟨t_P_signed_content K, ?_, run_P_signed_content  h⟩)
  · first | (obtain ⟨_, rfl, _⟩ := h; rfl) | (obtain ⟨_, _, rfl, _⟩ := h; rfl) | (obtain ⟨_, _, _, rfl, _⟩ := h; rfl) | (obtain ⟨_, _, _, _, rfl, _⟩ := h; rfl) | (obtain ⟨_, _, _, _, _, rfl, _⟩ := h; rfl) | (obtain ⟨_, _, _, _, _, _, rfl, _⟩ := h; rfl) | (obtain ⟨_, _, _, _, _, _, _, rfl, _⟩ := h; rfl) | (obtain ⟨_, _, _, _, _, _, _, _, rfl, _⟩ := h; rfl) | (obtain ⟨_, _, _, _, _, _, _, _, _, rfl, _⟩ := h; rfl) | (obtain ⟨_, _, _, _, _, _, _, _, _, _, rfl, _⟩ := h; rfl) | (obtain ⟨_, _, _, _, _, _, _, _, _, _, _, rfl, _⟩ := h; rfl) | (obtain ⟨_, _, _, _, _, _, _, _, _, _, _, _, rfl, _⟩ := h; rfl) | (obtain ⟨_, _, _, _, _, _, _, _, _, _, _, _, _, rfl, _⟩ := h; rfl) | (obtain ⟨_, _, _, _, _, _, _, _, _, _, _, _, _, _, rfl, _⟩ := h; rfl) | (obtain ⟨_, _, _, _, _, _, _, _, _, _, _, _, _, _, _, rfl, _⟩ := h; rfl) | (obtain ⟨_, _, _, _, _, _, _, _, _, _, _, _, _, _, _, _, rfl, _⟩ := h; rfl) | (obtain ⟨_, _, _, _, _, _, _, _, _, _, _, _, _, _, _, _, _, rfl, _⟩ := h; rfl) | (obtain ⟨_, _, _, _, _, _, _, _, _, _, _, _, _, _, _, _, _, _, rfl, _⟩ := h; rfl) | (obtain ⟨_, _, _, _, _, _, _, _, _, _, _, _, _, _, _, _, _, _, _, rfl, _⟩ := h; rfl) | (obtain ⟨_, _, _, _, _, _, _, _, _, _, _, _, _, _, _, _, _, _, _, _, rfl, _⟩ := h; rfl) | (obtain ⟨_, _, _, _, _, _, _, _, _, _, _, _, _, _, _, _, _, _, _, _, _, rfl, _⟩ := h; rfl) | (obtain ⟨_, _, _, _, _, _, _, _, _, _, _, _, _, _, _, _, _, _, _, _, _, _, rfl, _⟩ := h; rfl) | (obtain ⟨_, _, _, _, _, _, _, _, _, _, _, _, _, _, _, _, _, _, _, _, _, _, _, rfl, _⟩ := h; rfl) | (obtain ⟨_, _, _, _, _, _, _, _, _, _, _, _, _, _, _, _, _, _, _, _, _, _, _, _, rfl, _⟩ := h; rfl) | (obtain ⟨_, _, _, _, _, _, _, _, _, _, _, _, _, _, _, _, _, _, _, _, _, _, _, _, _, rfl, _⟩ := h; rfl) | (obtain ⟨_, _, _, _, _, _, _, _, _, _, _, _, _, _, _, _, _, _, _, _, _, _, _, _, _, _, rfl, _⟩ := h; rfl) | (obtain ⟨_, _, _, _, _, _, _, _, _, _, _, _, _, _, _, _, _, _, _, _, _, _, _, _, _, _, _, rfl, _⟩ := h; rfl) | (obtain ⟨_, _, _, _, _, _, _, _, _, _, _, _, _, _, _, _, _, _, _, _, _, _, _, _, _, _, _, _, rfl, _⟩ := h; rfl) | (obtain ⟨_, _, _, _, _, _, _, _, _, _, _, _, _, _, _, _, _, _, _, _, _, _, _, _, _, _, _, _, _, rfl, _⟩ := h; rfl) | (obtain ⟨_, _, _, _, _, _, _, _, _, _, _, _, _, _, _, _, _, _, _, _, _, _, _, _, _, _, _, _, _, _, rfl, _⟩ := h; rfl)
  · exact (pss_cons (ps_if (PW.pt (pw_and (pt_truth (pv 0) (by intro _; rfl)) (pw_and1 (pt_cmpR op_lt (pe_ix ix_list (pv 0) (pe_un un_neg pe_int) (fun _ _ => rfl)) pe_int (nomark _))))) (pss_one (ps_ret (pe_un un_neg (pcl c_P_content hr (by decide) (by rfl) (pa_cons (pv 0) pa_nil))))) pss_nil)
      (pss_one (ps_ret (pcl c_P_content hr (by decide) (by rfl) (pa_cons (pv 0) pa_nil)))))
theorem ok_P_lessened {f : Addr} {fd : FuncData} (F : Fun K "lessened" "lessened" s_P_lessened f fd) (sr : Sr P base)     : FnOk P w K mg base CX0 41 f fd ["row", "by"] (sp_P_lessened K) := by
  refine F.ok sc_P_lessened (fun vs H Q E h => ?_) (fun cdv A outer s H vs Q E hr h => ⟨t_P_lessened K, ?_, run_P_lessened  h⟩)
  · first | (obtain ⟨_, rfl, _⟩ := h; rfl) | (obtain ⟨_, _, rfl, _⟩ := h; rfl) | (obtain ⟨_, _, _, rfl, _⟩ := h; rfl) | (obtain ⟨_, _, _, _, rfl, _⟩ := h; rfl) | (obtain ⟨_, _, _, _, _, rfl, _⟩ := h; rfl) | (obtain ⟨_, _, _, _, _, _, rfl, _⟩ := h; rfl) | (obtain ⟨_, _, _, _, _, _, _, rfl, _⟩ := h; rfl) | (obtain ⟨_, _, _, _, _, _, _, _, rfl, _⟩ := h; rfl) | (obtain ⟨_, _, _, _, _, _, _, _, _, rfl, _⟩ := h; rfl) | (obtain ⟨_, _, _, _, _, _, _, _, _, _, rfl, _⟩ := h; rfl) | (obtain ⟨_, _, _, _, _, _, _, _, _, _, _, rfl, _⟩ := h; rfl) | (obtain ⟨_, _, _, _, _, _, _, _, _, _, _, _, rfl, _⟩ := h; rfl) | (obtain ⟨_, _, _, _, _, _, _, _, _, _, _, _, _, rfl, _⟩ := h; rfl) | (obtain ⟨_, _, _, _, _, _, _, _, _, _, _, _, _, _, rfl, _⟩ := h; rfl) | (obtain ⟨_, _, _, _, _, _, _, _, _, _, _, _, _, _, _, rfl, _⟩ := h; rfl) | (obtain ⟨_, _, _, _, _, _, _, _, _, _, _, _, _, _, _, _, rfl, _⟩ := h; rfl) | (obtain ⟨_, _, _, _, _, _, _, _, _, _, _, _, _, _, _, _, _, rfl, _⟩ := h; rfl) | (obtain ⟨_, _, _, _, _, _, _, _, _, _, _, _, _, _, _, _, _, _, rfl, _⟩ := h; rfl) | (obtain ⟨_, _, _, _, _, _, _, _, _, _, _, _, _, _, _, _, _, _, _, rfl, _⟩ := h; rfl) | (obtain ⟨_, _, _, _, _, _, _, _, _, _, _, _, _, _, _, _, _, _, _, _, rfl, _⟩ := h; rfl) | (obtain ⟨_, _, _, _, _, _, _, _, _, _, _, _, _, _, _, _, _, _, _, _, _, rfl, _⟩ := h; rfl) | (obtain ⟨_, _, _, _, _, _, _, _, _, _, _, _, _, _, _, _, _, _, _, _, _, _, rfl, _⟩ := h; rfl) | (obtain ⟨_, _, _, _, _, _, _, _, _, _, _, _, _, _, _, _, _, _, _, _, _, _, _, rfl, _⟩ := h; rfl) | (obtain ⟨_, _, _, _, _, _, _, _, _, _, _, _, _, _, _, _, _, _, _, _, _, _, _, _, rfl, _⟩ := h; rfl) | (obtain ⟨_, _, _, _, _, _, _, _, _, _, _, _, _, _, _, _, _, _, _, _, _, _, _, _, _, rfl, _⟩ := h; rfl) | (obtain ⟨_, _, _, _, _, _, _, _, _, _, _, _, _, _, _, _, _, _, _, _, _, _, _, _, _, _, rfl, _⟩ := h; rfl) | (obtain ⟨_, _, _, _, _, _, _, _, _, _, _, _, _, _, _, _, _, _, _, _, _, _, _, _, _, _, _, rfl, _⟩ := h; rfl) | (obtain ⟨_, _, _, _, _, _, _, _, _, _, _, _, _, _, _, _, _, _, _, _, _, _, _, _, _, _, _, _, rfl, _⟩ := h; rfl) | (obtain ⟨_, _, _, _, _, _, _, _, _, _, _, _, _, _, _, _, _, _, _, _, _, _, _, _, _, _, _, _, _, rfl, _⟩ := h; rfl) | (obtain ⟨_, _, _, _, _, _, _, _, _, _, _, _, _, _, _, _, _, _, _, _, _, _, _, _, _, _, _, _, _, _, rfl, _⟩ := h; rfl)
  · exact (pss_one (ps_ret (pe_lc (own := [("number", 2)]) (g := (gName 2)) (by rfl) sc_P_lessened.nd (pi_list (pv 0)) (blkOk_by (own := [("number", 2)]) (N := ["row", "by", "number"]) (sc := defScope s_P_lessened) (by decide +kernel)) (fun _ _ _ _ _ => (pg_name (i := 2) sc_P_lessened.nd rfl (Or.inl rfl))) (fun _ _ _ _ _ => pts_nil) (fun _ _ _ _ _ => (pe_op (op_fdivL sr hr (by decide) ⟨_, _, rfl, rfl, rfl, rfl, rfl⟩) (pv 2) (pv 1))))))
theorem ok_P_simple {f : Addr} {fd : FuncData} (F : Fun K "simple" "simple" s_P_simple f fd)   (c_P_signed_content : Cl P w K mg base 2 "signed_content" (sp_P_signed_content K)) (c_P_lessened : Cl P w K mg base 41 "lessened" (sp_P_lessened K))  : FnOk P w K mg base CX0 42 f fd ["row"] (sp_P_simple K) := by
  refine F.ok sc_P_simple (fun vs H Q E h => ?_) (fun cdv A outer s H vs Q E hr h => ⟨t_P_simple K, ?_, run_P_simple  h⟩)
  · first | (obtain ⟨_, rfl, _⟩ := h; rfl) | (obtain ⟨_, _, rfl, _⟩ := h; rfl) | (obtain ⟨_, _, _, rfl, _⟩ := h; rfl) | (obtain ⟨_, _, _, _, rfl, _⟩ := h; rfl) | (obtain ⟨_, _, _, _, _, rfl, _⟩ := h; rfl) | (obtain ⟨_, _, _, _, _, _, rfl, _⟩ := h; rfl) | (obtain ⟨_, _, _, _, _, _, _, rfl, _⟩ := h; rfl) | (obtain ⟨_, _, _, _, _, _, _, _, rfl, _⟩ := h; rfl) | (obtain ⟨_, _, _, _, _, _, _, _, _, rfl, _⟩ := h; rfl) | (obtain ⟨_, _, _, _, _, _, _, _, _, _, rfl, _⟩ := h; rfl) | (obtain ⟨_, _, _, _, _, _, _, _, _, _, _, rfl, _⟩ := h; rfl) | (obtain ⟨_, _, _, _, _, _, _, _, _, _, _, _, rfl, _⟩ := h; rfl) | (obtain ⟨_, _, _, _, _, _, _, _, _, _, _, _, _, rfl, _⟩ := h; rfl) | (obtain ⟨_, _, _, _, _, _, _, _, _, _, _, _, _, _, rfl, _⟩ := h; rfl) | (obtain ⟨_, _, _, _, _, _, _, _, _, _, _, _, _, _, _, rfl, _⟩ := h; rfl) | (obtain ⟨_, _, _, _, _, _, _, _, _, _, _, _, _, _, _, _, rfl, _⟩ := h; rfl) | (obtain ⟨_, _, _, _, _, _, _, _, _, _, _, _, _, _, _, _, _, rfl, _⟩ := h; rfl) | (obtain ⟨_, _, _, _, _, _, _, _, _, _, _, _, _, _, _, _, _, _, rfl, _⟩ := h; rfl) | (obtain ⟨_, _, _, _, _, _, _, _, _, _, _, _, _, _, _, _, _, _, _, rfl, _⟩ := h; rfl) | (obtain ⟨_, _, _, _, _, _, _, _, _, _, _, _, _, _, _, _, _, _, _, _, rfl, _⟩ := h; rfl) | (obtain ⟨_, _, _, _, _, _, _, _, _, _, _, _, _, _, _, _, _, _, _, _, _, rfl, _⟩ := h; rfl) | (obtain ⟨_, _, _, _, _, _, _, _, _, _, _, _, _, _, _, _, _, _, _, _, _, _, rfl, _⟩ := h; rfl) | (obtain ⟨_, _, _, _, _, _, _, _, _, _, _, _, _, _, _, _, _, _, _, _, _, _, _, rfl, _⟩ := h; rfl) | (obtain ⟨_, _, _, _, _, _, _, _, _, _, _, _, _, _, _, _, _, _, _, _, _, _, _, _, rfl, _⟩ := h; rfl) | (obtain ⟨_, _, _, _, _, _, _, _, _, _, _, _, _, _, _, _, _, _, _, _, _, _, _, _, _, rfl, _⟩ := h; rfl) | (obtain ⟨_, _, _, _, _, _, _, _, _, _, _, _, _, _, _, _, _, _, _, _, _, _, _, _, _, _, rfl, _⟩ := h; rfl) | (obtain ⟨_, _, _, _, _, _, _, _, _, _, _, _, _, _, _, _, _, _, _, _, _, _, _, _, _, _, _, rfl, _⟩ := h; rfl) | (obtain ⟨_, _, _, _, _, _, _, _, _, _, _, _, _, _, _, _, _, _, _, _, _, _, _, _, _, _, _, _, rfl, _⟩ := h; rfl) | (obtain ⟨_, _, _, _, _, _, _, _, _, _, _, _, _, _, _, _, _, _, _, _, _, _, _, _, _, _, _, _, _, rfl, _⟩ := h; rfl) | (obtain ⟨_, _, _, _, _, _, _, _, _, _, _, _, _, _, _, _, _, _, _, _, _, _, _, _, _, _, _, _, _, _, rfl, _⟩ := h; rfl)
  · exact (pss_one (ps_ret (pcl c_P_lessened hr (by decide) (by rfl) (pa_cons (pv 0) (pa_cons (pcl c_P_signed_content hr (by decide) (by rfl) (pa_cons (pv 0) pa_nil)) pa_nil)))))
theorem ok_P_least_step {f : Addr} {fd : FuncData} (F : Fun K "_least_step" "_least_step" s_P_least_step f fd) (sr : Sr P base)   (c_P_signed_content : Cl P w K mg base 2 "signed_content" (sp_P_signed_content K)) (c_P_content : Cl P w K mg base 1 "content" (sp_P_content K)) (c_P_lessened : Cl P w K mg base 41 "lessened" (sp_P_lessened K)) (c_P_simple : Cl P w K mg base 42 "simple" (sp_P_simple K)) (g_gcd : mg "gcd" = some (.builtin "math.gcd")) : FnOk P w K mg base CX0 43 f fd ["row", "left", "right", "many"] (sp_P_least_step K) := by
  refine F.ok sc_P_least_step (fun vs H Q E h => ?_) (fun cdv A outer s H vs Q E hr h => ⟨t_P_least_step K, ?_, run_P_least_step  h⟩)
  · first | (obtain ⟨_, rfl, _⟩ := h; rfl) | (obtain ⟨_, _, rfl, _⟩ := h; rfl) | (obtain ⟨_, _, _, rfl, _⟩ := h; rfl) | (obtain ⟨_, _, _, _, rfl, _⟩ := h; rfl) | (obtain ⟨_, _, _, _, _, rfl, _⟩ := h; rfl) | (obtain ⟨_, _, _, _, _, _, rfl, _⟩ := h; rfl) | (obtain ⟨_, _, _, _, _, _, _, rfl, _⟩ := h; rfl) | (obtain ⟨_, _, _, _, _, _, _, _, rfl, _⟩ := h; rfl) | (obtain ⟨_, _, _, _, _, _, _, _, _, rfl, _⟩ := h; rfl) | (obtain ⟨_, _, _, _, _, _, _, _, _, _, rfl, _⟩ := h; rfl) | (obtain ⟨_, _, _, _, _, _, _, _, _, _, _, rfl, _⟩ := h; rfl) | (obtain ⟨_, _, _, _, _, _, _, _, _, _, _, _, rfl, _⟩ := h; rfl) | (obtain ⟨_, _, _, _, _, _, _, _, _, _, _, _, _, rfl, _⟩ := h; rfl) | (obtain ⟨_, _, _, _, _, _, _, _, _, _, _, _, _, _, rfl, _⟩ := h; rfl) | (obtain ⟨_, _, _, _, _, _, _, _, _, _, _, _, _, _, _, rfl, _⟩ := h; rfl) | (obtain ⟨_, _, _, _, _, _, _, _, _, _, _, _, _, _, _, _, rfl, _⟩ := h; rfl) | (obtain ⟨_, _, _, _, _, _, _, _, _, _, _, _, _, _, _, _, _, rfl, _⟩ := h; rfl) | (obtain ⟨_, _, _, _, _, _, _, _, _, _, _, _, _, _, _, _, _, _, rfl, _⟩ := h; rfl) | (obtain ⟨_, _, _, _, _, _, _, _, _, _, _, _, _, _, _, _, _, _, _, rfl, _⟩ := h; rfl) | (obtain ⟨_, _, _, _, _, _, _, _, _, _, _, _, _, _, _, _, _, _, _, _, rfl, _⟩ := h; rfl) | (obtain ⟨_, _, _, _, _, _, _, _, _, _, _, _, _, _, _, _, _, _, _, _, _, rfl, _⟩ := h; rfl) | (obtain ⟨_, _, _, _, _, _, _, _, _, _, _, _, _, _, _, _, _, _, _, _, _, _, rfl, _⟩ := h; rfl) | (obtain ⟨_, _, _, _, _, _, _, _, _, _, _, _, _, _, _, _, _, _, _, _, _, _, _, rfl, _⟩ := h; rfl) | (obtain ⟨_, _, _, _, _, _, _, _, _, _, _, _, _, _, _, _, _, _, _, _, _, _, _, _, rfl, _⟩ := h; rfl) | (obtain ⟨_, _, _, _, _, _, _, _, _, _, _, _, _, _, _, _, _, _, _, _, _, _, _, _, _, rfl, _⟩ := h; rfl) | (obtain ⟨_, _, _, _, _, _, _, _, _, _, _, _, _, _, _, _, _, _, _, _, _, _, _, _, _, _, rfl, _⟩ := h; rfl) | (obtain ⟨_, _, _, _, _, _, _, _, _, _, _, _, _, _, _, _, _, _, _, _, _, _, _, _, _, _, _, rfl, _⟩ := h; rfl) | (obtain ⟨_, _, _, _, _, _, _, _, _, _, _, _, _, _, _, _, _, _, _, _, _, _, _, _, _, _, _, _, rfl, _⟩ := h; rfl) | (obtain ⟨_, _, _, _, _, _, _, _, _, _, _, _, _, _, _, _, _, _, _, _, _, _, _, _, _, _, _, _, _, rfl, _⟩ := h; rfl) | (obtain ⟨_, _, _, _, _, _, _, _, _, _, _, _, _, _, _, _, _, _, _, _, _, _, _, _, _, _, _, _, _, _, rfl, _⟩ := h; rfl)
  · exact (pss_cons (ps_set (i := 3) sc_P_least_step.nd rfl (Or.inl rfl) (pe_op op_mulX (pv 3) (pcl c_P_signed_content hr (by decide) (by rfl) (pa_cons (pv 0) pa_nil))))
      (pss_cons (ps_set (i := 4) sc_P_least_step.nd rfl (Or.inl rfl) (pe_callBfun cr_gcd3 (by rfl) g_gcd (pa_cons (pv 3) (pa_cons (pcl c_P_content hr (by decide) (by rfl) (pa_cons (pv 1) pa_nil)) (pa_cons (pcl c_P_content hr (by decide) (by rfl) (pa_cons (pv 2) pa_nil)) pa_nil)))))
      (pss_cons (ps_if (pt_cmpR op_lt (pv 3) pe_int (nomark _)) (pss_one (ps_set (i := 4) sc_P_least_step.nd rfl (Or.inl rfl) (pe_un un_neg (pv 4)))) pss_nil)
      (pss_one (ps_ret (pe_tup (pa_cons (pcl c_P_simple hr (by decide) (by rfl) (pa_cons (pv 0) pa_nil)) (pa_cons (pcl c_P_lessened hr (by decide) (by rfl) (pa_cons (pv 1) (pa_cons (pv 4) pa_nil))) (pa_cons (pcl c_P_lessened hr (by decide) (by rfl) (pa_cons (pv 2) (pa_cons (pv 4) pa_nil))) (pa_cons (pe_op (op_fdivL sr hr (by decide) ⟨_, _, rfl, rfl, rfl, rfl, rfl⟩) (pv 3) (pv 4)) pa_nil))))))))))
theorem ok_P_next_step {cs : Cs} {f : Addr} {fd : FuncData} (F : Fun K "_next_step" "_next_step" s_P_next_step f fd) (T : Tx K cs.PolyError [cs.NoNumber, cs.NoPower, cs.ByNought, cs.NotWhole, cs.NoMeet, cs.NoParts, cs.NotWritten])   (c_P_divided : ClX P w K mg base 41 "divided" (sp_P_divided K cs)) (c_P_scaled : Cl P w K mg base 2 "scaled" (sp_P_scaled K)) (c_P_times : Cl P w K mg base 1 "times" (sp_P_times K)) (c_P_minus : Cl P w K mg base 2 "minus" (sp_P_minus K)) (c_P_least_step : Cl P w K mg base 43 "_least_step" (sp_P_least_step K))  : FnOk P w K mg base CX0 44 f fd ["last", "now"] (sp_P_next_step K cs) := by
  refine F.ok sc_P_next_step (fun vs H Q E h => ?_) (fun cdv A outer s H vs Q E hr h => ⟨t_P_next_step K cs, ?_, run_P_next_step T (by simp) h⟩)
  · first | (obtain ⟨_, rfl, _⟩ := h; rfl) | (obtain ⟨_, _, rfl, _⟩ := h; rfl) | (obtain ⟨_, _, _, rfl, _⟩ := h; rfl) | (obtain ⟨_, _, _, _, rfl, _⟩ := h; rfl) | (obtain ⟨_, _, _, _, _, rfl, _⟩ := h; rfl) | (obtain ⟨_, _, _, _, _, _, rfl, _⟩ := h; rfl) | (obtain ⟨_, _, _, _, _, _, _, rfl, _⟩ := h; rfl) | (obtain ⟨_, _, _, _, _, _, _, _, rfl, _⟩ := h; rfl) | (obtain ⟨_, _, _, _, _, _, _, _, _, rfl, _⟩ := h; rfl) | (obtain ⟨_, _, _, _, _, _, _, _, _, _, rfl, _⟩ := h; rfl) | (obtain ⟨_, _, _, _, _, _, _, _, _, _, _, rfl, _⟩ := h; rfl) | (obtain ⟨_, _, _, _, _, _, _, _, _, _, _, _, rfl, _⟩ := h; rfl) | (obtain ⟨_, _, _, _, _, _, _, _, _, _, _, _, _, rfl, _⟩ := h; rfl) | (obtain ⟨_, _, _, _, _, _, _, _, _, _, _, _, _, _, rfl, _⟩ := h; rfl) | (obtain ⟨_, _, _, _, _, _, _, _, _, _, _, _, _, _, _, rfl, _⟩ := h; rfl) | (obtain ⟨_, _, _, _, _, _, _, _, _, _, _, _, _, _, _, _, rfl, _⟩ := h; rfl) | (obtain ⟨_, _, _, _, _, _, _, _, _, _, _, _, _, _, _, _, _, rfl, _⟩ := h; rfl) | (obtain ⟨_, _, _, _, _, _, _, _, _, _, _, _, _, _, _, _, _, _, rfl, _⟩ := h; rfl) | (obtain ⟨_, _, _, _, _, _, _, _, _, _, _, _, _, _, _, _, _, _, _, rfl, _⟩ := h; rfl) | (obtain ⟨_, _, _, _, _, _, _, _, _, _, _, _, _, _, _, _, _, _, _, _, rfl, _⟩ := h; rfl) | (obtain ⟨_, _, _, _, _, _, _, _, _, _, _, _, _, _, _, _, _, _, _, _, _, rfl, _⟩ := h; rfl) | (obtain ⟨_, _, _, _, _, _, _, _, _, _, _, _, _, _, _, _, _, _, _, _, _, _, rfl, _⟩ := h; rfl) | (obtain ⟨_, _, _, _, _, _, _, _, _, _, _, _, _, _, _, _, _, _, _, _, _, _, _, rfl, _⟩ := h; rfl) | (obtain ⟨_, _, _, _, _, _, _, _, _, _, _, _, _, _, _, _, _, _, _, _, _, _, _, _, rfl, _⟩ := h; rfl) | (obtain ⟨_, _, _, _, _, _, _, _, _, _, _, _, _, _, _, _, _, _, _, _, _, _, _, _, _, rfl, _⟩ := h; rfl) | (obtain ⟨_, _, _, _, _, _, _, _, _, _, _, _, _, _, _, _, _, _, _, _, _, _, _, _, _, _, rfl, _⟩ := h; rfl) | (obtain ⟨_, _, _, _, _, _, _, _, _, _, _, _, _, _, _, _, _, _, _, _, _, _, _, _, _, _, _, rfl, _⟩ := h; rfl) | (obtain ⟨_, _, _, _, _, _, _, _, _, _, _, _, _, _, _, _, _, _, _, _, _, _, _, _, _, _, _, _, rfl, _⟩ := h; rfl) | (obtain ⟨_, _, _, _, _, _, _, _, _, _, _, _, _, _, _, _, _, _, _, _, _, _, _, _, _, _, _, _, _, rfl, _⟩ := h; rfl) | (obtain ⟨_, _, _, _, _, _, _, _, _, _, _, _, _, _, _, _, _, _, _, _, _, _, _, _, _, _, _, _, _, _, rfl, _⟩ := h; rfl)
  · exact (pss_cons (ps_asg (pv 0) (pg_tup rfl (pgs_cons (pg_name (i := 2) sc_P_next_step.nd rfl (Or.inl rfl)) (pgs_cons (pg_name (i := 3) sc_P_next_step.nd rfl (Or.inl rfl)) (pgs_cons (pg_name (i := 4) sc_P_next_step.nd rfl (Or.inl rfl)) (pgs_cons (pg_name (i := 5) sc_P_next_step.nd rfl (Or.inl rfl)) pgs_nil))))))
      (pss_cons (ps_asg (pv 1) (pg_tup rfl (pgs_cons (pg_name (i := 6) sc_P_next_step.nd rfl (Or.inl rfl)) (pgs_cons (pg_name (i := 7) sc_P_next_step.nd rfl (Or.inl rfl)) (pgs_cons (pg_name (i := 8) sc_P_next_step.nd rfl (Or.inl rfl)) (pgs_cons (pg_name (i := 9) sc_P_next_step.nd rfl (Or.inl rfl)) pgs_nil))))))
      (pss_cons (ps_asg (pclX c_P_divided hr (by decide) (by rfl) (pa_cons (pv 2) (pa_cons (pv 6) pa_nil))) (pg_tup rfl (pgs_cons (pg_name (i := 10) sc_P_next_step.nd rfl (Or.inl rfl)) (pgs_cons (pg_name (i := 11) sc_P_next_step.nd rfl (Or.inl rfl)) (pgs_cons (pg_name (i := 12) sc_P_next_step.nd rfl (Or.inl rfl)) pgs_nil)))))
      (pss_cons (ps_set (i := 13) sc_P_next_step.nd rfl (Or.inl rfl) (pe_op op_mulX (pv 10) (pv 9)))
      (pss_cons (ps_set (i := 14) sc_P_next_step.nd rfl (Or.inl rfl) (pcl c_P_scaled hr (by decide) (by rfl) (pa_cons (pv 11) (pa_cons (pv 5) pa_nil))))
      (pss_cons (ps_set (i := 15) sc_P_next_step.nd rfl (Or.inl rfl) (pcl c_P_minus hr (by decide) (by rfl) (pa_cons (pcl c_P_scaled hr (by decide) (by rfl) (pa_cons (pv 3) (pa_cons (pv 13) pa_nil))) (pa_cons (pcl c_P_times hr (by decide) (by rfl) (pa_cons (pv 14) (pa_cons (pv 7) pa_nil))) pa_nil))))
      (pss_cons (ps_set (i := 16) sc_P_next_step.nd rfl (Or.inl rfl) (pcl c_P_minus hr (by decide) (by rfl) (pa_cons (pcl c_P_scaled hr (by decide) (by rfl) (pa_cons (pv 4) (pa_cons (pv 13) pa_nil))) (pa_cons (pcl c_P_times hr (by decide) (by rfl) (pa_cons (pv 14) (pa_cons (pv 8) pa_nil))) pa_nil))))
      (pss_one (ps_ret (pcl c_P_least_step hr (by decide) (by rfl) (pa_cons (pv 12) (pa_cons (pv 15) (pa_cons (pv 16) (pa_cons (pe_op op_mulX (pv 5) (pv 9)) pa_nil))))))))))))))
theorem ok_P_meet {cs : Cs} {f : Addr} {fd : FuncData} (F : Fun K "meet" "meet" s_P_meet f fd) (T : Tx K cs.PolyError [cs.NoNumber, cs.NoPower, cs.ByNought, cs.NotWhole, cs.NoMeet, cs.NoParts, cs.NotWritten]) (r_NoMeet : RsX K mg "NoMeet" cs.NoMeet)  (c_P_least_step : Cl P w K mg base 43 "_least_step" (sp_P_least_step K)) (c_P_next_step : Cl P w K mg base 44 "_next_step" (sp_P_next_step K cs)) (c_P_quotient : ClX P w K mg base 42 "quotient" (sp_P_quotient K cs))  : FnOk P w K mg base (L2.CX P w) 45 f fd ["ones", "others"] (sp_P_meet K cs) := by
  refine F.okX sc_P_meet (fun vs H Q E h => ?_) (fun cdv A outer s H vs Q E hr h => ⟨t_P_meet K cs E, ?_, run_P_meet T (by simp) (by simp) (by simp) h⟩)
  · first | (obtain ⟨_, rfl, _⟩ := h; rfl) | (obtain ⟨_, _, rfl, _⟩ := h; rfl) | (obtain ⟨_, _, _, rfl, _⟩ := h; rfl) | (obtain ⟨_, _, _, _, rfl, _⟩ := h; rfl) | (obtain ⟨_, _, _, _, _, rfl, _⟩ := h; rfl) | (obtain ⟨_, _, _, _, _, _, rfl, _⟩ := h; rfl) | (obtain ⟨_, _, _, _, _, _, _, rfl, _⟩ := h; rfl) | (obtain ⟨_, _, _, _, _, _, _, _, rfl, _⟩ := h; rfl) | (obtain ⟨_, _, _, _, _, _, _, _, _, rfl, _⟩ := h; rfl) | (obtain ⟨_, _, _, _, _, _, _, _, _, _, rfl, _⟩ := h; rfl) | (obtain ⟨_, _, _, _, _, _, _, _, _, _, _, rfl, _⟩ := h; rfl) | (obtain ⟨_, _, _, _, _, _, _, _, _, _, _, _, rfl, _⟩ := h; rfl) | (obtain ⟨_, _, _, _, _, _, _, _, _, _, _, _, _, rfl, _⟩ := h; rfl) | (obtain ⟨_, _, _, _, _, _, _, _, _, _, _, _, _, _, rfl, _⟩ := h; rfl) | (obtain ⟨_, _, _, _, _, _, _, _, _, _, _, _, _, _, _, rfl, _⟩ := h; rfl) | (obtain ⟨_, _, _, _, _, _, _, _, _, _, _, _, _, _, _, _, rfl, _⟩ := h; rfl) | (obtain ⟨_, _, _, _, _, _, _, _, _, _, _, _, _, _, _, _, _, rfl, _⟩ := h; rfl) | (obtain ⟨_, _, _, _, _, _, _, _, _, _, _, _, _, _, _, _, _, _, rfl, _⟩ := h; rfl) | (obtain ⟨_, _, _, _, _, _, _, _, _, _, _, _, _, _, _, _, _, _, _, rfl, _⟩ := h; rfl) | (obtain ⟨_, _, _, _, _, _, _, _, _, _, _, _, _, _, _, _, _, _, _, _, rfl, _⟩ := h; rfl) | (obtain ⟨_, _, _, _, _, _, _, _, _, _, _, _, _, _, _, _, _, _, _, _, _, rfl, _⟩ := h; rfl) | (obtain ⟨_, _, _, _, _, _, _, _, _, _, _, _, _, _, _, _, _, _, _, _, _, _, rfl, _⟩ := h; rfl) | (obtain ⟨_, _, _, _, _, _, _, _, _, _, _, _, _, _, _, _, _, _, _, _, _, _, _, rfl, _⟩ := h; rfl) | (obtain ⟨_, _, _, _, _, _, _, _, _, _, _, _, _, _, _, _, _, _, _, _, _, _, _, _, rfl, _⟩ := h; rfl) | (obtain ⟨_, _, _, _, _, _, _, _, _, _, _, _, _, _, _, _, _, _, _, _, _, _, _, _, _, rfl, _⟩ := h; rfl) | (obtain ⟨_, _, _, _, _, _, _, _, _, _, _, _, _, _, _, _, _, _, _, _, _, _, _, _, _, _, rfl, _⟩ := h; rfl) | (obtain ⟨_, _, _, _, _, _, _, _, _, _, _, _, _, _, _, _, _, _, _, _, _, _, _, _, _, _, _, rfl, _⟩ := h; rfl) | (obtain ⟨_, _, _, _, _, _, _, _, _, _, _, _, _, _, _, _, _, _, _, _, _, _, _, _, _, _, _, _, rfl, _⟩ := h; rfl) | (obtain ⟨_, _, _, _, _, _, _, _, _, _, _, _, _, _, _, _, _, _, _, _, _, _, _, _, _, _, _, _, _, rfl, _⟩ := h; rfl) | (obtain ⟨_, _, _, _, _, _, _, _, _, _, _, _, _, _, _, _, _, _, _, _, _, _, _, _, _, _, _, _, _, _, rfl, _⟩ := h; rfl)
  · exact (pss_cons (ps_if (PW.pt (pw_and (pt_not (pt_truth (pv 0) (by intro _; rfl))) (pw_and1 (pt_not (pt_truth (pv 1) (by intro _; rfl)))))) (pss_one (ps_raiseC r_NoMeet rfl (takes_of rfl rfl rfl rfl) (by rfl))) pss_nil)
      (pss_cons (ps_set (i := 2) sc_P_meet.nd rfl (Or.inl rfl) (pcl c_P_least_step hr (by decide) (by rfl) (pa_cons (pv 0) (pa_cons (pe_lst (pa_cons pe_int pa_nil)) (pa_cons (pe_lst pa_nil) (pa_cons pe_int pa_nil))))))
      (pss_cons (ps_set (i := 3) sc_P_meet.nd rfl (Or.inl rfl) (pcl c_P_least_step hr (by decide) (by rfl) (pa_cons (pv 1) (pa_cons (pe_lst pa_nil) (pa_cons (pe_lst (pa_cons pe_int pa_nil)) (pa_cons pe_int pa_nil))))))
      (pss_cons (ps_while (passes_of rfl) (pt_truth (pe_ix ix_tup (pv 3) pe_int (fun _ _ => rfl)) (by intro _; rfl)) (pss_one (ps_par (i := 2) (j := 3) rfl sc_P_meet.nd rfl rfl (by decide) rfl rfl (pa_cons (pv 3) (pa_cons (pcl c_P_next_step hr (by decide) (by rfl) (pa_cons (pv 2) (pa_cons (pv 3) pa_nil))) pa_nil)) (by rfl))))
      (pss_cons (ps_asg (pv 2) (pg_tup rfl (pgs_cons (pg_name (i := 4) sc_P_meet.nd rfl (Or.inl rfl)) (pgs_cons (pg_name (i := 5) sc_P_meet.nd rfl (Or.inl rfl)) (pgs_cons (pg_name (i := 6) sc_P_meet.nd rfl (Or.inl rfl)) (pgs_cons (pg_name (i := 7) sc_P_meet.nd rfl (Or.inl rfl)) pgs_nil))))))
      (pss_one (ps_ret (pe_tup (pa_cons (pv 4) (pa_cons (pclX c_P_quotient hr (by decide) (by rfl) (pa_cons (pv 0) (pa_cons (pv 4) pa_nil))) (pa_cons (pclX c_P_quotient hr (by decide) (by rfl) (pa_cons (pv 1) (pa_cons (pv 4) pa_nil))) (pa_cons (pv 5) (pa_cons (pv 6) (pa_cons (pv 7) pa_nil))))))))))))))
theorem ok_P_parts {cs : Cs} {f : Addr} {fd : FuncData} (F : Fun K "parts" "parts" s_P_parts f fd) (T : Tx K cs.PolyError [cs.NoNumber, cs.NoPower, cs.ByNought, cs.NotWhole, cs.NoMeet, cs.NoParts, cs.NotWritten]) (r_NoParts : RsX K mg "NoParts" cs.NoParts)  (c_P_slope : Cl P w K mg base 1 "slope" (sp_P_slope K)) (c_P_meet : ClX P w K mg base 45 "meet" (sp_P_meet K cs)) (c_P_minus : Cl P w K mg base 2 "minus" (sp_P_minus K)) (c_P_signed_content : Cl P w K mg base 2 "signed_content" (sp_P_signed_content K)) (m_len : mg "len" = none) : FnOk P w K mg base (L2.CX P w) 46 f fd ["row"] (sp_P_parts K cs) := by
  refine F.okX sc_P_parts (fun vs H Q E h => ?_) (fun cdv A outer s H vs Q E hr h => ⟨t_P_parts K cs E, ?_, run_P_parts T (by simp) (by simp) (by simp) (by simp) h⟩)
  · first | (obtain ⟨_, rfl, _⟩ := h; rfl) | (obtain ⟨_, _, rfl, _⟩ := h; rfl) | (obtain ⟨_, _, _, rfl, _⟩ := h; rfl) | (obtain ⟨_, _, _, _, rfl, _⟩ := h; rfl) | (obtain ⟨_, _, _, _, _, rfl, _⟩ := h; rfl) | (obtain ⟨_, _, _, _, _, _, rfl, _⟩ := h; rfl) | (obtain ⟨_, _, _, _, _, _, _, rfl, _⟩ := h; rfl) | (obtain ⟨_, _, _, _, _, _, _, _, rfl, _⟩ := h; rfl) | (obtain ⟨_, _, _, _, _, _, _, _, _, rfl, _⟩ := h; rfl) | (obtain ⟨_, _, _, _, _, _, _, _, _, _, rfl, _⟩ := h; rfl) | (obtain ⟨_, _, _, _, _, _, _, _, _, _, _, rfl, _⟩ := h; rfl) | (obtain ⟨_, _, _, _, _, _, _, _, _, _, _, _, rfl, _⟩ := h; rfl) | (obtain ⟨_, _, _, _, _, _, _, _, _, _, _, _, _, rfl, _⟩ := h; rfl) | (obtain ⟨_, _, _, _, _, _, _, _, _, _, _, _, _, _, rfl, _⟩ := h; rfl) | (obtain ⟨_, _, _, _, _, _, _, _, _, _, _, _, _, _, _, rfl, _⟩ := h; rfl) | (obtain ⟨_, _, _, _, _, _, _, _, _, _, _, _, _, _, _, _, rfl, _⟩ := h; rfl) | (obtain ⟨_, _, _, _, _, _, _, _, _, _, _, _, _, _, _, _, _, rfl, _⟩ := h; rfl) | (obtain ⟨_, _, _, _, _, _, _, _, _, _, _, _, _, _, _, _, _, _, rfl, _⟩ := h; rfl) | (obtain ⟨_, _, _, _, _, _, _, _, _, _, _, _, _, _, _, _, _, _, _, rfl, _⟩ := h; rfl) | (obtain ⟨_, _, _, _, _, _, _, _, _, _, _, _, _, _, _, _, _, _, _, _, rfl, _⟩ := h; rfl) | (obtain ⟨_, _, _, _, _, _, _, _, _, _, _, _, _, _, _, _, _, _, _, _, _, rfl, _⟩ := h; rfl) | (obtain ⟨_, _, _, _, _, _, _, _, _, _, _, _, _, _, _, _, _, _, _, _, _, _, rfl, _⟩ := h; rfl) | (obtain ⟨_, _, _, _, _, _, _, _, _, _, _, _, _, _, _, _, _, _, _, _, _, _, _, rfl, _⟩ := h; rfl) | (obtain ⟨_, _, _, _, _, _, _, _, _, _, _, _, _, _, _, _, _, _, _, _, _, _, _, _, rfl, _⟩ := h; rfl) | (obtain ⟨_, _, _, _, _, _, _, _, _, _, _, _, _, _, _, _, _, _, _, _, _, _, _, _, _, rfl, _⟩ := h; rfl) | (obtain ⟨_, _, _, _, _, _, _, _, _, _, _, _, _, _, _, _, _, _, _, _, _, _, _, _, _, _, rfl, _⟩ := h; rfl) | (obtain ⟨_, _, _, _, _, _, _, _, _, _, _, _, _, _, _, _, _, _, _, _, _, _, _, _, _, _, _, rfl, _⟩ := h; rfl) | (obtain ⟨_, _, _, _, _, _, _, _, _, _, _, _, _, _, _, _, _, _, _, _, _, _, _, _, _, _, _, _, rfl, _⟩ := h; rfl) | (obtain ⟨_, _, _, _, _, _, _, _, _, _, _, _, _, _, _, _, _, _, _, _, _, _, _, _, _, _, _, _, _, rfl, _⟩ := h; rfl) | (obtain ⟨_, _, _, _, _, _, _, _, _, _, _, _, _, _, _, _, _, _, _, _, _, _, _, _, _, _, _, _, _, _, rfl, _⟩ := h; rfl)
  · exact (pss_cons (ps_if (pt_not (pt_truth (pv 0) (by intro _; rfl))) (pss_one (ps_raiseC r_NoParts rfl (takes_of rfl rfl rfl rfl) (by rfl))) pss_nil)
      (pss_cons (ps_asg (pe_slice sl_tup (pclX c_P_meet hr (by decide) (by rfl) (pa_cons (pv 0) (pa_cons (pcl c_P_slope hr (by decide) (by rfl) (pa_cons (pv 0) pa_nil)) pa_nil))) (po_some pe_int) (po_some pe_int)) (pg_tup rfl (pgs_cons (pg_name (i := 1) sc_P_parts.nd rfl (Or.inl rfl)) (pgs_cons (pg_name (i := 2) sc_P_parts.nd rfl (Or.inl rfl)) pgs_nil))))
      (pss_cons (ps_set (i := 3) sc_P_parts.nd rfl (Or.inl rfl) (pe_lst pa_nil))
      (pss_cons (ps_set (i := 4) sc_P_parts.nd rfl (Or.inl rfl) pe_int)
      (pss_cons (ps_while (passes_of rfl) (pt_cmpR op_gt (pe_callB call_len_seq (by rfl) m_len PySem.boot_len (pa_cons (pv 1) pa_nil)) pe_int (nomark _)) (pss_cons (ps_aug (i := 4) sc_P_parts.nd rfl (Or.inl rfl) pe_int ip_add)
      (pss_cons (ps_asg (pe_slice sl_tup (pclX c_P_meet hr (by decide) (by rfl) (pa_cons (pv 1) (pa_cons (pcl c_P_minus hr (by decide) (by rfl) (pa_cons (pv 2) (pa_cons (pcl c_P_slope hr (by decide) (by rfl) (pa_cons (pv 1) pa_nil)) pa_nil))) pa_nil))) po_none (po_some pe_int)) (pg_tup rfl (pgs_cons (pg_name (i := 5) sc_P_parts.nd rfl (Or.inl rfl)) (pgs_cons (pg_name (i := 1) sc_P_parts.nd rfl (Or.inl rfl)) (pgs_cons (pg_name (i := 2) sc_P_parts.nd rfl (Or.inl rfl)) pgs_nil)))))
      (pss_one (ps_if (pt_cmpR op_gt (pe_callB call_len_seq (by rfl) m_len PySem.boot_len (pa_cons (pv 5) pa_nil)) pe_int (nomark _)) (pss_one (ps_expr (pe_bm PySem.F.plainAttrs_list PySem.F.slot_list_append PySem.F.type_list_append mt_append (pv 3) (pa_cons (pe_tup (pa_cons (pv 5) (pa_cons (pv 4) pa_nil))) pa_nil)))) pss_nil)))))
      (pss_one (ps_ret (pe_tup (pa_cons (pcl c_P_signed_content hr (by decide) (by rfl) (pa_cons (pv 0) pa_nil)) (pa_cons (pv 3) pa_nil))))))))))
theorem ok_L_whole {f : Addr} {fd : FuncData} (F : Fun K "_law_whole" "_law_whole" s_L_whole f fd)    (m_bool : mg "bool" = none) (m_int : mg "int" = none) (m_isinstance : mg "isinstance" = none) : FnOk P w K mg base CX0 1 f fd ["_law_found"] (sp_L_whole K) := by
  refine F.ok sc_L_whole (fun vs H Q E h => ?_) (fun cdv A outer s H vs Q E hr h => ⟨t_L_whole K, ?_, run_L_whole  h⟩)
  · first | (obtain ⟨_, rfl, _⟩ := h; rfl) | (obtain ⟨_, _, rfl, _⟩ := h; rfl) | (obtain ⟨_, _, _, rfl, _⟩ := h; rfl) | (obtain ⟨_, _, _, _, rfl, _⟩ := h; rfl) | (obtain ⟨_, _, _, _, _, rfl, _⟩ := h; rfl) | (obtain ⟨_, _, _, _, _, _, rfl, _⟩ := h; rfl) | (obtain ⟨_, _, _, _, _, _, _, rfl, _⟩ := h; rfl) | (obtain ⟨_, _, _, _, _, _, _, _, rfl, _⟩ := h; rfl) | (obtain ⟨_, _, _, _, _, _, _, _, _, rfl, _⟩ := h; rfl) | (obtain ⟨_, _, _, _, _, _, _, _, _, _, rfl, _⟩ := h; rfl) | (obtain ⟨_, _, _, _, _, _, _, _, _, _, _, rfl, _⟩ := h; rfl) | (obtain ⟨_, _, _, _, _, _, _, _, _, _, _, _, rfl, _⟩ := h; rfl) | (obtain ⟨_, _, _, _, _, _, _, _, _, _, _, _, _, rfl, _⟩ := h; rfl) | (obtain ⟨_, _, _, _, _, _, _, _, _, _, _, _, _, _, rfl, _⟩ := h; rfl) | (obtain ⟨_, _, _, _, _, _, _, _, _, _, _, _, _, _, _, rfl, _⟩ := h; rfl) | (obtain ⟨_, _, _, _, _, _, _, _, _, _, _, _, _, _, _, _, rfl, _⟩ := h; rfl) | (obtain ⟨_, _, _, _, _, _, _, _, _, _, _, _, _, _, _, _, _, rfl, _⟩ := h; rfl) | (obtain ⟨_, _, _, _, _, _, _, _, _, _, _, _, _, _, _, _, _, _, rfl, _⟩ := h; rfl) | (obtain ⟨_, _, _, _, _, _, _, _, _, _, _, _, _, _, _, _, _, _, _, rfl, _⟩ := h; rfl) | (obtain ⟨_, _, _, _, _, _, _, _, _, _, _, _, _, _, _, _, _, _, _, _, rfl, _⟩ := h; rfl) | (obtain ⟨_, _, _, _, _, _, _, _, _, _, _, _, _, _, _, _, _, _, _, _, _, rfl, _⟩ := h; rfl) | (obtain ⟨_, _, _, _, _, _, _, _, _, _, _, _, _, _, _, _, _, _, _, _, _, _, rfl, _⟩ := h; rfl) | (obtain ⟨_, _, _, _, _, _, _, _, _, _, _, _, _, _, _, _, _, _, _, _, _, _, _, rfl, _⟩ := h; rfl) | (obtain ⟨_, _, _, _, _, _, _, _, _, _, _, _, _, _, _, _, _, _, _, _, _, _, _, _, rfl, _⟩ := h; rfl) | (obtain ⟨_, _, _, _, _, _, _, _, _, _, _, _, _, _, _, _, _, _, _, _, _, _, _, _, _, rfl, _⟩ := h; rfl) | (obtain ⟨_, _, _, _, _, _, _, _, _, _, _, _, _, _, _, _, _, _, _, _, _, _, _, _, _, _, rfl, _⟩ := h; rfl) | (obtain ⟨_, _, _, _, _, _, _, _, _, _, _, _, _, _, _, _, _, _, _, _, _, _, _, _, _, _, _, rfl, _⟩ := h; rfl) | (obtain ⟨_, _, _, _, _, _, _, _, _, _, _, _, _, _, _, _, _, _, _, _, _, _, _, _, _, _, _, _, rfl, _⟩ := h; rfl) | (obtain ⟨_, _, _, _, _, _, _, _, _, _, _, _, _, _, _, _, _, _, _, _, _, _, _, _, _, _, _, _, _, rfl, _⟩ := h; rfl) | (obtain ⟨_, _, _, _, _, _, _, _, _, _, _, _, _, _, _, _, _, _, _, _, _, _, _, _, _, _, _, _, _, _, rfl, _⟩ := h; rfl)
  · exact (pss_one (ps_ret (pe_and (pe_callB call_isi (by rfl) m_isinstance (by decide +kernel) (pa_cons (pv 0) (pa_cons (pe_bltn (by rfl) m_int (by decide +kernel) rfl) pa_nil))) (pe_one (pe_not (pe_callB call_isi (by rfl) m_isinstance (by decide +kernel) (pa_cons (pv 0) (pa_cons (pe_bltn (by rfl) m_bool (by decide +kernel) rfl) pa_nil))))))))
theorem ok_L_cell_at {f : Addr} {fd : FuncData} (F : Fun K "_law_cell_at" "_law_cell_at" s_L_cell_at f fd)    (m_len : mg "len" = none) : FnOk P w K mg base CX0 1 f fd ["_law_script", "_law_k"] (sp_L_cell_at K) := by
  refine F.ok sc_L_cell_at (fun vs H Q E h => ?_) (fun cdv A outer s H vs Q E hr h => ⟨t_L_cell_at K, ?_, run_L_cell_at  h⟩)
  · first | (obtain ⟨_, rfl, _⟩ := h; rfl) | (obtain ⟨_, _, rfl, _⟩ := h; rfl) | (obtain ⟨_, _, _, rfl, _⟩ := h; rfl) | (obtain ⟨_, _, _, _, rfl, _⟩ := h; rfl) | (obtain ⟨_, _, _, _, _, rfl, _⟩ := h; rfl) | (obtain ⟨_, _, _, _, _, _, rfl, _⟩ := h; rfl) | (obtain ⟨_, _, _, _, _, _, _, rfl, _⟩ := h; rfl) | (obtain ⟨_, _, _, _, _, _, _, _, rfl, _⟩ := h; rfl) | (obtain ⟨_, _, _, _, _, _, _, _, _, rfl, _⟩ := h; rfl) | (obtain ⟨_, _, _, _, _, _, _, _, _, _, rfl, _⟩ := h; rfl) | (obtain ⟨_, _, _, _, _, _, _, _, _, _, _, rfl, _⟩ := h; rfl) | (obtain ⟨_, _, _, _, _, _, _, _, _, _, _, _, rfl, _⟩ := h; rfl) | (obtain ⟨_, _, _, _, _, _, _, _, _, _, _, _, _, rfl, _⟩ := h; rfl) | (obtain ⟨_, _, _, _, _, _, _, _, _, _, _, _, _, _, rfl, _⟩ := h; rfl) | (obtain ⟨_, _, _, _, _, _, _, _, _, _, _, _, _, _, _, rfl, _⟩ := h; rfl) | (obtain ⟨_, _, _, _, _, _, _, _, _, _, _, _, _, _, _, _, rfl, _⟩ := h; rfl) | (obtain ⟨_, _, _, _, _, _, _, _, _, _, _, _, _, _, _, _, _, rfl, _⟩ := h; rfl) | (obtain ⟨_, _, _, _, _, _, _, _, _, _, _, _, _, _, _, _, _, _, rfl, _⟩ := h; rfl) | (obtain ⟨_, _, _, _, _, _, _, _, _, _, _, _, _, _, _, _, _, _, _, rfl, _⟩ := h; rfl) | (obtain ⟨_, _, _, _, _, _, _, _, _, _, _, _, _, _, _, _, _, _, _, _, rfl, _⟩ := h; rfl) | (obtain ⟨_, _, _, _, _, _, _, _, _, _, _, _, _, _, _, _, _, _, _, _, _, rfl, _⟩ := h; rfl) | (obtain ⟨_, _, _, _, _, _, _, _, _, _, _, _, _, _, _, _, _, _, _, _, _, _, rfl, _⟩ := h; rfl) | (obtain ⟨_, _, _, _, _, _, _, _, _, _, _, _, _, _, _, _, _, _, _, _, _, _, _, rfl, _⟩ := h; rfl) | (obtain ⟨_, _, _, _, _, _, _, _, _, _, _, _, _, _, _, _, _, _, _, _, _, _, _, _, rfl, _⟩ := h; rfl) | (obtain ⟨_, _, _, _, _, _, _, _, _, _, _, _, _, _, _, _, _, _, _, _, _, _, _, _, _, rfl, _⟩ := h; rfl) | (obtain ⟨_, _, _, _, _, _, _, _, _, _, _, _, _, _, _, _, _, _, _, _, _, _, _, _, _, _, rfl, _⟩ := h; rfl) | (obtain ⟨_, _, _, _, _, _, _, _, _, _, _, _, _, _, _, _, _, _, _, _, _, _, _, _, _, _, _, rfl, _⟩ := h; rfl) | (obtain ⟨_, _, _, _, _, _, _, _, _, _, _, _, _, _, _, _, _, _, _, _, _, _, _, _, _, _, _, _, rfl, _⟩ := h; rfl) | (obtain ⟨_, _, _, _, _, _, _, _, _, _, _, _, _, _, _, _, _, _, _, _, _, _, _, _, _, _, _, _, _, rfl, _⟩ := h; rfl) | (obtain ⟨_, _, _, _, _, _, _, _, _, _, _, _, _, _, _, _, _, _, _, _, _, _, _, _, _, _, _, _, _, _, rfl, _⟩ := h; rfl)
  · exact (pss_cons (ps_if (pt_cmpR op_lt (pv 1) (pe_callB call_len_seq (by rfl) m_len PySem.boot_len (pa_cons (pv 0) pa_nil)) (nomark _)) (pss_one (ps_ret (pe_ix ix_list (pv 0) (pv 1) (fun _ _ => rfl)))) pss_nil)
      (pss_one (ps_ret pe_int)))
theorem ok_L_trim {f : Addr} {fd : FuncData} (F : Fun K "_law_trim" "_law_trim" s_L_trim f fd)    (m_len : mg "len" = none) : FnOk P w K mg base CX0 1 f fd ["_law_row"] (sp_L_trim K) := by
  refine F.ok sc_L_trim (fun vs H Q E h => ?_) (fun cdv A outer s H vs Q E hr h => ⟨t_L_trim K, ?_, run_L_trim  h⟩)
  · first | (obtain ⟨_, rfl, _⟩ := h; rfl) | (obtain ⟨_, _, rfl, _⟩ := h; rfl) | (obtain ⟨_, _, _, rfl, _⟩ := h; rfl) | (obtain ⟨_, _, _, _, rfl, _⟩ := h; rfl) | (obtain ⟨_, _, _, _, _, rfl, _⟩ := h; rfl) | (obtain ⟨_, _, _, _, _, _, rfl, _⟩ := h; rfl) | (obtain ⟨_, _, _, _, _, _, _, rfl, _⟩ := h; rfl) | (obtain ⟨_, _, _, _, _, _, _, _, rfl, _⟩ := h; rfl) | (obtain ⟨_, _, _, _, _, _, _, _, _, rfl, _⟩ := h; rfl) | (obtain ⟨_, _, _, _, _, _, _, _, _, _, rfl, _⟩ := h; rfl) | (obtain ⟨_, _, _, _, _, _, _, _, _, _, _, rfl, _⟩ := h; rfl) | (obtain ⟨_, _, _, _, _, _, _, _, _, _, _, _, rfl, _⟩ := h; rfl) | (obtain ⟨_, _, _, _, _, _, _, _, _, _, _, _, _, rfl, _⟩ := h; rfl) | (obtain ⟨_, _, _, _, _, _, _, _, _, _, _, _, _, _, rfl, _⟩ := h; rfl) | (obtain ⟨_, _, _, _, _, _, _, _, _, _, _, _, _, _, _, rfl, _⟩ := h; rfl) | (obtain ⟨_, _, _, _, _, _, _, _, _, _, _, _, _, _, _, _, rfl, _⟩ := h; rfl) | (obtain ⟨_, _, _, _, _, _, _, _, _, _, _, _, _, _, _, _, _, rfl, _⟩ := h; rfl) | (obtain ⟨_, _, _, _, _, _, _, _, _, _, _, _, _, _, _, _, _, _, rfl, _⟩ := h; rfl) | (obtain ⟨_, _, _, _, _, _, _, _, _, _, _, _, _, _, _, _, _, _, _, rfl, _⟩ := h; rfl) | (obtain ⟨_, _, _, _, _, _, _, _, _, _, _, _, _, _, _, _, _, _, _, _, rfl, _⟩ := h; rfl) | (obtain ⟨_, _, _, _, _, _, _, _, _, _, _, _, _, _, _, _, _, _, _, _, _, rfl, _⟩ := h; rfl) | (obtain ⟨_, _, _, _, _, _, _, _, _, _, _, _, _, _, _, _, _, _, _, _, _, _, rfl, _⟩ := h; rfl) | (obtain ⟨_, _, _, _, _, _, _, _, _, _, _, _, _, _, _, _, _, _, _, _, _, _, _, rfl, _⟩ := h; rfl) | (obtain ⟨_, _, _, _, _, _, _, _, _, _, _, _, _, _, _, _, _, _, _, _, _, _, _, _, rfl, _⟩ := h; rfl) | (obtain ⟨_, _, _, _, _, _, _, _, _, _, _, _, _, _, _, _, _, _, _, _, _, _, _, _, _, rfl, _⟩ := h; rfl) | (obtain ⟨_, _, _, _, _, _, _, _, _, _, _, _, _, _, _, _, _, _, _, _, _, _, _, _, _, _, rfl, _⟩ := h; rfl) | (obtain ⟨_, _, _, _, _, _, _, _, _, _, _, _, _, _, _, _, _, _, _, _, _, _, _, _, _, _, _, rfl, _⟩ := h; rfl) | (obtain ⟨_, _, _, _, _, _, _, _, _, _, _, _, _, _, _, _, _, _, _, _, _, _, _, _, _, _, _, _, rfl, _⟩ := h; rfl) | (obtain ⟨_, _, _, _, _, _, _, _, _, _, _, _, _, _, _, _, _, _, _, _, _, _, _, _, _, _, _, _, _, rfl, _⟩ := h; rfl) | (obtain ⟨_, _, _, _, _, _, _, _, _, _, _, _, _, _, _, _, _, _, _, _, _, _, _, _, _, _, _, _, _, _, rfl, _⟩ := h; rfl)
  · exact (pss_cons (ps_set (i := 1) sc_L_trim.nd rfl (Or.inl rfl) (pe_callB call_len_seq (by rfl) m_len PySem.boot_len (pa_cons (pv 0) pa_nil)))
      (pss_cons (ps_while PassesOwn.never (PW.pt (pw_and (pt_cmpR op_gt (pv 1) pe_int (nomark _)) (pw_and1 (pt_cmpR op_eq (pe_ix ix_list (pv 0) (pe_op op_sub (pv 1) pe_int) (fun _ _ => rfl)) pe_int (nomark _))))) (pss_one (ps_set (i := 1) sc_L_trim.nd rfl (Or.inl rfl) (pe_op op_sub (pv 1) pe_int))))
      (pss_one (ps_ret (pe_slice sl_list (pv 0) po_none (po_some (pv 1)))))))
theorem ok_L_same {f : Addr} {fd : FuncData} (F : Fun K "_law_same" "_law_same" s_L_same f fd)   (c_L_whole : Cl P w K mg base 1 "_law_whole" (sp_L_whole K)) (m_isinstance : mg "isinstance" = none) (m_len : mg "len" = none) (m_list : mg "list" = none) (m_range : mg "range" = none) : FnOk P w K mg base CX0 2 f fd ["_law_found", "_law_due_here"] (sp_L_same K) := by
  refine F.ok sc_L_same (fun vs H Q E h => ?_) (fun cdv A outer s H vs Q E hr h => ⟨t_L_same K, ?_, run_L_same  h⟩)
  · first | (obtain ⟨_, rfl, _⟩ := h; rfl) | (obtain ⟨_, _, rfl, _⟩ := h; rfl) | (obtain ⟨_, _, _, rfl, _⟩ := h; rfl) | (obtain ⟨_, _, _, _, rfl, _⟩ := h; rfl) | (obtain ⟨_, _, _, _, _, rfl, _⟩ := h; rfl) | (obtain ⟨_, _, _, _, _, _, rfl, _⟩ := h; rfl) | (obtain ⟨_, _, _, _, _, _, _, rfl, _⟩ := h; rfl) | (obtain ⟨_, _, _, _, _, _, _, _, rfl, _⟩ := h; rfl) | (obtain ⟨_, _, _, _, _, _, _, _, _, rfl, _⟩ := h; rfl) | (obtain ⟨_, _, _, _, _, _, _, _, _, _, rfl, _⟩ := h; rfl) | (obtain ⟨_, _, _, _, _, _, _, _, _, _, _, rfl, _⟩ := h; rfl) | (obtain ⟨_, _, _, _, _, _, _, _, _, _, _, _, rfl, _⟩ := h; rfl) | (obtain ⟨_, _, _, _, _, _, _, _, _, _, _, _, _, rfl, _⟩ := h; rfl) | (obtain ⟨_, _, _, _, _, _, _, _, _, _, _, _, _, _, rfl, _⟩ := h; rfl) | (obtain ⟨_, _, _, _, _, _, _, _, _, _, _, _, _, _, _, rfl, _⟩ := h; rfl) | (obtain ⟨_, _, _, _, _, _, _, _, _, _, _, _, _, _, _, _, rfl, _⟩ := h; rfl) | (obtain ⟨_, _, _, _, _, _, _, _, _, _, _, _, _, _, _, _, _, rfl, _⟩ := h; rfl) | (obtain ⟨_, _, _, _, _, _, _, _, _, _, _, _, _, _, _, _, _, _, rfl, _⟩ := h; rfl) | (obtain ⟨_, _, _, _, _, _, _, _, _, _, _, _, _, _, _, _, _, _, _, rfl, _⟩ := h; rfl) | (obtain ⟨_, _, _, _, _, _, _, _, _, _, _, _, _, _, _, _, _, _, _, _, rfl, _⟩ := h; rfl) | (obtain ⟨_, _, _, _, _, _, _, _, _, _, _, _, _, _, _, _, _, _, _, _, _, rfl, _⟩ := h; rfl) | (obtain ⟨_, _, _, _, _, _, _, _, _, _, _, _, _, _, _, _, _, _, _, _, _, _, rfl, _⟩ := h; rfl) | (obtain ⟨_, _, _, _, _, _, _, _, _, _, _, _, _, _, _, _, _, _, _, _, _, _, _, rfl, _⟩ := h; rfl) | (obtain ⟨_, _, _, _, _, _, _, _, _, _, _, _, _, _, _, _, _, _, _, _, _, _, _, _, rfl, _⟩ := h; rfl) | (obtain ⟨_, _, _, _, _, _, _, _, _, _, _, _, _, _, _, _, _, _, _, _, _, _, _, _, _, rfl, _⟩ := h; rfl) | (obtain ⟨_, _, _, _, _, _, _, _, _, _, _, _, _, _, _, _, _, _, _, _, _, _, _, _, _, _, rfl, _⟩ := h; rfl) | (obtain ⟨_, _, _, _, _, _, _, _, _, _, _, _, _, _, _, _, _, _, _, _, _, _, _, _, _, _, _, rfl, _⟩ := h; rfl) | (obtain ⟨_, _, _, _, _, _, _, _, _, _, _, _, _, _, _, _, _, _, _, _, _, _, _, _, _, _, _, _, rfl, _⟩ := h; rfl) | (obtain ⟨_, _, _, _, _, _, _, _, _, _, _, _, _, _, _, _, _, _, _, _, _, _, _, _, _, _, _, _, _, rfl, _⟩ := h; rfl) | (obtain ⟨_, _, _, _, _, _, _, _, _, _, _, _, _, _, _, _, _, _, _, _, _, _, _, _, _, _, _, _, _, _, rfl, _⟩ := h; rfl)
  · exact (pss_cons (ps_if (PW.pt (pw_or (pt_not (pt_val (pe_callB call_isi (by rfl) m_isinstance (by decide +kernel) (pa_cons (pv 0) (pa_cons (pe_bltn (by rfl) m_list (by decide +kernel) rfl) pa_nil))))) (pw_or1 (pt_cmpR op_ne (pe_callB call_len_seq (by rfl) m_len PySem.boot_len (pa_cons (pv 0) pa_nil)) (pe_callB call_len_seq (by rfl) m_len PySem.boot_len (pa_cons (pv 1) pa_nil)) (nomark _))))) (pss_one (ps_ret pe_bl)) pss_nil)
      (pss_cons (ps_for PassesOwn.never rfl (pi_range1 (by rfl) m_range (pa_cons (pe_callB call_len_seq (by rfl) m_len PySem.boot_len (pa_cons (pv 1) pa_nil)) pa_nil)) (pg_name (i := 2) sc_L_same.nd rfl (Or.inl rfl)) (pss_one (ps_if (PW.pt (pw_or (pt_not (pt_val (pcl c_L_whole hr (by decide) (by rfl) (pa_cons (pe_ix ix_list (pv 0) (pv 2) (fun _ _ => rfl)) pa_nil)))) (pw_or1 (pt_cmpR op_ne (pe_ix ix_list (pv 0) (pv 2) (fun _ _ => rfl)) (pe_ix ix_list (pv 1) (pv 2) (fun _ _ => rfl)) (nomark _))))) (pss_one (ps_ret pe_bl)) pss_nil)))
      (pss_one (ps_ret pe_bl))))
theorem ok_L_number {f : Addr} {fd : FuncData} (F : Fun K "_law_number" "_law_number" s_L_number f fd)     : FnOk P w K mg base CX0 1 f fd ["_law_cell"] (sp_L_number K) := by
  refine F.ok sc_L_number (fun vs H Q E h => ?_) (fun cdv A outer s H vs Q E hr h => ⟨t_L_number K, ?_, run_L_number  h⟩)
  · first | (obtain ⟨_, rfl, _⟩ := h; rfl) | (obtain ⟨_, _, rfl, _⟩ := h; rfl) | (obtain ⟨_, _, _, rfl, _⟩ := h; rfl) | (obtain ⟨_, _, _, _, rfl, _⟩ := h; rfl) | (obtain ⟨_, _, _, _, _, rfl, _⟩ := h; rfl) | (obtain ⟨_, _, _, _, _, _, rfl, _⟩ := h; rfl) | (obtain ⟨_, _, _, _, _, _, _, rfl, _⟩ := h; rfl) | (obtain ⟨_, _, _, _, _, _, _, _, rfl, _⟩ := h; rfl) | (obtain ⟨_, _, _, _, _, _, _, _, _, rfl, _⟩ := h; rfl) | (obtain ⟨_, _, _, _, _, _, _, _, _, _, rfl, _⟩ := h; rfl) | (obtain ⟨_, _, _, _, _, _, _, _, _, _, _, rfl, _⟩ := h; rfl) | (obtain ⟨_, _, _, _, _, _, _, _, _, _, _, _, rfl, _⟩ := h; rfl) | (obtain ⟨_, _, _, _, _, _, _, _, _, _, _, _, _, rfl, _⟩ := h; rfl) | (obtain ⟨_, _, _, _, _, _, _, _, _, _, _, _, _, _, rfl, _⟩ := h; rfl) | (obtain ⟨_, _, _, _, _, _, _, _, _, _, _, _, _, _, _, rfl, _⟩ := h; rfl) | (obtain ⟨_, _, _, _, _, _, _, _, _, _, _, _, _, _, _, _, rfl, _⟩ := h; rfl) | (obtain ⟨_, _, _, _, _, _, _, _, _, _, _, _, _, _, _, _, _, rfl, _⟩ := h; rfl) | (obtain ⟨_, _, _, _, _, _, _, _, _, _, _, _, _, _, _, _, _, _, rfl, _⟩ := h; rfl) | (obtain ⟨_, _, _, _, _, _, _, _, _, _, _, _, _, _, _, _, _, _, _, rfl, _⟩ := h; rfl) | (obtain ⟨_, _, _, _, _, _, _, _, _, _, _, _, _, _, _, _, _, _, _, _, rfl, _⟩ := h; rfl) | (obtain ⟨_, _, _, _, _, _, _, _, _, _, _, _, _, _, _, _, _, _, _, _, _, rfl, _⟩ := h; rfl) | (obtain ⟨_, _, _, _, _, _, _, _, _, _, _, _, _, _, _, _, _, _, _, _, _, _, rfl, _⟩ := h; rfl) | (obtain ⟨_, _, _, _, _, _, _, _, _, _, _, _, _, _, _, _, _, _, _, _, _, _, _, rfl, _⟩ := h; rfl) | (obtain ⟨_, _, _, _, _, _, _, _, _, _, _, _, _, _, _, _, _, _, _, _, _, _, _, _, rfl, _⟩ := h; rfl) | (obtain ⟨_, _, _, _, _, _, _, _, _, _, _, _, _, _, _, _, _, _, _, _, _, _, _, _, _, rfl, _⟩ := h; rfl) | (obtain ⟨_, _, _, _, _, _, _, _, _, _, _, _, _, _, _, _, _, _, _, _, _, _, _, _, _, _, rfl, _⟩ := h; rfl) | (obtain ⟨_, _, _, _, _, _, _, _, _, _, _, _, _, _, _, _, _, _, _, _, _, _, _, _, _, _, _, rfl, _⟩ := h; rfl) | (obtain ⟨_, _, _, _, _, _, _, _, _, _, _, _, _, _, _, _, _, _, _, _, _, _, _, _, _, _, _, _, rfl, _⟩ := h; rfl) | (obtain ⟨_, _, _, _, _, _, _, _, _, _, _, _, _, _, _, _, _, _, _, _, _, _, _, _, _, _, _, _, _, rfl, _⟩ := h; rfl) | (obtain ⟨_, _, _, _, _, _, _, _, _, _, _, _, _, _, _, _, _, _, _, _, _, _, _, _, _, _, _, _, _, _, rfl, _⟩ := h; rfl)
  · exact (pss_cons (ps_if (pt_cmpR op_eq (pe_op op_mod (pv 0) pe_int) pe_int (nomark _)) (pss_one (ps_ret pe_int)) pss_nil)
      (pss_cons (ps_if (pt_cmpR op_eq (pe_op op_mod (pv 0) pe_int) pe_int (nomark _)) (pss_one (ps_ret (pe_op op_mulX (pe_op op_sub pe_int (pe_op op_mulX (pe_op op_mod (pe_op op_fdivW (pv 0) pe_int) pe_int) pe_int)) (pe_op op_mod (pe_op op_fdivW (pv 0) pe_int) (pe_op op_pow pe_int pe_int))))) pss_nil)
      (pss_cons (ps_if (pt_cmpR op_lt (pe_op op_mod (pv 0) pe_int) pe_int (nomark _)) (pss_one (ps_ret (pe_op op_sub (pe_op op_mod (pe_op op_fdivW (pv 0) pe_int) pe_int) pe_int))) pss_nil)
      (pss_one (ps_ret (pe_op op_sub (pe_op op_mod (pe_op op_fdivW (pv 0) pe_int) pe_int) pe_int))))))
theorem ok_L_drawn {f : Addr} {fd : FuncData} (F : Fun K "_law_drawn" "_law_drawn" s_L_drawn f fd)   (c_L_cell_at : Cl P w K mg base 1 "_law_cell_at" (sp_L_cell_at K)) (c_L_number : Cl P w K mg base 1 "_law_number" (sp_L_number K)) (c_L_trim : Cl P w K mg base 1 "_law_trim" (sp_L_trim K)) (m_range : mg "range" = none) : FnOk P w K mg base CX0 2 f fd ["_law_script", "_law_place", "_law_size", "_law_many"] (sp_L_drawn K) := by
  refine F.ok sc_L_drawn (fun vs H Q E h => ?_) (fun cdv A outer s H vs Q E hr h => ⟨t_L_drawn K, ?_, run_L_drawn  h⟩)
  · first | (obtain ⟨_, rfl, _⟩ := h; rfl) | (obtain ⟨_, _, rfl, _⟩ := h; rfl) | (obtain ⟨_, _, _, rfl, _⟩ := h; rfl) | (obtain ⟨_, _, _, _, rfl, _⟩ := h; rfl) | (obtain ⟨_, _, _, _, _, rfl, _⟩ := h; rfl) | (obtain ⟨_, _, _, _, _, _, rfl, _⟩ := h; rfl) | (obtain ⟨_, _, _, _, _, _, _, rfl, _⟩ := h; rfl) | (obtain ⟨_, _, _, _, _, _, _, _, rfl, _⟩ := h; rfl) | (obtain ⟨_, _, _, _, _, _, _, _, _, rfl, _⟩ := h; rfl) | (obtain ⟨_, _, _, _, _, _, _, _, _, _, rfl, _⟩ := h; rfl) | (obtain ⟨_, _, _, _, _, _, _, _, _, _, _, rfl, _⟩ := h; rfl) | (obtain ⟨_, _, _, _, _, _, _, _, _, _, _, _, rfl, _⟩ := h; rfl) | (obtain ⟨_, _, _, _, _, _, _, _, _, _, _, _, _, rfl, _⟩ := h; rfl) | (obtain ⟨_, _, _, _, _, _, _, _, _, _, _, _, _, _, rfl, _⟩ := h; rfl) | (obtain ⟨_, _, _, _, _, _, _, _, _, _, _, _, _, _, _, rfl, _⟩ := h; rfl) | (obtain ⟨_, _, _, _, _, _, _, _, _, _, _, _, _, _, _, _, rfl, _⟩ := h; rfl) | (obtain ⟨_, _, _, _, _, _, _, _, _, _, _, _, _, _, _, _, _, rfl, _⟩ := h; rfl) | (obtain ⟨_, _, _, _, _, _, _, _, _, _, _, _, _, _, _, _, _, _, rfl, _⟩ := h; rfl) | (obtain ⟨_, _, _, _, _, _, _, _, _, _, _, _, _, _, _, _, _, _, _, rfl, _⟩ := h; rfl) | (obtain ⟨_, _, _, _, _, _, _, _, _, _, _, _, _, _, _, _, _, _, _, _, rfl, _⟩ := h; rfl) | (obtain ⟨_, _, _, _, _, _, _, _, _, _, _, _, _, _, _, _, _, _, _, _, _, rfl, _⟩ := h; rfl) | (obtain ⟨_, _, _, _, _, _, _, _, _, _, _, _, _, _, _, _, _, _, _, _, _, _, rfl, _⟩ := h; rfl) | (obtain ⟨_, _, _, _, _, _, _, _, _, _, _, _, _, _, _, _, _, _, _, _, _, _, _, rfl, _⟩ := h; rfl) | (obtain ⟨_, _, _, _, _, _, _, _, _, _, _, _, _, _, _, _, _, _, _, _, _, _, _, _, rfl, _⟩ := h; rfl) | (obtain ⟨_, _, _, _, _, _, _, _, _, _, _, _, _, _, _, _, _, _, _, _, _, _, _, _, _, rfl, _⟩ := h; rfl) | (obtain ⟨_, _, _, _, _, _, _, _, _, _, _, _, _, _, _, _, _, _, _, _, _, _, _, _, _, _, rfl, _⟩ := h; rfl) | (obtain ⟨_, _, _, _, _, _, _, _, _, _, _, _, _, _, _, _, _, _, _, _, _, _, _, _, _, _, _, rfl, _⟩ := h; rfl) | (obtain ⟨_, _, _, _, _, _, _, _, _, _, _, _, _, _, _, _, _, _, _, _, _, _, _, _, _, _, _, _, rfl, _⟩ := h; rfl) | (obtain ⟨_, _, _, _, _, _, _, _, _, _, _, _, _, _, _, _, _, _, _, _, _, _, _, _, _, _, _, _, _, rfl, _⟩ := h; rfl) | (obtain ⟨_, _, _, _, _, _, _, _, _, _, _, _, _, _, _, _, _, _, _, _, _, _, _, _, _, _, _, _, _, _, rfl, _⟩ := h; rfl)
  · exact (pss_cons (ps_setLc (i := 4) (own := [("_law_k", 5)]) (g := (gName 5)) (by rfl) sc_L_drawn.nd rfl rfl (sw_true rfl rfl rfl (by decide +kernel)) (pi_range1 (by rfl) m_range (pa_cons (pv 2) pa_nil)) (blkOk_by (own := [("_law_k", 5)]) (N := ["_law_script", "_law_place", "_law_size", "_law_many", "_law_row", "_law_k"]) (sc := defScope s_L_drawn) (by decide +kernel)) (fun _ _ _ _ _ => (pg_name (i := 5) sc_L_drawn.nd rfl (Or.inl rfl))) (fun _ _ _ _ _ => pts_nil) (fun _ _ _ _ _ => (pcl c_L_number hr (by decide) (by rfl) (pa_cons (pcl c_L_cell_at hr (by decide) (by rfl) (pa_cons (pv 0) (pa_cons (pe_op op_add (pv 1) (pv 5)) pa_nil))) pa_nil))))
      (pss_cons (ps_if (pt_cmpR op_gt (pv 3) pe_int (nomark _)) (pss_one (ps_setLc (i := 4) (own := [("_law_k", 5)]) (g := (gName 5)) (by rfl) sc_L_drawn.nd rfl rfl (sw_true rfl rfl rfl (by decide +kernel)) (pi_range1 (by rfl) m_range (pa_cons (pv 3) pa_nil)) (blkOk_by (own := [("_law_k", 5)]) (N := ["_law_script", "_law_place", "_law_size", "_law_many", "_law_row", "_law_k"]) (sc := defScope s_L_drawn) (by decide +kernel)) (fun _ _ _ _ _ => (pg_name (i := 5) sc_L_drawn.nd rfl (Or.inl rfl))) (fun _ _ _ _ _ => pts_nil) (fun _ _ _ _ _ => (pcl c_L_number hr (by decide) (by rfl) (pa_cons (pe_op op_add (pe_op op_add (pcl c_L_cell_at hr (by decide) (by rfl) (pa_cons (pv 0) (pa_cons (pv 1) pa_nil))) (pe_op op_mulX (pe_op op_mulX pe_int (pv 5)) (pv 5))) (pe_op op_mulX pe_int (pv 5))) pa_nil))))) pss_nil)
      (pss_one (ps_ret (pcl c_L_trim hr (by decide) (by rfl) (pa_cons (pv 4) pa_nil))))))
theorem ok_L_written {f : Addr} {fd : FuncData} (F : Fun K "_law_written" "_law_written" s_L_written f fd)    (m_abs : mg "abs" = none) (m_len : mg "len" = none) (m_range : mg "range" = none) (m_str : mg "str" = none) : FnOk P w K mg base CX0 1 f fd ["_law_row"] (sp_L_written K) := by
  refine F.ok sc_L_written (fun vs H Q E h => ?_) (fun cdv A outer s H vs Q E hr h => ⟨t_L_written K, ?_, run_L_written  h⟩)
  · first | (obtain ⟨_, rfl, _⟩ := h; rfl) | (obtain ⟨_, _, rfl, _⟩ := h; rfl) | (obtain ⟨_, _, _, rfl, _⟩ := h; rfl) | (obtain ⟨_, _, _, _, rfl, _⟩ := h; rfl) | (obtain ⟨_, _, _, _, _, rfl, _⟩ := h; rfl) | (obtain ⟨_, _, _, _, _, _, rfl, _⟩ := h; rfl) | (obtain ⟨_, _, _, _, _, _, _, rfl, _⟩ := h; rfl) | (obtain ⟨_, _, _, _, _, _, _, _, rfl, _⟩ := h; rfl) | (obtain ⟨_, _, _, _, _, _, _, _, _, rfl, _⟩ := h; rfl) | (obtain ⟨_, _, _, _, _, _, _, _, _, _, rfl, _⟩ := h; rfl) | (obtain ⟨_, _, _, _, _, _, _, _, _, _, _, rfl, _⟩ := h; rfl) | (obtain ⟨_, _, _, _, _, _, _, _, _, _, _, _, rfl, _⟩ := h; rfl) | (obtain ⟨_, _, _, _, _, _, _, _, _, _, _, _, _, rfl, _⟩ := h; rfl) | (obtain ⟨_, _, _, _, _, _, _, _, _, _, _, _, _, _, rfl, _⟩ := h; rfl) | (obtain ⟨_, _, _, _, _, _, _, _, _, _, _, _, _, _, _, rfl, _⟩ := h; rfl) | (obtain ⟨_, _, _, _, _, _, _, _, _, _, _, _, _, _, _, _, rfl, _⟩ := h; rfl) | (obtain ⟨_, _, _, _, _, _, _, _, _, _, _, _, _, _, _, _, _, rfl, _⟩ := h; rfl) | (obtain ⟨_, _, _, _, _, _, _, _, _, _, _, _, _, _, _, _, _, _, rfl, _⟩ := h; rfl) | (obtain ⟨_, _, _, _, _, _, _, _, _, _, _, _, _, _, _, _, _, _, _, rfl, _⟩ := h; rfl) | (obtain ⟨_, _, _, _, _, _, _, _, _, _, _, _, _, _, _, _, _, _, _, _, rfl, _⟩ := h; rfl) | (obtain ⟨_, _, _, _, _, _, _, _, _, _, _, _, _, _, _, _, _, _, _, _, _, rfl, _⟩ := h; rfl) | (obtain ⟨_, _, _, _, _, _, _, _, _, _, _, _, _, _, _, _, _, _, _, _, _, _, rfl, _⟩ := h; rfl) | (obtain ⟨_, _, _, _, _, _, _, _, _, _, _, _, _, _, _, _, _, _, _, _, _, _, _, rfl, _⟩ := h; rfl) | (obtain ⟨_, _, _, _, _, _, _, _, _, _, _, _, _, _, _, _, _, _, _, _, _, _, _, _, rfl, _⟩ := h; rfl) | (obtain ⟨_, _, _, _, _, _, _, _, _, _, _, _, _, _, _, _, _, _, _, _, _, _, _, _, _, rfl, _⟩ := h; rfl) | (obtain ⟨_, _, _, _, _, _, _, _, _, _, _, _, _, _, _, _, _, _, _, _, _, _, _, _, _, _, rfl, _⟩ := h; rfl) | (obtain ⟨_, _, _, _, _, _, _, _, _, _, _, _, _, _, _, _, _, _, _, _, _, _, _, _, _, _, _, rfl, _⟩ := h; rfl) | (obtain ⟨_, _, _, _, _, _, _, _, _, _, _, _, _, _, _, _, _, _, _, _, _, _, _, _, _, _, _, _, rfl, _⟩ := h; rfl) | (obtain ⟨_, _, _, _, _, _, _, _, _, _, _, _, _, _, _, _, _, _, _, _, _, _, _, _, _, _, _, _, _, rfl, _⟩ := h; rfl) | (obtain ⟨_, _, _, _, _, _, _, _, _, _, _, _, _, _, _, _, _, _, _, _, _, _, _, _, _, _, _, _, _, _, rfl, _⟩ := h; rfl)
  · exact (pss_cons (ps_set (i := 1) sc_L_written.nd rfl (Or.inl rfl) pe_str)
      (pss_cons (ps_for PassesOwn.never rfl (pi_range1 (by rfl) m_range (pa_cons (pe_callB call_len_seq (by rfl) m_len PySem.boot_len (pa_cons (pv 0) pa_nil)) pa_nil)) (pg_name (i := 2) sc_L_written.nd rfl (Or.inl rfl)) (pss_cons (ps_set (i := 3) sc_L_written.nd rfl (Or.inl rfl) (pe_op op_sub (pe_op op_sub (pe_callB call_len_seq (by rfl) m_len PySem.boot_len (pa_cons (pv 0) pa_nil)) pe_int) (pv 2)))
      (pss_one (ps_if (pt_cmpR op_ne (pe_ix ix_list (pv 0) (pv 3) (fun _ _ => rfl)) pe_int (nomark _)) (pss_cons (ps_set (i := 4) sc_L_written.nd rfl (Or.inl rfl) (pe_callTy call_str_int (by rfl) m_str (by decide +kernel) (pa_cons (pe_callB call_abs (by rfl) m_abs (by decide +kernel) (pa_cons (pe_ix ix_list (pv 0) (pv 3) (fun _ _ => rfl)) pa_nil)) pa_nil)))
      (pss_cons (ps_if (PW.pt (pw_and (pt_cmpR op_gt (pv 3) pe_int (nomark _)) (pw_and1 (pt_cmpR op_eq (pv 4) pe_str (nomark _))))) (pss_one (ps_set (i := 4) sc_L_written.nd rfl (Or.inl rfl) pe_str)) pss_nil)
      (pss_cons (ps_if (pt_cmpR op_eq (pv 3) pe_int (nomark _)) (pss_one (ps_set (i := 4) sc_L_written.nd rfl (Or.inl rfl) (pe_op op_add_str (pv 4) pe_str))) pss_nil)
      (pss_cons (ps_if (pt_cmpR op_gt (pv 3) pe_int (nomark _)) (pss_one (ps_set (i := 4) sc_L_written.nd rfl (Or.inl rfl) (pe_op op_add_str (pe_op op_add_str (pv 4) pe_str) (pe_callTy call_str_int (by rfl) m_str (by decide +kernel) (pa_cons (pv 3) pa_nil))))) pss_nil)
      (pss_cons (ps_if (PW.pt (pw_and (pt_cmpR op_ne (pv 1) pe_str (nomark _)) (pw_and1 (pt_cmpR op_gt (pe_ix ix_list (pv 0) (pv 3) (fun _ _ => rfl)) pe_int (nomark _))))) (pss_one (ps_set (i := 4) sc_L_written.nd rfl (Or.inl rfl) (pe_op op_add_str pe_str (pv 4)))) pss_nil)
      (pss_cons (ps_if (PW.pt (pw_and (pt_cmpR op_ne (pv 1) pe_str (nomark _)) (pw_and1 (pt_cmpR op_lt (pe_ix ix_list (pv 0) (pv 3) (fun _ _ => rfl)) pe_int (nomark _))))) (pss_one (ps_set (i := 4) sc_L_written.nd rfl (Or.inl rfl) (pe_op op_add_str pe_str (pv 4)))) pss_nil)
      (pss_cons (ps_if (PW.pt (pw_and (pt_cmpR op_eq (pv 1) pe_str (nomark _)) (pw_and1 (pt_cmpR op_lt (pe_ix ix_list (pv 0) (pv 3) (fun _ _ => rfl)) pe_int (nomark _))))) (pss_one (ps_set (i := 4) sc_L_written.nd rfl (Or.inl rfl) (pe_op op_add_str pe_str (pv 4)))) pss_nil)
      (pss_one (ps_set (i := 1) sc_L_written.nd rfl (Or.inl rfl) (pe_op op_add_str (pv 1) (pv 4))))))))))) pss_nil))))
      (pss_cons (ps_if (pt_cmpR op_eq (pv 1) pe_str (nomark _)) (pss_one (ps_ret pe_str)) pss_nil)
      (pss_one (ps_ret (pv 1))))))
theorem ok_L_figures {f : Addr} {fd : FuncData} (F : Fun K "_law_figures" "_law_figures" s_L_figures f fd)    (m_int : mg "int" = none) (m_len : mg "len" = none) : FnOk P w K mg base CX0 1 f fd ["_law_word", "_law_most"] (sp_L_figures K) := by
  refine F.ok sc_L_figures (fun vs H Q E h => ?_) (fun cdv A outer s H vs Q E hr h => ⟨t_L_figures K, ?_, run_L_figures  h⟩)
  · first | (obtain ⟨_, rfl, _⟩ := h; rfl) | (obtain ⟨_, _, rfl, _⟩ := h; rfl) | (obtain ⟨_, _, _, rfl, _⟩ := h; rfl) | (obtain ⟨_, _, _, _, rfl, _⟩ := h; rfl) | (obtain ⟨_, _, _, _, _, rfl, _⟩ := h; rfl) | (obtain ⟨_, _, _, _, _, _, rfl, _⟩ := h; rfl) | (obtain ⟨_, _, _, _, _, _, _, rfl, _⟩ := h; rfl) | (obtain ⟨_, _, _, _, _, _, _, _, rfl, _⟩ := h; rfl) | (obtain ⟨_, _, _, _, _, _, _, _, _, rfl, _⟩ := h; rfl) | (obtain ⟨_, _, _, _, _, _, _, _, _, _, rfl, _⟩ := h; rfl) | (obtain ⟨_, _, _, _, _, _, _, _, _, _, _, rfl, _⟩ := h; rfl) | (obtain ⟨_, _, _, _, _, _, _, _, _, _, _, _, rfl, _⟩ := h; rfl) | (obtain ⟨_, _, _, _, _, _, _, _, _, _, _, _, _, rfl, _⟩ := h; rfl) | (obtain ⟨_, _, _, _, _, _, _, _, _, _, _, _, _, _, rfl, _⟩ := h; rfl) | (obtain ⟨_, _, _, _, _, _, _, _, _, _, _, _, _, _, _, rfl, _⟩ := h; rfl) | (obtain ⟨_, _, _, _, _, _, _, _, _, _, _, _, _, _, _, _, rfl, _⟩ := h; rfl) | (obtain ⟨_, _, _, _, _, _, _, _, _, _, _, _, _, _, _, _, _, rfl, _⟩ := h; rfl) | (obtain ⟨_, _, _, _, _, _, _, _, _, _, _, _, _, _, _, _, _, _, rfl, _⟩ := h; rfl) | (obtain ⟨_, _, _, _, _, _, _, _, _, _, _, _, _, _, _, _, _, _, _, rfl, _⟩ := h; rfl) | (obtain ⟨_, _, _, _, _, _, _, _, _, _, _, _, _, _, _, _, _, _, _, _, rfl, _⟩ := h; rfl) | (obtain ⟨_, _, _, _, _, _, _, _, _, _, _, _, _, _, _, _, _, _, _, _, _, rfl, _⟩ := h; rfl) | (obtain ⟨_, _, _, _, _, _, _, _, _, _, _, _, _, _, _, _, _, _, _, _, _, _, rfl, _⟩ := h; rfl) | (obtain ⟨_, _, _, _, _, _, _, _, _, _, _, _, _, _, _, _, _, _, _, _, _, _, _, rfl, _⟩ := h; rfl) | (obtain ⟨_, _, _, _, _, _, _, _, _, _, _, _, _, _, _, _, _, _, _, _, _, _, _, _, rfl, _⟩ := h; rfl) | (obtain ⟨_, _, _, _, _, _, _, _, _, _, _, _, _, _, _, _, _, _, _, _, _, _, _, _, _, rfl, _⟩ := h; rfl) | (obtain ⟨_, _, _, _, _, _, _, _, _, _, _, _, _, _, _, _, _, _, _, _, _, _, _, _, _, _, rfl, _⟩ := h; rfl) | (obtain ⟨_, _, _, _, _, _, _, _, _, _, _, _, _, _, _, _, _, _, _, _, _, _, _, _, _, _, _, rfl, _⟩ := h; rfl) | (obtain ⟨_, _, _, _, _, _, _, _, _, _, _, _, _, _, _, _, _, _, _, _, _, _, _, _, _, _, _, _, rfl, _⟩ := h; rfl) | (obtain ⟨_, _, _, _, _, _, _, _, _, _, _, _, _, _, _, _, _, _, _, _, _, _, _, _, _, _, _, _, _, rfl, _⟩ := h; rfl) | (obtain ⟨_, _, _, _, _, _, _, _, _, _, _, _, _, _, _, _, _, _, _, _, _, _, _, _, _, _, _, _, _, _, rfl, _⟩ := h; rfl)
  · exact (pss_cons (ps_if (PW.pt (pw_or (pt_cmpR op_eq (pv 0) pe_str (nomark _)) (pw_or1 (pt_cmpR op_gt (pe_callB call_len_str (by rfl) m_len PySem.boot_len (pa_cons (pv 0) pa_nil)) (pv 1) (nomark _))))) (pss_one (ps_ret (pe_un un_neg pe_int))) pss_nil)
      (pss_cons (ps_for PassesOwn.never rfl (pi_str (pv 0)) (pg_name (i := 2) sc_L_figures.nd rfl (Or.inl rfl)) (pss_one (ps_if (pt_cmpR op_notin_str (pv 2) pe_str (by rfl)) (pss_one (ps_ret (pe_un un_neg pe_int))) pss_nil)))
      (pss_one (ps_ret (pe_callTy call_int_str (by rfl) m_int (by decide +kernel) (pa_cons (pv 0) pa_nil))))))
theorem ok_L_term {f : Addr} {fd : FuncData} (F : Fun K "_law_term" "_law_term" s_L_term f fd)   (c_L_figures : Cl P w K mg base 1 "_law_figures" (sp_L_figures K)) (m_len : mg "len" = none) : FnOk P w K mg base CX0 2 f fd ["_law_word"] (sp_L_term K) := by
  refine F.ok sc_L_term (fun vs H Q E h => ?_) (fun cdv A outer s H vs Q E hr h => ⟨t_L_term K, ?_, run_L_term  h⟩)
  · first | (obtain ⟨_, rfl, _⟩ := h; rfl) | (obtain ⟨_, _, rfl, _⟩ := h; rfl) | (obtain ⟨_, _, _, rfl, _⟩ := h; rfl) | (obtain ⟨_, _, _, _, rfl, _⟩ := h; rfl) | (obtain ⟨_, _, _, _, _, rfl, _⟩ := h; rfl) | (obtain ⟨_, _, _, _, _, _, rfl, _⟩ := h; rfl) | (obtain ⟨_, _, _, _, _, _, _, rfl, _⟩ := h; rfl) | (obtain ⟨_, _, _, _, _, _, _, _, rfl, _⟩ := h; rfl) | (obtain ⟨_, _, _, _, _, _, _, _, _, rfl, _⟩ := h; rfl) | (obtain ⟨_, _, _, _, _, _, _, _, _, _, rfl, _⟩ := h; rfl) | (obtain ⟨_, _, _, _, _, _, _, _, _, _, _, rfl, _⟩ := h; rfl) | (obtain ⟨_, _, _, _, _, _, _, _, _, _, _, _, rfl, _⟩ := h; rfl) | (obtain ⟨_, _, _, _, _, _, _, _, _, _, _, _, _, rfl, _⟩ := h; rfl) | (obtain ⟨_, _, _, _, _, _, _, _, _, _, _, _, _, _, rfl, _⟩ := h; rfl) | (obtain ⟨_, _, _, _, _, _, _, _, _, _, _, _, _, _, _, rfl, _⟩ := h; rfl) | (obtain ⟨_, _, _, _, _, _, _, _, _, _, _, _, _, _, _, _, rfl, _⟩ := h; rfl) | (obtain ⟨_, _, _, _, _, _, _, _, _, _, _, _, _, _, _, _, _, rfl, _⟩ := h; rfl) | (obtain ⟨_, _, _, _, _, _, _, _, _, _, _, _, _, _, _, _, _, _, rfl, _⟩ := h; rfl) | (obtain ⟨_, _, _, _, _, _, _, _, _, _, _, _, _, _, _, _, _, _, _, rfl, _⟩ := h; rfl) | (obtain ⟨_, _, _, _, _, _, _, _, _, _, _, _, _, _, _, _, _, _, _, _, rfl, _⟩ := h; rfl) | (obtain ⟨_, _, _, _, _, _, _, _, _, _, _, _, _, _, _, _, _, _, _, _, _, rfl, _⟩ := h; rfl) | (obtain ⟨_, _, _, _, _, _, _, _, _, _, _, _, _, _, _, _, _, _, _, _, _, _, rfl, _⟩ := h; rfl) | (obtain ⟨_, _, _, _, _, _, _, _, _, _, _, _, _, _, _, _, _, _, _, _, _, _, _, rfl, _⟩ := h; rfl) | (obtain ⟨_, _, _, _, _, _, _, _, _, _, _, _, _, _, _, _, _, _, _, _, _, _, _, _, rfl, _⟩ := h; rfl) | (obtain ⟨_, _, _, _, _, _, _, _, _, _, _, _, _, _, _, _, _, _, _, _, _, _, _, _, _, rfl, _⟩ := h; rfl) | (obtain ⟨_, _, _, _, _, _, _, _, _, _, _, _, _, _, _, _, _, _, _, _, _, _, _, _, _, _, rfl, _⟩ := h; rfl) | (obtain ⟨_, _, _, _, _, _, _, _, _, _, _, _, _, _, _, _, _, _, _, _, _, _, _, _, _, _, _, rfl, _⟩ := h; rfl) | (obtain ⟨_, _, _, _, _, _, _, _, _, _, _, _, _, _, _, _, _, _, _, _, _, _, _, _, _, _, _, _, rfl, _⟩ := h; rfl) | (obtain ⟨_, _, _, _, _, _, _, _, _, _, _, _, _, _, _, _, _, _, _, _, _, _, _, _, _, _, _, _, _, rfl, _⟩ := h; rfl) | (obtain ⟨_, _, _, _, _, _, _, _, _, _, _, _, _, _, _, _, _, _, _, _, _, _, _, _, _, _, _, _, _, _, rfl, _⟩ := h; rfl)
  · exact (pss_cons (ps_if (pt_cmpR op_notin_str pe_str (pv 0) (by rfl)) (pss_one (ps_ret (pe_tup (pa_cons (pcl c_L_figures hr (by decide) (by rfl) (pa_cons (pv 0) (pa_cons pe_int pa_nil))) (pa_cons pe_int pa_nil))))) pss_nil)
      (pss_cons (ps_set (i := 1) sc_L_term.nd rfl (Or.inl rfl) (pe_slice sl_str (pv 0) po_none (po_some (pe_bm PySem.F.plainAttrs_str PySem.F.slot_str_index PySem.F.type_str_index mt_sindex (pv 0) (pa_cons pe_str pa_nil)))))
      (pss_cons (ps_set (i := 2) sc_L_term.nd rfl (Or.inl rfl) (pe_slice sl_str (pv 0) (po_some (pe_op op_add (pe_callB call_len_str (by rfl) m_len PySem.boot_len (pa_cons (pv 1) pa_nil)) pe_int)) po_none))
      (pss_cons (ps_set (i := 3) sc_L_term.nd rfl (Or.inl rfl) pe_int)
      (pss_cons (ps_set (i := 4) sc_L_term.nd rfl (Or.inl rfl) pe_int)
      (pss_cons (ps_if (pt_cmpR op_ne (pv 1) pe_str (nomark _)) (pss_one (ps_set (i := 3) sc_L_term.nd rfl (Or.inl rfl) (pcl c_L_figures hr (by decide) (by rfl) (pa_cons (pv 1) (pa_cons pe_int pa_nil))))) pss_nil)
      (pss_cons (ps_if (pt_cmpR op_ne (pv 2) pe_str (nomark _)) (pss_cons (ps_set (i := 4) sc_L_term.nd rfl (Or.inl rfl) (pe_un un_neg pe_int))
      (pss_one (ps_if (pt_cmpR op_eq (pe_ix ix_str (pv 2) pe_int (fun _ _ => rfl)) pe_str (nomark _)) (pss_one (ps_set (i := 4) sc_L_term.nd rfl (Or.inl rfl) (pcl c_L_figures hr (by decide) (by rfl) (pa_cons (pe_slice sl_str (pv 2) (po_some pe_int) po_none) (pa_cons pe_int pa_nil))))) pss_nil))) pss_nil)
      (pss_one (ps_ret (pe_tup (pa_cons (pv 3) (pa_cons (pv 4) pa_nil))))))))))))
theorem ok_L_due {f : Addr} {fd : FuncData} (F : Fun K "_law_due" "_law_due" s_L_due f fd)   (c_L_term : Cl P w K mg base 2 "_law_term" (sp_L_term K)) (c_L_trim : Cl P w K mg base 1 "_law_trim" (sp_L_trim K)) (c_L_written : Cl P w K mg base 1 "_law_written" (sp_L_written K)) (m_len : mg "len" = none) (m_range : mg "range" = none) : FnOk P w K mg base CX0 3 f fd ["_law_line"] (sp_L_due K) := by
  refine F.ok sc_L_due (fun vs H Q E h => ?_) (fun cdv A outer s H vs Q E hr h => ⟨t_L_due K, ?_, run_L_due  h⟩)
  · first | (obtain ⟨_, rfl, _⟩ := h; rfl) | (obtain ⟨_, _, rfl, _⟩ := h; rfl) | (obtain ⟨_, _, _, rfl, _⟩ := h; rfl) | (obtain ⟨_, _, _, _, rfl, _⟩ := h; rfl) | (obtain ⟨_, _, _, _, _, rfl, _⟩ := h; rfl) | (obtain ⟨_, _, _, _, _, _, rfl, _⟩ := h; rfl) | (obtain ⟨_, _, _, _, _, _, _, rfl, _⟩ := h; rfl) | (obtain ⟨_, _, _, _, _, _, _, _, rfl, _⟩ := h; rfl) | (obtain ⟨_, _, _, _, _, _, _, _, _, rfl, _⟩ := h; rfl) | (obtain ⟨_, _, _, _, _, _, _, _, _, _, rfl, _⟩ := h; rfl) | (obtain ⟨_, _, _, _, _, _, _, _, _, _, _, rfl, _⟩ := h; rfl) | (obtain ⟨_, _, _, _, _, _, _, _, _, _, _, _, rfl, _⟩ := h; rfl) | (obtain ⟨_, _, _, _, _, _, _, _, _, _, _, _, _, rfl, _⟩ := h; rfl) | (obtain ⟨_, _, _, _, _, _, _, _, _, _, _, _, _, _, rfl, _⟩ := h; rfl) | (obtain ⟨_, _, _, _, _, _, _, _, _, _, _, _, _, _, _, rfl, _⟩ := h; rfl) | (obtain ⟨_, _, _, _, _, _, _, _, _, _, _, _, _, _, _, _, rfl, _⟩ := h; rfl) | (obtain ⟨_, _, _, _, _, _, _, _, _, _, _, _, _, _, _, _, _, rfl, _⟩ := h; rfl) | (obtain ⟨_, _, _, _, _, _, _, _, _, _, _, _, _, _, _, _, _, _, rfl, _⟩ := h; rfl) | (obtain ⟨_, _, _, _, _, _, _, _, _, _, _, _, _, _, _, _, _, _, _, rfl, _⟩ := h; rfl) | (obtain ⟨_, _, _, _, _, _, _, _, _, _, _, _, _, _, _, _, _, _, _, _, rfl, _⟩ := h; rfl) | (obtain ⟨_, _, _, _, _, _, _, _, _, _, _, _, _, _, _, _, _, _, _, _, _, rfl, _⟩ := h; rfl) | (obtain ⟨_, _, _, _, _, _, _, _, _, _, _, _, _, _, _, _, _, _, _, _, _, _, rfl, _⟩ := h; rfl) | (obtain ⟨_, _, _, _, _, _, _, _, _, _, _, _, _, _, _, _, _, _, _, _, _, _, _, rfl, _⟩ := h; rfl) | (obtain ⟨_, _, _, _, _, _, _, _, _, _, _, _, _, _, _, _, _, _, _, _, _, _, _, _, rfl, _⟩ := h; rfl) | (obtain ⟨_, _, _, _, _, _, _, _, _, _, _, _, _, _, _, _, _, _, _, _, _, _, _, _, _, rfl, _⟩ := h; rfl) | (obtain ⟨_, _, _, _, _, _, _, _, _, _, _, _, _, _, _, _, _, _, _, _, _, _, _, _, _, _, rfl, _⟩ := h; rfl) | (obtain ⟨_, _, _, _, _, _, _, _, _, _, _, _, _, _, _, _, _, _, _, _, _, _, _, _, _, _, _, rfl, _⟩ := h; rfl) | (obtain ⟨_, _, _, _, _, _, _, _, _, _, _, _, _, _, _, _, _, _, _, _, _, _, _, _, _, _, _, _, rfl, _⟩ := h; rfl) | (obtain ⟨_, _, _, _, _, _, _, _, _, _, _, _, _, _, _, _, _, _, _, _, _, _, _, _, _, _, _, _, _, rfl, _⟩ := h; rfl) | (obtain ⟨_, _, _, _, _, _, _, _, _, _, _, _, _, _, _, _, _, _, _, _, _, _, _, _, _, _, _, _, _, _, rfl, _⟩ := h; rfl)
  · exact (pss_cons (ps_set (i := 1) sc_L_due.nd rfl (Or.inl rfl) (pe_op op_rep (pe_lst (pa_cons pe_int pa_nil)) pe_int))
      (pss_cons (ps_set (i := 2) sc_L_due.nd rfl (Or.inl rfl) pe_int)
      (pss_cons (ps_set (i := 3) sc_L_due.nd rfl (Or.inl rfl) (pe_bm PySem.F.plainAttrs_str PySem.F.slot_str_split PySem.F.type_str_split mt_split (pv 0) (pa_cons pe_str pa_nil)))
      (pss_cons (ps_if (pt_cmpR op_eq (pe_slice sl_str (pv 0) po_none (po_some pe_int)) pe_str (nomark _)) (pss_cons (ps_set (i := 2) sc_L_due.nd rfl (Or.inl rfl) (pe_un un_neg pe_int))
      (pss_one (ps_set (i := 3) sc_L_due.nd rfl (Or.inl rfl) (pe_bm PySem.F.plainAttrs_str PySem.F.slot_str_split PySem.F.type_str_split mt_split (pe_slice sl_str (pv 0) (po_some pe_int) po_none) (pa_cons pe_str pa_nil))))) pss_nil)
      (pss_cons (ps_for PassesOwn.never rfl (pi_range1 (by rfl) m_range (pa_cons (pe_callB call_len_seq (by rfl) m_len PySem.boot_len (pa_cons (pv 3) pa_nil)) pa_nil)) (pg_name (i := 4) sc_L_due.nd rfl (Or.inl rfl)) (pss_one (ps_if (pt_cmpR op_eq (pe_op op_mod (pv 4) pe_int) pe_int (nomark _)) (pss_cons (ps_set (i := 5) sc_L_due.nd rfl (Or.inl rfl) (pcl c_L_term hr (by decide) (by rfl) (pa_cons (pe_ix ix_list (pv 3) (pv 4) (fun _ _ => rfl)) pa_nil)))
      (pss_cons (ps_if (PW.pt (pw_or (pt_cmpR op_lt (pe_ix ix_tup (pv 5) pe_int (fun _ _ => rfl)) pe_int (nomark _)) (pw_or1 (pt_cmpR op_lt (pe_ix ix_tup (pv 5) pe_int (fun _ _ => rfl)) pe_int (nomark _))))) (pss_one (ps_ret pe_non)) pss_nil)
      (pss_one (ps_asg (pe_op op_mulX (pv 2) (pe_ix ix_tup (pv 5) pe_int (fun _ _ => rfl))) (pg_sub (pv 1) (pe_ix ix_tup (pv 5) pe_int (fun _ _ => rfl)) set_list))))) (pss_cons (ps_set (i := 2) sc_L_due.nd rfl (Or.inl rfl) pe_int)
      (pss_one (ps_if (pt_cmpR op_eq (pe_ix ix_list (pv 3) (pv 4) (fun _ _ => rfl)) pe_str (nomark _)) (pss_one (ps_set (i := 2) sc_L_due.nd rfl (Or.inl rfl) (pe_un un_neg pe_int))) pss_nil))))))
      (pss_cons (ps_set (i := 1) sc_L_due.nd rfl (Or.inl rfl) (pcl c_L_trim hr (by decide) (by rfl) (pa_cons (pv 1) pa_nil)))
      (pss_cons (ps_if (pt_cmpR op_ne (pcl c_L_written hr (by decide) (by rfl) (pa_cons (pv 1) pa_nil)) (pv 0) (nomark _)) (pss_one (ps_ret pe_non)) pss_nil)
      (pss_one (ps_ret (pv 1))))))))))
theorem ok_L_odd {f : Addr} {fd : FuncData} (F : Fun K "_law_odd" "_law_odd" s_L_odd f fd)     : FnOk P w K mg base CX0 1 f fd ["_law_cell"] (sp_L_odd K) := by
  refine F.ok sc_L_odd (fun vs H Q E h => ?_) (fun cdv A outer s H vs Q E hr h => ⟨t_L_odd K, ?_, run_L_odd  h⟩)
  · first | (obtain ⟨_, rfl, _⟩ := h; rfl) | (obtain ⟨_, _, rfl, _⟩ := h; rfl) | (obtain ⟨_, _, _, rfl, _⟩ := h; rfl) | (obtain ⟨_, _, _, _, rfl, _⟩ := h; rfl) | (obtain ⟨_, _, _, _, _, rfl, _⟩ := h; rfl) | (obtain ⟨_, _, _, _, _, _, rfl, _⟩ := h; rfl) | (obtain ⟨_, _, _, _, _, _, _, rfl, _⟩ := h; rfl) | (obtain ⟨_, _, _, _, _, _, _, _, rfl, _⟩ := h; rfl) | (obtain ⟨_, _, _, _, _, _, _, _, _, rfl, _⟩ := h; rfl) | (obtain ⟨_, _, _, _, _, _, _, _, _, _, rfl, _⟩ := h; rfl) | (obtain ⟨_, _, _, _, _, _, _, _, _, _, _, rfl, _⟩ := h; rfl) | (obtain ⟨_, _, _, _, _, _, _, _, _, _, _, _, rfl, _⟩ := h; rfl) | (obtain ⟨_, _, _, _, _, _, _, _, _, _, _, _, _, rfl, _⟩ := h; rfl) | (obtain ⟨_, _, _, _, _, _, _, _, _, _, _, _, _, _, rfl, _⟩ := h; rfl) | (obtain ⟨_, _, _, _, _, _, _, _, _, _, _, _, _, _, _, rfl, _⟩ := h; rfl) | (obtain ⟨_, _, _, _, _, _, _, _, _, _, _, _, _, _, _, _, rfl, _⟩ := h; rfl) | (obtain ⟨_, _, _, _, _, _, _, _, _, _, _, _, _, _, _, _, _, rfl, _⟩ := h; rfl) | (obtain ⟨_, _, _, _, _, _, _, _, _, _, _, _, _, _, _, _, _, _, rfl, _⟩ := h; rfl) | (obtain ⟨_, _, _, _, _, _, _, _, _, _, _, _, _, _, _, _, _, _, _, rfl, _⟩ := h; rfl) | (obtain ⟨_, _, _, _, _, _, _, _, _, _, _, _, _, _, _, _, _, _, _, _, rfl, _⟩ := h; rfl) | (obtain ⟨_, _, _, _, _, _, _, _, _, _, _, _, _, _, _, _, _, _, _, _, _, rfl, _⟩ := h; rfl) | (obtain ⟨_, _, _, _, _, _, _, _, _, _, _, _, _, _, _, _, _, _, _, _, _, _, rfl, _⟩ := h; rfl) | (obtain ⟨_, _, _, _, _, _, _, _, _, _, _, _, _, _, _, _, _, _, _, _, _, _, _, rfl, _⟩ := h; rfl) | (obtain ⟨_, _, _, _, _, _, _, _, _, _, _, _, _, _, _, _, _, _, _, _, _, _, _, _, rfl, _⟩ := h; rfl) | (obtain ⟨_, _, _, _, _, _, _, _, _, _, _, _, _, _, _, _, _, _, _, _, _, _, _, _, _, rfl, _⟩ := h; rfl) | (obtain ⟨_, _, _, _, _, _, _, _, _, _, _, _, _, _, _, _, _, _, _, _, _, _, _, _, _, _, rfl, _⟩ := h; rfl) | (obtain ⟨_, _, _, _, _, _, _, _, _, _, _, _, _, _, _, _, _, _, _, _, _, _, _, _, _, _, _, rfl, _⟩ := h; rfl) | (obtain ⟨_, _, _, _, _, _, _, _, _, _, _, _, _, _, _, _, _, _, _, _, _, _, _, _, _, _, _, _, rfl, _⟩ := h; rfl) | (obtain ⟨_, _, _, _, _, _, _, _, _, _, _, _, _, _, _, _, _, _, _, _, _, _, _, _, _, _, _, _, _, rfl, _⟩ := h; rfl) | (obtain ⟨_, _, _, _, _, _, _, _, _, _, _, _, _, _, _, _, _, _, _, _, _, _, _, _, _, _, _, _, _, _, rfl, _⟩ := h; rfl)
  · exact (pss_cons (ps_set (i := 1) sc_L_odd.nd rfl (Or.inl rfl) (pe_lst (pa_cons pe_str (pa_cons pe_str (pa_cons pe_str (pa_cons pe_str (pa_cons pe_str (pa_cons pe_str (pa_cons pe_str (pa_cons pe_str (pa_cons pe_str (pa_cons pe_str (pa_cons pe_str (pa_cons pe_str (pa_cons pe_str (pa_cons pe_str (pa_cons pe_str (pa_cons pe_str pa_nil))))))))))))))))))
      (pss_cons (ps_set (i := 1) sc_L_odd.nd rfl (Or.inl rfl) (pe_op op_cat (pv 1) (pe_lst (pa_cons pe_str (pa_cons pe_str (pa_cons pe_str (pa_cons pe_str (pa_cons pe_str (pa_cons pe_str (pa_cons pe_str (pa_cons pe_str (pa_cons pe_str (pa_cons pe_str (pa_cons pe_str pa_nil))))))))))))))
      (pss_cons (ps_set (i := 1) sc_L_odd.nd rfl (Or.inl rfl) (pe_op op_cat (pv 1) (pe_lst (pa_cons pe_str (pa_cons pe_str (pa_cons pe_str (pa_cons pe_str (pa_cons pe_str (pa_cons pe_str (pa_cons pe_str (pa_cons pe_str (pa_cons pe_str (pa_cons pe_str (pa_cons pe_str pa_nil))))))))))))))
      (pss_one (ps_ret (pe_ix ix_list (pv 1) (pe_op op_mod (pv 0) pe_int) (fun _ _ => rfl)))))))
theorem ok_L_sign {f : Addr} {fd : FuncData} (F : Fun K "_law_sign" "_law_sign" s_L_sign f fd)    (m_len : mg "len" = none) : FnOk P w K mg base CX0 1 f fd ["_law_cell"] (sp_L_sign K) := by
  refine F.ok sc_L_sign (fun vs H Q E h => ?_) (fun cdv A outer s H vs Q E hr h => ⟨t_L_sign K, ?_, run_L_sign  h⟩)
  · first | (obtain ⟨_, rfl, _⟩ := h; rfl) | (obtain ⟨_, _, rfl, _⟩ := h; rfl) | (obtain ⟨_, _, _, rfl, _⟩ := h; rfl) | (obtain ⟨_, _, _, _, rfl, _⟩ := h; rfl) | (obtain ⟨_, _, _, _, _, rfl, _⟩ := h; rfl) | (obtain ⟨_, _, _, _, _, _, rfl, _⟩ := h; rfl) | (obtain ⟨_, _, _, _, _, _, _, rfl, _⟩ := h; rfl) | (obtain ⟨_, _, _, _, _, _, _, _, rfl, _⟩ := h; rfl) | (obtain ⟨_, _, _, _, _, _, _, _, _, rfl, _⟩ := h; rfl) | (obtain ⟨_, _, _, _, _, _, _, _, _, _, rfl, _⟩ := h; rfl) | (obtain ⟨_, _, _, _, _, _, _, _, _, _, _, rfl, _⟩ := h; rfl) | (obtain ⟨_, _, _, _, _, _, _, _, _, _, _, _, rfl, _⟩ := h; rfl) | (obtain ⟨_, _, _, _, _, _, _, _, _, _, _, _, _, rfl, _⟩ := h; rfl) | (obtain ⟨_, _, _, _, _, _, _, _, _, _, _, _, _, _, rfl, _⟩ := h; rfl) | (obtain ⟨_, _, _, _, _, _, _, _, _, _, _, _, _, _, _, rfl, _⟩ := h; rfl) | (obtain ⟨_, _, _, _, _, _, _, _, _, _, _, _, _, _, _, _, rfl, _⟩ := h; rfl) | (obtain ⟨_, _, _, _, _, _, _, _, _, _, _, _, _, _, _, _, _, rfl, _⟩ := h; rfl) | (obtain ⟨_, _, _, _, _, _, _, _, _, _, _, _, _, _, _, _, _, _, rfl, _⟩ := h; rfl) | (obtain ⟨_, _, _, _, _, _, _, _, _, _, _, _, _, _, _, _, _, _, _, rfl, _⟩ := h; rfl) | (obtain ⟨_, _, _, _, _, _, _, _, _, _, _, _, _, _, _, _, _, _, _, _, rfl, _⟩ := h; rfl) | (obtain ⟨_, _, _, _, _, _, _, _, _, _, _, _, _, _, _, _, _, _, _, _, _, rfl, _⟩ := h; rfl) | (obtain ⟨_, _, _, _, _, _, _, _, _, _, _, _, _, _, _, _, _, _, _, _, _, _, rfl, _⟩ := h; rfl) | (obtain ⟨_, _, _, _, _, _, _, _, _, _, _, _, _, _, _, _, _, _, _, _, _, _, _, rfl, _⟩ := h; rfl) | (obtain ⟨_, _, _, _, _, _, _, _, _, _, _, _, _, _, _, _, _, _, _, _, _, _, _, _, rfl, _⟩ := h; rfl) | (obtain ⟨_, _, _, _, _, _, _, _, _, _, _, _, _, _, _, _, _, _, _, _, _, _, _, _, _, rfl, _⟩ := h; rfl) | (obtain ⟨_, _, _, _, _, _, _, _, _, _, _, _, _, _, _, _, _, _, _, _, _, _, _, _, _, _, rfl, _⟩ := h; rfl) | (obtain ⟨_, _, _, _, _, _, _, _, _, _, _, _, _, _, _, _, _, _, _, _, _, _, _, _, _, _, _, rfl, _⟩ := h; rfl) | (obtain ⟨_, _, _, _, _, _, _, _, _, _, _, _, _, _, _, _, _, _, _, _, _, _, _, _, _, _, _, _, rfl, _⟩ := h; rfl) | (obtain ⟨_, _, _, _, _, _, _, _, _, _, _, _, _, _, _, _, _, _, _, _, _, _, _, _, _, _, _, _, _, rfl, _⟩ := h; rfl) | (obtain ⟨_, _, _, _, _, _, _, _, _, _, _, _, _, _, _, _, _, _, _, _, _, _, _, _, _, _, _, _, _, _, rfl, _⟩ := h; rfl)
  · exact (pss_cons (ps_set (i := 1) sc_L_sign.nd rfl (Or.inl rfl) pe_str)
      (pss_cons (ps_set (i := 1) sc_L_sign.nd rfl (Or.inl rfl) (pe_op op_add_str (pv 1) pe_str))
      (pss_cons (ps_if (pt_cmpR op_eq (pe_op op_mod (pv 0) pe_int) pe_int (nomark _)) (pss_one (ps_set (i := 1) sc_L_sign.nd rfl (Or.inl rfl) pe_str)) pss_nil)
      (pss_one (ps_ret (pe_ix ix_str (pv 1) (pe_op op_mod (pe_op op_fdivW (pv 0) pe_int) (pe_callB call_len_str (by rfl) m_len PySem.boot_len (pa_cons (pv 1) pa_nil))) (fun _ _ => rfl)))))))
theorem okN_L_sign {f : Addr} {fd : FuncData} (F : Fun K "_law_sign" "_law_sign" s_L_sign f fd)    (m_len : mg "len" = none) : FnN P w K mg base 1 f fd ["_law_cell"] (sp_L_sign K) := by
  refine fun_okN F sc_L_sign (fun vs H Q E h => ?_) (fun cdv A outer s H vs Q E hr h => ⟨t_L_sign K, ?_, run_L_sign h⟩)
  · first | (obtain ⟨_, rfl, _⟩ := h; rfl) | (obtain ⟨_, _, rfl, _⟩ := h; rfl) | (obtain ⟨_, _, _, rfl, _⟩ := h; rfl) | (obtain ⟨_, _, _, _, rfl, _⟩ := h; rfl) | (obtain ⟨_, _, _, _, _, rfl, _⟩ := h; rfl) | (obtain ⟨_, _, _, _, _, _, rfl, _⟩ := h; rfl) | (obtain ⟨_, _, _, _, _, _, _, rfl, _⟩ := h; rfl) | (obtain ⟨_, _, _, _, _, _, _, _, rfl, _⟩ := h; rfl) | (obtain ⟨_, _, _, _, _, _, _, _, _, rfl, _⟩ := h; rfl) | (obtain ⟨_, _, _, _, _, _, _, _, _, _, rfl, _⟩ := h; rfl) | (obtain ⟨_, _, _, _, _, _, _, _, _, _, _, rfl, _⟩ := h; rfl) | (obtain ⟨_, _, _, _, _, _, _, _, _, _, _, _, rfl, _⟩ := h; rfl) | (obtain ⟨_, _, _, _, _, _, _, _, _, _, _, _, _, rfl, _⟩ := h; rfl) | (obtain ⟨_, _, _, _, _, _, _, _, _, _, _, _, _, _, rfl, _⟩ := h; rfl) | (obtain ⟨_, _, _, _, _, _, _, _, _, _, _, _, _, _, _, rfl, _⟩ := h; rfl) | (obtain ⟨_, _, _, _, _, _, _, _, _, _, _, _, _, _, _, _, rfl, _⟩ := h; rfl) | (obtain ⟨_, _, _, _, _, _, _, _, _, _, _, _, _, _, _, _, _, rfl, _⟩ := h; rfl) | (obtain ⟨_, _, _, _, _, _, _, _, _, _, _, _, _, _, _, _, _, _, rfl, _⟩ := h; rfl) | (obtain ⟨_, _, _, _, _, _, _, _, _, _, _, _, _, _, _, _, _, _, _, rfl, _⟩ := h; rfl) | (obtain ⟨_, _, _, _, _, _, _, _, _, _, _, _, _, _, _, _, _, _, _, _, rfl, _⟩ := h; rfl) | (obtain ⟨_, _, _, _, _, _, _, _, _, _, _, _, _, _, _, _, _, _, _, _, _, rfl, _⟩ := h; rfl) | (obtain ⟨_, _, _, _, _, _, _, _, _, _, _, _, _, _, _, _, _, _, _, _, _, _, rfl, _⟩ := h; rfl) | (obtain ⟨_, _, _, _, _, _, _, _, _, _, _, _, _, _, _, _, _, _, _, _, _, _, _, rfl, _⟩ := h; rfl) | (obtain ⟨_, _, _, _, _, _, _, _, _, _, _, _, _, _, _, _, _, _, _, _, _, _, _, _, rfl, _⟩ := h; rfl) | (obtain ⟨_, _, _, _, _, _, _, _, _, _, _, _, _, _, _, _, _, _, _, _, _, _, _, _, _, rfl, _⟩ := h; rfl) | (obtain ⟨_, _, _, _, _, _, _, _, _, _, _, _, _, _, _, _, _, _, _, _, _, _, _, _, _, _, rfl, _⟩ := h; rfl) | (obtain ⟨_, _, _, _, _, _, _, _, _, _, _, _, _, _, _, _, _, _, _, _, _, _, _, _, _, _, _, rfl, _⟩ := h; rfl) | (obtain ⟨_, _, _, _, _, _, _, _, _, _, _, _, _, _, _, _, _, _, _, _, _, _, _, _, _, _, _, _, rfl, _⟩ := h; rfl) | (obtain ⟨_, _, _, _, _, _, _, _, _, _, _, _, _, _, _, _, _, _, _, _, _, _, _, _, _, _, _, _, _, rfl, _⟩ := h; rfl) | (obtain ⟨_, _, _, _, _, _, _, _, _, _, _, _, _, _, _, _, _, _, _, _, _, _, _, _, _, _, _, _, _, _, rfl, _⟩ := h; rfl)
  · exact (psn_cons (ps_set (i := 1) sc_L_sign.nd rfl (Or.inl rfl) pe_str) (fun _ _ _ h => h)
      (psn_cons (ps_set (i := 1) sc_L_sign.nd rfl (Or.inl rfl) (pe_op op_add_str (pv 1) pe_str)) (fun _ _ _ h => h)
      (psn_cons (ps_if (pt_cmpR op_eq (pe_op op_mod (pv 0) pe_int) pe_int (nomark _)) (pss_one (ps_set (i := 1) sc_L_sign.nd rfl (Or.inl rfl) pe_str)) pss_nil) (fun _ _ _ h => h)
      (psn_ret (pen_ixS (pv 1) (pe_op op_mod (pe_op op_fdivW (pv 0) pe_int) (pe_callB call_len_str (by rfl) m_len PySem.boot_len (pa_cons (pv 1) pa_nil))) (fun _ _ => rfl))))))
theorem ok_L_turned {f : Addr} {fd : FuncData} (F : Fun K "_law_turned" "_law_turned" s_L_turned f fd)   (c_L_sign : Cl P w K mg base 1 "_law_sign" (sp_L_sign K)) (m_len : mg "len" = none) : FnOk P w K mg base CX0 2 f fd ["_law_line", "_law_cell", "_law_spot"] (sp_L_turned K) := by
  refine F.ok sc_L_turned (fun vs H Q E h => ?_) (fun cdv A outer s H vs Q E hr h => ⟨t_L_turned K, ?_, run_L_turned  h⟩)
  · first | (obtain ⟨_, rfl, _⟩ := h; rfl) | (obtain ⟨_, _, rfl, _⟩ := h; rfl) | (obtain ⟨_, _, _, rfl, _⟩ := h; rfl) | (obtain ⟨_, _, _, _, rfl, _⟩ := h; rfl) | (obtain ⟨_, _, _, _, _, rfl, _⟩ := h; rfl) | (obtain ⟨_, _, _, _, _, _, rfl, _⟩ := h; rfl) | (obtain ⟨_, _, _, _, _, _, _, rfl, _⟩ := h; rfl) | (obtain ⟨_, _, _, _, _, _, _, _, rfl, _⟩ := h; rfl) | (obtain ⟨_, _, _, _, _, _, _, _, _, rfl, _⟩ := h; rfl) | (obtain ⟨_, _, _, _, _, _, _, _, _, _, rfl, _⟩ := h; rfl) | (obtain ⟨_, _, _, _, _, _, _, _, _, _, _, rfl, _⟩ := h; rfl) | (obtain ⟨_, _, _, _, _, _, _, _, _, _, _, _, rfl, _⟩ := h; rfl) | (obtain ⟨_, _, _, _, _, _, _, _, _, _, _, _, _, rfl, _⟩ := h; rfl) | (obtain ⟨_, _, _, _, _, _, _, _, _, _, _, _, _, _, rfl, _⟩ := h; rfl) | (obtain ⟨_, _, _, _, _, _, _, _, _, _, _, _, _, _, _, rfl, _⟩ := h; rfl) | (obtain ⟨_, _, _, _, _, _, _, _, _, _, _, _, _, _, _, _, rfl, _⟩ := h; rfl) | (obtain ⟨_, _, _, _, _, _, _, _, _, _, _, _, _, _, _, _, _, rfl, _⟩ := h; rfl) | (obtain ⟨_, _, _, _, _, _, _, _, _, _, _, _, _, _, _, _, _, _, rfl, _⟩ := h; rfl) | (obtain ⟨_, _, _, _, _, _, _, _, _, _, _, _, _, _, _, _, _, _, _, rfl, _⟩ := h; rfl) | (obtain ⟨_, _, _, _, _, _, _, _, _, _, _, _, _, _, _, _, _, _, _, _, rfl, _⟩ := h; rfl) | (obtain ⟨_, _, _, _, _, _, _, _, _, _, _, _, _, _, _, _, _, _, _, _, _, rfl, _⟩ := h; rfl) | (obtain ⟨_, _, _, _, _, _, _, _, _, _, _, _, _, _, _, _, _, _, _, _, _, _, rfl, _⟩ := h; rfl) | (obtain ⟨_, _, _, _, _, _, _, _, _, _, _, _, _, _, _, _, _, _, _, _, _, _, _, rfl, _⟩ := h; rfl) | (obtain ⟨_, _, _, _, _, _, _, _, _, _, _, _, _, _, _, _, _, _, _, _, _, _, _, _, rfl, _⟩ := h; rfl) | (obtain ⟨_, _, _, _, _, _, _, _, _, _, _, _, _, _, _, _, _, _, _, _, _, _, _, _, _, rfl, _⟩ := h; rfl) | (obtain ⟨_, _, _, _, _, _, _, _, _, _, _, _, _, _, _, _, _, _, _, _, _, _, _, _, _, _, rfl, _⟩ := h; rfl) | (obtain ⟨_, _, _, _, _, _, _, _, _, _, _, _, _, _, _, _, _, _, _, _, _, _, _, _, _, _, _, rfl, _⟩ := h; rfl) | (obtain ⟨_, _, _, _, _, _, _, _, _, _, _, _, _, _, _, _, _, _, _, _, _, _, _, _, _, _, _, _, rfl, _⟩ := h; rfl) | (obtain ⟨_, _, _, _, _, _, _, _, _, _, _, _, _, _, _, _, _, _, _, _, _, _, _, _, _, _, _, _, _, rfl, _⟩ := h; rfl) | (obtain ⟨_, _, _, _, _, _, _, _, _, _, _, _, _, _, _, _, _, _, _, _, _, _, _, _, _, _, _, _, _, _, rfl, _⟩ := h; rfl)
  · exact (pss_cons (ps_set (i := 3) sc_L_turned.nd rfl (Or.inl rfl) (pcl c_L_sign hr (by decide) (by rfl) (pa_cons (pe_op op_fdivW (pv 1) pe_int) pa_nil)))
      (pss_cons (ps_set (i := 4) sc_L_turned.nd rfl (Or.inl rfl) (pe_op op_mod (pv 2) (pe_op op_add (pe_callB call_len_str (by rfl) m_len PySem.boot_len (pa_cons (pv 0) pa_nil)) pe_int)))
      (pss_cons (ps_if (pt_cmpR op_eq (pe_op op_mod (pv 1) pe_int) pe_int (nomark _)) (pss_one (ps_ret (pe_op op_add_str (pe_op op_add_str (pe_slice sl_str (pv 0) po_none (po_some (pv 4))) (pv 3)) (pe_slice sl_str (pv 0) (po_some (pv 4)) po_none)))) pss_nil)
      (pss_cons (ps_if (pt_cmpR op_eq (pe_op op_mod (pv 1) pe_int) pe_int (nomark _)) (pss_one (ps_ret (pe_op op_add_str (pe_slice sl_str (pv 0) po_none (po_some (pv 4))) (pe_slice sl_str (pv 0) (po_some (pe_op op_add (pv 4) pe_int)) po_none)))) pss_nil)
      (pss_one (ps_ret (pe_op op_add_str (pe_op op_add_str (pe_slice sl_str (pv 0) po_none (po_some (pv 4))) (pv 3)) (pe_slice sl_str (pv 0) (po_some (pe_op op_add (pv 4) pe_int)) po_none))))))))
theorem ok_L_refuse {cs : Cs} {f : Addr} {fd : FuncData} (F : Fun K "_law_refuse" "_law_refuse" s_L_refuse f fd) (T : Tx K cs.PolyError [cs.NoNumber, cs.NoPower, cs.ByNought, cs.NotWhole, cs.NoMeet, cs.NoParts, cs.NotWritten])   (c_P_made : ClX P w K mg base 2 "made" (sp_P_made K cs)) (c_P_raised : ClX P w K mg base 2 "raised" (sp_P_raised K cs)) (c_P_quotient : ClX P w K mg base 42 "quotient" (sp_P_quotient K cs)) (c_P_meet : ClX P w K mg base 45 "meet" (sp_P_meet K cs)) (c_P_parts : ClX P w K mg base 46 "parts" (sp_P_parts K cs)) (c_P_read : ClX P w K mg base 4 "read" (sp_P_read K cs))  : FnOk P w K mg base (L2.CX P w) 47 f fd ["_law_which"] (sp_L_refuse K cs) := by
  refine F.okX sc_L_refuse (fun vs H Q E h => ?_) (fun cdv A outer s H vs Q E hr h => ⟨t_L_refuse K cs E, ?_, run_L_refuse T (by simp) (by simp) (by simp) (by simp) (by simp) (by simp) (by simp) h⟩)
  · first | (obtain ⟨_, rfl, _⟩ := h; rfl) | (obtain ⟨_, _, rfl, _⟩ := h; rfl) | (obtain ⟨_, _, _, rfl, _⟩ := h; rfl) | (obtain ⟨_, _, _, _, rfl, _⟩ := h; rfl) | (obtain ⟨_, _, _, _, _, rfl, _⟩ := h; rfl) | (obtain ⟨_, _, _, _, _, _, rfl, _⟩ := h; rfl) | (obtain ⟨_, _, _, _, _, _, _, rfl, _⟩ := h; rfl) | (obtain ⟨_, _, _, _, _, _, _, _, rfl, _⟩ := h; rfl) | (obtain ⟨_, _, _, _, _, _, _, _, _, rfl, _⟩ := h; rfl) | (obtain ⟨_, _, _, _, _, _, _, _, _, _, rfl, _⟩ := h; rfl) | (obtain ⟨_, _, _, _, _, _, _, _, _, _, _, rfl, _⟩ := h; rfl) | (obtain ⟨_, _, _, _, _, _, _, _, _, _, _, _, rfl, _⟩ := h; rfl) | (obtain ⟨_, _, _, _, _, _, _, _, _, _, _, _, _, rfl, _⟩ := h; rfl) | (obtain ⟨_, _, _, _, _, _, _, _, _, _, _, _, _, _, rfl, _⟩ := h; rfl) | (obtain ⟨_, _, _, _, _, _, _, _, _, _, _, _, _, _, _, rfl, _⟩ := h; rfl) | (obtain ⟨_, _, _, _, _, _, _, _, _, _, _, _, _, _, _, _, rfl, _⟩ := h; rfl) | (obtain ⟨_, _, _, _, _, _, _, _, _, _, _, _, _, _, _, _, _, rfl, _⟩ := h; rfl) | (obtain ⟨_, _, _, _, _, _, _, _, _, _, _, _, _, _, _, _, _, _, rfl, _⟩ := h; rfl) | (obtain ⟨_, _, _, _, _, _, _, _, _, _, _, _, _, _, _, _, _, _, _, rfl, _⟩ := h; rfl) | (obtain ⟨_, _, _, _, _, _, _, _, _, _, _, _, _, _, _, _, _, _, _, _, rfl, _⟩ := h; rfl) | (obtain ⟨_, _, _, _, _, _, _, _, _, _, _, _, _, _, _, _, _, _, _, _, _, rfl, _⟩ := h; rfl) | (obtain ⟨_, _, _, _, _, _, _, _, _, _, _, _, _, _, _, _, _, _, _, _, _, _, rfl, _⟩ := h; rfl) | (obtain ⟨_, _, _, _, _, _, _, _, _, _, _, _, _, _, _, _, _, _, _, _, _, _, _, rfl, _⟩ := h; rfl) | (obtain ⟨_, _, _, _, _, _, _, _, _, _, _, _, _, _, _, _, _, _, _, _, _, _, _, _, rfl, _⟩ := h; rfl) | (obtain ⟨_, _, _, _, _, _, _, _, _, _, _, _, _, _, _, _, _, _, _, _, _, _, _, _, _, rfl, _⟩ := h; rfl) | (obtain ⟨_, _, _, _, _, _, _, _, _, _, _, _, _, _, _, _, _, _, _, _, _, _, _, _, _, _, rfl, _⟩ := h; rfl) | (obtain ⟨_, _, _, _, _, _, _, _, _, _, _, _, _, _, _, _, _, _, _, _, _, _, _, _, _, _, _, rfl, _⟩ := h; rfl) | (obtain ⟨_, _, _, _, _, _, _, _, _, _, _, _, _, _, _, _, _, _, _, _, _, _, _, _, _, _, _, _, rfl, _⟩ := h; rfl) | (obtain ⟨_, _, _, _, _, _, _, _, _, _, _, _, _, _, _, _, _, _, _, _, _, _, _, _, _, _, _, _, _, rfl, _⟩ := h; rfl) | (obtain ⟨_, _, _, _, _, _, _, _, _, _, _, _, _, _, _, _, _, _, _, _, _, _, _, _, _, _, _, _, _, _, rfl, _⟩ := h; rfl)
  · exact (pss_cons (ps_if (pt_cmpR op_eq (pv 0) pe_int (nomark _)) (pss_one (ps_ret (pclS c_P_made (takes_of rfl rfl rfl rfl) hr (by decide) (by rfl) (pa_cons (pe_lst (pa_cons pe_non pa_nil)) pa_nil)))) pss_nil)
      (pss_cons (ps_if (pt_cmpR op_eq (pv 0) pe_int (nomark _)) (pss_one (ps_ret (pclS c_P_raised (takes_of rfl rfl rfl rfl) hr (by decide) (by rfl) (pa_cons (pe_lst (pa_cons pe_int pa_nil)) (pa_cons (pe_un un_neg pe_int) pa_nil))))) pss_nil)
      (pss_cons (ps_if (pt_cmpR op_eq (pv 0) pe_int (nomark _)) (pss_one (ps_ret (pclS c_P_quotient (takes_of rfl rfl rfl rfl) hr (by decide) (by rfl) (pa_cons (pe_lst (pa_cons pe_int pa_nil)) (pa_cons (pe_lst pa_nil) pa_nil))))) pss_nil)
      (pss_cons (ps_if (pt_cmpR op_eq (pv 0) pe_int (nomark _)) (pss_one (ps_ret (pclS c_P_quotient (takes_of rfl rfl rfl rfl) hr (by decide) (by rfl) (pa_cons (pe_lst (pa_cons pe_int pa_nil)) (pa_cons (pe_lst (pa_cons pe_int pa_nil)) pa_nil))))) pss_nil)
      (pss_cons (ps_if (pt_cmpR op_eq (pv 0) pe_int (nomark _)) (pss_one (ps_ret (pclS c_P_meet (takes_of rfl rfl rfl rfl) hr (by decide) (by rfl) (pa_cons (pe_lst pa_nil) (pa_cons (pe_lst pa_nil) pa_nil))))) pss_nil)
      (pss_cons (ps_if (pt_cmpR op_eq (pv 0) pe_int (nomark _)) (pss_one (ps_ret (pclS c_P_parts (takes_of rfl rfl rfl rfl) hr (by decide) (by rfl) (pa_cons (pe_lst pa_nil) pa_nil)))) pss_nil)
      (pss_one (ps_ret (pclS c_P_read (takes_of rfl rfl rfl rfl) hr (by decide) (by rfl) (pa_cons pe_str pa_nil))))))))))
theorem ok_L_first {cs : Cs} {f : Addr} {fd : FuncData} (F : Fun K "_law_first" "_law_first" s_L_first f fd) (T : Tx K cs.PolyError [cs.NoNumber, cs.NoPower, cs.ByNought, cs.NotWhole, cs.NoMeet, cs.NoParts, cs.NotWritten])  (n_NoNumber : mg "NoNumber" = some (.ref cs.NoNumber)) (n_NoPower : mg "NoPower" = some (.ref cs.NoPower)) (n_ByNought : mg "ByNought" = some (.ref cs.ByNought)) (n_NotWhole : mg "NotWhole" = some (.ref cs.NotWhole)) (n_NoMeet : mg "NoMeet" = some (.ref cs.NoMeet)) (n_NoParts : mg "NoParts" = some (.ref cs.NoParts)) (n_NotWritten : mg "NotWritten" = some (.ref cs.NotWritten)) (c_L_refuse : ClX P w K mg base 47 "_law_refuse" (sp_L_refuse K cs))  : FnOk P w K mg base CX0 48 f fd ["_law_which"] (sp_L_first K cs) := by
  refine F.ok sc_L_first (fun vs H Q E h => ?_) (fun cdv A outer s H vs Q E hr h => ⟨t_L_first K cs, ?_, run_L_first T (by simp) (by simp) (by simp) (by simp) (by simp) (by simp) (by simp) (by have h := T.nd; simp only [List.pairwise_cons, List.mem_cons, List.not_mem_nil, or_false, forall_eq_or_imp, forall_eq] at h; simp [h]) (by have h := T.nd; simp only [List.pairwise_cons, List.mem_cons, List.not_mem_nil, or_false, forall_eq_or_imp, forall_eq] at h; simp [h]) (by have h := T.nd; simp only [List.pairwise_cons, List.mem_cons, List.not_mem_nil, or_false, forall_eq_or_imp, forall_eq] at h; simp [h]) (by have h := T.nd; simp only [List.pairwise_cons, List.mem_cons, List.not_mem_nil, or_false, forall_eq_or_imp, forall_eq] at h; simp [h]) (by have h := T.nd; simp only [List.pairwise_cons, List.mem_cons, List.not_mem_nil, or_false, forall_eq_or_imp, forall_eq] at h; simp [h]) (by have h := T.nd; simp only [List.pairwise_cons, List.mem_cons, List.not_mem_nil, or_false, forall_eq_or_imp, forall_eq] at h; simp [h]) (by have h := T.nd; simp only [List.pairwise_cons, List.mem_cons, List.not_mem_nil, or_false, forall_eq_or_imp, forall_eq] at h; simp [h]) (by have h := T.nd; simp only [List.pairwise_cons, List.mem_cons, List.not_mem_nil, or_false, forall_eq_or_imp, forall_eq] at h; simp [h]) (by have h := T.nd; simp only [List.pairwise_cons, List.mem_cons, List.not_mem_nil, or_false, forall_eq_or_imp, forall_eq] at h; simp [h]) (by have h := T.nd; simp only [List.pairwise_cons, List.mem_cons, List.not_mem_nil, or_false, forall_eq_or_imp, forall_eq] at h; simp [h]) (by have h := T.nd; simp only [List.pairwise_cons, List.mem_cons, List.not_mem_nil, or_false, forall_eq_or_imp, forall_eq] at h; simp [h]) (by have h := T.nd; simp only [List.pairwise_cons, List.mem_cons, List.not_mem_nil, or_false, forall_eq_or_imp, forall_eq] at h; simp [h]) (by have h := T.nd; simp only [List.pairwise_cons, List.mem_cons, List.not_mem_nil, or_false, forall_eq_or_imp, forall_eq] at h; simp [h]) (by have h := T.nd; simp only [List.pairwise_cons, List.mem_cons, List.not_mem_nil, or_false, forall_eq_or_imp, forall_eq] at h; simp [h]) (by have h := T.nd; simp only [List.pairwise_cons, List.mem_cons, List.not_mem_nil, or_false, forall_eq_or_imp, forall_eq] at h; simp [h]) (by have h := T.nd; simp only [List.pairwise_cons, List.mem_cons, List.not_mem_nil, or_false, forall_eq_or_imp, forall_eq] at h; simp [h]) (by have h := T.nd; simp only [List.pairwise_cons, List.mem_cons, List.not_mem_nil, or_false, forall_eq_or_imp, forall_eq] at h; simp [h]) (by have h := T.nd; simp only [List.pairwise_cons, List.mem_cons, List.not_mem_nil, or_false, forall_eq_or_imp, forall_eq] at h; simp [h]) (by have h := T.nd; simp only [List.pairwise_cons, List.mem_cons, List.not_mem_nil, or_false, forall_eq_or_imp, forall_eq] at h; simp [h]) (by have h := T.nd; simp only [List.pairwise_cons, List.mem_cons, List.not_mem_nil, or_false, forall_eq_or_imp, forall_eq] at h; simp [h]) (by have h := T.nd; simp only [List.pairwise_cons, List.mem_cons, List.not_mem_nil, or_false, forall_eq_or_imp, forall_eq] at h; simp [h]) h⟩)
  · first | (obtain ⟨_, rfl, _⟩ := h; rfl) | (obtain ⟨_, _, rfl, _⟩ := h; rfl) | (obtain ⟨_, _, _, rfl, _⟩ := h; rfl) | (obtain ⟨_, _, _, _, rfl, _⟩ := h; rfl) | (obtain ⟨_, _, _, _, _, rfl, _⟩ := h; rfl) | (obtain ⟨_, _, _, _, _, _, rfl, _⟩ := h; rfl) | (obtain ⟨_, _, _, _, _, _, _, rfl, _⟩ := h; rfl) | (obtain ⟨_, _, _, _, _, _, _, _, rfl, _⟩ := h; rfl) | (obtain ⟨_, _, _, _, _, _, _, _, _, rfl, _⟩ := h; rfl) | (obtain ⟨_, _, _, _, _, _, _, _, _, _, rfl, _⟩ := h; rfl) | (obtain ⟨_, _, _, _, _, _, _, _, _, _, _, rfl, _⟩ := h; rfl) | (obtain ⟨_, _, _, _, _, _, _, _, _, _, _, _, rfl, _⟩ := h; rfl) | (obtain ⟨_, _, _, _, _, _, _, _, _, _, _, _, _, rfl, _⟩ := h; rfl) | (obtain ⟨_, _, _, _, _, _, _, _, _, _, _, _, _, _, rfl, _⟩ := h; rfl) | (obtain ⟨_, _, _, _, _, _, _, _, _, _, _, _, _, _, _, rfl, _⟩ := h; rfl) | (obtain ⟨_, _, _, _, _, _, _, _, _, _, _, _, _, _, _, _, rfl, _⟩ := h; rfl) | (obtain ⟨_, _, _, _, _, _, _, _, _, _, _, _, _, _, _, _, _, rfl, _⟩ := h; rfl) | (obtain ⟨_, _, _, _, _, _, _, _, _, _, _, _, _, _, _, _, _, _, rfl, _⟩ := h; rfl) | (obtain ⟨_, _, _, _, _, _, _, _, _, _, _, _, _, _, _, _, _, _, _, rfl, _⟩ := h; rfl) | (obtain ⟨_, _, _, _, _, _, _, _, _, _, _, _, _, _, _, _, _, _, _, _, rfl, _⟩ := h; rfl) | (obtain ⟨_, _, _, _, _, _, _, _, _, _, _, _, _, _, _, _, _, _, _, _, _, rfl, _⟩ := h; rfl) | (obtain ⟨_, _, _, _, _, _, _, _, _, _, _, _, _, _, _, _, _, _, _, _, _, _, rfl, _⟩ := h; rfl) | (obtain ⟨_, _, _, _, _, _, _, _, _, _, _, _, _, _, _, _, _, _, _, _, _, _, _, rfl, _⟩ := h; rfl) | (obtain ⟨_, _, _, _, _, _, _, _, _, _, _, _, _, _, _, _, _, _, _, _, _, _, _, _, rfl, _⟩ := h; rfl) | (obtain ⟨_, _, _, _, _, _, _, _, _, _, _, _, _, _, _, _, _, _, _, _, _, _, _, _, _, rfl, _⟩ := h; rfl) | (obtain ⟨_, _, _, _, _, _, _, _, _, _, _, _, _, _, _, _, _, _, _, _, _, _, _, _, _, _, rfl, _⟩ := h; rfl) | (obtain ⟨_, _, _, _, _, _, _, _, _, _, _, _, _, _, _, _, _, _, _, _, _, _, _, _, _, _, _, rfl, _⟩ := h; rfl) | (obtain ⟨_, _, _, _, _, _, _, _, _, _, _, _, _, _, _, _, _, _, _, _, _, _, _, _, _, _, _, _, rfl, _⟩ := h; rfl) | (obtain ⟨_, _, _, _, _, _, _, _, _, _, _, _, _, _, _, _, _, _, _, _, _, _, _, _, _, _, _, _, _, rfl, _⟩ := h; rfl) | (obtain ⟨_, _, _, _, _, _, _, _, _, _, _, _, _, _, _, _, _, _, _, _, _, _, _, _, _, _, _, _, _, _, rfl, _⟩ := h; rfl)
  · exact (pss_cons (ps_try_many rfl rfl takes0 (fun W1 pn1 xe1 tk1 po1 => (pss_one (ps_expr (pclS c_L_refuse tk1 hr (by decide) (by rfl) (pa_cons (pv 0) pa_nil))))) (HdsOk.cons ⟨by rfl, by decide, .inl n_NoNumber⟩ (fun a oe cls d pn hz hf => (pss_one (ps_ret pe_int))) (HdsOk.cons ⟨by rfl, by decide, .inl n_NoPower⟩ (fun a oe cls d pn hz hf => (pss_one (ps_ret pe_int))) (HdsOk.cons ⟨by rfl, by decide, .inl n_ByNought⟩ (fun a oe cls d pn hz hf => (pss_one (ps_ret pe_int))) (HdsOk.cons ⟨by rfl, by decide, .inl n_NotWhole⟩ (fun a oe cls d pn hz hf => (pss_one (ps_ret pe_int))) (HdsOk.cons ⟨by rfl, by decide, .inl n_NoMeet⟩ (fun a oe cls d pn hz hf => (pss_one (ps_ret pe_int))) (HdsOk.cons ⟨by rfl, by decide, .inl n_NoParts⟩ (fun a oe cls d pn hz hf => (pss_one (ps_ret pe_int))) (HdsOk.cons ⟨by rfl, by decide, .inl n_NotWritten⟩ (fun a oe cls d pn hz hf => (pss_one (ps_ret pe_int))) HdsOk.nil))))))))
      (pss_one (ps_ret pe_int)))
theorem ok_L_last {cs : Cs} {f : Addr} {fd : FuncData} (F : Fun K "_law_last" "_law_last" s_L_last f fd) (T : Tx K cs.PolyError [cs.NoNumber, cs.NoPower, cs.ByNought, cs.NotWhole, cs.NoMeet, cs.NoParts, cs.NotWritten])  (n_NotWritten : mg "NotWritten" = some (.ref cs.NotWritten)) (n_NoParts : mg "NoParts" = some (.ref cs.NoParts)) (n_NoMeet : mg "NoMeet" = some (.ref cs.NoMeet)) (n_NotWhole : mg "NotWhole" = some (.ref cs.NotWhole)) (n_ByNought : mg "ByNought" = some (.ref cs.ByNought)) (n_NoPower : mg "NoPower" = some (.ref cs.NoPower)) (n_NoNumber : mg "NoNumber" = some (.ref cs.NoNumber)) (c_L_refuse : ClX P w K mg base 47 "_law_refuse" (sp_L_refuse K cs))  : FnOk P w K mg base CX0 48 f fd ["_law_which"] (sp_L_last K cs) := by
  refine F.ok sc_L_last (fun vs H Q E h => ?_) (fun cdv A outer s H vs Q E hr h => ⟨t_L_last K cs, ?_, run_L_last T (by simp) (by simp) (by simp) (by simp) (by simp) (by simp) (by simp) (by have h := T.nd; simp only [List.pairwise_cons, List.mem_cons, List.not_mem_nil, or_false, forall_eq_or_imp, forall_eq] at h; simp [h]) (by have h := T.nd; simp only [List.pairwise_cons, List.mem_cons, List.not_mem_nil, or_false, forall_eq_or_imp, forall_eq] at h; simp [h]) (by have h := T.nd; simp only [List.pairwise_cons, List.mem_cons, List.not_mem_nil, or_false, forall_eq_or_imp, forall_eq] at h; simp [h]) (by have h := T.nd; simp only [List.pairwise_cons, List.mem_cons, List.not_mem_nil, or_false, forall_eq_or_imp, forall_eq] at h; simp [h]) (by have h := T.nd; simp only [List.pairwise_cons, List.mem_cons, List.not_mem_nil, or_false, forall_eq_or_imp, forall_eq] at h; simp [h]) (by have h := T.nd; simp only [List.pairwise_cons, List.mem_cons, List.not_mem_nil, or_false, forall_eq_or_imp, forall_eq] at h; simp [h]) (by have h := T.nd; simp only [List.pairwise_cons, List.mem_cons, List.not_mem_nil, or_false, forall_eq_or_imp, forall_eq] at h; simp [h]) (by have h := T.nd; simp only [List.pairwise_cons, List.mem_cons, List.not_mem_nil, or_false, forall_eq_or_imp, forall_eq] at h; simp [h]) (by have h := T.nd; simp only [List.pairwise_cons, List.mem_cons, List.not_mem_nil, or_false, forall_eq_or_imp, forall_eq] at h; simp [h]) (by have h := T.nd; simp only [List.pairwise_cons, List.mem_cons, List.not_mem_nil, or_false, forall_eq_or_imp, forall_eq] at h; simp [h]) (by have h := T.nd; simp only [List.pairwise_cons, List.mem_cons, List.not_mem_nil, or_false, forall_eq_or_imp, forall_eq] at h; simp [h]) (by have h := T.nd; simp only [List.pairwise_cons, List.mem_cons, List.not_mem_nil, or_false, forall_eq_or_imp, forall_eq] at h; simp [h]) (by have h := T.nd; simp only [List.pairwise_cons, List.mem_cons, List.not_mem_nil, or_false, forall_eq_or_imp, forall_eq] at h; simp [h]) (by have h := T.nd; simp only [List.pairwise_cons, List.mem_cons, List.not_mem_nil, or_false, forall_eq_or_imp, forall_eq] at h; simp [h]) (by have h := T.nd; simp only [List.pairwise_cons, List.mem_cons, List.not_mem_nil, or_false, forall_eq_or_imp, forall_eq] at h; simp [h]) (by have h := T.nd; simp only [List.pairwise_cons, List.mem_cons, List.not_mem_nil, or_false, forall_eq_or_imp, forall_eq] at h; simp [h]) (by have h := T.nd; simp only [List.pairwise_cons, List.mem_cons, List.not_mem_nil, or_false, forall_eq_or_imp, forall_eq] at h; simp [h]) (by have h := T.nd; simp only [List.pairwise_cons, List.mem_cons, List.not_mem_nil, or_false, forall_eq_or_imp, forall_eq] at h; simp [h]) (by have h := T.nd; simp only [List.pairwise_cons, List.mem_cons, List.not_mem_nil, or_false, forall_eq_or_imp, forall_eq] at h; simp [h]) (by have h := T.nd; simp only [List.pairwise_cons, List.mem_cons, List.not_mem_nil, or_false, forall_eq_or_imp, forall_eq] at h; simp [h]) (by have h := T.nd; simp only [List.pairwise_cons, List.mem_cons, List.not_mem_nil, or_false, forall_eq_or_imp, forall_eq] at h; simp [h]) h⟩)
  · first | (obtain ⟨_, rfl, _⟩ := h; rfl) | (obtain ⟨_, _, rfl, _⟩ := h; rfl) | (obtain ⟨_, _, _, rfl, _⟩ := h; rfl) | (obtain ⟨_, _, _, _, rfl, _⟩ := h; rfl) | (obtain ⟨_, _, _, _, _, rfl, _⟩ := h; rfl) | (obtain ⟨_, _, _, _, _, _, rfl, _⟩ := h; rfl) | (obtain ⟨_, _, _, _, _, _, _, rfl, _⟩ := h; rfl) | (obtain ⟨_, _, _, _, _, _, _, _, rfl, _⟩ := h; rfl) | (obtain ⟨_, _, _, _, _, _, _, _, _, rfl, _⟩ := h; rfl) | (obtain ⟨_, _, _, _, _, _, _, _, _, _, rfl, _⟩ := h; rfl) | (obtain ⟨_, _, _, _, _, _, _, _, _, _, _, rfl, _⟩ := h; rfl) | (obtain ⟨_, _, _, _, _, _, _, _, _, _, _, _, rfl, _⟩ := h; rfl) | (obtain ⟨_, _, _, _, _, _, _, _, _, _, _, _, _, rfl, _⟩ := h; rfl) | (obtain ⟨_, _, _, _, _, _, _, _, _, _, _, _, _, _, rfl, _⟩ := h; rfl) | (obtain ⟨_, _, _, _, _, _, _, _, _, _, _, _, _, _, _, rfl, _⟩ := h; rfl) | (obtain ⟨_, _, _, _, _, _, _, _, _, _, _, _, _, _, _, _, rfl, _⟩ := h; rfl) | (obtain ⟨_, _, _, _, _, _, _, _, _, _, _, _, _, _, _, _, _, rfl, _⟩ := h; rfl) | (obtain ⟨_, _, _, _, _, _, _, _, _, _, _, _, _, _, _, _, _, _, rfl, _⟩ := h; rfl) | (obtain ⟨_, _, _, _, _, _, _, _, _, _, _, _, _, _, _, _, _, _, _, rfl, _⟩ := h; rfl) | (obtain ⟨_, _, _, _, _, _, _, _, _, _, _, _, _, _, _, _, _, _, _, _, rfl, _⟩ := h; rfl) | (obtain ⟨_, _, _, _, _, _, _, _, _, _, _, _, _, _, _, _, _, _, _, _, _, rfl, _⟩ := h; rfl) | (obtain ⟨_, _, _, _, _, _, _, _, _, _, _, _, _, _, _, _, _, _, _, _, _, _, rfl, _⟩ := h; rfl) | (obtain ⟨_, _, _, _, _, _, _, _, _, _, _, _, _, _, _, _, _, _, _, _, _, _, _, rfl, _⟩ := h; rfl) | (obtain ⟨_, _, _, _, _, _, _, _, _, _, _, _, _, _, _, _, _, _, _, _, _, _, _, _, rfl, _⟩ := h; rfl) | (obtain ⟨_, _, _, _, _, _, _, _, _, _, _, _, _, _, _, _, _, _, _, _, _, _, _, _, _, rfl, _⟩ := h; rfl) | (obtain ⟨_, _, _, _, _, _, _, _, _, _, _, _, _, _, _, _, _, _, _, _, _, _, _, _, _, _, rfl, _⟩ := h; rfl) | (obtain ⟨_, _, _, _, _, _, _, _, _, _, _, _, _, _, _, _, _, _, _, _, _, _, _, _, _, _, _, rfl, _⟩ := h; rfl) | (obtain ⟨_, _, _, _, _, _, _, _, _, _, _, _, _, _, _, _, _, _, _, _, _, _, _, _, _, _, _, _, rfl, _⟩ := h; rfl) | (obtain ⟨_, _, _, _, _, _, _, _, _, _, _, _, _, _, _, _, _, _, _, _, _, _, _, _, _, _, _, _, _, rfl, _⟩ := h; rfl) | (obtain ⟨_, _, _, _, _, _, _, _, _, _, _, _, _, _, _, _, _, _, _, _, _, _, _, _, _, _, _, _, _, _, rfl, _⟩ := h; rfl)
  · exact (pss_cons (ps_try_many rfl rfl takes0 (fun W1 pn1 xe1 tk1 po1 => (pss_one (ps_expr (pclS c_L_refuse tk1 hr (by decide) (by rfl) (pa_cons (pv 0) pa_nil))))) (HdsOk.cons ⟨by rfl, by decide, .inl n_NotWritten⟩ (fun a oe cls d pn hz hf => (pss_one (ps_ret pe_int))) (HdsOk.cons ⟨by rfl, by decide, .inl n_NoParts⟩ (fun a oe cls d pn hz hf => (pss_one (ps_ret pe_int))) (HdsOk.cons ⟨by rfl, by decide, .inl n_NoMeet⟩ (fun a oe cls d pn hz hf => (pss_one (ps_ret pe_int))) (HdsOk.cons ⟨by rfl, by decide, .inl n_NotWhole⟩ (fun a oe cls d pn hz hf => (pss_one (ps_ret pe_int))) (HdsOk.cons ⟨by rfl, by decide, .inl n_ByNought⟩ (fun a oe cls d pn hz hf => (pss_one (ps_ret pe_int))) (HdsOk.cons ⟨by rfl, by decide, .inl n_NoPower⟩ (fun a oe cls d pn hz hf => (pss_one (ps_ret pe_int))) (HdsOk.cons ⟨by rfl, by decide, .inl n_NoNumber⟩ (fun a oe cls d pn hz hf => (pss_one (ps_ret pe_int))) HdsOk.nil))))))))
      (pss_one (ps_ret pe_int)))
theorem ok_L_refused {cs : Cs} {f : Addr} {fd : FuncData} (F : Fun K "_law_refused" "_law_refused" s_L_refused f fd) (T : Tx K cs.PolyError [cs.NoNumber, cs.NoPower, cs.ByNought, cs.NotWhole, cs.NoMeet, cs.NoParts, cs.NotWritten])  (n_PolyError : mg "PolyError" = some (.ref cs.PolyError)) (c_P_read : ClX P w K mg base 4 "read" (sp_P_read K cs)) (m_ValueError : mg "ValueError" = none) (m_isinstance : mg "isinstance" = none) : FnOk P w K mg base CX0 5 f fd ["_law_line"] (sp_L_refused K cs) := by
  refine F.ok sc_L_refused (fun vs H Q E h => ?_) (fun cdv A outer s H vs Q E hr h => ⟨t_L_refused K cs, ?_, run_L_refused T (by simp) h⟩)
  · first | (obtain ⟨_, rfl, _⟩ := h; rfl) | (obtain ⟨_, _, rfl, _⟩ := h; rfl) | (obtain ⟨_, _, _, rfl, _⟩ := h; rfl) | (obtain ⟨_, _, _, _, rfl, _⟩ := h; rfl) | (obtain ⟨_, _, _, _, _, rfl, _⟩ := h; rfl) | (obtain ⟨_, _, _, _, _, _, rfl, _⟩ := h; rfl) | (obtain ⟨_, _, _, _, _, _, _, rfl, _⟩ := h; rfl) | (obtain ⟨_, _, _, _, _, _, _, _, rfl, _⟩ := h; rfl) | (obtain ⟨_, _, _, _, _, _, _, _, _, rfl, _⟩ := h; rfl) | (obtain ⟨_, _, _, _, _, _, _, _, _, _, rfl, _⟩ := h; rfl) | (obtain ⟨_, _, _, _, _, _, _, _, _, _, _, rfl, _⟩ := h; rfl) | (obtain ⟨_, _, _, _, _, _, _, _, _, _, _, _, rfl, _⟩ := h; rfl) | (obtain ⟨_, _, _, _, _, _, _, _, _, _, _, _, _, rfl, _⟩ := h; rfl) | (obtain ⟨_, _, _, _, _, _, _, _, _, _, _, _, _, _, rfl, _⟩ := h; rfl) | (obtain ⟨_, _, _, _, _, _, _, _, _, _, _, _, _, _, _, rfl, _⟩ := h; rfl) | (obtain ⟨_, _, _, _, _, _, _, _, _, _, _, _, _, _, _, _, rfl, _⟩ := h; rfl) | (obtain ⟨_, _, _, _, _, _, _, _, _, _, _, _, _, _, _, _, _, rfl, _⟩ := h; rfl) | (obtain ⟨_, _, _, _, _, _, _, _, _, _, _, _, _, _, _, _, _, _, rfl, _⟩ := h; rfl) | (obtain ⟨_, _, _, _, _, _, _, _, _, _, _, _, _, _, _, _, _, _, _, rfl, _⟩ := h; rfl) | (obtain ⟨_, _, _, _, _, _, _, _, _, _, _, _, _, _, _, _, _, _, _, _, rfl, _⟩ := h; rfl) | (obtain ⟨_, _, _, _, _, _, _, _, _, _, _, _, _, _, _, _, _, _, _, _, _, rfl, _⟩ := h; rfl) | (obtain ⟨_, _, _, _, _, _, _, _, _, _, _, _, _, _, _, _, _, _, _, _, _, _, rfl, _⟩ := h; rfl) | (obtain ⟨_, _, _, _, _, _, _, _, _, _, _, _, _, _, _, _, _, _, _, _, _, _, _, rfl, _⟩ := h; rfl) | (obtain ⟨_, _, _, _, _, _, _, _, _, _, _, _, _, _, _, _, _, _, _, _, _, _, _, _, rfl, _⟩ := h; rfl) | (obtain ⟨_, _, _, _, _, _, _, _, _, _, _, _, _, _, _, _, _, _, _, _, _, _, _, _, _, rfl, _⟩ := h; rfl) | (obtain ⟨_, _, _, _, _, _, _, _, _, _, _, _, _, _, _, _, _, _, _, _, _, _, _, _, _, _, rfl, _⟩ := h; rfl) | (obtain ⟨_, _, _, _, _, _, _, _, _, _, _, _, _, _, _, _, _, _, _, _, _, _, _, _, _, _, _, rfl, _⟩ := h; rfl) | (obtain ⟨_, _, _, _, _, _, _, _, _, _, _, _, _, _, _, _, _, _, _, _, _, _, _, _, _, _, _, _, rfl, _⟩ := h; rfl) | (obtain ⟨_, _, _, _, _, _, _, _, _, _, _, _, _, _, _, _, _, _, _, _, _, _, _, _, _, _, _, _, _, rfl, _⟩ := h; rfl) | (obtain ⟨_, _, _, _, _, _, _, _, _, _, _, _, _, _, _, _, _, _, _, _, _, _, _, _, _, _, _, _, _, _, rfl, _⟩ := h; rfl)
  · exact (pss_cons (ps_try_as (i := 1) rfl rfl sc_L_refused.nd rfl rfl ⟨by rfl, by decide, .inl n_PolyError⟩ takes0 (fun W1 pn1 xe1 tk1 po1 => (pss_one (ps_expr (pclS c_P_read tk1 hr (by decide) (by rfl) (pa_cons (pv 0) pa_nil))))) (fun a oe cls d pn hz hf => (pss_one (ps_ret (pe_isE hz hf (pv 1) (by rfl) m_isinstance (by rfl) m_ValueError (by decide +kernel))))))
      (pss_one (ps_ret pe_bl)))
theorem ok_law {cs : Cs} {f : Addr} {fd : FuncData} (F : Fun K "law" "law" s_law f fd) (T : Tx K cs.PolyError [cs.NoNumber, cs.NoPower, cs.ByNought, cs.NotWhole, cs.NoMeet, cs.NoParts, cs.NotWritten]) (nb_ : PySem.W.nsIn K cStatics sharingNotToldKey = some none) (cn_L_sign : ClN P w K mg base 1 "_law_sign" (sp_L_sign K))  (n_NotWritten : mg "NotWritten" = some (.ref cs.NotWritten)) (c_L_cell_at : Cl P w K mg base 1 "_law_cell_at" (sp_L_cell_at K)) (c_L_first : Cl P w K mg base 48 "_law_first" (sp_L_first K cs)) (c_L_last : Cl P w K mg base 48 "_law_last" (sp_L_last K cs)) (c_L_drawn : Cl P w K mg base 2 "_law_drawn" (sp_L_drawn K)) (c_L_written : Cl P w K mg base 1 "_law_written" (sp_L_written K)) (c_L_turned : Cl P w K mg base 2 "_law_turned" (sp_L_turned K)) (c_L_sign : Cl P w K mg base 1 "_law_sign" (sp_L_sign K)) (c_L_odd : Cl P w K mg base 1 "_law_odd" (sp_L_odd K)) (c_L_due : Cl P w K mg base 3 "_law_due" (sp_L_due K)) (c_P_read : ClX P w K mg base 4 "read" (sp_P_read K cs)) (c_L_refused : Cl P w K mg base 5 "_law_refused" (sp_L_refused K cs)) (c_L_same : Cl P w K mg base 2 "_law_same" (sp_L_same K))  : FnOk P w K mg base CX0 49 f fd ["_law_script"] (sp_law K) := by
  refine F.ok sc_law (fun vs H Q E h => ?_) (fun cdv A outer s H vs Q E hr h => ⟨t_law K cs, ?_, run_law T (by simp) h⟩)
  · first | (obtain ⟨_, rfl, _⟩ := h; rfl) | (obtain ⟨_, _, rfl, _⟩ := h; rfl) | (obtain ⟨_, _, _, rfl, _⟩ := h; rfl) | (obtain ⟨_, _, _, _, rfl, _⟩ := h; rfl) | (obtain ⟨_, _, _, _, _, rfl, _⟩ := h; rfl) | (obtain ⟨_, _, _, _, _, _, rfl, _⟩ := h; rfl) | (obtain ⟨_, _, _, _, _, _, _, rfl, _⟩ := h; rfl) | (obtain ⟨_, _, _, _, _, _, _, _, rfl, _⟩ := h; rfl) | (obtain ⟨_, _, _, _, _, _, _, _, _, rfl, _⟩ := h; rfl) | (obtain ⟨_, _, _, _, _, _, _, _, _, _, rfl, _⟩ := h; rfl) | (obtain ⟨_, _, _, _, _, _, _, _, _, _, _, rfl, _⟩ := h; rfl) | (obtain ⟨_, _, _, _, _, _, _, _, _, _, _, _, rfl, _⟩ := h; rfl) | (obtain ⟨_, _, _, _, _, _, _, _, _, _, _, _, _, rfl, _⟩ := h; rfl) | (obtain ⟨_, _, _, _, _, _, _, _, _, _, _, _, _, _, rfl, _⟩ := h; rfl) | (obtain ⟨_, _, _, _, _, _, _, _, _, _, _, _, _, _, _, rfl, _⟩ := h; rfl) | (obtain ⟨_, _, _, _, _, _, _, _, _, _, _, _, _, _, _, _, rfl, _⟩ := h; rfl) | (obtain ⟨_, _, _, _, _, _, _, _, _, _, _, _, _, _, _, _, _, rfl, _⟩ := h; rfl) | (obtain ⟨_, _, _, _, _, _, _, _, _, _, _, _, _, _, _, _, _, _, rfl, _⟩ := h; rfl) | (obtain ⟨_, _, _, _, _, _, _, _, _, _, _, _, _, _, _, _, _, _, _, rfl, _⟩ := h; rfl) | (obtain ⟨_, _, _, _, _, _, _, _, _, _, _, _, _, _, _, _, _, _, _, _, rfl, _⟩ := h; rfl) | (obtain ⟨_, _, _, _, _, _, _, _, _, _, _, _, _, _, _, _, _, _, _, _, _, rfl, _⟩ := h; rfl) | (obtain ⟨_, _, _, _, _, _, _, _, _, _, _, _, _, _, _, _, _, _, _, _, _, _, rfl, _⟩ := h; rfl) | (obtain ⟨_, _, _, _, _, _, _, _, _, _, _, _, _, _, _, _, _, _, _, _, _, _, _, rfl, _⟩ := h; rfl) | (obtain ⟨_, _, _, _, _, _, _, _, _, _, _, _, _, _, _, _, _, _, _, _, _, _, _, _, rfl, _⟩ := h; rfl) | (obtain ⟨_, _, _, _, _, _, _, _, _, _, _, _, _, _, _, _, _, _, _, _, _, _, _, _, _, rfl, _⟩ := h; rfl) | (obtain ⟨_, _, _, _, _, _, _, _, _, _, _, _, _, _, _, _, _, _, _, _, _, _, _, _, _, _, rfl, _⟩ := h; rfl) | (obtain ⟨_, _, _, _, _, _, _, _, _, _, _, _, _, _, _, _, _, _, _, _, _, _, _, _, _, _, _, rfl, _⟩ := h; rfl) | (obtain ⟨_, _, _, _, _, _, _, _, _, _, _, _, _, _, _, _, _, _, _, _, _, _, _, _, _, _, _, _, rfl, _⟩ := h; rfl) | (obtain ⟨_, _, _, _, _, _, _, _, _, _, _, _, _, _, _, _, _, _, _, _, _, _, _, _, _, _, _, _, _, rfl, _⟩ := h; rfl) | (obtain ⟨_, _, _, _, _, _, _, _, _, _, _, _, _, _, _, _, _, _, _, _, _, _, _, _, _, _, _, _, _, _, rfl, _⟩ := h; rfl)
  · exact (pss_cons (ps_set (i := 1) sc_law.nd rfl (Or.inl rfl) (pe_op op_mod (pcl c_L_cell_at hr (by decide) (by rfl) (pa_cons (pv 0) (pa_cons pe_int pa_nil))) pe_int))
      (pss_cons (ps_if (PW.pt (pw_or (pt_cmpR op_ne (pcl c_L_first hr (by decide) (by rfl) (pa_cons (pv 1) pa_nil)) (pv 1) (nomark _)) (pw_or1 (pt_cmpR op_ne (pcl c_L_last hr (by decide) (by rfl) (pa_cons (pv 1) pa_nil)) (pv 1) (nomark _))))) (pss_one (ps_ret pe_bl)) pss_nil)
      (pss_cons (ps_set (i := 2) sc_law.nd rfl (Or.inl rfl) (pcl c_L_cell_at hr (by decide) (by rfl) (pa_cons (pv 0) (pa_cons pe_int pa_nil))))
      (pss_cons (ps_set (i := 3) sc_law.nd rfl (Or.inl rfl) (pcl c_L_cell_at hr (by decide) (by rfl) (pa_cons (pv 0) (pa_cons pe_int pa_nil))))
      (pss_intT (i := 4) sc_law.nd rfl (Or.inl rfl)
      (psst_cons (PST.of (ps_if (pt_cmpR op_eq (pe_op op_mod (pv 2) pe_int) pe_int (nomark _)) (pss_one (ps_set (i := 4) sc_law.nd rfl (Or.inl rfl) (pe_op op_mod (pe_op op_fdivW (pv 2) pe_int) pe_int))) pss_nil))
      (psst_cons (PST.of (ps_set (i := 5) sc_law.nd rfl (Or.inl rfl) (pcl c_L_written hr (by decide) (by rfl) (pa_cons (pcl c_L_drawn hr (by decide) (by rfl) (pa_cons (pv 0) (pa_cons pe_int (pa_cons (pe_op op_mod (pe_op op_fdivW (pv 2) pe_int) pe_int) (pa_cons (pv 4) pa_nil))))) pa_nil))))
      (psst_cons (PST.of (ps_if (pt_cmpR op_eq (pe_op op_mod (pv 3) pe_int) pe_int (nomark _)) (pss_one (ps_set (i := 5) sc_law.nd rfl (Or.inl rfl) (pcl c_L_turned hr (by decide) (by rfl) (pa_cons (pv 5) (pa_cons (pcl c_L_cell_at hr (by decide) (by rfl) (pa_cons (pv 0) (pa_cons pe_int pa_nil))) (pa_cons (pcl c_L_cell_at hr (by decide) (by rfl) (pa_cons (pv 0) (pa_cons pe_int pa_nil))) pa_nil)))))) pss_nil))
      (psst_cons (CwR.pst_if (pt_cmpR op_eq (pe_op op_mod (pv 3) pe_int) pe_int (nomark _)) (CwR.psst_one (pst_set (i := 5) sc_law.nd rfl (Or.inl rfl) (pet_repF nb_ (pv 5) (pcN cn_L_sign hr (by decide) (by rfl) (pa_cons (pcl c_L_cell_at hr (by decide) (by rfl) (pa_cons (pv 0) (pa_cons pe_int pa_nil))) pa_nil))))) (PSsT.of pss_nil))
      (psst_cons (PST.of (ps_if (pt_cmpR op_in_seq (pe_op op_mod (pv 3) pe_int) (pe_tup (pa_cons pe_int (pa_cons pe_int (pa_cons pe_int pa_nil)))) (by rfl)) (pss_one (ps_set (i := 5) sc_law.nd rfl (Or.inl rfl) (pcl c_L_odd hr (by decide) (by rfl) (pa_cons (pcl c_L_cell_at hr (by decide) (by rfl) (pa_cons (pv 0) (pa_cons pe_int pa_nil))) pa_nil)))) pss_nil))
      (psst_cons (PST.of (ps_set (i := 6) sc_law.nd rfl (Or.inl rfl) (pcl c_L_due hr (by decide) (by rfl) (pa_cons (pv 5) pa_nil))))
      (psst_cons (PST.of (ps_set (i := 7) sc_law.nd rfl (Or.inl rfl) pe_bl))
      (psst_cons (PST.of (ps_set (i := 8) sc_law.nd rfl (Or.inl rfl) (pe_lst pa_nil)))
      (psst_cons (PST.of (ps_try_only rfl rfl ⟨by rfl, by decide, .inl n_NotWritten⟩ takes0 (fun W1 pn1 xe1 tk1 po1 => (pss_one (ps_set (i := 8) sc_law.nd rfl (Or.inl rfl) (pclS c_P_read tk1 hr (by decide) (by rfl) (pa_cons (pv 5) pa_nil))))) (fun a oe cls d pn hz hf => (pss_one (ps_set (i := 7) sc_law.nd rfl (Or.inl rfl) pe_bl)))))
      (psst_cons (PST.of (ps_if (pt_cmpR op_isN (pv 6) pe_non (nomark _)) (pss_one (ps_ret (pe_and (pv 7) (pe_one (pcl c_L_refused hr (by decide) (by rfl) (pa_cons (pv 5) pa_nil)))))) pss_nil))
      (psst_cons (PST.of (ps_if (PW.pt (pw_or (pt_val (pv 7)) (pw_or1 (pt_not (pt_val (pcl c_L_same hr (by decide) (by rfl) (pa_cons (pv 8) (pa_cons (pv 6) pa_nil)))))))) (pss_one (ps_ret pe_bl)) pss_nil))
      (psst_cons (PST.of (ps_expr (pe_bm PySem.F.plainAttrs_list PySem.F.slot_list_append PySem.F.type_list_append mt_append (pv 8) (pa_cons pe_int pa_nil))))
      (CwR.psst_one (PST.of (ps_ret (pcl c_L_same hr (by decide) (by rfl) (pa_cons (pclX c_P_read hr (by decide) (by rfl) (pa_cons (pv 5) pa_nil)) (pa_cons (pv 6) pa_nil)))))))))))))))))))))))
end
theorem all_mk {l : PySem.W.OpenLaw} {w : World} {K : PySem.W.Frag} {h : Heap} {mg : Str → Option Value} {fa f_P_whole_number f_P_size_of f_P_power_of f_P_size_and_power f_P_signs_and_terms f_P_read f_P_is_whole f_P_without_end_noughts f_P_made f_P_number_at f_P_plus f_P_minus f_P_times f_P_scaled f_P_raised f_P_slope f_P_divided f_P_quotient f_P_content f_P_signed_content f_P_lessened f_P_simple f_P_least_step f_P_next_step f_P_meet f_P_parts f_L_whole f_L_cell_at f_L_trim f_L_same f_L_number f_L_drawn f_L_written f_L_figures f_L_term f_L_due f_L_odd f_L_sign f_L_turned f_L_refuse f_L_first f_L_last f_L_refused f_law x_PolyError x_NoNumber x_NoPower x_ByNought x_NotWhole x_NoMeet x_NoParts x_NotWritten : Addr} (X : K.In h) (G : h.Ns mainGlobals mg) (hfa : mg "law" = some (.ref fa))
    {od_P_whole_number an_P_whole_number : Option Addr} {sl_P_whole_number : Array (Option Value)} {oc_P_whole_number kV_P_whole_number dc_P_whole_number pm_P_whole_number cd_P_whole_number ct_P_whole_number : Value}
    {od_P_size_of an_P_size_of : Option Addr} {sl_P_size_of : Array (Option Value)} {oc_P_size_of kV_P_size_of dc_P_size_of pm_P_size_of cd_P_size_of ct_P_size_of : Value}
    {od_P_power_of an_P_power_of : Option Addr} {sl_P_power_of : Array (Option Value)} {oc_P_power_of kV_P_power_of dc_P_power_of pm_P_power_of cd_P_power_of ct_P_power_of : Value}
    {od_P_size_and_power an_P_size_and_power : Option Addr} {sl_P_size_and_power : Array (Option Value)} {oc_P_size_and_power kV_P_size_and_power dc_P_size_and_power pm_P_size_and_power cd_P_size_and_power ct_P_size_and_power : Value}
    {od_P_signs_and_terms an_P_signs_and_terms : Option Addr} {sl_P_signs_and_terms : Array (Option Value)} {oc_P_signs_and_terms kV_P_signs_and_terms dc_P_signs_and_terms pm_P_signs_and_terms cd_P_signs_and_terms ct_P_signs_and_terms : Value}
    {od_P_read an_P_read : Option Addr} {sl_P_read : Array (Option Value)} {oc_P_read kV_P_read dc_P_read pm_P_read cd_P_read ct_P_read : Value}
    {od_P_is_whole an_P_is_whole : Option Addr} {sl_P_is_whole : Array (Option Value)} {oc_P_is_whole kV_P_is_whole dc_P_is_whole pm_P_is_whole cd_P_is_whole ct_P_is_whole : Value}
    {od_P_without_end_noughts an_P_without_end_noughts : Option Addr} {sl_P_without_end_noughts : Array (Option Value)} {oc_P_without_end_noughts kV_P_without_end_noughts dc_P_without_end_noughts pm_P_without_end_noughts cd_P_without_end_noughts ct_P_without_end_noughts : Value}
    {od_P_made an_P_made : Option Addr} {sl_P_made : Array (Option Value)} {oc_P_made kV_P_made dc_P_made pm_P_made cd_P_made ct_P_made : Value}
    {od_P_number_at an_P_number_at : Option Addr} {sl_P_number_at : Array (Option Value)} {oc_P_number_at kV_P_number_at dc_P_number_at pm_P_number_at cd_P_number_at ct_P_number_at : Value}
    {od_P_plus an_P_plus : Option Addr} {sl_P_plus : Array (Option Value)} {oc_P_plus kV_P_plus dc_P_plus pm_P_plus cd_P_plus ct_P_plus : Value}
    {od_P_minus an_P_minus : Option Addr} {sl_P_minus : Array (Option Value)} {oc_P_minus kV_P_minus dc_P_minus pm_P_minus cd_P_minus ct_P_minus : Value}
    {od_P_times an_P_times : Option Addr} {sl_P_times : Array (Option Value)} {oc_P_times kV_P_times dc_P_times pm_P_times cd_P_times ct_P_times : Value}
    {od_P_scaled an_P_scaled : Option Addr} {sl_P_scaled : Array (Option Value)} {oc_P_scaled kV_P_scaled dc_P_scaled pm_P_scaled cd_P_scaled ct_P_scaled : Value}
    {od_P_raised an_P_raised : Option Addr} {sl_P_raised : Array (Option Value)} {oc_P_raised kV_P_raised dc_P_raised pm_P_raised cd_P_raised ct_P_raised : Value}
    {od_P_slope an_P_slope : Option Addr} {sl_P_slope : Array (Option Value)} {oc_P_slope kV_P_slope dc_P_slope pm_P_slope cd_P_slope ct_P_slope : Value}
    {od_P_divided an_P_divided : Option Addr} {sl_P_divided : Array (Option Value)} {oc_P_divided kV_P_divided dc_P_divided pm_P_divided cd_P_divided ct_P_divided : Value}
    {od_P_quotient an_P_quotient : Option Addr} {sl_P_quotient : Array (Option Value)} {oc_P_quotient kV_P_quotient dc_P_quotient pm_P_quotient cd_P_quotient ct_P_quotient : Value}
    {od_P_content an_P_content : Option Addr} {sl_P_content : Array (Option Value)} {oc_P_content kV_P_content dc_P_content pm_P_content cd_P_content ct_P_content : Value}
    {od_P_signed_content an_P_signed_content : Option Addr} {sl_P_signed_content : Array (Option Value)} {oc_P_signed_content kV_P_signed_content dc_P_signed_content pm_P_signed_content cd_P_signed_content ct_P_signed_content : Value}
    {od_P_lessened an_P_lessened : Option Addr} {sl_P_lessened : Array (Option Value)} {oc_P_lessened kV_P_lessened dc_P_lessened pm_P_lessened cd_P_lessened ct_P_lessened : Value}
    {od_P_simple an_P_simple : Option Addr} {sl_P_simple : Array (Option Value)} {oc_P_simple kV_P_simple dc_P_simple pm_P_simple cd_P_simple ct_P_simple : Value}
    {od_P_least_step an_P_least_step : Option Addr} {sl_P_least_step : Array (Option Value)} {oc_P_least_step kV_P_least_step dc_P_least_step pm_P_least_step cd_P_least_step ct_P_least_step : Value}
    {od_P_next_step an_P_next_step : Option Addr} {sl_P_next_step : Array (Option Value)} {oc_P_next_step kV_P_next_step dc_P_next_step pm_P_next_step cd_P_next_step ct_P_next_step : Value}
    {od_P_meet an_P_meet : Option Addr} {sl_P_meet : Array (Option Value)} {oc_P_meet kV_P_meet dc_P_meet pm_P_meet cd_P_meet ct_P_meet : Value}
    {od_P_parts an_P_parts : Option Addr} {sl_P_parts : Array (Option Value)} {oc_P_parts kV_P_parts dc_P_parts pm_P_parts cd_P_parts ct_P_parts : Value}
    {od_L_whole an_L_whole : Option Addr} {sl_L_whole : Array (Option Value)} {oc_L_whole kV_L_whole dc_L_whole pm_L_whole cd_L_whole ct_L_whole : Value}
    {od_L_cell_at an_L_cell_at : Option Addr} {sl_L_cell_at : Array (Option Value)} {oc_L_cell_at kV_L_cell_at dc_L_cell_at pm_L_cell_at cd_L_cell_at ct_L_cell_at : Value}
    {od_L_trim an_L_trim : Option Addr} {sl_L_trim : Array (Option Value)} {oc_L_trim kV_L_trim dc_L_trim pm_L_trim cd_L_trim ct_L_trim : Value}
    {od_L_same an_L_same : Option Addr} {sl_L_same : Array (Option Value)} {oc_L_same kV_L_same dc_L_same pm_L_same cd_L_same ct_L_same : Value}
    {od_L_number an_L_number : Option Addr} {sl_L_number : Array (Option Value)} {oc_L_number kV_L_number dc_L_number pm_L_number cd_L_number ct_L_number : Value}
    {od_L_drawn an_L_drawn : Option Addr} {sl_L_drawn : Array (Option Value)} {oc_L_drawn kV_L_drawn dc_L_drawn pm_L_drawn cd_L_drawn ct_L_drawn : Value}
    {od_L_written an_L_written : Option Addr} {sl_L_written : Array (Option Value)} {oc_L_written kV_L_written dc_L_written pm_L_written cd_L_written ct_L_written : Value}
    {od_L_figures an_L_figures : Option Addr} {sl_L_figures : Array (Option Value)} {oc_L_figures kV_L_figures dc_L_figures pm_L_figures cd_L_figures ct_L_figures : Value}
    {od_L_term an_L_term : Option Addr} {sl_L_term : Array (Option Value)} {oc_L_term kV_L_term dc_L_term pm_L_term cd_L_term ct_L_term : Value}
    {od_L_due an_L_due : Option Addr} {sl_L_due : Array (Option Value)} {oc_L_due kV_L_due dc_L_due pm_L_due cd_L_due ct_L_due : Value}
    {od_L_odd an_L_odd : Option Addr} {sl_L_odd : Array (Option Value)} {oc_L_odd kV_L_odd dc_L_odd pm_L_odd cd_L_odd ct_L_odd : Value}
    {od_L_sign an_L_sign : Option Addr} {sl_L_sign : Array (Option Value)} {oc_L_sign kV_L_sign dc_L_sign pm_L_sign cd_L_sign ct_L_sign : Value}
    {od_L_turned an_L_turned : Option Addr} {sl_L_turned : Array (Option Value)} {oc_L_turned kV_L_turned dc_L_turned pm_L_turned cd_L_turned ct_L_turned : Value}
    {od_L_refuse an_L_refuse : Option Addr} {sl_L_refuse : Array (Option Value)} {oc_L_refuse kV_L_refuse dc_L_refuse pm_L_refuse cd_L_refuse ct_L_refuse : Value}
    {od_L_first an_L_first : Option Addr} {sl_L_first : Array (Option Value)} {oc_L_first kV_L_first dc_L_first pm_L_first cd_L_first ct_L_first : Value}
    {od_L_last an_L_last : Option Addr} {sl_L_last : Array (Option Value)} {oc_L_last kV_L_last dc_L_last pm_L_last cd_L_last ct_L_last : Value}
    {od_L_refused an_L_refused : Option Addr} {sl_L_refused : Array (Option Value)} {oc_L_refused kV_L_refused dc_L_refused pm_L_refused cd_L_refused ct_L_refused : Value}
    {od_law an_law : Option Addr} {sl_law : Array (Option Value)} {oc_law kV_law dc_law pm_law cd_law ct_law : Value}
    {tk_GREATEST_POWER : Tok}
    {tk_LONGEST_TAIL : Tok}
    (a_P_whole_number : PySem.W.nsIn K mainGlobals "_whole_number" = some (some (.ref f_P_whole_number))) (l_P_whole_number : K.lookup f_P_whole_number = some ⟨oc_P_whole_number, od_P_whole_number, .func (PySem.W.fnOf "_whole_number" "_whole_number" (defArgs s_P_whole_number) (defBody s_P_whole_number) (defScope s_P_whole_number) .none kV_P_whole_number dc_P_whole_number pm_P_whole_number an_P_whole_number cd_P_whole_number ct_P_whole_number), sl_P_whole_number⟩) (e_P_whole_number : PySem.W.codeIn K cd_P_whole_number "_whole_number" = true) (k_P_whole_number : PySem.W.keepIn K (.ref f_P_whole_number) = true)
    (a_P_size_of : PySem.W.nsIn K mainGlobals "_size_of" = some (some (.ref f_P_size_of))) (l_P_size_of : K.lookup f_P_size_of = some ⟨oc_P_size_of, od_P_size_of, .func (PySem.W.fnOf "_size_of" "_size_of" (defArgs s_P_size_of) (defBody s_P_size_of) (defScope s_P_size_of) .none kV_P_size_of dc_P_size_of pm_P_size_of an_P_size_of cd_P_size_of ct_P_size_of), sl_P_size_of⟩) (e_P_size_of : PySem.W.codeIn K cd_P_size_of "_size_of" = true) (k_P_size_of : PySem.W.keepIn K (.ref f_P_size_of) = true)
    (a_P_power_of : PySem.W.nsIn K mainGlobals "_power_of" = some (some (.ref f_P_power_of))) (l_P_power_of : K.lookup f_P_power_of = some ⟨oc_P_power_of, od_P_power_of, .func (PySem.W.fnOf "_power_of" "_power_of" (defArgs s_P_power_of) (defBody s_P_power_of) (defScope s_P_power_of) .none kV_P_power_of dc_P_power_of pm_P_power_of an_P_power_of cd_P_power_of ct_P_power_of), sl_P_power_of⟩) (e_P_power_of : PySem.W.codeIn K cd_P_power_of "_power_of" = true) (k_P_power_of : PySem.W.keepIn K (.ref f_P_power_of) = true)
    (a_P_size_and_power : PySem.W.nsIn K mainGlobals "_size_and_power" = some (some (.ref f_P_size_and_power))) (l_P_size_and_power : K.lookup f_P_size_and_power = some ⟨oc_P_size_and_power, od_P_size_and_power, .func (PySem.W.fnOf "_size_and_power" "_size_and_power" (defArgs s_P_size_and_power) (defBody s_P_size_and_power) (defScope s_P_size_and_power) .none kV_P_size_and_power dc_P_size_and_power pm_P_size_and_power an_P_size_and_power cd_P_size_and_power ct_P_size_and_power), sl_P_size_and_power⟩) (e_P_size_and_power : PySem.W.codeIn K cd_P_size_and_power "_size_and_power" = true) (k_P_size_and_power : PySem.W.keepIn K (.ref f_P_size_and_power) = true)
    (a_P_signs_and_terms : PySem.W.nsIn K mainGlobals "_signs_and_terms" = some (some (.ref f_P_signs_and_terms))) (l_P_signs_and_terms : K.lookup f_P_signs_and_terms = some ⟨oc_P_signs_and_terms, od_P_signs_and_terms, .func (PySem.W.fnOf "_signs_and_terms" "_signs_and_terms" (defArgs s_P_signs_and_terms) (defBody s_P_signs_and_terms) (defScope s_P_signs_and_terms) .none kV_P_signs_and_terms dc_P_signs_and_terms pm_P_signs_and_terms an_P_signs_and_terms cd_P_signs_and_terms ct_P_signs_and_terms), sl_P_signs_and_terms⟩) (e_P_signs_and_terms : PySem.W.codeIn K cd_P_signs_and_terms "_signs_and_terms" = true) (k_P_signs_and_terms : PySem.W.keepIn K (.ref f_P_signs_and_terms) = true)
    (a_P_read : PySem.W.nsIn K mainGlobals "read" = some (some (.ref f_P_read))) (l_P_read : K.lookup f_P_read = some ⟨oc_P_read, od_P_read, .func (PySem.W.fnOf "read" "read" (defArgs s_P_read) (defBody s_P_read) (defScope s_P_read) .none kV_P_read dc_P_read pm_P_read an_P_read cd_P_read ct_P_read), sl_P_read⟩) (e_P_read : PySem.W.codeIn K cd_P_read "read" = true) (k_P_read : PySem.W.keepIn K (.ref f_P_read) = true)
    (a_P_is_whole : PySem.W.nsIn K mainGlobals "_is_whole" = some (some (.ref f_P_is_whole))) (l_P_is_whole : K.lookup f_P_is_whole = some ⟨oc_P_is_whole, od_P_is_whole, .func (PySem.W.fnOf "_is_whole" "_is_whole" (defArgs s_P_is_whole) (defBody s_P_is_whole) (defScope s_P_is_whole) .none kV_P_is_whole dc_P_is_whole pm_P_is_whole an_P_is_whole cd_P_is_whole ct_P_is_whole), sl_P_is_whole⟩) (e_P_is_whole : PySem.W.codeIn K cd_P_is_whole "_is_whole" = true) (k_P_is_whole : PySem.W.keepIn K (.ref f_P_is_whole) = true)
    (a_P_without_end_noughts : PySem.W.nsIn K mainGlobals "_without_end_noughts" = some (some (.ref f_P_without_end_noughts))) (l_P_without_end_noughts : K.lookup f_P_without_end_noughts = some ⟨oc_P_without_end_noughts, od_P_without_end_noughts, .func (PySem.W.fnOf "_without_end_noughts" "_without_end_noughts" (defArgs s_P_without_end_noughts) (defBody s_P_without_end_noughts) (defScope s_P_without_end_noughts) .none kV_P_without_end_noughts dc_P_without_end_noughts pm_P_without_end_noughts an_P_without_end_noughts cd_P_without_end_noughts ct_P_without_end_noughts), sl_P_without_end_noughts⟩) (e_P_without_end_noughts : PySem.W.codeIn K cd_P_without_end_noughts "_without_end_noughts" = true) (k_P_without_end_noughts : PySem.W.keepIn K (.ref f_P_without_end_noughts) = true)
    (a_P_made : PySem.W.nsIn K mainGlobals "made" = some (some (.ref f_P_made))) (l_P_made : K.lookup f_P_made = some ⟨oc_P_made, od_P_made, .func (PySem.W.fnOf "made" "made" (defArgs s_P_made) (defBody s_P_made) (defScope s_P_made) .none kV_P_made dc_P_made pm_P_made an_P_made cd_P_made ct_P_made), sl_P_made⟩) (e_P_made : PySem.W.codeIn K cd_P_made "made" = true) (k_P_made : PySem.W.keepIn K (.ref f_P_made) = true)
    (a_P_number_at : PySem.W.nsIn K mainGlobals "_number_at" = some (some (.ref f_P_number_at))) (l_P_number_at : K.lookup f_P_number_at = some ⟨oc_P_number_at, od_P_number_at, .func (PySem.W.fnOf "_number_at" "_number_at" (defArgs s_P_number_at) (defBody s_P_number_at) (defScope s_P_number_at) .none kV_P_number_at dc_P_number_at pm_P_number_at an_P_number_at cd_P_number_at ct_P_number_at), sl_P_number_at⟩) (e_P_number_at : PySem.W.codeIn K cd_P_number_at "_number_at" = true) (k_P_number_at : PySem.W.keepIn K (.ref f_P_number_at) = true)
    (a_P_plus : PySem.W.nsIn K mainGlobals "plus" = some (some (.ref f_P_plus))) (l_P_plus : K.lookup f_P_plus = some ⟨oc_P_plus, od_P_plus, .func (PySem.W.fnOf "plus" "plus" (defArgs s_P_plus) (defBody s_P_plus) (defScope s_P_plus) .none kV_P_plus dc_P_plus pm_P_plus an_P_plus cd_P_plus ct_P_plus), sl_P_plus⟩) (e_P_plus : PySem.W.codeIn K cd_P_plus "plus" = true) (k_P_plus : PySem.W.keepIn K (.ref f_P_plus) = true)
    (a_P_minus : PySem.W.nsIn K mainGlobals "minus" = some (some (.ref f_P_minus))) (l_P_minus : K.lookup f_P_minus = some ⟨oc_P_minus, od_P_minus, .func (PySem.W.fnOf "minus" "minus" (defArgs s_P_minus) (defBody s_P_minus) (defScope s_P_minus) .none kV_P_minus dc_P_minus pm_P_minus an_P_minus cd_P_minus ct_P_minus), sl_P_minus⟩) (e_P_minus : PySem.W.codeIn K cd_P_minus "minus" = true) (k_P_minus : PySem.W.keepIn K (.ref f_P_minus) = true)
    (a_P_times : PySem.W.nsIn K mainGlobals "times" = some (some (.ref f_P_times))) (l_P_times : K.lookup f_P_times = some ⟨oc_P_times, od_P_times, .func (PySem.W.fnOf "times" "times" (defArgs s_P_times) (defBody s_P_times) (defScope s_P_times) .none kV_P_times dc_P_times pm_P_times an_P_times cd_P_times ct_P_times), sl_P_times⟩) (e_P_times : PySem.W.codeIn K cd_P_times "times" = true) (k_P_times : PySem.W.keepIn K (.ref f_P_times) = true)
    (a_P_scaled : PySem.W.nsIn K mainGlobals "scaled" = some (some (.ref f_P_scaled))) (l_P_scaled : K.lookup f_P_scaled = some ⟨oc_P_scaled, od_P_scaled, .func (PySem.W.fnOf "scaled" "scaled" (defArgs s_P_scaled) (defBody s_P_scaled) (defScope s_P_scaled) .none kV_P_scaled dc_P_scaled pm_P_scaled an_P_scaled cd_P_scaled ct_P_scaled), sl_P_scaled⟩) (e_P_scaled : PySem.W.codeIn K cd_P_scaled "scaled" = true) (k_P_scaled : PySem.W.keepIn K (.ref f_P_scaled) = true)
    (a_P_raised : PySem.W.nsIn K mainGlobals "raised" = some (some (.ref f_P_raised))) (l_P_raised : K.lookup f_P_raised = some ⟨oc_P_raised, od_P_raised, .func (PySem.W.fnOf "raised" "raised" (defArgs s_P_raised) (defBody s_P_raised) (defScope s_P_raised) .none kV_P_raised dc_P_raised pm_P_raised an_P_raised cd_P_raised ct_P_raised), sl_P_raised⟩) (e_P_raised : PySem.W.codeIn K cd_P_raised "raised" = true) (k_P_raised : PySem.W.keepIn K (.ref f_P_raised) = true)
    (a_P_slope : PySem.W.nsIn K mainGlobals "slope" = some (some (.ref f_P_slope))) (l_P_slope : K.lookup f_P_slope = some ⟨oc_P_slope, od_P_slope, .func (PySem.W.fnOf "slope" "slope" (defArgs s_P_slope) (defBody s_P_slope) (defScope s_P_slope) .none kV_P_slope dc_P_slope pm_P_slope an_P_slope cd_P_slope ct_P_slope), sl_P_slope⟩) (e_P_slope : PySem.W.codeIn K cd_P_slope "slope" = true) (k_P_slope : PySem.W.keepIn K (.ref f_P_slope) = true)
    (a_P_divided : PySem.W.nsIn K mainGlobals "divided" = some (some (.ref f_P_divided))) (l_P_divided : K.lookup f_P_divided = some ⟨oc_P_divided, od_P_divided, .func (PySem.W.fnOf "divided" "divided" (defArgs s_P_divided) (defBody s_P_divided) (defScope s_P_divided) .none kV_P_divided dc_P_divided pm_P_divided an_P_divided cd_P_divided ct_P_divided), sl_P_divided⟩) (e_P_divided : PySem.W.codeIn K cd_P_divided "divided" = true) (k_P_divided : PySem.W.keepIn K (.ref f_P_divided) = true)
    (a_P_quotient : PySem.W.nsIn K mainGlobals "quotient" = some (some (.ref f_P_quotient))) (l_P_quotient : K.lookup f_P_quotient = some ⟨oc_P_quotient, od_P_quotient, .func (PySem.W.fnOf "quotient" "quotient" (defArgs s_P_quotient) (defBody s_P_quotient) (defScope s_P_quotient) .none kV_P_quotient dc_P_quotient pm_P_quotient an_P_quotient cd_P_quotient ct_P_quotient), sl_P_quotient⟩) (e_P_quotient : PySem.W.codeIn K cd_P_quotient "quotient" = true) (k_P_quotient : PySem.W.keepIn K (.ref f_P_quotient) = true)
    (a_P_content : PySem.W.nsIn K mainGlobals "content" = some (some (.ref f_P_content))) (l_P_content : K.lookup f_P_content = some ⟨oc_P_content, od_P_content, .func (PySem.W.fnOf "content" "content" (defArgs s_P_content) (defBody s_P_content) (defScope s_P_content) .none kV_P_content dc_P_content pm_P_content an_P_content cd_P_content ct_P_content), sl_P_content⟩) (e_P_content : PySem.W.codeIn K cd_P_content "content" = true) (k_P_content : PySem.W.keepIn K (.ref f_P_content) = true)
    (a_P_signed_content : PySem.W.nsIn K mainGlobals "signed_content" = some (some (.ref f_P_signed_content))) (l_P_signed_content : K.lookup f_P_signed_content = some ⟨oc_P_signed_content, od_P_signed_content, .func (PySem.W.fnOf "signed_content" "signed_content" (defArgs s_P_signed_content) (defBody s_P_signed_content) (defScope s_P_signed_content) .none kV_P_signed_content dc_P_signed_content pm_P_signed_content an_P_signed_content cd_P_signed_content ct_P_signed_content), sl_P_signed_content⟩) (e_P_signed_content : PySem.W.codeIn K cd_P_signed_content "signed_content" = true) (k_P_signed_content : PySem.W.keepIn K (.ref f_P_signed_content) = true)
    (a_P_lessened : PySem.W.nsIn K mainGlobals "lessened" = some (some (.ref f_P_lessened))) (l_P_lessened : K.lookup f_P_lessened = some ⟨oc_P_lessened, od_P_lessened, .func (PySem.W.fnOf "lessened" "lessened" (defArgs s_P_lessened) (defBody s_P_lessened) (defScope s_P_lessened) .none kV_P_lessened dc_P_lessened pm_P_lessened an_P_lessened cd_P_lessened ct_P_lessened), sl_P_lessened⟩) (e_P_lessened : PySem.W.codeIn K cd_P_lessened "lessened" = true) (k_P_lessened : PySem.W.keepIn K (.ref f_P_lessened) = true)
    (a_P_simple : PySem.W.nsIn K mainGlobals "simple" = some (some (.ref f_P_simple))) (l_P_simple : K.lookup f_P_simple = some ⟨oc_P_simple, od_P_simple, .func (PySem.W.fnOf "simple" "simple" (defArgs s_P_simple) (defBody s_P_simple) (defScope s_P_simple) .none kV_P_simple dc_P_simple pm_P_simple an_P_simple cd_P_simple ct_P_simple), sl_P_simple⟩) (e_P_simple : PySem.W.codeIn K cd_P_simple "simple" = true) (k_P_simple : PySem.W.keepIn K (.ref f_P_simple) = true)
    (a_P_least_step : PySem.W.nsIn K mainGlobals "_least_step" = some (some (.ref f_P_least_step))) (l_P_least_step : K.lookup f_P_least_step = some ⟨oc_P_least_step, od_P_least_step, .func (PySem.W.fnOf "_least_step" "_least_step" (defArgs s_P_least_step) (defBody s_P_least_step) (defScope s_P_least_step) .none kV_P_least_step dc_P_least_step pm_P_least_step an_P_least_step cd_P_least_step ct_P_least_step), sl_P_least_step⟩) (e_P_least_step : PySem.W.codeIn K cd_P_least_step "_least_step" = true) (k_P_least_step : PySem.W.keepIn K (.ref f_P_least_step) = true)
    (a_P_next_step : PySem.W.nsIn K mainGlobals "_next_step" = some (some (.ref f_P_next_step))) (l_P_next_step : K.lookup f_P_next_step = some ⟨oc_P_next_step, od_P_next_step, .func (PySem.W.fnOf "_next_step" "_next_step" (defArgs s_P_next_step) (defBody s_P_next_step) (defScope s_P_next_step) .none kV_P_next_step dc_P_next_step pm_P_next_step an_P_next_step cd_P_next_step ct_P_next_step), sl_P_next_step⟩) (e_P_next_step : PySem.W.codeIn K cd_P_next_step "_next_step" = true) (k_P_next_step : PySem.W.keepIn K (.ref f_P_next_step) = true)
    (a_P_meet : PySem.W.nsIn K mainGlobals "meet" = some (some (.ref f_P_meet))) (l_P_meet : K.lookup f_P_meet = some ⟨oc_P_meet, od_P_meet, .func (PySem.W.fnOf "meet" "meet" (defArgs s_P_meet) (defBody s_P_meet) (defScope s_P_meet) .none kV_P_meet dc_P_meet pm_P_meet an_P_meet cd_P_meet ct_P_meet), sl_P_meet⟩) (e_P_meet : PySem.W.codeIn K cd_P_meet "meet" = true) (k_P_meet : PySem.W.keepIn K (.ref f_P_meet) = true)
    (a_P_parts : PySem.W.nsIn K mainGlobals "parts" = some (some (.ref f_P_parts))) (l_P_parts : K.lookup f_P_parts = some ⟨oc_P_parts, od_P_parts, .func (PySem.W.fnOf "parts" "parts" (defArgs s_P_parts) (defBody s_P_parts) (defScope s_P_parts) .none kV_P_parts dc_P_parts pm_P_parts an_P_parts cd_P_parts ct_P_parts), sl_P_parts⟩) (e_P_parts : PySem.W.codeIn K cd_P_parts "parts" = true) (k_P_parts : PySem.W.keepIn K (.ref f_P_parts) = true)
    (a_L_whole : PySem.W.nsIn K mainGlobals "_law_whole" = some (some (.ref f_L_whole))) (l_L_whole : K.lookup f_L_whole = some ⟨oc_L_whole, od_L_whole, .func (PySem.W.fnOf "_law_whole" "_law_whole" (defArgs s_L_whole) (defBody s_L_whole) (defScope s_L_whole) .none kV_L_whole dc_L_whole pm_L_whole an_L_whole cd_L_whole ct_L_whole), sl_L_whole⟩) (e_L_whole : PySem.W.codeIn K cd_L_whole "_law_whole" = true) (k_L_whole : PySem.W.keepIn K (.ref f_L_whole) = true)
    (a_L_cell_at : PySem.W.nsIn K mainGlobals "_law_cell_at" = some (some (.ref f_L_cell_at))) (l_L_cell_at : K.lookup f_L_cell_at = some ⟨oc_L_cell_at, od_L_cell_at, .func (PySem.W.fnOf "_law_cell_at" "_law_cell_at" (defArgs s_L_cell_at) (defBody s_L_cell_at) (defScope s_L_cell_at) .none kV_L_cell_at dc_L_cell_at pm_L_cell_at an_L_cell_at cd_L_cell_at ct_L_cell_at), sl_L_cell_at⟩) (e_L_cell_at : PySem.W.codeIn K cd_L_cell_at "_law_cell_at" = true) (k_L_cell_at : PySem.W.keepIn K (.ref f_L_cell_at) = true)
    (a_L_trim : PySem.W.nsIn K mainGlobals "_law_trim" = some (some (.ref f_L_trim))) (l_L_trim : K.lookup f_L_trim = some ⟨oc_L_trim, od_L_trim, .func (PySem.W.fnOf "_law_trim" "_law_trim" (defArgs s_L_trim) (defBody s_L_trim) (defScope s_L_trim) .none kV_L_trim dc_L_trim pm_L_trim an_L_trim cd_L_trim ct_L_trim), sl_L_trim⟩) (e_L_trim : PySem.W.codeIn K cd_L_trim "_law_trim" = true) (k_L_trim : PySem.W.keepIn K (.ref f_L_trim) = true)
    (a_L_same : PySem.W.nsIn K mainGlobals "_law_same" = some (some (.ref f_L_same))) (l_L_same : K.lookup f_L_same = some ⟨oc_L_same, od_L_same, .func (PySem.W.fnOf "_law_same" "_law_same" (defArgs s_L_same) (defBody s_L_same) (defScope s_L_same) .none kV_L_same dc_L_same pm_L_same an_L_same cd_L_same ct_L_same), sl_L_same⟩) (e_L_same : PySem.W.codeIn K cd_L_same "_law_same" = true) (k_L_same : PySem.W.keepIn K (.ref f_L_same) = true)
    (a_L_number : PySem.W.nsIn K mainGlobals "_law_number" = some (some (.ref f_L_number))) (l_L_number : K.lookup f_L_number = some ⟨oc_L_number, od_L_number, .func (PySem.W.fnOf "_law_number" "_law_number" (defArgs s_L_number) (defBody s_L_number) (defScope s_L_number) .none kV_L_number dc_L_number pm_L_number an_L_number cd_L_number ct_L_number), sl_L_number⟩) (e_L_number : PySem.W.codeIn K cd_L_number "_law_number" = true) (k_L_number : PySem.W.keepIn K (.ref f_L_number) = true)
    (a_L_drawn : PySem.W.nsIn K mainGlobals "_law_drawn" = some (some (.ref f_L_drawn))) (l_L_drawn : K.lookup f_L_drawn = some ⟨oc_L_drawn, od_L_drawn, .func (PySem.W.fnOf "_law_drawn" "_law_drawn" (defArgs s_L_drawn) (defBody s_L_drawn) (defScope s_L_drawn) .none kV_L_drawn dc_L_drawn pm_L_drawn an_L_drawn cd_L_drawn ct_L_drawn), sl_L_drawn⟩) (e_L_drawn : PySem.W.codeIn K cd_L_drawn "_law_drawn" = true) (k_L_drawn : PySem.W.keepIn K (.ref f_L_drawn) = true)
    (a_L_written : PySem.W.nsIn K mainGlobals "_law_written" = some (some (.ref f_L_written))) (l_L_written : K.lookup f_L_written = some ⟨oc_L_written, od_L_written, .func (PySem.W.fnOf "_law_written" "_law_written" (defArgs s_L_written) (defBody s_L_written) (defScope s_L_written) .none kV_L_written dc_L_written pm_L_written an_L_written cd_L_written ct_L_written), sl_L_written⟩) (e_L_written : PySem.W.codeIn K cd_L_written "_law_written" = true) (k_L_written : PySem.W.keepIn K (.ref f_L_written) = true)
    (a_L_figures : PySem.W.nsIn K mainGlobals "_law_figures" = some (some (.ref f_L_figures))) (l_L_figures : K.lookup f_L_figures = some ⟨oc_L_figures, od_L_figures, .func (PySem.W.fnOf "_law_figures" "_law_figures" (defArgs s_L_figures) (defBody s_L_figures) (defScope s_L_figures) .none kV_L_figures dc_L_figures pm_L_figures an_L_figures cd_L_figures ct_L_figures), sl_L_figures⟩) (e_L_figures : PySem.W.codeIn K cd_L_figures "_law_figures" = true) (k_L_figures : PySem.W.keepIn K (.ref f_L_figures) = true)
    (a_L_term : PySem.W.nsIn K mainGlobals "_law_term" = some (some (.ref f_L_term))) (l_L_term : K.lookup f_L_term = some ⟨oc_L_term, od_L_term, .func (PySem.W.fnOf "_law_term" "_law_term" (defArgs s_L_term) (defBody s_L_term) (defScope s_L_term) .none kV_L_term dc_L_term pm_L_term an_L_term cd_L_term ct_L_term), sl_L_term⟩) (e_L_term : PySem.W.codeIn K cd_L_term "_law_term" = true) (k_L_term : PySem.W.keepIn K (.ref f_L_term) = true)
    (a_L_due : PySem.W.nsIn K mainGlobals "_law_due" = some (some (.ref f_L_due))) (l_L_due : K.lookup f_L_due = some ⟨oc_L_due, od_L_due, .func (PySem.W.fnOf "_law_due" "_law_due" (defArgs s_L_due) (defBody s_L_due) (defScope s_L_due) .none kV_L_due dc_L_due pm_L_due an_L_due cd_L_due ct_L_due), sl_L_due⟩) (e_L_due : PySem.W.codeIn K cd_L_due "_law_due" = true) (k_L_due : PySem.W.keepIn K (.ref f_L_due) = true)
    (a_L_odd : PySem.W.nsIn K mainGlobals "_law_odd" = some (some (.ref f_L_odd))) (l_L_odd : K.lookup f_L_odd = some ⟨oc_L_odd, od_L_odd, .func (PySem.W.fnOf "_law_odd" "_law_odd" (defArgs s_L_odd) (defBody s_L_odd) (defScope s_L_odd) .none kV_L_odd dc_L_odd pm_L_odd an_L_odd cd_L_odd ct_L_odd), sl_L_odd⟩) (e_L_odd : PySem.W.codeIn K cd_L_odd "_law_odd" = true) (k_L_odd : PySem.W.keepIn K (.ref f_L_odd) = true)
    (a_L_sign : PySem.W.nsIn K mainGlobals "_law_sign" = some (some (.ref f_L_sign))) (l_L_sign : K.lookup f_L_sign = some ⟨oc_L_sign, od_L_sign, .func (PySem.W.fnOf "_law_sign" "_law_sign" (defArgs s_L_sign) (defBody s_L_sign) (defScope s_L_sign) .none kV_L_sign dc_L_sign pm_L_sign an_L_sign cd_L_sign ct_L_sign), sl_L_sign⟩) (e_L_sign : PySem.W.codeIn K cd_L_sign "_law_sign" = true) (k_L_sign : PySem.W.keepIn K (.ref f_L_sign) = true)
    (a_L_turned : PySem.W.nsIn K mainGlobals "_law_turned" = some (some (.ref f_L_turned))) (l_L_turned : K.lookup f_L_turned = some ⟨oc_L_turned, od_L_turned, .func (PySem.W.fnOf "_law_turned" "_law_turned" (defArgs s_L_turned) (defBody s_L_turned) (defScope s_L_turned) .none kV_L_turned dc_L_turned pm_L_turned an_L_turned cd_L_turned ct_L_turned), sl_L_turned⟩) (e_L_turned : PySem.W.codeIn K cd_L_turned "_law_turned" = true) (k_L_turned : PySem.W.keepIn K (.ref f_L_turned) = true)
    (a_L_refuse : PySem.W.nsIn K mainGlobals "_law_refuse" = some (some (.ref f_L_refuse))) (l_L_refuse : K.lookup f_L_refuse = some ⟨oc_L_refuse, od_L_refuse, .func (PySem.W.fnOf "_law_refuse" "_law_refuse" (defArgs s_L_refuse) (defBody s_L_refuse) (defScope s_L_refuse) .none kV_L_refuse dc_L_refuse pm_L_refuse an_L_refuse cd_L_refuse ct_L_refuse), sl_L_refuse⟩) (e_L_refuse : PySem.W.codeIn K cd_L_refuse "_law_refuse" = true) (k_L_refuse : PySem.W.keepIn K (.ref f_L_refuse) = true)
    (a_L_first : PySem.W.nsIn K mainGlobals "_law_first" = some (some (.ref f_L_first))) (l_L_first : K.lookup f_L_first = some ⟨oc_L_first, od_L_first, .func (PySem.W.fnOf "_law_first" "_law_first" (defArgs s_L_first) (defBody s_L_first) (defScope s_L_first) .none kV_L_first dc_L_first pm_L_first an_L_first cd_L_first ct_L_first), sl_L_first⟩) (e_L_first : PySem.W.codeIn K cd_L_first "_law_first" = true) (k_L_first : PySem.W.keepIn K (.ref f_L_first) = true)
    (a_L_last : PySem.W.nsIn K mainGlobals "_law_last" = some (some (.ref f_L_last))) (l_L_last : K.lookup f_L_last = some ⟨oc_L_last, od_L_last, .func (PySem.W.fnOf "_law_last" "_law_last" (defArgs s_L_last) (defBody s_L_last) (defScope s_L_last) .none kV_L_last dc_L_last pm_L_last an_L_last cd_L_last ct_L_last), sl_L_last⟩) (e_L_last : PySem.W.codeIn K cd_L_last "_law_last" = true) (k_L_last : PySem.W.keepIn K (.ref f_L_last) = true)
    (a_L_refused : PySem.W.nsIn K mainGlobals "_law_refused" = some (some (.ref f_L_refused))) (l_L_refused : K.lookup f_L_refused = some ⟨oc_L_refused, od_L_refused, .func (PySem.W.fnOf "_law_refused" "_law_refused" (defArgs s_L_refused) (defBody s_L_refused) (defScope s_L_refused) .none kV_L_refused dc_L_refused pm_L_refused an_L_refused cd_L_refused ct_L_refused), sl_L_refused⟩) (e_L_refused : PySem.W.codeIn K cd_L_refused "_law_refused" = true) (k_L_refused : PySem.W.keepIn K (.ref f_L_refused) = true)
    (a_law : PySem.W.nsIn K mainGlobals "law" = some (some (.ref f_law))) (l_law : K.lookup f_law = some ⟨oc_law, od_law, .func (PySem.W.fnOf "law" "law" (defArgs s_law) (defBody s_law) (defScope s_law) .none kV_law dc_law pm_law an_law cd_law ct_law), sl_law⟩) (e_law : PySem.W.codeIn K cd_law "law" = true) (k_law : PySem.W.keepIn K (.ref f_law) = true)
    (nb_ : PySem.W.nsIn K cStatics sharingNotToldKey = some none)
    (n0_PolyError : PySem.W.nsIn K mainGlobals "PolyError" = some (some (.ref x_PolyError)))
    (b0_PolyError : PySem.W.subIn K (.ref x_PolyError) (.type "BaseException") = some true) (t0_PolyError : PySem.W.typeIn K (.ref x_PolyError) = some (.type "type"))
    (hg_PolyError : PySem.W.findIn K (.ref x_PolyError) "__getattribute__" = some (some (.builtin "BaseException.__getattribute__")))
    (hk_PolyError : PySem.W.findIn K (.ref x_PolyError) "__getattr__" = some none)
    (hd_PolyError : PySem.W.hasDictIn K x_PolyError = true)
    (ha_PolyError : PySem.W.findIn K (.ref x_PolyError) "__class__" = some (some (.builtin "object.__class__")))
    (hm_PolyError : PySem.W.mroIn K x_PolyError (.type "object") = some true)
    (kv_PolyError : PySem.W.subIn K (.ref x_PolyError) (.type "ValueError") = some true)
    (n0_NoNumber : PySem.W.nsIn K mainGlobals "NoNumber" = some (some (.ref x_NoNumber)))
    (b0_NoNumber : PySem.W.subIn K (.ref x_NoNumber) (.type "BaseException") = some true) (t0_NoNumber : PySem.W.typeIn K (.ref x_NoNumber) = some (.type "type"))
    (q0_NoNumber : PySem.W.excIn K x_NoNumber [.type "ValueError", .type "Exception", .type "BaseException", .type "object"] "ValueError.__new__" = true) (k0_NoNumber : PySem.W.keepIn K (.ref x_NoNumber) = true)
    (hg_NoNumber : PySem.W.findIn K (.ref x_NoNumber) "__getattribute__" = some (some (.builtin "BaseException.__getattribute__")))
    (hk_NoNumber : PySem.W.findIn K (.ref x_NoNumber) "__getattr__" = some none)
    (hd_NoNumber : PySem.W.hasDictIn K x_NoNumber = true)
    (ha_NoNumber : PySem.W.findIn K (.ref x_NoNumber) "__class__" = some (some (.builtin "object.__class__")))
    (hm_NoNumber : PySem.W.mroIn K x_NoNumber (.type "object") = some true)
    (kv_NoNumber : PySem.W.subIn K (.ref x_NoNumber) (.type "ValueError") = some true)
    (up_NoNumber : PySem.W.subIn K (.ref x_NoNumber) (.ref x_PolyError) = some true)
    (sf_NoNumber : PySem.W.subIn K (.ref x_NoNumber) (.ref x_NoNumber) = some true)
    (n0_NoPower : PySem.W.nsIn K mainGlobals "NoPower" = some (some (.ref x_NoPower)))
    (b0_NoPower : PySem.W.subIn K (.ref x_NoPower) (.type "BaseException") = some true) (t0_NoPower : PySem.W.typeIn K (.ref x_NoPower) = some (.type "type"))
    (q0_NoPower : PySem.W.excIn K x_NoPower [.type "ValueError", .type "Exception", .type "BaseException", .type "object"] "ValueError.__new__" = true) (k0_NoPower : PySem.W.keepIn K (.ref x_NoPower) = true)
    (hg_NoPower : PySem.W.findIn K (.ref x_NoPower) "__getattribute__" = some (some (.builtin "BaseException.__getattribute__")))
    (hk_NoPower : PySem.W.findIn K (.ref x_NoPower) "__getattr__" = some none)
    (hd_NoPower : PySem.W.hasDictIn K x_NoPower = true)
    (ha_NoPower : PySem.W.findIn K (.ref x_NoPower) "__class__" = some (some (.builtin "object.__class__")))
    (hm_NoPower : PySem.W.mroIn K x_NoPower (.type "object") = some true)
    (kv_NoPower : PySem.W.subIn K (.ref x_NoPower) (.type "ValueError") = some true)
    (up_NoPower : PySem.W.subIn K (.ref x_NoPower) (.ref x_PolyError) = some true)
    (sf_NoPower : PySem.W.subIn K (.ref x_NoPower) (.ref x_NoPower) = some true)
    (n0_ByNought : PySem.W.nsIn K mainGlobals "ByNought" = some (some (.ref x_ByNought)))
    (b0_ByNought : PySem.W.subIn K (.ref x_ByNought) (.type "BaseException") = some true) (t0_ByNought : PySem.W.typeIn K (.ref x_ByNought) = some (.type "type"))
    (q0_ByNought : PySem.W.excIn K x_ByNought [.type "ValueError", .type "Exception", .type "BaseException", .type "object"] "ValueError.__new__" = true) (k0_ByNought : PySem.W.keepIn K (.ref x_ByNought) = true)
    (hg_ByNought : PySem.W.findIn K (.ref x_ByNought) "__getattribute__" = some (some (.builtin "BaseException.__getattribute__")))
    (hk_ByNought : PySem.W.findIn K (.ref x_ByNought) "__getattr__" = some none)
    (hd_ByNought : PySem.W.hasDictIn K x_ByNought = true)
    (ha_ByNought : PySem.W.findIn K (.ref x_ByNought) "__class__" = some (some (.builtin "object.__class__")))
    (hm_ByNought : PySem.W.mroIn K x_ByNought (.type "object") = some true)
    (kv_ByNought : PySem.W.subIn K (.ref x_ByNought) (.type "ValueError") = some true)
    (up_ByNought : PySem.W.subIn K (.ref x_ByNought) (.ref x_PolyError) = some true)
    (sf_ByNought : PySem.W.subIn K (.ref x_ByNought) (.ref x_ByNought) = some true)
    (n0_NotWhole : PySem.W.nsIn K mainGlobals "NotWhole" = some (some (.ref x_NotWhole)))
    (b0_NotWhole : PySem.W.subIn K (.ref x_NotWhole) (.type "BaseException") = some true) (t0_NotWhole : PySem.W.typeIn K (.ref x_NotWhole) = some (.type "type"))
    (q0_NotWhole : PySem.W.excIn K x_NotWhole [.type "ValueError", .type "Exception", .type "BaseException", .type "object"] "ValueError.__new__" = true) (k0_NotWhole : PySem.W.keepIn K (.ref x_NotWhole) = true)
    (hg_NotWhole : PySem.W.findIn K (.ref x_NotWhole) "__getattribute__" = some (some (.builtin "BaseException.__getattribute__")))
    (hk_NotWhole : PySem.W.findIn K (.ref x_NotWhole) "__getattr__" = some none)
    (hd_NotWhole : PySem.W.hasDictIn K x_NotWhole = true)
    (ha_NotWhole : PySem.W.findIn K (.ref x_NotWhole) "__class__" = some (some (.builtin "object.__class__")))
    (hm_NotWhole : PySem.W.mroIn K x_NotWhole (.type "object") = some true)
    (kv_NotWhole : PySem.W.subIn K (.ref x_NotWhole) (.type "ValueError") = some true)
    (up_NotWhole : PySem.W.subIn K (.ref x_NotWhole) (.ref x_PolyError) = some true)
    (sf_NotWhole : PySem.W.subIn K (.ref x_NotWhole) (.ref x_NotWhole) = some true)
    (n0_NoMeet : PySem.W.nsIn K mainGlobals "NoMeet" = some (some (.ref x_NoMeet)))
    (b0_NoMeet : PySem.W.subIn K (.ref x_NoMeet) (.type "BaseException") = some true) (t0_NoMeet : PySem.W.typeIn K (.ref x_NoMeet) = some (.type "type"))
    (q0_NoMeet : PySem.W.excIn K x_NoMeet [.type "ValueError", .type "Exception", .type "BaseException", .type "object"] "ValueError.__new__" = true) (k0_NoMeet : PySem.W.keepIn K (.ref x_NoMeet) = true)
    (hg_NoMeet : PySem.W.findIn K (.ref x_NoMeet) "__getattribute__" = some (some (.builtin "BaseException.__getattribute__")))
    (hk_NoMeet : PySem.W.findIn K (.ref x_NoMeet) "__getattr__" = some none)
    (hd_NoMeet : PySem.W.hasDictIn K x_NoMeet = true)
    (ha_NoMeet : PySem.W.findIn K (.ref x_NoMeet) "__class__" = some (some (.builtin "object.__class__")))
    (hm_NoMeet : PySem.W.mroIn K x_NoMeet (.type "object") = some true)
    (kv_NoMeet : PySem.W.subIn K (.ref x_NoMeet) (.type "ValueError") = some true)
    (up_NoMeet : PySem.W.subIn K (.ref x_NoMeet) (.ref x_PolyError) = some true)
    (sf_NoMeet : PySem.W.subIn K (.ref x_NoMeet) (.ref x_NoMeet) = some true)
    (n0_NoParts : PySem.W.nsIn K mainGlobals "NoParts" = some (some (.ref x_NoParts)))
    (b0_NoParts : PySem.W.subIn K (.ref x_NoParts) (.type "BaseException") = some true) (t0_NoParts : PySem.W.typeIn K (.ref x_NoParts) = some (.type "type"))
    (q0_NoParts : PySem.W.excIn K x_NoParts [.type "ValueError", .type "Exception", .type "BaseException", .type "object"] "ValueError.__new__" = true) (k0_NoParts : PySem.W.keepIn K (.ref x_NoParts) = true)
    (hg_NoParts : PySem.W.findIn K (.ref x_NoParts) "__getattribute__" = some (some (.builtin "BaseException.__getattribute__")))
    (hk_NoParts : PySem.W.findIn K (.ref x_NoParts) "__getattr__" = some none)
    (hd_NoParts : PySem.W.hasDictIn K x_NoParts = true)
    (ha_NoParts : PySem.W.findIn K (.ref x_NoParts) "__class__" = some (some (.builtin "object.__class__")))
    (hm_NoParts : PySem.W.mroIn K x_NoParts (.type "object") = some true)
    (kv_NoParts : PySem.W.subIn K (.ref x_NoParts) (.type "ValueError") = some true)
    (up_NoParts : PySem.W.subIn K (.ref x_NoParts) (.ref x_PolyError) = some true)
    (sf_NoParts : PySem.W.subIn K (.ref x_NoParts) (.ref x_NoParts) = some true)
    (n0_NotWritten : PySem.W.nsIn K mainGlobals "NotWritten" = some (some (.ref x_NotWritten)))
    (b0_NotWritten : PySem.W.subIn K (.ref x_NotWritten) (.type "BaseException") = some true) (t0_NotWritten : PySem.W.typeIn K (.ref x_NotWritten) = some (.type "type"))
    (q0_NotWritten : PySem.W.excIn K x_NotWritten [.type "ValueError", .type "Exception", .type "BaseException", .type "object"] "ValueError.__new__" = true) (k0_NotWritten : PySem.W.keepIn K (.ref x_NotWritten) = true)
    (hg_NotWritten : PySem.W.findIn K (.ref x_NotWritten) "__getattribute__" = some (some (.builtin "BaseException.__getattribute__")))
    (hk_NotWritten : PySem.W.findIn K (.ref x_NotWritten) "__getattr__" = some none)
    (hd_NotWritten : PySem.W.hasDictIn K x_NotWritten = true)
    (ha_NotWritten : PySem.W.findIn K (.ref x_NotWritten) "__class__" = some (some (.builtin "object.__class__")))
    (hm_NotWritten : PySem.W.mroIn K x_NotWritten (.type "object") = some true)
    (kv_NotWritten : PySem.W.subIn K (.ref x_NotWritten) (.type "ValueError") = some true)
    (up_NotWritten : PySem.W.subIn K (.ref x_NotWritten) (.ref x_PolyError) = some true)
    (sf_NotWritten : PySem.W.subIn K (.ref x_NotWritten) (.ref x_NotWritten) = some true)
    (hn_ : PySem.W.specialIn K (.builtin "object.__class__") "__get__" = some (some (.builtin "getset_descriptor.__get__"))) (ht_ : PySem.W.takesIn K (.builtin "object.__class__") = some true)
    (d_NoNumber_NoPower : PySem.W.subIn K (.ref x_NoNumber) (.ref x_NoPower) = some false) (d_NoPower_NoNumber : PySem.W.subIn K (.ref x_NoPower) (.ref x_NoNumber) = some false)
    (d_NoNumber_ByNought : PySem.W.subIn K (.ref x_NoNumber) (.ref x_ByNought) = some false) (d_ByNought_NoNumber : PySem.W.subIn K (.ref x_ByNought) (.ref x_NoNumber) = some false)
    (d_NoNumber_NotWhole : PySem.W.subIn K (.ref x_NoNumber) (.ref x_NotWhole) = some false) (d_NotWhole_NoNumber : PySem.W.subIn K (.ref x_NotWhole) (.ref x_NoNumber) = some false)
    (d_NoNumber_NoMeet : PySem.W.subIn K (.ref x_NoNumber) (.ref x_NoMeet) = some false) (d_NoMeet_NoNumber : PySem.W.subIn K (.ref x_NoMeet) (.ref x_NoNumber) = some false)
    (d_NoNumber_NoParts : PySem.W.subIn K (.ref x_NoNumber) (.ref x_NoParts) = some false) (d_NoParts_NoNumber : PySem.W.subIn K (.ref x_NoParts) (.ref x_NoNumber) = some false)
    (d_NoNumber_NotWritten : PySem.W.subIn K (.ref x_NoNumber) (.ref x_NotWritten) = some false) (d_NotWritten_NoNumber : PySem.W.subIn K (.ref x_NotWritten) (.ref x_NoNumber) = some false)
    (d_NoPower_ByNought : PySem.W.subIn K (.ref x_NoPower) (.ref x_ByNought) = some false) (d_ByNought_NoPower : PySem.W.subIn K (.ref x_ByNought) (.ref x_NoPower) = some false)
    (d_NoPower_NotWhole : PySem.W.subIn K (.ref x_NoPower) (.ref x_NotWhole) = some false) (d_NotWhole_NoPower : PySem.W.subIn K (.ref x_NotWhole) (.ref x_NoPower) = some false)
    (d_NoPower_NoMeet : PySem.W.subIn K (.ref x_NoPower) (.ref x_NoMeet) = some false) (d_NoMeet_NoPower : PySem.W.subIn K (.ref x_NoMeet) (.ref x_NoPower) = some false)
    (d_NoPower_NoParts : PySem.W.subIn K (.ref x_NoPower) (.ref x_NoParts) = some false) (d_NoParts_NoPower : PySem.W.subIn K (.ref x_NoParts) (.ref x_NoPower) = some false)
    (d_NoPower_NotWritten : PySem.W.subIn K (.ref x_NoPower) (.ref x_NotWritten) = some false) (d_NotWritten_NoPower : PySem.W.subIn K (.ref x_NotWritten) (.ref x_NoPower) = some false)
    (d_ByNought_NotWhole : PySem.W.subIn K (.ref x_ByNought) (.ref x_NotWhole) = some false) (d_NotWhole_ByNought : PySem.W.subIn K (.ref x_NotWhole) (.ref x_ByNought) = some false)
    (d_ByNought_NoMeet : PySem.W.subIn K (.ref x_ByNought) (.ref x_NoMeet) = some false) (d_NoMeet_ByNought : PySem.W.subIn K (.ref x_NoMeet) (.ref x_ByNought) = some false)
    (d_ByNought_NoParts : PySem.W.subIn K (.ref x_ByNought) (.ref x_NoParts) = some false) (d_NoParts_ByNought : PySem.W.subIn K (.ref x_NoParts) (.ref x_ByNought) = some false)
    (d_ByNought_NotWritten : PySem.W.subIn K (.ref x_ByNought) (.ref x_NotWritten) = some false) (d_NotWritten_ByNought : PySem.W.subIn K (.ref x_NotWritten) (.ref x_ByNought) = some false)
    (d_NotWhole_NoMeet : PySem.W.subIn K (.ref x_NotWhole) (.ref x_NoMeet) = some false) (d_NoMeet_NotWhole : PySem.W.subIn K (.ref x_NoMeet) (.ref x_NotWhole) = some false)
    (d_NotWhole_NoParts : PySem.W.subIn K (.ref x_NotWhole) (.ref x_NoParts) = some false) (d_NoParts_NotWhole : PySem.W.subIn K (.ref x_NoParts) (.ref x_NotWhole) = some false)
    (d_NotWhole_NotWritten : PySem.W.subIn K (.ref x_NotWhole) (.ref x_NotWritten) = some false) (d_NotWritten_NotWhole : PySem.W.subIn K (.ref x_NotWritten) (.ref x_NotWhole) = some false)
    (d_NoMeet_NoParts : PySem.W.subIn K (.ref x_NoMeet) (.ref x_NoParts) = some false) (d_NoParts_NoMeet : PySem.W.subIn K (.ref x_NoParts) (.ref x_NoMeet) = some false)
    (d_NoMeet_NotWritten : PySem.W.subIn K (.ref x_NoMeet) (.ref x_NotWritten) = some false) (d_NotWritten_NoMeet : PySem.W.subIn K (.ref x_NotWritten) (.ref x_NoMeet) = some false)
    (d_NoParts_NotWritten : PySem.W.subIn K (.ref x_NoParts) (.ref x_NotWritten) = some false) (d_NotWritten_NoParts : PySem.W.subIn K (.ref x_NotWritten) (.ref x_NoParts) = some false)
    (z_GREATEST_POWER : PySem.W.nsIn K mainGlobals "GREATEST_POWER" = some (some (.int 99 tk_GREATEST_POWER)))
    (z_LONGEST_TAIL : PySem.W.nsIn K mainGlobals "LONGEST_TAIL" = some (some (.int 3 tk_LONGEST_TAIL)))
    (z_ValueError : PySem.W.nsIn K mainGlobals "ValueError" = some none)
    (z_abs : PySem.W.nsIn K mainGlobals "abs" = some none)
    (z_bool : PySem.W.nsIn K mainGlobals "bool" = some none)
    (z_enumerate : PySem.W.nsIn K mainGlobals "enumerate" = some none)
    (z_gcd : PySem.W.nsIn K mainGlobals "gcd" = some (some (.builtin "math.gcd")))
    (z_int : PySem.W.nsIn K mainGlobals "int" = some none)
    (z_isinstance : PySem.W.nsIn K mainGlobals "isinstance" = some none)
    (z_len : PySem.W.nsIn K mainGlobals "len" = some none)
    (z_list : PySem.W.nsIn K mainGlobals "list" = some none)
    (z_max : PySem.W.nsIn K mainGlobals "max" = some none)
    (z_range : PySem.W.nsIn K mainGlobals "range" = some none)
    (z_str : PySem.W.nsIn K mainGlobals "str" = some none)
    (z_zip : PySem.W.nsIn K mainGlobals "zip" = some none)
    (tree_ : l.prog.given.tree = none)
    : ∃ fd : FuncData, (∀ (s : Shared) (v : Value), BindsTo s fd ⟨[v], []⟩ [("_law_script", v)]) ∧ ∀ base : Heap, K.In base → base.Ns mainGlobals mg → base.NoSeer → FnOk l.prog w K mg base CX0 49 fa fd ["_law_script"] (sp_law K) := by
  have e := hfa.symm.trans (PySem.W.mg_of X G a_law)
  cases e
  have F_P_whole_number := fun_mk (st := s_P_whole_number) l_P_whole_number e_P_whole_number k_P_whole_number
  have b_P_whole_number := F_P_whole_number.binds (ps := ["figures"]) fun _ _ _ _ _ _ us hl => match us, hl with | [_], _ => rfl
  have F_P_size_of := fun_mk (st := s_P_size_of) l_P_size_of e_P_size_of k_P_size_of
  have b_P_size_of := F_P_size_of.binds (ps := ["figures"]) fun _ _ _ _ _ _ us hl => match us, hl with | [_], _ => rfl
  have F_P_power_of := fun_mk (st := s_P_power_of) l_P_power_of e_P_power_of k_P_power_of
  have b_P_power_of := F_P_power_of.binds (ps := ["tail"]) fun _ _ _ _ _ _ us hl => match us, hl with | [_], _ => rfl
  have F_P_size_and_power := fun_mk (st := s_P_size_and_power) l_P_size_and_power e_P_size_and_power k_P_size_and_power
  have b_P_size_and_power := F_P_size_and_power.binds (ps := ["term"]) fun _ _ _ _ _ _ us hl => match us, hl with | [_], _ => rfl
  have F_P_signs_and_terms := fun_mk (st := s_P_signs_and_terms) l_P_signs_and_terms e_P_signs_and_terms k_P_signs_and_terms
  have b_P_signs_and_terms := F_P_signs_and_terms.binds (ps := ["line"]) fun _ _ _ _ _ _ us hl => match us, hl with | [_], _ => rfl
  have F_P_read := fun_mk (st := s_P_read) l_P_read e_P_read k_P_read
  have b_P_read := F_P_read.binds (ps := ["line"]) fun _ _ _ _ _ _ us hl => match us, hl with | [_], _ => rfl
  have F_P_is_whole := fun_mk (st := s_P_is_whole) l_P_is_whole e_P_is_whole k_P_is_whole
  have b_P_is_whole := F_P_is_whole.binds (ps := ["thing"]) fun _ _ _ _ _ _ us hl => match us, hl with | [_], _ => rfl
  have F_P_without_end_noughts := fun_mk (st := s_P_without_end_noughts) l_P_without_end_noughts e_P_without_end_noughts k_P_without_end_noughts
  have b_P_without_end_noughts := F_P_without_end_noughts.binds (ps := ["numbers"]) fun _ _ _ _ _ _ us hl => match us, hl with | [_], _ => rfl
  have F_P_made := fun_mk (st := s_P_made) l_P_made e_P_made k_P_made
  have b_P_made := F_P_made.binds (ps := ["numbers"]) fun _ _ _ _ _ _ us hl => match us, hl with | [_], _ => rfl
  have F_P_number_at := fun_mk (st := s_P_number_at) l_P_number_at e_P_number_at k_P_number_at
  have b_P_number_at := F_P_number_at.binds (ps := ["row", "power"]) fun _ _ _ _ _ _ us hl => match us, hl with | [_, _], _ => rfl
  have F_P_plus := fun_mk (st := s_P_plus) l_P_plus e_P_plus k_P_plus
  have b_P_plus := F_P_plus.binds (ps := ["ones", "others"]) fun _ _ _ _ _ _ us hl => match us, hl with | [_, _], _ => rfl
  have F_P_minus := fun_mk (st := s_P_minus) l_P_minus e_P_minus k_P_minus
  have b_P_minus := F_P_minus.binds (ps := ["ones", "others"]) fun _ _ _ _ _ _ us hl => match us, hl with | [_, _], _ => rfl
  have F_P_times := fun_mk (st := s_P_times) l_P_times e_P_times k_P_times
  have b_P_times := F_P_times.binds (ps := ["ones", "others"]) fun _ _ _ _ _ _ us hl => match us, hl with | [_, _], _ => rfl
  have F_P_scaled := fun_mk (st := s_P_scaled) l_P_scaled e_P_scaled k_P_scaled
  have b_P_scaled := F_P_scaled.binds (ps := ["row", "many"]) fun _ _ _ _ _ _ us hl => match us, hl with | [_, _], _ => rfl
  have F_P_raised := fun_mk (st := s_P_raised) l_P_raised e_P_raised k_P_raised
  have b_P_raised := F_P_raised.binds (ps := ["row", "many"]) fun _ _ _ _ _ _ us hl => match us, hl with | [_, _], _ => rfl
  have F_P_slope := fun_mk (st := s_P_slope) l_P_slope e_P_slope k_P_slope
  have b_P_slope := F_P_slope.binds (ps := ["row"]) fun _ _ _ _ _ _ us hl => match us, hl with | [_], _ => rfl
  have F_P_divided := fun_mk (st := s_P_divided) l_P_divided e_P_divided k_P_divided
  have b_P_divided := F_P_divided.binds (ps := ["row", "by"]) fun _ _ _ _ _ _ us hl => match us, hl with | [_, _], _ => rfl
  have F_P_quotient := fun_mk (st := s_P_quotient) l_P_quotient e_P_quotient k_P_quotient
  have b_P_quotient := F_P_quotient.binds (ps := ["row", "by"]) fun _ _ _ _ _ _ us hl => match us, hl with | [_, _], _ => rfl
  have F_P_content := fun_mk (st := s_P_content) l_P_content e_P_content k_P_content
  have b_P_content := F_P_content.binds (ps := ["row"]) fun _ _ _ _ _ _ us hl => match us, hl with | [_], _ => rfl
  have F_P_signed_content := fun_mk (st := s_P_signed_content) l_P_signed_content e_P_signed_content k_P_signed_content
  have b_P_signed_content := F_P_signed_content.binds (ps := ["row"]) fun _ _ _ _ _ _ us hl => match us, hl with | [_], _ => rfl
  have F_P_lessened := fun_mk (st := s_P_lessened) l_P_lessened e_P_lessened k_P_lessened
  have b_P_lessened := F_P_lessened.binds (ps := ["row", "by"]) fun _ _ _ _ _ _ us hl => match us, hl with | [_, _], _ => rfl
  have F_P_simple := fun_mk (st := s_P_simple) l_P_simple e_P_simple k_P_simple
  have b_P_simple := F_P_simple.binds (ps := ["row"]) fun _ _ _ _ _ _ us hl => match us, hl with | [_], _ => rfl
  have F_P_least_step := fun_mk (st := s_P_least_step) l_P_least_step e_P_least_step k_P_least_step
  have b_P_least_step := F_P_least_step.binds (ps := ["row", "left", "right", "many"]) fun _ _ _ _ _ _ us hl => match us, hl with | [_, _, _, _], _ => rfl
  have F_P_next_step := fun_mk (st := s_P_next_step) l_P_next_step e_P_next_step k_P_next_step
  have b_P_next_step := F_P_next_step.binds (ps := ["last", "now"]) fun _ _ _ _ _ _ us hl => match us, hl with | [_, _], _ => rfl
  have F_P_meet := fun_mk (st := s_P_meet) l_P_meet e_P_meet k_P_meet
  have b_P_meet := F_P_meet.binds (ps := ["ones", "others"]) fun _ _ _ _ _ _ us hl => match us, hl with | [_, _], _ => rfl
  have F_P_parts := fun_mk (st := s_P_parts) l_P_parts e_P_parts k_P_parts
  have b_P_parts := F_P_parts.binds (ps := ["row"]) fun _ _ _ _ _ _ us hl => match us, hl with | [_], _ => rfl
  have F_L_whole := fun_mk (st := s_L_whole) l_L_whole e_L_whole k_L_whole
  have b_L_whole := F_L_whole.binds (ps := ["_law_found"]) fun _ _ _ _ _ _ us hl => match us, hl with | [_], _ => rfl
  have F_L_cell_at := fun_mk (st := s_L_cell_at) l_L_cell_at e_L_cell_at k_L_cell_at
  have b_L_cell_at := F_L_cell_at.binds (ps := ["_law_script", "_law_k"]) fun _ _ _ _ _ _ us hl => match us, hl with | [_, _], _ => rfl
  have F_L_trim := fun_mk (st := s_L_trim) l_L_trim e_L_trim k_L_trim
  have b_L_trim := F_L_trim.binds (ps := ["_law_row"]) fun _ _ _ _ _ _ us hl => match us, hl with | [_], _ => rfl
  have F_L_same := fun_mk (st := s_L_same) l_L_same e_L_same k_L_same
  have b_L_same := F_L_same.binds (ps := ["_law_found", "_law_due_here"]) fun _ _ _ _ _ _ us hl => match us, hl with | [_, _], _ => rfl
  have F_L_number := fun_mk (st := s_L_number) l_L_number e_L_number k_L_number
  have b_L_number := F_L_number.binds (ps := ["_law_cell"]) fun _ _ _ _ _ _ us hl => match us, hl with | [_], _ => rfl
  have F_L_drawn := fun_mk (st := s_L_drawn) l_L_drawn e_L_drawn k_L_drawn
  have b_L_drawn := F_L_drawn.binds (ps := ["_law_script", "_law_place", "_law_size", "_law_many"]) fun _ _ _ _ _ _ us hl => match us, hl with | [_, _, _, _], _ => rfl
  have F_L_written := fun_mk (st := s_L_written) l_L_written e_L_written k_L_written
  have b_L_written := F_L_written.binds (ps := ["_law_row"]) fun _ _ _ _ _ _ us hl => match us, hl with | [_], _ => rfl
  have F_L_figures := fun_mk (st := s_L_figures) l_L_figures e_L_figures k_L_figures
  have b_L_figures := F_L_figures.binds (ps := ["_law_word", "_law_most"]) fun _ _ _ _ _ _ us hl => match us, hl with | [_, _], _ => rfl
  have F_L_term := fun_mk (st := s_L_term) l_L_term e_L_term k_L_term
  have b_L_term := F_L_term.binds (ps := ["_law_word"]) fun _ _ _ _ _ _ us hl => match us, hl with | [_], _ => rfl
  have F_L_due := fun_mk (st := s_L_due) l_L_due e_L_due k_L_due
  have b_L_due := F_L_due.binds (ps := ["_law_line"]) fun _ _ _ _ _ _ us hl => match us, hl with | [_], _ => rfl
  have F_L_odd := fun_mk (st := s_L_odd) l_L_odd e_L_odd k_L_odd
  have b_L_odd := F_L_odd.binds (ps := ["_law_cell"]) fun _ _ _ _ _ _ us hl => match us, hl with | [_], _ => rfl
  have F_L_sign := fun_mk (st := s_L_sign) l_L_sign e_L_sign k_L_sign
  have b_L_sign := F_L_sign.binds (ps := ["_law_cell"]) fun _ _ _ _ _ _ us hl => match us, hl with | [_], _ => rfl
  have F_L_turned := fun_mk (st := s_L_turned) l_L_turned e_L_turned k_L_turned
  have b_L_turned := F_L_turned.binds (ps := ["_law_line", "_law_cell", "_law_spot"]) fun _ _ _ _ _ _ us hl => match us, hl with | [_, _, _], _ => rfl
  have F_L_refuse := fun_mk (st := s_L_refuse) l_L_refuse e_L_refuse k_L_refuse
  have b_L_refuse := F_L_refuse.binds (ps := ["_law_which"]) fun _ _ _ _ _ _ us hl => match us, hl with | [_], _ => rfl
  have F_L_first := fun_mk (st := s_L_first) l_L_first e_L_first k_L_first
  have b_L_first := F_L_first.binds (ps := ["_law_which"]) fun _ _ _ _ _ _ us hl => match us, hl with | [_], _ => rfl
  have F_L_last := fun_mk (st := s_L_last) l_L_last e_L_last k_L_last
  have b_L_last := F_L_last.binds (ps := ["_law_which"]) fun _ _ _ _ _ _ us hl => match us, hl with | [_], _ => rfl
  have F_L_refused := fun_mk (st := s_L_refused) l_L_refused e_L_refused k_L_refused
  have b_L_refused := F_L_refused.binds (ps := ["_law_line"]) fun _ _ _ _ _ _ us hl => match us, hl with | [_], _ => rfl
  have F_law := fun_mk (st := s_law) l_law e_law k_law
  refine ⟨PySem.W.fnOf "law" "law" (defArgs s_law) (defBody s_law) (defScope s_law) .none kV_law dc_law pm_law an_law cd_law ct_law, fun s v => .of_eq rfl, fun base _ _ seer_ => ?_⟩
  have sr : Sr l.prog base := ⟨seer_, tree_⟩
  have m_GREATEST_POWER : ∃ t, mg "GREATEST_POWER" = some (.int 99 t) := ⟨_, PySem.W.mg_of X G z_GREATEST_POWER⟩
  have m_LONGEST_TAIL : ∃ t, mg "LONGEST_TAIL" = some (.int 3 t) := ⟨_, PySem.W.mg_of X G z_LONGEST_TAIL⟩
  have m_ValueError := PySem.W.mg_none_of X G z_ValueError
  have m_abs := PySem.W.mg_none_of X G z_abs
  have m_bool := PySem.W.mg_none_of X G z_bool
  have m_enumerate := PySem.W.mg_none_of X G z_enumerate
  have g_gcd := PySem.W.mg_of X G z_gcd
  have m_int := PySem.W.mg_none_of X G z_int
  have m_isinstance := PySem.W.mg_none_of X G z_isinstance
  have m_len := PySem.W.mg_none_of X G z_len
  have m_list := PySem.W.mg_none_of X G z_list
  have m_max := PySem.W.mg_none_of X G z_max
  have m_range := PySem.W.mg_none_of X G z_range
  have m_str := PySem.W.mg_none_of X G z_str
  have m_zip := PySem.W.mg_none_of X G z_zip
  let cs : Cs := ⟨x_PolyError, x_NoNumber, x_NoPower, x_ByNought, x_NotWhole, x_NoMeet, x_NoParts, x_NotWritten, 0⟩
  have n_PolyError : mg "PolyError" = some (.ref cs.PolyError) := PySem.W.mg_of X G n0_PolyError
  have y_PolyError : ExK K cs.PolyError := ⟨b0_PolyError, t0_PolyError, ⟨hg_PolyError, hk_PolyError, b0_PolyError, hd_PolyError, ha_PolyError, hn_, ht_, hm_PolyError⟩, kit_sub kv_PolyError⟩
  have n_NoNumber : mg "NoNumber" = some (.ref cs.NoNumber) := PySem.W.mg_of X G n0_NoNumber
  have r_NoNumber : RsX K mg "NoNumber" cs.NoNumber := ⟨n_NoNumber, q0_NoNumber, k0_NoNumber, b0_NoNumber, t0_NoNumber⟩
  have y_NoNumber : ExK K cs.NoNumber := ⟨b0_NoNumber, t0_NoNumber, ⟨hg_NoNumber, hk_NoNumber, b0_NoNumber, hd_NoNumber, ha_NoNumber, hn_, ht_, hm_NoNumber⟩, kit_sub kv_NoNumber⟩
  have n_NoPower : mg "NoPower" = some (.ref cs.NoPower) := PySem.W.mg_of X G n0_NoPower
  have r_NoPower : RsX K mg "NoPower" cs.NoPower := ⟨n_NoPower, q0_NoPower, k0_NoPower, b0_NoPower, t0_NoPower⟩
  have y_NoPower : ExK K cs.NoPower := ⟨b0_NoPower, t0_NoPower, ⟨hg_NoPower, hk_NoPower, b0_NoPower, hd_NoPower, ha_NoPower, hn_, ht_, hm_NoPower⟩, kit_sub kv_NoPower⟩
  have n_ByNought : mg "ByNought" = some (.ref cs.ByNought) := PySem.W.mg_of X G n0_ByNought
  have r_ByNought : RsX K mg "ByNought" cs.ByNought := ⟨n_ByNought, q0_ByNought, k0_ByNought, b0_ByNought, t0_ByNought⟩
  have y_ByNought : ExK K cs.ByNought := ⟨b0_ByNought, t0_ByNought, ⟨hg_ByNought, hk_ByNought, b0_ByNought, hd_ByNought, ha_ByNought, hn_, ht_, hm_ByNought⟩, kit_sub kv_ByNought⟩
  have n_NotWhole : mg "NotWhole" = some (.ref cs.NotWhole) := PySem.W.mg_of X G n0_NotWhole
  have r_NotWhole : RsX K mg "NotWhole" cs.NotWhole := ⟨n_NotWhole, q0_NotWhole, k0_NotWhole, b0_NotWhole, t0_NotWhole⟩
  have y_NotWhole : ExK K cs.NotWhole := ⟨b0_NotWhole, t0_NotWhole, ⟨hg_NotWhole, hk_NotWhole, b0_NotWhole, hd_NotWhole, ha_NotWhole, hn_, ht_, hm_NotWhole⟩, kit_sub kv_NotWhole⟩
  have n_NoMeet : mg "NoMeet" = some (.ref cs.NoMeet) := PySem.W.mg_of X G n0_NoMeet
  have r_NoMeet : RsX K mg "NoMeet" cs.NoMeet := ⟨n_NoMeet, q0_NoMeet, k0_NoMeet, b0_NoMeet, t0_NoMeet⟩
  have y_NoMeet : ExK K cs.NoMeet := ⟨b0_NoMeet, t0_NoMeet, ⟨hg_NoMeet, hk_NoMeet, b0_NoMeet, hd_NoMeet, ha_NoMeet, hn_, ht_, hm_NoMeet⟩, kit_sub kv_NoMeet⟩
  have n_NoParts : mg "NoParts" = some (.ref cs.NoParts) := PySem.W.mg_of X G n0_NoParts
  have r_NoParts : RsX K mg "NoParts" cs.NoParts := ⟨n_NoParts, q0_NoParts, k0_NoParts, b0_NoParts, t0_NoParts⟩
  have y_NoParts : ExK K cs.NoParts := ⟨b0_NoParts, t0_NoParts, ⟨hg_NoParts, hk_NoParts, b0_NoParts, hd_NoParts, ha_NoParts, hn_, ht_, hm_NoParts⟩, kit_sub kv_NoParts⟩
  have n_NotWritten : mg "NotWritten" = some (.ref cs.NotWritten) := PySem.W.mg_of X G n0_NotWritten
  have r_NotWritten : RsX K mg "NotWritten" cs.NotWritten := ⟨n_NotWritten, q0_NotWritten, k0_NotWritten, b0_NotWritten, t0_NotWritten⟩
  have y_NotWritten : ExK K cs.NotWritten := ⟨b0_NotWritten, t0_NotWritten, ⟨hg_NotWritten, hk_NotWritten, b0_NotWritten, hd_NotWritten, ha_NotWritten, hn_, ht_, hm_NotWritten⟩, kit_sub kv_NotWritten⟩
  have T : Tx K cs.PolyError [cs.NoNumber, cs.NoPower, cs.ByNought, cs.NotWhole, cs.NoMeet, cs.NoParts, cs.NotWritten] := ⟨y_PolyError, List.forall_mem_cons.mpr ⟨⟨y_NoNumber, up_NoNumber, sf_NoNumber⟩, List.forall_mem_cons.mpr ⟨⟨y_NoPower, up_NoPower, sf_NoPower⟩, List.forall_mem_cons.mpr ⟨⟨y_ByNought, up_ByNought, sf_ByNought⟩, List.forall_mem_cons.mpr ⟨⟨y_NotWhole, up_NotWhole, sf_NotWhole⟩, List.forall_mem_cons.mpr ⟨⟨y_NoMeet, up_NoMeet, sf_NoMeet⟩, List.forall_mem_cons.mpr ⟨⟨y_NoParts, up_NoParts, sf_NoParts⟩, List.forall_mem_cons.mpr ⟨⟨y_NotWritten, up_NotWritten, sf_NotWritten⟩, List.forall_mem_nil _⟩⟩⟩⟩⟩⟩⟩, List.Pairwise.cons (List.forall_mem_cons.mpr ⟨⟨d_NoNumber_NoPower, d_NoPower_NoNumber⟩, List.forall_mem_cons.mpr ⟨⟨d_NoNumber_ByNought, d_ByNought_NoNumber⟩, List.forall_mem_cons.mpr ⟨⟨d_NoNumber_NotWhole, d_NotWhole_NoNumber⟩, List.forall_mem_cons.mpr ⟨⟨d_NoNumber_NoMeet, d_NoMeet_NoNumber⟩, List.forall_mem_cons.mpr ⟨⟨d_NoNumber_NoParts, d_NoParts_NoNumber⟩, List.forall_mem_cons.mpr ⟨⟨d_NoNumber_NotWritten, d_NotWritten_NoNumber⟩, List.forall_mem_nil _⟩⟩⟩⟩⟩⟩) (List.Pairwise.cons (List.forall_mem_cons.mpr ⟨⟨d_NoPower_ByNought, d_ByNought_NoPower⟩, List.forall_mem_cons.mpr ⟨⟨d_NoPower_NotWhole, d_NotWhole_NoPower⟩, List.forall_mem_cons.mpr ⟨⟨d_NoPower_NoMeet, d_NoMeet_NoPower⟩, List.forall_mem_cons.mpr ⟨⟨d_NoPower_NoParts, d_NoParts_NoPower⟩, List.forall_mem_cons.mpr ⟨⟨d_NoPower_NotWritten, d_NotWritten_NoPower⟩, List.forall_mem_nil _⟩⟩⟩⟩⟩) (List.Pairwise.cons (List.forall_mem_cons.mpr ⟨⟨d_ByNought_NotWhole, d_NotWhole_ByNought⟩, List.forall_mem_cons.mpr ⟨⟨d_ByNought_NoMeet, d_NoMeet_ByNought⟩, List.forall_mem_cons.mpr ⟨⟨d_ByNought_NoParts, d_NoParts_ByNought⟩, List.forall_mem_cons.mpr ⟨⟨d_ByNought_NotWritten, d_NotWritten_ByNought⟩, List.forall_mem_nil _⟩⟩⟩⟩) (List.Pairwise.cons (List.forall_mem_cons.mpr ⟨⟨d_NotWhole_NoMeet, d_NoMeet_NotWhole⟩, List.forall_mem_cons.mpr ⟨⟨d_NotWhole_NoParts, d_NoParts_NotWhole⟩, List.forall_mem_cons.mpr ⟨⟨d_NotWhole_NotWritten, d_NotWritten_NotWhole⟩, List.forall_mem_nil _⟩⟩⟩) (List.Pairwise.cons (List.forall_mem_cons.mpr ⟨⟨d_NoMeet_NoParts, d_NoParts_NoMeet⟩, List.forall_mem_cons.mpr ⟨⟨d_NoMeet_NotWritten, d_NotWritten_NoMeet⟩, List.forall_mem_nil _⟩⟩) (List.Pairwise.cons (List.forall_mem_cons.mpr ⟨⟨d_NoParts_NotWritten, d_NotWritten_NoParts⟩, List.forall_mem_nil _⟩) (List.Pairwise.cons (List.forall_mem_nil _) (List.Pairwise.nil)))))))⟩
  have c_P_whole_number : ClX l.prog w K mg base 1 "_whole_number" (sp_P_whole_number K cs) := ⟨f_P_whole_number, _, _, ok_P_whole_number F_P_whole_number T r_NotWritten m_int, PySem.W.mg_of X G a_P_whole_number, k_P_whole_number, b_P_whole_number⟩
  have c_P_size_of : ClX l.prog w K mg base 2 "_size_of" (sp_P_size_of K cs) := ⟨f_P_size_of, _, _, ok_P_size_of F_P_size_of T r_NotWritten c_P_whole_number, PySem.W.mg_of X G a_P_size_of, k_P_size_of, b_P_size_of⟩
  have c_P_power_of : ClX l.prog w K mg base 2 "_power_of" (sp_P_power_of K cs) := ⟨f_P_power_of, _, _, ok_P_power_of F_P_power_of T r_NotWritten c_P_whole_number m_LONGEST_TAIL m_len, PySem.W.mg_of X G a_P_power_of, k_P_power_of, b_P_power_of⟩
  have c_P_size_and_power : ClX l.prog w K mg base 3 "_size_and_power" (sp_P_size_and_power K cs) := ⟨f_P_size_and_power, _, _, ok_P_size_and_power F_P_size_and_power T c_P_whole_number c_P_power_of c_P_size_of, PySem.W.mg_of X G a_P_size_and_power, k_P_size_and_power, b_P_size_and_power⟩
  have c_P_signs_and_terms : Cl l.prog w K mg base 1 "_signs_and_terms" (sp_P_signs_and_terms K) := ⟨f_P_signs_and_terms, _, _, ok_P_signs_and_terms F_P_signs_and_terms, PySem.W.mg_of X G a_P_signs_and_terms, k_P_signs_and_terms, b_P_signs_and_terms⟩
  have c_P_read : ClX l.prog w K mg base 4 "read" (sp_P_read K cs) := ⟨f_P_read, _, _, ok_P_read F_P_read T r_NotWritten c_P_signs_and_terms c_P_size_and_power m_GREATEST_POWER m_len m_zip, PySem.W.mg_of X G a_P_read, k_P_read, b_P_read⟩
  have c_P_is_whole : Cl l.prog w K mg base 1 "_is_whole" (sp_P_is_whole K) := ⟨f_P_is_whole, _, _, ok_P_is_whole F_P_is_whole m_bool m_int m_isinstance, PySem.W.mg_of X G a_P_is_whole, k_P_is_whole, b_P_is_whole⟩
  have c_P_without_end_noughts : Cl l.prog w K mg base 1 "_without_end_noughts" (sp_P_without_end_noughts K) := ⟨f_P_without_end_noughts, _, _, ok_P_without_end_noughts F_P_without_end_noughts m_len m_list, PySem.W.mg_of X G a_P_without_end_noughts, k_P_without_end_noughts, b_P_without_end_noughts⟩
  have c_P_made : ClX l.prog w K mg base 2 "made" (sp_P_made K cs) := ⟨f_P_made, _, _, ok_P_made F_P_made r_NoNumber c_P_is_whole c_P_without_end_noughts m_enumerate, PySem.W.mg_of X G a_P_made, k_P_made, b_P_made⟩
  have c_P_number_at : Cl l.prog w K mg base 1 "_number_at" (sp_P_number_at K) := ⟨f_P_number_at, _, _, ok_P_number_at F_P_number_at m_len, PySem.W.mg_of X G a_P_number_at, k_P_number_at, b_P_number_at⟩
  have c_P_plus : Cl l.prog w K mg base 2 "plus" (sp_P_plus K) := ⟨f_P_plus, _, _, ok_P_plus F_P_plus c_P_number_at c_P_without_end_noughts m_len m_max m_range, PySem.W.mg_of X G a_P_plus, k_P_plus, b_P_plus⟩
  have c_P_minus : Cl l.prog w K mg base 2 "minus" (sp_P_minus K) := ⟨f_P_minus, _, _, ok_P_minus F_P_minus c_P_number_at c_P_without_end_noughts m_len m_max m_range, PySem.W.mg_of X G a_P_minus, k_P_minus, b_P_minus⟩
  have c_P_times : Cl l.prog w K mg base 1 "times" (sp_P_times K) := ⟨f_P_times, _, _, ok_P_times F_P_times m_enumerate m_len, PySem.W.mg_of X G a_P_times, k_P_times, b_P_times⟩
  have c_P_scaled : Cl l.prog w K mg base 2 "scaled" (sp_P_scaled K) := ⟨f_P_scaled, _, _, ok_P_scaled F_P_scaled c_P_without_end_noughts, PySem.W.mg_of X G a_P_scaled, k_P_scaled, b_P_scaled⟩
  have c_P_raised : ClX l.prog w K mg base 2 "raised" (sp_P_raised K cs) := ⟨f_P_raised, _, _, ok_P_raised F_P_raised r_NoPower c_P_times, PySem.W.mg_of X G a_P_raised, k_P_raised, b_P_raised⟩
  have c_P_slope : Cl l.prog w K mg base 1 "slope" (sp_P_slope K) := ⟨f_P_slope, _, _, ok_P_slope F_P_slope m_enumerate, PySem.W.mg_of X G a_P_slope, k_P_slope, b_P_slope⟩
  have c_P_divided : ClX l.prog w K mg base 41 "divided" (sp_P_divided K cs) := ⟨f_P_divided, _, _, ok_P_divided F_P_divided T sr r_ByNought c_P_scaled c_P_plus c_P_minus m_abs g_gcd m_len m_list, PySem.W.mg_of X G a_P_divided, k_P_divided, b_P_divided⟩
  have c_P_quotient : ClX l.prog w K mg base 42 "quotient" (sp_P_quotient K cs) := ⟨f_P_quotient, _, _, ok_P_quotient F_P_quotient T r_NotWhole c_P_divided, PySem.W.mg_of X G a_P_quotient, k_P_quotient, b_P_quotient⟩
  have c_P_content : Cl l.prog w K mg base 1 "content" (sp_P_content K) := ⟨f_P_content, _, _, ok_P_content F_P_content g_gcd, PySem.W.mg_of X G a_P_content, k_P_content, b_P_content⟩
  have c_P_signed_content : Cl l.prog w K mg base 2 "signed_content" (sp_P_signed_content K) := ⟨f_P_signed_content, _, _, ok_P_signed_content F_P_signed_content c_P_content, PySem.W.mg_of X G a_P_signed_content, k_P_signed_content, b_P_signed_content⟩
  have c_P_lessened : Cl l.prog w K mg base 41 "lessened" (sp_P_lessened K) := ⟨f_P_lessened, _, _, ok_P_lessened F_P_lessened sr, PySem.W.mg_of X G a_P_lessened, k_P_lessened, b_P_lessened⟩
  have c_P_simple : Cl l.prog w K mg base 42 "simple" (sp_P_simple K) := ⟨f_P_simple, _, _, ok_P_simple F_P_simple c_P_signed_content c_P_lessened, PySem.W.mg_of X G a_P_simple, k_P_simple, b_P_simple⟩
  have c_P_least_step : Cl l.prog w K mg base 43 "_least_step" (sp_P_least_step K) := ⟨f_P_least_step, _, _, ok_P_least_step F_P_least_step sr c_P_signed_content c_P_content c_P_lessened c_P_simple g_gcd, PySem.W.mg_of X G a_P_least_step, k_P_least_step, b_P_least_step⟩
  have c_P_next_step : Cl l.prog w K mg base 44 "_next_step" (sp_P_next_step K cs) := ⟨f_P_next_step, _, _, ok_P_next_step F_P_next_step T c_P_divided c_P_scaled c_P_times c_P_minus c_P_least_step, PySem.W.mg_of X G a_P_next_step, k_P_next_step, b_P_next_step⟩
  have c_P_meet : ClX l.prog w K mg base 45 "meet" (sp_P_meet K cs) := ⟨f_P_meet, _, _, ok_P_meet F_P_meet T r_NoMeet c_P_least_step c_P_next_step c_P_quotient, PySem.W.mg_of X G a_P_meet, k_P_meet, b_P_meet⟩
  have c_P_parts : ClX l.prog w K mg base 46 "parts" (sp_P_parts K cs) := ⟨f_P_parts, _, _, ok_P_parts F_P_parts T r_NoParts c_P_slope c_P_meet c_P_minus c_P_signed_content m_len, PySem.W.mg_of X G a_P_parts, k_P_parts, b_P_parts⟩
  have c_L_whole : Cl l.prog w K mg base 1 "_law_whole" (sp_L_whole K) := ⟨f_L_whole, _, _, ok_L_whole F_L_whole m_bool m_int m_isinstance, PySem.W.mg_of X G a_L_whole, k_L_whole, b_L_whole⟩
  have c_L_cell_at : Cl l.prog w K mg base 1 "_law_cell_at" (sp_L_cell_at K) := ⟨f_L_cell_at, _, _, ok_L_cell_at F_L_cell_at m_len, PySem.W.mg_of X G a_L_cell_at, k_L_cell_at, b_L_cell_at⟩
  have c_L_trim : Cl l.prog w K mg base 1 "_law_trim" (sp_L_trim K) := ⟨f_L_trim, _, _, ok_L_trim F_L_trim m_len, PySem.W.mg_of X G a_L_trim, k_L_trim, b_L_trim⟩
  have c_L_same : Cl l.prog w K mg base 2 "_law_same" (sp_L_same K) := ⟨f_L_same, _, _, ok_L_same F_L_same c_L_whole m_isinstance m_len m_list m_range, PySem.W.mg_of X G a_L_same, k_L_same, b_L_same⟩
  have c_L_number : Cl l.prog w K mg base 1 "_law_number" (sp_L_number K) := ⟨f_L_number, _, _, ok_L_number F_L_number, PySem.W.mg_of X G a_L_number, k_L_number, b_L_number⟩
  have c_L_drawn : Cl l.prog w K mg base 2 "_law_drawn" (sp_L_drawn K) := ⟨f_L_drawn, _, _, ok_L_drawn F_L_drawn c_L_cell_at c_L_number c_L_trim m_range, PySem.W.mg_of X G a_L_drawn, k_L_drawn, b_L_drawn⟩
  have c_L_written : Cl l.prog w K mg base 1 "_law_written" (sp_L_written K) := ⟨f_L_written, _, _, ok_L_written F_L_written m_abs m_len m_range m_str, PySem.W.mg_of X G a_L_written, k_L_written, b_L_written⟩
  have c_L_figures : Cl l.prog w K mg base 1 "_law_figures" (sp_L_figures K) := ⟨f_L_figures, _, _, ok_L_figures F_L_figures m_int m_len, PySem.W.mg_of X G a_L_figures, k_L_figures, b_L_figures⟩
  have c_L_term : Cl l.prog w K mg base 2 "_law_term" (sp_L_term K) := ⟨f_L_term, _, _, ok_L_term F_L_term c_L_figures m_len, PySem.W.mg_of X G a_L_term, k_L_term, b_L_term⟩
  have c_L_due : Cl l.prog w K mg base 3 "_law_due" (sp_L_due K) := ⟨f_L_due, _, _, ok_L_due F_L_due c_L_term c_L_trim c_L_written m_len m_range, PySem.W.mg_of X G a_L_due, k_L_due, b_L_due⟩
  have c_L_odd : Cl l.prog w K mg base 1 "_law_odd" (sp_L_odd K) := ⟨f_L_odd, _, _, ok_L_odd F_L_odd, PySem.W.mg_of X G a_L_odd, k_L_odd, b_L_odd⟩
  have c_L_sign : Cl l.prog w K mg base 1 "_law_sign" (sp_L_sign K) := ⟨f_L_sign, _, _, ok_L_sign F_L_sign m_len, PySem.W.mg_of X G a_L_sign, k_L_sign, b_L_sign⟩
  have cn_L_sign : ClN l.prog w K mg base 1 "_law_sign" (sp_L_sign K) := ⟨f_L_sign, _, _, okN_L_sign F_L_sign m_len, PySem.W.mg_of X G a_L_sign, k_L_sign, b_L_sign⟩
  have c_L_turned : Cl l.prog w K mg base 2 "_law_turned" (sp_L_turned K) := ⟨f_L_turned, _, _, ok_L_turned F_L_turned c_L_sign m_len, PySem.W.mg_of X G a_L_turned, k_L_turned, b_L_turned⟩
  have c_L_refuse : ClX l.prog w K mg base 47 "_law_refuse" (sp_L_refuse K cs) := ⟨f_L_refuse, _, _, ok_L_refuse F_L_refuse T c_P_made c_P_raised c_P_quotient c_P_meet c_P_parts c_P_read, PySem.W.mg_of X G a_L_refuse, k_L_refuse, b_L_refuse⟩
  have c_L_first : Cl l.prog w K mg base 48 "_law_first" (sp_L_first K cs) := ⟨f_L_first, _, _, ok_L_first F_L_first T n_NoNumber n_NoPower n_ByNought n_NotWhole n_NoMeet n_NoParts n_NotWritten c_L_refuse, PySem.W.mg_of X G a_L_first, k_L_first, b_L_first⟩
  have c_L_last : Cl l.prog w K mg base 48 "_law_last" (sp_L_last K cs) := ⟨f_L_last, _, _, ok_L_last F_L_last T n_NotWritten n_NoParts n_NoMeet n_NotWhole n_ByNought n_NoPower n_NoNumber c_L_refuse, PySem.W.mg_of X G a_L_last, k_L_last, b_L_last⟩
  have c_L_refused : Cl l.prog w K mg base 5 "_law_refused" (sp_L_refused K cs) := ⟨f_L_refused, _, _, ok_L_refused F_L_refused T n_PolyError c_P_read m_ValueError m_isinstance, PySem.W.mg_of X G a_L_refused, k_L_refused, b_L_refused⟩
  exact ok_law (P := l.prog) (w := w) (base := base) F_law T nb_ cn_L_sign n_NotWritten c_L_cell_at c_L_first c_L_last c_L_drawn c_L_written c_L_turned c_L_sign c_L_odd c_L_due c_P_read c_L_refused c_L_same
end PP
open PySem PySem.W PyProof.Rows
set_option maxHeartbeats 0 in
theorem PySem.Challenge.cw_polyarith_k11_read_holds : PySem.Challenge.rw_polyarith_k11_read.Holds := by
  w_on; o_law; k_head; (case hw => w_witness2)
  k_fill
  refine PP.walk_big (by decide +kernel) (l := PySem.Challenge.rw_polyarith_k11_read) (n := 63) (k := 49) (x := "_law_script") (CX := fun _ => L2.CX0) (sp := fun w => PP.sp_law _) rfl (by decide) rfl ⟨rfl, by decide, by decide⟩ (fun w h Y => PySem.W.kIn_of Y) ?F (fun _ _ a ns hl _ hS => ⟨a, ns, rfl, hS, fun _ _ => rfl⟩) (fun _ _ _ _ _ h => h)
  case F =>
    intro w mg fa h KX G hmg
    refine' PP.all_mk KX G hmg ?a_P_whole_number ?l_P_whole_number ?e_P_whole_number ?k_P_whole_number ?a_P_size_of ?l_P_size_of ?e_P_size_of ?k_P_size_of ?a_P_power_of ?l_P_power_of ?e_P_power_of ?k_P_power_of ?a_P_size_and_power ?l_P_size_and_power ?e_P_size_and_power ?k_P_size_and_power ?a_P_signs_and_terms ?l_P_signs_and_terms ?e_P_signs_and_terms ?k_P_signs_and_terms ?a_P_read ?l_P_read ?e_P_read ?k_P_read ?a_P_is_whole ?l_P_is_whole ?e_P_is_whole ?k_P_is_whole ?a_P_without_end_noughts ?l_P_without_end_noughts ?e_P_without_end_noughts ?k_P_without_end_noughts ?a_P_made ?l_P_made ?e_P_made ?k_P_made ?a_P_number_at ?l_P_number_at ?e_P_number_at ?k_P_number_at ?a_P_plus ?l_P_plus ?e_P_plus ?k_P_plus ?a_P_minus ?l_P_minus ?e_P_minus ?k_P_minus ?a_P_times ?l_P_times ?e_P_times ?k_P_times ?a_P_scaled ?l_P_scaled ?e_P_scaled ?k_P_scaled ?a_P_raised ?l_P_raised ?e_P_raised ?k_P_raised ?a_P_slope ?l_P_slope ?e_P_slope ?k_P_slope ?a_P_divided ?l_P_divided ?e_P_divided ?k_P_divided ?a_P_quotient ?l_P_quotient ?e_P_quotient ?k_P_quotient ?a_P_content ?l_P_content ?e_P_content ?k_P_content ?a_P_signed_content ?l_P_signed_content ?e_P_signed_content ?k_P_signed_content ?a_P_lessened ?l_P_lessened ?e_P_lessened ?k_P_lessened ?a_P_simple ?l_P_simple ?e_P_simple ?k_P_simple ?a_P_least_step ?l_P_least_step ?e_P_least_step ?k_P_least_step ?a_P_next_step ?l_P_next_step ?e_P_next_step ?k_P_next_step ?a_P_meet ?l_P_meet ?e_P_meet ?k_P_meet ?a_P_parts ?l_P_parts ?e_P_parts ?k_P_parts ?a_L_whole ?l_L_whole ?e_L_whole ?k_L_whole ?a_L_cell_at ?l_L_cell_at ?e_L_cell_at ?k_L_cell_at ?a_L_trim ?l_L_trim ?e_L_trim ?k_L_trim ?a_L_same ?l_L_same ?e_L_same ?k_L_same ?a_L_number ?l_L_number ?e_L_number ?k_L_number ?a_L_drawn ?l_L_drawn ?e_L_drawn ?k_L_drawn ?a_L_written ?l_L_written ?e_L_written ?k_L_written ?a_L_figures ?l_L_figures ?e_L_figures ?k_L_figures ?a_L_term ?l_L_term ?e_L_term ?k_L_term ?a_L_due ?l_L_due ?e_L_due ?k_L_due ?a_L_odd ?l_L_odd ?e_L_odd ?k_L_odd ?a_L_sign ?l_L_sign ?e_L_sign ?k_L_sign ?a_L_turned ?l_L_turned ?e_L_turned ?k_L_turned ?a_L_refuse ?l_L_refuse ?e_L_refuse ?k_L_refuse ?a_L_first ?l_L_first ?e_L_first ?k_L_first ?a_L_last ?l_L_last ?e_L_last ?k_L_last ?a_L_refused ?l_L_refused ?e_L_refused ?k_L_refused ?a_law ?l_law ?e_law ?k_law ?nb_ ?n0_PolyError ?b0_PolyError ?t0_PolyError ?hg_PolyError ?hk_PolyError ?hd_PolyError ?ha_PolyError ?hm_PolyError ?kv_PolyError ?n0_NoNumber ?b0_NoNumber ?t0_NoNumber ?q0_NoNumber ?k0_NoNumber ?hg_NoNumber ?hk_NoNumber ?hd_NoNumber ?ha_NoNumber ?hm_NoNumber ?kv_NoNumber ?up_NoNumber ?sf_NoNumber ?n0_NoPower ?b0_NoPower ?t0_NoPower ?q0_NoPower ?k0_NoPower ?hg_NoPower ?hk_NoPower ?hd_NoPower ?ha_NoPower ?hm_NoPower ?kv_NoPower ?up_NoPower ?sf_NoPower ?n0_ByNought ?b0_ByNought ?t0_ByNought ?q0_ByNought ?k0_ByNought ?hg_ByNought ?hk_ByNought ?hd_ByNought ?ha_ByNought ?hm_ByNought ?kv_ByNought ?up_ByNought ?sf_ByNought ?n0_NotWhole ?b0_NotWhole ?t0_NotWhole ?q0_NotWhole ?k0_NotWhole ?hg_NotWhole ?hk_NotWhole ?hd_NotWhole ?ha_NotWhole ?hm_NotWhole ?kv_NotWhole ?up_NotWhole ?sf_NotWhole ?n0_NoMeet ?b0_NoMeet ?t0_NoMeet ?q0_NoMeet ?k0_NoMeet ?hg_NoMeet ?hk_NoMeet ?hd_NoMeet ?ha_NoMeet ?hm_NoMeet ?kv_NoMeet ?up_NoMeet ?sf_NoMeet ?n0_NoParts ?b0_NoParts ?t0_NoParts ?q0_NoParts ?k0_NoParts ?hg_NoParts ?hk_NoParts ?hd_NoParts ?ha_NoParts ?hm_NoParts ?kv_NoParts ?up_NoParts ?sf_NoParts ?n0_NotWritten ?b0_NotWritten ?t0_NotWritten ?q0_NotWritten ?k0_NotWritten ?hg_NotWritten ?hk_NotWritten ?hd_NotWritten ?ha_NotWritten ?hm_NotWritten ?kv_NotWritten ?up_NotWritten ?sf_NotWritten ?hn_ ?ht_ ?d_NoNumber_NoPower ?d_NoPower_NoNumber ?d_NoNumber_ByNought ?d_ByNought_NoNumber ?d_NoNumber_NotWhole ?d_NotWhole_NoNumber ?d_NoNumber_NoMeet ?d_NoMeet_NoNumber ?d_NoNumber_NoParts ?d_NoParts_NoNumber ?d_NoNumber_NotWritten ?d_NotWritten_NoNumber ?d_NoPower_ByNought ?d_ByNought_NoPower ?d_NoPower_NotWhole ?d_NotWhole_NoPower ?d_NoPower_NoMeet ?d_NoMeet_NoPower ?d_NoPower_NoParts ?d_NoParts_NoPower ?d_NoPower_NotWritten ?d_NotWritten_NoPower ?d_ByNought_NotWhole ?d_NotWhole_ByNought ?d_ByNought_NoMeet ?d_NoMeet_ByNought ?d_ByNought_NoParts ?d_NoParts_ByNought ?d_ByNought_NotWritten ?d_NotWritten_ByNought ?d_NotWhole_NoMeet ?d_NoMeet_NotWhole ?d_NotWhole_NoParts ?d_NoParts_NotWhole ?d_NotWhole_NotWritten ?d_NotWritten_NotWhole ?d_NoMeet_NoParts ?d_NoParts_NoMeet ?d_NoMeet_NotWritten ?d_NotWritten_NoMeet ?d_NoParts_NotWritten ?d_NotWritten_NoParts ?z_GREATEST_POWER ?z_LONGEST_TAIL ?z_ValueError ?z_abs ?z_bool ?z_enumerate ?z_gcd ?z_int ?z_isinstance ?z_len ?z_list ?z_max ?z_range ?z_str ?z_zip ?tree_
    (case a_P_whole_number => k_is); (case l_P_whole_number => k_is); (case e_P_whole_number => k_is); (case k_P_whole_number => k_is); (case a_P_size_of => k_is); (case l_P_size_of => k_is); (case e_P_size_of => k_is); (case k_P_size_of => k_is); (case a_P_power_of => k_is); (case l_P_power_of => k_is); (case e_P_power_of => k_is); (case k_P_power_of => k_is); (case a_P_size_and_power => k_is); (case l_P_size_and_power => k_is); (case e_P_size_and_power => k_is); (case k_P_size_and_power => k_is); (case a_P_signs_and_terms => k_is); (case l_P_signs_and_terms => k_is); (case e_P_signs_and_terms => k_is); (case k_P_signs_and_terms => k_is); (case a_P_read => k_is); (case l_P_read => k_is); (case e_P_read => k_is); (case k_P_read => k_is); (case a_P_is_whole => k_is); (case l_P_is_whole => k_is); (case e_P_is_whole => k_is); (case k_P_is_whole => k_is); (case a_P_without_end_noughts => k_is); (case l_P_without_end_noughts => k_is); (case e_P_without_end_noughts => k_is); (case k_P_without_end_noughts => k_is); (case a_P_made => k_is); (case l_P_made => k_is); (case e_P_made => k_is); (case k_P_made => k_is); (case a_P_number_at => k_is); (case l_P_number_at => k_is); (case e_P_number_at => k_is); (case k_P_number_at => k_is); (case a_P_plus => k_is); (case l_P_plus => k_is); (case e_P_plus => k_is); (case k_P_plus => k_is); (case a_P_minus => k_is); (case l_P_minus => k_is); (case e_P_minus => k_is); (case k_P_minus => k_is); (case a_P_times => k_is); (case l_P_times => k_is); (case e_P_times => k_is); (case k_P_times => k_is); (case a_P_scaled => k_is); (case l_P_scaled => k_is); (case e_P_scaled => k_is); (case k_P_scaled => k_is); (case a_P_raised => k_is); (case l_P_raised => k_is); (case e_P_raised => k_is); (case k_P_raised => k_is); (case a_P_slope => k_is); (case l_P_slope => k_is); (case e_P_slope => k_is); (case k_P_slope => k_is); (case a_P_divided => k_is); (case l_P_divided => k_is); (case e_P_divided => k_is); (case k_P_divided => k_is); (case a_P_quotient => k_is); (case l_P_quotient => k_is); (case e_P_quotient => k_is); (case k_P_quotient => k_is); (case a_P_content => k_is); (case l_P_content => k_is); (case e_P_content => k_is); (case k_P_content => k_is); (case a_P_signed_content => k_is); (case l_P_signed_content => k_is); (case e_P_signed_content => k_is); (case k_P_signed_content => k_is); (case a_P_lessened => k_is); (case l_P_lessened => k_is); (case e_P_lessened => k_is); (case k_P_lessened => k_is); (case a_P_simple => k_is); (case l_P_simple => k_is); (case e_P_simple => k_is); (case k_P_simple => k_is); (case a_P_least_step => k_is); (case l_P_least_step => k_is); (case e_P_least_step => k_is); (case k_P_least_step => k_is); (case a_P_next_step => k_is); (case l_P_next_step => k_is); (case e_P_next_step => k_is); (case k_P_next_step => k_is); (case a_P_meet => k_is); (case l_P_meet => k_is); (case e_P_meet => k_is); (case k_P_meet => k_is); (case a_P_parts => k_is); (case l_P_parts => k_is); (case e_P_parts => k_is); (case k_P_parts => k_is); (case a_L_whole => k_is); (case l_L_whole => k_is); (case e_L_whole => k_is); (case k_L_whole => k_is); (case a_L_cell_at => k_is); (case l_L_cell_at => k_is); (case e_L_cell_at => k_is); (case k_L_cell_at => k_is); (case a_L_trim => k_is); (case l_L_trim => k_is); (case e_L_trim => k_is); (case k_L_trim => k_is); (case a_L_same => k_is); (case l_L_same => k_is); (case e_L_same => k_is); (case k_L_same => k_is); (case a_L_number => k_is); (case l_L_number => k_is); (case e_L_number => k_is); (case k_L_number => k_is); (case a_L_drawn => k_is); (case l_L_drawn => k_is); (case e_L_drawn => k_is); (case k_L_drawn => k_is); (case a_L_written => k_is); (case l_L_written => k_is); (case e_L_written => k_is); (case k_L_written => k_is); (case a_L_figures => k_is); (case l_L_figures => k_is); (case e_L_figures => k_is); (case k_L_figures => k_is); (case a_L_term => k_is); (case l_L_term => k_is); (case e_L_term => k_is); (case k_L_term => k_is); (case a_L_due => k_is); (case l_L_due => k_is); (case e_L_due => k_is); (case k_L_due => k_is); (case a_L_odd => k_is); (case l_L_odd => k_is); (case e_L_odd => k_is); (case k_L_odd => k_is); (case a_L_sign => k_is); (case l_L_sign => k_is); (case e_L_sign => k_is); (case k_L_sign => k_is); (case a_L_turned => k_is); (case l_L_turned => k_is); (case e_L_turned => k_is); (case k_L_turned => k_is); (case a_L_refuse => k_is); (case l_L_refuse => k_is); (case e_L_refuse => k_is); (case k_L_refuse => k_is); (case a_L_first => k_is); (case l_L_first => k_is); (case e_L_first => k_is); (case k_L_first => k_is); (case a_L_last => k_is); (case l_L_last => k_is); (case e_L_last => k_is); (case k_L_last => k_is); (case a_L_refused => k_is); (case l_L_refused => k_is); (case e_L_refused => k_is); (case k_L_refused => k_is); (case a_law => k_is); (case l_law => k_is); (case e_law => k_is); (case k_law => k_is); (case nb_ => k_is); (case n0_PolyError => k_is); (case b0_PolyError => k_is); (case t0_PolyError => k_is); (case hg_PolyError => k_is); (case hk_PolyError => k_is); (case hd_PolyError => k_is); (case ha_PolyError => k_is); (case hm_PolyError => k_is); (case kv_PolyError => k_is); (case n0_NoNumber => k_is); (case b0_NoNumber => k_is); (case t0_NoNumber => k_is); (case q0_NoNumber => k_exc); (case k0_NoNumber => k_is); (case hg_NoNumber => k_is); (case hk_NoNumber => k_is); (case hd_NoNumber => k_is); (case ha_NoNumber => k_is); (case hm_NoNumber => k_is); (case kv_NoNumber => k_is); (case up_NoNumber => k_is); (case sf_NoNumber => k_is); (case n0_NoPower => k_is); (case b0_NoPower => k_is); (case t0_NoPower => k_is); (case q0_NoPower => k_exc); (case k0_NoPower => k_is); (case hg_NoPower => k_is); (case hk_NoPower => k_is); (case hd_NoPower => k_is); (case ha_NoPower => k_is); (case hm_NoPower => k_is); (case kv_NoPower => k_is); (case up_NoPower => k_is); (case sf_NoPower => k_is); (case n0_ByNought => k_is); (case b0_ByNought => k_is); (case t0_ByNought => k_is); (case q0_ByNought => k_exc); (case k0_ByNought => k_is); (case hg_ByNought => k_is); (case hk_ByNought => k_is); (case hd_ByNought => k_is); (case ha_ByNought => k_is); (case hm_ByNought => k_is); (case kv_ByNought => k_is); (case up_ByNought => k_is); (case sf_ByNought => k_is); (case n0_NotWhole => k_is); (case b0_NotWhole => k_is); (case t0_NotWhole => k_is); (case q0_NotWhole => k_exc); (case k0_NotWhole => k_is); (case hg_NotWhole => k_is); (case hk_NotWhole => k_is); (case hd_NotWhole => k_is); (case ha_NotWhole => k_is); (case hm_NotWhole => k_is); (case kv_NotWhole => k_is); (case up_NotWhole => k_is); (case sf_NotWhole => k_is); (case n0_NoMeet => k_is); (case b0_NoMeet => k_is); (case t0_NoMeet => k_is); (case q0_NoMeet => k_exc); (case k0_NoMeet => k_is); (case hg_NoMeet => k_is); (case hk_NoMeet => k_is); (case hd_NoMeet => k_is); (case ha_NoMeet => k_is); (case hm_NoMeet => k_is); (case kv_NoMeet => k_is); (case up_NoMeet => k_is); (case sf_NoMeet => k_is); (case n0_NoParts => k_is); (case b0_NoParts => k_is); (case t0_NoParts => k_is); (case q0_NoParts => k_exc); (case k0_NoParts => k_is); (case hg_NoParts => k_is); (case hk_NoParts => k_is); (case hd_NoParts => k_is); (case ha_NoParts => k_is); (case hm_NoParts => k_is); (case kv_NoParts => k_is); (case up_NoParts => k_is); (case sf_NoParts => k_is); (case n0_NotWritten => k_is); (case b0_NotWritten => k_is); (case t0_NotWritten => k_is); (case q0_NotWritten => k_exc); (case k0_NotWritten => k_is); (case hg_NotWritten => k_is); (case hk_NotWritten => k_is); (case hd_NotWritten => k_is); (case ha_NotWritten => k_is); (case hm_NotWritten => k_is); (case kv_NotWritten => k_is); (case up_NotWritten => k_is); (case sf_NotWritten => k_is); (case hn_ => k_is); (case ht_ => k_is); (case d_NoNumber_NoPower => k_is); (case d_NoPower_NoNumber => k_is); (case d_NoNumber_ByNought => k_is); (case d_ByNought_NoNumber => k_is); (case d_NoNumber_NotWhole => k_is); (case d_NotWhole_NoNumber => k_is); (case d_NoNumber_NoMeet => k_is); (case d_NoMeet_NoNumber => k_is); (case d_NoNumber_NoParts => k_is); (case d_NoParts_NoNumber => k_is); (case d_NoNumber_NotWritten => k_is); (case d_NotWritten_NoNumber => k_is); (case d_NoPower_ByNought => k_is); (case d_ByNought_NoPower => k_is); (case d_NoPower_NotWhole => k_is); (case d_NotWhole_NoPower => k_is); (case d_NoPower_NoMeet => k_is); (case d_NoMeet_NoPower => k_is); (case d_NoPower_NoParts => k_is); (case d_NoParts_NoPower => k_is); (case d_NoPower_NotWritten => k_is); (case d_NotWritten_NoPower => k_is); (case d_ByNought_NotWhole => k_is); (case d_NotWhole_ByNought => k_is); (case d_ByNought_NoMeet => k_is); (case d_NoMeet_ByNought => k_is); (case d_ByNought_NoParts => k_is); (case d_NoParts_ByNought => k_is); (case d_ByNought_NotWritten => k_is); (case d_NotWritten_ByNought => k_is); (case d_NotWhole_NoMeet => k_is); (case d_NoMeet_NotWhole => k_is); (case d_NotWhole_NoParts => k_is); (case d_NoParts_NotWhole => k_is); (case d_NotWhole_NotWritten => k_is); (case d_NotWritten_NotWhole => k_is); (case d_NoMeet_NoParts => k_is); (case d_NoParts_NoMeet => k_is); (case d_NoMeet_NotWritten => k_is); (case d_NotWritten_NoMeet => k_is); (case d_NoParts_NotWritten => k_is); (case d_NotWritten_NoParts => k_is); (case z_GREATEST_POWER => k_is); (case z_LONGEST_TAIL => k_is); (case z_ValueError => k_is); (case z_abs => k_is); (case z_bool => k_is); (case z_enumerate => k_is); (case z_gcd => k_is); (case z_int => k_is); (case z_isinstance => k_is); (case z_len => k_is); (case z_list => k_is); (case z_max => k_is); (case z_range => k_is); (case z_str => k_is); (case z_zip => k_is); (case tree_ => rfl)
