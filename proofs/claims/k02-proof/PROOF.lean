import PyProof.Rows.All
import Wide.All
import OpenK.AllK
import Wide.FinOn
import PyProof.EqAt
import PyProof.EqKinds
import PyProof.TupleCall
import KE.DataMinMax
import HandS.ForMost
import HandS.Steps
import HandS.Evl
import HandS.Wide
import HandS.EndBits
import HandS.Zip
import HandS.TupAny
import HandS.IsInst
import HandS.SortKw
import HandS.RevRange
import HandS.Conv
import PySem.Challenge.RW_nearvault_k02_numbers_and_points_as_byte
set_option Elab.async false
set_option linter.all false
set_option maxRecDepth 100000
set_option maxHeartbeats 4000000
/-! # a small kit over the hand layer: readings of straight code, step by step -/
namespace Nv
open PySem L2
abbrev Frag := PySem.W.Frag
section
variable {σ : St} {H H' : Hp} {D : Ends} {K : Frag} {i j : Int} {x y z v : V} {ta tb te tv : TE} {b : Bool} {a C dx p : Addr} {fs : List (Str × V)} {f : Str} {t u c : TT} {ts tu tw : TS} {n : Nat}
/-! ### values -/
theorem g_val {Q : VK} (h : Val te σ H v) (q : Q v H) : te σ H Q := h Q q
theorem val_I0 {g : Int → Int → V} (ha : Val ta σ H (.int i)) (hb : Val tb σ H (.int j)) : Val (tOp (rI0 g) ta tb) σ H (g i j) := val_op ha hb fun _ q => ⟨i, j, rfl, rfl, q⟩
theorem val_I {C : Int → Int → Prop} {g : Int → Int → V} (ha : Val ta σ H (.int i)) (hb : Val tb σ H (.int j)) (hc : C i j) : Val (tOp (rI C g) ta tb) σ H (g i j) := val_op ha hb fun _ q => ⟨i, j, rfl, rfl, hc, q⟩
theorem val_U {g : Int → V} (ha : Val ta σ H (.int i)) : Val (tUn (rU g) ta) σ H (g i) := fun Q q => ha _ ⟨i, rfl, q⟩
theorem val_eq (ha : Val ta σ H x) (hb : Val tb σ H y) (hs : scal x y = true) : Val (tOp rEq ta tb) σ H (.bl (decide (x = y))) := val_op ha hb fun _ q => ⟨hs, q⟩
theorem val_ne (ha : Val ta σ H x) (hb : Val tb σ H y) (hs : scal x y = true) : Val (tOp rNe ta tb) σ H (.bl (!decide (x = y))) := val_op ha hb fun _ q => ⟨hs, q⟩
theorem val_not (ha : Val ta σ H (.bl b)) : Val (tNotV ta) σ H (.bl (!b)) := fun Q q => ha _ ⟨b, rfl, q⟩
theorem val_ixL {xs : List V} (ha : Val ta σ H (.ref p)) (hb : Val tb σ H (.int i)) (hs : SqL K H p xs) (hv : atI xs i = some v) : Val (tOp (rIxL K) ta tb) σ H v := val_op ha hb fun _ q => ⟨p, xs, i, v, rfl, rfl, hs, hv, q⟩
theorem val_ixT {xs : List V} (ha : Val ta σ H (.ref p)) (hb : Val tb σ H (.int i)) (hs : SqT K H p xs) (hv : atI xs i = some v) : Val (tOp (rIxT K) ta tb) σ H v := val_op ha hb fun _ q => ⟨p, xs, i, v, rfl, rfl, hs, hv, q⟩
theorem val_len {xs : List V} (ha : Val ta σ H (.ref p)) (hs : SqL K H p xs ∨ SqT K H p xs) :
    Val (tCB (fun xs H Q => ∃ p ys, xs = [V.ref p] ∧ (SqL K H p ys ∨ SqT K H p ys) ∧ Q (.int ys.length) H) (tCons ta tNil)) σ H (.int xs.length) := fun Q q => ha _ ⟨p, xs, rfl, hs, q⟩
theorem val_int1 (ha : Val ta σ H (.int i)) : Val (tCB (fun xs H Q => (∃ i, xs = [V.int i] ∧ Q (.int i) H) ∨ ∃ k, xs = [.bl k] ∧ Q (.int (if k then 1 else 0)) H) (tCons ta tNil)) σ H (.int i) := fun Q q => ha _ (.inl ⟨i, rfl, q⟩)
theorem val_abs (ha : Val ta σ H (.int i)) : Val (tCB (fun xs H Q => ∃ i, xs = [V.int i] ∧ Q (.int (if i < 0 then -i else i)) H) (tCons ta tNil)) σ H (.int (if i < 0 then -i else i)) := fun Q q => ha _ ⟨i, rfl, q⟩
theorem val_max2 (ha : Val ta σ H (.int i)) (hb : Val tb σ H (.int j)) : Val (tCB (fun xs H Q => ∃ i j, xs = [V.int i, .int j] ∧ Q (.int (if j > i then j else i)) H) (tCons ta (tCons tb tNil))) σ H (.int (if j > i then j else i)) := fun Q q => ha _ (hb _ ⟨i, j, rfl, q⟩)
/-! ### tests -/
theorem ans_I0 {g : Int → Int → V} (ha : Val ta σ H (.int i)) (hb : Val tb σ H (.int j)) (e : g i j = .bl b) : Ans (tTest (tOp (rI0 g) ta tb)) σ H b := ans_cmp ha hb fun Q q => ⟨i, j, rfl, rfl, by rw [e]; exact q⟩
theorem ans_Eq (ha : Val ta σ H x) (hb : Val tb σ H y) (hs : scal x y = true) : Ans (tTest (tOp rEq ta tb)) σ H (decide (x = y)) := ans_eq ha hb hs rfl
theorem ans_Ne (ha : Val ta σ H x) (hb : Val tb σ H y) (hs : scal x y = true) : Ans (tTest (tOp rNe ta tb)) σ H (!decide (x = y)) := ans_ne ha hb hs rfl
theorem ans_or2 {b1 b2 : Bool} (h1 : Ans t σ H b1) (h2 : b1 = false → Ans u σ H b2) : Ans (tOr t u) σ H (b1 || b2) := by
  cases b1 with
  | true => exact ans_or1 h1
  | false => exact ans_or h1 (h2 rfl)
theorem ans_And {b1 b2 : Bool} (h1 : Ans t σ H b1) (h2 : b1 = true → Ans u σ H b2) : Ans (tAnd t u) σ H (b1 && b2) := by
  cases b1 with
  | true => exact ans_and h1 (h2 rfl)
  | false => exact ans_and0 h1
theorem g_yes {A B : Hp → Prop} (h : A H) : tYes σ H (fun b H3 => if b = true then A H3 else B H3) := by
  show (if true = true then A H else B H)
  rw [if_pos rfl]
  exact h
theorem g_test {A B : Hp → Prop} (h : Ans c σ H b) (h1 : b = true → A H) (h2 : b = false → B H) : c σ H (fun b H3 => if b = true then A H3 else B H3) := by
  refine h _ ?_
  cases b with
  | true => rw [if_pos rfl]; exact h1 rfl
  | false => rw [if_neg Bool.false_ne_true]; exact h2 rfl
theorem g_noPart {Q : Option Int → Hp → Prop} (q : Q none H) : tNoPart σ H Q := q
/-! ### statements, something behind -/
theorem q_set {m : Nat} (h : Val te σ H v) (q : tu D (σ.set m (some v)) H) : tSeq (tAsg te (gName m)) tu D σ H := h _ q
theorem s_set {m : Nat} (h : Val te σ H v) (q : D.nx (σ.set m (some v)) H) : tAsg te (gName m) D σ H := h _ q
theorem q_setg {m : Nat} (h : te σ H fun v H1 => tu D (σ.set m (some v)) H1) : tSeq (tAsg te (gName m)) tu D σ H := h
theorem s_setg {m : Nat} (h : te σ H fun v H1 => D.nx (σ.set m (some v)) H1) : tAsg te (gName m) D σ H := h
theorem q_when (h : Ans c σ H b) (h1 : b = true → ts { D with nx := tu D } σ H) (h2 : b = false → tu D σ H) : tSeq (tIfS c ts tNext) tu D σ H := by
  refine h _ ?_
  cases b with
  | true => rw [if_pos rfl]; exact h1 rfl
  | false => rw [if_neg Bool.false_ne_true]; exact h2 rfl
theorem s_when (h : Ans c σ H b) (h1 : b = true → ts D σ H) (h2 : b = false → D.nx σ H) : tIfS c ts tNext D σ H := by
  refine h _ ?_
  cases b with
  | true => rw [if_pos rfl]; exact h1 rfl
  | false => rw [if_neg Bool.false_ne_true]; exact h2 rfl
theorem q_ife (h : Ans c σ H b) (h1 : b = true → ts { D with nx := tu D } σ H) (h2 : b = false → tw { D with nx := tu D } σ H) : tSeq (tIfS c ts tw) tu D σ H := by
  refine h _ ?_
  cases b with
  | true => rw [if_pos rfl]; exact h1 rfl
  | false => rw [if_neg Bool.false_ne_true]; exact h2 rfl
theorem s_ife (h : Ans c σ H b) (h1 : b = true → ts D σ H) (h2 : b = false → tw D σ H) : tIfS c ts tw D σ H := by
  refine h _ ?_
  cases b with
  | true => rw [if_pos rfl]; exact h1 rfl
  | false => rw [if_neg Bool.false_ne_true]; exact h2 rfl
/-- what stands behind an if, told once -/
theorem q_cutIf (M : St → Hp → Prop) (h : ts { D with nx := M } σ H) (k : ∀ σ' H', M σ' H' → tu D σ' H') (mono : ∀ N : St → Hp → Prop, (∀ σ' H', M σ' H' → N σ' H') → ts { D with nx := M } σ H → ts { D with nx := N } σ H) : tSeq ts tu D σ H := mono _ k h
theorem q_setL {xs : List V} {k : Nat} (hv : Val te σ H v) (ho : Val ta σ H (.ref p)) (hi : Val tb σ H (.int i)) (hl : H p = some (.lst xs)) (hk : ixN xs.length i = some k) (q : tu D σ (upd H p (.lst (xs.set k v)))) : tSeq (tAsg te (gSub ta tb rSetL)) tu D σ H := by
  refine hv _ ?_
  refine ho _ ?_
  refine hi _ ?_
  exact ⟨p, xs, i, k, rfl, rfl, hl, hk, q⟩
theorem s_setL {xs : List V} {k : Nat} (hv : Val te σ H v) (ho : Val ta σ H (.ref p)) (hi : Val tb σ H (.int i)) (hl : H p = some (.lst xs)) (hk : ixN xs.length i = some k) (q : D.nx σ (upd H p (.lst (xs.set k v)))) : tAsg te (gSub ta tb rSetL) D σ H := by
  refine hv _ ?_
  refine ho _ ?_
  refine hi _ ?_
  exact ⟨p, xs, i, k, rfl, rfl, hl, hk, q⟩
theorem s_ret (h : Val te σ H v) (q : D.rt v H) : tRet te D σ H := h _ q
theorem s_retg (h : te σ H D.rt) : tRet te D σ H := h
theorem q_fld (hv : Val tv σ H y) (ha : Val ta σ H (.ref a)) (ho : H a = some (.ins C dx fs)) (hc : Cls K C) (hn : NoAttr K C f) (hl : fs.length < 1000) (q : tu D σ (upd H a (.ins C dx (putF f y fs)))) : tSeq (sFld K ta tv f) tu D σ H := st_fld (D := { D with nx := tu D }) hv ha ho hc hn hl q
end
section
variable {σ : St} {H : Hp} {D : Ends} {tu ts : TS}
/-- a statement, then the rest, with a word between them -/
theorem q_cut (M : St → Hp → Prop) (h : ts { D with nx := M } σ H) (k : ∀ σ' H', M σ' H' → tu D σ' H') : Evl.tCut ts tu D σ H := ⟨M, h, k⟩
end
/-! ### heaps -/
/-- all but a is as it was -/
def But (a : Addr) (H H' : Hp) : Prop := ∀ b, b ≠ a → H' b = H b
theorem But.refl (a : Addr) (H : Hp) : But a H H := fun _ _ => rfl
theorem But.upd {a : Addr} {H : Hp} {o : HO} : But a H (upd H a o) := fun b h => upd_ne h
theorem But.trans {a : Addr} {H H1 H2 : Hp} (x : But a H H1) (y : But a H1 H2) : But a H H2 := fun b h => (y b h).trans (x b h)
/-- what was tracked stays, but for a -/
def Kp (a : Addr) (H H' : Hp) : Prop := ∀ b o, b ≠ a → H b = some o → H' b = some o
theorem Kp.refl (a : Addr) (H : Hp) : Kp a H H := fun _ _ _ e => e
theorem Kp.trans {a : Addr} {H H1 H2 : Hp} (x : Kp a H H1) (y : Kp a H1 H2) : Kp a H H2 := fun b o n e => y b o n (x b o n e)
theorem Kp.but {a : Addr} {H H' : Hp} (x : But a H H') : Kp a H H' := fun b o n e => by rw [x b n]; exact e
theorem Kp.of {a : Addr} {H H' : Hp} (x : Same H H') : Kp a H H' := fun b o _ e => x b o e
theorem same_upd {H : Hp} {p : Addr} {o : HO} (h : H p = none) : Same H (upd H p o) := fun b x e => by
  rw [upd_ne (ne_of_none e h)]
  exact e
theorem Same.of_kp {a : Addr} {H H' : Hp} (n : H a = none) (x : Kp a H H') : Same H H' := fun b o e => x b o (ne_of_none e n) e
theorem seqT {K : Frag} {H H' : Hp} {a : Addr} {xs : List V} (e : Same H H') (h : SqT K H a xs) : SqT K H' a xs := by
  rcases h with (h | ⟨o, h⟩) | h
  · exact .inl (.inl (e _ _ h))
  · exact .inl (.inr ⟨o, e _ _ h⟩)
  · exact .inr h
theorem ixN_lt {n k : Nat} (h : k < n) : ixN n (k : Int) = some k := by
  unfold ixN
  rw [if_pos (by omega), if_pos (by omega)]
  all_goals rfl
theorem at_map {α : Type} {g : α → V} {xs : List α} {k : Nat} {x : α} (h : xs[k]? = some x) : atI (xs.map g) (k : Int) = some (g x) := atI_nat (by rw [List.getElem?_map, h]; rfl)
theorem at_mod {ns : List Int} (i : Int) (h : 0 < ns.length) : ∃ c : Int, atI (ns.map V.int) (i % (((ns.map V.int).length : Nat) : Int)) = some (.int c) := by
  have hm : i % (((ns.map V.int).length : Nat) : Int) = (((i % ((ns.length : Nat) : Int)).toNat : Nat) : Int) := by
    rw [List.length_map]
    exact (Int.toNat_of_nonneg (Int.emod_nonneg _ (by omega))).symm
  have hlt : (i % ((ns.length : Nat) : Int)).toNat < ns.length := by
    have := Int.emod_lt_of_pos i (show (0 : Int) < (ns.length : Nat) by omega)
    have := Int.emod_nonneg i (show ((ns.length : Nat) : Int) ≠ 0 by omega)
    omega
  rw [hm]
  exact ⟨_, at_map (List.getElem?_eq_getElem hlt)⟩
/-! ### max(xs, default=d) -/
section
open PySem.W PyProof.Rows
theorem readsAll_ints {h : Heap} : ∀ {its : List Value} {ns : List Int}, IntsAre its ns → ∃ as, ReadsAll h its (ns.map PyData.int) as
  | _, _, .nil => ⟨_, .nil⟩
  | _, _, .cons n t h => by
    obtain ⟨as, r⟩ := readsAll_ints h
    exact ⟨_, .cons (Reads.int n t) r⟩
theorem depth_ints : ∀ ns : List Int, PyData.depthAll (ns.map PyData.int) ≤ 1
  | [] => by simp [PyData.depthAll]
  | n :: r => by
    have ih := depth_ints r
    simp only [List.map_cons, PyData.depthAll, PyData.depth]
    omega
theorem alike_ints (ns : List Int) : AlikeAll (ns.map PyData.int) := by
  refine ⟨fun x hx y hy => ?_, fun x hx => ?_⟩
  · obtain ⟨a, _, rfl⟩ := List.mem_map.mp hx
    obtain ⟨b, _, rfl⟩ := List.mem_map.mp hy
    rfl
  · obtain ⟨a, _, rfl⟩ := List.mem_map.mp hx
    exact fun z => nomatch z
def maxDf (d : Int) : List Int → Int
  | [] => d
  | y :: ys => ys.foldl max y
def rMaxDf (K : Frag) : List V → List V → Hp → VK → Prop := fun xs zs H Q => ∃ (a : Addr) (ns : List Int) (d : Int), xs = [.ref a] ∧ zs = [.int d] ∧ SqL K H a (ns.map V.int) ∧ Q (.int (maxDf d ns)) H
theorem cr_maxDf {X : Cx} (hc : X.calm = true) (hu : X.A.units + 2 < cLine) : CallRK X (.builtin "max") ["default"] (rMaxDf X.K) := by
  intro pins s σ H xs zs us ws Q I r rz h
  obtain ⟨a, ns, d, rfl, rfl, hs, q⟩ := h
  obtain ⟨its, rv, hl, _⟩ := I.list hs
  rw [Vals.ref1 r]
  cases rz with
  | cons r1 rn =>
    cases rn
    rename_i w0
    obtain ⟨as, hr⟩ := readsAll_ints (h := s.heap) rv.ints
    show wpAny _ _ (call (.builtin "max") [.ref a] [(Str.ofString "default", w0)]) _ _ _
    have hdep := depth_ints ns
    refine max_list_default (xs := ns.map PyData.int) (as := as) (I.ok.hd hc) hl.isList (by simpa using hr) (alike_ints ns) (by omega) (fun e h' tk hk => ?_) (fun y ys i v h' tk bs e hv hR hk => ?_)
    · have e0 : ns = [] := List.map_eq_nil_iff.mp e
      subst e0
      exact ⟨.int d, H, I.kept hk, r1, q⟩
    · cases ns with
      | nil => cases e
      | cons n r =>
        have e1 : PyData.int n = y ∧ r.map PyData.int = ys := by
          have := List.cons.inj e
          exact this
        obtain ⟨rfl, rfl⟩ := e1
        rw [maxD_ints] at hR
        cases hR
        exact ⟨.int _, H, I.kept hk, ⟨_, rfl⟩, q⟩
end
/-! ### slices and sums of tuples, whatever object comes -/
theorem cutV_whole {xs : List V} {lo hi : Option Int} (h : HT.sIx xs.length 0 lo = 0 ∧ HT.sIx xs.length xs.length hi = xs.length) : cutV xs lo hi = xs := by
  unfold cutV
  rw [h.1, h.2]
  simp
theorem slT_any {K : Frag} {H : Hp} {Q : VK} {a : Addr} {xs : List V} {lo hi : Option Int} (ha : SqT K H a xs) (k : ∀ p H', Same H H' → SqT K H' p (cutV xs lo hi) → Q (.ref p) H') : rSlA K (.ref a) lo hi H Q :=
  ⟨a, xs, rfl, ha, fun h => k a H (Same.refl _) (by rw [cutV_whole h]; exact ha), fun _ p hp => k p _ (same_upd hp) (SqT.of upd_same)⟩
theorem catA_any {K : Frag} {H : Hp} {Q : VK} {a b : Addr} {xs ys : List V} (ha : SqT K H a xs) (hb : SqT K H b ys) (hz : xs.length + ys.length ≤ sizeLine) (k : ∀ p H', Same H H' → SqT K H' p (xs ++ ys) → Q (.ref p) H') : rCatA K (.ref a) (.ref b) H Q :=
  ⟨a, b, xs, ys, rfl, rfl, ha, hb, hz, fun h => k b H (Same.refl _) (by rw [h]; exact hb), fun _ h => k a H (Same.refl _) (by rw [h, List.append_nil]; exact ha), fun _ _ p hp => k p _ (same_upd hp) (SqT.of upd_same)⟩
theorem cut_take {α : Type} (g : α → V) (xs : List α) (k : Nat) : cutV (xs.map g) none (some (k : Int)) = (xs.take k).map g := by
  unfold cutV
  rw [HT.sIx_none, HT.sIx_nat, List.length_map, List.drop_zero, Nat.sub_zero, ← List.map_take]
  congr 1
  rw [List.take_eq_take_iff]
  omega
theorem cut_drop {α : Type} (g : α → V) (xs : List α) (k : Nat) : cutV (xs.map g) (some (k : Int)) none = (xs.drop k).map g := by
  unfold cutV
  rw [HT.sIx_none, HT.sIx_nat, List.length_map, ← List.map_drop, ← List.map_take]
  congr 1
  by_cases h : k ≤ xs.length
  · rw [Nat.min_eq_left h, List.take_of_length_le (by rw [List.length_drop]; omega)]
  · rw [Nat.min_eq_right (by omega), List.drop_eq_nil_of_le (Nat.le_refl _), List.drop_eq_nil_of_le (by omega), List.take_nil]
/-! ### == of data -/
theorem dpAll_ints {K : Frag} {H : Hp} : ∀ ns : List Int, DpAll K H (ns.map V.int) (ns.map PyData.int)
  | [] => .nil
  | n :: r => .cons (.int n) (dpAll_ints r)
theorem lay_ints : ∀ ns : List Int, PyData.canLayAll0 (ns.map PyData.int) = true
  | [] => by simp [PyData.canLayAll0]
  | n :: r => by
    simp only [List.map_cons, PyData.canLayAll0, lay_ints r, PyData.canLay0, Bool.and_self]
theorem shaped_tup_ints (ns : List Int) : SeqAt.shaped (.tuple (ns.map PyData.int)) = true := by
  have h := depth_ints ns
  have h2 : PyData.depth (.tuple (ns.map PyData.int)) ≤ 64 := by
    rw [PyData.depth]
    omega
  unfold SeqAt.shaped
  rw [Bool.and_eq_true]
  exact ⟨by rw [PyData.canLay0]; exact lay_ints ns, decide_eq_true h2⟩
theorem shaped_lst_ints (ns : List Int) : SeqAt.shaped (.list (ns.map PyData.int)) = true := by
  have h := depth_ints ns
  have h2 : PyData.depth (.list (ns.map PyData.int)) ≤ 64 := by
    rw [PyData.depth]
    omega
  unfold SeqAt.shaped
  rw [Bool.and_eq_true]
  exact ⟨by rw [PyData.canLay0]; exact lay_ints ns, decide_eq_true h2⟩
theorem eqT_ints {K : Frag} {H : Hp} {Q : VK} {a b : Addr} {xs ys : List Int} (ha : SqT K H a (xs.map V.int)) (hb : SqT K H b (ys.map V.int)) (q : Q (.bl (decide (xs = ys))) H) : rEqD K (.ref a) (.ref b) H Q :=
  ⟨_, _, .tup ha (dpAll_ints xs), .tup hb (dpAll_ints ys), shaped_tup_ints xs, shaped_tup_ints ys, by
    have e : PyData.eqv (.tuple (xs.map PyData.int)) (.tuple (ys.map PyData.int)) = decide (xs = ys) := by
      rw [← PySem.W.ked_eqvAll]
      simp only [PyData.eqv]
    rw [e]
    exact q⟩
theorem eqL_ints {K : Frag} {H : Hp} {Q : VK} {a b : Addr} {xs ys : List Int} (ha : SqL K H a (xs.map V.int)) (hb : SqL K H b (ys.map V.int)) (q : Q (.bl (decide (xs = ys))) H) : rEqD K (.ref a) (.ref b) H Q :=
  ⟨_, _, .lst ha (dpAll_ints xs), .lst hb (dpAll_ints ys), shaped_lst_ints xs, shaped_lst_ints ys, by
    have e : PyData.eqv (.list (xs.map PyData.int)) (.list (ys.map PyData.int)) = decide (xs = ys) := by
      rw [← PySem.W.ked_eqvAll]
      simp only [PyData.eqv]
    rw [e]
    exact q⟩
theorem neL_ints {K : Frag} {H : Hp} {Q : VK} {a b : Addr} {xs ys : List Int} (ha : SqL K H a (xs.map V.int)) (hb : SqL K H b (ys.map V.int)) (q : Q (.bl (!decide (xs = ys))) H) : rNeD K (.ref a) (.ref b) H Q :=
  ⟨_, _, .lst ha (dpAll_ints xs), .lst hb (dpAll_ints ys), shaped_lst_ints xs, shaped_lst_ints ys, by
    have e : PyData.eqv (.list (xs.map PyData.int)) (.list (ys.map PyData.int)) = decide (xs = ys) := by
      rw [← PySem.W.ked_eqvAll]
      simp only [PyData.eqv]
    rw [e]
    exact q⟩
theorem neT_ints {K : Frag} {H : Hp} {Q : VK} {a b : Addr} {xs ys : List Int} (ha : SqT K H a (xs.map V.int)) (hb : SqT K H b (ys.map V.int)) (q : Q (.bl (!decide (xs = ys))) H) : rNeD K (.ref a) (.ref b) H Q :=
  ⟨_, _, .tup ha (dpAll_ints xs), .tup hb (dpAll_ints ys), shaped_tup_ints xs, shaped_tup_ints ys, by
    have e : PyData.eqv (.tuple (xs.map PyData.int)) (.tuple (ys.map PyData.int)) = decide (xs = ys) := by
      rw [← PySem.W.ked_eqvAll]
      simp only [PyData.eqv]
    rw [e]
    exact q⟩
/-! ### a range object with a step, held by a name -/
section
open PyProof.Rows
variable {X : Cx}
def rngHO (p : Addr) (i j c : Int) : HO := .ext fun h => ∃ t u v, h.get? p = some { cls := .type "range", data := .fields #[.int i t, .int j u, .int c v] }
def rRng3 : List V → Hp → VK → Prop := fun vs H Q => ∃ i j c : Int, vs = [.int i, .int j, .int c] ∧ c ≠ 0 ∧ c.natAbs < 1073741824 ∧ ∀ p, H p = none → Q (.ref p) (upd H p (rngHO p i j c))
theorem cr_range3 : CallR X (.type "range") rRng3 := by
  intro pins s σ H vs us Q I r h
  obtain ⟨i, j, c, rfl, c0, c1, q⟩ := h
  cases r with
  | cons r rr =>
    cases rr with
    | cons r' rr =>
      cases rr with
      | cons r'' rr =>
        cases rr
        obtain ⟨t, rfl⟩ := r
        obtain ⟨t', rfl⟩ := r'
        obtain ⟨t'', rfl⟩ := r''
        refine call_range_3 c0 ?_ (.inl (PyProof.noPylong_small c1))
        have hf : H s.heap.objs.size = none := I.hok.fresh (Nat.le_refl _)
        refine ⟨.ref s.heap.objs.size, upd H s.heap.objs.size (rngHO s.heap.objs.size i j c), I.laid (t' := s.toks) (fun b u e => Heap.get?_push_of_some _ e) (Nat.le_refl _) ?_, rfl, q _ hf⟩
        exact ⟨⟨_, _, _, Heap.get?_push_size _ rfl⟩, ⟨_, Heap.get?_push_size _ rfl⟩, fun h1 h2 ⟨a, b, d, e⟩ k => ⟨a, b, d, k _ e⟩⟩
def iRngV (tl : TE) : TI := fun σ H R => tl σ H fun x H1 => ∃ (p : Addr) (i j c : Int) (n : Nat), x = .ref p ∧ H1 p = some (rngHO p i j c) ∧ RgC i j c n ∧ R (Itc i c n) H1
theorem pi_rngV {tg l : Expr} {tl : TE} (hl : PE X l tl) : PI X tg l (iRngV tl) := by
  refine ⟨fun pins s σ H R I h => ?_⟩
  refine thn (hl.run pins s σ H _ I h) fun v s1 ⟨x, H1, I1, r1, q1⟩ => ?_
  obtain ⟨p, i, j, k, n, e, ep, ⟨c0, c1, c2, c3⟩, q⟩ := q1
  subst e
  cases r1
  obtain ⟨⟨t, u, w1, hp⟩, _, _⟩ := I1.hok p _ ep
  refine wpAny_pyIter_range (show IsRange s1.heap p i j k t u w1 from hp) c2 ?_
  refine pi_one (tk := s1.toks) I1 _ (turn_rangeC _ i k n) ?_ q
  have e1 : i + ((0 : Nat) : Int) * k = i := by simp
  have e2 : (n : Int) - ((0 : Nat) : Int) = Builtin.Range.rangeSize i j k := by rw [c3]; simp
  show IsRangeIter _ _ (i + ((0 : Nat) : Int) * k) ((n : Int) - ((0 : Nat) : Int)) k
  rw [e1, e2]
  exact Heap.get?_push_size _ rfl
end
theorem lc_rangeC {lo c : Int} {n : Nat} {g : TG} {tt : TT} {te : TE} {vs : List Nat} {σ : St} {H1 : Hp} {D : Addr} {Qd : Hp → Prop} (Pv : Nat → Hp → Prop) (h0 : Pv 0 (upd H1 D (.lst [])))
    (hs : ∀ (i : Nat) H, i < n → Pv i H → g (.int (lo + (i : Int) * c)) (wipe σ vs) H fun σ2 H2 => wipe σ2 vs = wipe σ vs ∧ tt σ2 H2 fun b H3 =>
      if b = true then te σ2 H3 fun y H4 => ∃ acc, H4 D = some (.lst acc) ∧ acc.length < sizeLine ∧ Pv (i + 1) (upd H4 D (.lst (acc ++ [y]))) else Pv (i + 1) H3) (hd : ∀ H, Pv n H → Qd H) :
    ∃ W : Nat → Nat → Hp → Prop, (∃ m, W 0 m (upd H1 D (.lst []))) ∧ ∀ i m H, W i m H →
      ((Itc lo c n).stop i H ∧ Qd H) ∨ ((Itc lo c n).go i H ∧ ∃ Nx : Hp → Prop, (∀ H', Nx H' → ∃ m', m' < m ∧ W (i + 1) m' H') ∧ ∀ x H', (Itc lo c n).yld i H x H' → g x (wipe σ vs) H' fun σ2 H2 => wipe σ2 vs = wipe σ vs ∧ tt σ2 H2 fun b H3 =>
        if b = true then te σ2 H3 fun y H4 => ∃ acc, H4 D = some (.lst acc) ∧ acc.length < sizeLine ∧ Nx (upd H4 D (.lst (acc ++ [y]))) else Nx H3) := by
  refine ⟨fun i m H => m = n - i ∧ i ≤ n ∧ Pv i H, ⟨n, by simp, Nat.zero_le _, h0⟩, ?_⟩
  rintro i m H ⟨rfl, hi, p⟩
  by_cases hlt : i < n
  · refine .inr ⟨hlt, Pv (i + 1), fun H' p' => ⟨n - (i + 1), by omega, rfl, hlt, p'⟩, fun x H' y => ?_⟩
    obtain ⟨e, y⟩ := y
    subst e y
    exact hs i _ hlt p
  · have e : i = n := by omega
    subst e
    exact .inl ⟨Nat.le_refl _, hd H p⟩
/-- a range up by twos -/
theorem rgC_two {i : Int} {n : Nat} (h0 : 0 ≤ i) (h1 : i < 2 ^ 40) (h2 : n < 1000000) : RgC i (i + 2 * (n : Int)) 2 n := by
  have hz : Builtin.Range.rangeSize i (i + 2 * (n : Int)) 2 = (n : Int) := by
    unfold Builtin.Range.rangeSize
    simp only [show (2 : Int) > 0 by decide, if_true]
    split <;> omega
  refine ⟨by decide, by decide, ?_, hz⟩
  unfold Builtin.Range.small Builtin.Range.rangeFitsLong
  rw [hz, if_pos (show (2 : Int) > 0 by decide)]
  simp only [Bool.and_eq_true, Bool.or_eq_true, decide_eq_true_eq]
  refine ⟨⟨⟨⟨?_, ?_⟩, ?_⟩, ?_⟩, .inr ?_⟩ <;> omega
end Nv

namespace Nv
open PySem L2
/-- the drawing state: made at st since H0; the script at sc -/
structure Dr (K : Frag) (H0 H : Hp) (st sc : Addr) (ns : List Int) : Prop where
  sq : SqL K H0 sc (ns.map V.int)
  same : Same H0 H
  new : H0 st = none
  ex : ∃ i d : Int, 0 ≤ i ∧ 0 ≤ d ∧ H st = some (.lst [.int i, .int d])
theorem Dr.kp {K : Frag} {H0 H H' : Hp} {st sc : Addr} {ns : List Int} (d : Dr K H0 H st sc ns) (h : Same H H') : Dr K H0 H' st sc ns := by
  obtain ⟨i, j, hi, hj, e⟩ := d.ex
  exact ⟨d.sq, d.same.trans h, d.new, i, j, hi, hj, h _ _ e⟩
theorem Dr.put {K : Frag} {H0 H : Hp} {st sc : Addr} {ns : List Int} {i j : Int} (d : Dr K H0 H st sc ns) (hi : 0 ≤ i) (hj : 0 ≤ j) : Dr K H0 (upd H st (.lst [.int i, .int j])) st sc ns :=
  ⟨d.sq, fun b o e => by rw [upd_ne (ne_of_none e d.new)]; exact d.same b o e, d.new, i, j, hi, hj, upd_same⟩
theorem Dr.seq {K : Frag} {H0 H : Hp} {st sc : Addr} {ns : List Int} (d : Dr K H0 H st sc ns) : SqL K H sc (ns.map V.int) := d.same.seq d.sq
/-- the law's helper that draws: a number below n; the state alone changes -/
def spDraw (K : Frag) : Sp := fun vs H Q _ => ∃ (st sc : Addr) (n : Int) (H0 : Hp) (ns : List Int), vs = [.ref st, .ref sc, .int n] ∧ 0 < n ∧ n.natAbs < 2 ^ 64 ∧ Dr K H0 H st sc ns ∧
  ∀ (r : Int) (H' : Hp), 0 ≤ r → r < n → But st H H' → Dr K H0 H' st sc ns → Q (.int r) H'
end Nv

namespace K02
open PySem L2 Nv
def top (i : Nat) : Stmt := PySem.Challenge.pw_nearvault_k02_numbers_and_points_as_byte.main.body.getD i (.Pass ⟨0, 0, 0, 0⟩)
abbrev s_write_number : Stmt := top 3
abbrev s_read_number : Stmt := top 4
abbrev s_write_point : Stmt := top 5
abbrev s_read_point : Stmt := top 6
abbrev s_law_is_integer : Stmt := top 8
abbrev s_law_draw : Stmt := top 9
abbrev s_law : Stmt := top 10
theorem sc_write_number : FnScope ["width", "number", "k"] ["width", "number"] (defScope s_write_number) := ⟨rfl, rfl, rfl, by decide +kernel, rfl, by decide +kernel, by decide +kernel⟩
theorem sc_read_number : FnScope ["data", "place", "width", "number", "k"] ["data", "place", "width"] (defScope s_read_number) := ⟨rfl, rfl, rfl, by decide +kernel, rfl, by decide +kernel, by decide +kernel⟩
theorem sc_write_point : FnScope ["point", "data", "coordinate"] ["point"] (defScope s_write_point) := ⟨rfl, rfl, rfl, by decide +kernel, rfl, by decide +kernel, by decide +kernel⟩
theorem sc_read_point : FnScope ["data", "place", "dimensions", "places", "at"] ["data", "place", "dimensions"] (defScope s_read_point) := ⟨rfl, rfl, rfl, by decide +kernel, rfl, by decide +kernel, by decide +kernel⟩
theorem sc_law_is_integer : FnScope ["actual"] ["actual"] (defScope s_law_is_integer) := ⟨rfl, rfl, rfl, by decide +kernel, rfl, by decide +kernel, by decide +kernel⟩
theorem sc_law_draw : FnScope ["state", "script", "size", "cell", "mixed", "digit"] ["state", "script", "size"] (defScope s_law_draw) := ⟨rfl, rfl, rfl, by decide +kernel, rfl, by decide +kernel, by decide +kernel⟩
theorem sc_law : FnScope ["script", "state", "before", "behind", "width", "number", "due", "rest", "k", "data", "kept", "found", "point", "low", "high", "back", "one"] ["script"] (defScope s_law) := ⟨rfl, rfl, rfl, by decide +kernel, rfl, by decide +kernel, by decide +kernel⟩
structure Txt (K : PySem.W.Frag) (mg : Str → Option Value) where
  f_write_number : Addr
  fd_write_number : FuncData
  F_write_number : Fun K "write_number" "write_number" s_write_number f_write_number fd_write_number
  b_write_number : Binds K fd_write_number ["width", "number"] []
  g_write_number : mg "write_number" = some (.ref f_write_number)
  f_read_number : Addr
  fd_read_number : FuncData
  F_read_number : Fun K "read_number" "read_number" s_read_number f_read_number fd_read_number
  b_read_number : Binds K fd_read_number ["data", "place", "width"] []
  g_read_number : mg "read_number" = some (.ref f_read_number)
  f_write_point : Addr
  fd_write_point : FuncData
  F_write_point : Fun K "write_point" "write_point" s_write_point f_write_point fd_write_point
  b_write_point : Binds K fd_write_point ["point"] []
  g_write_point : mg "write_point" = some (.ref f_write_point)
  f_read_point : Addr
  fd_read_point : FuncData
  F_read_point : Fun K "read_point" "read_point" s_read_point f_read_point fd_read_point
  b_read_point : Binds K fd_read_point ["data", "place", "dimensions"] []
  g_read_point : mg "read_point" = some (.ref f_read_point)
  f_law_is_integer : Addr
  fd_law_is_integer : FuncData
  F_law_is_integer : Fun K "_law_is_integer" "_law_is_integer" s_law_is_integer f_law_is_integer fd_law_is_integer
  b_law_is_integer : Binds K fd_law_is_integer ["actual"] []
  g_law_is_integer : mg "_law_is_integer" = some (.ref f_law_is_integer)
  f_law_draw : Addr
  fd_law_draw : FuncData
  F_law_draw : Fun K "_law_draw" "_law_draw" s_law_draw f_law_draw fd_law_draw
  b_law_draw : Binds K fd_law_draw ["state", "script", "size"] []
  g_law_draw : mg "_law_draw" = some (.ref f_law_draw)
  f_law : Addr
  fd_law : FuncData
  F_law : Fun K "law" "law" s_law f_law fd_law
  b_law : Binds K fd_law ["script"] []
  g_law : mg "law" = some (.ref f_law)
  z_range : mg "range" = none
  z_tuple : mg "tuple" = none
  z_list : mg "list" = none
  z_isinstance : mg "isinstance" = none
  z_int : mg "int" = none
  z_len : mg "len" = none
  z_all : mg "all" = none
  z_reversed : mg "reversed" = none
  z_bool : mg "bool" = none
  t_COORDINATE_WIDTH : Tok
  g_COORDINATE_WIDTH : mg "COORDINATE_WIDTH" = some (.int 2 t_COORDINATE_WIDTH)
  t_COORDINATE_SHIFT : Tok
  g_COORDINATE_SHIFT : mg "COORDINATE_SHIFT" = some (.int 32768 t_COORDINATE_SHIFT)

end K02


namespace K02
open PySem L2 Nv RZ
local macro_rules | `(tactic| walk_at "hp") => `(tactic| first
  | assumption
  | exact upd_same
  | exact (upd_ne (by assumption)).trans (by first | assumption | exact upd_same | exact (upd_ne (by assumption)).trans (by first | assumption | exact upd_same))
  | exact (upd_ne (Ne.symm (by assumption))).trans (by first | assumption | exact upd_same))
local macro_rules | `(tactic| walk_at "cond") => `(tactic| first
  | (change (0 : Int) < _; first | decide | omega)
  | exact Or.inr ⟨by decide, by decide⟩
  | exact Or.inl ⟨by decide, by decide⟩
  | exact Or.inr ⟨by omega, by omega⟩
  | exact Or.inl ⟨by omega, by omega⟩
  | exact ⟨by decide, by decide, by decide⟩
  | exact wide_div (by first | decide | omega) (show _ < 2 ^ 64 by first | decide | omega) (by decide) (by decide)
  | (change (0 : Int) ≤ _; first | decide | omega)
  | exact ⟨by decide, by decide⟩
  | exact ⟨by omega, by omega⟩)
local macro_rules | `(tactic| walk_at "val") => `(tactic| first
  | (with_reducible exact val_c)
  | ((with_reducible apply val_var); exact rfl)
  | ((with_reducible apply val_I0); walk_at "val"; walk_at "val")
  | ((with_reducible apply val_I); walk_at "val"; walk_at "val"; walk_at "cond")
  | ((with_reducible apply val_ixL); walk_at "val"; walk_at "val"; (first | exact SqL.of (by walk_at "hp") | assumption); exact rfl)
  | ((with_reducible apply val_len); walk_at "val"; first | exact Or.inl (SqL.of (by walk_at "hp")) | exact Or.inl (by assumption) | exact Or.inr (by assumption) | exact Or.inr (SqT.of (by walk_at "hp")))
  | ((with_reducible apply val_int1); walk_at "val")
  | ((with_reducible apply val_abs); walk_at "val")
  | ((with_reducible apply val_max2); walk_at "val"; walk_at "val")
  | ((with_reducible apply val_eq); walk_at "val"; walk_at "val"; exact rfl)
  | ((with_reducible apply val_ne); walk_at "val"; walk_at "val"; exact rfl)
  | ((with_reducible apply val_not); walk_at "val")
  | ((with_reducible apply val_U); walk_at "val"))
local macro_rules | `(tactic| walk_at "ans") => `(tactic| first
  | ((with_reducible apply ans_Eq); walk_at "val"; walk_at "val"; exact rfl)
  | ((with_reducible apply ans_Ne); walk_at "val"; walk_at "val"; exact rfl)
  | ((with_reducible apply ans_I0); walk_at "val"; walk_at "val"; exact rfl)
  | ((with_reducible refine ans_And ?_ (fun _ => ?_)); walk_at "ans"; walk_at "ans")
  | ((with_reducible refine ans_or2 ?_ (fun _ => ?_)); walk_at "ans"; walk_at "ans")
  | ((with_reducible refine ans_not ?_); walk_at "ans")
  | ((with_reducible apply ans_val); walk_at "val"))
local macro_rules | `(tactic| walk_at "nrm") => `(tactic| (try dsimp only [List.set_cons_zero, List.set_cons_succ]))
local macro_rules | `(tactic| walk_at "set") => `(tactic| first
  | ((with_reducible apply q_set); walk_at "val"; walk_at "nrm")
  | ((with_reducible apply s_set); walk_at "val"; walk_at "nrm"))
local macro_rules | `(tactic| walk_at "setL") => `(tactic| first
  | ((with_reducible apply q_setL); walk_at "val"; walk_at "val"; walk_at "val"; walk_at "hp"; exact rfl; walk_at "nrm")
  | ((with_reducible apply s_setL); walk_at "val"; walk_at "val"; walk_at "val"; walk_at "hp"; exact rfl; walk_at "nrm"))
local macro_rules | `(tactic| walk_at "ff") => `(tactic| (walk_at "nrm"; rw [if_neg (by decide)]; (try ((with_reducible refine st_next ?_); walk_at "nrm"))))
local macro_rules | `(tactic| walk_at "nok") => `(tactic| (refine ⟨_, rfl, rfl, _, rfl, ?_⟩; walk_at "nrm"; rw [if_neg (by decide)]))
local macro_rules | `(tactic| walk_at "yesk") => `(tactic| (refine ⟨_, rfl, rfl, _, rfl, ?_⟩; walk_at "nrm"; rw [if_pos (by decide)]))
local macro_rules | `(tactic| walk_at "no") => `(tactic| (walk_at "nrm"; rw [if_neg (by decide)]; walk_at "nrm"))
local macro_rules | `(tactic| walk_at "yes") => `(tactic| (walk_at "nrm"; rw [if_pos (by decide)]; walk_at "nrm"))
local macro_rules | `(tactic| walk_at "nos") => `(tactic| (walk_at "nrm"; repeat (rw [if_neg (by decide)]; walk_at "nrm"); (try ((with_reducible refine st_next ?_); walk_at "nrm"))))

/-! ### the mathematics -/
/-- the bytes of a number, the greatest first -/
def nb : Nat → Int → List Int
  | 0, _ => []
  | w + 1, n => nb w (n / 256) ++ [n % 256]
theorem nb_len : ∀ (w : Nat) (n : Int), (nb w n).length = w
  | 0, _ => rfl
  | w + 1, n => by
    show (nb w (n / 256) ++ [n % 256]).length = w + 1
    rw [List.length_append, nb_len w]
    rfl
def wn (w : Nat) (n : Int) (i : Nat) : List Int := (List.range i).map fun t => (n / 2 ^ (8 * (w - 1 - t))) % 256
theorem div_pow (n : Int) (k : Nat) : n / 256 / 2 ^ (8 * k) = n / 2 ^ (8 * (k + 1)) := by
  rw [Int.ediv_ediv_of_nonneg (by decide)]
  congr 1
  rw [show 8 * (k + 1) = 8 + 8 * k from by omega, Int.pow_add]
  rfl
theorem wn_all : ∀ (w : Nat) (n : Int), wn w n w = nb w n
  | 0, _ => rfl
  | w + 1, n => by
    show wn (w + 1) n (w + 1) = nb w (n / 256) ++ [n % 256]
    rw [← wn_all w (n / 256)]
    unfold wn
    rw [List.range_succ, List.map_append]
    congr 1
    · refine List.map_congr_left fun t ht => ?_
      have hlt := List.mem_range.mp ht
      rw [div_pow, show w - 1 - t + 1 = w + 1 - 1 - t from by omega]
    · simp
theorem wn_succ (w : Nat) (n : Int) (i : Nat) : wn w n (i + 1) = wn w n i ++ [(n / 2 ^ (8 * (w - 1 - i))) % 256] := by
  unfold wn
  rw [List.range_succ, List.map_append]
  rfl
theorem nb_front : ∀ (w : Nat) (n : Int), nb (w + 1) n = (n / 256 ^ w % 256) :: nb w n
  | 0, n => by
    show [n % 256] = [n / 256 ^ 0 % 256]
    simp
  | w + 1, n => by
    show nb (w + 1) (n / 256) ++ [n % 256] = _
    rw [nb_front w (n / 256)]
    show (n / 256 / 256 ^ w % 256) :: (nb w (n / 256) ++ [n % 256]) = (n / 256 ^ (w + 1) % 256) :: (nb w (n / 256) ++ [n % 256])
    rw [Int.ediv_ediv_of_nonneg (by decide), show (256 : Int) * 256 ^ w = 256 ^ (w + 1) from by rw [Int.pow_succ, Int.mul_comm]]
/-- the number of bytes -/
def nv (l : List Int) : Int := l.foldl (fun a b => a * 256 + b) 0
theorem nv_snoc (l : List Int) (x : Int) : nv (l ++ [x]) = nv l * 256 + x := by
  unfold nv
  rw [List.foldl_append]
  rfl
theorem nv_nb : ∀ (w : Nat) (n : Int), 0 ≤ n → n < 256 ^ w → nv (nb w n) = n
  | 0, n, h0, h1 => by
    have h1 : n < 1 := h1
    show (0 : Int) = n
    omega
  | w + 1, n, h0, h1 => by
    show nv (nb w (n / 256) ++ [n % 256]) = n
    rw [Int.pow_succ] at h1
    rw [nv_snoc, nv_nb w (n / 256) (by omega) (by generalize (256 : Int) ^ w = q at h1 ⊢; omega)]
    omega
section
variable {P : Program} {w : World} {K : PySem.W.Frag} {mg : Str → Option Value} {base : Heap}
theorem ok_law_draw (T : Txt K mg) : FnOk P w K mg base CX0 1 T.f_law_draw T.fd_law_draw ["state", "script", "size"] (spDraw K) := by
  refine T.F_law_draw.ok sc_law_draw (fun vs H Q E h => ?_) (fun cdv A outer s H vs Q E hr h => ?_)
  · obtain ⟨_, _, _, _, _, rfl, _⟩ := h
    rfl
  obtain ⟨st, sc, n, H0, ns, rfl, hn, hn2, D, q⟩ := h
  refine ⟨_, (Evl.pss_cut (ps_if (pt_cmpR op_eq (pe_ix ix_list (pv 0) pe_int (fun _ _ => rfl)) pe_int (nomark _))
        (pss_cons (ps_set (i := 3) sc_law_draw.nd rfl (by first | exact Or.inl rfl | exact Or.inr rfl) pe_int)
        (Evl.pss_cut (ps_if (pt_cmpR op_gt (pe_callB call_len_seq (by rfl) T.z_len (by decide +kernel) (pa_cons (pv 1) pa_nil)) pe_int (nomark _))
          (pss_one (ps_set (i := 3) sc_law_draw.nd rfl (by first | exact Or.inl rfl | exact Or.inr rfl) (pe_ix ix_list (pv 1) (pe_op op_mod (pe_ix ix_list (pv 0) pe_int (fun _ _ => rfl)) (pe_callB call_len_seq (by rfl) T.z_len (by decide +kernel) (pa_cons (pv 1) pa_nil))) (fun _ _ => rfl))))
          pss_nil)
        (Evl.pss_cut (ps_if (pt_cmpR op_lt (pv 3) pe_int (nomark _))
          (pss_one (ps_set (i := 3) sc_law_draw.nd rfl (by first | exact Or.inl rfl | exact Or.inr rfl) (pe_op op_sub pe_int (pe_op op_mul pe_int (pv 3)))))
          pss_nil)
        (pss_cons (ps_set (i := 4) sc_law_draw.nd rfl (by first | exact Or.inl rfl | exact Or.inr rfl) (pe_op op_mod (pe_callTy call_int1 (by rfl) T.z_int (by decide +kernel) (pa_cons (pe_op op_mul (pe_op op_add (pe_op op_add (pv 3) (pe_op op_mul (pe_ix ix_list (pv 0) pe_int (fun _ _ => rfl)) pe_int)) pe_int) pe_int) pa_nil)) pe_int))
        (pss_cons (ps_asg (pe_op op_mod (pe_callTy call_int1 (by rfl) T.z_int (by decide +kernel) (pa_cons (pe_op op_add (pe_op op_mul (pv 4) pe_int) (pe_op op_mul (pe_ix ix_list (pv 0) pe_int (fun _ _ => rfl)) pe_int)) pa_nil)) pe_int) (pg_sub (pv 0) pe_int set_list))
        (Evl.pss_cut (ps_if (PW.pt (pw_and (pt_cmpR op_ge (pv 3) (pe_op op_pow pe_int pe_int) (nomark _)) (pw_and1 (pt_cmpR op_lt (pe_ix ix_list (pv 0) pe_int (fun _ _ => rfl)) (pe_callB call_len_seq (by rfl) T.z_len (by decide +kernel) (pa_cons (pv 1) pa_nil)) (nomark _)))))
          (pss_one (ps_asg (pv 3) (pg_sub (pv 0) pe_int set_list)))
          pss_nil)
        (pss_one (ps_asg (pe_op op_add (pe_ix ix_list (pv 0) pe_int (fun _ _ => rfl)) pe_int) (pg_sub (pv 0) pe_int set_list)))))))))
        pss_nil)
      (pss_cons (ps_set (i := 5) sc_law_draw.nd rfl (by first | exact Or.inl rfl | exact Or.inr rfl) (pe_op op_mod (pe_callTy call_int1 (by rfl) T.z_int (by decide +kernel) (pa_cons (pe_ix ix_list (pv 0) pe_int (fun _ _ => rfl)) pa_nil)) (pv 2)))
      (pss_cons (ps_asg (pe_op op_fdivW (pe_ix ix_list (pv 0) pe_int (fun _ _ => rfl)) (pv 2)) (pg_sub (pv 0) pe_int set_list))
      (pss_one (ps_ret (pv 5)))))), ?_⟩
  (try dsimp only [cxOf])
  rw [show start ["state", "script", "size", "cell", "mixed", "digit"] [.ref st, .ref sc, .int n] = [some (.ref st), some (.ref sc), some (.int n), none, none, none] from rfl]
  obtain ⟨i, d, hi, hd, e⟩ := D.ex
  have hS := D.seq
  refine q_cut (fun σ' H' => ∃ (i d : Int) (c3 c4 : Option V), σ' = [some (.ref st), some (.ref sc), some (.int n), c3, c4, none] ∧ 0 ≤ i ∧ 0 ≤ d ∧ But st H H' ∧ Dr K H0 H' st sc ns ∧ H' st = some (.lst [.int i, .int d])) ?_ ?_
  · refine s_when (b := decide (V.int d = V.int 0)) (by walk_at "ans") (fun hb => ?_) (fun hb => ⟨i, d, none, none, rfl, hi, hd, But.refl _ _, D, e⟩)
    refine q_set (v := .int 0) (by walk_at "val") ?_
    walk_at "nrm"
    refine q_cut (fun σ' H' => H' = H ∧ ∃ c : Int, σ' = [some (.ref st), some (.ref sc), some (.int n), some (.int c), none, none]) ?_ ?_
    · refine s_when (b := decide ((0 : Int) < ((ns.map V.int).length : Nat))) (by walk_at "ans") (fun hb => ?_) (fun hb => ⟨rfl, 0, rfl⟩)
      have h0 : 0 < ns.length := by
        have h1 := of_decide_eq_true hb
        rw [List.length_map] at h1
        omega
      obtain ⟨c, hc⟩ := at_mod i h0
      refine s_set (v := .int c) ?_ ⟨rfl, _, rfl⟩
      refine val_ixL (xs := ns.map V.int) (i := i % (((ns.map V.int).length : Nat) : Int)) (val_var rfl) ?_ hS hc
      refine val_I (val_ixL (val_var rfl) val_c (SqL.of e) rfl) (val_len (val_var rfl) (.inl hS)) ?_
      show (0 : Int) < _
      rw [List.length_map]
      omega
    rintro σ' H' ⟨rfl, c, rfl⟩
    refine q_cut (fun σ' H'' => H'' = H' ∧ ∃ c : Int, 0 ≤ c ∧ σ' = [some (.ref st), some (.ref sc), some (.int n), some (.int c), none, none]) ?_ ?_
    · refine s_when (b := decide (c < 0)) (by walk_at "ans") (fun hb => ?_) (fun hb => ⟨rfl, c, by have := of_decide_eq_false hb; omega, rfl⟩)
      have hc := of_decide_eq_true hb
      refine s_set (v := .int (1 - 2 * c)) (by walk_at "val") ⟨rfl, _, by omega, rfl⟩
    rintro σ' H'' ⟨rfl, c, hc, rfl⟩
    walk_at "set"
    walk_at "setL"
    generalize hm : (_ : Int) % 4294967291 = m5
    have hm5 : 0 ≤ m5 := by rw [← hm]; exact Int.emod_nonneg _ (by decide)
    refine q_cut (fun σ' H' => ∃ d' : Int, 0 ≤ d' ∧ But st H'' H' ∧ H' st = some (.lst [.int i, .int d']) ∧ ∃ c4, σ' = [some (.ref st), some (.ref sc), some (.int n), some (.int c), c4, none]) ?_ ?_
    · have e2 : (upd H'' st (.lst [V.int i, V.int m5])) st = some (.lst [.int i, .int m5]) := upd_same
      have hS2 : SqL K (upd H'' st (.lst [V.int i, V.int m5])) sc (ns.map V.int) := (D.put hi hm5).seq
      refine s_when (b := decide ((10 : Int) ^ (18 : Int).toNat ≤ c) && decide (i < ((ns.map V.int).length : Nat))) (by walk_at "ans") (fun hb => ?_) (fun hb => ⟨m5, hm5, But.upd, upd_same, _, rfl⟩)
      walk_at "setL"
      exact ⟨c, hc, But.upd.trans But.upd, upd_same, _, rfl⟩
    rintro σ' H' ⟨d', hd', hB, e', c4, rfl⟩
    walk_at "setL"
    exact ⟨i + 1, d', _, _, rfl, by omega, hd', hB.trans But.upd, ⟨D.sq, fun b o h => by rw [upd_ne (ne_of_none h D.new), hB b (ne_of_none h D.new)]; exact D.same b o h, D.new, i + 1, d', by omega, hd', upd_same⟩, upd_same⟩
  · rintro σ' H' ⟨i, d, c3, c4, rfl, hi, hd, hB, D, e⟩
    refine q_set (by walk_at "val") ?_
    walk_at "nrm"
    refine q_setL (by walk_at "val") (by walk_at "val") (by walk_at "val") e (k := 1) rfl ?_
    refine s_ret (val_var rfl) ?_
    refine q _ _ (Int.emod_nonneg _ (by omega)) (Int.emod_lt_of_pos _ hn) (hB.trans But.upd) ?_
    exact D.put hi (Int.ediv_nonneg hd (by omega))

/-- an int is one -/
def spIsInt : Sp := fun vs H Q _ => ∃ i : Int, vs = [.int i] ∧ Q (.bl true) H
theorem ok_law_is_integer (T : Txt K mg) : FnOk P w K mg base CX0 1 T.f_law_is_integer T.fd_law_is_integer ["actual"] spIsInt := by
  refine T.F_law_is_integer.ok sc_law_is_integer (fun vs H Q E h => ?_) (fun cdv A outer s H vs Q E hr h => ?_)
  · obtain ⟨_, rfl, _⟩ := h
    rfl
  obtain ⟨i, rfl, q⟩ := h
  refine ⟨_, (pss_one (ps_ret (pe_and (pe_callB call_isi (by rfl) T.z_isinstance (by decide +kernel) (pa_cons (pv 0) (pa_cons (pe_bltn (by rfl) T.z_int (by decide +kernel) (show RelV (.ty "int") _ from rfl)) pa_nil))) (pe_one (pe_not (pe_callB call_isi (by rfl) T.z_isinstance (by decide +kernel) (pa_cons (pv 0) (pa_cons (pe_bltn (by rfl) T.z_bool (by decide +kernel) (show RelV (.ty "bool") _ from rfl)) pa_nil)))))))), ?_⟩
  (try dsimp only [cxOf])
  rw [show start ["actual"] [.int i] = [some (.int i)] from rfl]
  refine ⟨_, rfl, ⟨_, _, _, _, true, rfl, .ty "int", .base (.int i), kit_ty (by decide +kernel), ?_⟩⟩
  refine ⟨true, rfl, ?_⟩
  rw [if_pos rfl]
  refine ⟨_, rfl, ⟨_, _, _, _, false, rfl, .ty "bool", .base (.int i), kit_ty (by decide +kernel), ?_⟩⟩
  exact ⟨false, rfl, q⟩

def spWN (K : Frag) : Sp := fun vs H Q _ => ∃ (wd : Nat) (n : Int), vs = [.int (wd : Int), .int n] ∧ wd ≤ 1000 ∧
  ∀ (p : Addr) (H' : Hp), Same H H' → H p = none → H' p = some (.lst ((nb wd n).map V.int)) → Q (.ref p) H'
theorem ok_write_number (T : Txt K mg) : FnOk P w K mg base CX0 1 T.f_write_number T.fd_write_number ["width", "number"] (spWN K) := by
  refine T.F_write_number.ok sc_write_number (fun vs H Q E h => ?_) (fun cdv A outer s H vs Q E hr h => ?_)
  · obtain ⟨_, _, rfl, _⟩ := h
    rfl
  obtain ⟨wd, n, rfl, hw, q⟩ := h
  refine ⟨_, (pss_one (ps_ret (pe_lc (own := [("k", 2)]) (g := gName 2) (by rfl) sc_write_number.nd (pi_revR (by rfl) T.z_reversed (prg_1 (by rfl) T.z_range (pv 0))) (blkOk_by (own := [("k", 2)]) (N := ["width", "number", "k"]) (sc := defScope s_write_number) (by decide +kernel)) (fun _ _ _ _ _ => pg_name (i := 2) sc_write_number.nd rfl (by first | exact Or.inl rfl | exact Or.inr rfl)) (fun _ _ _ _ _ => pts_nil) (fun _ _ _ _ _ => pe_op op_and (pe_op op_shr (pv 1) (pe_op op_mul pe_int (pv 2))) pe_int)))), ?_⟩
  (try dsimp only [cxOf])
  rw [show start ["width", "number", "k"] [.int (wd : Int), .int n] = [some (.int (wd : Int)), some (.int n), none] from rfl]
  refine ⟨_, rfl, (wd : Int), rfl, by omega, by omega, by omega, by omega, fun D hD => ?_⟩
  rw [show ((wd : Int) - 0).toNat = wd from by omega]
  refine lc_rangeC (lo := 0 + ((wd : Nat) : Int) - 1) (c := -1) (n := wd) (fun i H1 => Same H H1 ∧ H1 D = some (.lst ((wn wd n i).map V.int))) ⟨same_upd hD, upd_same⟩ ?_ ?_
  · rintro i H1 hi ⟨sm, e⟩
    rw [show (0 : Int) + ((wd : Nat) : Int) - 1 + (i : Int) * (-1) = ((wd - 1 - i : Nat) : Int) from by omega]
    refine ⟨rfl, g_yes ?_⟩
    have hv : Val (tOp (rI0 fun i j => V.int (Builtin.bitAnd i j)) (tOp (rI (fun x j => 0 ≤ j) fun i j => V.int (i / 2 ^ j.toNat)) (tVar 1) (tOp (rI CMul fun i j => V.int (i * j)) (tC (V.int 8)) (tVar 2))) (tC (V.int 255)))
        [some (V.int (wd : Int)), some (V.int n), some (.int ((wd - 1 - i : Nat) : Int))] H1 (.int ((n / 2 ^ (8 * (wd - 1 - i))) % 256)) := by
      have e1 : (n / 2 ^ (8 * (wd - 1 - i))) % 256 = Builtin.bitAnd (n / 2 ^ ((8 : Int) * ((wd - 1 - i : Nat) : Int)).toNat) 255 := by
        rw [PyProof.Rows.bitAnd_m8, show ((8 : Int) * ((wd - 1 - i : Nat) : Int)).toNat = 8 * (wd - 1 - i) from by omega]
      rw [e1]
      refine val_I0 (g := fun i j => V.int (Builtin.bitAnd i j)) (val_I (g := fun i j => V.int (i / 2 ^ j.toNat)) (val_var rfl) (val_I (g := fun i j => V.int (i * j)) val_c (val_var rfl) (.inl ⟨by decide, by decide⟩)) ?_) val_c
      show (0 : Int) ≤ 8 * ((wd - 1 - i : Nat) : Int)
      omega
    refine hv _ ?_
    refine ⟨_, e, by rw [List.length_map]; exact small1000 (by unfold wn; rw [List.length_map, List.length_range]; omega), fun b o hb => ?_, ?_⟩
    · rw [upd_ne (ne_of_none hb hD)]
      exact sm b o hb
    · rw [upd_same, wn_succ, List.map_append]
      rfl
  · rintro H1 ⟨sm, e⟩
    rw [wn_all] at e
    exact q D H1 sm hD e
def spRN (K : Frag) : Sp := fun vs H Q _ => ∃ (d : Addr) (xs : List Int) (pl wd : Nat), vs = [.ref d, .int (pl : Int), .int (wd : Int)] ∧ SqL K H d (xs.map V.int) ∧ pl + wd ≤ xs.length ∧ xs.length ≤ 100000 ∧ Q (.int (nv ((xs.drop pl).take wd))) H
theorem ok_read_number (T : Txt K mg) : FnOk P w K mg base CX0 1 T.f_read_number T.fd_read_number ["data", "place", "width"] (spRN K) := by
  refine T.F_read_number.ok sc_read_number (fun vs H Q E h => ?_) (fun cdv A outer s H vs Q E hr h => ?_)
  · obtain ⟨_, _, _, _, rfl, _⟩ := h
    rfl
  obtain ⟨d, xs, pl, wd, rfl, hd, hl, hx, q⟩ := h
  refine ⟨_, (pss_cons (ps_set (i := 3) sc_read_number.nd rfl (by first | exact Or.inl rfl | exact Or.inr rfl) pe_int)
      (pss_cons (ps_for PassesOwn.never rfl (pi_range2 (by rfl) T.z_range (pa_cons (pv 1) (pa_cons (pe_op op_add (pv 1) (pv 2)) pa_nil))) (pg_name (i := 4) sc_read_number.nd rfl (by first | exact Or.inl rfl | exact Or.inr rfl))
        (pss_one (ps_set (i := 3) sc_read_number.nd rfl (by first | exact Or.inl rfl | exact Or.inr rfl) (pe_op op_add (pe_op op_mul (pv 3) pe_int) (pe_ix ix_list (pv 0) (pv 4) (fun _ _ => rfl))))))
      (pss_one (ps_ret (pv 3))))), ?_⟩
  (try dsimp only [cxOf])
  rw [show start ["data", "place", "width", "number", "k"] [.ref d, .int (pl : Int), .int (wd : Int)] = [some (.ref d), some (.int (pl : Int)), some (.int (wd : Int)), none, none] from rfl]
  walk_at "set"
  refine ⟨_, rfl, _, rfl, _, rfl, (pl : Int), (wd : Int), rfl, rfl, (pl : Int), (pl : Int) + (wd : Int), rfl, ⟨by omega, by omega, by omega, by omega⟩, ?_⟩
  rw [show ((pl : Int) + (wd : Int) - (pl : Int)).toNat = wd from by omega]
  refine for_range (lo := (pl : Int)) (n := wd) (fun i σ' H' => H' = H ∧ ∃ c4 : Option V, σ' = [some (.ref d), some (.int (pl : Int)), some (.int (wd : Int)), some (.int (nv ((xs.drop pl).take i))), c4]) ⟨rfl, none, rfl⟩ ?_ ?_
  · rintro i σ' H' hi ⟨rfl, c4, rfl⟩
    have h1 : pl + i < xs.length := by omega
    rw [show (pl : Int) + (i : Int) = ((pl + i : Nat) : Int) from by omega]
    refine s_set (v := .int (nv ((xs.drop pl).take i) * 256 + xs[pl + i])) ?_ ⟨rfl, some (.int ((pl + i : Nat) : Int)), ?_⟩
    · exact val_I0 (g := fun i j => V.int (i + j)) (val_I (g := fun i j => V.int (i * j)) (val_var rfl) val_c (.inr ⟨by decide, by decide⟩)) (val_ixL (val_var rfl) (val_var rfl) hd (at_map (List.getElem?_eq_getElem h1)))
    · rw [← nv_snoc, show (xs.drop pl).take i ++ [xs[pl + i]] = (xs.drop pl).take (i + 1) from by
        rw [List.take_add_one, List.getElem?_drop, List.getElem?_eq_getElem h1]
        rfl]
      rfl
  · rintro σ' H' ⟨rfl, c4, rfl⟩
    exact s_ret (val_var rfl) q
/-- the bytes of a point; a point out of bytes -/
def pb (xs : List Int) : List Int := xs.flatMap fun c => nb 2 (c + 32768)
theorem pb_snoc (xs : List Int) (c : Int) : pb (xs ++ [c]) = pb xs ++ nb 2 (c + 32768) := by
  unfold pb
  rw [List.flatMap_append]
  simp
theorem pb_len : ∀ xs : List Int, (pb xs).length = 2 * xs.length
  | [] => rfl
  | c :: r => by
    have ih := pb_len r
    show (nb 2 (c + 32768) ++ pb r).length = 2 * (r.length + 1)
    rw [List.length_append, nb_len, ih]
    omega
def spWP (K : Frag) : Sp := fun vs H Q _ => ∃ (a : Addr) (xs : List Int), vs = [.ref a] ∧ SqT K H a (xs.map V.int) ∧ xs.length ≤ 100 ∧
  ∀ (p : Addr) (H' : Hp), Same H H' → H p = none → H' p = some (.lst ((pb xs).map V.int)) → Q (.ref p) H'
theorem ok_write_point (T : Txt K mg) : FnOk P w K mg base CX0 2 T.f_write_point T.fd_write_point ["point"] (spWP K) := by
  refine T.F_write_point.ok sc_write_point (fun vs H Q E h => ?_) (fun cdv A outer s H vs Q E hr h => ?_)
  · obtain ⟨_, _, rfl, _⟩ := h
    rfl
  obtain ⟨a, xs, rfl, ha, hx, q⟩ := h
  refine ⟨_, (pss_cons (ps_set (i := 1) sc_write_point.nd rfl (by first | exact Or.inl rfl | exact Or.inr rfl) (pe_lst pa_nil))
      (pss_cons (ps_for PassesOwn.never rfl (pi_tup (pv 0)) (pg_name (i := 2) sc_write_point.nd rfl (by first | exact Or.inl rfl | exact Or.inr rfl))
        (pss_one (ps_expr (pe_bm PySem.F.plainAttrs_list PySem.F.slot_list_extend PySem.F.type_list_extend mt_extend (pv 1) (pa_cons (pe_call (ok_write_number T) (hr.mono (by decide)) (by rfl) T.g_write_number T.F_write_number.kp T.b_write_number .nil pass0 (pa_cons (pe_glob (v := .int 2) (by rfl) T.g_COORDINATE_WIDTH ⟨_, rfl⟩) (pa_cons (pe_op op_add (pv 2) (pe_glob (v := .int 32768) (by rfl) T.g_COORDINATE_SHIFT ⟨_, rfl⟩)) pa_nil))) pa_nil)))))
      (pss_one (ps_ret (pv 1))))), ?_⟩
  (try dsimp only [cxOf])
  rw [show start ["point", "data", "coordinate"] [.ref a] = [some (.ref a), none, none] from rfl]
  refine q_setg ?_
  refine ⟨Nat.zero_le _, fun l hl => ?_⟩
  walk_at "nrm"
  have s1 : Same H (upd H l (.lst [])) := same_upd hl
  refine ⟨_, rfl, a, rfl, ⟨_, seqT s1 ha⟩, for_tup (K := K) (a := a) (xs := xs.map V.int) (fun i σ' H' => (∃ c2 : Option V, σ' = [some (.ref a), some (.ref l), c2]) ∧ Same H H' ∧ H' l = some (.lst ((pb (xs.take i)).map V.int)))
    ⟨⟨none, rfl⟩, s1, upd_same⟩ (fun i σ' H' _ ⟨_, s2, _⟩ => seqT s2 ha) ?_ ?_⟩
  · rintro i x σ' H1 hi ⟨⟨c2, rfl⟩, sm, e⟩
    rw [List.getElem?_map] at hi
    obtain ⟨z, hz, rfl⟩ : ∃ z, xs[i]? = some z ∧ x = V.int z := by
      cases e : xs[i]? with
      | none => rw [e] at hi; cases hi
      | some z => rw [e] at hi; exact ⟨z, rfl, (Option.some.inj hi).symm⟩
    have hlt := (List.getElem?_eq_some_iff.mp hz).1
    refine ⟨_, rfl, .inl ⟨rfl, _, SqL.of e⟩, _, rfl, z, 32768, rfl, rfl, 2, z + 32768, rfl, by decide, fun p H2 s2 hp e2 => ?_⟩
    have npl : p ≠ l := (ne_of_none e hp).symm
    have el2 := s2 _ _ e
    refine ⟨l, p, _, _, rfl, rfl, el2, e2, ?_, ⟨_, rfl⟩, fun b o hb => ?_, ?_⟩
    · rw [List.length_map, List.length_map, pb_len, nb_len, List.length_take]
      exact Nat.le_of_lt (small1000 (by omega))
    · rw [upd_ne (ne_of_none hb hl)]
      exact s2 _ _ (sm b o hb)
    · rw [upd_same, List.take_add_one, hz, ← List.map_append]
      show some (HO.lst ((pb (xs.take i) ++ nb 2 (z + 32768)).map V.int)) = some (HO.lst ((pb (xs.take i ++ [z])).map V.int))
      rw [pb_snoc]
  · rintro σ' H1 ⟨⟨c2, rfl⟩, sm, e⟩
    rw [List.length_map, List.take_length] at e
    exact s_ret (val_var rfl) (q l H1 sm hl e)
def rp (d : List Int) (pl n : Nat) : List Int := (List.range n).map fun i => nv ((d.drop (pl + 2 * i)).take 2) - 32768
def spRP (K : Frag) : Sp := fun vs H Q _ => ∃ (d : Addr) (xs : List Int) (pl n : Nat), vs = [.ref d, .int (pl : Int), .int (n : Int)] ∧ SqL K H d (xs.map V.int) ∧ pl + 2 * n ≤ xs.length ∧ xs.length ≤ 1000 ∧
  ∀ (p : Addr) (H' : Hp), Same H H' → H' p = some (.tup ((rp xs pl n).map V.int)) → Q (.ref p) H'
theorem ok_read_point (T : Txt K mg) : FnOk P w K mg base CX0 2 T.f_read_point T.fd_read_point ["data", "place", "dimensions"] (spRP K) := by
  refine T.F_read_point.ok sc_read_point (fun vs H Q E h => ?_) (fun cdv A outer s H vs Q E hr h => ?_)
  · obtain ⟨_, _, _, _, rfl, _⟩ := h
    rfl
  obtain ⟨d, xs, pl, n, rfl, hd, hl, hx, q⟩ := h
  refine ⟨_, (pss_cons (ps_set (i := 3) sc_read_point.nd rfl (by first | exact Or.inl rfl | exact Or.inr rfl) (pe_callTy cr_range3 (by rfl) T.z_range (by decide +kernel) (pa_cons (pv 1) (pa_cons (pe_op op_add (pv 1) (pe_op op_mul (pe_glob (v := .int 2) (by rfl) T.g_COORDINATE_WIDTH ⟨_, rfl⟩) (pv 2))) (pa_cons (pe_glob (v := .int 2) (by rfl) T.g_COORDINATE_WIDTH ⟨_, rfl⟩) pa_nil)))))
      (pss_one (ps_ret (pe_callTy call_tuple_of (by rfl) T.z_tuple (by decide +kernel) (pa_cons (pe_lc (own := [("at", 4)]) (g := gName 4) (by rfl) sc_read_point.nd (pi_rngV (pv 3)) (blkOk_by (own := [("at", 4)]) (N := ["data", "place", "dimensions", "places", "at"]) (sc := defScope s_read_point) (by decide +kernel)) (fun _ _ _ _ _ => pg_name (i := 4) sc_read_point.nd rfl (by first | exact Or.inl rfl | exact Or.inr rfl)) (fun _ _ _ _ _ => pts_nil) (fun _ _ _ _ _ => pe_op op_sub (pe_call (ok_read_number T) (hr.mono (by decide)) (by rfl) T.g_read_number T.F_read_number.kp T.b_read_number .nil pass0 (pa_cons (pv 0) (pa_cons (pv 4) (pa_cons (pe_glob (v := .int 2) (by rfl) T.g_COORDINATE_WIDTH ⟨_, rfl⟩) pa_nil)))) (pe_glob (v := .int 32768) (by rfl) T.g_COORDINATE_SHIFT ⟨_, rfl⟩))) pa_nil))))), ?_⟩
  (try dsimp only [cxOf])
  rw [show start ["data", "place", "dimensions", "places", "at"] [.ref d, .int (pl : Int), .int (n : Int)] = [some (.ref d), some (.int (pl : Int)), some (.int (n : Int)), none, none] from rfl]
  refine q_setg ?_
  refine ⟨_, rfl, _, rfl, _, rfl, 2, (n : Int), rfl, rfl, .inl ⟨by decide, by decide⟩, (pl : Int), 2 * (n : Int), rfl, rfl, ?_⟩
  refine ⟨(pl : Int), (pl : Int) + 2 * (n : Int), 2, rfl, by decide, by decide, fun r hr0 => ?_⟩
  walk_at "nrm"
  have s1 : Same H (upd H r (rngHO r (pl : Int) ((pl : Int) + 2 * (n : Int)) 2)) := same_upd hr0
  refine ⟨_, rfl, r, _, _, _, n, rfl, upd_same, rgC_two (by omega) (by omega) (by omega), fun l hl0 => ?_⟩
  refine lc_rangeC (lo := (pl : Int)) (c := 2) (n := n) (fun i H1 => Same H H1 ∧ (∀ o, H l = some o → False) ∧ H1 l = some (.lst (((rp xs pl n).take i).map V.int))) ⟨s1.trans (same_upd hl0), fun o e => ?_, upd_same⟩ ?_ ?_
  · have := s1 l o e
    rw [hl0] at this
    cases this
  · rintro i H1 hi ⟨sm, hl1, e⟩
    rw [show (pl : Int) + (i : Int) * 2 = ((pl + 2 * i : Nat) : Int) from by omega]
    refine ⟨rfl, g_yes ?_⟩
    refine ⟨_, rfl, _, rfl, d, xs, pl + 2 * i, 2, rfl, sm.seq hd, by omega, by omega, ?_⟩
    refine ⟨_, _, rfl, rfl, ?_⟩
    have hg : (rp xs pl n)[i]? = some (nv ((xs.drop (pl + 2 * i)).take 2) - 32768) := by
      unfold rp
      rw [List.getElem?_map, List.getElem?_range hi]
      rfl
    refine ⟨_, e, ?_, fun b o hb => ?_, hl1, ?_⟩
    · rw [List.length_map, List.length_take]
      unfold rp
      rw [List.length_map, List.length_range]
      exact small1000 (by omega)
    · rw [upd_ne (fun z => hl1 o (by rw [← z]; exact hb))]
      exact sm b o hb
    · have ht : (rp xs pl n).take (i + 1) = (rp xs pl n).take i ++ [nv ((xs.drop (pl + 2 * i)).take 2) - 32768] := by
        rw [List.take_add_one, hg]
        rfl
      rw [upd_same, ht, List.map_append]
      rfl
  · rintro H1 ⟨sm, hl1, e⟩
    rw [List.take_of_length_le (by unfold rp; rw [List.length_map, List.length_range]; exact Nat.le_refl _)] at e
    exact ⟨l, _, rfl, .inl ⟨SqL.of e, fun p hp => q p _ (sm.trans (same_upd hp)) upd_same⟩⟩
end
end K02


namespace K02
open PySem L2 Nv RZ
local macro_rules | `(tactic| walk_at "hp") => `(tactic| first
  | assumption
  | exact upd_same
  | exact (upd_ne (by assumption)).trans (by first | assumption | exact upd_same | exact (upd_ne (by assumption)).trans (by first | assumption | exact upd_same))
  | exact (upd_ne (Ne.symm (by assumption))).trans (by first | assumption | exact upd_same))
local macro_rules | `(tactic| walk_at "cond") => `(tactic| first
  | (change (0 : Int) < _; first | decide | omega)
  | exact Or.inr ⟨by decide, by decide⟩
  | exact Or.inl ⟨by decide, by decide⟩
  | exact Or.inr ⟨by omega, by omega⟩
  | exact Or.inl ⟨by omega, by omega⟩
  | exact ⟨by decide, by decide, by decide⟩
  | exact wide_div (by first | decide | omega) (show _ < 2 ^ 64 by first | decide | omega) (by decide) (by decide)
  | (change (0 : Int) ≤ _; first | decide | omega)
  | exact ⟨by decide, by decide⟩
  | exact ⟨by omega, by omega⟩)
local macro_rules | `(tactic| walk_at "val") => `(tactic| first
  | (with_reducible exact val_c)
  | ((with_reducible apply val_var); exact rfl)
  | ((with_reducible apply val_I0); walk_at "val"; walk_at "val")
  | ((with_reducible apply val_I); walk_at "val"; walk_at "val"; walk_at "cond")
  | ((with_reducible apply val_ixL); walk_at "val"; walk_at "val"; (first | exact SqL.of (by walk_at "hp") | assumption); exact rfl)
  | ((with_reducible apply val_len); walk_at "val"; first | exact Or.inl (SqL.of (by walk_at "hp")) | exact Or.inl (by assumption) | exact Or.inr (by assumption) | exact Or.inr (SqT.of (by walk_at "hp")))
  | ((with_reducible apply val_int1); walk_at "val")
  | ((with_reducible apply val_abs); walk_at "val")
  | ((with_reducible apply val_max2); walk_at "val"; walk_at "val")
  | ((with_reducible apply val_eq); walk_at "val"; walk_at "val"; exact rfl)
  | ((with_reducible apply val_ne); walk_at "val"; walk_at "val"; exact rfl)
  | ((with_reducible apply val_not); walk_at "val")
  | ((with_reducible apply val_U); walk_at "val"))
local macro_rules | `(tactic| walk_at "ans") => `(tactic| first
  | ((with_reducible apply ans_Eq); walk_at "val"; walk_at "val"; exact rfl)
  | ((with_reducible apply ans_Ne); walk_at "val"; walk_at "val"; exact rfl)
  | ((with_reducible apply ans_I0); walk_at "val"; walk_at "val"; exact rfl)
  | ((with_reducible refine ans_And ?_ (fun _ => ?_)); walk_at "ans"; walk_at "ans")
  | ((with_reducible refine ans_or2 ?_ (fun _ => ?_)); walk_at "ans"; walk_at "ans")
  | ((with_reducible refine ans_not ?_); walk_at "ans")
  | ((with_reducible apply ans_val); walk_at "val"))
local macro_rules | `(tactic| walk_at "nrm") => `(tactic| (try dsimp only [List.set_cons_zero, List.set_cons_succ]))
local macro_rules | `(tactic| walk_at "set") => `(tactic| first
  | ((with_reducible apply q_set); walk_at "val"; walk_at "nrm")
  | ((with_reducible apply s_set); walk_at "val"; walk_at "nrm"))
local macro_rules | `(tactic| walk_at "setL") => `(tactic| first
  | ((with_reducible apply q_setL); walk_at "val"; walk_at "val"; walk_at "val"; walk_at "hp"; exact rfl; walk_at "nrm")
  | ((with_reducible apply s_setL); walk_at "val"; walk_at "val"; walk_at "val"; walk_at "hp"; exact rfl; walk_at "nrm"))
local macro_rules | `(tactic| walk_at "ff") => `(tactic| (walk_at "nrm"; rw [if_neg (by decide)]; (try ((with_reducible refine st_next ?_); walk_at "nrm"))))
local macro_rules | `(tactic| walk_at "nok") => `(tactic| (refine ⟨_, rfl, rfl, _, rfl, ?_⟩; walk_at "nrm"; rw [if_neg (by decide)]))
local macro_rules | `(tactic| walk_at "yesk") => `(tactic| (refine ⟨_, rfl, rfl, _, rfl, ?_⟩; walk_at "nrm"; rw [if_pos (by decide)]))
local macro_rules | `(tactic| walk_at "no") => `(tactic| (walk_at "nrm"; rw [if_neg (by decide)]; walk_at "nrm"))
local macro_rules | `(tactic| walk_at "yes") => `(tactic| (walk_at "nrm"; rw [if_pos (by decide)]; walk_at "nrm"))
local macro_rules | `(tactic| walk_at "nos") => `(tactic| (walk_at "nrm"; repeat (rw [if_neg (by decide)]; walk_at "nrm"); (try ((with_reducible refine st_next ?_); walk_at "nrm"))))

section
variable {P : Program} {w : World} {K : PySem.W.Frag} {mg : Str → Option Value} {base : Heap}
def sp_law (K : PySem.W.Frag) : Sp := fun vs H Q _ => ∃ (a : Addr) (ns : List Int), vs = [.ref a] ∧ SqL K H a (ns.map V.int) ∧ ns.length ≤ 63 ∧ ∀ H', Q (.bl true) H'
theorem dr_ne {K : Frag} {H0 H1 : Hp} {st sc b : Addr} {ns : List Int} (D1 : Dr K H0 H1 st sc ns) (h : H1 b = none) : b ≠ st := fun e => by
  obtain ⟨i, d, _, _, e'⟩ := D1.ex
  rw [e, e'] at h
  cases h
theorem dr_upd {K : Frag} {H0 H2 : Hp} {st sc l : Addr} {ns : List Int} {o : HO} (D2 : Dr K H0 H2 st sc ns) (hl : H0 l = none) (hs : l ≠ st) : Dr K H0 (upd H2 l o) st sc ns := by
  obtain ⟨i, d, hi, hd, es⟩ := D2.ex
  exact ⟨D2.sq, fun b o hb => by rw [upd_ne (ne_of_none hb hl)]; exact D2.same b o hb, D2.new, i, d, hi, hd, by rw [upd_ne hs.symm]; exact es⟩
theorem dr_old {K : Frag} {H0 H : Hp} {st sc l : Addr} {ns : List Int} (D : Dr K H0 H st sc ns) (h : H l = none) : H0 l = none := D.same.free h
/-- a list of drawn bytes -/
theorem rd_bytes {σ : St} {H0 H : Hp} {st sc : Addr} {ns : List Int} {Q : VK} (h1 : σ[1]? = some (some (.ref st))) (h0 : σ[0]? = some (some (.ref sc)))
    (hw : ∀ v, wipe ((wipe σ [8]).set 8 v) [8] = wipe σ [8]) (w1 : ∀ v, ((wipe σ [8]).set 8 v)[1]? = some (some (.ref st))) (w0 : ∀ v, ((wipe σ [8]).set 8 v)[0]? = some (some (.ref sc))) (D : Dr K H0 H st sc ns)
    (k : ∀ (p : Addr) (xs : List Int) (H' : Hp), xs.length ≤ 3 → p ≠ st → H p = none → H' p = some (.lst (xs.map V.int)) → Kp st H H' → Dr K H0 H' st sc ns → Q (.ref p) H') :
    tLc (iRng1 (tCons (tCall (spDraw K) [] E0 (tCons (tVar 1) (tCons (tVar 0) (tCons (tC (V.int 4)) tNil)))) tNil)) (gName 8) tYes (tCall (spDraw K) [] E0 (tCons (tVar 1) (tCons (tVar 0) (tCons (tC (V.int 256)) tNil)))) [8] σ H Q := by
  refine ⟨_, h1, _, h0, st, sc, 4, H0, ns, rfl, by decide, by decide, D, fun r H1 r0 r4 hB D1 => ?_⟩
  refine ⟨r, rfl, by omega, by omega, fun l hl => ?_⟩
  have lst : l ≠ st := dr_ne D1 hl
  have lH : H l = none := by rw [← hB l lst]; exact hl
  refine lc_range (lo := 0) (n := r.toNat) (fun i H2 => ∃ xs : List Int, xs.length = i ∧ H2 l = some (.lst (xs.map V.int)) ∧ Kp st H H2 ∧ Dr K H0 H2 st sc ns)
    ⟨[], rfl, upd_same, (Kp.but hB).trans (Kp.of (same_upd hl)), D1.kp (same_upd hl)⟩ ?_ ?_
  · rintro i H2 hi ⟨xs, hx, e, kp, D2⟩
    refine ⟨hw _, g_yes ?_⟩
    refine ⟨_, w1 _, _, w0 _, st, sc, 256, H0, ns, rfl, by decide, by decide, D2, fun z H3 z0 z1 hB3 D3 => ?_⟩
    refine ⟨_, by rw [hB3 l lst]; exact e, by rw [List.length_map, hx]; exact small1000 (by omega), xs ++ [z], by simp [hx], by rw [upd_same, List.map_append]; rfl, ?_, dr_upd D3 (dr_old D lH) lst⟩
    exact fun b o nb hb => by
      rw [upd_ne (ne_of_none hb lH), hB3 b nb]
      exact kp b o nb hb
  · rintro H2 ⟨xs, hx, e, kp, D2⟩
    exact k l xs H2 (by omega) lst lH e kp D2
theorem number_small {w : Nat} {n : Int} (h1 : 1 ≤ w) (h4 : w ≤ 4) (n0 : 0 ≤ n) (n1 : n < 4294967296) : 0 ≤ n / 2 ^ (8 * (4 - w)) ∧ n / 2 ^ (8 * (4 - w)) < 256 ^ w := by
  have c : w = 1 ∨ w = 2 ∨ w = 3 ∨ w = 4 := by omega
  rcases c with rfl | rfl | rfl | rfl
  · have e : (2 : Int) ^ (8 * (4 - 1)) = 16777216 := by decide
    rw [e]
    have e2 : (256 : Int) ^ 1 = 256 := by decide
    rw [e2]
    omega
  · have e : (2 : Int) ^ (8 * (4 - 2)) = 65536 := by decide
    rw [e]
    have e2 : (256 : Int) ^ 2 = 65536 := by decide
    rw [e2]
    omega
  · have e : (2 : Int) ^ (8 * (4 - 3)) = 256 := by decide
    rw [e]
    have e2 : (256 : Int) ^ 3 = 16777216 := by decide
    rw [e2]
    omega
  · have e : (2 : Int) ^ (8 * (4 - 4)) = 1 := by decide
    rw [e]
    have e2 : (256 : Int) ^ 4 = 4294967296 := by decide
    rw [e2]
    omega
theorem rp_pb : ∀ (xs pre suf : List Int) (i : Nat) (x : Int), xs[i]? = some x → ((pre ++ pb xs ++ suf).drop (pre.length + 2 * i)).take 2 = nb 2 (x + 32768)
  | [], _, _, i, _, h => by simp at h
  | c :: xs, pre, suf, 0, x, h => by
    have e : c = x := Option.some.inj h
    subst e
    rw [List.append_assoc, show pre.length + 2 * 0 = pre.length from by omega, List.drop_left]
    show List.take 2 ((nb 2 (c + 32768) ++ pb xs) ++ suf) = nb 2 (c + 32768)
    rw [List.append_assoc]
    have hl := nb_len 2 (c + 32768)
    exact (congrArg (fun k => List.take k (nb 2 (c + 32768) ++ (pb xs ++ suf))) hl.symm).trans List.take_left
  | c :: xs, pre, suf, i + 1, x, h => by
    have ih := rp_pb xs (pre ++ nb 2 (c + 32768)) suf i x (by simpa using h)
    rw [List.length_append, nb_len] at ih
    rw [show pre.length + 2 * (i + 1) = pre.length + 2 + 2 * i from by omega]
    rw [show pre ++ pb (c :: xs) ++ suf = pre ++ nb 2 (c + 32768) ++ pb xs ++ suf from by
      show pre ++ (nb 2 (c + 32768) ++ pb xs) ++ suf = _
      simp only [List.append_assoc]]
    exact ih
theorem rp_all {xs pre suf : List Int} (h : ∀ x ∈ xs, -32768 ≤ x ∧ x ≤ 32767) : rp (pre ++ pb xs ++ suf) pre.length xs.length = xs := by
  unfold rp
  refine List.ext_getElem? fun i => ?_
  by_cases hi : i < xs.length
  · rw [List.getElem?_map, List.getElem?_range hi]
    have hx := List.getElem?_eq_getElem hi
    have hb := h xs[i] (List.getElem_mem hi)
    show some (nv (((pre ++ pb xs ++ suf).drop (pre.length + 2 * i)).take 2) - 32768) = xs[i]?
    rw [rp_pb xs pre suf i xs[i] hx, nv_nb 2 _ (by omega) (by show xs[i] + 32768 < (256 : Int) ^ 2; rw [show (256 : Int) ^ 2 = 65536 from by decide]; omega), hx]
    congr 1
    omega
  · rw [List.getElem?_eq_none (by rw [List.length_map, List.length_range]; omega), List.getElem?_eq_none (by omega)]
theorem nb2 (h l : Int) (h0 : 0 ≤ h) (h1 : h < 256) (l0 : 0 ≤ l) (l1 : l < 256) : nb 2 (256 * h + l - 32768 + 32768) = [h, l] := by
  show [(256 * h + l - 32768 + 32768) / 256 % 256, (256 * h + l - 32768 + 32768) % 256] = [h, l]
  rw [show (256 * h + l - 32768 + 32768) / 256 % 256 = h from by omega, show (256 * h + l - 32768 + 32768) % 256 = l from by omega]
theorem ok_law (T : Txt K mg) : FnOk P w K mg base CX0 3 T.f_law T.fd_law ["script"] (sp_law K) := by
  refine T.F_law.ok sc_law (fun vs H Q E h => ?_) (fun cdv A outer s H vs Q E hr h => ?_)
  · obtain ⟨_, _, rfl, _⟩ := h
    rfl
  obtain ⟨sc, ns, rfl, hS, hlen, q⟩ := h
  refine ⟨_, (pss_cons (ps_set (i := 1) sc_law.nd rfl (by first | exact Or.inl rfl | exact Or.inr rfl) (pe_lst (pa_cons pe_int (pa_cons pe_int pa_nil))))
      (pss_cons (ps_setLc (i := 2) (own := [("k", 8)]) (g := gName 8) (by rfl) sc_law.nd rfl rfl (sw_true rfl rfl rfl (by decide +kernel)) (pi_range1 (by rfl) T.z_range (pa_cons (pe_call (ok_law_draw T) (hr.mono (by decide)) (by rfl) T.g_law_draw T.F_law_draw.kp T.b_law_draw .nil pass0 (pa_cons (pv 1) (pa_cons (pv 0) (pa_cons pe_int pa_nil)))) pa_nil)) (blkOk_by (own := [("k", 8)]) (N := ["script", "state", "before", "behind", "width", "number", "due", "rest", "k", "data", "kept", "found", "point", "low", "high", "back", "one"]) (sc := defScope s_law) (by decide +kernel)) (fun _ _ _ _ _ => pg_name (i := 8) sc_law.nd rfl (by first | exact Or.inl rfl | exact Or.inr rfl)) (fun _ _ _ _ _ => pts_nil) (fun _ _ _ _ _ => pe_call (ok_law_draw T) (hr.mono (by decide)) (by rfl) T.g_law_draw T.F_law_draw.kp T.b_law_draw .nil pass0 (pa_cons (pv 1) (pa_cons (pv 0) (pa_cons pe_int pa_nil)))))
      (pss_cons (ps_setLc (i := 3) (own := [("k", 8)]) (g := gName 8) (by rfl) sc_law.nd rfl rfl (sw_true rfl rfl rfl (by decide +kernel)) (pi_range1 (by rfl) T.z_range (pa_cons (pe_call (ok_law_draw T) (hr.mono (by decide)) (by rfl) T.g_law_draw T.F_law_draw.kp T.b_law_draw .nil pass0 (pa_cons (pv 1) (pa_cons (pv 0) (pa_cons pe_int pa_nil)))) pa_nil)) (blkOk_by (own := [("k", 8)]) (N := ["script", "state", "before", "behind", "width", "number", "due", "rest", "k", "data", "kept", "found", "point", "low", "high", "back", "one"]) (sc := defScope s_law) (by decide +kernel)) (fun _ _ _ _ _ => pg_name (i := 8) sc_law.nd rfl (by first | exact Or.inl rfl | exact Or.inr rfl)) (fun _ _ _ _ _ => pts_nil) (fun _ _ _ _ _ => pe_call (ok_law_draw T) (hr.mono (by decide)) (by rfl) T.g_law_draw T.F_law_draw.kp T.b_law_draw .nil pass0 (pa_cons (pv 1) (pa_cons (pv 0) (pa_cons pe_int pa_nil)))))
      (pss_cons (ps_set (i := 4) sc_law.nd rfl (by first | exact Or.inl rfl | exact Or.inr rfl) (pe_op op_add pe_int (pe_call (ok_law_draw T) (hr.mono (by decide)) (by rfl) T.g_law_draw T.F_law_draw.kp T.b_law_draw .nil pass0 (pa_cons (pv 1) (pa_cons (pv 0) (pa_cons pe_int pa_nil))))))
      (pss_cons (ps_set (i := 5) sc_law.nd rfl (by first | exact Or.inl rfl | exact Or.inr rfl) (pe_op op_shr (pe_ix ix_list (pe_lst (pa_cons pe_int (pa_cons (pe_op op_sub (pe_op op_pow pe_int pe_int) pe_int) (pa_cons (pe_call (ok_law_draw T) (hr.mono (by decide)) (by rfl) T.g_law_draw T.F_law_draw.kp T.b_law_draw .nil pass0 (pa_cons (pv 1) (pa_cons (pv 0) (pa_cons pe_int pa_nil)))) pa_nil)))) (pe_call (ok_law_draw T) (hr.mono (by decide)) (by rfl) T.g_law_draw T.F_law_draw.kp T.b_law_draw .nil pass0 (pa_cons (pv 1) (pa_cons (pv 0) (pa_cons pe_int pa_nil)))) (fun _ _ => rfl)) (pe_op op_mul pe_int (pe_op op_sub pe_int (pv 4)))))
      (pss_cons (ps_set (i := 6) sc_law.nd rfl (by first | exact Or.inl rfl | exact Or.inr rfl) (pe_lst pa_nil))
      (pss_cons (ps_set (i := 7) sc_law.nd rfl (by first | exact Or.inl rfl | exact Or.inr rfl) (pv 5))
      (pss_cons (ps_for PassesOwn.never rfl (pi_range1 (by rfl) T.z_range (pa_cons (pv 4) pa_nil)) (pg_name (i := 8) sc_law.nd rfl (by first | exact Or.inl rfl | exact Or.inr rfl))
        (pss_cons (ps_set (i := 6) sc_law.nd rfl (by first | exact Or.inl rfl | exact Or.inr rfl) (pe_op op_cat (pe_lst (pa_cons (pe_op op_mod (pv 7) pe_int) pa_nil)) (pv 6)))
        (pss_one (ps_set (i := 7) sc_law.nd rfl (by first | exact Or.inl rfl | exact Or.inr rfl) (pe_op op_fdivW (pv 7) pe_int)))))
      (pss_cons (ps_if (pt_cmpR (op_neD hr.units) (pe_call (ok_write_number T) (hr.mono (by decide)) (by rfl) T.g_write_number T.F_write_number.kp T.b_write_number .nil pass0 (pa_cons (pv 4) (pa_cons (pv 5) pa_nil))) (pv 6) (nomark _))
        (pss_one (ps_ret pe_bl))
        pss_nil)
      (pss_cons (ps_set (i := 9) sc_law.nd rfl (by first | exact Or.inl rfl | exact Or.inr rfl) (pe_op op_cat (pe_op op_cat (pv 2) (pv 6)) (pv 3)))
      (pss_cons (ps_set (i := 10) sc_law.nd rfl (by first | exact Or.inl rfl | exact Or.inr rfl) (pe_callTy call_list_of (by rfl) T.z_list (by decide +kernel) (pa_cons (pv 9) pa_nil)))
      (pss_cons (ps_set (i := 11) sc_law.nd rfl (by first | exact Or.inl rfl | exact Or.inr rfl) (pe_call (ok_read_number T) (hr.mono (by decide)) (by rfl) T.g_read_number T.F_read_number.kp T.b_read_number .nil pass0 (pa_cons (pv 9) (pa_cons (pe_callB call_len_seq (by rfl) T.z_len (by decide +kernel) (pa_cons (pv 2) pa_nil)) (pa_cons (pv 4) pa_nil)))))
      (pss_cons (ps_if (PW.pt (pw_or (pt_not (pt_val (pe_call (ok_law_is_integer T) (hr.mono (by decide)) (by rfl) T.g_law_is_integer T.F_law_is_integer.kp T.b_law_is_integer .nil pass0 (pa_cons (pv 11) pa_nil)))) (pw_or (pt_cmpR op_ne (pv 11) (pv 5) (nomark _)) (pw_or1 (pt_cmpR (op_neD hr.units) (pv 9) (pv 10) (nomark _))))))
        (pss_one (ps_ret pe_bl))
        pss_nil)
      (pss_cons (ps_set (i := 12) sc_law.nd rfl (by first | exact Or.inl rfl | exact Or.inr rfl) (pe_lst pa_nil))
      (pss_cons (ps_set (i := 6) sc_law.nd rfl (by first | exact Or.inl rfl | exact Or.inr rfl) (pe_lst pa_nil))
      (pss_cons (ps_for PassesOwn.never rfl (pi_range1 (by rfl) T.z_range (pa_cons (pe_op op_add pe_int (pe_call (ok_law_draw T) (hr.mono (by decide)) (by rfl) T.g_law_draw T.F_law_draw.kp T.b_law_draw .nil pass0 (pa_cons (pv 1) (pa_cons (pv 0) (pa_cons pe_int pa_nil))))) pa_nil)) (pg_name (i := 8) sc_law.nd rfl (by first | exact Or.inl rfl | exact Or.inr rfl))
        (pss_cons (ps_set (i := 13) sc_law.nd rfl (by first | exact Or.inl rfl | exact Or.inr rfl) (pe_call (ok_law_draw T) (hr.mono (by decide)) (by rfl) T.g_law_draw T.F_law_draw.kp T.b_law_draw .nil pass0 (pa_cons (pv 1) (pa_cons (pv 0) (pa_cons pe_int pa_nil)))))
        (pss_cons (ps_set (i := 14) sc_law.nd rfl (by first | exact Or.inl rfl | exact Or.inr rfl) (pe_call (ok_law_draw T) (hr.mono (by decide)) (by rfl) T.g_law_draw T.F_law_draw.kp T.b_law_draw .nil pass0 (pa_cons (pv 1) (pa_cons (pv 0) (pa_cons pe_int pa_nil)))))
        (Evl.pss_cut (ps_if (pt_cmpR op_eq (pe_call (ok_law_draw T) (hr.mono (by decide)) (by rfl) T.g_law_draw T.F_law_draw.kp T.b_law_draw .nil pass0 (pa_cons (pv 1) (pa_cons (pv 0) (pa_cons pe_int pa_nil)))) pe_int (nomark _))
          (pss_one (ps_asg (pe_ix ix_list (pe_lst (pa_cons (pe_tup (pa_cons pe_int (pa_cons pe_int pa_nil))) (pa_cons (pe_tup (pa_cons pe_int (pa_cons pe_int pa_nil))) (pa_cons (pe_tup (pa_cons pe_int (pa_cons pe_int pa_nil))) pa_nil)))) (pe_call (ok_law_draw T) (hr.mono (by decide)) (by rfl) T.g_law_draw T.F_law_draw.kp T.b_law_draw .nil pass0 (pa_cons (pv 1) (pa_cons (pv 0) (pa_cons pe_int pa_nil)))) (fun _ _ => rfl)) (pg_tup (by rfl) (pgs_cons (pg_name (i := 13) sc_law.nd rfl (by first | exact Or.inl rfl | exact Or.inr rfl)) (pgs_cons (pg_name (i := 14) sc_law.nd rfl (by first | exact Or.inl rfl | exact Or.inr rfl)) pgs_nil)))))
          pss_nil)
        (pss_cons (ps_expr (pe_bm PySem.F.plainAttrs_list PySem.F.slot_list_append PySem.F.type_list_append mt_append (pv 12) (pa_cons (pe_op op_sub (pe_op op_add (pe_op op_mul pe_int (pv 14)) (pv 13)) pe_int) pa_nil)))
        (pss_one (ps_expr (pe_bm PySem.F.plainAttrs_list PySem.F.slot_list_extend PySem.F.type_list_extend mt_extend (pv 6) (pa_cons (pe_lst (pa_cons (pv 14) (pa_cons (pv 13) pa_nil))) pa_nil)))))))))
      (pss_cons (ps_if (pt_cmpR (op_neD hr.units) (pe_call (ok_write_point T) (hr.mono (by decide)) (by rfl) T.g_write_point T.F_write_point.kp T.b_write_point .nil pass0 (pa_cons (pe_callTy call_tuple_of (by rfl) T.z_tuple (by decide +kernel) (pa_cons (pv 12) pa_nil)) pa_nil)) (pv 6) (nomark _))
        (pss_one (ps_ret pe_bl))
        pss_nil)
      (pss_cons (ps_set (i := 9) sc_law.nd rfl (by first | exact Or.inl rfl | exact Or.inr rfl) (pe_op op_cat (pe_op op_cat (pv 2) (pv 6)) (pv 3)))
      (pss_cons (ps_set (i := 15) sc_law.nd rfl (by first | exact Or.inl rfl | exact Or.inr rfl) (pe_call (ok_read_point T) (hr.mono (by decide)) (by rfl) T.g_read_point T.F_read_point.kp T.b_read_point .nil pass0 (pa_cons (pv 9) (pa_cons (pe_callB call_len_seq (by rfl) T.z_len (by decide +kernel) (pa_cons (pv 2) pa_nil)) (pa_cons (pe_callB call_len_seq (by rfl) T.z_len (by decide +kernel) (pa_cons (pv 12) pa_nil)) pa_nil)))))
      (pss_one (ps_ret (pe_and (pe_callB call_isi (by rfl) T.z_isinstance (by decide +kernel) (pa_cons (pv 15) (pa_cons (pe_bltn (by rfl) T.z_tuple (by decide +kernel) (show RelV (.ty "tuple") _ from rfl)) pa_nil))) (pe_and (pe_cmpR (op_eqD hr.units) (pv 15) (pe_callTy call_tuple_of (by rfl) T.z_tuple (by decide +kernel) (pa_cons (pv 12) pa_nil)) (nomark _)) (pe_one (pe_callB (cr_all rfl) (by rfl) T.z_all (by decide +kernel) (pa_cons (pe_lc (own := [("one", 16)]) (g := gName 16) (by rfl) sc_law.nd (pi_tup (pv 15)) (blkOk_by (own := [("one", 16)]) (N := ["script", "state", "before", "behind", "width", "number", "due", "rest", "k", "data", "kept", "found", "point", "low", "high", "back", "one"]) (sc := defScope s_law) (by decide +kernel)) (fun _ _ _ _ _ => pg_name (i := 16) sc_law.nd rfl (by first | exact Or.inl rfl | exact Or.inr rfl)) (fun _ _ _ _ _ => pts_nil) (fun _ _ _ _ _ => pe_call (ok_law_is_integer T) (hr.mono (by decide)) (by rfl) T.g_law_is_integer T.F_law_is_integer.kp T.b_law_is_integer .nil pass0 (pa_cons (pv 16) pa_nil))) pa_nil)))))))))))))))))))))))))), ?_⟩
  (try dsimp only [cxOf])
  rw [show start ["script", "state", "before", "behind", "width", "number", "due", "rest", "k", "data", "kept", "found", "point", "low", "high", "back", "one"] [.ref sc] = [some (.ref sc), none, none, none, none, none, none, none, none, none, none, none, none, none, none, none, none] from rfl]
  refine q_setg ?_
  refine ⟨by show 2 ≤ sizeLine; decide, fun st hst => ?_⟩
  walk_at "nrm"
  have D0 : Dr K H (upd H st (.lst [.int 0, .int 0])) st sc ns := ⟨hS, same_upd hst, hst, 0, 0, Int.le_refl _, Int.le_refl _, upd_same⟩
  generalize upd H st (.lst [.int 0, .int 0]) = H0 at D0
  refine q_setg ?_
  refine rd_bytes rfl rfl (fun _ => rfl) (fun _ => rfl) (fun _ => rfl) D0 fun pa as H1 la nas na ea k1 D1 => ?_
  walk_at "nrm"
  refine q_setg ?_
  refine rd_bytes rfl rfl (fun _ => rfl) (fun _ => rfl) (fun _ => rfl) D1 fun pc cs H2 lc ncs nc ec k2 D2 => ?_
  walk_at "nrm"
  have ea2 := k2 _ _ nas ea
  -- the number
  refine q_setg ?_
  refine ⟨_, rfl, _, rfl, st, sc, 4, H, ns, rfl, by decide, by decide, D2, fun r H3 r0 r4 hB3 D3 => ?_⟩
  obtain ⟨wd, hwd⟩ : ∃ wd : Nat, 1 + r = (wd : Int) := ⟨(1 + r).toNat, by omega⟩
  refine ⟨1, r, rfl, rfl, ?_⟩
  walk_at "nrm"
  rw [hwd]
  have hw1 : 1 ≤ wd := by omega
  have hw4 : wd ≤ 4 := by omega
  have ea3 : H3 pa = some (.lst (as.map V.int)) := by rw [hB3 _ nas]; exact ea2
  have ec3 : H3 pc = some (.lst (cs.map V.int)) := by rw [hB3 _ ncs]; exact ec
  refine q_setg ?_
  refine ⟨256, 4, rfl, rfl, ⟨by decide, by decide, by decide⟩, _, _, rfl, rfl, ?_⟩
  refine ⟨_, rfl, _, rfl, st, sc, 4294967296, H, ns, rfl, by decide, by decide, D3, fun z H4 z0 z1 hB4 D4 => ?_⟩
  refine ⟨by show 3 ≤ sizeLine; decide, fun l5 hl5 => ?_⟩
  have l5st := dr_ne D4 hl5
  refine ⟨_, rfl, _, rfl, st, sc, 3, H, ns, rfl, by decide, by decide, D4.kp (same_upd hl5), fun i H5 i0 i3 hB5 D5 => ?_⟩
  have e5 : H5 l5 = some (.lst [.int 0, .int ((fun i j => i - j) ((256 : Int) ^ (4 : Int).toNat) 1), .int z]) := by
    rw [hB5 _ l5st]
    exact upd_same
  obtain ⟨N, hN0, hN1, hat⟩ : ∃ N : Int, 0 ≤ N ∧ N < 4294967296 ∧ atI [V.int 0, V.int ((fun i j => i - j) ((256 : Int) ^ (4 : Int).toNat) 1), .int z] i = some (.int N) := by
    have c : i = 0 ∨ i = 1 ∨ i = 2 := by omega
    rcases c with rfl | rfl | rfl
    · exact ⟨0, by decide, by decide, rfl⟩
    · exact ⟨(256 : Int) ^ (4 : Int).toNat - 1, by decide, by decide, rfl⟩
    · exact ⟨z, by omega, by omega, rfl⟩
  refine ⟨l5, _, i, _, rfl, rfl, SqL.of e5, hat, ?_⟩
  refine ⟨_, rfl, 4, (wd : Int), rfl, rfl, 8, 4 - (wd : Int), rfl, rfl, .inl ⟨by decide, by decide⟩, N, 8 * (4 - (wd : Int)), rfl, rfl, by show (0 : Int) ≤ _; omega, ?_⟩
  walk_at "nrm"
  rw [show (8 * (4 - (wd : Int))).toNat = 8 * (4 - wd) from by omega]
  obtain ⟨n0, n1⟩ := number_small hw1 hw4 hN0 hN1
  generalize N / 2 ^ (8 * (4 - wd)) = n at n0 n1
  have ea5 : H5 pa = some (.lst (as.map V.int)) := by rw [hB5 _ nas, upd_ne (ne_of_none (by rw [hB4 _ nas]; exact ea3) hl5), hB4 _ nas]; exact ea3
  have ec5 : H5 pc = some (.lst (cs.map V.int)) := by rw [hB5 _ ncs, upd_ne (ne_of_none (by rw [hB4 _ ncs]; exact ec3) hl5), hB4 _ ncs]; exact ec3
  -- the bytes by the law
  refine q_setg ?_
  refine ⟨Nat.zero_le _, fun l6 hl6 => ?_⟩
  walk_at "nrm"
  have D6 := D5.kp (same_upd (o := .lst []) hl6)
  have ea6 := same_upd (o := .lst []) hl6 _ _ ea5
  have ec6 := same_upd (o := .lst []) hl6 _ _ ec5
  have l6st := dr_ne D5 hl6
  have e6 : upd H5 l6 (.lst []) l6 = some (.lst []) := upd_same
  generalize upd H5 l6 (.lst []) = H6 at D6 ea6 ec6 e6
  walk_at "set"
  refine ⟨_, rfl, (wd : Int), rfl, by omega, by omega, ?_⟩
  rw [show ((wd : Int)).toNat = wd from by omega]
  refine for_range (lo := 0) (n := wd) (fun i σ' H' => ∃ (p : Addr) (k8 : Option V), σ' = [some (.ref sc), some (.ref st), some (.ref pa), some (.ref pc), some (.int (wd : Int)), some (.int n), some (.ref p), some (.int (n / 256 ^ i)), k8, none, none, none, none, none, none, none, none] ∧
      H' p = some (.lst ((nb i n).map V.int)) ∧ H' pa = some (.lst (as.map V.int)) ∧ H' pc = some (.lst (cs.map V.int)) ∧ Dr K H H' st sc ns) ⟨l6, none, by simp, e6, ea6, ec6, D6⟩ ?_ ?_
  · rintro i σ' H' hi ⟨p, k8, rfl, ep, ea, ec, D'⟩
    refine q_setg ?_
    refine ⟨_, rfl, _, _, rfl, rfl, by show (0 : Int) < 256; decide, by show 1 ≤ sizeLine; decide, fun l1 hl1 => ?_⟩
    refine ⟨_, rfl, l1, p, _, _, rfl, rfl, upd_same, same_upd hl1 _ _ ep, ?_, fun l2 hl2 => ?_⟩
    · rw [List.length_map, nb_len]
      exact Nat.le_of_lt (small1000 (show 1 + i ≤ 1000 by omega))
    walk_at "nrm"
    refine s_set (v := .int (n / 256 ^ i / 256)) (by walk_at "val") ?_
    have ss : Same H' (upd (upd H' l1 (.lst [.int (n / 256 ^ i % 256)])) l2 (.lst ([.int (n / 256 ^ i % 256)] ++ (nb i n).map V.int))) := (same_upd hl1).trans (same_upd hl2)
    refine ⟨l2, some (.int (0 + (i : Int))), ?_, ?_, ss _ _ ea, ss _ _ ec, D'.kp ss⟩
    · rw [Int.ediv_ediv_of_nonneg (by exact Int.le_of_lt (Int.pow_pos (by decide))), ← Int.pow_succ]
      rfl
    · rw [upd_same, nb_front]
      rfl
  rintro σ' H7 ⟨pd, k8, rfl, ed, ea7, ec7, D7⟩
  -- write_number
  refine ⟨_, rfl, _, rfl, wd, n, rfl, by omega, fun p8 H8 s8 n8 e8 => ?_⟩
  refine ⟨_, rfl, ?_⟩
  refine neL_ints (SqL.of e8) (SqL.of (s8 _ _ ed)) ⟨_, rfl, ?_⟩
  rw [decide_eq_true rfl]
  walk_at "ff"
  have ed8 := s8 _ _ ed
  have ea8 := s8 _ _ ea7
  have ec8 := s8 _ _ ec7
  have D8 := D7.kp s8
  -- data
  refine q_setg ?_
  refine ⟨_, rfl, _, rfl, pa, pd, _, _, rfl, rfl, ea8, ed8, ?_, fun l9 hl9 => ?_⟩
  · rw [List.length_map, List.length_map, nb_len]
    exact Nat.le_of_lt (small1000 (by omega))
  refine ⟨_, rfl, l9, pc, _, _, rfl, rfl, upd_same, same_upd hl9 _ _ ec8, ?_, fun l10 hl10 => ?_⟩
  · rw [List.length_append, List.length_map, List.length_map, List.length_map, nb_len]
    exact Nat.le_of_lt (small1000 (by omega))
  walk_at "nrm"
  have s10 := (same_upd (o := .lst (as.map V.int ++ (nb wd n).map V.int)) hl9).trans (same_upd (o := .lst (as.map V.int ++ (nb wd n).map V.int ++ cs.map V.int)) hl10)
  have e10 : (upd (upd H8 l9 (.lst (as.map V.int ++ (nb wd n).map V.int))) l10 (.lst (as.map V.int ++ (nb wd n).map V.int ++ cs.map V.int))) l10 = some (.lst ((as ++ nb wd n ++ cs).map V.int)) := by
    rw [upd_same, List.map_append, List.map_append]
  generalize upd (upd H8 l9 (.lst (as.map V.int ++ (nb wd n).map V.int))) l10 (.lst (as.map V.int ++ (nb wd n).map V.int ++ cs.map V.int)) = H10 at s10 e10
  have ea10 := s10 _ _ ea8
  have ec10 := s10 _ _ ec8
  have D10 := D8.kp s10
  -- kept
  refine q_setg ?_
  refine ⟨_, rfl, l10, _, rfl, .inl (SqL.of e10), fun l11 hl11 => ?_⟩
  walk_at "nrm"
  have s11 : Same H10 (upd H10 l11 (.lst ((as ++ nb wd n ++ cs).map V.int))) := same_upd hl11
  have e11 : upd H10 l11 (.lst ((as ++ nb wd n ++ cs).map V.int)) l11 = some (.lst ((as ++ nb wd n ++ cs).map V.int)) := upd_same
  generalize upd H10 l11 (.lst ((as ++ nb wd n ++ cs).map V.int)) = H11 at s11 e11
  -- found
  refine q_setg ?_
  refine ⟨_, rfl, _, rfl, pa, _, rfl, .inl (SqL.of (s11 _ _ ea10)), _, rfl, l10, as ++ nb wd n ++ cs, (as.map V.int).length, wd, rfl, SqL.of (s11 _ _ e10), ?_, ?_, ?_⟩
  · rw [List.length_append, List.length_append, List.length_map, nb_len]
    omega
  · rw [List.length_append, List.length_append, nb_len]
    omega
  have ev : nv (((as ++ nb wd n ++ cs).drop (as.map V.int).length).take wd) = n := by
    rw [List.length_map, List.append_assoc, List.drop_left]
    have := nb_len wd n
    rw [show List.take wd (nb wd n ++ cs) = nb wd n from (congrArg (fun k => List.take k (nb wd n ++ cs)) this.symm).trans List.take_left]
    exact nv_nb wd n n0 n1
  rw [ev]
  walk_at "nrm"
  refine ⟨_, rfl, n, rfl, true, rfl, ?_⟩
  walk_at "ff"
  refine ⟨_, rfl, _, rfl, rfl, _, rfl, ?_⟩
  rw [decide_eq_true rfl]
  walk_at "ff"
  refine ⟨_, rfl, _, rfl, ?_⟩
  refine neL_ints (SqL.of (s11 _ _ e10)) (SqL.of e11) ⟨_, rfl, ?_⟩
  rw [decide_eq_true rfl]
  walk_at "ff"
  have D11 := D10.kp s11
  have ea11 := s11 _ _ ea10
  have ec11 := s11 _ _ ec10
  -- the point
  refine q_setg ?_
  refine ⟨Nat.zero_le _, fun pp hpp => ?_⟩
  walk_at "nrm"
  refine q_setg ?_
  refine ⟨Nat.zero_le _, fun pd2 hpd => ?_⟩
  walk_at "nrm"
  have s12 : Same H11 (upd (upd H11 pp (.lst [])) pd2 (.lst [])) := (same_upd hpp).trans (same_upd hpd)
  have npd : pp ≠ pd2 := fun z => by rw [← z, upd_same] at hpd; cases hpd
  have hpd11 : H11 pd2 = none := by rw [upd_ne npd.symm] at hpd; exact hpd
  have D12 := D11.kp s12
  have ppH : H pp = none := dr_old D11 hpp
  have pdH : H pd2 = none := dr_old D11 hpd11
  have ppst : pp ≠ st := dr_ne D11 hpp
  have pdst : pd2 ≠ st := dr_ne D11 hpd11
  have npa : pa ≠ pp := ne_of_none ea11 hpp
  have npc : pc ≠ pp := ne_of_none ec11 hpp
  have nda : pa ≠ pd2 := ne_of_none ea11 hpd11
  have ndc : pc ≠ pd2 := ne_of_none ec11 hpd11
  have ea12 := s12 _ _ ea11
  have ec12 := s12 _ _ ec11
  have ep12 : (upd (upd H11 pp (.lst [])) pd2 (.lst [])) pp = some (.lst []) := by rw [upd_ne npd]; exact upd_same
  have ed12 : (upd (upd H11 pp (.lst [])) pd2 (.lst [])) pd2 = some (.lst []) := upd_same
  generalize upd (upd H11 pp (.lst [])) pd2 (.lst []) = H12 at D12 ea12 ec12 ep12 ed12
  refine ⟨_, rfl, _, rfl, st, sc, 8, H, ns, rfl, by decide, by decide, D12, fun r H13 r0 r8 hB13 D13 => ?_⟩
  refine ⟨1, r, rfl, rfl, ?_⟩
  refine ⟨1 + r, rfl, by omega, by omega, ?_⟩
  obtain ⟨m, hm⟩ : ∃ m : Nat, 1 + r = (m : Int) := ⟨(1 + r).toNat, by omega⟩
  rw [hm, show ((m : Int)).toNat = m from by omega]
  have hm8 : m ≤ 8 := by omega
  refine for_range (lo := 0) (n := m) (fun i σ' H' => ∃ (xs : List Int) (k8 k13 k14 : Option V), σ' = [some (.ref sc), some (.ref st), some (.ref pa), some (.ref pc), some (.int (wd : Int)), some (.int n), some (.ref pd2), some (.int (n / 256 ^ wd)), k8, some (.ref l10), some (.ref l11), some (.int n), some (.ref pp), k13, k14, none, none] ∧
      xs.length = i ∧ (∀ x ∈ xs, -32768 ≤ x ∧ x ≤ 32767) ∧ H' pp = some (.lst (xs.map V.int)) ∧ H' pd2 = some (.lst ((pb xs).map V.int)) ∧ H' pa = some (.lst (as.map V.int)) ∧ H' pc = some (.lst (cs.map V.int)) ∧ Dr K H H' st sc ns)
    ⟨[], _, none, none, rfl, rfl, (fun x hx => by cases hx), by rw [hB13 _ ppst]; exact ep12, by rw [hB13 _ pdst]; exact ed12, by rw [hB13 _ nas]; exact ea12, by rw [hB13 _ ncs]; exact ec12, D13⟩ ?_ ?_
  · rintro i σ' H1 hi ⟨xs, k8, k13, k14, rfl, hx, hr, ep, ed, ea, ec, D1⟩
    refine q_setg ?_
    refine ⟨_, rfl, _, rfl, st, sc, 256, H, ns, rfl, by decide, by decide, D1, fun lo H2 a0 a1 hB2 D2 => ?_⟩
    walk_at "nrm"
    refine q_setg ?_
    refine ⟨_, rfl, _, rfl, st, sc, 256, H, ns, rfl, by decide, by decide, D2, fun hi H3 b0 b1 hB3 D3 => ?_⟩
    walk_at "nrm"
    have g3 : ∀ b o, b ≠ st → H1 b = some o → H3 b = some o := fun b o nb hb => by rw [hB3 b nb, hB2 b nb]; exact hb
    refine q_cut (fun σ' H' => ∃ lo hi : Int, 0 ≤ lo ∧ lo < 256 ∧ 0 ≤ hi ∧ hi < 256 ∧ Kp st H3 H' ∧ Dr K H H' st sc ns ∧
      σ' = [some (.ref sc), some (.ref st), some (.ref pa), some (.ref pc), some (.int (wd : Int)), some (.int n), some (.ref pd2), some (.int (n / 256 ^ wd)), some (.int (0 + (i : Int))), some (.ref l10), some (.ref l11), some (.int n), some (.ref pp), some (.int lo), some (.int hi), none, none]) ?_ ?_
    · refine ⟨_, rfl, _, rfl, st, sc, 3, H, ns, rfl, by decide, by decide, D3, fun r H4 c0 c1 hB4 D4 => ?_⟩
      refine ⟨rfl, _, rfl, ite2 (fun _ => ?_) (fun _ => ?_)⟩
      · refine ⟨by show 2 ≤ sizeLine; decide, fun t1 ht1 => ⟨by show 2 ≤ sizeLine; decide, fun t2 ht2 => ⟨by show 2 ≤ sizeLine; decide, fun t3 ht3 => ⟨by show 3 ≤ sizeLine; decide, fun t4 ht4 => ?_⟩⟩⟩⟩
        have sg : Same H4 (upd (upd (upd (upd H4 t1 (.tup [.int 0, .int 0])) t2 (.tup [.int 255, .int 255])) t3 (.tup [.int 0, .int 128])) t4 (.lst [.ref t1, .ref t2, .ref t3])) := (((same_upd ht1).trans (same_upd ht2)).trans (same_upd ht3)).trans (same_upd ht4)
        have f1 : (upd (upd (upd (upd H4 t1 (.tup [.int 0, .int 0])) t2 (.tup [.int 255, .int 255])) t3 (.tup [.int 0, .int 128])) t4 (.lst [.ref t1, .ref t2, .ref t3])) t1 = some (.tup [.int 0, .int 0]) := same_upd ht4 _ _ (same_upd ht3 _ _ (same_upd ht2 _ _ upd_same))
        have f2 : (upd (upd (upd (upd H4 t1 (.tup [.int 0, .int 0])) t2 (.tup [.int 255, .int 255])) t3 (.tup [.int 0, .int 128])) t4 (.lst [.ref t1, .ref t2, .ref t3])) t2 = some (.tup [.int 255, .int 255]) := same_upd ht4 _ _ (same_upd ht3 _ _ upd_same)
        have f3 : (upd (upd (upd (upd H4 t1 (.tup [.int 0, .int 0])) t2 (.tup [.int 255, .int 255])) t3 (.tup [.int 0, .int 128])) t4 (.lst [.ref t1, .ref t2, .ref t3])) t3 = some (.tup [.int 0, .int 128]) := same_upd ht4 _ _ upd_same
        have f4 : (upd (upd (upd (upd H4 t1 (.tup [.int 0, .int 0])) t2 (.tup [.int 255, .int 255])) t3 (.tup [.int 0, .int 128])) t4 (.lst [.ref t1, .ref t2, .ref t3])) t4 = some (.lst [.ref t1, .ref t2, .ref t3]) := upd_same
        generalize upd (upd (upd (upd H4 t1 (.tup [.int 0, .int 0])) t2 (.tup [.int 255, .int 255])) t3 (.tup [.int 0, .int 128])) t4 (.lst [.ref t1, .ref t2, .ref t3]) = H5 at sg f1 f2 f3 f4
        have D5 := D4.kp sg
        refine ⟨_, rfl, _, rfl, st, sc, 3, H, ns, rfl, by decide, by decide, D5, fun j H6 j0 j3 hB6 D6 => ?_⟩
        have nst : ∀ {b : Addr} {xs : List V}, H5 b = some (.tup xs) → b ≠ st := fun hb z => by
          obtain ⟨_, _, _, _, e'⟩ := D5.ex
          rw [z, e'] at hb
          cases hb
        have n4 : t4 ≠ st := fun z => by
          obtain ⟨_, _, _, _, e'⟩ := D5.ex
          rw [z, e'] at f4
          cases f4
        have f4' : H6 t4 = some (.lst [.ref t1, .ref t2, .ref t3]) := by rw [hB6 _ n4]; exact f4
        have kp6 : Kp st H3 H6 := ((Kp.but hB4).trans (Kp.of sg)).trans (Kp.but hB6)
        have c : j = 0 ∨ j = 1 ∨ j = 2 := by omega
        rcases c with rfl | rfl | rfl
        · refine ⟨t4, _, 0, .ref t1, rfl, rfl, SqL.of f4', rfl, t1, [.int 0, .int 0], rfl, SqT.of (by rw [hB6 _ (nst f1)]; exact f1), rfl, _, _, rfl, _, _, rfl, rfl, ?_⟩
          exact ⟨0, 0, by decide, by decide, by decide, by decide, kp6, D6, rfl⟩
        · refine ⟨t4, _, 1, .ref t2, rfl, rfl, SqL.of f4', rfl, t2, [.int 255, .int 255], rfl, SqT.of (by rw [hB6 _ (nst f2)]; exact f2), rfl, _, _, rfl, _, _, rfl, rfl, ?_⟩
          exact ⟨255, 255, by decide, by decide, by decide, by decide, kp6, D6, rfl⟩
        · refine ⟨t4, _, 2, .ref t3, rfl, rfl, SqL.of f4', rfl, t3, [.int 0, .int 128], rfl, SqT.of (by rw [hB6 _ (nst f3)]; exact f3), rfl, _, _, rfl, _, _, rfl, rfl, ?_⟩
          exact ⟨0, 128, by decide, by decide, by decide, by decide, kp6, D6, rfl⟩
      · exact ⟨lo, hi, a0, a1, b0, b1, Kp.but hB4, D4, rfl⟩
    rintro σ' H7 ⟨lo, hi, a0, a1, b0, b1, kp7, D7, rfl⟩
    have ep7 := kp7 _ _ ppst (g3 _ _ ppst ep)
    have ed7 := kp7 _ _ pdst (g3 _ _ pdst ed)
    have ea7 := kp7 _ _ nas (g3 _ _ nas ea)
    have ec7 := kp7 _ _ ncs (g3 _ _ ncs ec)
    -- append, extend
    refine ⟨_, rfl, .inl ⟨rfl, _, SqL.of ep7⟩, _, rfl, 256, hi, rfl, rfl, .inl ⟨by decide, by decide⟩, _, rfl, 256 * hi, lo, rfl, rfl, _, 32768, rfl, rfl, pp, _, _, rfl, rfl, ep7, ?_, ?_⟩
    · rw [List.length_map, hx]
      exact small1000 (by omega)
    walk_at "nrm"
    have npdp : pd2 ≠ pp := npd.symm
    have ed8 : upd H7 pp (.lst (xs.map V.int ++ [.int (256 * hi + lo - 32768)])) pd2 = some (.lst ((pb xs).map V.int)) := by rw [upd_ne npdp]; exact ed7
    refine ⟨_, rfl, .inl ⟨rfl, _, SqL.of ed8⟩, _, rfl, _, rfl, by show 2 ≤ sizeLine; decide, fun t ht => ?_⟩
    have tpp : pp ≠ t := fun z => by rw [← z, upd_same] at ht; cases ht
    have ht7 : H7 t = none := by rw [upd_ne tpp.symm] at ht; exact ht
    have tpd : pd2 ≠ t := ne_of_none ed7 ht7
    have tst : t ≠ st := dr_ne D7 ht7
    refine ⟨pd2, t, _, _, rfl, rfl, by rw [upd_ne tpd]; exact ed8, upd_same, ?_, ?_⟩
    · rw [List.length_map, pb_len, hx]
      exact Nat.le_of_lt (small1000 (show 2 * i + 2 ≤ 1000 by omega))
    refine ⟨xs ++ [256 * hi + lo - 32768], _, _, _, rfl, by simp [hx], fun x hx => ?_, ?_, ?_, ?_, ?_, ?_⟩
    · rcases List.mem_append.mp hx with h | h
      · exact hr x h
      · have e := List.mem_singleton.mp h
        omega
    · rw [upd_ne npd, upd_ne tpp, upd_same, List.map_append]
      rfl
    · rw [upd_same, pb_snoc, nb2 hi lo b0 b1 a0 a1, List.map_append]
      rfl
    · rw [upd_ne nda, upd_ne (ne_of_none ea7 ht7), upd_ne npa]
      exact ea7
    · rw [upd_ne ndc, upd_ne (ne_of_none ec7 ht7), upd_ne npc]
      exact ec7
    · exact dr_upd (dr_upd (dr_upd D7 ppH ppst) (dr_old D7 ht7) tst) pdH pdst
  rintro σ' H20 ⟨xs, k8, k13, k14, rfl, hx, hr, ep, ed, ea, ec, D20⟩
  -- write_point
  refine ⟨_, rfl, pp, _, rfl, .inl ⟨SqL.of ep, fun t ht => ?_⟩⟩
  have s21 : Same H20 (upd H20 t (.tup (xs.map V.int))) := same_upd ht
  refine ⟨t, xs, rfl, SqT.of upd_same, by omega, fun p22 H22 s22 n22 e22 => ?_⟩
  have sa := s21.trans s22
  refine ⟨_, rfl, ?_⟩
  refine neL_ints (SqL.of e22) (SqL.of (sa _ _ ed)) ⟨_, rfl, ?_⟩
  rw [decide_eq_true rfl]
  walk_at "ff"
  -- data
  refine q_setg ?_
  refine ⟨_, rfl, _, rfl, pa, pd2, _, _, rfl, rfl, sa _ _ ea, sa _ _ ed, ?_, fun l9 hl9 => ?_⟩
  · rw [List.length_map, List.length_map, pb_len]
    exact Nat.le_of_lt (small1000 (by omega))
  refine ⟨_, rfl, l9, pc, _, _, rfl, rfl, upd_same, same_upd hl9 _ _ (sa _ _ ec), ?_, fun l10 hl10 => ?_⟩
  · rw [List.length_append, List.length_map, List.length_map, List.length_map, pb_len]
    exact Nat.le_of_lt (small1000 (by omega))
  walk_at "nrm"
  have s24 := sa.trans ((same_upd (o := .lst (as.map V.int ++ (pb xs).map V.int)) hl9).trans (same_upd (o := .lst (as.map V.int ++ (pb xs).map V.int ++ cs.map V.int)) hl10))
  have e24 : (upd (upd H22 l9 (.lst (as.map V.int ++ (pb xs).map V.int))) l10 (.lst (as.map V.int ++ (pb xs).map V.int ++ cs.map V.int))) l10 = some (.lst ((as ++ pb xs ++ cs).map V.int)) := by
    rw [upd_same, List.map_append, List.map_append]
  generalize upd (upd H22 l9 (.lst (as.map V.int ++ (pb xs).map V.int))) l10 (.lst (as.map V.int ++ (pb xs).map V.int ++ cs.map V.int)) = H24 at s24 e24
  -- back
  refine q_setg ?_
  refine ⟨_, rfl, _, rfl, pa, _, rfl, .inl (SqL.of (s24 _ _ ea)), _, rfl, pp, _, rfl, .inl (SqL.of (s24 _ _ ep)), l10, as ++ pb xs ++ cs, (as.map V.int).length, (xs.map V.int).length, rfl, SqL.of e24, ?_, ?_, fun p25 H25 s25 e25 => ?_⟩
  · rw [List.length_append, List.length_append, List.length_map, List.length_map, pb_len]
    omega
  · rw [List.length_append, List.length_append, pb_len]
    omega
  rw [List.length_map, List.length_map, rp_all hr] at e25
  walk_at "nrm"
  -- the end
  refine ⟨_, rfl, ⟨_, _, _, _, true, rfl, .ty "tuple", .base (.tup e25), kit_ty (by decide +kernel), ?_⟩⟩
  refine ⟨true, rfl, ?_⟩
  rw [if_pos rfl]
  have ep25 := s25 _ _ (s24 _ _ ep)
  refine ⟨_, rfl, _, rfl, pp, _, rfl, .inl ⟨SqL.of ep25, fun t26 ht26 => ?_⟩⟩
  have s26 : Same H25 (upd H25 t26 (.tup (xs.map V.int))) := same_upd ht26
  refine eqT_ints (SqT.of (s26 _ _ e25)) (SqT.of upd_same) ⟨_, rfl, ?_⟩
  rw [decide_eq_true rfl, if_pos rfl]
  have e26 := s26 _ _ e25
  generalize upd H25 t26 (.tup (xs.map V.int)) = H26 at e26
  refine ⟨_, rfl, p25, rfl, ⟨_, SqT.of e26⟩, fun l27 hl27 => ?_⟩
  refine lc_tup (K := K) (a := p25) (xs := xs.map V.int) (fun i H' => Same H26 H' ∧ (∀ o, H26 l27 = some o → False) ∧ H' l27 = some (.lst ((List.replicate i true).map V.bl))) ⟨same_upd hl27, (fun o e => by rw [hl27] at e; cases e), upd_same⟩ (fun i H' _ ⟨s, _⟩ => SqT.of (s _ _ e26)) ?_ ?_
  · rintro i x H' hxi ⟨s, hn, e⟩
    rw [List.getElem?_map] at hxi
    obtain ⟨z, hz, rfl⟩ : ∃ z, xs[i]? = some z ∧ x = V.int z := by
      cases e : xs[i]? with
      | none => rw [e] at hxi; cases hxi
      | some z => rw [e] at hxi; exact ⟨z, rfl, (Option.some.inj hxi).symm⟩
    have hlt := (List.getElem?_eq_some_iff.mp hz).1
    refine ⟨rfl, g_yes ?_⟩
    refine ⟨_, rfl, z, rfl, _, e, ?_, fun b o hb => ?_, hn, ?_⟩
    · rw [List.length_map, List.length_replicate]
      exact small1000 (by omega)
    · rw [upd_ne (fun z => hn o (by rw [← z]; exact hb))]
      exact s b o hb
    · rw [upd_same, List.replicate_succ', List.map_append]
      rfl
  · rintro H' ⟨s, hn, e⟩
    refine ⟨l27, _, rfl, SqL.of e, ?_⟩
    rw [show (List.replicate (xs.map V.int).length true).all id = true from by simp]
    exact q _
end
end K02


namespace K02
open PySem L2 Nv
theorem all_mk {K : PySem.W.Frag} {h : Heap} {mg : Str → Option Value} (X : K.In h) (G : h.Ns mainGlobals mg)
    {f0 : Addr} {od0 an0 : Option Addr} {sl0 : Array (Option Value)} {oc0 kV0 dc0 pm0 cd0 ct0 : Value} {f1 : Addr} {od1 an1 : Option Addr} {sl1 : Array (Option Value)} {oc1 kV1 dc1 pm1 cd1 ct1 : Value} {f2 : Addr} {od2 an2 : Option Addr} {sl2 : Array (Option Value)} {oc2 kV2 dc2 pm2 cd2 ct2 : Value} {f3 : Addr} {od3 an3 : Option Addr} {sl3 : Array (Option Value)} {oc3 kV3 dc3 pm3 cd3 ct3 : Value} {f4 : Addr} {od4 an4 : Option Addr} {sl4 : Array (Option Value)} {oc4 kV4 dc4 pm4 cd4 ct4 : Value} {f5 : Addr} {od5 an5 : Option Addr} {sl5 : Array (Option Value)} {oc5 kV5 dc5 pm5 cd5 ct5 : Value} {f6 : Addr} {od6 an6 : Option Addr} {sl6 : Array (Option Value)} {oc6 kV6 dc6 pm6 cd6 ct6 : Value} {tCOORDINATE_WIDTH : Tok} {tCOORDINATE_SHIFT : Tok}
    (a0 : PySem.W.nsIn K mainGlobals "write_number" = some (some (.ref f0)))
    (l0 : K.lookup f0 = some ⟨oc0, od0, .func (PySem.W.fnOf "write_number" "write_number" (defArgs s_write_number) (defBody s_write_number) (defScope s_write_number) .none kV0 dc0 pm0 an0 cd0 ct0), sl0⟩)
    (c0 : PySem.W.codeIn K cd0 "write_number" = true)
    (k0 : PySem.W.keepIn K (.ref f0) = true)
    (a1 : PySem.W.nsIn K mainGlobals "read_number" = some (some (.ref f1)))
    (l1 : K.lookup f1 = some ⟨oc1, od1, .func (PySem.W.fnOf "read_number" "read_number" (defArgs s_read_number) (defBody s_read_number) (defScope s_read_number) .none kV1 dc1 pm1 an1 cd1 ct1), sl1⟩)
    (c1 : PySem.W.codeIn K cd1 "read_number" = true)
    (k1 : PySem.W.keepIn K (.ref f1) = true)
    (a2 : PySem.W.nsIn K mainGlobals "write_point" = some (some (.ref f2)))
    (l2 : K.lookup f2 = some ⟨oc2, od2, .func (PySem.W.fnOf "write_point" "write_point" (defArgs s_write_point) (defBody s_write_point) (defScope s_write_point) .none kV2 dc2 pm2 an2 cd2 ct2), sl2⟩)
    (c2 : PySem.W.codeIn K cd2 "write_point" = true)
    (k2 : PySem.W.keepIn K (.ref f2) = true)
    (a3 : PySem.W.nsIn K mainGlobals "read_point" = some (some (.ref f3)))
    (l3 : K.lookup f3 = some ⟨oc3, od3, .func (PySem.W.fnOf "read_point" "read_point" (defArgs s_read_point) (defBody s_read_point) (defScope s_read_point) .none kV3 dc3 pm3 an3 cd3 ct3), sl3⟩)
    (c3 : PySem.W.codeIn K cd3 "read_point" = true)
    (k3 : PySem.W.keepIn K (.ref f3) = true)
    (a4 : PySem.W.nsIn K mainGlobals "_law_is_integer" = some (some (.ref f4)))
    (l4 : K.lookup f4 = some ⟨oc4, od4, .func (PySem.W.fnOf "_law_is_integer" "_law_is_integer" (defArgs s_law_is_integer) (defBody s_law_is_integer) (defScope s_law_is_integer) .none kV4 dc4 pm4 an4 cd4 ct4), sl4⟩)
    (c4 : PySem.W.codeIn K cd4 "_law_is_integer" = true)
    (k4 : PySem.W.keepIn K (.ref f4) = true)
    (a5 : PySem.W.nsIn K mainGlobals "_law_draw" = some (some (.ref f5)))
    (l5 : K.lookup f5 = some ⟨oc5, od5, .func (PySem.W.fnOf "_law_draw" "_law_draw" (defArgs s_law_draw) (defBody s_law_draw) (defScope s_law_draw) .none kV5 dc5 pm5 an5 cd5 ct5), sl5⟩)
    (c5 : PySem.W.codeIn K cd5 "_law_draw" = true)
    (k5 : PySem.W.keepIn K (.ref f5) = true)
    (a6 : PySem.W.nsIn K mainGlobals "law" = some (some (.ref f6)))
    (l6 : K.lookup f6 = some ⟨oc6, od6, .func (PySem.W.fnOf "law" "law" (defArgs s_law) (defBody s_law) (defScope s_law) .none kV6 dc6 pm6 an6 cd6 ct6), sl6⟩)
    (c6 : PySem.W.codeIn K cd6 "law" = true)
    (k6 : PySem.W.keepIn K (.ref f6) = true)
    (z_range : PySem.W.nsIn K mainGlobals "range" = some none)
    (z_tuple : PySem.W.nsIn K mainGlobals "tuple" = some none)
    (z_list : PySem.W.nsIn K mainGlobals "list" = some none)
    (z_isinstance : PySem.W.nsIn K mainGlobals "isinstance" = some none)
    (z_int : PySem.W.nsIn K mainGlobals "int" = some none)
    (z_len : PySem.W.nsIn K mainGlobals "len" = some none)
    (z_all : PySem.W.nsIn K mainGlobals "all" = some none)
    (z_reversed : PySem.W.nsIn K mainGlobals "reversed" = some none)
    (z_bool : PySem.W.nsIn K mainGlobals "bool" = some none)
    (aCOORDINATE_WIDTH : PySem.W.nsIn K mainGlobals "COORDINATE_WIDTH" = some (some (.int 2 tCOORDINATE_WIDTH)))
    (aCOORDINATE_SHIFT : PySem.W.nsIn K mainGlobals "COORDINATE_SHIFT" = some (some (.int 32768 tCOORDINATE_SHIFT)))
    : ∃ T : Txt K mg, T.f_law = f6 ∧ T.fd_law = PySem.W.fnOf "law" "law" (defArgs s_law) (defBody s_law) (defScope s_law) .none kV6 dc6 pm6 an6 cd6 ct6 := by
  have F0 := fun_mk (st := s_write_number) l0 c0 k0
  have b0 := F0.binds (ps := ["width", "number"]) fun _ _ _ _ _ _ us hl => match us, hl with | [_, _], _ => rfl
  have F1 := fun_mk (st := s_read_number) l1 c1 k1
  have b1 := F1.binds (ps := ["data", "place", "width"]) fun _ _ _ _ _ _ us hl => match us, hl with | [_, _, _], _ => rfl
  have F2 := fun_mk (st := s_write_point) l2 c2 k2
  have b2 := F2.binds (ps := ["point"]) fun _ _ _ _ _ _ us hl => match us, hl with | [_], _ => rfl
  have F3 := fun_mk (st := s_read_point) l3 c3 k3
  have b3 := F3.binds (ps := ["data", "place", "dimensions"]) fun _ _ _ _ _ _ us hl => match us, hl with | [_, _, _], _ => rfl
  have F4 := fun_mk (st := s_law_is_integer) l4 c4 k4
  have b4 := F4.binds (ps := ["actual"]) fun _ _ _ _ _ _ us hl => match us, hl with | [_], _ => rfl
  have F5 := fun_mk (st := s_law_draw) l5 c5 k5
  have b5 := F5.binds (ps := ["state", "script", "size"]) fun _ _ _ _ _ _ us hl => match us, hl with | [_, _, _], _ => rfl
  have F6 := fun_mk (st := s_law) l6 c6 k6
  have b6 := F6.binds (ps := ["script"]) fun _ _ _ _ _ _ us hl => match us, hl with | [_], _ => rfl
  exact ⟨{
    f_write_number := f0
    fd_write_number := _
    F_write_number := F0
    b_write_number := b0
    g_write_number := PySem.W.mg_of X G a0
    f_read_number := f1
    fd_read_number := _
    F_read_number := F1
    b_read_number := b1
    g_read_number := PySem.W.mg_of X G a1
    f_write_point := f2
    fd_write_point := _
    F_write_point := F2
    b_write_point := b2
    g_write_point := PySem.W.mg_of X G a2
    f_read_point := f3
    fd_read_point := _
    F_read_point := F3
    b_read_point := b3
    g_read_point := PySem.W.mg_of X G a3
    f_law_is_integer := f4
    fd_law_is_integer := _
    F_law_is_integer := F4
    b_law_is_integer := b4
    g_law_is_integer := PySem.W.mg_of X G a4
    f_law_draw := f5
    fd_law_draw := _
    F_law_draw := F5
    b_law_draw := b5
    g_law_draw := PySem.W.mg_of X G a5
    f_law := f6
    fd_law := _
    F_law := F6
    b_law := b6
    g_law := PySem.W.mg_of X G a6
    z_range := PySem.W.mg_none_of X G z_range
    z_tuple := PySem.W.mg_none_of X G z_tuple
    z_list := PySem.W.mg_none_of X G z_list
    z_isinstance := PySem.W.mg_none_of X G z_isinstance
    z_int := PySem.W.mg_none_of X G z_int
    z_len := PySem.W.mg_none_of X G z_len
    z_all := PySem.W.mg_none_of X G z_all
    z_reversed := PySem.W.mg_none_of X G z_reversed
    z_bool := PySem.W.mg_none_of X G z_bool
    t_COORDINATE_WIDTH := tCOORDINATE_WIDTH
    g_COORDINATE_WIDTH := PySem.W.mg_of X G aCOORDINATE_WIDTH
    t_COORDINATE_SHIFT := tCOORDINATE_SHIFT
    g_COORDINATE_SHIFT := PySem.W.mg_of X G aCOORDINATE_SHIFT }, rfl, rfl⟩
theorem walk {l : PySem.W.OpenLaw} {q : Program} {loose : List Str} {XP : (Str → Option Value) → Heap → Prop} {YP : World → Heap → Prop} {d : DefRec} {K : Params → PySem.W.Frag} (hn : l.most = some 63) (hdf : d.params.defaults = []) (hdn : d.name = "law")
    (hY : ∀ (w : World) (h : Heap), YP w h → (K w.params).In h)
    (F : ∀ (w : World) (mg : Str → Option Value) (h : Heap), (K w.params).In h → h.Ns mainGlobals mg → ∃ T : Txt (K w.params) mg, ∀ (s : Shared) (u : Value), BindsTo s T.fd_law ⟨[u], []⟩ [("script", u)]) :
    PySem.W.WalkO q loose XP YP l.row.toRowW d [] (fun f vs => PySem.call f vs) := by
  refine L2.walk_of (n := 63) (k := 20) (x := "script") (CX := fun _ => CX0) (sp := fun w => sp_law (K w.params)) hn (by decide) hdf ⟨rfl, by decide, by decide⟩ hY (fun w mg fa h KX G hmg => ?_) (fun w H a ns hl hO hS => ?_) fun _ _ _ _ _ z => z
  · obtain ⟨T, hT⟩ := F w mg h KX G
    rw [hdn] at hmg
    have e := T.g_law.symm.trans hmg
    cases e
    exact ⟨T.fd_law, hT, fun base _ _ => (ok_law T).mono (by decide)⟩
  · exact ⟨a, ns, rfl, hS, hl, fun _ => rfl⟩

end K02
open PySem PySem.W PyProof.Rows
set_option maxRecDepth 100000 in
set_option maxHeartbeats 0 in
theorem PySem.Challenge.cw_nearvault_k02_numbers_and_points_as_byte_holds : PySem.Challenge.rw_nearvault_k02_numbers_and_points_as_byte.Holds := by
  w_on; o_law; k_head; (case hw => w_witness2)
  k_fill
  refine K02.walk (l := PySem.Challenge.rw_nearvault_k02_numbers_and_points_as_byte) rfl rfl rfl (fun w h Y => PySem.W.kIn_of Y) ?F
  case F =>
    intro w mg h KX G
    refine' Exists.imp (fun T hT s u => ?bind) (K02.all_mk KX G ?a0 ?l0 ?c0 ?k0 ?a1 ?l1 ?c1 ?k1 ?a2 ?l2 ?c2 ?k2 ?a3 ?l3 ?c3 ?k3 ?a4 ?l4 ?c4 ?k4 ?a5 ?l5 ?c5 ?k5 ?a6 ?l6 ?c6 ?k6 ?z_range ?z_tuple ?z_list ?z_isinstance ?z_int ?z_len ?z_all ?z_reversed ?z_bool ?aCOORDINATE_WIDTH ?aCOORDINATE_SHIFT)
    (case a0 => k_is)
    (case l0 => k_is)
    (case c0 => k_is)
    (case k0 => k_is)
    (case a1 => k_is)
    (case l1 => k_is)
    (case c1 => k_is)
    (case k1 => k_is)
    (case a2 => k_is)
    (case l2 => k_is)
    (case c2 => k_is)
    (case k2 => k_is)
    (case a3 => k_is)
    (case l3 => k_is)
    (case c3 => k_is)
    (case k3 => k_is)
    (case a4 => k_is)
    (case l4 => k_is)
    (case c4 => k_is)
    (case k4 => k_is)
    (case a5 => k_is)
    (case l5 => k_is)
    (case c5 => k_is)
    (case k5 => k_is)
    (case a6 => k_is)
    (case l6 => k_is)
    (case c6 => k_is)
    (case k6 => k_is)
    (case z_range => k_is)
    (case z_tuple => k_is)
    (case z_list => k_is)
    (case z_isinstance => k_is)
    (case z_int => k_is)
    (case z_len => k_is)
    (case z_all => k_is)
    (case z_reversed => k_is)
    (case z_bool => k_is)
    (case aCOORDINATE_WIDTH => k_is)
    (case aCOORDINATE_SHIFT => k_is)
    (case bind => obtain ⟨_, e⟩ := hT; rw [e]; exact .of_eq rfl)
#print axioms PySem.Challenge.cw_nearvault_k02_numbers_and_points_as_byte_holds



