import PyProof.Rows.All
import Wide.All
import OpenK.AllK
import Wide.FinOn
import PyProof.EqAt
import PyProof.EqKinds
import PyProof.TupleCall
import KE.DataMinMax
import HandS.ForMost
import HandS.Steps
import HandS.Evl
import HandS.Wide
import HandS.EndBits
import HandS.Zip
import HandS.TupAny
import HandS.IsInst
import HandS.SortKw
import HandS.RevRange
import HandS.Conv
import PySem.Challenge.RW_nearvault_k01_distances
set_option Elab.async false
set_option linter.all false
set_option maxRecDepth 100000
set_option maxHeartbeats 4000000
/-! # a small kit over the hand layer: readings of straight code, step by step -/
namespace Nv
open PySem L2
abbrev Frag := PySem.W.Frag
section
variable {σ : St} {H H' : Hp} {D : Ends} {K : Frag} {i j : Int} {x y z v : V} {ta tb te tv : TE} {b : Bool} {a C dx p : Addr} {fs : List (Str × V)} {f : Str} {t u c : TT} {ts tu tw : TS} {n : Nat}
/-! ### values -/
theorem g_val {Q : VK} (h : Val te σ H v) (q : Q v H) : te σ H Q := h Q q
theorem val_I0 {g : Int → Int → V} (ha : Val ta σ H (.int i)) (hb : Val tb σ H (.int j)) : Val (tOp (rI0 g) ta tb) σ H (g i j) := val_op ha hb fun _ q => ⟨i, j, rfl, rfl, q⟩
theorem val_I {C : Int → Int → Prop} {g : Int → Int → V} (ha : Val ta σ H (.int i)) (hb : Val tb σ H (.int j)) (hc : C i j) : Val (tOp (rI C g) ta tb) σ H (g i j) := val_op ha hb fun _ q => ⟨i, j, rfl, rfl, hc, q⟩
theorem val_U {g : Int → V} (ha : Val ta σ H (.int i)) : Val (tUn (rU g) ta) σ H (g i) := fun Q q => ha _ ⟨i, rfl, q⟩
theorem val_eq (ha : Val ta σ H x) (hb : Val tb σ H y) (hs : scal x y = true) : Val (tOp rEq ta tb) σ H (.bl (decide (x = y))) := val_op ha hb fun _ q => ⟨hs, q⟩
theorem val_ne (ha : Val ta σ H x) (hb : Val tb σ H y) (hs : scal x y = true) : Val (tOp rNe ta tb) σ H (.bl (!decide (x = y))) := val_op ha hb fun _ q => ⟨hs, q⟩
theorem val_not (ha : Val ta σ H (.bl b)) : Val (tNotV ta) σ H (.bl (!b)) := fun Q q => ha _ ⟨b, rfl, q⟩
theorem val_ixL {xs : List V} (ha : Val ta σ H (.ref p)) (hb : Val tb σ H (.int i)) (hs : SqL K H p xs) (hv : atI xs i = some v) : Val (tOp (rIxL K) ta tb) σ H v := val_op ha hb fun _ q => ⟨p, xs, i, v, rfl, rfl, hs, hv, q⟩
theorem val_ixT {xs : List V} (ha : Val ta σ H (.ref p)) (hb : Val tb σ H (.int i)) (hs : SqT K H p xs) (hv : atI xs i = some v) : Val (tOp (rIxT K) ta tb) σ H v := val_op ha hb fun _ q => ⟨p, xs, i, v, rfl, rfl, hs, hv, q⟩
theorem val_len {xs : List V} (ha : Val ta σ H (.ref p)) (hs : SqL K H p xs ∨ SqT K H p xs) :
    Val (tCB (fun xs H Q => ∃ p ys, xs = [V.ref p] ∧ (SqL K H p ys ∨ SqT K H p ys) ∧ Q (.int ys.length) H) (tCons ta tNil)) σ H (.int xs.length) := fun Q q => ha _ ⟨p, xs, rfl, hs, q⟩
theorem val_int1 (ha : Val ta σ H (.int i)) : Val (tCB (fun xs H Q => (∃ i, xs = [V.int i] ∧ Q (.int i) H) ∨ ∃ k, xs = [.bl k] ∧ Q (.int (if k then 1 else 0)) H) (tCons ta tNil)) σ H (.int i) := fun Q q => ha _ (.inl ⟨i, rfl, q⟩)
theorem val_abs (ha : Val ta σ H (.int i)) : Val (tCB (fun xs H Q => ∃ i, xs = [V.int i] ∧ Q (.int (if i < 0 then -i else i)) H) (tCons ta tNil)) σ H (.int (if i < 0 then -i else i)) := fun Q q => ha _ ⟨i, rfl, q⟩
theorem val_max2 (ha : Val ta σ H (.int i)) (hb : Val tb σ H (.int j)) : Val (tCB (fun xs H Q => ∃ i j, xs = [V.int i, .int j] ∧ Q (.int (if j > i then j else i)) H) (tCons ta (tCons tb tNil))) σ H (.int (if j > i then j else i)) := fun Q q => ha _ (hb _ ⟨i, j, rfl, q⟩)
/-! ### tests -/
theorem ans_I0 {g : Int → Int → V} (ha : Val ta σ H (.int i)) (hb : Val tb σ H (.int j)) (e : g i j = .bl b) : Ans (tTest (tOp (rI0 g) ta tb)) σ H b := ans_cmp ha hb fun Q q => ⟨i, j, rfl, rfl, by rw [e]; exact q⟩
theorem ans_Eq (ha : Val ta σ H x) (hb : Val tb σ H y) (hs : scal x y = true) : Ans (tTest (tOp rEq ta tb)) σ H (decide (x = y)) := ans_eq ha hb hs rfl
theorem ans_Ne (ha : Val ta σ H x) (hb : Val tb σ H y) (hs : scal x y = true) : Ans (tTest (tOp rNe ta tb)) σ H (!decide (x = y)) := ans_ne ha hb hs rfl
theorem ans_or2 {b1 b2 : Bool} (h1 : Ans t σ H b1) (h2 : b1 = false → Ans u σ H b2) : Ans (tOr t u) σ H (b1 || b2) := by
  cases b1 with
  | true => exact ans_or1 h1
  | false => exact ans_or h1 (h2 rfl)
theorem ans_And {b1 b2 : Bool} (h1 : Ans t σ H b1) (h2 : b1 = true → Ans u σ H b2) : Ans (tAnd t u) σ H (b1 && b2) := by
  cases b1 with
  | true => exact ans_and h1 (h2 rfl)
  | false => exact ans_and0 h1
theorem g_yes {A B : Hp → Prop} (h : A H) : tYes σ H (fun b H3 => if b = true then A H3 else B H3) := by
  show (if true = true then A H else B H)
  rw [if_pos rfl]
  exact h
theorem g_test {A B : Hp → Prop} (h : Ans c σ H b) (h1 : b = true → A H) (h2 : b = false → B H) : c σ H (fun b H3 => if b = true then A H3 else B H3) := by
  refine h _ ?_
  cases b with
  | true => rw [if_pos rfl]; exact h1 rfl
  | false => rw [if_neg Bool.false_ne_true]; exact h2 rfl
theorem g_noPart {Q : Option Int → Hp → Prop} (q : Q none H) : tNoPart σ H Q := q
/-! ### statements, something behind -/
theorem q_set {m : Nat} (h : Val te σ H v) (q : tu D (σ.set m (some v)) H) : tSeq (tAsg te (gName m)) tu D σ H := h _ q
theorem s_set {m : Nat} (h : Val te σ H v) (q : D.nx (σ.set m (some v)) H) : tAsg te (gName m) D σ H := h _ q
theorem q_setg {m : Nat} (h : te σ H fun v H1 => tu D (σ.set m (some v)) H1) : tSeq (tAsg te (gName m)) tu D σ H := h
theorem s_setg {m : Nat} (h : te σ H fun v H1 => D.nx (σ.set m (some v)) H1) : tAsg te (gName m) D σ H := h
theorem q_when (h : Ans c σ H b) (h1 : b = true → ts { D with nx := tu D } σ H) (h2 : b = false → tu D σ H) : tSeq (tIfS c ts tNext) tu D σ H := by
  refine h _ ?_
  cases b with
  | true => rw [if_pos rfl]; exact h1 rfl
  | false => rw [if_neg Bool.false_ne_true]; exact h2 rfl
theorem s_when (h : Ans c σ H b) (h1 : b = true → ts D σ H) (h2 : b = false → D.nx σ H) : tIfS c ts tNext D σ H := by
  refine h _ ?_
  cases b with
  | true => rw [if_pos rfl]; exact h1 rfl
  | false => rw [if_neg Bool.false_ne_true]; exact h2 rfl
theorem q_ife (h : Ans c σ H b) (h1 : b = true → ts { D with nx := tu D } σ H) (h2 : b = false → tw { D with nx := tu D } σ H) : tSeq (tIfS c ts tw) tu D σ H := by
  refine h _ ?_
  cases b with
  | true => rw [if_pos rfl]; exact h1 rfl
  | false => rw [if_neg Bool.false_ne_true]; exact h2 rfl
theorem s_ife (h : Ans c σ H b) (h1 : b = true → ts D σ H) (h2 : b = false → tw D σ H) : tIfS c ts tw D σ H := by
  refine h _ ?_
  cases b with
  | true => rw [if_pos rfl]; exact h1 rfl
  | false => rw [if_neg Bool.false_ne_true]; exact h2 rfl
/-- what stands behind an if, told once -/
theorem q_cutIf (M : St → Hp → Prop) (h : ts { D with nx := M } σ H) (k : ∀ σ' H', M σ' H' → tu D σ' H') (mono : ∀ N : St → Hp → Prop, (∀ σ' H', M σ' H' → N σ' H') → ts { D with nx := M } σ H → ts { D with nx := N } σ H) : tSeq ts tu D σ H := mono _ k h
theorem q_setL {xs : List V} {k : Nat} (hv : Val te σ H v) (ho : Val ta σ H (.ref p)) (hi : Val tb σ H (.int i)) (hl : H p = some (.lst xs)) (hk : ixN xs.length i = some k) (q : tu D σ (upd H p (.lst (xs.set k v)))) : tSeq (tAsg te (gSub ta tb rSetL)) tu D σ H := by
  refine hv _ ?_
  refine ho _ ?_
  refine hi _ ?_
  exact ⟨p, xs, i, k, rfl, rfl, hl, hk, q⟩
theorem s_setL {xs : List V} {k : Nat} (hv : Val te σ H v) (ho : Val ta σ H (.ref p)) (hi : Val tb σ H (.int i)) (hl : H p = some (.lst xs)) (hk : ixN xs.length i = some k) (q : D.nx σ (upd H p (.lst (xs.set k v)))) : tAsg te (gSub ta tb rSetL) D σ H := by
  refine hv _ ?_
  refine ho _ ?_
  refine hi _ ?_
  exact ⟨p, xs, i, k, rfl, rfl, hl, hk, q⟩
theorem s_ret (h : Val te σ H v) (q : D.rt v H) : tRet te D σ H := h _ q
theorem s_retg (h : te σ H D.rt) : tRet te D σ H := h
theorem q_fld (hv : Val tv σ H y) (ha : Val ta σ H (.ref a)) (ho : H a = some (.ins C dx fs)) (hc : Cls K C) (hn : NoAttr K C f) (hl : fs.length < 1000) (q : tu D σ (upd H a (.ins C dx (putF f y fs)))) : tSeq (sFld K ta tv f) tu D σ H := st_fld (D := { D with nx := tu D }) hv ha ho hc hn hl q
end
section
variable {σ : St} {H : Hp} {D : Ends} {tu ts : TS}
/-- a statement, then the rest, with a word between them -/
theorem q_cut (M : St → Hp → Prop) (h : ts { D with nx := M } σ H) (k : ∀ σ' H', M σ' H' → tu D σ' H') : Evl.tCut ts tu D σ H := ⟨M, h, k⟩
end
/-! ### heaps -/
/-- all but a is as it was -/
def But (a : Addr) (H H' : Hp) : Prop := ∀ b, b ≠ a → H' b = H b
theorem But.refl (a : Addr) (H : Hp) : But a H H := fun _ _ => rfl
theorem But.upd {a : Addr} {H : Hp} {o : HO} : But a H (upd H a o) := fun b h => upd_ne h
theorem But.trans {a : Addr} {H H1 H2 : Hp} (x : But a H H1) (y : But a H1 H2) : But a H H2 := fun b h => (y b h).trans (x b h)
/-- what was tracked stays, but for a -/
def Kp (a : Addr) (H H' : Hp) : Prop := ∀ b o, b ≠ a → H b = some o → H' b = some o
theorem Kp.refl (a : Addr) (H : Hp) : Kp a H H := fun _ _ _ e => e
theorem Kp.trans {a : Addr} {H H1 H2 : Hp} (x : Kp a H H1) (y : Kp a H1 H2) : Kp a H H2 := fun b o n e => y b o n (x b o n e)
theorem Kp.but {a : Addr} {H H' : Hp} (x : But a H H') : Kp a H H' := fun b o n e => by rw [x b n]; exact e
theorem Kp.of {a : Addr} {H H' : Hp} (x : Same H H') : Kp a H H' := fun b o _ e => x b o e
theorem same_upd {H : Hp} {p : Addr} {o : HO} (h : H p = none) : Same H (upd H p o) := fun b x e => by
  rw [upd_ne (ne_of_none e h)]
  exact e
theorem Same.of_kp {a : Addr} {H H' : Hp} (n : H a = none) (x : Kp a H H') : Same H H' := fun b o e => x b o (ne_of_none e n) e
theorem seqT {K : Frag} {H H' : Hp} {a : Addr} {xs : List V} (e : Same H H') (h : SqT K H a xs) : SqT K H' a xs := by
  rcases h with (h | ⟨o, h⟩) | h
  · exact .inl (.inl (e _ _ h))
  · exact .inl (.inr ⟨o, e _ _ h⟩)
  · exact .inr h
theorem ixN_lt {n k : Nat} (h : k < n) : ixN n (k : Int) = some k := by
  unfold ixN
  rw [if_pos (by omega), if_pos (by omega)]
  all_goals rfl
theorem at_map {α : Type} {g : α → V} {xs : List α} {k : Nat} {x : α} (h : xs[k]? = some x) : atI (xs.map g) (k : Int) = some (g x) := atI_nat (by rw [List.getElem?_map, h]; rfl)
theorem at_mod {ns : List Int} (i : Int) (h : 0 < ns.length) : ∃ c : Int, atI (ns.map V.int) (i % (((ns.map V.int).length : Nat) : Int)) = some (.int c) := by
  have hm : i % (((ns.map V.int).length : Nat) : Int) = (((i % ((ns.length : Nat) : Int)).toNat : Nat) : Int) := by
    rw [List.length_map]
    exact (Int.toNat_of_nonneg (Int.emod_nonneg _ (by omega))).symm
  have hlt : (i % ((ns.length : Nat) : Int)).toNat < ns.length := by
    have := Int.emod_lt_of_pos i (show (0 : Int) < (ns.length : Nat) by omega)
    have := Int.emod_nonneg i (show ((ns.length : Nat) : Int) ≠ 0 by omega)
    omega
  rw [hm]
  exact ⟨_, at_map (List.getElem?_eq_getElem hlt)⟩
/-! ### max(xs, default=d) -/
section
open PySem.W PyProof.Rows
theorem readsAll_ints {h : Heap} : ∀ {its : List Value} {ns : List Int}, IntsAre its ns → ∃ as, ReadsAll h its (ns.map PyData.int) as
  | _, _, .nil => ⟨_, .nil⟩
  | _, _, .cons n t h => by
    obtain ⟨as, r⟩ := readsAll_ints h
    exact ⟨_, .cons (Reads.int n t) r⟩
theorem depth_ints : ∀ ns : List Int, PyData.depthAll (ns.map PyData.int) ≤ 1
  | [] => by simp [PyData.depthAll]
  | n :: r => by
    have ih := depth_ints r
    simp only [List.map_cons, PyData.depthAll, PyData.depth]
    omega
theorem alike_ints (ns : List Int) : AlikeAll (ns.map PyData.int) := by
  refine ⟨fun x hx y hy => ?_, fun x hx => ?_⟩
  · obtain ⟨a, _, rfl⟩ := List.mem_map.mp hx
    obtain ⟨b, _, rfl⟩ := List.mem_map.mp hy
    rfl
  · obtain ⟨a, _, rfl⟩ := List.mem_map.mp hx
    exact fun z => nomatch z
def maxDf (d : Int) : List Int → Int
  | [] => d
  | y :: ys => ys.foldl max y
def rMaxDf (K : Frag) : List V → List V → Hp → VK → Prop := fun xs zs H Q => ∃ (a : Addr) (ns : List Int) (d : Int), xs = [.ref a] ∧ zs = [.int d] ∧ SqL K H a (ns.map V.int) ∧ Q (.int (maxDf d ns)) H
theorem cr_maxDf {X : Cx} (hc : X.calm = true) (hu : X.A.units + 2 < cLine) : CallRK X (.builtin "max") ["default"] (rMaxDf X.K) := by
  intro pins s σ H xs zs us ws Q I r rz h
  obtain ⟨a, ns, d, rfl, rfl, hs, q⟩ := h
  obtain ⟨its, rv, hl, _⟩ := I.list hs
  rw [Vals.ref1 r]
  cases rz with
  | cons r1 rn =>
    cases rn
    rename_i w0
    obtain ⟨as, hr⟩ := readsAll_ints (h := s.heap) rv.ints
    show wpAny _ _ (call (.builtin "max") [.ref a] [(Str.ofString "default", w0)]) _ _ _
    have hdep := depth_ints ns
    refine max_list_default (xs := ns.map PyData.int) (as := as) (I.ok.hd hc) hl.isList (by simpa using hr) (alike_ints ns) (by omega) (fun e h' tk hk => ?_) (fun y ys i v h' tk bs e hv hR hk => ?_)
    · have e0 : ns = [] := List.map_eq_nil_iff.mp e
      subst e0
      exact ⟨.int d, H, I.kept hk, r1, q⟩
    · cases ns with
      | nil => cases e
      | cons n r =>
        have e1 : PyData.int n = y ∧ r.map PyData.int = ys := by
          have := List.cons.inj e
          exact this
        obtain ⟨rfl, rfl⟩ := e1
        rw [maxD_ints] at hR
        cases hR
        exact ⟨.int _, H, I.kept hk, ⟨_, rfl⟩, q⟩
end
/-! ### slices and sums of tuples, whatever object comes -/
theorem cutV_whole {xs : List V} {lo hi : Option Int} (h : HT.sIx xs.length 0 lo = 0 ∧ HT.sIx xs.length xs.length hi = xs.length) : cutV xs lo hi = xs := by
  unfold cutV
  rw [h.1, h.2]
  simp
theorem slT_any {K : Frag} {H : Hp} {Q : VK} {a : Addr} {xs : List V} {lo hi : Option Int} (ha : SqT K H a xs) (k : ∀ p H', Same H H' → SqT K H' p (cutV xs lo hi) → Q (.ref p) H') : rSlA K (.ref a) lo hi H Q :=
  ⟨a, xs, rfl, ha, fun h => k a H (Same.refl _) (by rw [cutV_whole h]; exact ha), fun _ p hp => k p _ (same_upd hp) (SqT.of upd_same)⟩
theorem catA_any {K : Frag} {H : Hp} {Q : VK} {a b : Addr} {xs ys : List V} (ha : SqT K H a xs) (hb : SqT K H b ys) (hz : xs.length + ys.length ≤ sizeLine) (k : ∀ p H', Same H H' → SqT K H' p (xs ++ ys) → Q (.ref p) H') : rCatA K (.ref a) (.ref b) H Q :=
  ⟨a, b, xs, ys, rfl, rfl, ha, hb, hz, fun h => k b H (Same.refl _) (by rw [h]; exact hb), fun _ h => k a H (Same.refl _) (by rw [h, List.append_nil]; exact ha), fun _ _ p hp => k p _ (same_upd hp) (SqT.of upd_same)⟩
theorem cut_take {α : Type} (g : α → V) (xs : List α) (k : Nat) : cutV (xs.map g) none (some (k : Int)) = (xs.take k).map g := by
  unfold cutV
  rw [HT.sIx_none, HT.sIx_nat, List.length_map, List.drop_zero, Nat.sub_zero, ← List.map_take]
  congr 1
  rw [List.take_eq_take_iff]
  omega
theorem cut_drop {α : Type} (g : α → V) (xs : List α) (k : Nat) : cutV (xs.map g) (some (k : Int)) none = (xs.drop k).map g := by
  unfold cutV
  rw [HT.sIx_none, HT.sIx_nat, List.length_map, ← List.map_drop, ← List.map_take]
  congr 1
  by_cases h : k ≤ xs.length
  · rw [Nat.min_eq_left h, List.take_of_length_le (by rw [List.length_drop]; omega)]
  · rw [Nat.min_eq_right (by omega), List.drop_eq_nil_of_le (Nat.le_refl _), List.drop_eq_nil_of_le (by omega), List.take_nil]
/-! ### == of data -/
theorem dpAll_ints {K : Frag} {H : Hp} : ∀ ns : List Int, DpAll K H (ns.map V.int) (ns.map PyData.int)
  | [] => .nil
  | n :: r => .cons (.int n) (dpAll_ints r)
theorem lay_ints : ∀ ns : List Int, PyData.canLayAll0 (ns.map PyData.int) = true
  | [] => by simp [PyData.canLayAll0]
  | n :: r => by
    simp only [List.map_cons, PyData.canLayAll0, lay_ints r, PyData.canLay0, Bool.and_self]
theorem shaped_tup_ints (ns : List Int) : SeqAt.shaped (.tuple (ns.map PyData.int)) = true := by
  have h := depth_ints ns
  have h2 : PyData.depth (.tuple (ns.map PyData.int)) ≤ 64 := by
    rw [PyData.depth]
    omega
  unfold SeqAt.shaped
  rw [Bool.and_eq_true]
  exact ⟨by rw [PyData.canLay0]; exact lay_ints ns, decide_eq_true h2⟩
theorem shaped_lst_ints (ns : List Int) : SeqAt.shaped (.list (ns.map PyData.int)) = true := by
  have h := depth_ints ns
  have h2 : PyData.depth (.list (ns.map PyData.int)) ≤ 64 := by
    rw [PyData.depth]
    omega
  unfold SeqAt.shaped
  rw [Bool.and_eq_true]
  exact ⟨by rw [PyData.canLay0]; exact lay_ints ns, decide_eq_true h2⟩
theorem eqT_ints {K : Frag} {H : Hp} {Q : VK} {a b : Addr} {xs ys : List Int} (ha : SqT K H a (xs.map V.int)) (hb : SqT K H b (ys.map V.int)) (q : Q (.bl (decide (xs = ys))) H) : rEqD K (.ref a) (.ref b) H Q :=
  ⟨_, _, .tup ha (dpAll_ints xs), .tup hb (dpAll_ints ys), shaped_tup_ints xs, shaped_tup_ints ys, by
    have e : PyData.eqv (.tuple (xs.map PyData.int)) (.tuple (ys.map PyData.int)) = decide (xs = ys) := by
      rw [← PySem.W.ked_eqvAll]
      simp only [PyData.eqv]
    rw [e]
    exact q⟩
theorem eqL_ints {K : Frag} {H : Hp} {Q : VK} {a b : Addr} {xs ys : List Int} (ha : SqL K H a (xs.map V.int)) (hb : SqL K H b (ys.map V.int)) (q : Q (.bl (decide (xs = ys))) H) : rEqD K (.ref a) (.ref b) H Q :=
  ⟨_, _, .lst ha (dpAll_ints xs), .lst hb (dpAll_ints ys), shaped_lst_ints xs, shaped_lst_ints ys, by
    have e : PyData.eqv (.list (xs.map PyData.int)) (.list (ys.map PyData.int)) = decide (xs = ys) := by
      rw [← PySem.W.ked_eqvAll]
      simp only [PyData.eqv]
    rw [e]
    exact q⟩
theorem neL_ints {K : Frag} {H : Hp} {Q : VK} {a b : Addr} {xs ys : List Int} (ha : SqL K H a (xs.map V.int)) (hb : SqL K H b (ys.map V.int)) (q : Q (.bl (!decide (xs = ys))) H) : rNeD K (.ref a) (.ref b) H Q :=
  ⟨_, _, .lst ha (dpAll_ints xs), .lst hb (dpAll_ints ys), shaped_lst_ints xs, shaped_lst_ints ys, by
    have e : PyData.eqv (.list (xs.map PyData.int)) (.list (ys.map PyData.int)) = decide (xs = ys) := by
      rw [← PySem.W.ked_eqvAll]
      simp only [PyData.eqv]
    rw [e]
    exact q⟩
theorem neT_ints {K : Frag} {H : Hp} {Q : VK} {a b : Addr} {xs ys : List Int} (ha : SqT K H a (xs.map V.int)) (hb : SqT K H b (ys.map V.int)) (q : Q (.bl (!decide (xs = ys))) H) : rNeD K (.ref a) (.ref b) H Q :=
  ⟨_, _, .tup ha (dpAll_ints xs), .tup hb (dpAll_ints ys), shaped_tup_ints xs, shaped_tup_ints ys, by
    have e : PyData.eqv (.tuple (xs.map PyData.int)) (.tuple (ys.map PyData.int)) = decide (xs = ys) := by
      rw [← PySem.W.ked_eqvAll]
      simp only [PyData.eqv]
    rw [e]
    exact q⟩
/-! ### a range object with a step, held by a name -/
section
open PyProof.Rows
variable {X : Cx}
def rngHO (p : Addr) (i j c : Int) : HO := .ext fun h => ∃ t u v, h.get? p = some { cls := .type "range", data := .fields #[.int i t, .int j u, .int c v] }
def rRng3 : List V → Hp → VK → Prop := fun vs H Q => ∃ i j c : Int, vs = [.int i, .int j, .int c] ∧ c ≠ 0 ∧ c.natAbs < 1073741824 ∧ ∀ p, H p = none → Q (.ref p) (upd H p (rngHO p i j c))
theorem cr_range3 : CallR X (.type "range") rRng3 := by
  intro pins s σ H vs us Q I r h
  obtain ⟨i, j, c, rfl, c0, c1, q⟩ := h
  cases r with
  | cons r rr =>
    cases rr with
    | cons r' rr =>
      cases rr with
      | cons r'' rr =>
        cases rr
        obtain ⟨t, rfl⟩ := r
        obtain ⟨t', rfl⟩ := r'
        obtain ⟨t'', rfl⟩ := r''
        refine call_range_3 c0 ?_ (.inl (PyProof.noPylong_small c1))
        have hf : H s.heap.objs.size = none := I.hok.fresh (Nat.le_refl _)
        refine ⟨.ref s.heap.objs.size, upd H s.heap.objs.size (rngHO s.heap.objs.size i j c), I.laid (t' := s.toks) (fun b u e => Heap.get?_push_of_some _ e) (Nat.le_refl _) ?_, rfl, q _ hf⟩
        exact ⟨⟨_, _, _, Heap.get?_push_size _ rfl⟩, ⟨_, Heap.get?_push_size _ rfl⟩, fun h1 h2 ⟨a, b, d, e⟩ k => ⟨a, b, d, k _ e⟩⟩
def iRngV (tl : TE) : TI := fun σ H R => tl σ H fun x H1 => ∃ (p : Addr) (i j c : Int) (n : Nat), x = .ref p ∧ H1 p = some (rngHO p i j c) ∧ RgC i j c n ∧ R (Itc i c n) H1
theorem pi_rngV {tg l : Expr} {tl : TE} (hl : PE X l tl) : PI X tg l (iRngV tl) := by
  refine ⟨fun pins s σ H R I h => ?_⟩
  refine thn (hl.run pins s σ H _ I h) fun v s1 ⟨x, H1, I1, r1, q1⟩ => ?_
  obtain ⟨p, i, j, k, n, e, ep, ⟨c0, c1, c2, c3⟩, q⟩ := q1
  subst e
  cases r1
  obtain ⟨⟨t, u, w1, hp⟩, _, _⟩ := I1.hok p _ ep
  refine wpAny_pyIter_range (show IsRange s1.heap p i j k t u w1 from hp) c2 ?_
  refine pi_one (tk := s1.toks) I1 _ (turn_rangeC _ i k n) ?_ q
  have e1 : i + ((0 : Nat) : Int) * k = i := by simp
  have e2 : (n : Int) - ((0 : Nat) : Int) = Builtin.Range.rangeSize i j k := by rw [c3]; simp
  show IsRangeIter _ _ (i + ((0 : Nat) : Int) * k) ((n : Int) - ((0 : Nat) : Int)) k
  rw [e1, e2]
  exact Heap.get?_push_size _ rfl
end
theorem lc_rangeC {lo c : Int} {n : Nat} {g : TG} {tt : TT} {te : TE} {vs : List Nat} {σ : St} {H1 : Hp} {D : Addr} {Qd : Hp → Prop} (Pv : Nat → Hp → Prop) (h0 : Pv 0 (upd H1 D (.lst [])))
    (hs : ∀ (i : Nat) H, i < n → Pv i H → g (.int (lo + (i : Int) * c)) (wipe σ vs) H fun σ2 H2 => wipe σ2 vs = wipe σ vs ∧ tt σ2 H2 fun b H3 =>
      if b = true then te σ2 H3 fun y H4 => ∃ acc, H4 D = some (.lst acc) ∧ acc.length < sizeLine ∧ Pv (i + 1) (upd H4 D (.lst (acc ++ [y]))) else Pv (i + 1) H3) (hd : ∀ H, Pv n H → Qd H) :
    ∃ W : Nat → Nat → Hp → Prop, (∃ m, W 0 m (upd H1 D (.lst []))) ∧ ∀ i m H, W i m H →
      ((Itc lo c n).stop i H ∧ Qd H) ∨ ((Itc lo c n).go i H ∧ ∃ Nx : Hp → Prop, (∀ H', Nx H' → ∃ m', m' < m ∧ W (i + 1) m' H') ∧ ∀ x H', (Itc lo c n).yld i H x H' → g x (wipe σ vs) H' fun σ2 H2 => wipe σ2 vs = wipe σ vs ∧ tt σ2 H2 fun b H3 =>
        if b = true then te σ2 H3 fun y H4 => ∃ acc, H4 D = some (.lst acc) ∧ acc.length < sizeLine ∧ Nx (upd H4 D (.lst (acc ++ [y]))) else Nx H3) := by
  refine ⟨fun i m H => m = n - i ∧ i ≤ n ∧ Pv i H, ⟨n, by simp, Nat.zero_le _, h0⟩, ?_⟩
  rintro i m H ⟨rfl, hi, p⟩
  by_cases hlt : i < n
  · refine .inr ⟨hlt, Pv (i + 1), fun H' p' => ⟨n - (i + 1), by omega, rfl, hlt, p'⟩, fun x H' y => ?_⟩
    obtain ⟨e, y⟩ := y
    subst e y
    exact hs i _ hlt p
  · have e : i = n := by omega
    subst e
    exact .inl ⟨Nat.le_refl _, hd H p⟩
/-- a range up by twos -/
theorem rgC_two {i : Int} {n : Nat} (h0 : 0 ≤ i) (h1 : i < 2 ^ 40) (h2 : n < 1000000) : RgC i (i + 2 * (n : Int)) 2 n := by
  have hz : Builtin.Range.rangeSize i (i + 2 * (n : Int)) 2 = (n : Int) := by
    unfold Builtin.Range.rangeSize
    simp only [show (2 : Int) > 0 by decide, if_true]
    split <;> omega
  refine ⟨by decide, by decide, ?_, hz⟩
  unfold Builtin.Range.small Builtin.Range.rangeFitsLong
  rw [hz, if_pos (show (2 : Int) > 0 by decide)]
  simp only [Bool.and_eq_true, Bool.or_eq_true, decide_eq_true_eq]
  refine ⟨⟨⟨⟨?_, ?_⟩, ?_⟩, ?_⟩, .inr ?_⟩ <;> omega
end Nv

namespace Nv
open PySem L2
/-- the drawing state: made at st since H0; the script at sc -/
structure Dr (K : Frag) (H0 H : Hp) (st sc : Addr) (ns : List Int) : Prop where
  sq : SqL K H0 sc (ns.map V.int)
  same : Same H0 H
  new : H0 st = none
  ex : ∃ i d : Int, 0 ≤ i ∧ 0 ≤ d ∧ H st = some (.lst [.int i, .int d])
theorem Dr.kp {K : Frag} {H0 H H' : Hp} {st sc : Addr} {ns : List Int} (d : Dr K H0 H st sc ns) (h : Same H H') : Dr K H0 H' st sc ns := by
  obtain ⟨i, j, hi, hj, e⟩ := d.ex
  exact ⟨d.sq, d.same.trans h, d.new, i, j, hi, hj, h _ _ e⟩
theorem Dr.put {K : Frag} {H0 H : Hp} {st sc : Addr} {ns : List Int} {i j : Int} (d : Dr K H0 H st sc ns) (hi : 0 ≤ i) (hj : 0 ≤ j) : Dr K H0 (upd H st (.lst [.int i, .int j])) st sc ns :=
  ⟨d.sq, fun b o e => by rw [upd_ne (ne_of_none e d.new)]; exact d.same b o e, d.new, i, j, hi, hj, upd_same⟩
theorem Dr.seq {K : Frag} {H0 H : Hp} {st sc : Addr} {ns : List Int} (d : Dr K H0 H st sc ns) : SqL K H sc (ns.map V.int) := d.same.seq d.sq
/-- the law's helper that draws: a number below n; the state alone changes -/
def spDraw (K : Frag) : Sp := fun vs H Q _ => ∃ (st sc : Addr) (n : Int) (H0 : Hp) (ns : List Int), vs = [.ref st, .ref sc, .int n] ∧ 0 < n ∧ n.natAbs < 2 ^ 64 ∧ Dr K H0 H st sc ns ∧
  ∀ (r : Int) (H' : Hp), 0 ≤ r → r < n → But st H H' → Dr K H0 H' st sc ns → Q (.int r) H'
end Nv

namespace K01
open PySem L2 Nv
def top (i : Nat) : Stmt := PySem.Challenge.pw_nearvault_k01_distances.main.body.getD i (.Pass ⟨0, 0, 0, 0⟩)
abbrev s_distance : Stmt := top 2
abbrev s_law_is_integer : Stmt := top 4
abbrev s_law_draw : Stmt := top 5
abbrev s_law_point : Stmt := top 6
abbrev s_law_spanned : Stmt := top 7
abbrev s_law_far : Stmt := top 9
abbrev s_law : Stmt := top 10
theorem sc_distance : FnScope ["metric", "a", "b", "differences", "x", "y", "difference"] ["metric", "a", "b"] (defScope s_distance) := ⟨rfl, rfl, rfl, by decide +kernel, rfl, by decide +kernel, by decide +kernel⟩
theorem sc_law_is_integer : FnScope ["actual"] ["actual"] (defScope s_law_is_integer) := ⟨rfl, rfl, rfl, by decide +kernel, rfl, by decide +kernel, by decide +kernel⟩
theorem sc_law_draw : FnScope ["state", "script", "size", "cell", "mixed", "digit"] ["state", "script", "size"] (defScope s_law_draw) := ⟨rfl, rfl, rfl, by decide +kernel, rfl, by decide +kernel, by decide +kernel⟩
theorem sc_law_point : FnScope ["state", "script", "many", "span", "k"] ["state", "script", "many", "span"] (defScope s_law_point) := ⟨rfl, rfl, rfl, by decide +kernel, rfl, by decide +kernel, by decide +kernel⟩
theorem sc_law_spanned : FnScope ["state", "script"] ["state", "script"] (defScope s_law_spanned) := ⟨rfl, rfl, rfl, by decide +kernel, rfl, by decide +kernel, by decide +kernel⟩
theorem sc_law_far : FnScope ["metric", "a", "b", "total", "k", "gap"] ["metric", "a", "b"] (defScope s_law_far) := ⟨rfl, rfl, rfl, by decide +kernel, rfl, by decide +kernel, by decide +kernel⟩
theorem sc_law : FnScope ["script", "state", "many", "span", "a", "b", "c", "k", "metric", "there"] ["script"] (defScope s_law) := ⟨rfl, rfl, rfl, by decide +kernel, rfl, by decide +kernel, by decide +kernel⟩
structure Txt (K : PySem.W.Frag) (mg : Str → Option Value) where
  f_distance : Addr
  fd_distance : FuncData
  F_distance : Fun K "distance" "distance" s_distance f_distance fd_distance
  b_distance : Binds K fd_distance ["metric", "a", "b"] []
  g_distance : mg "distance" = some (.ref f_distance)
  f_law_is_integer : Addr
  fd_law_is_integer : FuncData
  F_law_is_integer : Fun K "_law_is_integer" "_law_is_integer" s_law_is_integer f_law_is_integer fd_law_is_integer
  b_law_is_integer : Binds K fd_law_is_integer ["actual"] []
  g_law_is_integer : mg "_law_is_integer" = some (.ref f_law_is_integer)
  f_law_draw : Addr
  fd_law_draw : FuncData
  F_law_draw : Fun K "_law_draw" "_law_draw" s_law_draw f_law_draw fd_law_draw
  b_law_draw : Binds K fd_law_draw ["state", "script", "size"] []
  g_law_draw : mg "_law_draw" = some (.ref f_law_draw)
  f_law_point : Addr
  fd_law_point : FuncData
  F_law_point : Fun K "_law_point" "_law_point" s_law_point f_law_point fd_law_point
  b_law_point : Binds K fd_law_point ["state", "script", "many", "span"] []
  g_law_point : mg "_law_point" = some (.ref f_law_point)
  f_law_spanned : Addr
  fd_law_spanned : FuncData
  F_law_spanned : Fun K "_law_spanned" "_law_spanned" s_law_spanned f_law_spanned fd_law_spanned
  b_law_spanned : Binds K fd_law_spanned ["state", "script"] []
  g_law_spanned : mg "_law_spanned" = some (.ref f_law_spanned)
  f_law_far : Addr
  fd_law_far : FuncData
  F_law_far : Fun K "_law_far" "_law_far" s_law_far f_law_far fd_law_far
  b_law_far : Binds K fd_law_far ["metric", "a", "b"] []
  g_law_far : mg "_law_far" = some (.ref f_law_far)
  f_law : Addr
  fd_law : FuncData
  F_law : Fun K "law" "law" s_law f_law fd_law
  b_law : Binds K fd_law ["script"] []
  g_law : mg "law" = some (.ref f_law)
  z_len : mg "len" = none
  z_tuple : mg "tuple" = none
  z_range : mg "range" = none
  z_abs : mg "abs" = none
  z_sum : mg "sum" = none
  z_max : mg "max" = none
  z_isinstance : mg "isinstance" = none
  z_int : mg "int" = none
  z_zip : mg "zip" = none
  z_bool : mg "bool" = none
  a_METRICS : Addr
  g_METRICS : mg "METRICS" = some (.ref a_METRICS)
  t_METRICS : ∀ H : Hp, SqT K H a_METRICS [.str "sum", .str "greatest", .str "unlike"]

end K01


namespace K01
open PySem L2 Nv RZ
local macro_rules | `(tactic| walk_at "hp") => `(tactic| first
  | assumption
  | exact upd_same
  | exact (upd_ne (by assumption)).trans (by first | assumption | exact upd_same | exact (upd_ne (by assumption)).trans (by first | assumption | exact upd_same))
  | exact (upd_ne (Ne.symm (by assumption))).trans (by first | assumption | exact upd_same))
local macro_rules | `(tactic| walk_at "cond") => `(tactic| first
  | (change (0 : Int) < _; first | decide | omega)
  | exact Or.inr ⟨by decide, by decide⟩
  | exact Or.inl ⟨by decide, by decide⟩
  | exact Or.inr ⟨by omega, by omega⟩
  | exact Or.inl ⟨by omega, by omega⟩
  | exact ⟨by decide, by decide, by decide⟩
  | exact wide_div (by first | decide | omega) (show _ < 2 ^ 64 by first | decide | omega) (by decide) (by decide)
  | (change (0 : Int) ≤ _; first | decide | omega)
  | exact ⟨by decide, by decide⟩
  | exact ⟨by omega, by omega⟩)
local macro_rules | `(tactic| walk_at "val") => `(tactic| first
  | (with_reducible exact val_c)
  | ((with_reducible apply val_var); exact rfl)
  | ((with_reducible apply val_I0); walk_at "val"; walk_at "val")
  | ((with_reducible apply val_I); walk_at "val"; walk_at "val"; walk_at "cond")
  | ((with_reducible apply val_ixL); walk_at "val"; walk_at "val"; (first | exact SqL.of (by walk_at "hp") | assumption); exact rfl)
  | ((with_reducible apply val_len); walk_at "val"; first | exact Or.inl (SqL.of (by walk_at "hp")) | exact Or.inl (by assumption) | exact Or.inr (by assumption) | exact Or.inr (SqT.of (by walk_at "hp")))
  | ((with_reducible apply val_int1); walk_at "val")
  | ((with_reducible apply val_abs); walk_at "val")
  | ((with_reducible apply val_max2); walk_at "val"; walk_at "val")
  | ((with_reducible apply val_eq); walk_at "val"; walk_at "val"; exact rfl)
  | ((with_reducible apply val_ne); walk_at "val"; walk_at "val"; exact rfl)
  | ((with_reducible apply val_not); walk_at "val")
  | ((with_reducible apply val_U); walk_at "val"))
local macro_rules | `(tactic| walk_at "ans") => `(tactic| first
  | ((with_reducible apply ans_Eq); walk_at "val"; walk_at "val"; exact rfl)
  | ((with_reducible apply ans_Ne); walk_at "val"; walk_at "val"; exact rfl)
  | ((with_reducible apply ans_I0); walk_at "val"; walk_at "val"; exact rfl)
  | ((with_reducible refine ans_And ?_ (fun _ => ?_)); walk_at "ans"; walk_at "ans")
  | ((with_reducible refine ans_or2 ?_ (fun _ => ?_)); walk_at "ans"; walk_at "ans")
  | ((with_reducible refine ans_not ?_); walk_at "ans")
  | ((with_reducible apply ans_val); walk_at "val"))
local macro_rules | `(tactic| walk_at "nrm") => `(tactic| (try dsimp only [List.set_cons_zero, List.set_cons_succ]))
local macro_rules | `(tactic| walk_at "set") => `(tactic| first
  | ((with_reducible apply q_set); walk_at "val"; walk_at "nrm")
  | ((with_reducible apply s_set); walk_at "val"; walk_at "nrm"))
local macro_rules | `(tactic| walk_at "setL") => `(tactic| first
  | ((with_reducible apply q_setL); walk_at "val"; walk_at "val"; walk_at "val"; walk_at "hp"; exact rfl; walk_at "nrm")
  | ((with_reducible apply s_setL); walk_at "val"; walk_at "val"; walk_at "val"; walk_at "hp"; exact rfl; walk_at "nrm"))
local macro_rules | `(tactic| walk_at "ff") => `(tactic| (walk_at "nrm"; rw [if_neg (by decide)]; (try ((with_reducible refine st_next ?_); walk_at "nrm"))))
local macro_rules | `(tactic| walk_at "nok") => `(tactic| (refine ⟨_, rfl, rfl, _, rfl, ?_⟩; walk_at "nrm"; rw [if_neg (by decide)]))
local macro_rules | `(tactic| walk_at "yesk") => `(tactic| (refine ⟨_, rfl, rfl, _, rfl, ?_⟩; walk_at "nrm"; rw [if_pos (by decide)]))
local macro_rules | `(tactic| walk_at "no") => `(tactic| (walk_at "nrm"; rw [if_neg (by decide)]; walk_at "nrm"))
local macro_rules | `(tactic| walk_at "yes") => `(tactic| (walk_at "nrm"; rw [if_pos (by decide)]; walk_at "nrm"))
local macro_rules | `(tactic| walk_at "nos") => `(tactic| (walk_at "nrm"; repeat (rw [if_neg (by decide)]; walk_at "nrm"); (try ((with_reducible refine st_next ?_); walk_at "nrm"))))

section
variable {P : Program} {w : World} {K : PySem.W.Frag} {mg : Str → Option Value} {base : Heap}
theorem ok_law_draw (T : Txt K mg) : FnOk P w K mg base CX0 1 T.f_law_draw T.fd_law_draw ["state", "script", "size"] (spDraw K) := by
  refine T.F_law_draw.ok sc_law_draw (fun vs H Q E h => ?_) (fun cdv A outer s H vs Q E hr h => ?_)
  · obtain ⟨_, _, _, _, _, rfl, _⟩ := h
    rfl
  obtain ⟨st, sc, n, H0, ns, rfl, hn, hn2, D, q⟩ := h
  refine ⟨_, (Evl.pss_cut (ps_if (pt_cmpR op_eq (pe_ix ix_list (pv 0) pe_int (fun _ _ => rfl)) pe_int (nomark _))
        (pss_cons (ps_set (i := 3) sc_law_draw.nd rfl (by first | exact Or.inl rfl | exact Or.inr rfl) pe_int)
        (Evl.pss_cut (ps_if (pt_cmpR op_gt (pe_callB call_len_seq (by rfl) T.z_len (by decide +kernel) (pa_cons (pv 1) pa_nil)) pe_int (nomark _))
          (pss_one (ps_set (i := 3) sc_law_draw.nd rfl (by first | exact Or.inl rfl | exact Or.inr rfl) (pe_ix ix_list (pv 1) (pe_op op_mod (pe_ix ix_list (pv 0) pe_int (fun _ _ => rfl)) (pe_callB call_len_seq (by rfl) T.z_len (by decide +kernel) (pa_cons (pv 1) pa_nil))) (fun _ _ => rfl))))
          pss_nil)
        (Evl.pss_cut (ps_if (pt_cmpR op_lt (pv 3) pe_int (nomark _))
          (pss_one (ps_set (i := 3) sc_law_draw.nd rfl (by first | exact Or.inl rfl | exact Or.inr rfl) (pe_op op_sub pe_int (pe_op op_mul pe_int (pv 3)))))
          pss_nil)
        (pss_cons (ps_set (i := 4) sc_law_draw.nd rfl (by first | exact Or.inl rfl | exact Or.inr rfl) (pe_op op_mod (pe_callTy call_int1 (by rfl) T.z_int (by decide +kernel) (pa_cons (pe_op op_mul (pe_op op_add (pe_op op_add (pv 3) (pe_op op_mul (pe_ix ix_list (pv 0) pe_int (fun _ _ => rfl)) pe_int)) pe_int) pe_int) pa_nil)) pe_int))
        (pss_cons (ps_asg (pe_op op_mod (pe_callTy call_int1 (by rfl) T.z_int (by decide +kernel) (pa_cons (pe_op op_add (pe_op op_mul (pv 4) pe_int) (pe_op op_mul (pe_ix ix_list (pv 0) pe_int (fun _ _ => rfl)) pe_int)) pa_nil)) pe_int) (pg_sub (pv 0) pe_int set_list))
        (Evl.pss_cut (ps_if (PW.pt (pw_and (pt_cmpR op_ge (pv 3) (pe_op op_pow pe_int pe_int) (nomark _)) (pw_and1 (pt_cmpR op_lt (pe_ix ix_list (pv 0) pe_int (fun _ _ => rfl)) (pe_callB call_len_seq (by rfl) T.z_len (by decide +kernel) (pa_cons (pv 1) pa_nil)) (nomark _)))))
          (pss_one (ps_asg (pv 3) (pg_sub (pv 0) pe_int set_list)))
          pss_nil)
        (pss_one (ps_asg (pe_op op_add (pe_ix ix_list (pv 0) pe_int (fun _ _ => rfl)) pe_int) (pg_sub (pv 0) pe_int set_list)))))))))
        pss_nil)
      (pss_cons (ps_set (i := 5) sc_law_draw.nd rfl (by first | exact Or.inl rfl | exact Or.inr rfl) (pe_op op_mod (pe_callTy call_int1 (by rfl) T.z_int (by decide +kernel) (pa_cons (pe_ix ix_list (pv 0) pe_int (fun _ _ => rfl)) pa_nil)) (pv 2)))
      (pss_cons (ps_asg (pe_op op_fdivW (pe_ix ix_list (pv 0) pe_int (fun _ _ => rfl)) (pv 2)) (pg_sub (pv 0) pe_int set_list))
      (pss_one (ps_ret (pv 5)))))), ?_⟩
  (try dsimp only [cxOf])
  rw [show start ["state", "script", "size", "cell", "mixed", "digit"] [.ref st, .ref sc, .int n] = [some (.ref st), some (.ref sc), some (.int n), none, none, none] from rfl]
  obtain ⟨i, d, hi, hd, e⟩ := D.ex
  have hS := D.seq
  refine q_cut (fun σ' H' => ∃ (i d : Int) (c3 c4 : Option V), σ' = [some (.ref st), some (.ref sc), some (.int n), c3, c4, none] ∧ 0 ≤ i ∧ 0 ≤ d ∧ But st H H' ∧ Dr K H0 H' st sc ns ∧ H' st = some (.lst [.int i, .int d])) ?_ ?_
  · refine s_when (b := decide (V.int d = V.int 0)) (by walk_at "ans") (fun hb => ?_) (fun hb => ⟨i, d, none, none, rfl, hi, hd, But.refl _ _, D, e⟩)
    refine q_set (v := .int 0) (by walk_at "val") ?_
    walk_at "nrm"
    refine q_cut (fun σ' H' => H' = H ∧ ∃ c : Int, σ' = [some (.ref st), some (.ref sc), some (.int n), some (.int c), none, none]) ?_ ?_
    · refine s_when (b := decide ((0 : Int) < ((ns.map V.int).length : Nat))) (by walk_at "ans") (fun hb => ?_) (fun hb => ⟨rfl, 0, rfl⟩)
      have h0 : 0 < ns.length := by
        have h1 := of_decide_eq_true hb
        rw [List.length_map] at h1
        omega
      obtain ⟨c, hc⟩ := at_mod i h0
      refine s_set (v := .int c) ?_ ⟨rfl, _, rfl⟩
      refine val_ixL (xs := ns.map V.int) (i := i % (((ns.map V.int).length : Nat) : Int)) (val_var rfl) ?_ hS hc
      refine val_I (val_ixL (val_var rfl) val_c (SqL.of e) rfl) (val_len (val_var rfl) (.inl hS)) ?_
      show (0 : Int) < _
      rw [List.length_map]
      omega
    rintro σ' H' ⟨rfl, c, rfl⟩
    refine q_cut (fun σ' H'' => H'' = H' ∧ ∃ c : Int, 0 ≤ c ∧ σ' = [some (.ref st), some (.ref sc), some (.int n), some (.int c), none, none]) ?_ ?_
    · refine s_when (b := decide (c < 0)) (by walk_at "ans") (fun hb => ?_) (fun hb => ⟨rfl, c, by have := of_decide_eq_false hb; omega, rfl⟩)
      have hc := of_decide_eq_true hb
      refine s_set (v := .int (1 - 2 * c)) (by walk_at "val") ⟨rfl, _, by omega, rfl⟩
    rintro σ' H'' ⟨rfl, c, hc, rfl⟩
    walk_at "set"
    walk_at "setL"
    generalize hm : (_ : Int) % 4294967291 = m5
    have hm5 : 0 ≤ m5 := by rw [← hm]; exact Int.emod_nonneg _ (by decide)
    refine q_cut (fun σ' H' => ∃ d' : Int, 0 ≤ d' ∧ But st H'' H' ∧ H' st = some (.lst [.int i, .int d']) ∧ ∃ c4, σ' = [some (.ref st), some (.ref sc), some (.int n), some (.int c), c4, none]) ?_ ?_
    · have e2 : (upd H'' st (.lst [V.int i, V.int m5])) st = some (.lst [.int i, .int m5]) := upd_same
      have hS2 : SqL K (upd H'' st (.lst [V.int i, V.int m5])) sc (ns.map V.int) := (D.put hi hm5).seq
      refine s_when (b := decide ((10 : Int) ^ (18 : Int).toNat ≤ c) && decide (i < ((ns.map V.int).length : Nat))) (by walk_at "ans") (fun hb => ?_) (fun hb => ⟨m5, hm5, But.upd, upd_same, _, rfl⟩)
      walk_at "setL"
      exact ⟨c, hc, But.upd.trans But.upd, upd_same, _, rfl⟩
    rintro σ' H' ⟨d', hd', hB, e', c4, rfl⟩
    walk_at "setL"
    exact ⟨i + 1, d', _, _, rfl, by omega, hd', hB.trans But.upd, ⟨D.sq, fun b o h => by rw [upd_ne (ne_of_none h D.new), hB b (ne_of_none h D.new)]; exact D.same b o h, D.new, i + 1, d', by omega, hd', upd_same⟩, upd_same⟩
  · rintro σ' H' ⟨i, d, c3, c4, rfl, hi, hd, hB, D, e⟩
    refine q_set (by walk_at "val") ?_
    walk_at "nrm"
    refine q_setL (by walk_at "val") (by walk_at "val") (by walk_at "val") e (k := 1) rfl ?_
    refine s_ret (val_var rfl) ?_
    refine q _ _ (Int.emod_nonneg _ (by omega)) (Int.emod_lt_of_pos _ hn) (hB.trans But.upd) ?_
    exact D.put hi (Int.ediv_nonneg hd (by omega))

/-- an int is one -/
def spIsInt : Sp := fun vs H Q _ => ∃ i : Int, vs = [.int i] ∧ Q (.bl true) H
theorem ok_law_is_integer (T : Txt K mg) : FnOk P w K mg base CX0 1 T.f_law_is_integer T.fd_law_is_integer ["actual"] spIsInt := by
  refine T.F_law_is_integer.ok sc_law_is_integer (fun vs H Q E h => ?_) (fun cdv A outer s H vs Q E hr h => ?_)
  · obtain ⟨_, rfl, _⟩ := h
    rfl
  obtain ⟨i, rfl, q⟩ := h
  refine ⟨_, (pss_one (ps_ret (pe_and (pe_callB call_isi (by rfl) T.z_isinstance (by decide +kernel) (pa_cons (pv 0) (pa_cons (pe_bltn (by rfl) T.z_int (by decide +kernel) (show RelV (.ty "int") _ from rfl)) pa_nil))) (pe_one (pe_not (pe_callB call_isi (by rfl) T.z_isinstance (by decide +kernel) (pa_cons (pv 0) (pa_cons (pe_bltn (by rfl) T.z_bool (by decide +kernel) (show RelV (.ty "bool") _ from rfl)) pa_nil)))))))), ?_⟩
  (try dsimp only [cxOf])
  rw [show start ["actual"] [.int i] = [some (.int i)] from rfl]
  refine ⟨_, rfl, ⟨_, _, _, _, true, rfl, .ty "int", .base (.int i), kit_ty (by decide +kernel), ?_⟩⟩
  refine ⟨true, rfl, ?_⟩
  rw [if_pos rfl]
  refine ⟨_, rfl, ⟨_, _, _, _, false, rfl, .ty "bool", .base (.int i), kit_ty (by decide +kernel), ?_⟩⟩
  exact ⟨false, rfl, q⟩

/-- the spans -/
def spSpan (K : Frag) : Sp := fun vs H Q _ => ∃ (st sc : Addr) (H0 : Hp) (ns : List Int), vs = [.ref st, .ref sc] ∧ Dr K H0 H st sc ns ∧
  ∀ (r : Int) (H' : Hp), 0 ≤ r → r ≤ 32767 → Kp st H H' → Dr K H0 H' st sc ns → Q (.int r) H'
theorem ok_law_spanned (T : Txt K mg) : FnOk P w K mg base CX0 2 T.f_law_spanned T.fd_law_spanned ["state", "script"] (spSpan K) := by
  refine T.F_law_spanned.ok sc_law_spanned (fun vs H Q E h => ?_) (fun cdv A outer s H vs Q E hr h => ?_)
  · obtain ⟨_, _, _, _, rfl, _⟩ := h
    rfl
  obtain ⟨st, sc, H0, ns, rfl, D, q⟩ := h
  refine ⟨_, (pss_one (ps_ret (pe_ix ix_list (pe_lst (pa_cons pe_int (pa_cons pe_int (pa_cons pe_int (pa_cons pe_int pa_nil))))) (pe_call (ok_law_draw T) (hr.mono (by decide)) (by rfl) T.g_law_draw T.F_law_draw.kp T.b_law_draw .nil pass0 (pa_cons (pv 0) (pa_cons (pv 1) (pa_cons pe_int pa_nil)))) (fun _ _ => rfl)))), ?_⟩
  (try dsimp only [cxOf])
  rw [show start ["state", "script"] [.ref st, .ref sc] = [some (.ref st), some (.ref sc)] from rfl]
  refine ⟨by show 4 ≤ sizeLine; decide, fun p hp => ?_⟩
  have s1 : Same H (upd H p (.lst [.int 2, .int 9, .int 200, .int 32767])) := same_upd hp
  refine ⟨_, rfl, _, rfl, st, sc, 4, H0, ns, rfl, by decide, by decide, D.kp s1, fun r H' h0 h1 hB D' => ?_⟩
  have hpst : p ≠ st := fun e => by
    obtain ⟨i, d, _, _, e'⟩ := D.ex
    rw [e, e'] at hp
    cases hp
  have hp' : H' p = some (.lst [.int 2, .int 9, .int 200, .int 32767]) := by
    rw [hB p hpst]
    exact upd_same
  have kp : Kp st H H' := (Kp.of s1).trans (Kp.but hB)
  have cases4 : r = 0 ∨ r = 1 ∨ r = 2 ∨ r = 3 := by omega
  rcases cases4 with rfl | rfl | rfl | rfl
  · exact ⟨p, _, 0, .int 2, rfl, rfl, SqL.of hp', rfl, q _ _ (by decide) (by decide) kp D'⟩
  · exact ⟨p, _, 1, .int 9, rfl, rfl, SqL.of hp', rfl, q _ _ (by decide) (by decide) kp D'⟩
  · exact ⟨p, _, 2, .int 200, rfl, rfl, SqL.of hp', rfl, q _ _ (by decide) (by decide) kp D'⟩
  · exact ⟨p, _, 3, .int 32767, rfl, rfl, SqL.of hp', rfl, q _ _ (by decide) (by decide) kp D'⟩
/-- a drawn point -/
def spPoint (K : Frag) : Sp := fun vs H Q _ => ∃ (st sc : Addr) (m : Nat) (z : Int) (H0 : Hp) (ns : List Int), vs = [.ref st, .ref sc, .int (m : Int), .int z] ∧ m ≤ 1000 ∧ 0 ≤ z ∧ z ≤ 40000 ∧ Dr K H0 H st sc ns ∧
  ∀ (xs : List Int) (p : Addr) (H' : Hp), xs.length = m → H p = none → p ≠ st → H' p = some (.tup (xs.map V.int)) → Kp st H H' → Dr K H0 H' st sc ns → Q (.ref p) H'
theorem ok_law_point (T : Txt K mg) : FnOk P w K mg base CX0 2 T.f_law_point T.fd_law_point ["state", "script", "many", "span"] (spPoint K) := by
  refine T.F_law_point.ok sc_law_point (fun vs H Q E h => ?_) (fun cdv A outer s H vs Q E hr h => ?_)
  · obtain ⟨_, _, _, _, _, _, rfl, _⟩ := h
    rfl
  obtain ⟨st, sc, m, z, H0, ns, rfl, hm, hz0, hz1, D, q⟩ := h
  refine ⟨_, (pss_one (ps_ret (pe_callTy call_tuple_of (by rfl) T.z_tuple (by decide +kernel) (pa_cons (pe_lc (own := [("k", 4)]) (g := gName 4) (by rfl) sc_law_point.nd (pi_range1 (by rfl) T.z_range (pa_cons (pv 2) pa_nil)) (blkOk_by (own := [("k", 4)]) (N := ["state", "script", "many", "span", "k"]) (sc := defScope s_law_point) (by decide +kernel)) (fun _ _ _ _ _ => pg_name (i := 4) sc_law_point.nd rfl (by first | exact Or.inl rfl | exact Or.inr rfl)) (fun _ _ _ _ _ => pts_nil) (fun _ _ _ _ _ => pe_op op_sub (pe_op op_sub (pe_call (ok_law_draw T) (hr.mono (by decide)) (by rfl) T.g_law_draw T.F_law_draw.kp T.b_law_draw .nil pass0 (pa_cons (pv 0) (pa_cons (pv 1) (pa_cons (pe_op op_add (pe_op op_mul pe_int (pv 3)) pe_int) pa_nil)))) (pv 3)) pe_int)) pa_nil)))), ?_⟩
  (try dsimp only [cxOf])
  rw [show start ["state", "script", "many", "span", "k"] [.ref st, .ref sc, .int (m : Int), .int z] = [some (.ref st), some (.ref sc), some (.int (m : Int)), some (.int z), none] from rfl]
  have nst : ∀ {b : Addr} {H1 : Hp}, Dr K H0 H1 st sc ns → H1 b = none → b ≠ st := fun D1 h e => by
    obtain ⟨i, d, _, _, e'⟩ := D1.ex
    rw [e, e'] at h
    cases h
  refine ⟨_, rfl, (m : Int), rfl, by omega, by omega, fun l hl => ?_⟩
  have lst : l ≠ st := nst D hl
  rw [show (m : Int).toNat = m from by omega]
  refine lc_range (lo := 0) (n := m) (fun i H1 => ∃ xs : List Int, xs.length = i ∧ H1 l = some (.lst (xs.map V.int)) ∧ Kp st H H1 ∧ Dr K H0 H1 st sc ns)
    ⟨[], rfl, upd_same, Kp.of (same_upd hl), D.kp (same_upd hl)⟩ ?_ ?_
  · rintro i H1 hi ⟨xs, hx, e, kp, D1⟩
    refine ⟨rfl, ?_⟩
    refine ⟨_, rfl, _, rfl, _, rfl, 2, z, rfl, rfl, .inl ⟨by decide, by decide⟩, 2 * z, 2, rfl, rfl, ?_⟩
    refine ⟨st, sc, 2 * z + 2, H0, ns, rfl, by omega, by omega, D1, fun r H2 r0 r1 hB D2 => ?_⟩
    refine ⟨_, rfl, r, z, rfl, rfl, r - z, 1, rfl, rfl, ?_⟩
    have e2 : H2 l = some (.lst (xs.map V.int)) := by rw [hB l lst]; exact e
    refine ⟨_, e2, by rw [List.length_map, hx]; exact small1000 (by omega), xs ++ [r - z - 1], by simp [hx], by rw [upd_same, List.map_append]; rfl, ?_, ?_⟩
    · exact fun b o nb hb => by
        rw [upd_ne (ne_of_none hb hl), hB b nb]
        exact kp b o nb hb
    · obtain ⟨i, d, hi, hd, es⟩ := D2.ex
      exact ⟨D2.sq, fun b o hb => by rw [upd_ne (ne_of_none (D.same b o hb) hl)]; exact D2.same b o hb, D2.new, i, d, hi, hd, by rw [upd_ne lst.symm]; exact es⟩
  · rintro H1 ⟨xs, hx, e, kp, D1⟩
    refine ⟨l, _, rfl, .inl ⟨SqL.of e, fun p hp => ?_⟩⟩
    have s1 : Same H1 (upd H1 p (.tup (xs.map V.int))) := same_upd hp
    have hpst := nst D1 hp
    refine q xs p _ hx ?_ hpst upd_same (kp.trans (Kp.of s1)) (D1.kp s1)
    cases e4 : H p with
    | none => rfl
    | some o =>
      rw [kp p o hpst e4] at hp
      cases hp
end
end K01


namespace K01
open PySem L2 Nv RZ
local macro_rules | `(tactic| walk_at "hp") => `(tactic| first
  | assumption
  | exact upd_same
  | exact (upd_ne (by assumption)).trans (by first | assumption | exact upd_same | exact (upd_ne (by assumption)).trans (by first | assumption | exact upd_same))
  | exact (upd_ne (Ne.symm (by assumption))).trans (by first | assumption | exact upd_same))
local macro_rules | `(tactic| walk_at "cond") => `(tactic| first
  | (change (0 : Int) < _; first | decide | omega)
  | exact Or.inr ⟨by decide, by decide⟩
  | exact Or.inl ⟨by decide, by decide⟩
  | exact Or.inr ⟨by omega, by omega⟩
  | exact Or.inl ⟨by omega, by omega⟩
  | exact ⟨by decide, by decide, by decide⟩
  | exact wide_div (by first | decide | omega) (show _ < 2 ^ 64 by first | decide | omega) (by decide) (by decide)
  | (change (0 : Int) ≤ _; first | decide | omega)
  | exact ⟨by decide, by decide⟩
  | exact ⟨by omega, by omega⟩)
local macro_rules | `(tactic| walk_at "val") => `(tactic| first
  | (with_reducible exact val_c)
  | ((with_reducible apply val_var); exact rfl)
  | ((with_reducible apply val_I0); walk_at "val"; walk_at "val")
  | ((with_reducible apply val_I); walk_at "val"; walk_at "val"; walk_at "cond")
  | ((with_reducible apply val_ixL); walk_at "val"; walk_at "val"; (first | exact SqL.of (by walk_at "hp") | assumption); exact rfl)
  | ((with_reducible apply val_len); walk_at "val"; first | exact Or.inl (SqL.of (by walk_at "hp")) | exact Or.inl (by assumption) | exact Or.inr (by assumption) | exact Or.inr (SqT.of (by walk_at "hp")))
  | ((with_reducible apply val_int1); walk_at "val")
  | ((with_reducible apply val_abs); walk_at "val")
  | ((with_reducible apply val_max2); walk_at "val"; walk_at "val")
  | ((with_reducible apply val_eq); walk_at "val"; walk_at "val"; exact rfl)
  | ((with_reducible apply val_ne); walk_at "val"; walk_at "val"; exact rfl)
  | ((with_reducible apply val_not); walk_at "val")
  | ((with_reducible apply val_U); walk_at "val"))
local macro_rules | `(tactic| walk_at "ans") => `(tactic| first
  | ((with_reducible apply ans_Eq); walk_at "val"; walk_at "val"; exact rfl)
  | ((with_reducible apply ans_Ne); walk_at "val"; walk_at "val"; exact rfl)
  | ((with_reducible apply ans_I0); walk_at "val"; walk_at "val"; exact rfl)
  | ((with_reducible refine ans_And ?_ (fun _ => ?_)); walk_at "ans"; walk_at "ans")
  | ((with_reducible refine ans_or2 ?_ (fun _ => ?_)); walk_at "ans"; walk_at "ans")
  | ((with_reducible refine ans_not ?_); walk_at "ans")
  | ((with_reducible apply ans_val); walk_at "val"))
local macro_rules | `(tactic| walk_at "nrm") => `(tactic| (try dsimp only [List.set_cons_zero, List.set_cons_succ]))
local macro_rules | `(tactic| walk_at "set") => `(tactic| first
  | ((with_reducible apply q_set); walk_at "val"; walk_at "nrm")
  | ((with_reducible apply s_set); walk_at "val"; walk_at "nrm"))
local macro_rules | `(tactic| walk_at "setL") => `(tactic| first
  | ((with_reducible apply q_setL); walk_at "val"; walk_at "val"; walk_at "val"; walk_at "hp"; exact rfl; walk_at "nrm")
  | ((with_reducible apply s_setL); walk_at "val"; walk_at "val"; walk_at "val"; walk_at "hp"; exact rfl; walk_at "nrm"))
local macro_rules | `(tactic| walk_at "ff") => `(tactic| (walk_at "nrm"; rw [if_neg (by decide)]; (try ((with_reducible refine st_next ?_); walk_at "nrm"))))
local macro_rules | `(tactic| walk_at "nok") => `(tactic| (refine ⟨_, rfl, rfl, _, rfl, ?_⟩; walk_at "nrm"; rw [if_neg (by decide)]))
local macro_rules | `(tactic| walk_at "yesk") => `(tactic| (refine ⟨_, rfl, rfl, _, rfl, ?_⟩; walk_at "nrm"; rw [if_pos (by decide)]))
local macro_rules | `(tactic| walk_at "no") => `(tactic| (walk_at "nrm"; rw [if_neg (by decide)]; walk_at "nrm"))
local macro_rules | `(tactic| walk_at "yes") => `(tactic| (walk_at "nrm"; rw [if_pos (by decide)]; walk_at "nrm"))
local macro_rules | `(tactic| walk_at "nos") => `(tactic| (walk_at "nrm"; repeat (rw [if_neg (by decide)]; walk_at "nrm"); (try ((with_reducible refine st_next ?_); walk_at "nrm"))))

section
variable {P : Program} {w : World} {K : PySem.W.Frag} {mg : Str → Option Value} {base : Heap}
/-! ### the distance -/
def absI (n : Int) : Int := if n < 0 then -n else n
def gaps : List Int → List Int → List Int
  | x :: xs, y :: ys => absI (x - y) :: gaps xs ys
  | _, _ => []
theorem gaps_len : ∀ (xs ys : List Int), xs.length = ys.length → (gaps xs ys).length = xs.length
  | [], [], _ => rfl
  | [], _ :: _, h => by simp at h
  | _ :: _, [], h => by simp at h
  | x :: xs, y :: ys, h => by
    show (gaps xs ys).length + 1 = xs.length + 1
    rw [gaps_len xs ys (by simpa using h)]
theorem gaps_take : ∀ (xs ys : List Int) (k : Nat) (x y : Int), xs[k]? = some x → ys[k]? = some y → (gaps xs ys).take (k + 1) = (gaps xs ys).take k ++ [absI (x - y)]
  | [], _, _, _, _, h, _ => by simp at h
  | _ :: _, [], _, _, _, _, h => by simp at h
  | a :: xs, b :: ys, 0, x, y, h1, h2 => by
    have e1 : a = x := Option.some.inj h1
    have e2 : b = y := Option.some.inj h2
    subst e1 e2
    rfl
  | a :: xs, b :: ys, k + 1, x, y, h1, h2 => by
    show absI (a - b) :: (gaps xs ys).take (k + 1) = (absI (a - b) :: (gaps xs ys).take k) ++ [absI (x - y)]
    rw [gaps_take xs ys k x y (by simpa using h1) (by simpa using h2)]
    rfl
def mx (l : List Int) : Int := maxDf 0 l
def un (l : List Int) : Int := ((l.filter fun n => n != 0).length : Nat)
def far (m : Str) (g : List Int) : Int := if m = "sum" then g.sum else if m = "greatest" then mx g else un g
def spDist (K : Frag) : Sp := fun vs H Q _ => ∃ (m : Str) (a b : Addr) (xs ys : List Int), vs = [.str m, .ref a, .ref b] ∧ SqT K H a (xs.map V.int) ∧ SqT K H b (ys.map V.int) ∧ xs.length = ys.length ∧ xs.length ≤ 1000 ∧
  ∀ H', Same H H' → Q (.int (far m (gaps xs ys))) H'
theorem ok_distance (T : Txt K mg) : FnOk P w K mg base CX0 1 T.f_distance T.fd_distance ["metric", "a", "b"] (spDist K) := by
  refine T.F_distance.ok sc_distance (fun vs H Q E h => ?_) (fun cdv A outer s H vs Q E hr h => ?_)
  · obtain ⟨_, _, _, _, _, rfl, _⟩ := h
    rfl
  obtain ⟨m, a, b, xs, ys, rfl, ha, hb, hl, hx, q⟩ := h
  refine ⟨_, (pss_cons (ps_setLc (i := 3) (own := [("x", 4), ("y", 5)]) (g := gTup K 2 (gCons (gName 4) (gCons (gName 5) gNil))) (by rfl) sc_distance.nd rfl rfl (sw_true rfl rfl rfl (by decide +kernel)) (pi_zipA (by rfl) T.z_zip (pa_cons (pv 1) (pa_cons (pv 2) pa_nil))) (blkOk_by (own := [("x", 4), ("y", 5)]) (N := ["metric", "a", "b", "differences", "x", "y", "difference"]) (sc := defScope s_distance) (by decide +kernel)) (fun _ _ _ _ _ => pg_tup (by rfl) (pgs_cons (pg_name (i := 4) sc_distance.nd rfl (by first | exact Or.inl rfl | exact Or.inr rfl)) (pgs_cons (pg_name (i := 5) sc_distance.nd rfl (by first | exact Or.inl rfl | exact Or.inr rfl)) pgs_nil))) (fun _ _ _ _ _ => pts_nil) (fun _ _ _ _ _ => pe_callB call_abs (by rfl) T.z_abs (by decide +kernel) (pa_cons (pe_op op_sub (pv 4) (pv 5)) pa_nil)))
      (pss_cons (ps_if (pt_cmpR op_eq (pv 0) pe_str (nomark _))
        (pss_one (ps_ret (pe_callB (cr_sum rfl) (by rfl) T.z_sum (by decide +kernel) (pa_cons (pv 3) pa_nil))))
        pss_nil)
      (pss_cons (ps_if (pt_cmpR op_eq (pv 0) pe_str (nomark _))
        (pss_one (ps_ret (pe_callBK (cr_maxDf rfl (Nat.lt_of_le_of_lt (Nat.add_le_add_left (by decide : 2 ≤ 64) _) hr.units)) (by rfl) T.z_max (by decide +kernel) (pa_cons (pv 3) pa_nil) (pk_cons pe_int pk_nil))))
        pss_nil)
      (pss_one (ps_ret (pe_callB call_len_seq (by rfl) T.z_len (by decide +kernel) (pa_cons (pe_lc (own := [("difference", 6)]) (g := gName 6) (by rfl) sc_distance.nd (pi_list (pv 3)) (blkOk_by (own := [("difference", 6)]) (N := ["metric", "a", "b", "differences", "x", "y", "difference"]) (sc := defScope s_distance) (by decide +kernel)) (fun _ _ _ _ _ => pg_name (i := 6) sc_distance.nd rfl (by first | exact Or.inl rfl | exact Or.inr rfl)) (fun _ _ _ _ _ => pts_one (pt_cmpR op_ne (pv 6) pe_int (nomark _))) (fun _ _ _ _ _ => pv 6)) pa_nil))))))), ?_⟩
  (try dsimp only [cxOf])
  rw [show start ["metric", "a", "b", "differences", "x", "y", "difference"] [.str m, .ref a, .ref b] = [some (.str m), some (.ref a), some (.ref b), none, none, none, none] from rfl]
  refine q_setg ?_
  refine ⟨_, rfl, _, rfl, a, b, xs.map V.int, ys.map V.int, rfl, .inr ⟨ha, hb, fun D hD => ?_⟩⟩
  refine ⟨fun i n H1 => i + n = xs.length ∧ Same H H1 ∧ H1 D = some (.lst (((gaps xs ys).take i).map V.int)), ⟨xs.length, by omega, same_upd hD, upd_same⟩, fun i n H1 hW => ?_⟩
  obtain ⟨en, sm, eD⟩ := hW
  have hA := seqT sm ha
  have hB := seqT sm hb
  by_cases hi : i < xs.length
  · have hi2 : i < ys.length := by omega
    have g1 : (xs.map V.int)[i]? = some (.int xs[i]) := by rw [List.getElem?_map, List.getElem?_eq_getElem hi]; rfl
    have g2 : (ys.map V.int)[i]? = some (.int ys[i]) := by rw [List.getElem?_map, List.getElem?_eq_getElem hi2]; rfl
    refine .inr ⟨⟨_, _, _, _, hA, hB, g1, g2⟩, fun H' => i + 1 + (n - 1) = xs.length ∧ Same H H' ∧ H' D = some (.lst (((gaps xs ys).take (i + 1)).map V.int)), fun H' h => ⟨n - 1, by omega, h⟩, fun x H' hy => ?_⟩
    obtain ⟨t, x1, x2, rfl, nT, rfl, f1, f2⟩ := hy
    have ex1 : x1 = .int xs[i] := Option.some.inj ((f1 _ hA).symm.trans g1)
    have ex2 : x2 = .int ys[i] := Option.some.inj ((f2 _ hB).symm.trans g2)
    subst ex1 ex2
    have nTD : D ≠ t := ne_of_none eD nT
    have smT : Same H1 (upd H1 t (.tup [.int xs[i], .int ys[i]])) := same_upd nT
    refine ⟨t, _, rfl, SqT.of upd_same, rfl, _, _, rfl, _, _, rfl, rfl, rfl, ?_⟩
    refine g_yes ?_
    refine ⟨_, rfl, _, rfl, _, _, rfl, rfl, _, rfl, ?_⟩
    refine ⟨_, smT _ _ eD, ?_, by omega, fun b o e => ?_, ?_⟩
    · rw [List.length_map]
      exact small1000 (by rw [List.length_take]; omega)
    · rw [upd_ne (ne_of_none e hD)]
      exact smT _ _ (sm _ _ e)
    · rw [upd_same, gaps_take xs ys i _ _ (List.getElem?_eq_getElem hi) (List.getElem?_eq_getElem hi2), List.map_append]
      rfl
  · have el : (gaps xs ys).take i = gaps xs ys := List.take_of_length_le (by rw [gaps_len xs ys hl]; omega)
    rw [el] at eD
    refine .inl ⟨⟨_, _, hA, hB, .inl (by rw [List.length_map]; omega)⟩, ?_⟩
    walk_at "nrm"
    have hD1 : SqL K H1 D ((gaps xs ys).map V.int) := SqL.of eD
    refine q_when (b := decide (V.str m = V.str "sum")) (by walk_at "ans") (fun hb => ?_) (fun hb => ?_)
    · have em : m = "sum" := V.str.inj (of_decide_eq_true hb)
      refine ⟨_, rfl, D, _, rfl, hD1, ?_⟩
      have q2 := q H1 sm
      unfold far at q2
      rw [if_pos em] at q2
      exact q2
    have n1 : ¬ m = "sum" := fun e => of_decide_eq_false hb (congrArg V.str e)
    refine q_when (b := decide (V.str m = V.str "greatest")) (by walk_at "ans") (fun hb => ?_) (fun hb => ?_)
    · have em : m = "greatest" := V.str.inj (of_decide_eq_true hb)
      refine ⟨_, rfl, D, _, 0, rfl, rfl, hD1, ?_⟩
      have q2 := q H1 sm
      unfold far at q2
      rw [if_neg n1, if_pos em] at q2
      exact q2
    have n2 : ¬ m = "greatest" := fun e => of_decide_eq_false hb (congrArg V.str e)
    refine ⟨_, rfl, D, rfl, ⟨_, hD1⟩, fun L hL => ?_⟩
    refine lc_list (K := K) (a := D) (xs := (gaps xs ys).map V.int) (fun i H2 => Same H1 H2 ∧ H2 L = some (.lst ((((gaps xs ys).take i).filter fun n => n != 0).map V.int))) ⟨same_upd hL, upd_same⟩ (fun i H2 _ ⟨s2, _⟩ => s2.seq hD1) ?_ ?_
    · rintro i x H2 hx2 ⟨s2, e2⟩
      rw [List.getElem?_map] at hx2
      obtain ⟨z, hz, rfl⟩ : ∃ z, (gaps xs ys)[i]? = some z ∧ x = V.int z := by
        cases e : (gaps xs ys)[i]? with
        | none => rw [e] at hx2; cases hx2
        | some z => rw [e] at hx2; exact ⟨z, rfl, (Option.some.inj hx2).symm⟩
      have hlt := (List.getElem?_eq_some_iff.mp hz).1
      have ht : (gaps xs ys).take (i + 1) = (gaps xs ys).take i ++ [z] := by rw [List.take_add_one, hz]; rfl
      refine ⟨rfl, ?_⟩
      refine (show Ans _ _ _ _ from ans_Ne (val_var rfl) val_c rfl) _ ?_
      by_cases hz0 : z = 0
      · subst hz0
        show if false = true then _ else _
        rw [if_neg Bool.false_ne_true]
        refine ⟨s2, ?_⟩
        rw [e2, ht, List.filter_append]
        simp
      · have hne : (!decide (V.int z = V.int 0)) = true := by simp [hz0]
        rw [hne, if_pos rfl]
        refine ⟨_, rfl, _, e2, ?_, fun b o e => ?_, ?_⟩
        · rw [List.length_map]
          refine small1000 (Nat.le_trans (List.length_filter_le _ _) ?_)
          rw [List.length_take, gaps_len xs ys hl]
          omega
        · rw [upd_ne (ne_of_none e hL)]
          exact s2 _ _ e
        · rw [upd_same, ht, List.filter_append, List.map_append]
          simp [hz0]
    · rintro H2 ⟨s2, e2⟩
      rw [List.length_map, List.take_length] at e2
      refine ⟨L, _, rfl, .inl (SqL.of e2), ?_⟩
      have q2 := q H2 (sm.trans s2)
      unfold far at q2
      rw [if_neg n1, if_neg n2] at q2
      rw [List.length_map]
      exact q2
/-! ### the law's own distance -/
theorem absI_nn (n : Int) : 0 ≤ absI n := by
  unfold absI
  split <;> omega
theorem gaps_nn : ∀ (xs ys : List Int), ∀ z ∈ gaps xs ys, 0 ≤ z
  | [], _, z, h => by simp [gaps] at h
  | _ :: _, [], z, h => by simp [gaps] at h
  | x :: xs, y :: ys, z, h => by
    have h : z ∈ absI (x - y) :: gaps xs ys := h
    rcases List.mem_cons.mp h with e | e
    · rw [e]; exact absI_nn _
    · exact gaps_nn xs ys z e
theorem fold_max (y x : Int) : ∀ ys : List Int, (ys ++ [x]).foldl max y = max (ys.foldl max y) x := fun ys => by
  rw [List.foldl_append]
  rfl
theorem mx_snoc {l : List Int} {x : Int} (h0 : 0 ≤ x) : mx (l ++ [x]) = if x > mx l then x else mx l := by
  cases l with
  | nil =>
    show x = if x > 0 then x else 0
    split <;> omega
  | cons y ys =>
    show (ys ++ [x]).foldl max y = if x > ys.foldl max y then x else ys.foldl max y
    rw [fold_max]
    split <;> omega
theorem un_snoc {l : List Int} {x : Int} (h0 : 0 ≤ x) : un (l ++ [x]) = if x > 0 then un l + 1 else un l := by
  unfold un
  rw [List.filter_append, List.length_append]
  by_cases h : x = 0
  · subst h
    simp
  · have h1 : x > 0 := by omega
    rw [if_pos h1]
    simp [h]
def isM (m : Str) : Prop := m = "sum" ∨ m = "greatest" ∨ m = "unlike"
theorem ne_sg : ¬ (("sum" : Str) = "greatest") := by decide +kernel
theorem ne_su : ¬ (("sum" : Str) = "unlike") := by decide +kernel
theorem ne_gu : ¬ (("greatest" : Str) = "unlike") := by decide +kernel
/-- one turn -/
def s1 (b : Bool) (t g : Int) : Int := if b = true then t + g else t
def s2 (b : Bool) (t g : Int) : Int := if b = true then (if g > t then g else t) else t
def s3 (b : Bool) (t g : Int) : Int := if (b && decide ((0 : Int) < g)) = true then t + 1 else t
def stepF (m : Str) (t g : Int) : Int := s3 (decide (V.str m = V.str "unlike")) (s2 (decide (V.str m = V.str "greatest")) (s1 (decide (V.str m = V.str "sum")) t g) g) g
theorem stepF_far {m : Str} (hm : isM m) {l : List Int} {g : Int} (h0 : 0 ≤ g) : stepF m (far m l) g = far m (l ++ [g]) := by
  have d1 : ∀ a b : Str, decide (V.str a = V.str b) = decide (a = b) := fun a b => by simp
  unfold stepF s1 s2 s3
  simp only [d1]
  rcases hm with rfl | rfl | rfl
  · simp only [far, ne_sg, ne_su, if_true, decide_true, decide_false, Bool.false_eq_true, if_false, Bool.false_and, List.sum_append]
    simp
  · have a1 : ¬ (("greatest" : Str) = "sum") := fun e => ne_sg e.symm
    simp only [far, ne_gu, a1, decide_true, decide_false, if_true, Bool.false_eq_true, if_false, Bool.false_and]
    rw [mx_snoc h0]
  · have a1 : ¬ (("unlike" : Str) = "sum") := fun e => ne_su e.symm
    have a2 : ¬ (("unlike" : Str) = "greatest") := fun e => ne_gu e.symm
    simp only [far, a1, a2, decide_true, decide_false, if_true, Bool.false_eq_true, if_false, Bool.true_and]
    rw [un_snoc h0]
    simp
def spFar (K : Frag) : Sp := fun vs H Q _ => ∃ (m : Str) (a b : Addr) (xs ys : List Int), vs = [.str m, .ref a, .ref b] ∧ SqT K H a (xs.map V.int) ∧ SqT K H b (ys.map V.int) ∧ xs.length = ys.length ∧ xs.length ≤ 1000 ∧ isM m ∧
  Q (.int (far m (gaps xs ys))) H
theorem ok_law_far (T : Txt K mg) : FnOk P w K mg base CX0 1 T.f_law_far T.fd_law_far ["metric", "a", "b"] (spFar K) := by
  refine T.F_law_far.ok sc_law_far (fun vs H Q E h => ?_) (fun cdv A outer s H vs Q E hr h => ?_)
  · obtain ⟨_, _, _, _, _, rfl, _⟩ := h
    rfl
  obtain ⟨m, a, b, xs, ys, rfl, ha, hb, hl, hx, hm, q⟩ := h
  refine ⟨_, (pss_cons (ps_set (i := 3) sc_law_far.nd rfl (by first | exact Or.inl rfl | exact Or.inr rfl) pe_int)
      (pss_cons (ps_for PassesOwn.never rfl (pi_range1 (by rfl) T.z_range (pa_cons (pe_callB call_len_seq (by rfl) T.z_len (by decide +kernel) (pa_cons (pv 1) pa_nil)) pa_nil)) (pg_name (i := 4) sc_law_far.nd rfl (by first | exact Or.inl rfl | exact Or.inr rfl))
        (pss_cons (ps_set (i := 5) sc_law_far.nd rfl (by first | exact Or.inl rfl | exact Or.inr rfl) (pe_callB (call_max2 rfl) (by rfl) T.z_max (by decide +kernel) (pa_cons (pe_op op_sub (pe_ix ix_tup (pv 1) (pv 4) (fun _ _ => rfl)) (pe_ix ix_tup (pv 2) (pv 4) (fun _ _ => rfl))) (pa_cons (pe_op op_sub (pe_ix ix_tup (pv 2) (pv 4) (fun _ _ => rfl)) (pe_ix ix_tup (pv 1) (pv 4) (fun _ _ => rfl))) pa_nil))))
        (Evl.pss_cut (ps_if (pt_cmpR op_eq (pv 0) pe_str (nomark _))
          (pss_one (ps_set (i := 3) sc_law_far.nd rfl (by first | exact Or.inl rfl | exact Or.inr rfl) (pe_op op_add (pv 3) (pv 5))))
          pss_nil)
        (Evl.pss_cut (ps_if (pt_cmpR op_eq (pv 0) pe_str (nomark _))
          (pss_one (ps_set (i := 3) sc_law_far.nd rfl (by first | exact Or.inl rfl | exact Or.inr rfl) (pe_callB (call_max2 rfl) (by rfl) T.z_max (by decide +kernel) (pa_cons (pv 3) (pa_cons (pv 5) pa_nil)))))
          pss_nil)
        (pss_one (ps_if (PW.pt (pw_and (pt_cmpR op_eq (pv 0) pe_str (nomark _)) (pw_and1 (pt_cmpR op_gt (pv 5) pe_int (nomark _)))))
          (pss_one (ps_set (i := 3) sc_law_far.nd rfl (by first | exact Or.inl rfl | exact Or.inr rfl) (pe_op op_add (pv 3) pe_int)))
          pss_nil))))))
      (pss_one (ps_ret (pv 3))))), ?_⟩
  (try dsimp only [cxOf])
  rw [show start ["metric", "a", "b", "total", "k", "gap"] [.str m, .ref a, .ref b] = [some (.str m), some (.ref a), some (.ref b), none, none, none] from rfl]
  have f0 : far m [] = 0 := by
    unfold far
    split
    · rfl
    · split <;> rfl
  walk_at "set"
  refine ⟨_, rfl, a, xs.map V.int, rfl, .inr ha, ((xs.map V.int).length : Nat), rfl, by rw [List.length_map]; omega, by rw [List.length_map]; omega, ?_⟩
  rw [show (((xs.map V.int).length : Nat) : Int).toNat = xs.length from by rw [List.length_map]; omega]
  refine for_range (lo := 0) (n := xs.length) (fun i σ' H' => H' = H ∧ ∃ c4 c5 : Option V, σ' = [some (.str m), some (.ref a), some (.ref b), some (.int (far m ((gaps xs ys).take i))), c4, c5]) ⟨rfl, none, none, by rw [List.take_zero, f0]⟩ ?_ ?_
  · rintro i σ' H' hi ⟨rfl, c4, c5, rfl⟩
    have hi2 : i < ys.length := by omega
    have e0 : (0 : Int) + (i : Int) = (i : Int) := Int.zero_add _
    rw [e0]
    have x1 : atI (xs.map V.int) (i : Int) = some (.int xs[i]) := at_map (List.getElem?_eq_getElem hi)
    have y1 : atI (ys.map V.int) (i : Int) = some (.int ys[i]) := at_map (List.getElem?_eq_getElem hi2)
    have hg : (if ys[i] - xs[i] > xs[i] - ys[i] then ys[i] - xs[i] else xs[i] - ys[i]) = absI (xs[i] - ys[i]) := by
      unfold absI
      split <;> split <;> omega
    refine q_set (v := .int (absI (xs[i] - ys[i]))) ?_ ?_
    · rw [← hg]
      exact val_max2 (val_I0 (val_ixT (val_var rfl) (val_var rfl) ha x1) (val_ixT (val_var rfl) (val_var rfl) hb y1)) (val_I0 (val_ixT (val_var rfl) (val_var rfl) hb y1) (val_ixT (val_var rfl) (val_var rfl) ha x1))
    walk_at "nrm"
    have hstep := stepF_far hm (l := (gaps xs ys).take i) (absI_nn (xs[i] - ys[i]))
    rw [← gaps_take xs ys i _ _ (List.getElem?_eq_getElem hi) (List.getElem?_eq_getElem hi2)] at hstep
    unfold stepF at hstep
    generalize hB1 : decide (V.str m = V.str "sum") = b1 at hstep
    generalize hB2 : decide (V.str m = V.str "greatest") = b2 at hstep
    generalize hB3 : decide (V.str m = V.str "unlike") = b3 at hstep
    generalize hG : absI (xs[i] - ys[i]) = g at hstep
    generalize far m ((gaps xs ys).take i) = t at hstep
    refine q_cut (fun σ' H'' => H'' = H' ∧ σ' = [some (.str m), some (.ref a), some (.ref b), some (.int (s1 b1 t g)), some (.int (i : Int)), some (.int g)]) ?_ ?_
    · refine s_when (b := b1) (Ans.to (by walk_at "ans") hB1) (fun h => ?_) (fun h => ⟨rfl, by rw [h]; rfl⟩)
      refine s_set (v := .int (t + g)) (by walk_at "val") ⟨rfl, by rw [h]; rfl⟩
    rintro σ' H'' ⟨rfl, rfl⟩
    generalize s1 b1 t g = t1 at hstep
    refine q_cut (fun σ' H' => H' = H'' ∧ σ' = [some (.str m), some (.ref a), some (.ref b), some (.int (s2 b2 t1 g)), some (.int (i : Int)), some (.int g)]) ?_ ?_
    · refine s_when (b := b2) (Ans.to (by walk_at "ans") hB2) (fun h => ?_) (fun h => ⟨rfl, by rw [h]; rfl⟩)
      refine s_set (v := .int (if g > t1 then g else t1)) (by walk_at "val") ⟨rfl, by rw [h]; rfl⟩
    rintro σ' H' ⟨rfl, rfl⟩
    generalize s2 b2 t1 g = t2 at hstep
    refine s_when (b := b3 && decide ((0 : Int) < g)) (ans_And (Ans.to (by walk_at "ans") hB3) fun _ => by walk_at "ans") (fun h => ?_) (fun h => ⟨rfl, some (.int (i : Int)), some (.int g), by rw [← hstep]; unfold s3; rw [h]; rfl⟩)
    refine s_set (v := .int (t2 + 1)) (by walk_at "val") ⟨rfl, some (.int (i : Int)), some (.int g), by rw [← hstep]; unfold s3; rw [h]; rfl⟩
  · rintro σ' H' ⟨rfl, c4, c5, rfl⟩
    refine s_ret (val_var rfl) ?_
    rw [List.take_of_length_le (by rw [gaps_len xs ys hl]; exact Nat.le_refl _)]
    exact q
end
end K01


namespace K01
open PySem L2 Nv RZ
local macro_rules | `(tactic| walk_at "hp") => `(tactic| first
  | assumption
  | exact upd_same
  | exact (upd_ne (by assumption)).trans (by first | assumption | exact upd_same | exact (upd_ne (by assumption)).trans (by first | assumption | exact upd_same))
  | exact (upd_ne (Ne.symm (by assumption))).trans (by first | assumption | exact upd_same))
local macro_rules | `(tactic| walk_at "cond") => `(tactic| first
  | (change (0 : Int) < _; first | decide | omega)
  | exact Or.inr ⟨by decide, by decide⟩
  | exact Or.inl ⟨by decide, by decide⟩
  | exact Or.inr ⟨by omega, by omega⟩
  | exact Or.inl ⟨by omega, by omega⟩
  | exact ⟨by decide, by decide, by decide⟩
  | exact wide_div (by first | decide | omega) (show _ < 2 ^ 64 by first | decide | omega) (by decide) (by decide)
  | (change (0 : Int) ≤ _; first | decide | omega)
  | exact ⟨by decide, by decide⟩
  | exact ⟨by omega, by omega⟩)
local macro_rules | `(tactic| walk_at "val") => `(tactic| first
  | (with_reducible exact val_c)
  | ((with_reducible apply val_var); exact rfl)
  | ((with_reducible apply val_I0); walk_at "val"; walk_at "val")
  | ((with_reducible apply val_I); walk_at "val"; walk_at "val"; walk_at "cond")
  | ((with_reducible apply val_ixL); walk_at "val"; walk_at "val"; (first | exact SqL.of (by walk_at "hp") | assumption); exact rfl)
  | ((with_reducible apply val_len); walk_at "val"; first | exact Or.inl (SqL.of (by walk_at "hp")) | exact Or.inl (by assumption) | exact Or.inr (by assumption) | exact Or.inr (SqT.of (by walk_at "hp")))
  | ((with_reducible apply val_int1); walk_at "val")
  | ((with_reducible apply val_abs); walk_at "val")
  | ((with_reducible apply val_max2); walk_at "val"; walk_at "val")
  | ((with_reducible apply val_eq); walk_at "val"; walk_at "val"; exact rfl)
  | ((with_reducible apply val_ne); walk_at "val"; walk_at "val"; exact rfl)
  | ((with_reducible apply val_not); walk_at "val")
  | ((with_reducible apply val_U); walk_at "val"))
local macro_rules | `(tactic| walk_at "ans") => `(tactic| first
  | ((with_reducible apply ans_Eq); walk_at "val"; walk_at "val"; exact rfl)
  | ((with_reducible apply ans_Ne); walk_at "val"; walk_at "val"; exact rfl)
  | ((with_reducible apply ans_I0); walk_at "val"; walk_at "val"; exact rfl)
  | ((with_reducible refine ans_And ?_ (fun _ => ?_)); walk_at "ans"; walk_at "ans")
  | ((with_reducible refine ans_or2 ?_ (fun _ => ?_)); walk_at "ans"; walk_at "ans")
  | ((with_reducible refine ans_not ?_); walk_at "ans")
  | ((with_reducible apply ans_val); walk_at "val"))
local macro_rules | `(tactic| walk_at "nrm") => `(tactic| (try dsimp only [List.set_cons_zero, List.set_cons_succ]))
local macro_rules | `(tactic| walk_at "set") => `(tactic| first
  | ((with_reducible apply q_set); walk_at "val"; walk_at "nrm")
  | ((with_reducible apply s_set); walk_at "val"; walk_at "nrm"))
local macro_rules | `(tactic| walk_at "setL") => `(tactic| first
  | ((with_reducible apply q_setL); walk_at "val"; walk_at "val"; walk_at "val"; walk_at "hp"; exact rfl; walk_at "nrm")
  | ((with_reducible apply s_setL); walk_at "val"; walk_at "val"; walk_at "val"; walk_at "hp"; exact rfl; walk_at "nrm"))
local macro_rules | `(tactic| walk_at "ff") => `(tactic| (walk_at "nrm"; rw [if_neg (by decide)]; (try ((with_reducible refine st_next ?_); walk_at "nrm"))))
local macro_rules | `(tactic| walk_at "nok") => `(tactic| (refine ⟨_, rfl, rfl, _, rfl, ?_⟩; walk_at "nrm"; rw [if_neg (by decide)]))
local macro_rules | `(tactic| walk_at "yesk") => `(tactic| (refine ⟨_, rfl, rfl, _, rfl, ?_⟩; walk_at "nrm"; rw [if_pos (by decide)]))
local macro_rules | `(tactic| walk_at "no") => `(tactic| (walk_at "nrm"; rw [if_neg (by decide)]; walk_at "nrm"))
local macro_rules | `(tactic| walk_at "yes") => `(tactic| (walk_at "nrm"; rw [if_pos (by decide)]; walk_at "nrm"))
local macro_rules | `(tactic| walk_at "nos") => `(tactic| (walk_at "nrm"; repeat (rw [if_neg (by decide)]; walk_at "nrm"); (try ((with_reducible refine st_next ?_); walk_at "nrm"))))

/-! ### the mathematics -/
theorem gaps_comm : ∀ xs ys : List Int, gaps xs ys = gaps ys xs
  | [], [] => rfl
  | [], _ :: _ => rfl
  | _ :: _, [] => rfl
  | x :: xs, y :: ys => by
    show absI (x - y) :: gaps xs ys = absI (y - x) :: gaps ys xs
    rw [gaps_comm xs ys]
    congr 1
    unfold absI
    split <;> split <;> omega
theorem fold_out (x : Int) : ∀ (y : Int) (ys : List Int), ys.foldl max (max x y) = max x (ys.foldl max y)
  | y, [] => rfl
  | y, z :: ys => by
    show ys.foldl max (max (max x y) z) = max x (ys.foldl max (max y z))
    rw [show max (max x y) z = max x (max y z) from by omega]
    exact fold_out x (max y z) ys
theorem mx_cons {x : Int} (h : 0 ≤ x) : ∀ l : List Int, mx (x :: l) = max x (mx l)
  | [] => by
    show x = max x 0
    omega
  | y :: ys => fold_out x y ys
theorem un_cons (x : Int) (l : List Int) : un (x :: l) = (if x = 0 then 0 else 1) + un l := by
  unfold un
  rw [List.filter_cons]
  by_cases h : x = 0
  · subst h
    simp
  · have e : (x != 0) = true := by simp [h]
    rw [if_pos e, if_neg h, List.length_cons]
    omega
theorem far_nil (m : Str) : far m [] = 0 := by
  unfold far
  split
  · rfl
  · split <;> rfl
theorem far_cons {m : Str} (hm : isM m) {x : Int} (h : 0 ≤ x) (l : List Int) : far m (x :: l) = if m = "sum" then x + far m l else if m = "greatest" then max x (far m l) else (if x = 0 then 0 else 1) + far m l := by
  unfold far
  by_cases h1 : m = "sum"
  · simp only [if_pos h1, List.sum_cons]
  · by_cases h2 : m = "greatest"
    · simp only [if_neg h1, if_pos h2]
      exact mx_cons h l
    · simp only [if_neg h1, if_neg h2]
      exact un_cons x l
theorem far_nn {m : Str} (hm : isM m) : ∀ l : List Int, (∀ z ∈ l, 0 ≤ z) → 0 ≤ far m l
  | [], _ => by rw [far_nil]; exact Int.le_refl 0
  | x :: l, h => by
    have hx : 0 ≤ x := h x List.mem_cons_self
    have ih := far_nn hm l fun z hz => h z (List.mem_cons_of_mem _ hz)
    rw [far_cons hm hx]
    split
    · omega
    · split
      · omega
      · split <;> omega
theorem far_zero {m : Str} (hm : isM m) : ∀ xs ys : List Int, xs.length = ys.length → (far m (gaps xs ys) = 0 ↔ xs = ys)
  | [], [], _ => by
    show far m [] = 0 ↔ _
    rw [far_nil]
    simp
  | [], _ :: _, h => by simp at h
  | _ :: _, [], h => by simp at h
  | x :: xs, y :: ys, h => by
    have ih := far_zero hm xs ys (by simpa using h)
    have h0 := far_nn hm (gaps xs ys) (gaps_nn xs ys)
    show far m (absI (x - y) :: gaps xs ys) = 0 ↔ _
    rw [far_cons hm (absI_nn _), List.cons.injEq, ← ih]
    have ha : absI (x - y) = 0 ↔ x = y := by
      unfold absI
      split <;> omega
    have hb := absI_nn (x - y)
    split
    · omega
    · split
      · omega
      · split <;> omega
theorem far_tri {m : Str} (hm : isM m) : ∀ xs ys zs : List Int, xs.length = ys.length → ys.length = zs.length → far m (gaps xs zs) ≤ far m (gaps xs ys) + far m (gaps ys zs)
  | [], [], [], _, _ => by
    show far m [] ≤ far m [] + far m []
    rw [far_nil]
    omega
  | [], _ :: _, _, h, _ => by simp at h
  | _ :: _, [], _, h, _ => by simp at h
  | _, [], _ :: _, _, h => by simp at h
  | _, _ :: _, [], _, h => by simp at h
  | x :: xs, y :: ys, z :: zs, h1, h2 => by
    have ih := far_tri hm xs ys zs (by simpa using h1) (by simpa using h2)
    have n1 := far_nn hm (gaps xs ys) (gaps_nn xs ys)
    have n2 := far_nn hm (gaps ys zs) (gaps_nn ys zs)
    show far m (absI (x - z) :: gaps xs zs) ≤ far m (absI (x - y) :: gaps xs ys) + far m (absI (y - z) :: gaps ys zs)
    rw [far_cons hm (absI_nn _), far_cons hm (absI_nn _), far_cons hm (absI_nn _)]
    have a0 := absI_nn (x - z)
    have a1 := absI_nn (x - y)
    have a2 := absI_nn (y - z)
    have a3 : absI (x - z) ≤ absI (x - y) + absI (y - z) := by
      unfold absI
      split <;> split <;> split <;> omega
    split
    · omega
    · split
      · omega
      · split <;> split <;> split <;> omega
section
variable {P : Program} {w : World} {K : PySem.W.Frag} {mg : Str → Option Value} {base : Heap}
def sp_law (K : PySem.W.Frag) : Sp := fun vs H Q _ => ∃ (a : Addr) (ns : List Int), vs = [.ref a] ∧ SqL K H a (ns.map V.int) ∧ ns.length ≤ 63 ∧ ∀ H', Q (.bl true) H'
/-- the end of the law: three points of one length -/
structure Pts (K : Frag) (H : Hp) (a b c : Addr) (xs ys zs : List Int) : Prop where
  a : SqT K H a (xs.map V.int)
  b : SqT K H b (ys.map V.int)
  c : SqT K H c (zs.map V.int)
  l1 : xs.length = ys.length
  l2 : ys.length = zs.length
  l3 : xs.length ≤ 1000
theorem Pts.keep {K : Frag} {H H' : Hp} {a b c : Addr} {xs ys zs : List Int} (p : Pts K H a b c xs ys zs) (s : Same H H') : Pts K H' a b c xs ys zs := ⟨seqT s p.a, seqT s p.b, seqT s p.c, p.l1, p.l2, p.l3⟩
theorem ok_law (T : Txt K mg) : FnOk P w K mg base CX0 3 T.f_law T.fd_law ["script"] (sp_law K) := by
  refine T.F_law.ok sc_law (fun vs H Q E h => ?_) (fun cdv A outer s H vs Q E hr h => ?_)
  · obtain ⟨_, _, rfl, _⟩ := h
    rfl
  obtain ⟨sc, ns, rfl, hS, hlen, q⟩ := h
  refine ⟨_, (pss_cons (ps_set (i := 1) sc_law.nd rfl (by first | exact Or.inl rfl | exact Or.inr rfl) (pe_lst (pa_cons pe_int (pa_cons pe_int pa_nil))))
      (pss_cons (ps_set (i := 2) sc_law.nd rfl (by first | exact Or.inl rfl | exact Or.inr rfl) (pe_op op_add pe_int (pe_call (ok_law_draw T) (hr.mono (by decide)) (by rfl) T.g_law_draw T.F_law_draw.kp T.b_law_draw .nil pass0 (pa_cons (pv 1) (pa_cons (pv 0) (pa_cons pe_int pa_nil))))))
      (pss_cons (ps_set (i := 3) sc_law.nd rfl (by first | exact Or.inl rfl | exact Or.inr rfl) (pe_call (ok_law_spanned T) (hr.mono (by decide)) (by rfl) T.g_law_spanned T.F_law_spanned.kp T.b_law_spanned .nil pass0 (pa_cons (pv 1) (pa_cons (pv 0) pa_nil))))
      (pss_cons (ps_set (i := 4) sc_law.nd rfl (by first | exact Or.inl rfl | exact Or.inr rfl) (pe_call (ok_law_point T) (hr.mono (by decide)) (by rfl) T.g_law_point T.F_law_point.kp T.b_law_point .nil pass0 (pa_cons (pv 1) (pa_cons (pv 0) (pa_cons (pv 2) (pa_cons (pv 3) pa_nil))))))
      (pss_cons (ps_set (i := 5) sc_law.nd rfl (by first | exact Or.inl rfl | exact Or.inr rfl) (pe_call (ok_law_point T) (hr.mono (by decide)) (by rfl) T.g_law_point T.F_law_point.kp T.b_law_point .nil pass0 (pa_cons (pv 1) (pa_cons (pv 0) (pa_cons (pv 2) (pa_cons (pv 3) pa_nil))))))
      (pss_cons (ps_set (i := 6) sc_law.nd rfl (by first | exact Or.inl rfl | exact Or.inr rfl) (pe_call (ok_law_point T) (hr.mono (by decide)) (by rfl) T.g_law_point T.F_law_point.kp T.b_law_point .nil pass0 (pa_cons (pv 1) (pa_cons (pv 0) (pa_cons (pv 2) (pa_cons (pv 3) pa_nil))))))
      (Evl.pss_cut (ps_if (pt_cmpR op_eq (pe_call (ok_law_draw T) (hr.mono (by decide)) (by rfl) T.g_law_draw T.F_law_draw.kp T.b_law_draw .nil pass0 (pa_cons (pv 1) (pa_cons (pv 0) (pa_cons pe_int pa_nil)))) pe_int (nomark _))
        (pss_cons (ps_set (i := 7) sc_law.nd rfl (by first | exact Or.inl rfl | exact Or.inr rfl) (pe_call (ok_law_draw T) (hr.mono (by decide)) (by rfl) T.g_law_draw T.F_law_draw.kp T.b_law_draw .nil pass0 (pa_cons (pv 1) (pa_cons (pv 0) (pa_cons (pv 2) pa_nil)))))
        (pss_one (ps_set (i := 5) sc_law.nd rfl (by first | exact Or.inl rfl | exact Or.inr rfl) (pe_op op_catA (pe_slice sl_tupA (pv 4) po_none (po_some (pv 7))) (pe_slice sl_tupA (pv 5) (po_some (pv 7)) po_none)))))
        pss_nil)
      (pss_cons (ps_if (pt_cmpR (op_neD hr.units) (pe_glob (by rfl) T.g_METRICS (show RelV (.ref T.a_METRICS) _ from rfl)) (pe_tup (pa_cons pe_str (pa_cons pe_str (pa_cons pe_str pa_nil)))) (nomark _))
        (pss_one (ps_ret pe_bl))
        pss_nil)
      (pss_cons (ps_for PassesOwn.never rfl (pi_tup (pe_glob (by rfl) T.g_METRICS (show RelV (.ref T.a_METRICS) _ from rfl))) (pg_name (i := 8) sc_law.nd rfl (by first | exact Or.inl rfl | exact Or.inr rfl))
        (pss_cons (ps_set (i := 9) sc_law.nd rfl (by first | exact Or.inl rfl | exact Or.inr rfl) (pe_call (ok_distance T) (hr.mono (by decide)) (by rfl) T.g_distance T.F_distance.kp T.b_distance .nil pass0 (pa_cons (pv 8) (pa_cons (pv 4) (pa_cons (pv 5) pa_nil)))))
        (pss_cons (ps_if (PW.pt (pw_or (pt_not (pt_val (pe_call (ok_law_is_integer T) (hr.mono (by decide)) (by rfl) T.g_law_is_integer T.F_law_is_integer.kp T.b_law_is_integer .nil pass0 (pa_cons (pv 9) pa_nil)))) (pw_or (pt_cmpR op_ne (pv 9) (pe_call (ok_law_far T) (hr.mono (by decide)) (by rfl) T.g_law_far T.F_law_far.kp T.b_law_far .nil pass0 (pa_cons (pv 8) (pa_cons (pv 4) (pa_cons (pv 5) pa_nil)))) (nomark _)) (pw_or1 (pt_cmpR op_ne (pe_call (ok_distance T) (hr.mono (by decide)) (by rfl) T.g_distance T.F_distance.kp T.b_distance .nil pass0 (pa_cons (pv 8) (pa_cons (pv 5) (pa_cons (pv 4) pa_nil)))) (pv 9) (nomark _))))))
          (pss_one (ps_ret pe_bl))
          pss_nil)
        (pss_cons (ps_if (PW.pt (pw_or (pt_cmpR op_ne (pe_cmpR op_eq (pv 9) pe_int (nomark _)) (pe_cmpR (op_eqD hr.units) (pv 4) (pv 5) (nomark _)) (nomark _)) (pw_or1 (pt_cmpR op_ne (pe_call (ok_distance T) (hr.mono (by decide)) (by rfl) T.g_distance T.F_distance.kp T.b_distance .nil pass0 (pa_cons (pv 8) (pa_cons (pv 4) (pa_cons (pv 4) pa_nil)))) pe_int (nomark _)))))
          (pss_one (ps_ret pe_bl))
          pss_nil)
        (pss_one (ps_if (pt_cmpR op_gt (pe_call (ok_distance T) (hr.mono (by decide)) (by rfl) T.g_distance T.F_distance.kp T.b_distance .nil pass0 (pa_cons (pv 8) (pa_cons (pv 4) (pa_cons (pv 6) pa_nil)))) (pe_op op_add (pv 9) (pe_call (ok_distance T) (hr.mono (by decide)) (by rfl) T.g_distance T.F_distance.kp T.b_distance .nil pass0 (pa_cons (pv 8) (pa_cons (pv 5) (pa_cons (pv 6) pa_nil))))) (nomark _))
          (pss_one (ps_ret pe_bl))
          pss_nil))))))
      (pss_one (ps_ret pe_bl))))))))))), ?_⟩
  (try dsimp only [cxOf])
  rw [show start ["script", "state", "many", "span", "a", "b", "c", "k", "metric", "there"] [.ref sc] = [some (.ref sc), none, none, none, none, none, none, none, none, none] from rfl]
  -- state = [0, 0]
  refine q_setg ?_
  refine ⟨by show 2 ≤ sizeLine; decide, fun st hst => ?_⟩
  walk_at "nrm"
  have D0 : Dr K H (upd H st (.lst [.int 0, .int 0])) st sc ns := ⟨hS, same_upd hst, hst, 0, 0, Int.le_refl _, Int.le_refl _, upd_same⟩
  generalize upd H st (.lst [.int 0, .int 0]) = H0 at D0
  -- many
  refine q_setg ?_
  refine ⟨_, rfl, _, rfl, st, sc, 8, H, ns, rfl, by decide, by decide, D0, fun r H1 r0 r8 _ D1 => ?_⟩
  obtain ⟨m, hm⟩ : ∃ m : Nat, 1 + r = (m : Int) := ⟨(1 + r).toNat, by omega⟩
  refine ⟨1, r, rfl, rfl, ?_⟩
  walk_at "nrm"
  rw [hm]
  have hm1 : 1 ≤ m ∧ m ≤ 8 := by omega
  -- span
  refine q_setg ?_
  refine ⟨_, rfl, _, rfl, st, sc, H, ns, rfl, D1, fun z H2 z0 z1 _ D2 => ?_⟩
  walk_at "nrm"
  -- the points
  refine q_setg ?_
  refine ⟨_, rfl, _, rfl, _, rfl, _, rfl, st, sc, m, z, H, ns, rfl, by omega, z0, by omega, D2, fun xs pa H3 hx na nas ea k3 D3 => ?_⟩
  walk_at "nrm"
  refine q_setg ?_
  refine ⟨_, rfl, _, rfl, _, rfl, _, rfl, st, sc, m, z, H, ns, rfl, by omega, z0, by omega, D3, fun ys pb H4 hy nb nbs eb k4 D4 => ?_⟩
  walk_at "nrm"
  have ea4 := k4 _ _ nas ea
  refine q_setg ?_
  refine ⟨_, rfl, _, rfl, _, rfl, _, rfl, st, sc, m, z, H, ns, rfl, by omega, z0, by omega, D4, fun zs pc H5 hz nc ncs ec k5 D5 => ?_⟩
  walk_at "nrm"
  have ea5 := k5 _ _ nas ea4
  have eb5 := k5 _ _ nbs eb
  refine q_cut (fun σ' H' => ∃ (pb : Addr) (ys : List Int) (k : Option V), σ' = [some (.ref sc), some (.ref st), some (.int (m : Int)), some (.int z), some (.ref pa), some (.ref pb), some (.ref pc), k, none, none] ∧ Pts K H' pa pb pc xs ys zs) ?_ ?_
  · -- the third draw
    refine ⟨_, rfl, _, rfl, st, sc, 3, H, ns, rfl, by decide, by decide, D5, fun r H6 r0 r3 hB D6 => ?_⟩
    have ea6 : H6 pa = some (.tup (xs.map V.int)) := by rw [hB _ nas]; exact ea5
    have eb6 : H6 pb = some (.tup (ys.map V.int)) := by rw [hB _ nbs]; exact eb5
    have ec6 : H6 pc = some (.tup (zs.map V.int)) := by rw [hB _ ncs]; exact ec
    refine ⟨rfl, _, rfl, ite2 (fun _ => ?_) (fun _ => ?_)⟩
    · -- parts of two points
      refine q_setg ?_
      refine ⟨_, rfl, _, rfl, _, rfl, st, sc, (m : Int), H, ns, rfl, by omega, by omega, D6, fun k H7 k0 km hB7 D7 => ?_⟩
      obtain ⟨kn, hk⟩ : ∃ kn : Nat, k = (kn : Int) := ⟨k.toNat, by omega⟩
      subst hk
      walk_at "nrm"
      have ea7 : H7 pa = some (.tup (xs.map V.int)) := by rw [hB7 _ nas]; exact ea6
      have eb7 : H7 pb = some (.tup (ys.map V.int)) := by rw [hB7 _ nbs]; exact eb6
      have ec7 : H7 pc = some (.tup (zs.map V.int)) := by rw [hB7 _ ncs]; exact ec6
      refine s_setg ?_
      refine ⟨_, rfl, _, rfl, _, rfl, ?_⟩
      refine slT_any (SqT.of ea7) fun p8 H8 s8 e8 => ?_
      refine ⟨_, rfl, _, rfl, _, rfl, ?_⟩
      walk_at "nrm"
      refine g_noPart ?_
      walk_at "nrm"
      refine slT_any (seqT s8 (SqT.of eb7)) fun p9 H9 s9 e9 => ?_
      rw [cut_take] at e8
      rw [cut_drop] at e9
      refine catA_any (seqT s9 e8) e9 ?_ fun p10 H10 s10 e10 => ?_
      · refine Nat.le_of_lt (small1000 ?_)
        rw [List.length_map, List.length_map, List.length_take, List.length_drop]
        omega
      · rw [← List.map_append] at e10
        have s : Same H7 H10 := (s8.trans s9).trans s10
        refine ⟨p10, xs.take kn ++ ys.drop kn, _, rfl, seqT s (SqT.of ea7), e10, seqT s (SqT.of ec7), ?_, ?_, by omega⟩
        · rw [List.length_append, List.length_take, List.length_drop]
          omega
        · rw [List.length_append, List.length_take, List.length_drop]
          omega
    · exact ⟨pb, ys, none, rfl, SqT.of ea6, SqT.of eb6, SqT.of ec6, by omega, by omega, by omega⟩
  rintro σ' H' ⟨pb, ys, k7, rfl, p⟩
  -- METRICS
  refine ⟨by show 3 ≤ sizeLine; decide, fun t ht => ?_⟩
  have s6 : Same H' (upd H' t (.tup [.str "sum", .str "greatest", .str "unlike"])) := same_upd ht
  have p1 := p.keep s6
  refine ⟨.tuple [.str "sum", .str "greatest", .str "unlike"], .tuple [.str "sum", .str "greatest", .str "unlike"], .tup (T.t_METRICS _) (.cons (.str _) (.cons (.str _) (.cons (.str _) .nil))), .tup (SqT.of upd_same) (.cons (.str _) (.cons (.str _) (.cons (.str _) .nil))), by decide +kernel, by decide +kernel, ?_⟩
  rw [show PyData.eqv (.tuple [.str "sum", .str "greatest", .str "unlike"]) (.tuple [.str "sum", .str "greatest", .str "unlike"]) = true from by decide +kernel]
  refine ⟨_, rfl, ?_⟩
  walk_at "nrm"
  rw [if_neg (by decide)]
  generalize upd H' t (.tup [.str "sum", .str "greatest", .str "unlike"]) = G at p1
  refine ⟨T.a_METRICS, rfl, ⟨_, T.t_METRICS _⟩, for_tup (K := K) (a := T.a_METRICS) (xs := [.str "sum", .str "greatest", .str "unlike"])
    (fun i σ' H' => (∃ k8 k9 : Option V, σ' = [some (.ref sc), some (.ref st), some (.int (m : Int)), some (.int z), some (.ref pa), some (.ref pb), some (.ref pc), k7, k8, k9]) ∧ Pts K H' pa pb pc xs ys zs)
    ⟨⟨none, none, rfl⟩, p1⟩ (fun i σ' H' _ _ => T.t_METRICS _) ?_ ?_⟩
  · rintro i x σ' H1 hi ⟨⟨k8, k9, rfl⟩, p⟩
    obtain ⟨mt, hmt, rfl⟩ : ∃ mt : Str, isM mt ∧ x = .str mt := by
      match i, hi with
      | 0, hi => exact ⟨_, .inl rfl, (Option.some.inj hi).symm⟩
      | 1, hi => exact ⟨_, .inr (.inl rfl), (Option.some.inj hi).symm⟩
      | 2, hi => exact ⟨_, .inr (.inr rfl), (Option.some.inj hi).symm⟩
      | i + 3, hi => simp at hi
    -- the distance
    refine q_setg ?_
    walk_at "nrm"
    refine ⟨_, rfl, _, rfl, _, rfl, mt, pa, pb, xs, ys, rfl, p.a, p.b, p.l1, p.l3, fun H2 s2 => ?_⟩
    walk_at "nrm"
    have p2 := p.keep s2
    -- the first if
    refine ⟨_, rfl, _, rfl, true, rfl, ?_⟩
    walk_at "nrm"
    rw [if_neg (by decide)]
    refine ⟨_, rfl, _, rfl, _, rfl, _, rfl, mt, pa, pb, xs, ys, rfl, p2.a, p2.b, p2.l1, p2.l3, hmt, ?_⟩
    refine ⟨rfl, _, rfl, ?_⟩
    walk_at "nrm"
    rw [decide_eq_true rfl, if_neg (by decide)]
    refine ⟨_, rfl, _, rfl, _, rfl, mt, pb, pa, ys, xs, rfl, p2.b, p2.a, p2.l1.symm, by have := p2.l1; have := p2.l3; omega, fun H3 s3 => ?_⟩
    have p3 := p2.keep s3
    refine ⟨_, rfl, rfl, _, rfl, ?_⟩
    walk_at "nrm"
    rw [gaps_comm ys xs, decide_eq_true rfl, if_neg (by decide)]
    -- the second
    have hz := far_zero hmt xs ys p.l1
    refine ⟨_, rfl, rfl, _, rfl, _, rfl, ?_⟩
    refine eqT_ints p3.a p3.b ?_
    refine ⟨rfl, _, rfl, ?_⟩
    have e1 : decide (V.bl (decide (V.int (far mt (gaps xs ys)) = V.int 0)) = V.bl (decide (xs = ys))) = true := by
      refine decide_eq_true (congrArg V.bl ?_)
      rw [Bool.eq_iff_iff, decide_eq_true_iff, decide_eq_true_iff, V.int.injEq]
      exact hz
    walk_at "nrm"
    rw [e1, if_neg (by decide)]
    refine ⟨_, rfl, _, rfl, _, rfl, mt, pa, pa, xs, xs, rfl, p3.a, p3.a, rfl, p3.l3, fun H4 s4 => ?_⟩
    have p4 := p3.keep s4
    refine ⟨rfl, _, rfl, ?_⟩
    walk_at "nrm"
    rw [(far_zero hmt xs xs rfl).mpr rfl, decide_eq_true rfl, if_neg (by decide)]
    -- the third
    refine ⟨_, rfl, _, rfl, _, rfl, mt, pa, pc, xs, zs, rfl, p4.a, p4.c, p4.l1.trans p4.l2, p4.l3, fun H5 s5 => ?_⟩
    have p5 := p4.keep s5
    refine ⟨_, rfl, _, rfl, _, rfl, _, rfl, mt, pb, pc, ys, zs, rfl, p5.b, p5.c, p5.l2, by have := p5.l1; have := p5.l3; omega, fun H6 s6 => ?_⟩
    refine ⟨_, _, rfl, rfl, _, _, rfl, rfl, _, rfl, ?_⟩
    have ht := far_tri hmt xs ys zs p.l1 p.l2
    walk_at "nrm"
    rw [if_neg (by rw [decide_eq_true_iff]; omega)]
    exact ⟨⟨_, _, rfl⟩, p5.keep s6⟩
  · rintro σ' H1 ⟨⟨k8, k9, rfl⟩, p⟩
    exact q _
end
end K01


namespace K01
open PySem L2 Nv
theorem all_mk {K : PySem.W.Frag} {h : Heap} {mg : Str → Option Value} (X : K.In h) (G : h.Ns mainGlobals mg)
    {f0 : Addr} {od0 an0 : Option Addr} {sl0 : Array (Option Value)} {oc0 kV0 dc0 pm0 cd0 ct0 : Value} {f1 : Addr} {od1 an1 : Option Addr} {sl1 : Array (Option Value)} {oc1 kV1 dc1 pm1 cd1 ct1 : Value} {f2 : Addr} {od2 an2 : Option Addr} {sl2 : Array (Option Value)} {oc2 kV2 dc2 pm2 cd2 ct2 : Value} {f3 : Addr} {od3 an3 : Option Addr} {sl3 : Array (Option Value)} {oc3 kV3 dc3 pm3 cd3 ct3 : Value} {f4 : Addr} {od4 an4 : Option Addr} {sl4 : Array (Option Value)} {oc4 kV4 dc4 pm4 cd4 ct4 : Value} {f5 : Addr} {od5 an5 : Option Addr} {sl5 : Array (Option Value)} {oc5 kV5 dc5 pm5 cd5 ct5 : Value} {f6 : Addr} {od6 an6 : Option Addr} {sl6 : Array (Option Value)} {oc6 kV6 dc6 pm6 cd6 ct6 : Value} {aM : Addr} {ddM : Option Addr} {nM : Nat} {slM : Array (Option Value)} {tM1 tM2 tM3 : Tok}
    (a0 : PySem.W.nsIn K mainGlobals "distance" = some (some (.ref f0)))
    (l0 : K.lookup f0 = some ⟨oc0, od0, .func (PySem.W.fnOf "distance" "distance" (defArgs s_distance) (defBody s_distance) (defScope s_distance) .none kV0 dc0 pm0 an0 cd0 ct0), sl0⟩)
    (c0 : PySem.W.codeIn K cd0 "distance" = true)
    (k0 : PySem.W.keepIn K (.ref f0) = true)
    (a1 : PySem.W.nsIn K mainGlobals "_law_is_integer" = some (some (.ref f1)))
    (l1 : K.lookup f1 = some ⟨oc1, od1, .func (PySem.W.fnOf "_law_is_integer" "_law_is_integer" (defArgs s_law_is_integer) (defBody s_law_is_integer) (defScope s_law_is_integer) .none kV1 dc1 pm1 an1 cd1 ct1), sl1⟩)
    (c1 : PySem.W.codeIn K cd1 "_law_is_integer" = true)
    (k1 : PySem.W.keepIn K (.ref f1) = true)
    (a2 : PySem.W.nsIn K mainGlobals "_law_draw" = some (some (.ref f2)))
    (l2 : K.lookup f2 = some ⟨oc2, od2, .func (PySem.W.fnOf "_law_draw" "_law_draw" (defArgs s_law_draw) (defBody s_law_draw) (defScope s_law_draw) .none kV2 dc2 pm2 an2 cd2 ct2), sl2⟩)
    (c2 : PySem.W.codeIn K cd2 "_law_draw" = true)
    (k2 : PySem.W.keepIn K (.ref f2) = true)
    (a3 : PySem.W.nsIn K mainGlobals "_law_point" = some (some (.ref f3)))
    (l3 : K.lookup f3 = some ⟨oc3, od3, .func (PySem.W.fnOf "_law_point" "_law_point" (defArgs s_law_point) (defBody s_law_point) (defScope s_law_point) .none kV3 dc3 pm3 an3 cd3 ct3), sl3⟩)
    (c3 : PySem.W.codeIn K cd3 "_law_point" = true)
    (k3 : PySem.W.keepIn K (.ref f3) = true)
    (a4 : PySem.W.nsIn K mainGlobals "_law_spanned" = some (some (.ref f4)))
    (l4 : K.lookup f4 = some ⟨oc4, od4, .func (PySem.W.fnOf "_law_spanned" "_law_spanned" (defArgs s_law_spanned) (defBody s_law_spanned) (defScope s_law_spanned) .none kV4 dc4 pm4 an4 cd4 ct4), sl4⟩)
    (c4 : PySem.W.codeIn K cd4 "_law_spanned" = true)
    (k4 : PySem.W.keepIn K (.ref f4) = true)
    (a5 : PySem.W.nsIn K mainGlobals "_law_far" = some (some (.ref f5)))
    (l5 : K.lookup f5 = some ⟨oc5, od5, .func (PySem.W.fnOf "_law_far" "_law_far" (defArgs s_law_far) (defBody s_law_far) (defScope s_law_far) .none kV5 dc5 pm5 an5 cd5 ct5), sl5⟩)
    (c5 : PySem.W.codeIn K cd5 "_law_far" = true)
    (k5 : PySem.W.keepIn K (.ref f5) = true)
    (a6 : PySem.W.nsIn K mainGlobals "law" = some (some (.ref f6)))
    (l6 : K.lookup f6 = some ⟨oc6, od6, .func (PySem.W.fnOf "law" "law" (defArgs s_law) (defBody s_law) (defScope s_law) .none kV6 dc6 pm6 an6 cd6 ct6), sl6⟩)
    (c6 : PySem.W.codeIn K cd6 "law" = true)
    (k6 : PySem.W.keepIn K (.ref f6) = true)
    (z_len : PySem.W.nsIn K mainGlobals "len" = some none)
    (z_tuple : PySem.W.nsIn K mainGlobals "tuple" = some none)
    (z_range : PySem.W.nsIn K mainGlobals "range" = some none)
    (z_abs : PySem.W.nsIn K mainGlobals "abs" = some none)
    (z_sum : PySem.W.nsIn K mainGlobals "sum" = some none)
    (z_max : PySem.W.nsIn K mainGlobals "max" = some none)
    (z_isinstance : PySem.W.nsIn K mainGlobals "isinstance" = some none)
    (z_int : PySem.W.nsIn K mainGlobals "int" = some none)
    (z_zip : PySem.W.nsIn K mainGlobals "zip" = some none)
    (z_bool : PySem.W.nsIn K mainGlobals "bool" = some none)
    (aMt : PySem.W.nsIn K mainGlobals "METRICS" = some (some (.ref aM)))
    (lMt : K.lookup aM = some ⟨.type "tuple", ddM, .seq #[.str "sum" tM1, .str "greatest" tM2, .str "unlike" tM3] nM, slM⟩)
    : ∃ T : Txt K mg, T.f_law = f6 ∧ T.fd_law = PySem.W.fnOf "law" "law" (defArgs s_law) (defBody s_law) (defScope s_law) .none kV6 dc6 pm6 an6 cd6 ct6 := by
  have F0 := fun_mk (st := s_distance) l0 c0 k0
  have b0 := F0.binds (ps := ["metric", "a", "b"]) fun _ _ _ _ _ _ us hl => match us, hl with | [_, _, _], _ => rfl
  have F1 := fun_mk (st := s_law_is_integer) l1 c1 k1
  have b1 := F1.binds (ps := ["actual"]) fun _ _ _ _ _ _ us hl => match us, hl with | [_], _ => rfl
  have F2 := fun_mk (st := s_law_draw) l2 c2 k2
  have b2 := F2.binds (ps := ["state", "script", "size"]) fun _ _ _ _ _ _ us hl => match us, hl with | [_, _, _], _ => rfl
  have F3 := fun_mk (st := s_law_point) l3 c3 k3
  have b3 := F3.binds (ps := ["state", "script", "many", "span"]) fun _ _ _ _ _ _ us hl => match us, hl with | [_, _, _, _], _ => rfl
  have F4 := fun_mk (st := s_law_spanned) l4 c4 k4
  have b4 := F4.binds (ps := ["state", "script"]) fun _ _ _ _ _ _ us hl => match us, hl with | [_, _], _ => rfl
  have F5 := fun_mk (st := s_law_far) l5 c5 k5
  have b5 := F5.binds (ps := ["metric", "a", "b"]) fun _ _ _ _ _ _ us hl => match us, hl with | [_, _, _], _ => rfl
  have F6 := fun_mk (st := s_law) l6 c6 k6
  have b6 := F6.binds (ps := ["script"]) fun _ _ _ _ _ _ us hl => match us, hl with | [_], _ => rfl
  exact ⟨{
    f_distance := f0
    fd_distance := _
    F_distance := F0
    b_distance := b0
    g_distance := PySem.W.mg_of X G a0
    f_law_is_integer := f1
    fd_law_is_integer := _
    F_law_is_integer := F1
    b_law_is_integer := b1
    g_law_is_integer := PySem.W.mg_of X G a1
    f_law_draw := f2
    fd_law_draw := _
    F_law_draw := F2
    b_law_draw := b2
    g_law_draw := PySem.W.mg_of X G a2
    f_law_point := f3
    fd_law_point := _
    F_law_point := F3
    b_law_point := b3
    g_law_point := PySem.W.mg_of X G a3
    f_law_spanned := f4
    fd_law_spanned := _
    F_law_spanned := F4
    b_law_spanned := b4
    g_law_spanned := PySem.W.mg_of X G a4
    f_law_far := f5
    fd_law_far := _
    F_law_far := F5
    b_law_far := b5
    g_law_far := PySem.W.mg_of X G a5
    f_law := f6
    fd_law := _
    F_law := F6
    b_law := b6
    g_law := PySem.W.mg_of X G a6
    z_len := PySem.W.mg_none_of X G z_len
    z_tuple := PySem.W.mg_none_of X G z_tuple
    z_range := PySem.W.mg_none_of X G z_range
    z_abs := PySem.W.mg_none_of X G z_abs
    z_sum := PySem.W.mg_none_of X G z_sum
    z_max := PySem.W.mg_none_of X G z_max
    z_isinstance := PySem.W.mg_none_of X G z_isinstance
    z_int := PySem.W.mg_none_of X G z_int
    z_zip := PySem.W.mg_none_of X G z_zip
    z_bool := PySem.W.mg_none_of X G z_bool
    a_METRICS := aM
    g_METRICS := PySem.W.mg_of X G aMt
    t_METRICS := fun H => .inr ⟨_, _, _, lMt, rfl, rfl, (by show 3 ≤ sizeLine; decide), .cons ⟨_, rfl⟩ (.cons ⟨_, rfl⟩ (.cons ⟨_, rfl⟩ .nil))⟩ }, rfl, rfl⟩
theorem walk {l : PySem.W.OpenLaw} {q : Program} {loose : List Str} {XP : (Str → Option Value) → Heap → Prop} {YP : World → Heap → Prop} {d : DefRec} {K : Params → PySem.W.Frag} (hn : l.most = some 63) (hdf : d.params.defaults = []) (hdn : d.name = "law")
    (hY : ∀ (w : World) (h : Heap), YP w h → (K w.params).In h)
    (F : ∀ (w : World) (mg : Str → Option Value) (h : Heap), (K w.params).In h → h.Ns mainGlobals mg → ∃ T : Txt (K w.params) mg, ∀ (s : Shared) (u : Value), BindsTo s T.fd_law ⟨[u], []⟩ [("script", u)]) :
    PySem.W.WalkO q loose XP YP l.row.toRowW d [] (fun f vs => PySem.call f vs) := by
  refine L2.walk_of (n := 63) (k := 20) (x := "script") (CX := fun _ => CX0) (sp := fun w => sp_law (K w.params)) hn (by decide) hdf ⟨rfl, by decide, by decide⟩ hY (fun w mg fa h KX G hmg => ?_) (fun w H a ns hl hO hS => ?_) fun _ _ _ _ _ z => z
  · obtain ⟨T, hT⟩ := F w mg h KX G
    rw [hdn] at hmg
    have e := T.g_law.symm.trans hmg
    cases e
    exact ⟨T.fd_law, hT, fun base _ _ => (ok_law T).mono (by decide)⟩
  · exact ⟨a, ns, rfl, hS, hl, fun _ => rfl⟩

end K01
open PySem PySem.W PyProof.Rows
set_option maxRecDepth 100000 in
set_option maxHeartbeats 0 in
theorem PySem.Challenge.cw_nearvault_k01_distances_holds : PySem.Challenge.rw_nearvault_k01_distances.Holds := by
  w_on; o_law; k_head; (case hw => w_witness2)
  k_fill
  refine K01.walk (l := PySem.Challenge.rw_nearvault_k01_distances) rfl rfl rfl (fun w h Y => PySem.W.kIn_of Y) ?F
  case F =>
    intro w mg h KX G
    refine' Exists.imp (fun T hT s u => ?bind) (K01.all_mk KX G ?a0 ?l0 ?c0 ?k0 ?a1 ?l1 ?c1 ?k1 ?a2 ?l2 ?c2 ?k2 ?a3 ?l3 ?c3 ?k3 ?a4 ?l4 ?c4 ?k4 ?a5 ?l5 ?c5 ?k5 ?a6 ?l6 ?c6 ?k6 ?z_len ?z_tuple ?z_range ?z_abs ?z_sum ?z_max ?z_isinstance ?z_int ?z_zip ?z_bool ?aMt ?lMt)
    (case a0 => k_is)
    (case l0 => k_is)
    (case c0 => k_is)
    (case k0 => k_is)
    (case a1 => k_is)
    (case l1 => k_is)
    (case c1 => k_is)
    (case k1 => k_is)
    (case a2 => k_is)
    (case l2 => k_is)
    (case c2 => k_is)
    (case k2 => k_is)
    (case a3 => k_is)
    (case l3 => k_is)
    (case c3 => k_is)
    (case k3 => k_is)
    (case a4 => k_is)
    (case l4 => k_is)
    (case c4 => k_is)
    (case k4 => k_is)
    (case a5 => k_is)
    (case l5 => k_is)
    (case c5 => k_is)
    (case k5 => k_is)
    (case a6 => k_is)
    (case l6 => k_is)
    (case c6 => k_is)
    (case k6 => k_is)
    (case z_len => k_is)
    (case z_tuple => k_is)
    (case z_range => k_is)
    (case z_abs => k_is)
    (case z_sum => k_is)
    (case z_max => k_is)
    (case z_isinstance => k_is)
    (case z_int => k_is)
    (case z_zip => k_is)
    (case z_bool => k_is)
    (case aMt => k_is)
    (case lMt => k_is)
    (case bind => obtain ⟨_, e⟩ := hT; rw [e]; exact .of_eq rfl)
#print axioms PySem.Challenge.cw_nearvault_k01_distances_holds



