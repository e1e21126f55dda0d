import PyProof.Rows.All
import Wide.All
import OpenK.AllK
import Wide.FinOn
import PyProof.EqAt
import PyProof.EqKinds
import PyProof.TupleCall
import KE.DataMinMax
import HandS.ForMost
import HandS.Steps
import HandS.Evl
import HandS.Wide
import HandS.EndBits
import HandS.Zip
import HandS.TupAny
import HandS.IsInst
import HandS.SortKw
import HandS.RevRange
import HandS.Conv
import HandS.Exc
import HandS.ExcOwn
import HandS.ExcIs
import HandS.Rev
import HandS.Lambda
import HandS.WordsExc
import HandS.More
import PySem.Challenge.RW_nearvault_k04_groups
set_option Elab.async false
set_option linter.all false
set_option maxRecDepth 100000
set_option maxHeartbeats 4000000
/-! # a small kit over the hand layer: readings of straight code, step by step -/
namespace Nv
open PySem L2
abbrev Frag := PySem.W.Frag
section
variable {σ : St} {H H' : Hp} {D : Ends} {K : Frag} {i j : Int} {x y z v : V} {ta tb te tv : TE} {b : Bool} {a C dx p : Addr} {fs : List (Str × V)} {f : Str} {t u c : TT} {ts tu tw : TS} {n : Nat}
/-! ### values -/
theorem g_val {Q : VK} (h : Val te σ H v) (q : Q v H) : te σ H Q := h Q q
theorem val_I0 {g : Int → Int → V} (ha : Val ta σ H (.int i)) (hb : Val tb σ H (.int j)) : Val (tOp (rI0 g) ta tb) σ H (g i j) := val_op ha hb fun _ q => ⟨i, j, rfl, rfl, q⟩
theorem val_I {C : Int → Int → Prop} {g : Int → Int → V} (ha : Val ta σ H (.int i)) (hb : Val tb σ H (.int j)) (hc : C i j) : Val (tOp (rI C g) ta tb) σ H (g i j) := val_op ha hb fun _ q => ⟨i, j, rfl, rfl, hc, q⟩
theorem val_U {g : Int → V} (ha : Val ta σ H (.int i)) : Val (tUn (rU g) ta) σ H (g i) := fun Q q => ha _ ⟨i, rfl, q⟩
theorem val_eq (ha : Val ta σ H x) (hb : Val tb σ H y) (hs : scal x y = true) : Val (tOp rEq ta tb) σ H (.bl (decide (x = y))) := val_op ha hb fun _ q => ⟨hs, q⟩
theorem val_ne (ha : Val ta σ H x) (hb : Val tb σ H y) (hs : scal x y = true) : Val (tOp rNe ta tb) σ H (.bl (!decide (x = y))) := val_op ha hb fun _ q => ⟨hs, q⟩
theorem val_not (ha : Val ta σ H (.bl b)) : Val (tNotV ta) σ H (.bl (!b)) := fun Q q => ha _ ⟨b, rfl, q⟩
theorem val_ixL {xs : List V} (ha : Val ta σ H (.ref p)) (hb : Val tb σ H (.int i)) (hs : SqL K H p xs) (hv : atI xs i = some v) : Val (tOp (rIxL K) ta tb) σ H v := val_op ha hb fun _ q => ⟨p, xs, i, v, rfl, rfl, hs, hv, q⟩
theorem val_ixT {xs : List V} (ha : Val ta σ H (.ref p)) (hb : Val tb σ H (.int i)) (hs : SqT K H p xs) (hv : atI xs i = some v) : Val (tOp (rIxT K) ta tb) σ H v := val_op ha hb fun _ q => ⟨p, xs, i, v, rfl, rfl, hs, hv, q⟩
theorem val_len {xs : List V} (ha : Val ta σ H (.ref p)) (hs : SqL K H p xs ∨ SqT K H p xs) :
    Val (tCB (fun xs H Q => ∃ p ys, xs = [V.ref p] ∧ (SqL K H p ys ∨ SqT K H p ys) ∧ Q (.int ys.length) H) (tCons ta tNil)) σ H (.int xs.length) := fun Q q => ha _ ⟨p, xs, rfl, hs, q⟩
theorem val_int1 (ha : Val ta σ H (.int i)) : Val (tCB (fun xs H Q => (∃ i, xs = [V.int i] ∧ Q (.int i) H) ∨ ∃ k, xs = [.bl k] ∧ Q (.int (if k then 1 else 0)) H) (tCons ta tNil)) σ H (.int i) := fun Q q => ha _ (.inl ⟨i, rfl, q⟩)
theorem val_abs (ha : Val ta σ H (.int i)) : Val (tCB (fun xs H Q => ∃ i, xs = [V.int i] ∧ Q (.int (if i < 0 then -i else i)) H) (tCons ta tNil)) σ H (.int (if i < 0 then -i else i)) := fun Q q => ha _ ⟨i, rfl, q⟩
theorem val_max2 (ha : Val ta σ H (.int i)) (hb : Val tb σ H (.int j)) : Val (tCB (fun xs H Q => ∃ i j, xs = [V.int i, .int j] ∧ Q (.int (if j > i then j else i)) H) (tCons ta (tCons tb tNil))) σ H (.int (if j > i then j else i)) := fun Q q => ha _ (hb _ ⟨i, j, rfl, q⟩)
/-! ### tests -/
theorem ans_I0 {g : Int → Int → V} (ha : Val ta σ H (.int i)) (hb : Val tb σ H (.int j)) (e : g i j = .bl b) : Ans (tTest (tOp (rI0 g) ta tb)) σ H b := ans_cmp ha hb fun Q q => ⟨i, j, rfl, rfl, by rw [e]; exact q⟩
theorem ans_Eq (ha : Val ta σ H x) (hb : Val tb σ H y) (hs : scal x y = true) : Ans (tTest (tOp rEq ta tb)) σ H (decide (x = y)) := ans_eq ha hb hs rfl
theorem ans_Ne (ha : Val ta σ H x) (hb : Val tb σ H y) (hs : scal x y = true) : Ans (tTest (tOp rNe ta tb)) σ H (!decide (x = y)) := ans_ne ha hb hs rfl
theorem ans_or2 {b1 b2 : Bool} (h1 : Ans t σ H b1) (h2 : b1 = false → Ans u σ H b2) : Ans (tOr t u) σ H (b1 || b2) := by
  cases b1 with
  | true => exact ans_or1 h1
  | false => exact ans_or h1 (h2 rfl)
theorem ans_And {b1 b2 : Bool} (h1 : Ans t σ H b1) (h2 : b1 = true → Ans u σ H b2) : Ans (tAnd t u) σ H (b1 && b2) := by
  cases b1 with
  | true => exact ans_and h1 (h2 rfl)
  | false => exact ans_and0 h1
theorem g_yes {A B : Hp → Prop} (h : A H) : tYes σ H (fun b H3 => if b = true then A H3 else B H3) := by
  show (if true = true then A H else B H)
  rw [if_pos rfl]
  exact h
theorem g_test {A B : Hp → Prop} (h : Ans c σ H b) (h1 : b = true → A H) (h2 : b = false → B H) : c σ H (fun b H3 => if b = true then A H3 else B H3) := by
  refine h _ ?_
  cases b with
  | true => rw [if_pos rfl]; exact h1 rfl
  | false => rw [if_neg Bool.false_ne_true]; exact h2 rfl
theorem g_noPart {Q : Option Int → Hp → Prop} (q : Q none H) : tNoPart σ H Q := q
/-! ### statements, something behind -/
theorem q_set {m : Nat} (h : Val te σ H v) (q : tu D (σ.set m (some v)) H) : tSeq (tAsg te (gName m)) tu D σ H := h _ q
theorem s_set {m : Nat} (h : Val te σ H v) (q : D.nx (σ.set m (some v)) H) : tAsg te (gName m) D σ H := h _ q
theorem q_setg {m : Nat} (h : te σ H fun v H1 => tu D (σ.set m (some v)) H1) : tSeq (tAsg te (gName m)) tu D σ H := h
theorem s_setg {m : Nat} (h : te σ H fun v H1 => D.nx (σ.set m (some v)) H1) : tAsg te (gName m) D σ H := h
theorem q_when (h : Ans c σ H b) (h1 : b = true → ts { D with nx := tu D } σ H) (h2 : b = false → tu D σ H) : tSeq (tIfS c ts tNext) tu D σ H := by
  refine h _ ?_
  cases b with
  | true => rw [if_pos rfl]; exact h1 rfl
  | false => rw [if_neg Bool.false_ne_true]; exact h2 rfl
theorem s_when (h : Ans c σ H b) (h1 : b = true → ts D σ H) (h2 : b = false → D.nx σ H) : tIfS c ts tNext D σ H := by
  refine h _ ?_
  cases b with
  | true => rw [if_pos rfl]; exact h1 rfl
  | false => rw [if_neg Bool.false_ne_true]; exact h2 rfl
theorem q_ife (h : Ans c σ H b) (h1 : b = true → ts { D with nx := tu D } σ H) (h2 : b = false → tw { D with nx := tu D } σ H) : tSeq (tIfS c ts tw) tu D σ H := by
  refine h _ ?_
  cases b with
  | true => rw [if_pos rfl]; exact h1 rfl
  | false => rw [if_neg Bool.false_ne_true]; exact h2 rfl
theorem s_ife (h : Ans c σ H b) (h1 : b = true → ts D σ H) (h2 : b = false → tw D σ H) : tIfS c ts tw D σ H := by
  refine h _ ?_
  cases b with
  | true => rw [if_pos rfl]; exact h1 rfl
  | false => rw [if_neg Bool.false_ne_true]; exact h2 rfl
/-- what stands behind an if, told once -/
theorem q_cutIf (M : St → Hp → Prop) (h : ts { D with nx := M } σ H) (k : ∀ σ' H', M σ' H' → tu D σ' H') (mono : ∀ N : St → Hp → Prop, (∀ σ' H', M σ' H' → N σ' H') → ts { D with nx := M } σ H → ts { D with nx := N } σ H) : tSeq ts tu D σ H := mono _ k h
theorem q_setL {xs : List V} {k : Nat} (hv : Val te σ H v) (ho : Val ta σ H (.ref p)) (hi : Val tb σ H (.int i)) (hl : H p = some (.lst xs)) (hk : ixN xs.length i = some k) (q : tu D σ (upd H p (.lst (xs.set k v)))) : tSeq (tAsg te (gSub ta tb rSetL)) tu D σ H := by
  refine hv _ ?_
  refine ho _ ?_
  refine hi _ ?_
  exact ⟨p, xs, i, k, rfl, rfl, hl, hk, q⟩
theorem s_setL {xs : List V} {k : Nat} (hv : Val te σ H v) (ho : Val ta σ H (.ref p)) (hi : Val tb σ H (.int i)) (hl : H p = some (.lst xs)) (hk : ixN xs.length i = some k) (q : D.nx σ (upd H p (.lst (xs.set k v)))) : tAsg te (gSub ta tb rSetL) D σ H := by
  refine hv _ ?_
  refine ho _ ?_
  refine hi _ ?_
  exact ⟨p, xs, i, k, rfl, rfl, hl, hk, q⟩
theorem s_ret (h : Val te σ H v) (q : D.rt v H) : tRet te D σ H := h _ q
theorem s_retg (h : te σ H D.rt) : tRet te D σ H := h
theorem q_fld (hv : Val tv σ H y) (ha : Val ta σ H (.ref a)) (ho : H a = some (.ins C dx fs)) (hc : Cls K C) (hn : NoAttr K C f) (hl : fs.length < 1000) (q : tu D σ (upd H a (.ins C dx (putF f y fs)))) : tSeq (sFld K ta tv f) tu D σ H := st_fld (D := { D with nx := tu D }) hv ha ho hc hn hl q
end
section
variable {σ : St} {H : Hp} {D : Ends} {tu ts : TS}
/-- a statement, then the rest, with a word between them -/
theorem q_cut (M : St → Hp → Prop) (h : ts { D with nx := M } σ H) (k : ∀ σ' H', M σ' H' → tu D σ' H') : Evl.tCut ts tu D σ H := ⟨M, h, k⟩
end
/-! ### heaps -/
/-- all but a is as it was -/
def But (a : Addr) (H H' : Hp) : Prop := ∀ b, b ≠ a → H' b = H b
theorem But.refl (a : Addr) (H : Hp) : But a H H := fun _ _ => rfl
theorem But.upd {a : Addr} {H : Hp} {o : HO} : But a H (upd H a o) := fun b h => upd_ne h
theorem But.trans {a : Addr} {H H1 H2 : Hp} (x : But a H H1) (y : But a H1 H2) : But a H H2 := fun b h => (y b h).trans (x b h)
/-- what was tracked stays, but for a -/
def Kp (a : Addr) (H H' : Hp) : Prop := ∀ b o, b ≠ a → H b = some o → H' b = some o
theorem Kp.refl (a : Addr) (H : Hp) : Kp a H H := fun _ _ _ e => e
theorem Kp.trans {a : Addr} {H H1 H2 : Hp} (x : Kp a H H1) (y : Kp a H1 H2) : Kp a H H2 := fun b o n e => y b o n (x b o n e)
theorem Kp.but {a : Addr} {H H' : Hp} (x : But a H H') : Kp a H H' := fun b o n e => by rw [x b n]; exact e
theorem Kp.of {a : Addr} {H H' : Hp} (x : Same H H') : Kp a H H' := fun b o _ e => x b o e
theorem same_upd {H : Hp} {p : Addr} {o : HO} (h : H p = none) : Same H (upd H p o) := fun b x e => by
  rw [upd_ne (ne_of_none e h)]
  exact e
theorem Same.of_kp {a : Addr} {H H' : Hp} (n : H a = none) (x : Kp a H H') : Same H H' := fun b o e => x b o (ne_of_none e n) e
theorem seqT {K : Frag} {H H' : Hp} {a : Addr} {xs : List V} (e : Same H H') (h : SqT K H a xs) : SqT K H' a xs := by
  rcases h with (h | ⟨o, h⟩) | h
  · exact .inl (.inl (e _ _ h))
  · exact .inl (.inr ⟨o, e _ _ h⟩)
  · exact .inr h
theorem ixN_lt {n k : Nat} (h : k < n) : ixN n (k : Int) = some k := by
  unfold ixN
  rw [if_pos (by omega), if_pos (by omega)]
  all_goals rfl
theorem at_map {α : Type} {g : α → V} {xs : List α} {k : Nat} {x : α} (h : xs[k]? = some x) : atI (xs.map g) (k : Int) = some (g x) := atI_nat (by rw [List.getElem?_map, h]; rfl)
theorem at_mod {ns : List Int} (i : Int) (h : 0 < ns.length) : ∃ c : Int, atI (ns.map V.int) (i % (((ns.map V.int).length : Nat) : Int)) = some (.int c) := by
  have hm : i % (((ns.map V.int).length : Nat) : Int) = (((i % ((ns.length : Nat) : Int)).toNat : Nat) : Int) := by
    rw [List.length_map]
    exact (Int.toNat_of_nonneg (Int.emod_nonneg _ (by omega))).symm
  have hlt : (i % ((ns.length : Nat) : Int)).toNat < ns.length := by
    have := Int.emod_lt_of_pos i (show (0 : Int) < (ns.length : Nat) by omega)
    have := Int.emod_nonneg i (show ((ns.length : Nat) : Int) ≠ 0 by omega)
    omega
  rw [hm]
  exact ⟨_, at_map (List.getElem?_eq_getElem hlt)⟩
/-! ### max(xs, default=d) -/
section
open PySem.W PyProof.Rows
theorem readsAll_ints {h : Heap} : ∀ {its : List Value} {ns : List Int}, IntsAre its ns → ∃ as, ReadsAll h its (ns.map PyData.int) as
  | _, _, .nil => ⟨_, .nil⟩
  | _, _, .cons n t h => by
    obtain ⟨as, r⟩ := readsAll_ints h
    exact ⟨_, .cons (Reads.int n t) r⟩
theorem depth_ints : ∀ ns : List Int, PyData.depthAll (ns.map PyData.int) ≤ 1
  | [] => by simp [PyData.depthAll]
  | n :: r => by
    have ih := depth_ints r
    simp only [List.map_cons, PyData.depthAll, PyData.depth]
    omega
theorem alike_ints (ns : List Int) : AlikeAll (ns.map PyData.int) := by
  refine ⟨fun x hx y hy => ?_, fun x hx => ?_⟩
  · obtain ⟨a, _, rfl⟩ := List.mem_map.mp hx
    obtain ⟨b, _, rfl⟩ := List.mem_map.mp hy
    rfl
  · obtain ⟨a, _, rfl⟩ := List.mem_map.mp hx
    exact fun z => nomatch z
def maxDf (d : Int) : List Int → Int
  | [] => d
  | y :: ys => ys.foldl max y
def rMaxDf (K : Frag) : List V → List V → Hp → VK → Prop := fun xs zs H Q => ∃ (a : Addr) (ns : List Int) (d : Int), xs = [.ref a] ∧ zs = [.int d] ∧ SqL K H a (ns.map V.int) ∧ Q (.int (maxDf d ns)) H
theorem cr_maxDf {X : Cx} (hc : X.calm = true) (hu : X.A.units + 2 < cLine) : CallRK X (.builtin "max") ["default"] (rMaxDf X.K) := by
  intro pins s σ H xs zs us ws Q I r rz h
  obtain ⟨a, ns, d, rfl, rfl, hs, q⟩ := h
  obtain ⟨its, rv, hl, _⟩ := I.list hs
  rw [Vals.ref1 r]
  cases rz with
  | cons r1 rn =>
    cases rn
    rename_i w0
    obtain ⟨as, hr⟩ := readsAll_ints (h := s.heap) rv.ints
    show wpAny _ _ (call (.builtin "max") [.ref a] [(Str.ofString "default", w0)]) _ _ _
    have hdep := depth_ints ns
    refine max_list_default (xs := ns.map PyData.int) (as := as) (I.ok.hd hc) hl.isList (by simpa using hr) (alike_ints ns) (by omega) (fun e h' tk hk => ?_) (fun y ys i v h' tk bs e hv hR hk => ?_)
    · have e0 : ns = [] := List.map_eq_nil_iff.mp e
      subst e0
      exact ⟨.int d, H, I.kept hk, r1, q⟩
    · cases ns with
      | nil => cases e
      | cons n r =>
        have e1 : PyData.int n = y ∧ r.map PyData.int = ys := by
          have := List.cons.inj e
          exact this
        obtain ⟨rfl, rfl⟩ := e1
        rw [maxD_ints] at hR
        cases hR
        exact ⟨.int _, H, I.kept hk, ⟨_, rfl⟩, q⟩
end
/-! ### slices and sums of tuples, whatever object comes -/
theorem cutV_whole {xs : List V} {lo hi : Option Int} (h : HT.sIx xs.length 0 lo = 0 ∧ HT.sIx xs.length xs.length hi = xs.length) : cutV xs lo hi = xs := by
  unfold cutV
  rw [h.1, h.2]
  simp
theorem slT_any {K : Frag} {H : Hp} {Q : VK} {a : Addr} {xs : List V} {lo hi : Option Int} (ha : SqT K H a xs) (k : ∀ p H', Same H H' → SqT K H' p (cutV xs lo hi) → Q (.ref p) H') : rSlA K (.ref a) lo hi H Q :=
  ⟨a, xs, rfl, ha, fun h => k a H (Same.refl _) (by rw [cutV_whole h]; exact ha), fun _ p hp => k p _ (same_upd hp) (SqT.of upd_same)⟩
theorem catA_any {K : Frag} {H : Hp} {Q : VK} {a b : Addr} {xs ys : List V} (ha : SqT K H a xs) (hb : SqT K H b ys) (hz : xs.length + ys.length ≤ sizeLine) (k : ∀ p H', Same H H' → SqT K H' p (xs ++ ys) → Q (.ref p) H') : rCatA K (.ref a) (.ref b) H Q :=
  ⟨a, b, xs, ys, rfl, rfl, ha, hb, hz, fun h => k b H (Same.refl _) (by rw [h]; exact hb), fun _ h => k a H (Same.refl _) (by rw [h, List.append_nil]; exact ha), fun _ _ p hp => k p _ (same_upd hp) (SqT.of upd_same)⟩
theorem cut_take {α : Type} (g : α → V) (xs : List α) (k : Nat) : cutV (xs.map g) none (some (k : Int)) = (xs.take k).map g := by
  unfold cutV
  rw [HT.sIx_none, HT.sIx_nat, List.length_map, List.drop_zero, Nat.sub_zero, ← List.map_take]
  congr 1
  rw [List.take_eq_take_iff]
  omega
theorem cut_drop {α : Type} (g : α → V) (xs : List α) (k : Nat) : cutV (xs.map g) (some (k : Int)) none = (xs.drop k).map g := by
  unfold cutV
  rw [HT.sIx_none, HT.sIx_nat, List.length_map, ← List.map_drop, ← List.map_take]
  congr 1
  by_cases h : k ≤ xs.length
  · rw [Nat.min_eq_left h, List.take_of_length_le (by rw [List.length_drop]; omega)]
  · rw [Nat.min_eq_right (by omega), List.drop_eq_nil_of_le (Nat.le_refl _), List.drop_eq_nil_of_le (by omega), List.take_nil]
/-! ### == of data -/
theorem dpAll_ints {K : Frag} {H : Hp} : ∀ ns : List Int, DpAll K H (ns.map V.int) (ns.map PyData.int)
  | [] => .nil
  | n :: r => .cons (.int n) (dpAll_ints r)
theorem lay_ints : ∀ ns : List Int, PyData.canLayAll0 (ns.map PyData.int) = true
  | [] => by simp [PyData.canLayAll0]
  | n :: r => by
    simp only [List.map_cons, PyData.canLayAll0, lay_ints r, PyData.canLay0, Bool.and_self]
theorem shaped_tup_ints (ns : List Int) : SeqAt.shaped (.tuple (ns.map PyData.int)) = true := by
  have h := depth_ints ns
  have h2 : PyData.depth (.tuple (ns.map PyData.int)) ≤ 64 := by
    rw [PyData.depth]
    omega
  unfold SeqAt.shaped
  rw [Bool.and_eq_true]
  exact ⟨by rw [PyData.canLay0]; exact lay_ints ns, decide_eq_true h2⟩
theorem shaped_lst_ints (ns : List Int) : SeqAt.shaped (.list (ns.map PyData.int)) = true := by
  have h := depth_ints ns
  have h2 : PyData.depth (.list (ns.map PyData.int)) ≤ 64 := by
    rw [PyData.depth]
    omega
  unfold SeqAt.shaped
  rw [Bool.and_eq_true]
  exact ⟨by rw [PyData.canLay0]; exact lay_ints ns, decide_eq_true h2⟩
theorem eqT_ints {K : Frag} {H : Hp} {Q : VK} {a b : Addr} {xs ys : List Int} (ha : SqT K H a (xs.map V.int)) (hb : SqT K H b (ys.map V.int)) (q : Q (.bl (decide (xs = ys))) H) : rEqD K (.ref a) (.ref b) H Q :=
  ⟨_, _, .tup ha (dpAll_ints xs), .tup hb (dpAll_ints ys), shaped_tup_ints xs, shaped_tup_ints ys, by
    have e : PyData.eqv (.tuple (xs.map PyData.int)) (.tuple (ys.map PyData.int)) = decide (xs = ys) := by
      rw [← PySem.W.ked_eqvAll]
      simp only [PyData.eqv]
    rw [e]
    exact q⟩
theorem eqL_ints {K : Frag} {H : Hp} {Q : VK} {a b : Addr} {xs ys : List Int} (ha : SqL K H a (xs.map V.int)) (hb : SqL K H b (ys.map V.int)) (q : Q (.bl (decide (xs = ys))) H) : rEqD K (.ref a) (.ref b) H Q :=
  ⟨_, _, .lst ha (dpAll_ints xs), .lst hb (dpAll_ints ys), shaped_lst_ints xs, shaped_lst_ints ys, by
    have e : PyData.eqv (.list (xs.map PyData.int)) (.list (ys.map PyData.int)) = decide (xs = ys) := by
      rw [← PySem.W.ked_eqvAll]
      simp only [PyData.eqv]
    rw [e]
    exact q⟩
theorem neL_ints {K : Frag} {H : Hp} {Q : VK} {a b : Addr} {xs ys : List Int} (ha : SqL K H a (xs.map V.int)) (hb : SqL K H b (ys.map V.int)) (q : Q (.bl (!decide (xs = ys))) H) : rNeD K (.ref a) (.ref b) H Q :=
  ⟨_, _, .lst ha (dpAll_ints xs), .lst hb (dpAll_ints ys), shaped_lst_ints xs, shaped_lst_ints ys, by
    have e : PyData.eqv (.list (xs.map PyData.int)) (.list (ys.map PyData.int)) = decide (xs = ys) := by
      rw [← PySem.W.ked_eqvAll]
      simp only [PyData.eqv]
    rw [e]
    exact q⟩
theorem neT_ints {K : Frag} {H : Hp} {Q : VK} {a b : Addr} {xs ys : List Int} (ha : SqT K H a (xs.map V.int)) (hb : SqT K H b (ys.map V.int)) (q : Q (.bl (!decide (xs = ys))) H) : rNeD K (.ref a) (.ref b) H Q :=
  ⟨_, _, .tup ha (dpAll_ints xs), .tup hb (dpAll_ints ys), shaped_tup_ints xs, shaped_tup_ints ys, by
    have e : PyData.eqv (.tuple (xs.map PyData.int)) (.tuple (ys.map PyData.int)) = decide (xs = ys) := by
      rw [← PySem.W.ked_eqvAll]
      simp only [PyData.eqv]
    rw [e]
    exact q⟩
/-! ### a range object with a step, held by a name -/
section
open PyProof.Rows
variable {X : Cx}
def rngHO (p : Addr) (i j c : Int) : HO := .ext fun h => ∃ t u v, h.get? p = some { cls := .type "range", data := .fields #[.int i t, .int j u, .int c v] }
def rRng3 : List V → Hp → VK → Prop := fun vs H Q => ∃ i j c : Int, vs = [.int i, .int j, .int c] ∧ c ≠ 0 ∧ c.natAbs < 1073741824 ∧ ∀ p, H p = none → Q (.ref p) (upd H p (rngHO p i j c))
theorem cr_range3 : CallR X (.type "range") rRng3 := by
  intro pins s σ H vs us Q I r h
  obtain ⟨i, j, c, rfl, c0, c1, q⟩ := h
  cases r with
  | cons r rr =>
    cases rr with
    | cons r' rr =>
      cases rr with
      | cons r'' rr =>
        cases rr
        obtain ⟨t, rfl⟩ := r
        obtain ⟨t', rfl⟩ := r'
        obtain ⟨t'', rfl⟩ := r''
        refine call_range_3 c0 ?_ (.inl (PyProof.noPylong_small c1))
        have hf : H s.heap.objs.size = none := I.hok.fresh (Nat.le_refl _)
        refine ⟨.ref s.heap.objs.size, upd H s.heap.objs.size (rngHO s.heap.objs.size i j c), I.laid (t' := s.toks) (fun b u e => Heap.get?_push_of_some _ e) (Nat.le_refl _) ?_, rfl, q _ hf⟩
        exact ⟨⟨_, _, _, Heap.get?_push_size _ rfl⟩, ⟨_, Heap.get?_push_size _ rfl⟩, fun h1 h2 ⟨a, b, d, e⟩ k => ⟨a, b, d, k _ e⟩⟩
def iRngV (tl : TE) : TI := fun σ H R => tl σ H fun x H1 => ∃ (p : Addr) (i j c : Int) (n : Nat), x = .ref p ∧ H1 p = some (rngHO p i j c) ∧ RgC i j c n ∧ R (Itc i c n) H1
theorem pi_rngV {tg l : Expr} {tl : TE} (hl : PE X l tl) : PI X tg l (iRngV tl) := by
  refine ⟨fun pins s σ H R I h => ?_⟩
  refine thn (hl.run pins s σ H _ I h) fun v s1 ⟨x, H1, I1, r1, q1⟩ => ?_
  obtain ⟨p, i, j, k, n, e, ep, ⟨c0, c1, c2, c3⟩, q⟩ := q1
  subst e
  cases r1
  obtain ⟨⟨t, u, w1, hp⟩, _, _⟩ := I1.hok p _ ep
  refine wpAny_pyIter_range (show IsRange s1.heap p i j k t u w1 from hp) c2 ?_
  refine pi_one (tk := s1.toks) I1 _ (turn_rangeC _ i k n) ?_ q
  have e1 : i + ((0 : Nat) : Int) * k = i := by simp
  have e2 : (n : Int) - ((0 : Nat) : Int) = Builtin.Range.rangeSize i j k := by rw [c3]; simp
  show IsRangeIter _ _ (i + ((0 : Nat) : Int) * k) ((n : Int) - ((0 : Nat) : Int)) k
  rw [e1, e2]
  exact Heap.get?_push_size _ rfl
end
theorem lc_rangeC {lo c : Int} {n : Nat} {g : TG} {tt : TT} {te : TE} {vs : List Nat} {σ : St} {H1 : Hp} {D : Addr} {Qd : Hp → Prop} (Pv : Nat → Hp → Prop) (h0 : Pv 0 (upd H1 D (.lst [])))
    (hs : ∀ (i : Nat) H, i < n → Pv i H → g (.int (lo + (i : Int) * c)) (wipe σ vs) H fun σ2 H2 => wipe σ2 vs = wipe σ vs ∧ tt σ2 H2 fun b H3 =>
      if b = true then te σ2 H3 fun y H4 => ∃ acc, H4 D = some (.lst acc) ∧ acc.length < sizeLine ∧ Pv (i + 1) (upd H4 D (.lst (acc ++ [y]))) else Pv (i + 1) H3) (hd : ∀ H, Pv n H → Qd H) :
    ∃ W : Nat → Nat → Hp → Prop, (∃ m, W 0 m (upd H1 D (.lst []))) ∧ ∀ i m H, W i m H →
      ((Itc lo c n).stop i H ∧ Qd H) ∨ ((Itc lo c n).go i H ∧ ∃ Nx : Hp → Prop, (∀ H', Nx H' → ∃ m', m' < m ∧ W (i + 1) m' H') ∧ ∀ x H', (Itc lo c n).yld i H x H' → g x (wipe σ vs) H' fun σ2 H2 => wipe σ2 vs = wipe σ vs ∧ tt σ2 H2 fun b H3 =>
        if b = true then te σ2 H3 fun y H4 => ∃ acc, H4 D = some (.lst acc) ∧ acc.length < sizeLine ∧ Nx (upd H4 D (.lst (acc ++ [y]))) else Nx H3) := by
  refine ⟨fun i m H => m = n - i ∧ i ≤ n ∧ Pv i H, ⟨n, by simp, Nat.zero_le _, h0⟩, ?_⟩
  rintro i m H ⟨rfl, hi, p⟩
  by_cases hlt : i < n
  · refine .inr ⟨hlt, Pv (i + 1), fun H' p' => ⟨n - (i + 1), by omega, rfl, hlt, p'⟩, fun x H' y => ?_⟩
    obtain ⟨e, y⟩ := y
    subst e y
    exact hs i _ hlt p
  · have e : i = n := by omega
    subst e
    exact .inl ⟨Nat.le_refl _, hd H p⟩
/-- a range up by twos -/
theorem rgC_two {i : Int} {n : Nat} (h0 : 0 ≤ i) (h1 : i < 2 ^ 40) (h2 : n < 1000000) : RgC i (i + 2 * (n : Int)) 2 n := by
  have hz : Builtin.Range.rangeSize i (i + 2 * (n : Int)) 2 = (n : Int) := by
    unfold Builtin.Range.rangeSize
    simp only [show (2 : Int) > 0 by decide, if_true]
    split <;> omega
  refine ⟨by decide, by decide, ?_, hz⟩
  unfold Builtin.Range.small Builtin.Range.rangeFitsLong
  rw [hz, if_pos (show (2 : Int) > 0 by decide)]
  simp only [Bool.and_eq_true, Bool.or_eq_true, decide_eq_true_eq]
  refine ⟨⟨⟨⟨?_, ?_⟩, ?_⟩, ?_⟩, .inr ?_⟩ <;> omega
end Nv

namespace Nv
open PySem L2
/-- the drawing state: made at st since H0; the script at sc -/
structure Dr (K : Frag) (H0 H : Hp) (st sc : Addr) (ns : List Int) : Prop where
  sq : SqL K H0 sc (ns.map V.int)
  same : Same H0 H
  new : H0 st = none
  ex : ∃ i d : Int, 0 ≤ i ∧ 0 ≤ d ∧ H st = some (.lst [.int i, .int d])
theorem Dr.kp {K : Frag} {H0 H H' : Hp} {st sc : Addr} {ns : List Int} (d : Dr K H0 H st sc ns) (h : Same H H') : Dr K H0 H' st sc ns := by
  obtain ⟨i, j, hi, hj, e⟩ := d.ex
  exact ⟨d.sq, d.same.trans h, d.new, i, j, hi, hj, h _ _ e⟩
theorem Dr.put {K : Frag} {H0 H : Hp} {st sc : Addr} {ns : List Int} {i j : Int} (d : Dr K H0 H st sc ns) (hi : 0 ≤ i) (hj : 0 ≤ j) : Dr K H0 (upd H st (.lst [.int i, .int j])) st sc ns :=
  ⟨d.sq, fun b o e => by rw [upd_ne (ne_of_none e d.new)]; exact d.same b o e, d.new, i, j, hi, hj, upd_same⟩
theorem Dr.seq {K : Frag} {H0 H : Hp} {st sc : Addr} {ns : List Int} (d : Dr K H0 H st sc ns) : SqL K H sc (ns.map V.int) := d.same.seq d.sq
/-- the law's helper that draws: a number below n; the state alone changes -/
def spDraw (K : Frag) : Sp := fun vs H Q _ => ∃ (st sc : Addr) (n : Int) (H0 : Hp) (ns : List Int), vs = [.ref st, .ref sc, .int n] ∧ 0 < n ∧ n.natAbs < 2 ^ 64 ∧ Dr K H0 H st sc ns ∧
  ∀ (r : Int) (H' : Hp), 0 ≤ r → r < n → But st H H' → Dr K H0 H' st sc ns → Q (.int r) H'
end Nv

namespace Nv
open PySem L2
/-! # a device: plain states -/
structure DS where
  pages : Int → Option (List Int)
  writes : List (Int × List Int)
  log : List Int
  steps : List (Option Int)
  done : Int
  allowed : Option Int
def zeros : List Int := List.replicate 256 0
def DS.new : DS := ⟨fun _ => none, [], [], [], 0, none⟩
def putP (f : Int → Option (List Int)) (n : Int) (xs : List Int) : Int → Option (List Int) := fun j => if j = n then some xs else f j
def getP (f : Int → Option (List Int)) (n : Int) : List Int := (f n).getD zeros
def lastW (ws : List (Int × List Int)) (n : Int) (o : Option (List Int)) : Option (List Int) := ws.foldl (fun o w => if w.1 = n then some w.2 else o) o
def DS.page (d : DS) (n : Int) : List Int := (lastW d.writes n (d.pages n)).getD zeros
def logStep (l : List Int) : Option Int → List Int
  | none => []
  | some b => l ++ [b]
def afterL (l : List Int) (ss : List (Option Int)) : List Int := ss.foldl logStep l
def DS.logNow (d : DS) : List Int := afterL d.log d.steps
def DS.tick (d : DS) : Option DS := match d.allowed with
  | none => some { d with done := d.done + 1 }
  | some a => if a ≤ 0 then none else some { d with done := d.done + 1, allowed := some (a - 1) }
def DS.write (d : DS) (n : Int) (xs : List Int) : DS := { d with writes := d.writes ++ [(n, xs)] }
def putAll (f : Int → Option (List Int)) (ws : List (Int × List Int)) : Int → Option (List Int) := ws.foldl (fun f w => putP f w.1 w.2) f
def DS.syncP (d : DS) : DS := { d with pages := putAll d.pages d.writes, writes := [] }
def DS.add (d : DS) (s : Option Int) : DS := { d with steps := d.steps ++ [s] }
def DS.syncL (d : DS) : DS := { d with log := d.logNow, steps := [] }
/-- the bytes one by one, as far as the power goes; was it enough? -/
def DS.appendAll : DS → List Int → DS × Bool
  | d, [] => (d, true)
  | d, b :: r => match d.tick with
    | none => (d, false)
    | some e => (e.add (some b)).appendAll r
def endW (f : Int → Option (List Int)) (w : Int × List Int) (fate : Int) : Int → Option (List Int) :=
  if fate = 1 then putP f w.1 w.2 else if fate = 2 then putP f w.1 (w.2.take 128 ++ (getP f w.1).drop 128) else f
def crashP (f : Int → Option (List Int)) (ws : List (Int × List Int)) (fs : List Int) : Int → Option (List Int) := (ws.zip fs).foldl (fun f p => endW f p.1 p.2) f
def DS.crash (d : DS) (fs : List Int) (k : Nat) : DS := ⟨crashP d.pages d.writes fs, [], afterL d.log (d.steps.take k), [], d.done, none⟩
theorem afterL_snoc (l : List Int) (ss : List (Option Int)) (s : Option Int) : afterL l (ss ++ [s]) = logStep (afterL l ss) s := by
  unfold afterL
  rw [List.foldl_append]
  rfl
theorem afterL_len (l : List Int) : ∀ ss : List (Option Int), (afterL l ss).length ≤ l.length + ss.length := by
  intro ss
  induction ss generalizing l with
  | nil => exact Nat.le_refl _
  | cons s r ih =>
    have h := ih (logStep l s)
    have h2 : (logStep l s).length ≤ l.length + 1 := by
      cases s with
      | none => exact Nat.zero_le _
      | some b =>
        show (l ++ [b]).length ≤ _
        rw [List.length_append]
        exact Nat.le_refl _
    show (afterL (logStep l s) r).length ≤ l.length + (r.length + 1)
    omega
theorem lastW_snoc (ws : List (Int × List Int)) (w : Int × List Int) (n : Int) (o : Option (List Int)) : lastW (ws ++ [w]) n o = if w.1 = n then some w.2 else lastW ws n o := by
  unfold lastW
  rw [List.foldl_append]
  rfl
theorem putAll_snoc (f : Int → Option (List Int)) (ws : List (Int × List Int)) (w : Int × List Int) : putAll f (ws ++ [w]) = putP (putAll f ws) w.1 w.2 := by
  unfold putAll
  rw [List.foldl_append]
  rfl
theorem take_more {α : Type} {l : List α} {i : Nat} {x : α} (h : l[i]? = some x) : l.take (i + 1) = l.take i ++ [x] := by
  rw [List.take_add_one, h]
  rfl
theorem crash_more {f : Int → Option (List Int)} {ws : List (Int × List Int)} {fs : List Int} {i : Nat} {w : Int × List Int} {a : Int} (hw : ws[i]? = some w) (ha : fs[i]? = some a) :
    crashP f (ws.take (i + 1)) (fs.take (i + 1)) = endW (crashP f (ws.take i) (fs.take i)) w a := by
  have h1 := (List.getElem?_eq_some_iff.mp hw).1
  have h2 := (List.getElem?_eq_some_iff.mp ha).1
  unfold crashP
  rw [take_more hw, take_more ha, List.zip_append (by rw [List.length_take, List.length_take]; omega), List.foldl_append]
  rfl
theorem crash_min {f : Int → Option (List Int)} {ws : List (Int × List Int)} {fs : List Int} : crashP f (ws.take (min ws.length fs.length)) (fs.take (min ws.length fs.length)) = crashP f ws fs := by
  unfold crashP
  rw [show (ws.take (min ws.length fs.length)).zip (fs.take (min ws.length fs.length)) = (ws.zip fs).take (min ws.length fs.length) from List.take_zipWith.symm]
  congr 1
  exact List.take_of_length_le (by rw [List.length_zip]; exact Nat.le_refl _)
def optV : Option Int → V
  | none => .non
  | some i => .int i
/-! # a device in the heap: the ghost of its parts; what is written in F stays for ever -/
structure DG where
  dx : Addr
  dp : Addr
  pw : Addr
  ls : Addr
  dl : Addr
  F : Hp
  kvs : List (Key × V)
  vs : List V
def devF (g : DG) (d : DS) : List (Str × V) := [("_durable_pages", .ref g.dp), ("_page_writes", .ref g.pw), ("_durable_log", .ref g.dl), ("_log_steps", .ref g.ls), ("_steps_performed", .int d.done), ("_steps_allowed", optV d.allowed)]
def PgIn (F : Hp) (kvs : List (Key × V)) (f : Int → Option (List Int)) : Prop := ∀ n : Int, (f n = none ∧ valV kvs (.inl n) = none) ∨ ∃ p xs, f n = some xs ∧ valV kvs (.inl n) = some (.ref p) ∧ F p = some (.lst (xs.map V.int)) ∧ xs.length ≤ 1000
def WrOne (F : Hp) (v : V) (w : Int × List Int) : Prop := ∃ t p, v = .ref t ∧ F t = some (.tup [.int w.1, .ref p]) ∧ F p = some (.lst (w.2.map V.int)) ∧ w.2.length ≤ 1000
structure WrIn (F : Hp) (vs : List V) (ws : List (Int × List Int)) : Prop where
  len : vs.length = ws.length
  each : ∀ (i : Nat) (v : V) (w : Int × List Int), vs[i]? = some v → ws[i]? = some w → WrOne F v w
structure DevAt (C : Addr) (H : Hp) (dev : Addr) (g : DG) (d : DS) : Prop where
  at_ : H dev = some (.ins C g.dx (devF g d))
  dp : H g.dp = some (.dK g.kvs)
  pg : PgIn g.F g.kvs d.pages
  pw : H g.pw = some (.lst g.vs)
  wr : WrIn g.F g.vs d.writes
  ls : H g.ls = some (.lst (d.steps.map optV))
  dl : g.F g.dl = some (.lst (d.log.map V.int))
  sm : Same g.F H
  f0 : g.F dev = none
  f1 : g.F g.dp = none
  f2 : g.F g.pw = none
  f3 : g.F g.ls = none
  ne : g.pw ≠ g.ls
def own (dev : Addr) (g : DG) (b : Addr) : Prop := b = dev ∨ b = g.dp ∨ b = g.pw ∨ b = g.ls ∨ ∃ o, g.F b = some o
/-- what a call of the device does to the heap: what it doesn't own stays; what it owns behind it is its own or new -/
structure Fr (dev : Addr) (g : DG) (H : Hp) (g' : DG) (H' : Hp) : Prop where
  keep : ∀ b o, ¬ own dev g b → H b = some o → H' b = some o
  grow : ∀ b, own dev g' b → own dev g b ∨ H b = none
theorem Fr.refl (dev : Addr) (g : DG) (H : Hp) : Fr dev g H g H := ⟨fun _ _ _ e => e, fun _ h => .inl h⟩
theorem Fr.trans {dev : Addr} {g g1 g2 : DG} {H H1 H2 : Hp} (x : Fr dev g H g1 H1) (y : Fr dev g1 H1 g2 H2) : Fr dev g H g2 H2 := by
  refine ⟨fun b o n e => y.keep b o (fun h => ?_) (x.keep b o n e), fun b h => ?_⟩
  · rcases x.grow b h with h | h
    · exact n h
    · rw [e] at h; cases h
  · rcases y.grow b h with h | h
    · exact x.grow b h
    · by_cases k : own dev g b
      · exact .inl k
      · refine .inr ?_
        cases e : H b with
        | none => rfl
        | some o =>
          have := x.keep b o k e
          rw [h] at this
          cases this
theorem Fr.same {dev : Addr} {g : DG} {H H' : Hp} (h : Same H H') : Fr dev g H g H' := ⟨fun b o _ e => h b o e, fun _ h => .inl h⟩
/-- a field list: what stands first, what stands behind -/
theorem fld_hd {f : Str} {x : V} {l : List (Str × V)} : ((f, x) :: l).lookup f = some x := by simp [List.lookup]
theorem fld_tl {f g : Str} {x : V} {l : List (Str × V)} (n : (f == g) = false) : ((g, x) :: l).lookup f = l.lookup f := by simp [List.lookup, n]
theorem set_hd {f : Str} {x y : V} {l : List (Str × V)} : putF f y ((f, x) :: l) = (f, y) :: l := by simp [putF]
theorem set_tl {f g : Str} {x y : V} {l l' : List (Str × V)} (n : ¬ g = f) (e : putF f y l = l') : putF f y ((g, x) :: l) = (g, x) :: l' := by
  rw [← e]
  simp [putF, n]
section
variable {C dev p t : Addr} {H H' : Hp} {g : DG} {d : DS} {n : Int} {xs : List Int} {o : HO}
theorem lk_dp : (devF g d).lookup ("_durable_pages" : Str) = some (.ref g.dp) := fld_hd
theorem lk_pw : (devF g d).lookup ("_page_writes" : Str) = some (.ref g.pw) := (fld_tl (by decide +kernel)).trans fld_hd
theorem lk_dl : (devF g d).lookup ("_durable_log" : Str) = some (.ref g.dl) := (fld_tl (by decide +kernel)).trans ((fld_tl (by decide +kernel)).trans fld_hd)
theorem lk_ls : (devF g d).lookup ("_log_steps" : Str) = some (.ref g.ls) := (fld_tl (by decide +kernel)).trans ((fld_tl (by decide +kernel)).trans ((fld_tl (by decide +kernel)).trans fld_hd))
theorem lk_done : (devF g d).lookup ("_steps_performed" : Str) = some (.int d.done) := (fld_tl (by decide +kernel)).trans ((fld_tl (by decide +kernel)).trans ((fld_tl (by decide +kernel)).trans ((fld_tl (by decide +kernel)).trans fld_hd)))
theorem lk_all : (devF g d).lookup ("_steps_allowed" : Str) = some (optV d.allowed) := (fld_tl (by decide +kernel)).trans ((fld_tl (by decide +kernel)).trans ((fld_tl (by decide +kernel)).trans ((fld_tl (by decide +kernel)).trans ((fld_tl (by decide +kernel)).trans fld_hd))))
theorem lk_no {m : Str} (h : (["_durable_pages", "_page_writes", "_durable_log", "_log_steps", "_steps_performed", "_steps_allowed"] : List Str).all (fun f => !(m == f)) = true) : (devF g d).lookup m = none := by
  simp only [List.all_cons, List.all_nil, Bool.and_true, Bool.and_eq_true, Bool.not_eq_true'] at h
  obtain ⟨h1, h2, h3, h4, h5, h6⟩ := h
  exact (fld_tl h1).trans ((fld_tl h2).trans ((fld_tl h3).trans ((fld_tl h4).trans ((fld_tl h5).trans ((fld_tl h6).trans rfl)))))
theorem put_pw {q : Addr} : putF "_page_writes" (.ref q) (devF g d) = devF { g with pw := q } d := set_tl (by decide +kernel) set_hd
theorem put_dl {q : Addr} : putF "_durable_log" (.ref q) (devF g d) = devF { g with dl := q } d := set_tl (by decide +kernel) (set_tl (by decide +kernel) set_hd)
theorem put_ls {q : Addr} : putF "_log_steps" (.ref q) (devF g d) = devF { g with ls := q } d := set_tl (by decide +kernel) (set_tl (by decide +kernel) (set_tl (by decide +kernel) set_hd))
theorem put_done {i : Int} : putF "_steps_performed" (.int i) (devF g d) = devF g { d with done := i } := set_tl (by decide +kernel) (set_tl (by decide +kernel) (set_tl (by decide +kernel) (set_tl (by decide +kernel) set_hd)))
theorem put_all {a : Option Int} : putF "_steps_allowed" (optV a) (devF g d) = devF g { d with allowed := a } := set_tl (by decide +kernel) (set_tl (by decide +kernel) (set_tl (by decide +kernel) (set_tl (by decide +kernel) (set_tl (by decide +kernel) set_hd))))
theorem same_ne {F : Hp} {a : Addr} (h : Same F H) (n : F a = none) : Same F (upd H a o) := fun b x e => by
  rw [upd_ne (ne_of_none e n)]
  exact h b x e
theorem DevAt.n1 (D : DevAt C H dev g d) : g.dp ≠ dev := ne_of D.dp D.at_ (fun z => nomatch z)
theorem DevAt.n2 (D : DevAt C H dev g d) : g.pw ≠ dev := ne_of D.pw D.at_ (fun z => nomatch z)
theorem DevAt.n3 (D : DevAt C H dev g d) : g.ls ≠ dev := ne_of D.ls D.at_ (fun z => nomatch z)
theorem DevAt.n4 (D : DevAt C H dev g d) : g.pw ≠ g.dp := ne_of D.pw D.dp (fun z => nomatch z)
theorem DevAt.n5 (D : DevAt C H dev g d) : g.ls ≠ g.dp := ne_of D.ls D.dp (fun z => nomatch z)
theorem DevAt.has (D : DevAt C H dev g d) {b : Addr} (h : own dev g b) : ∃ o, H b = some o := by
  rcases h with rfl | rfl | rfl | rfl | ⟨o, e⟩
  · exact ⟨_, D.at_⟩
  · exact ⟨_, D.dp⟩
  · exact ⟨_, D.pw⟩
  · exact ⟨_, D.ls⟩
  · exact ⟨_, D.sm _ _ e⟩
theorem DevAt.not_own (D : DevAt C H dev g d) {b : Addr} (h : H b = none) : ¬ own dev g b := fun k => by
  obtain ⟨o, e⟩ := D.has k
  rw [h] at e
  cases e
/-- what others change -/
theorem DevAt.kp (D : DevAt C H dev g d) (h : ∀ b o, own dev g b → H b = some o → H' b = some o) : DevAt C H' dev g d :=
  ⟨h _ _ (.inl rfl) D.at_, h _ _ (.inr (.inl rfl)) D.dp, D.pg, h _ _ (.inr (.inr (.inl rfl))) D.pw, D.wr, h _ _ (.inr (.inr (.inr (.inl rfl)))) D.ls, D.dl, fun b o e => h _ _ (.inr (.inr (.inr (.inr ⟨o, e⟩)))) (D.sm _ _ e), D.f0, D.f1, D.f2, D.f3, D.ne⟩
theorem DevAt.same (D : DevAt C H dev g d) (h : Same H H') : DevAt C H' dev g d := D.kp fun b o _ e => h b o e
/-- a field that no part depends on: done, allowed -/
theorem DevAt.num (D : DevAt C H dev g d) {d' : DS} (h1 : d'.pages = d.pages) (h2 : d'.writes = d.writes) (h3 : d'.log = d.log) (h4 : d'.steps = d.steps) : DevAt C (upd H dev (.ins C g.dx (devF g d'))) dev g d' :=
  ⟨upd_same, by rw [upd_ne D.n1]; exact D.dp, by rw [h1]; exact D.pg, by rw [upd_ne D.n2]; exact D.pw, by rw [h2]; exact D.wr, by rw [upd_ne D.n3, h4]; exact D.ls, by rw [h3]; exact D.dl, same_ne D.sm D.f0, D.f0, D.f1, D.f2, D.f3, D.ne⟩
theorem Fr.ins : Fr dev g H g (upd H dev o) := ⟨fun b u n e => by rw [upd_ne (fun z => n (.inl z))]; exact e, fun _ h => .inl h⟩
theorem pgIn_ext {F F' : Hp} {kvs : List (Key × V)} {f : Int → Option (List Int)} (h : Same F F') (x : PgIn F kvs f) : PgIn F' kvs f := fun n => by
  rcases x n with k | ⟨p, xs, k1, k2, k3, k4⟩
  · exact .inl k
  · exact .inr ⟨p, xs, k1, k2, h _ _ k3, k4⟩
theorem wrIn_ext {F F' : Hp} {vs : List V} {ws : List (Int × List Int)} (h : Same F F') (x : WrIn F vs ws) : WrIn F' vs ws := ⟨x.len, fun i v w a b => by
  obtain ⟨t, p, k1, k2, k3, k4⟩ := x.each i v w a b
  exact ⟨t, p, k1, h _ _ k2, h _ _ k3, k4⟩⟩
/-- a new object is put among what stays -/
theorem DevAt.ext (D : DevAt C H dev g d) (hp : H p = none) : DevAt C (upd H p o) dev { g with F := upd g.F p o } d := by
  have hF : g.F p = none := D.sm.free hp
  have s1 : Same g.F (upd g.F p o) := same_upd hF
  have s2 : Same H (upd H p o) := same_upd hp
  have nn : ∀ {b : Addr} {u : HO}, H b = some u → g.F b = none → upd g.F p o b = none := fun e f => by rw [upd_ne (ne_of_none e hp)]; exact f
  exact ⟨s2 _ _ D.at_, s2 _ _ D.dp, pgIn_ext s1 D.pg, s2 _ _ D.pw, wrIn_ext s1 D.wr, s2 _ _ D.ls, s1 _ _ D.dl, fun b u e => by
    have e : upd g.F p o b = some u := e
    by_cases hb : b = p
    · subst hb; rw [upd_same] at e ⊢; exact e
    · rw [upd_ne hb] at e ⊢; exact D.sm b u e, nn D.at_ D.f0, nn D.dp D.f1, nn D.pw D.f2, nn D.ls D.f3, D.ne⟩
theorem Fr.ext (hp : H p = none) : Fr dev g H { g with F := upd g.F p o } (upd H p o) := ⟨fun b u _ e => same_upd hp b u e, fun b h => by
  rcases h with h | h | h | h | ⟨u, e⟩
  · exact .inl (.inl h)
  · exact .inl (.inr (.inl h))
  · exact .inl (.inr (.inr (.inl h)))
  · exact .inl (.inr (.inr (.inr (.inl h))))
  · by_cases hb : b = p
    · subst hb; exact .inr hp
    · have e : upd g.F p o b = some u := e
      rw [upd_ne hb] at e
      exact .inl (.inr (.inr (.inr (.inr ⟨u, e⟩))))⟩
/-- a log step more -/
theorem DevAt.step (D : DevAt C H dev g d) (s : Option Int) : DevAt C (upd H g.ls (.lst (d.steps.map optV ++ [optV s]))) dev g (d.add s) :=
  ⟨by rw [upd_ne D.n3.symm]; exact D.at_, by rw [upd_ne D.n5.symm]; exact D.dp, D.pg, by rw [upd_ne D.ne]; exact D.pw, D.wr, by rw [upd_same]; show _ = some (HO.lst ((d.steps ++ [s]).map optV)); rw [List.map_append]; rfl, D.dl, same_ne D.sm D.f3, D.f0, D.f1, D.f2, D.f3, D.ne⟩
theorem Fr.ls : Fr dev g H g (upd H g.ls o) := ⟨fun b u n e => by rw [upd_ne (fun z => n (.inr (.inr (.inr (.inl z)))))]; exact e, fun _ h => .inl h⟩
theorem wr_more {F : Hp} {vs : List V} {ws : List (Int × List Int)} {v : V} {w0 : Int × List Int} (W : WrIn F vs ws) (h : WrOne F v w0) : WrIn F (vs ++ [v]) (ws ++ [w0]) :=
  ⟨by rw [List.length_append, List.length_append, W.len]; rfl, fun i v' w a b => by
    have hl := W.len
    by_cases hi : i < vs.length
    · rw [List.getElem?_append_left hi] at a
      rw [List.getElem?_append_left (by omega)] at b
      exact W.each i v' w a b
    · rw [List.getElem?_append_right (by omega)] at a b
      have e0 : i - vs.length = 0 := by
        have := (List.getElem?_eq_some_iff.mp a).1
        simp at this
        omega
      rw [← hl] at b
      rw [e0] at a b
      obtain rfl : v = v' := Option.some.inj a
      obtain rfl : w0 = w := Option.some.inj b
      exact h⟩
/-- a write more -/
theorem DevAt.wmore (D : DevAt C H dev g d) {v : V} (h : WrOne g.F v (n, xs)) : DevAt C (upd H g.pw (.lst (g.vs ++ [v]))) dev { g with vs := g.vs ++ [v] } (d.write n xs) :=
  ⟨by rw [upd_ne D.n2.symm]; exact D.at_, by show upd H g.pw _ g.dp = _; rw [upd_ne D.n4.symm]; exact D.dp, D.pg, upd_same, wr_more D.wr h, by show upd H g.pw _ g.ls = _; rw [upd_ne D.ne.symm]; exact D.ls, D.dl, same_ne D.sm D.f2, D.f0, D.f1, D.f2, D.f3, D.ne⟩
theorem Fr.pw {vs : List V} : Fr dev g H { g with vs := vs } (upd H g.pw o) := ⟨fun b u n e => by rw [upd_ne (fun z => n (.inr (.inr (.inl z))))]; exact e, fun _ h => .inl h⟩
theorem pg_put {F : Hp} {kvs : List (Key × V)} {f : Int → Option (List Int)} (P : PgIn F kvs f) (hp : F p = some (.lst (xs.map V.int))) (hl : xs.length ≤ 1000) : PgIn F (putK kvs (.inl n) (.ref p)) (putP f n xs) := fun j => by
  rw [valV_put]
  by_cases hj : j = n
  · subst hj
    exact .inr ⟨p, xs, if_pos rfl, if_pos rfl, hp, hl⟩
  · rcases P j with ⟨a, b⟩ | ⟨q, ys, a, b, c, e⟩
    · exact .inl ⟨(if_neg hj).trans a, (if_neg (fun z => hj (Sum.inl.inj z))).trans b⟩
    · exact .inr ⟨q, ys, (if_neg hj).trans a, (if_neg (fun z => hj (Sum.inl.inj z))).trans b, c, e⟩
/-- a durable page -/
theorem DevAt.put (D : DevAt C H dev g d) (hp : g.F p = some (.lst (xs.map V.int))) (hl : xs.length ≤ 1000) : DevAt C (upd H g.dp (.dK (putK g.kvs (.inl n) (.ref p)))) dev { g with kvs := putK g.kvs (.inl n) (.ref p) } { d with pages := putP d.pages n xs } :=
  ⟨by rw [upd_ne D.n1.symm]; exact D.at_, upd_same, pg_put D.pg hp hl, by show upd H g.dp _ g.pw = _; rw [upd_ne D.n4]; exact D.pw, D.wr, by show upd H g.dp _ g.ls = _; rw [upd_ne D.n5]; exact D.ls, D.dl, same_ne D.sm D.f1, D.f0, D.f1, D.f2, D.f3, D.ne⟩
theorem Fr.dp {kvs : List (Key × V)} : Fr dev g H { g with kvs := kvs } (upd H g.dp o) := ⟨fun b u n e => by rw [upd_ne (fun z => n (.inr (.inl z)))]; exact e, fun _ h => .inl h⟩
/-- no writes: a new empty list in the field -/
theorem DevAt.noW (D : DevAt C H dev g d) (hp : H p = none) : DevAt C (upd (upd H p (.lst [])) dev (.ins C g.dx (devF { g with pw := p } d))) dev { g with pw := p, vs := [] } { d with writes := [] } := by
  have s2 : Same H (upd H p (.lst [])) := same_upd hp
  have npd : p ≠ dev := (ne_of_none D.at_ hp).symm
  exact ⟨upd_same, by show upd _ dev _ g.dp = _; rw [upd_ne D.n1]; exact s2 _ _ D.dp, D.pg, by show upd _ dev _ p = _; rw [upd_ne npd, upd_same], ⟨rfl, fun i v w a _ => by cases a⟩, by show upd _ dev _ g.ls = _; rw [upd_ne D.n3]; exact s2 _ _ D.ls, D.dl, same_ne (fun b o e => s2 b o (D.sm b o e)) D.f0, D.f0, D.f1, D.sm.free hp, D.f3, (ne_of_none D.ls hp).symm⟩
theorem Fr.noW (hp : H p = none) {o' : HO} : Fr dev g H { g with pw := p, vs := [] } (upd (upd H p o') dev o) := ⟨fun b u n e => by rw [upd_ne (fun z => n (.inl z))]; exact same_upd hp b u e, fun b h => by
  rcases h with h | h | h | h | ⟨u, e⟩
  · exact .inl (.inl h)
  · exact .inl (.inr (.inl h))
  · have h : b = p := h
    subst h
    exact .inr hp
  · exact .inl (.inr (.inr (.inr (.inl h))))
  · exact .inl (.inr (.inr (.inr (.inr ⟨u, e⟩))))⟩
/-- no log steps -/
theorem DevAt.noL (D : DevAt C H dev g d) (hp : H p = none) : DevAt C (upd (upd H p (.lst [])) dev (.ins C g.dx (devF { g with ls := p } d))) dev { g with ls := p } { d with steps := [] } := by
  have s2 : Same H (upd H p (.lst [])) := same_upd hp
  have npd : p ≠ dev := (ne_of_none D.at_ hp).symm
  exact ⟨upd_same, by show upd _ dev _ g.dp = _; rw [upd_ne D.n1]; exact s2 _ _ D.dp, D.pg, by show upd _ dev _ g.pw = _; rw [upd_ne D.n2]; exact s2 _ _ D.pw, D.wr, by show upd _ dev _ p = _; rw [upd_ne npd, upd_same]; rfl, D.dl, same_ne (fun b o e => s2 b o (D.sm b o e)) D.f0, D.f0, D.f1, D.f2, D.sm.free hp, ne_of_none D.pw hp⟩
theorem Fr.noL (hp : H p = none) {o' : HO} : Fr dev g H { g with ls := p } (upd (upd H p o') dev o) := ⟨fun b u n e => by rw [upd_ne (fun z => n (.inl z))]; exact same_upd hp b u e, fun b h => by
  rcases h with h | h | h | h | ⟨u, e⟩
  · exact .inl (.inl h)
  · exact .inl (.inr (.inl h))
  · exact .inl (.inr (.inr (.inl h)))
  · have h : b = p := h
    subst h
    exact .inr hp
  · exact .inl (.inr (.inr (.inr (.inr ⟨u, e⟩))))⟩
theorem Fr.newL : Fr dev g H { g with dl := p } (upd H dev o) := ⟨fun b u n e => by rw [upd_ne (fun z => n (.inl z))]; exact e, fun _ h => .inl h⟩
theorem putK_le (c : List (Key × V)) (k : Key) (x : V) : (putK c k x).length ≤ c.length + 1 := by
  unfold putK
  split
  · rw [List.length_map]
    exact Nat.le_succ _
  · rw [List.length_append]
    exact Nat.le_refl _
/-- another durable log, that stays -/
theorem DevAt.newL (D : DevAt C H dev g d) (hp : g.F p = some (.lst (xs.map V.int))) : DevAt C (upd H dev (.ins C g.dx (devF { g with dl := p } d))) dev { g with dl := p } { d with log := xs } :=
  ⟨upd_same, by show upd _ dev _ g.dp = _; rw [upd_ne D.n1]; exact D.dp, D.pg, by show upd _ dev _ g.pw = _; rw [upd_ne D.n2]; exact D.pw, D.wr, by show upd _ dev _ g.ls = _; rw [upd_ne D.n3]; exact D.ls, hp, same_ne D.sm D.f0, D.f0, D.f1, D.f2, D.f3, D.ne⟩
end
end Nv

namespace Nv
open PySem L2 PyProof.Rows RZ
/-! # errors of own classes, made without an argument; what a try's suite asks -/
theorem pmk_own0 {X : Cx} {C : Addr} {bmB : List Value} {B newId initId : String} {x : Str} {p pos : Pos} (F : ExcBaseFacts B newId initId bmB) (q : PySem.W.excIn X.K C bmB newId = true) (gC : X.mg x = some (.ref C)) (kC : PySem.W.keepIn X.K (.ref C) = true) (r : Raises X (.ref C)) (hg : Gl X x)
    (hdb : (x == ("__debug__" : Str)) = false := by decide) : PMk X (.Call (.Name x p) [] [] pos) (fun _ H Q => Q (.ref C) none H) := by
  intro pins s σ H Q I h
  refine wpAny_Call_Name_kw (ld_glob I hg gC ?_ hdb)
  refine PySem.W.callWith_K0 (first := []) I.kIn kC ?_
  obtain ⟨bm, N, nm, qn, bs, hdct, sn, sub, ab, col, dd, k0, k1, k2, k3, k5, mN, hC, hN, hni, T⟩ := exc_obj I.kIn q
  obtain ⟨hp1, g1, d1, tk1, os1⟩ := s
  refine wpAny_call_exc_subT F T hC hN hni (fun h' e hm => ?_) (Nat.zero_le _)
  exact mk_of I hm r h (I.hok.gone hm.new)
/-- an error's word for whatever slots: what a try's suite asks -/
def anyS (W : WX) : XK := fun cls d H => ∀ σ, W cls d σ H
theorem passAny {X : Cx} {W : WX} (tk : Takes X W) : Passes (L2.CX X.prog X.w) X (anyS W) := passes_call tk fun _ _ σ _ h => h σ
/-- as many slots as names -/
def tLen (n : Nat) (t : TS) : TS := fun D σ H => σ.length = n → t D σ H
theorem pss_len {X : Cx} {st : List Stmt} {n : Nat} {t : TS} (hn : X.N.length = n) (h : PSs X st t) : PSs X st (tLen n t) := ⟨fun pins s σ H D I q => h.run pins s σ H D I (q (I.len.trans hn))⟩
/-- statements under a condition that the reading tells -/
def tGiven (p : Prop) (t : TS) : TS := fun D σ H => p ∧ t D σ H
theorem pss_given {X : Cx} {st : List Stmt} {p : Prop} {t : TS} (h : p → PSs X st t) : PSs X st (tGiven p t) := ⟨fun pins s σ H D I q => (h q.1).run pins s σ H D I q.2⟩
/-- isinstance of an error: of an own class, of ValueError -/
theorem kit_own {K : Frag} {t : Value} {C : Addr} (h1 : PySem.W.isClsIn K C = true) (h2 : PySem.W.typeIn K (.ref C) = some (.type "type")) (h3 : PySem.W.subIn K t (.ref C) = some true) : PySem.W.kitOne K t (.ref C) = some true := by
  unfold PySem.W.kitOne
  split
  · rfl
  · have h1' : (PySem.W.clsIn K C).isSome = true := h1
    have h4 : ((PySem.W.clsIn K C).isSome && PySem.W.typeIn K (.ref C) == some (.type "type")) = true := by
      rw [h1', h2]
      rfl
    exact (if_pos h4).trans h3
theorem kit_VE {K : Frag} {C : Addr} (h : PySem.W.subIn K (.ref C) (.type "ValueError") = some true) : PySem.W.kitOne K (.ref C) (.type "ValueError") = some true := by
  unfold PySem.W.kitOne
  split
  · rfl
  · exact Eq.trans (if_pos (e := (none : Option Bool)) (show PySem.W.kitMeta "ValueError" = true by decide +kernel)) h
/-- zip of two lists of any lengths -/
theorem for_zipM {K : Frag} {a b : Addr} {xs ys : List V} {g : TG} {tb : TS} {D : Ends} {σ : L2.St} {H : Hp} (Pv : Nat → L2.St → Hp → Prop) (h0 : Pv 0 σ H) (hq : ∀ i σ H, Pv i σ H → SqL K H a xs ∧ SqL K H b ys)
    (hs : ∀ (i : Nat) (x y : V) (T : Addr) (σ : L2.St) (H : Hp), xs[i]? = some x → ys[i]? = some y → Pv i σ H → H T = none → g (.ref T) σ (upd H T (.tup [x, y])) fun σ2 H2 => tb { D with nx := Pv (i + 1), ct := Pv (i + 1), bk := D.nx } σ2 H2) (hd : ∀ σ H, Pv (min xs.length ys.length) σ H → D.nx σ H) :
    ∃ W : Nat → Nat → L2.St → Hp → Prop, (∃ m, W 0 m σ H) ∧ ∀ i m σ H, W i m σ H →
      ((Itz K a b).stop i H ∧ D.nx σ H) ∨ ((Itz K a b).go i H ∧ ∃ N : L2.St → Hp → Prop, (∀ σ' H', N σ' H' → ∃ m', m' < m ∧ W (i + 1) m' σ' H') ∧ ∀ v H', (Itz K a b).yld i H v H' → g v σ H' fun σ2 H2 => tb { D with nx := N, ct := N, bk := D.nx } σ2 H2) := by
  refine ⟨fun i m σ H => m = min xs.length ys.length - i ∧ i ≤ min xs.length ys.length ∧ Pv i σ H, ⟨_, rfl, Nat.zero_le _, h0⟩, ?_⟩
  rintro i m σ H ⟨rfl, hi, p⟩
  obtain ⟨qx, qy⟩ := hq i σ H p
  by_cases hlt : i < min xs.length ys.length
  · have hx : xs[i]? = some (xs[i]'(by omega)) := List.getElem?_eq_getElem (by omega)
    have hy : ys[i]? = some (ys[i]'(by omega)) := List.getElem?_eq_getElem (by omega)
    refine .inr ⟨⟨xs, ys, _, _, qx, qy, hx, hy⟩, Pv (i + 1), fun σ' H' p' => ⟨min xs.length ys.length - (i + 1), by omega, rfl, hlt, p'⟩, fun v H' y => ?_⟩
    obtain ⟨T, x', y', rfl, hT, rfl, f1, f2⟩ := y
    exact hs i x' y' T σ H (f1 xs qx) (f2 ys qy) p hT
  · have e : i = min xs.length ys.length := by omega
    subst e
    exact .inl ⟨⟨xs, ys, qx, qy, by omega⟩, hd σ H p⟩
end Nv

namespace Nv
open PySem L2 PyProof.Rows
/-! # a slice as a target; d.update(d2) -/
section
variable {X : Cx}
def slcHO (p : Addr) (i j : Int) : HO := .ext fun h => ∃ vl vu, h.IsSliceOf p vl vu .none ∧ RelV (.int i) vl ∧ RelV (.int j) vu
def tSlc (tl th : TE) : TE := fun σ H Q => tl σ H fun x H1 => th σ H1 fun y H2 => ∃ i j, x = .int i ∧ y = .int j ∧ ∀ p, H2 p = none → Q (.ref p) (upd H2 p (slcHO p i j))
theorem pe_slc {lo hi : Expr} {tl th : TE} {pos : Pos} (hl : PE X lo tl) (hh : PE X hi th) : PE X (.Slice (some lo) (some hi) none pos) (tSlc tl th) := by
  refine ⟨fun pins s σ H Q I h => ?_⟩
  refine wpAny_Slice ?_
  rw [evalPart_some]
  refine thn (hl.run pins s σ H _ I h) fun vl s1 ⟨x, H1, I1, r1, q1⟩ => ?_
  rw [evalPart_some]
  refine thn (hh.run pins s1 σ H1 _ I1 q1) fun vu s2 ⟨y, H2, I2, r2, i, j, ex, ey, q2⟩ => ?_
  subst ex ey
  rw [evalPart_none]
  refine wpAny_pure ?_
  have hf : H2 s2.heap.objs.size = none := I2.hok.fresh (Nat.le_refl _)
  refine ⟨.ref s2.heap.objs.size, upd H2 s2.heap.objs.size (slcHO s2.heap.objs.size i j), I2.laid (t' := s2.toks) (fun b u e => Heap.get?_push_of_some _ e) (Nat.le_refl _) ?_, rfl, q2 _ hf⟩
  exact ⟨⟨vl, vu, Heap.IsSliceOf.new _ _ _ _, r1, r2⟩, ⟨_, Heap.get?_push_size _ rfl⟩, fun h1 h2 ⟨a, b, ⟨o, eo, e1, e2⟩, e3, e4⟩ k => ⟨a, b, ⟨o, k _ eo, e1, e2⟩, e3, e4⟩⟩
def tSetSl : TSet := fun o i v H Q => ∃ l sl b xs ys a c, o = .ref l ∧ i = .ref sl ∧ v = .ref b ∧ H l = some (.lst xs) ∧ H sl = some (slcHO sl a c) ∧ H b = some (.lst ys) ∧ l ≠ b ∧ 0 ≤ a ∧ a ≤ c ∧ c ≤ xs.length ∧ xs.length + ys.length ≤ sizeLine ∧ Q (upd H l (.lst (xs.take a.toNat ++ ys ++ xs.drop c.toNat)))
theorem set_slc : PSet X tSetSl := by
  intro pins s σ H o i v ov iv u Q I ro ri rv h
  obtain ⟨l, sl, b, xs, ys, a, c, rfl, rfl, rfl, hH, hS, hB, hne, h0, hac, hc, hz, q⟩ := h
  cases ro
  cases ri
  cases rv
  obtain ⟨⟨vl, vu, hs, ra, rc⟩, _, _⟩ := I.hok sl _ hS
  exact set_slice I hH hB hne hs ra rc h0 hac hc hz fun s' I' => ⟨_, I', q⟩
def tDUpd (td ty : TE) : TE := fun σ H Q => td σ H fun x H1 => ∃ a, x = .ref a ∧ IsD H1 a ∧ ty σ H1 fun y H2 => ∃ b kvs more, y = .ref b ∧ H2 a = some (.dK kvs) ∧ Rd H2 b (.dK more) ∧ a ≠ b ∧ kvs.length + more.length ≤ sizeLine ∧ Q .non (upd H2 a (.dK (mergeK kvs more)))
theorem pe_dupd {o e : Expr} {apos cpos : Pos} {td ty : TE} (ho : PE X o td) (he : PE X e ty) (m : M1 X o "update" apos e cpos) : PE X (.Call (.Attribute o "update" apos) [e] [] cpos) (tDUpd td ty) := by
  refine ⟨fun pins s σ H Q I h => ?_⟩
  refine wpAny_Call_method m.base m.few m.line PySem.F.plainAttrs_dict PySem.F.slot_dict_update PySem.F.type_dict_update (thn (ho.run pins s σ H _ I h) fun u s1 ⟨x, H1, I1, rx, a, ex, d, q1⟩ => ?_)
  subst ex
  obtain rfl : u = Value.ref a := rx
  obtain ⟨t1, t2, _⟩ := isD_at I1 d
  refine ⟨t1, t2, ?_⟩
  rw [m.trees]
  refine Calls.callWith_builtin rfl (Calls.evalArgs_plain (Calls.spliced_cons (thn (he.run pins s1 σ H1 _ I1 q1) fun iv s2 ⟨y, H2, I2, ry, b, kvs, more, ey, ea, eb, ne, hz, q2⟩ => Calls.spliced_nil ?_)))
  subst ey
  obtain rfl : iv = Value.ref b := ry
  obtain ⟨z, hd, vs, rel, dd⟩ := dk_of I2.hok ea
  obtain ⟨z2, hd2, vs2, rel2, dd2⟩ := dk_rd I2.hok eb
  refine call_meetsIn PySem.F.slot_dict_update dd.typeIs PySem.F.entry_dict_update (PySem.F.args_dict_update_2 _ _) (meets_dict_update (mixKind X.prog X.w) a b ne hd2)
    ⟨vs, vs2, dd, dd2, by rw [← rel.length, ← rel2.length]; exact hz, fun h' dd' _ hs => ?_⟩
  have hx : ∃ q, h'.get? a = some q := let ⟨q, _, _, hq, _⟩ := dd'; ⟨q, hq⟩
  exact ⟨.non, _, d_write (t' := s2.toks) I2 (by rw [ea]; exact True.intro) hs hx (dk_new (Nat.le_trans (length_mergeK more kvs) hz) hd (KV.merge rel2 rel) dd'), rfl, q2⟩
end
/-- xs[a:b], both ends within -/
theorem cut_mid {α : Type} (g : α → V) (xs : List α) {a b : Nat} (h1 : a ≤ b) (h2 : b ≤ xs.length) : cutV (xs.map g) (some (a : Int)) (some (b : Int)) = ((xs.drop a).take (b - a)).map g := by
  unfold cutV
  rw [HT.sIx_nat, HT.sIx_nat, List.length_map, ← List.map_drop, ← List.map_take, Nat.min_eq_left (by omega), Nat.min_eq_left (by omega)]
/-- a range up by steps of c -/
theorem rgC_up {i : Int} {n c : Nat} (hc : 0 < c) (hc2 : c < 10000) (h0 : 0 ≤ i) (h1 : i < 2 ^ 40) (h2 : n < 1000000) : RgC i (i + (c : Int) * (n : Int)) (c : Int) n := by
  have hz : Builtin.Range.rangeSize i (i + (c : Int) * (n : Int)) (c : Int) = (n : Int) := by
    unfold Builtin.Range.rangeSize
    rw [if_pos (show (c : Int) > 0 by omega)]
    have e : i + (c : Int) * (n : Int) - i + (c : Int) - 1 = (c : Int) * (n : Int) + ((c : Int) - 1) := by omega
    split
    · rename_i h
      have h := h
      first
        | (rw [show (i + (c : Int) * (n : Int) - i - 1) = (c : Int) * (n : Int) - 1 by omega]
           have hn : n = n - 1 + 1 := by
             rcases n with _ | n
             · simp at h
             · omega
           have : (c : Int) * (n : Int) - 1 = ((c : Int) - 1) + (c : Int) * ((n : Int) - 1) := by
             rw [Int.mul_sub, Int.mul_one]; omega
           rw [this, Int.add_mul_ediv_left _ _ (by omega), Int.ediv_eq_zero_of_lt (by omega) (by omega)]
           omega)
    · rename_i h
      have : n = 0 := by
        rcases n with _ | n
        · rfl
        · exfalso
          apply h
          have : 0 < (c : Int) * ((n + 1 : Nat) : Int) := Int.mul_pos (by omega) (by omega)
          omega
      omega
  refine ⟨by omega, by omega, ?_, hz⟩
  unfold Builtin.Range.small Builtin.Range.rangeFitsLong
  have hb : (c : Int) * (n : Int) ≤ 10000 * 1000000 := Int.mul_le_mul (by omega) (by omega) (by omega) (by omega)
  have hb0 : 0 ≤ (c : Int) * (n : Int) := Int.mul_nonneg (by omega) (by omega)
  generalize (c : Int) * (n : Int) = q at hz hb hb0
  rw [hz, if_pos (show (c : Int) > 0 by omega)]
  simp only [Bool.and_eq_true, Bool.or_eq_true, decide_eq_true_eq]
  refine ⟨⟨⟨⟨?_, ?_⟩, ?_⟩, ?_⟩, .inr ?_⟩ <;> omega
end Nv

namespace Nv
open PySem L2
/-! # numbers as bytes, groups as bytes -/
/-- the bytes of a number, the greatest first -/
def nb : Nat → Int → List Int
  | 0, _ => []
  | w + 1, n => nb w (n / 256) ++ [n % 256]
theorem nb_len : ∀ (w : Nat) (n : Int), (nb w n).length = w
  | 0, _ => rfl
  | w + 1, n => by
    show (nb w (n / 256) ++ [n % 256]).length = w + 1
    rw [List.length_append, nb_len w]
    rfl
theorem nb_byte : ∀ (w : Nat) (n : Int), ∀ x ∈ nb w n, 0 ≤ x ∧ x < 256
  | 0, _ => fun x h => by cases h
  | w + 1, n => fun x h => by
    rcases List.mem_append.mp h with h | h
    · exact nb_byte w _ x h
    · rw [List.mem_singleton.mp h]
      omega
def wn (w : Nat) (n : Int) (i : Nat) : List Int := (List.range i).map fun t => (n / 2 ^ (8 * (w - 1 - t))) % 256
theorem div_pow (n : Int) (k : Nat) : n / 256 / 2 ^ (8 * k) = n / 2 ^ (8 * (k + 1)) := by
  rw [Int.ediv_ediv_of_nonneg (by decide)]
  congr 1
  rw [show 8 * (k + 1) = 8 + 8 * k from by omega, Int.pow_add]
  rfl
theorem wn_all : ∀ (w : Nat) (n : Int), wn w n w = nb w n
  | 0, _ => rfl
  | w + 1, n => by
    show wn (w + 1) n (w + 1) = nb w (n / 256) ++ [n % 256]
    rw [← wn_all w (n / 256)]
    unfold wn
    rw [List.range_succ, List.map_append]
    congr 1
    · refine List.map_congr_left fun t ht => ?_
      have hlt := List.mem_range.mp ht
      rw [div_pow, show w - 1 - t + 1 = w + 1 - 1 - t from by omega]
    · simp
theorem wn_succ (w : Nat) (n : Int) (i : Nat) : wn w n (i + 1) = wn w n i ++ [(n / 2 ^ (8 * (w - 1 - i))) % 256] := by
  unfold wn
  rw [List.range_succ, List.map_append]
  rfl
/-- the number of bytes -/
def nv (l : List Int) : Int := l.foldl (fun a b => a * 256 + b) 0
theorem nv_snoc (l : List Int) (x : Int) : nv (l ++ [x]) = nv l * 256 + x := by
  unfold nv
  rw [List.foldl_append]
  rfl
theorem nv_nb : ∀ (w : Nat) (n : Int), 0 ≤ n → n < 256 ^ w → nv (nb w n) = n
  | 0, n, h0, h1 => by
    have h1 : n < 1 := h1
    show (0 : Int) = n
    omega
  | w + 1, n, h0, h1 => by
    show nv (nb w (n / 256) ++ [n % 256]) = n
    rw [Int.pow_succ] at h1
    rw [nv_snoc, nv_nb w (n / 256) (by omega) (by generalize (256 : Int) ^ w = q at h1 ⊢; omega)]
    omega
theorem nv_nb4 {n : Int} (h0 : 0 ≤ n) (h1 : n < 4294967296) : nv (nb 4 n) = n := nv_nb 4 n h0 (by rw [show (256 : Int) ^ 4 = 4294967296 from by decide]; exact h1)
theorem nv_pos : ∀ l : List Int, (∀ x ∈ l, 0 ≤ x) → 0 ≤ nv l := by
  intro l
  unfold nv
  suffices h : ∀ (l : List Int) (a : Int), 0 ≤ a → (∀ x ∈ l, 0 ≤ x) → 0 ≤ l.foldl (fun a b => a * 256 + b) a from h l 0 (Int.le_refl _)
  intro l
  induction l with
  | nil => exact fun a ha _ => ha
  | cons x r ih => exact fun a ha h => ih _ (show 0 ≤ a * 256 + x by have := h x (List.mem_cons_self ..); omega) fun y hy => h y (List.mem_cons_of_mem _ hy)
def pairB (w : Int × List Int) : List Int := nb 4 w.1 ++ w.2
def grpB (ws : List (Int × List Int)) : List Int := nb 4 ws.length ++ ws.flatMap pairB
def cnt (d : List Int) (pl : Nat) : Nat := (nv ((d.drop pl).take 4)).toNat
def gEnd (d : List Int) (pl : Nat) : Option Nat := if d.length < pl + 4 then none else if d.length < pl + 4 + 260 * cnt d pl then none else some (pl + 4 + 260 * cnt d pl)
def prs (d : List Int) (pl n : Nat) : List (Int × List Int) := (List.range n).map fun i => (nv ((d.drop (pl + 260 * i)).take 4), (d.drop (pl + 260 * i + 4)).take 256)
inductive Grps (d : List Int) : Nat → List (List (Int × List Int)) → Prop
  | nil {pl : Nat} : gEnd d pl = none → Grps d pl []
  | cons {pl e : Nat} {gs : List (List (Int × List Int))} : gEnd d pl = some e → Grps d e gs → Grps d pl (prs d (pl + 4) (cnt d pl) :: gs)
theorem gEnd_le {d : List Int} {pl e : Nat} (h : gEnd d pl = some e) : e = pl + 4 + 260 * cnt d pl ∧ e ≤ d.length ∧ pl + 4 ≤ d.length := by
  unfold gEnd at h
  by_cases h1 : d.length < pl + 4
  · rw [if_pos h1] at h; cases h
  · rw [if_neg h1] at h
    by_cases h2 : d.length < pl + 4 + 260 * cnt d pl
    · rw [if_pos h2] at h; cases h
    · rw [if_neg h2] at h
      cases h
      exact ⟨rfl, by omega, by omega⟩
/-- a page number and 256 bytes -/
def PairOk (w : Int × List Int) : Prop := 0 ≤ w.1 ∧ w.1 < 4294967296 ∧ w.2.length = 256
theorem pairB_len {w : Int × List Int} (h : PairOk w) : (pairB w).length = 260 := by
  unfold pairB
  rw [List.length_append, nb_len, h.2.2]
theorem pairsB_len : ∀ {ws : List (Int × List Int)}, (∀ w ∈ ws, PairOk w) → (ws.flatMap pairB).length = 260 * ws.length
  | [], _ => rfl
  | w :: ws, h => by
    rw [List.flatMap_cons, List.length_append, pairB_len (h w (List.mem_cons_self ..)), pairsB_len fun x hx => h x (List.mem_cons_of_mem _ hx), List.length_cons]
    omega
theorem grpB_len {ws : List (Int × List Int)} (h : ∀ w ∈ ws, PairOk w) : (grpB ws).length = 4 + 260 * ws.length := by
  unfold grpB
  rw [List.length_append, nb_len, pairsB_len h]
theorem take_pre {α : Type} (a b : List α) (n : Nat) (h : n = a.length) : (a ++ b).take n = a := by
  rw [h]; exact List.take_left
theorem drop_pre {α : Type} (a b : List α) (n : Nat) (h : n = a.length) : (a ++ b).drop n = b := by
  rw [h]; exact List.drop_left
theorem prs_at : ∀ {ws : List (Int × List Int)}, (∀ w ∈ ws, PairOk w) → ∀ (pre suf : List Int), prs (pre ++ ws.flatMap pairB ++ suf) pre.length ws.length = ws
  | [], _, _, _ => rfl
  | w :: ws, h, pre, suf => by
    have hw := h w (List.mem_cons_self ..)
    have ih := prs_at (ws := ws) (fun x hx => h x (List.mem_cons_of_mem _ hx)) (pre ++ pairB w) suf
    have e : pre ++ (w :: ws).flatMap pairB ++ suf = pre ++ pairB w ++ ws.flatMap pairB ++ suf := by
      rw [List.flatMap_cons]
      simp only [List.append_assoc]
    rw [e]
    generalize hd : pre ++ pairB w ++ ws.flatMap pairB ++ suf = d at ih
    rw [List.length_append, pairB_len hw] at ih
    have hd2 : d = pre ++ (nb 4 w.1 ++ (w.2 ++ (ws.flatMap pairB ++ suf))) := by
      rw [← hd]
      unfold pairB
      simp only [List.append_assoc]
    unfold prs at ih ⊢
    rw [List.length_cons, List.range_succ_eq_map, List.map_cons, List.map_map]
    congr 1
    · show (nv ((d.drop (pre.length + 260 * 0)).take 4), (d.drop (pre.length + 260 * 0 + 4)).take 256) = w
      have e1 : d.drop (pre.length + 260 * 0) = nb 4 w.1 ++ (w.2 ++ (ws.flatMap pairB ++ suf)) := by
        rw [hd2]; exact drop_pre _ _ _ (by omega)
      have e2 : d.drop (pre.length + 260 * 0 + 4) = w.2 ++ (ws.flatMap pairB ++ suf) := by
        rw [← List.drop_drop, e1]; exact drop_pre _ _ _ (by rw [nb_len])
      rw [e1, e2, take_pre _ _ _ (by rw [nb_len]), take_pre _ _ _ hw.2.2.symm, nv_nb4 hw.1 hw.2.1]
    · refine Eq.trans ?_ ih
      refine List.map_congr_left fun i _ => ?_
      show (nv ((d.drop (pre.length + 260 * (i + 1))).take 4), (d.drop (pre.length + 260 * (i + 1) + 4)).take 256) = _
      rw [show pre.length + 260 * (i + 1) = pre.length + 260 + 260 * i from by omega]
theorem cnt_at {ws : List (Int × List Int)} (hn : ws.length < 4294967296) (pre suf : List Int) : cnt (pre ++ grpB ws ++ suf) pre.length = ws.length := by
  unfold cnt grpB
  have e : (pre ++ (nb 4 ws.length ++ ws.flatMap pairB) ++ suf).drop pre.length = nb 4 ws.length ++ (ws.flatMap pairB ++ suf) := by
    rw [List.append_assoc, drop_pre _ _ _ rfl, List.append_assoc]
  rw [e, take_pre _ _ _ (by rw [nb_len]), nv_nb4 (by omega) (by omega)]
  omega
/-- a complete group stands in front -/
theorem grps_cons {ws : List (Int × List Int)} {gs : List (List (Int × List Int))} (h : ∀ w ∈ ws, PairOk w) (hn : ws.length < 4294967296) (pre suf : List Int) (G : Grps (pre ++ grpB ws ++ suf) (pre.length + (grpB ws).length) gs) : Grps (pre ++ grpB ws ++ suf) pre.length (ws :: gs) := by
  have hc := cnt_at hn pre suf
  have hl := grpB_len h
  have he : gEnd (pre ++ grpB ws ++ suf) pre.length = some (pre.length + (grpB ws).length) := by
    unfold gEnd
    rw [hc, if_neg (by rw [List.length_append, List.length_append, hl]; omega), if_neg (by rw [List.length_append, List.length_append, hl]; omega), hl]
    congr 1
    omega
  have hp : prs (pre ++ grpB ws ++ suf) (pre.length + 4) (cnt (pre ++ grpB ws ++ suf) pre.length) = ws := by
    rw [hc]
    have := prs_at h (pre ++ nb 4 ws.length) suf
    rw [List.length_append, nb_len] at this
    unfold grpB
    rw [show pre ++ (nb 4 ws.length ++ ws.flatMap pairB) ++ suf = pre ++ nb 4 ws.length ++ ws.flatMap pairB ++ suf from by simp only [List.append_assoc]]
    exact this
  have := Grps.cons he G
  rw [hp] at this
  exact this
/-- an incomplete group: what is cut off -/
theorem gEnd_cut {ws : List (Int × List Int)} (h : ∀ w ∈ ws, PairOk w) (hn : ws.length < 4294967296) (pre : List Int) {k : Nat} (hk : k < (grpB ws).length) : gEnd (pre ++ (grpB ws).take k) pre.length = none := by
  have hl := grpB_len h
  unfold gEnd
  by_cases h4 : k < 4
  · rw [if_pos (by rw [List.length_append, List.length_take]; omega)]
  · rw [if_neg (by rw [List.length_append, List.length_take]; omega)]
    have hc : cnt (pre ++ (grpB ws).take k) pre.length = ws.length := by
      unfold cnt
      rw [drop_pre _ _ _ rfl, List.take_take, Nat.min_eq_left (by omega)]
      unfold grpB
      rw [take_pre _ _ _ (by rw [nb_len]), nv_nb4 (by omega) (by omega)]
      omega
    rw [hc, if_pos (by rw [List.length_append, List.length_take]; omega)]
def logB (gs : List (List (Int × List Int))) : List Int := gs.flatMap grpB
/-- whole groups, then the begin of a further one, or nothing -/
theorem grps_of : ∀ {gs : List (List (Int × List Int))}, (∀ g ∈ gs, (∀ w ∈ g, PairOk w) ∧ g.length < 4294967296) → ∀ (pre suf : List Int), (∀ pre : List Int, gEnd (pre ++ suf) pre.length = none) → Grps (pre ++ logB gs ++ suf) pre.length gs
  | [], _, pre, suf, hs => by
    refine .nil ?_
    rw [show pre ++ logB [] ++ suf = pre ++ suf from by unfold logB; simp]
    exact hs pre
  | g :: gs, h, pre, suf, hs => by
    have hg := h g (List.mem_cons_self ..)
    have ih := grps_of (gs := gs) (fun x hx => h x (List.mem_cons_of_mem _ hx)) (pre ++ grpB g) suf hs
    have e : pre ++ logB (g :: gs) ++ suf = pre ++ grpB g ++ (logB gs ++ suf) := by
      unfold logB
      rw [List.flatMap_cons]
      simp only [List.append_assoc]
    rw [e]
    refine grps_cons hg.1 hg.2 pre (logB gs ++ suf) ?_
    rw [List.length_append] at ih
    rw [show pre ++ grpB g ++ (logB gs ++ suf) = pre ++ grpB g ++ logB gs ++ suf from by simp only [List.append_assoc]]
    exact ih
theorem gEnd_nil (pre : List Int) : gEnd (pre ++ []) pre.length = none := by
  unfold gEnd
  rw [if_pos (by simp)]
/-! ### groups in the heap -/
structure GsIn (F : Hp) (vs : List V) (gs : List (List (Int × List Int))) : Prop where
  len : vs.length = gs.length
  each : ∀ (i : Nat) (v : V) (g : List (Int × List Int)), vs[i]? = some v → gs[i]? = some g → ∃ a ws, v = .ref a ∧ F a = some (.lst ws) ∧ WrIn F ws g
theorem gsIn_ext {F F' : Hp} {vs : List V} {gs : List (List (Int × List Int))} (h : Same F F') (x : GsIn F vs gs) : GsIn F' vs gs := ⟨x.len, fun i v g a b => by
  obtain ⟨p, ws, k1, k2, k3⟩ := x.each i v g a b
  exact ⟨p, ws, k1, h _ _ k2, wrIn_ext h k3⟩⟩
theorem gs_more {F : Hp} {vs ws : List V} {gs : List (List (Int × List Int))} {a : Addr} {g : List (Int × List Int)} (G : GsIn F vs gs) (ha : F a = some (.lst ws)) (h : WrIn F ws g) : GsIn F (vs ++ [.ref a]) (gs ++ [g]) :=
  ⟨by rw [List.length_append, List.length_append, G.len]; rfl, fun i v' w x y => by
    have hl := G.len
    by_cases hi : i < vs.length
    · rw [List.getElem?_append_left hi] at x
      rw [List.getElem?_append_left (by omega)] at y
      exact G.each i v' w x y
    · rw [List.getElem?_append_right (by omega)] at x y
      have e0 : i - vs.length = 0 := by
        have := (List.getElem?_eq_some_iff.mp x).1
        simp at this
        omega
      rw [← hl] at y
      rw [e0] at x y
      obtain rfl : V.ref a = v' := Option.some.inj x
      obtain rfl : g = w := Option.some.inj y
      exact ⟨a, ws, rfl, ha, h⟩⟩
/-- what is new since H, and stays: F; now: H' -/
structure NewIn (H F H' : Hp) : Prop where
  new : ∀ b o, F b = some o → H b = none
  sm : Same F H'
  old : Same H H'
theorem NewIn.nil {H H' : Hp} (s : Same H H') : NewIn H (fun _ => none) H' := ⟨fun _ _ e => (by cases e), fun _ _ e => (by cases e), s⟩
theorem NewIn.same {H F H1 H2 : Hp} (N : NewIn H F H1) (s : Same H1 H2) : NewIn H F H2 := ⟨N.new, N.sm.trans s, N.old.trans s⟩
theorem NewIn.ext {H F H1 : Hp} {p : Addr} {o : HO} (N : NewIn H F H1) (hp : H1 p = none) : NewIn H (upd F p o) (upd H1 p o) := by
  have hH : H p = none := N.old.free hp
  refine ⟨fun b u e => ?_, fun b u e => ?_, N.old.trans (same_upd hp)⟩
  · by_cases hb : b = p
    · rw [hb]; exact hH
    · rw [upd_ne hb] at e; exact N.new b u e
  · by_cases hb : b = p
    · subst hb; rw [upd_same] at e ⊢; exact e
    · have e : upd F p o b = some u := e
      rw [upd_ne hb] at e ⊢; exact N.sm b u e
/-- a thing of one's own changes -/
theorem NewIn.put {H F H1 : Hp} {p : Addr} {o : HO} (N : NewIn H F H1) (hp : H p = none) (hF : F p = none) : NewIn H F (upd H1 p o) := ⟨N.new, fun b u e => by rw [upd_ne (ne_of_none e hF)]; exact N.sm b u e, fun b u e => by rw [upd_ne (ne_of_none e hp)]; exact N.old b u e⟩
/-- it stays from now on -/
theorem NewIn.frz {H F H1 : Hp} {p : Addr} {o : HO} (N : NewIn H F H1) (hp : H p = none) (e : H1 p = some o) : NewIn H (upd F p o) H1 := by
  refine ⟨fun b u h => ?_, fun b u h => ?_, N.old⟩
  · by_cases hb : b = p
    · rw [hb]; exact hp
    · rw [upd_ne hb] at h; exact N.new b u h
  · by_cases hb : b = p
    · subst hb; rw [upd_same] at h; rw [e]; exact h
    · rw [upd_ne hb] at h; exact N.sm b u h
theorem same_frz {F : Hp} {p : Addr} {o : HO} (h : F p = none) : Same F (upd F p o) := same_upd h
/-! ### as data -/
open PySem in
def pairD (w : Int × List Int) : PyData := .tuple [.int w.1, .list (w.2.map PyData.int)]
def grpD (g : List (Int × List Int)) : PyData := .list (g.map pairD)
def grpsD (gs : List (List (Int × List Int))) : PyData := .list (gs.map grpD)
theorem dp_pairs {K : Frag} {F H : Hp} (s : Same F H) : ∀ {vs : List V} {ws : List (Int × List Int)}, WrIn F vs ws → DpAll K H vs (ws.map pairD)
  | [], [], _ => .nil
  | v :: vs, w :: ws, h => by
    obtain ⟨t, p, rfl, e1, e2, _⟩ := h.each 0 v w rfl rfl
    refine .cons (.tup (SqT.of (s _ _ e1)) (.cons (.int _) (.cons (.lst (SqL.of (s _ _ e2)) (dpAll_ints _)) .nil))) (dp_pairs s ⟨by have := h.len; simpa using this, fun i v' w' a b => h.each (i + 1) v' w' (by simpa using a) (by simpa using b)⟩)
  | [], _ :: _, h => by have := h.len; simp at this
  | _ :: _, [], h => by have := h.len; simp at this
theorem dp_grps {K : Frag} {F H : Hp} (s : Same F H) : ∀ {vs : List V} {gs : List (List (Int × List Int))}, GsIn F vs gs → DpAll K H vs (gs.map grpD)
  | [], [], _ => .nil
  | v :: vs, g :: gs, h => by
    obtain ⟨a, ws, rfl, e1, e2⟩ := h.each 0 v g rfl rfl
    exact .cons (.lst (SqL.of (s _ _ e1)) (dp_pairs s e2)) (dp_grps s ⟨by have := h.len; simpa using this, fun i v' w' a b => h.each (i + 1) v' w' (by simpa using a) (by simpa using b)⟩)
  | [], _ :: _, h => by have := h.len; simp at this
  | _ :: _, [], h => by have := h.len; simp at this
theorem depthAll_le {n : Nat} : ∀ {ds : List PyData}, (∀ d ∈ ds, PyData.depth d ≤ n) → PyData.depthAll ds ≤ n
  | [], _ => by simp [PyData.depthAll]
  | d :: ds, h => by
    have := depthAll_le (ds := ds) (n := n) fun x hx => h x (List.mem_cons_of_mem _ hx)
    have h1 := h d (List.mem_cons_self ..)
    simp only [PyData.depthAll]
    omega
theorem layAll : ∀ {ds : List PyData}, (∀ d ∈ ds, d.canLay0 = true) → PyData.canLayAll0 ds = true
  | [], _ => by simp [PyData.canLayAll0]
  | d :: ds, h => by
    simp only [PyData.canLayAll0, h d (List.mem_cons_self ..), layAll (ds := ds) fun x hx => h x (List.mem_cons_of_mem _ hx), Bool.and_self]
theorem pairD_ok (w : Int × List Int) : PyData.depth (pairD w) ≤ 3 ∧ (pairD w).canLay0 = true := by
  have h := depth_ints w.2
  unfold pairD
  refine ⟨?_, ?_⟩
  · simp only [PyData.depth, PyData.depthAll]
    omega
  · simp only [PyData.canLay0, PyData.canLayAll0, lay_ints, Bool.and_self]
theorem grpD_ok (g : List (Int × List Int)) : PyData.depth (grpD g) ≤ 4 ∧ (grpD g).canLay0 = true := by
  unfold grpD
  refine ⟨?_, ?_⟩
  · rw [PyData.depth]
    have := depthAll_le (n := 3) (ds := g.map pairD) fun d hd => by
      obtain ⟨w, _, rfl⟩ := List.mem_map.mp hd
      exact (pairD_ok w).1
    omega
  · rw [PyData.canLay0]
    exact layAll fun d hd => by
      obtain ⟨w, _, rfl⟩ := List.mem_map.mp hd
      exact (pairD_ok w).2
theorem grpsD_ok (gs : List (List (Int × List Int))) : PyData.depth (grpsD gs) ≤ 5 ∧ (grpsD gs).canLay0 = true := by
  unfold grpsD
  refine ⟨?_, ?_⟩
  · rw [PyData.depth]
    have := depthAll_le (n := 4) (ds := gs.map grpD) fun d hd => by
      obtain ⟨w, _, rfl⟩ := List.mem_map.mp hd
      exact (grpD_ok w).1
    omega
  · rw [PyData.canLay0]
    exact layAll fun d hd => by
      obtain ⟨w, _, rfl⟩ := List.mem_map.mp hd
      exact (grpD_ok w).2
theorem shaped_of {d : PyData} {n : Nat} (h : PyData.depth d ≤ n ∧ d.canLay0 = true) (hn : n ≤ 64) : SeqAt.shaped d = true := by
  unfold SeqAt.shaped
  rw [Bool.and_eq_true]
  exact ⟨h.2, decide_eq_true (Nat.le_trans h.1 hn)⟩
/-- == of things that are the same data -/
theorem eqD_same {K : Frag} {H : Hp} {Q : VK} {x y : V} {d : PyData} {n : Nat} (hx : Dp K H x d) (hy : Dp K H y d) (h : PyData.depth d ≤ n ∧ d.canLay0 = true) (hn : n ≤ 64) (q : Q (.bl true) H) : rEqD K x y H Q :=
  ⟨d, d, hx, hy, shaped_of h hn, shaped_of h hn, by rw [SeqAt.eqv_refl d h.2]; exact q⟩
theorem neD_same {K : Frag} {H : Hp} {Q : VK} {x y : V} {d : PyData} {n : Nat} (hx : Dp K H x d) (hy : Dp K H y d) (h : PyData.depth d ≤ n ∧ d.canLay0 = true) (hn : n ≤ 64) (q : Q (.bl false) H) : rNeD K x y H Q :=
  ⟨d, d, hx, hy, shaped_of h hn, shaped_of h hn, by rw [SeqAt.eqv_refl d h.2]; exact q⟩
end Nv
namespace Nv
open PySem L2
/-- two ghosts in one -/
def joinF (F F2 : Hp) : Hp := fun b => match F b with | some o => some o | none => F2 b
theorem joinF_left {F F2 : Hp} : Same F (joinF F F2) := fun b o e => by unfold joinF; rw [e]
theorem joinF_right {F F2 : Hp} (h : ∀ b o, F2 b = some o → F b = none) : Same F2 (joinF F F2) := fun b o e => by unfold joinF; rw [h b o e]; exact e
theorem joinF_or {F F2 : Hp} {b : Addr} {o : HO} (h : joinF F F2 b = some o) : F b = some o ∨ F2 b = some o := by
  unfold joinF at h
  cases e : F b with
  | none => rw [e] at h; exact .inr h
  | some u => rw [e] at h; exact .inl h
theorem NewIn.join {H F H1 F2 H2 : Hp} (N : NewIn H F H1) (N2 : NewIn H1 F2 H2) : NewIn H (joinF F F2) H2 := by
  refine ⟨fun b o e => ?_, fun b o e => ?_, N.old.trans N2.old⟩
  · rcases joinF_or e with e | e
    · exact N.new b o e
    · exact N.old.free (N2.new b o e)
  · rcases joinF_or e with e | e
    · exact N2.old b o (N.sm b o e)
    · exact N2.sm b o e
end Nv
namespace Nv
open PySem L2
/-- as NewIn, but for a thing st that others change -/
structure NewK (st : Addr) (H F H' : Hp) : Prop where
  new : ∀ b o, F b = some o → H b = none
  sm : Same F H'
  old : Kp st H H'
  has : ∃ o, H st = some o
theorem NewK.nil {st : Addr} {H H' : Hp} (s : Kp st H H') (h : ∃ o, H st = some o) : NewK st H (fun _ => none) H' := ⟨fun _ _ e => (by cases e), fun _ _ e => (by cases e), s, h⟩
theorem NewK.st {st : Addr} {H F H' : Hp} (N : NewK st H F H') : F st = none := by
  obtain ⟨o, e⟩ := N.has
  cases h : F st with
  | none => rfl
  | some u =>
    have := N.new _ _ h
    rw [e] at this
    cases this
theorem NewK.kp {st : Addr} {H F H1 H2 : Hp} (N : NewK st H F H1) (s : Kp st H1 H2) : NewK st H F H2 := ⟨N.new, fun b o e => s b o (ne_of_none e N.st) (N.sm b o e), N.old.trans s, N.has⟩
theorem NewK.same {st : Addr} {H F H1 H2 : Hp} (N : NewK st H F H1) (s : Same H1 H2) : NewK st H F H2 := N.kp (Kp.of s)
theorem NewK.free {st : Addr} {H F H1 : Hp} (N : NewK st H F H1) {b : Addr} (n : b ≠ st) (h : H1 b = none) : H b = none := by
  cases e : H b with
  | none => rfl
  | some o =>
    have := N.old b o n e
    rw [h] at this
    cases this
theorem NewK.ext {st : Addr} {H F H1 : Hp} {p : Addr} {o : HO} (N : NewK st H F H1) (n : p ≠ st) (hp : H1 p = none) : NewK st H (upd F p o) (upd H1 p o) := by
  have hH : H p = none := N.free n hp
  refine ⟨fun b u e => ?_, fun b u e => ?_, N.old.trans (Kp.of (same_upd hp)), N.has⟩
  · by_cases hb : b = p
    · rw [hb]; exact hH
    · rw [upd_ne hb] at e; exact N.new b u e
  · by_cases hb : b = p
    · subst hb; rw [upd_same] at e ⊢; exact e
    · have e : upd F p o b = some u := e
      rw [upd_ne hb] at e ⊢; exact N.sm b u e
theorem NewK.put {st : Addr} {H F H1 : Hp} {p : Addr} {o : HO} (N : NewK st H F H1) (hp : H p = none) (hF : F p = none) : NewK st H F (upd H1 p o) := ⟨N.new, fun b u e => by rw [upd_ne (ne_of_none e hF)]; exact N.sm b u e, fun b u n e => by rw [upd_ne (ne_of_none e hp)]; exact N.old b u n e, N.has⟩
theorem NewK.frz {st : Addr} {H F H1 : Hp} {p : Addr} {o : HO} (N : NewK st H F H1) (hp : H p = none) (e : H1 p = some o) : NewK st H (upd F p o) H1 := by
  refine ⟨fun b u h => ?_, fun b u h => ?_, N.old, N.has⟩
  · by_cases hb : b = p
    · rw [hb]; exact hp
    · rw [upd_ne hb] at h; exact N.new b u h
  · by_cases hb : b = p
    · subst hb; rw [upd_same] at h; rw [e]; exact h
    · rw [upd_ne hb] at h; exact N.sm b u h
theorem NewK.join {st : Addr} {H F H1 F2 H2 : Hp} (N : NewK st H F H1) (N2 : NewK st H1 F2 H2) : NewK st H (joinF F F2) H2 := by
  obtain ⟨o2, e2⟩ := N2.has
  have hn : ∀ b o, F2 b = some o → b ≠ st := fun b o e z => by
    have := N2.new b o e
    rw [z, e2] at this
    cases this
  refine ⟨fun b o e => ?_, fun b o e => ?_, N.old.trans N2.old, N.has⟩
  · rcases joinF_or e with e | e
    · exact N.new b o e
    · exact N.free (hn b o e) (N2.new b o e)
  · rcases joinF_or e with e | e
    · exact N2.old b o (ne_of_none e N.st) (N.sm b o e)
    · exact N2.sm b o e
end Nv

namespace K04
open PySem L2 Nv
def top (i : Nat) : Stmt := PySem.Challenge.pw_nearvault_k04_groups.main.body.getD i (.Pass ⟨0, 0, 0, 0⟩)
abbrev s_write_number : Stmt := top 2
abbrev s_read_number : Stmt := top 3
abbrev s_write_group : Stmt := top 6
abbrev s_read_groups : Stmt := top 7
abbrev s_group_end : Stmt := top 8
abbrev s_read_pairs : Stmt := top 9
abbrev s_law_draw : Stmt := top 11
abbrev s_law_content : Stmt := top 12
abbrev s_law_group : Stmt := top 13
abbrev s_law_bytes : Stmt := top 14
abbrev s_law : Stmt := top 15
theorem sc_write_number : FnScope ["width", "number", "k"] ["width", "number"] (defScope s_write_number) := ⟨rfl, rfl, rfl, by decide +kernel, rfl, by decide +kernel, by decide +kernel⟩
theorem sc_read_number : FnScope ["data", "place", "width", "number", "k"] ["data", "place", "width"] (defScope s_read_number) := ⟨rfl, rfl, rfl, by decide +kernel, rfl, by decide +kernel, by decide +kernel⟩
theorem sc_write_group : FnScope ["pairs", "data", "number", "content"] ["pairs"] (defScope s_write_group) := ⟨rfl, rfl, rfl, by decide +kernel, rfl, by decide +kernel, by decide +kernel⟩
theorem sc_read_groups : FnScope ["data", "groups", "place", "end"] ["data"] (defScope s_read_groups) := ⟨rfl, rfl, rfl, by decide +kernel, rfl, by decide +kernel, by decide +kernel⟩
theorem sc_group_end : FnScope ["data", "place", "pairs_place", "end"] ["data", "place"] (defScope s_group_end) := ⟨rfl, rfl, rfl, by decide +kernel, rfl, by decide +kernel, by decide +kernel⟩
theorem sc_read_pairs : FnScope ["data", "place", "end", "pairs", "at", "number"] ["data", "place", "end"] (defScope s_read_pairs) := ⟨rfl, rfl, rfl, by decide +kernel, rfl, by decide +kernel, by decide +kernel⟩
theorem sc_law_draw : FnScope ["state", "script", "size", "cell", "mixed", "digit"] ["state", "script", "size"] (defScope s_law_draw) := ⟨rfl, rfl, rfl, by decide +kernel, rfl, by decide +kernel, by decide +kernel⟩
theorem sc_law_content : FnScope ["state", "script"] ["state", "script"] (defScope s_law_content) := ⟨rfl, rfl, rfl, by decide +kernel, rfl, by decide +kernel, by decide +kernel⟩
theorem sc_law_group : FnScope ["state", "script", "pairs", "k", "number"] ["state", "script"] (defScope s_law_group) := ⟨rfl, rfl, rfl, by decide +kernel, rfl, by decide +kernel, by decide +kernel⟩
theorem sc_law_bytes : FnScope ["pairs", "data", "number", "page"] ["pairs"] (defScope s_law_bytes) := ⟨rfl, rfl, rfl, by decide +kernel, rfl, by decide +kernel, by decide +kernel⟩
theorem sc_law : FnScope ["script", "state", "groups", "data", "pairs", "handed", "found", "more", "kept", "pair", "k"] ["script"] (defScope s_law) := ⟨rfl, rfl, rfl, by decide +kernel, rfl, by decide +kernel, by decide +kernel⟩
structure Txt (K : PySem.W.Frag) (mg : Str → Option Value) where
  f_write_number : Addr
  fd_write_number : FuncData
  F_write_number : Fun K "write_number" "write_number" s_write_number f_write_number fd_write_number
  b_write_number : Binds K fd_write_number ["width", "number"] []
  g_write_number : mg "write_number" = some (.ref f_write_number)
  f_read_number : Addr
  fd_read_number : FuncData
  F_read_number : Fun K "read_number" "read_number" s_read_number f_read_number fd_read_number
  b_read_number : Binds K fd_read_number ["data", "place", "width"] []
  g_read_number : mg "read_number" = some (.ref f_read_number)
  f_write_group : Addr
  fd_write_group : FuncData
  F_write_group : Fun K "write_group" "write_group" s_write_group f_write_group fd_write_group
  b_write_group : Binds K fd_write_group ["pairs"] []
  g_write_group : mg "write_group" = some (.ref f_write_group)
  f_read_groups : Addr
  fd_read_groups : FuncData
  F_read_groups : Fun K "read_groups" "read_groups" s_read_groups f_read_groups fd_read_groups
  b_read_groups : Binds K fd_read_groups ["data"] []
  g_read_groups : mg "read_groups" = some (.ref f_read_groups)
  f_group_end : Addr
  fd_group_end : FuncData
  F_group_end : Fun K "group_end" "group_end" s_group_end f_group_end fd_group_end
  b_group_end : Binds K fd_group_end ["data", "place"] []
  g_group_end : mg "group_end" = some (.ref f_group_end)
  f_read_pairs : Addr
  fd_read_pairs : FuncData
  F_read_pairs : Fun K "read_pairs" "read_pairs" s_read_pairs f_read_pairs fd_read_pairs
  b_read_pairs : Binds K fd_read_pairs ["data", "place", "end"] []
  g_read_pairs : mg "read_pairs" = some (.ref f_read_pairs)
  f_law_draw : Addr
  fd_law_draw : FuncData
  F_law_draw : Fun K "_law_draw" "_law_draw" s_law_draw f_law_draw fd_law_draw
  b_law_draw : Binds K fd_law_draw ["state", "script", "size"] []
  g_law_draw : mg "_law_draw" = some (.ref f_law_draw)
  f_law_content : Addr
  fd_law_content : FuncData
  F_law_content : Fun K "_law_content" "_law_content" s_law_content f_law_content fd_law_content
  b_law_content : Binds K fd_law_content ["state", "script"] []
  g_law_content : mg "_law_content" = some (.ref f_law_content)
  f_law_group : Addr
  fd_law_group : FuncData
  F_law_group : Fun K "_law_group" "_law_group" s_law_group f_law_group fd_law_group
  b_law_group : Binds K fd_law_group ["state", "script"] []
  g_law_group : mg "_law_group" = some (.ref f_law_group)
  f_law_bytes : Addr
  fd_law_bytes : FuncData
  F_law_bytes : Fun K "_law_bytes" "_law_bytes" s_law_bytes f_law_bytes fd_law_bytes
  b_law_bytes : Binds K fd_law_bytes ["pairs"] []
  g_law_bytes : mg "_law_bytes" = some (.ref f_law_bytes)
  f_law : Addr
  fd_law : FuncData
  F_law : Fun K "law" "law" s_law f_law fd_law
  b_law : Binds K fd_law ["script"] []
  g_law : mg "law" = some (.ref f_law)
  z_range : mg "range" = none
  z_list : mg "list" = none
  z_len : mg "len" = none
  z_int : mg "int" = none
  z_reversed : mg "reversed" = none
  z_isinstance : mg "isinstance" = none
  z_tuple : mg "tuple" = none
  t_NUMBER_WIDTH : Tok
  g_NUMBER_WIDTH : mg "NUMBER_WIDTH" = some (.int 4 t_NUMBER_WIDTH)
  t_PAIR_SIZE : Tok
  g_PAIR_SIZE : mg "PAIR_SIZE" = some (.int 260 t_PAIR_SIZE)

end K04


namespace K04
open PySem L2 Nv RZ
local macro_rules | `(tactic| walk_at "hp") => `(tactic| first
  | assumption
  | exact upd_same
  | exact (upd_ne (by assumption)).trans (by first | assumption | exact upd_same | exact (upd_ne (by assumption)).trans (by first | assumption | exact upd_same))
  | exact (upd_ne (Ne.symm (by assumption))).trans (by first | assumption | exact upd_same))
local macro_rules | `(tactic| walk_at "cond") => `(tactic| first
  | (change (0 : Int) < _; first | decide | omega)
  | exact Or.inr ⟨by decide, by decide⟩
  | exact Or.inl ⟨by decide, by decide⟩
  | exact Or.inr ⟨by omega, by omega⟩
  | exact Or.inl ⟨by omega, by omega⟩
  | exact ⟨by decide, by decide, by decide⟩
  | exact wide_div (by first | decide | omega) (show _ < 2 ^ 64 by first | decide | omega) (by decide) (by decide)
  | (change (0 : Int) ≤ _; first | decide | omega)
  | exact ⟨by decide, by decide⟩
  | exact ⟨by omega, by omega⟩)
local macro_rules | `(tactic| walk_at "val") => `(tactic| first
  | (with_reducible exact val_c)
  | ((with_reducible apply val_var); exact rfl)
  | ((with_reducible apply val_I0); walk_at "val"; walk_at "val")
  | ((with_reducible apply val_I); walk_at "val"; walk_at "val"; walk_at "cond")
  | ((with_reducible apply val_ixL); walk_at "val"; walk_at "val"; (first | exact SqL.of (by walk_at "hp") | assumption); exact rfl)
  | ((with_reducible apply val_len); walk_at "val"; first | exact Or.inl (SqL.of (by walk_at "hp")) | exact Or.inl (by assumption) | exact Or.inr (by assumption) | exact Or.inr (SqT.of (by walk_at "hp")))
  | ((with_reducible apply val_int1); walk_at "val")
  | ((with_reducible apply val_abs); walk_at "val")
  | ((with_reducible apply val_max2); walk_at "val"; walk_at "val")
  | ((with_reducible apply val_eq); walk_at "val"; walk_at "val"; exact rfl)
  | ((with_reducible apply val_ne); walk_at "val"; walk_at "val"; exact rfl)
  | ((with_reducible apply val_not); walk_at "val")
  | ((with_reducible apply val_U); walk_at "val"))
local macro_rules | `(tactic| walk_at "ans") => `(tactic| first
  | ((with_reducible apply ans_Eq); walk_at "val"; walk_at "val"; exact rfl)
  | ((with_reducible apply ans_Ne); walk_at "val"; walk_at "val"; exact rfl)
  | ((with_reducible apply ans_I0); walk_at "val"; walk_at "val"; exact rfl)
  | ((with_reducible refine ans_And ?_ (fun _ => ?_)); walk_at "ans"; walk_at "ans")
  | ((with_reducible refine ans_or2 ?_ (fun _ => ?_)); walk_at "ans"; walk_at "ans")
  | ((with_reducible refine ans_not ?_); walk_at "ans")
  | ((with_reducible apply ans_val); walk_at "val"))
local macro_rules | `(tactic| walk_at "nrm") => `(tactic| (try dsimp only [List.set_cons_zero, List.set_cons_succ]))
local macro_rules | `(tactic| walk_at "set") => `(tactic| first
  | ((with_reducible apply q_set); walk_at "val"; walk_at "nrm")
  | ((with_reducible apply s_set); walk_at "val"; walk_at "nrm"))
local macro_rules | `(tactic| walk_at "setL") => `(tactic| first
  | ((with_reducible apply q_setL); walk_at "val"; walk_at "val"; walk_at "val"; walk_at "hp"; exact rfl; walk_at "nrm")
  | ((with_reducible apply s_setL); walk_at "val"; walk_at "val"; walk_at "val"; walk_at "hp"; exact rfl; walk_at "nrm"))
local macro_rules | `(tactic| walk_at "ff") => `(tactic| (walk_at "nrm"; rw [if_neg (by decide)]; (try ((with_reducible refine st_next ?_); walk_at "nrm"))))
local macro_rules | `(tactic| walk_at "nok") => `(tactic| (refine ⟨_, rfl, rfl, _, rfl, ?_⟩; walk_at "nrm"; rw [if_neg (by decide)]))
local macro_rules | `(tactic| walk_at "yesk") => `(tactic| (refine ⟨_, rfl, rfl, _, rfl, ?_⟩; walk_at "nrm"; rw [if_pos (by decide)]))

section
variable {P : Program} {w : World} {K : PySem.W.Frag} {mg : Str → Option Value} {base : Heap}
theorem ok_law_draw (T : Txt K mg) : FnOk P w K mg base CX0 1 T.f_law_draw T.fd_law_draw ["state", "script", "size"] (spDraw K) := by
  refine T.F_law_draw.ok sc_law_draw (fun vs H Q E h => ?_) (fun cdv A outer s H vs Q E hr h => ?_)
  · obtain ⟨_, _, _, _, _, rfl, _⟩ := h
    rfl
  obtain ⟨st, sc, n, H0, ns, rfl, hn, hn2, D, q⟩ := h
  refine ⟨_, (Evl.pss_cut (ps_if (pt_cmpR op_eq (pe_ix ix_list (pv 0) pe_int (fun _ _ => rfl)) pe_int (nomark _))
        (pss_cons (ps_set (i := 3) sc_law_draw.nd rfl (by first | exact Or.inl rfl | exact Or.inr rfl) pe_int)
        (Evl.pss_cut (ps_if (pt_cmpR op_gt (pe_callB call_len_seq (by rfl) T.z_len (by decide +kernel) (pa_cons (pv 1) pa_nil)) pe_int (nomark _))
          (pss_one (ps_set (i := 3) sc_law_draw.nd rfl (by first | exact Or.inl rfl | exact Or.inr rfl) (pe_ix ix_list (pv 1) (pe_op op_mod (pe_ix ix_list (pv 0) pe_int (fun _ _ => rfl)) (pe_callB call_len_seq (by rfl) T.z_len (by decide +kernel) (pa_cons (pv 1) pa_nil))) (fun _ _ => rfl))))
          pss_nil)
        (Evl.pss_cut (ps_if (pt_cmpR op_lt (pv 3) pe_int (nomark _))
          (pss_one (ps_set (i := 3) sc_law_draw.nd rfl (by first | exact Or.inl rfl | exact Or.inr rfl) (pe_op op_sub pe_int (pe_op op_mul pe_int (pv 3)))))
          pss_nil)
        (pss_cons (ps_set (i := 4) sc_law_draw.nd rfl (by first | exact Or.inl rfl | exact Or.inr rfl) (pe_op op_mod (pe_callTy call_int1 (by rfl) T.z_int (by decide +kernel) (pa_cons (pe_op op_mul (pe_op op_add (pe_op op_add (pv 3) (pe_op op_mul (pe_ix ix_list (pv 0) pe_int (fun _ _ => rfl)) pe_int)) pe_int) pe_int) pa_nil)) pe_int))
        (pss_cons (ps_asg (pe_op op_mod (pe_callTy call_int1 (by rfl) T.z_int (by decide +kernel) (pa_cons (pe_op op_add (pe_op op_mul (pv 4) pe_int) (pe_op op_mul (pe_ix ix_list (pv 0) pe_int (fun _ _ => rfl)) pe_int)) pa_nil)) pe_int) (pg_sub (pv 0) pe_int set_list))
        (Evl.pss_cut (ps_if (PW.pt (pw_and (pt_cmpR op_ge (pv 3) (pe_op op_pow pe_int pe_int) (nomark _)) (pw_and1 (pt_cmpR op_lt (pe_ix ix_list (pv 0) pe_int (fun _ _ => rfl)) (pe_callB call_len_seq (by rfl) T.z_len (by decide +kernel) (pa_cons (pv 1) pa_nil)) (nomark _)))))
          (pss_one (ps_asg (pv 3) (pg_sub (pv 0) pe_int set_list)))
          pss_nil)
        (pss_one (ps_asg (pe_op op_add (pe_ix ix_list (pv 0) pe_int (fun _ _ => rfl)) pe_int) (pg_sub (pv 0) pe_int set_list)))))))))
        pss_nil)
      (pss_cons (ps_set (i := 5) sc_law_draw.nd rfl (by first | exact Or.inl rfl | exact Or.inr rfl) (pe_op op_mod (pe_callTy call_int1 (by rfl) T.z_int (by decide +kernel) (pa_cons (pe_ix ix_list (pv 0) pe_int (fun _ _ => rfl)) pa_nil)) (pv 2)))
      (pss_cons (ps_asg (pe_op op_fdivW (pe_ix ix_list (pv 0) pe_int (fun _ _ => rfl)) (pv 2)) (pg_sub (pv 0) pe_int set_list))
      (pss_one (ps_ret (pv 5)))))), ?_⟩
  (try dsimp only [cxOf])
  rw [show start ["state", "script", "size", "cell", "mixed", "digit"] [.ref st, .ref sc, .int n] = [some (.ref st), some (.ref sc), some (.int n), none, none, none] from rfl]
  obtain ⟨i, d, hi, hd, e⟩ := D.ex
  have hS := D.seq
  refine q_cut (fun σ' H' => ∃ (i d : Int) (c3 c4 : Option V), σ' = [some (.ref st), some (.ref sc), some (.int n), c3, c4, none] ∧ 0 ≤ i ∧ 0 ≤ d ∧ But st H H' ∧ Dr K H0 H' st sc ns ∧ H' st = some (.lst [.int i, .int d])) ?_ ?_
  · refine s_when (b := decide (V.int d = V.int 0)) (by walk_at "ans") (fun hb => ?_) (fun hb => ⟨i, d, none, none, rfl, hi, hd, But.refl _ _, D, e⟩)
    refine q_set (v := .int 0) (by walk_at "val") ?_
    walk_at "nrm"
    refine q_cut (fun σ' H' => H' = H ∧ ∃ c : Int, σ' = [some (.ref st), some (.ref sc), some (.int n), some (.int c), none, none]) ?_ ?_
    · refine s_when (b := decide ((0 : Int) < ((ns.map V.int).length : Nat))) (by walk_at "ans") (fun hb => ?_) (fun hb => ⟨rfl, 0, rfl⟩)
      have h0 : 0 < ns.length := by
        have h1 := of_decide_eq_true hb
        rw [List.length_map] at h1
        omega
      obtain ⟨c, hc⟩ := at_mod i h0
      refine s_set (v := .int c) ?_ ⟨rfl, _, rfl⟩
      refine val_ixL (xs := ns.map V.int) (i := i % (((ns.map V.int).length : Nat) : Int)) (val_var rfl) ?_ hS hc
      refine val_I (val_ixL (val_var rfl) val_c (SqL.of e) rfl) (val_len (val_var rfl) (.inl hS)) ?_
      show (0 : Int) < _
      rw [List.length_map]
      omega
    rintro σ' H' ⟨rfl, c, rfl⟩
    refine q_cut (fun σ' H'' => H'' = H' ∧ ∃ c : Int, 0 ≤ c ∧ σ' = [some (.ref st), some (.ref sc), some (.int n), some (.int c), none, none]) ?_ ?_
    · refine s_when (b := decide (c < 0)) (by walk_at "ans") (fun hb => ?_) (fun hb => ⟨rfl, c, by have := of_decide_eq_false hb; omega, rfl⟩)
      have hc := of_decide_eq_true hb
      refine s_set (v := .int (1 - 2 * c)) (by walk_at "val") ⟨rfl, _, by omega, rfl⟩
    rintro σ' H'' ⟨rfl, c, hc, rfl⟩
    walk_at "set"
    walk_at "setL"
    generalize hm : (_ : Int) % 4294967291 = m5
    have hm5 : 0 ≤ m5 := by rw [← hm]; exact Int.emod_nonneg _ (by decide)
    refine q_cut (fun σ' H' => ∃ d' : Int, 0 ≤ d' ∧ But st H'' H' ∧ H' st = some (.lst [.int i, .int d']) ∧ ∃ c4, σ' = [some (.ref st), some (.ref sc), some (.int n), some (.int c), c4, none]) ?_ ?_
    · have e2 : (upd H'' st (.lst [V.int i, V.int m5])) st = some (.lst [.int i, .int m5]) := upd_same
      have hS2 : SqL K (upd H'' st (.lst [V.int i, V.int m5])) sc (ns.map V.int) := (D.put hi hm5).seq
      refine s_when (b := decide ((10 : Int) ^ (18 : Int).toNat ≤ c) && decide (i < ((ns.map V.int).length : Nat))) (by walk_at "ans") (fun hb => ?_) (fun hb => ⟨m5, hm5, But.upd, upd_same, _, rfl⟩)
      walk_at "setL"
      exact ⟨c, hc, But.upd.trans But.upd, upd_same, _, rfl⟩
    rintro σ' H' ⟨d', hd', hB, e', c4, rfl⟩
    walk_at "setL"
    exact ⟨i + 1, d', _, _, rfl, by omega, hd', hB.trans But.upd, ⟨D.sq, fun b o h => by rw [upd_ne (ne_of_none h D.new), hB b (ne_of_none h D.new)]; exact D.same b o h, D.new, i + 1, d', by omega, hd', upd_same⟩, upd_same⟩
  · rintro σ' H' ⟨i, d, c3, c4, rfl, hi, hd, hB, D, e⟩
    refine q_set (by walk_at "val") ?_
    walk_at "nrm"
    refine q_setL (by walk_at "val") (by walk_at "val") (by walk_at "val") e (k := 1) rfl ?_
    refine s_ret (val_var rfl) ?_
    refine q _ _ (Int.emod_nonneg _ (by omega)) (Int.emod_lt_of_pos _ hn) (hB.trans But.upd) ?_
    exact D.put hi (Int.ediv_nonneg hd (by omega))

def spWN (K : Frag) : Sp := fun vs H Q _ => ∃ (wd : Nat) (n : Int), vs = [.int (wd : Int), .int n] ∧ wd ≤ 1000 ∧
  ∀ (p : Addr) (H' : Hp), Same H H' → H p = none → H' p = some (.lst ((nb wd n).map V.int)) → Q (.ref p) H'
theorem ok_write_number (T : Txt K mg) : FnOk P w K mg base CX0 1 T.f_write_number T.fd_write_number ["width", "number"] (spWN K) := by
  refine T.F_write_number.ok sc_write_number (fun vs H Q E h => ?_) (fun cdv A outer s H vs Q E hr h => ?_)
  · obtain ⟨_, _, rfl, _⟩ := h
    rfl
  obtain ⟨wd, n, rfl, hw, q⟩ := h
  refine ⟨_, (pss_one (ps_ret (pe_lc (own := [("k", 2)]) (g := gName 2) (by rfl) sc_write_number.nd (pi_revR (by rfl) T.z_reversed (prg_1 (by rfl) T.z_range (pv 0))) (blkOk_by (own := [("k", 2)]) (N := ["width", "number", "k"]) (sc := defScope s_write_number) (by decide +kernel)) (fun _ _ _ _ _ => pg_name (i := 2) sc_write_number.nd rfl (by first | exact Or.inl rfl | exact Or.inr rfl)) (fun _ _ _ _ _ => pts_nil) (fun _ _ _ _ _ => pe_op op_and (pe_op op_shr (pv 1) (pe_op op_mul pe_int (pv 2))) pe_int)))), ?_⟩
  (try dsimp only [cxOf])
  rw [show start ["width", "number", "k"] [.int (wd : Int), .int n] = [some (.int (wd : Int)), some (.int n), none] from rfl]
  refine ⟨_, rfl, (wd : Int), rfl, by omega, by omega, by omega, by omega, fun D hD => ?_⟩
  rw [show ((wd : Int) - 0).toNat = wd from by omega]
  refine lc_rangeC (lo := 0 + ((wd : Nat) : Int) - 1) (c := -1) (n := wd) (fun i H1 => Same H H1 ∧ H1 D = some (.lst ((wn wd n i).map V.int))) ⟨same_upd hD, upd_same⟩ ?_ ?_
  · rintro i H1 hi ⟨sm, e⟩
    rw [show (0 : Int) + ((wd : Nat) : Int) - 1 + (i : Int) * (-1) = ((wd - 1 - i : Nat) : Int) from by omega]
    refine ⟨rfl, g_yes ?_⟩
    have hv : Val (tOp (rI0 fun i j => V.int (Builtin.bitAnd i j)) (tOp (rI (fun x j => 0 ≤ j) fun i j => V.int (i / 2 ^ j.toNat)) (tVar 1) (tOp (rI CMul fun i j => V.int (i * j)) (tC (V.int 8)) (tVar 2))) (tC (V.int 255)))
        [some (V.int (wd : Int)), some (V.int n), some (.int ((wd - 1 - i : Nat) : Int))] H1 (.int ((n / 2 ^ (8 * (wd - 1 - i))) % 256)) := by
      have e1 : (n / 2 ^ (8 * (wd - 1 - i))) % 256 = Builtin.bitAnd (n / 2 ^ ((8 : Int) * ((wd - 1 - i : Nat) : Int)).toNat) 255 := by
        rw [PyProof.Rows.bitAnd_m8, show ((8 : Int) * ((wd - 1 - i : Nat) : Int)).toNat = 8 * (wd - 1 - i) from by omega]
      rw [e1]
      refine val_I0 (g := fun i j => V.int (Builtin.bitAnd i j)) (val_I (g := fun i j => V.int (i / 2 ^ j.toNat)) (val_var rfl) (val_I (g := fun i j => V.int (i * j)) val_c (val_var rfl) (.inl ⟨by decide, by decide⟩)) ?_) val_c
      show (0 : Int) ≤ 8 * ((wd - 1 - i : Nat) : Int)
      omega
    refine hv _ ?_
    refine ⟨_, e, by rw [List.length_map]; exact small1000 (by unfold wn; rw [List.length_map, List.length_range]; omega), fun b o hb => ?_, ?_⟩
    · rw [upd_ne (ne_of_none hb hD)]
      exact sm b o hb
    · rw [upd_same, wn_succ, List.map_append]
      rfl
  · rintro H1 ⟨sm, e⟩
    rw [wn_all] at e
    exact q D H1 sm hD e
def spRN (K : Frag) : Sp := fun vs H Q _ => ∃ (d : Addr) (xs : List Int) (pl wd : Nat), vs = [.ref d, .int (pl : Int), .int (wd : Int)] ∧ SqL K H d (xs.map V.int) ∧ pl + wd ≤ xs.length ∧ xs.length ≤ 1000000 ∧ Q (.int (nv ((xs.drop pl).take wd))) H
theorem ok_read_number (T : Txt K mg) : FnOk P w K mg base CX0 1 T.f_read_number T.fd_read_number ["data", "place", "width"] (spRN K) := by
  refine T.F_read_number.ok sc_read_number (fun vs H Q E h => ?_) (fun cdv A outer s H vs Q E hr h => ?_)
  · obtain ⟨_, _, _, _, rfl, _⟩ := h
    rfl
  obtain ⟨d, xs, pl, wd, rfl, hd, hl, hx, q⟩ := h
  refine ⟨_, (pss_cons (ps_set (i := 3) sc_read_number.nd rfl (by first | exact Or.inl rfl | exact Or.inr rfl) pe_int)
      (pss_cons (ps_for PassesOwn.never rfl (pi_range2 (by rfl) T.z_range (pa_cons (pv 1) (pa_cons (pe_op op_add (pv 1) (pv 2)) pa_nil))) (pg_name (i := 4) sc_read_number.nd rfl (by first | exact Or.inl rfl | exact Or.inr rfl))
        (pss_one (ps_set (i := 3) sc_read_number.nd rfl (by first | exact Or.inl rfl | exact Or.inr rfl) (pe_op op_add (pe_op op_mul (pv 3) pe_int) (pe_ix ix_list (pv 0) (pv 4) (fun _ _ => rfl))))))
      (pss_one (ps_ret (pv 3))))), ?_⟩
  (try dsimp only [cxOf])
  rw [show start ["data", "place", "width", "number", "k"] [.ref d, .int (pl : Int), .int (wd : Int)] = [some (.ref d), some (.int (pl : Int)), some (.int (wd : Int)), none, none] from rfl]
  walk_at "set"
  refine ⟨_, rfl, _, rfl, _, rfl, (pl : Int), (wd : Int), rfl, rfl, (pl : Int), (pl : Int) + (wd : Int), rfl, ⟨by omega, by omega, by omega, by omega⟩, ?_⟩
  rw [show ((pl : Int) + (wd : Int) - (pl : Int)).toNat = wd from by omega]
  refine for_range (lo := (pl : Int)) (n := wd) (fun i σ' H' => H' = H ∧ ∃ c4 : Option V, σ' = [some (.ref d), some (.int (pl : Int)), some (.int (wd : Int)), some (.int (nv ((xs.drop pl).take i))), c4]) ⟨rfl, none, rfl⟩ ?_ ?_
  · rintro i σ' H' hi ⟨rfl, c4, rfl⟩
    have h1 : pl + i < xs.length := by omega
    rw [show (pl : Int) + (i : Int) = ((pl + i : Nat) : Int) from by omega]
    refine s_set (v := .int (nv ((xs.drop pl).take i) * 256 + xs[pl + i])) ?_ ⟨rfl, some (.int ((pl + i : Nat) : Int)), ?_⟩
    · exact val_I0 (g := fun i j => V.int (i + j)) (val_I (g := fun i j => V.int (i * j)) (val_var rfl) val_c (.inr ⟨by decide, by decide⟩)) (val_ixL (val_var rfl) (val_var rfl) hd (at_map (List.getElem?_eq_getElem h1)))
    · rw [← nv_snoc, show (xs.drop pl).take i ++ [xs[pl + i]] = (xs.drop pl).take (i + 1) from by
        rw [List.take_add_one, List.getElem?_drop, List.getElem?_eq_getElem h1]
        rfl]
      rfl
  · rintro σ' H' ⟨rfl, c4, rfl⟩
    exact s_ret (val_var rfl) q

def spWG (K : Frag) : Sp := fun vs H Q _ => ∃ (a : Addr) (us : List V) (F : Hp) (ws : List (Int × List Int)), vs = [.ref a] ∧ SqL K H a us ∧ Same F H ∧ WrIn F us ws ∧ (∀ w ∈ ws, PairOk w) ∧ ws.length ≤ 1000 ∧
  ∀ (p : Addr) (H' : Hp), Same H H' → H p = none → H' p = some (.lst ((grpB ws).map V.int)) → Q (.ref p) H'
theorem ok_write_group (T : Txt K mg) : FnOk P w K mg base CX0 2 T.f_write_group T.fd_write_group ["pairs"] (spWG K) := by
  refine T.F_write_group.ok sc_write_group (fun vs H Q E h => ?_) (fun cdv A outer s H vs Q E hr h => ?_)
  · obtain ⟨_, _, _, _, rfl, _⟩ := h
    rfl
  obtain ⟨a, us, F, ws, rfl, ha, sF, hw, hok, hn, q⟩ := h
  refine ⟨_, (pss_cons (ps_set (i := 1) sc_write_group.nd rfl (by first | exact Or.inl rfl | exact Or.inr rfl) (pe_call (ok_write_number T) (hr.mono (by decide)) (by rfl) T.g_write_number T.F_write_number.kp T.b_write_number .nil pass0 (pa_cons (pe_glob (v := .int 4) (by rfl) T.g_NUMBER_WIDTH ⟨_, rfl⟩) (pa_cons (pe_callB call_len_seq (by rfl) T.z_len (by decide +kernel) (pa_cons (pv 0) pa_nil)) pa_nil))))
      (pss_cons (ps_for PassesOwn.never rfl (pi_list (pv 0)) (pg_tup (by rfl) (pgs_cons (pg_name (i := 2) sc_write_group.nd rfl (by first | exact Or.inl rfl | exact Or.inr rfl)) (pgs_cons (pg_name (i := 3) sc_write_group.nd rfl (by first | exact Or.inl rfl | exact Or.inr rfl)) pgs_nil)))
        (pss_cons (ps_expr (pe_bm PySem.F.plainAttrs_list PySem.F.slot_list_extend PySem.F.type_list_extend mt_extend (pv 1) (pa_cons (pe_call (ok_write_number T) (hr.mono (by decide)) (by rfl) T.g_write_number T.F_write_number.kp T.b_write_number .nil pass0 (pa_cons (pe_glob (v := .int 4) (by rfl) T.g_NUMBER_WIDTH ⟨_, rfl⟩) (pa_cons (pv 2) pa_nil))) pa_nil)))
        (pss_one (ps_expr (pe_bm PySem.F.plainAttrs_list PySem.F.slot_list_extend PySem.F.type_list_extend mt_extend (pv 1) (pa_cons (pv 3) pa_nil))))))
      (pss_one (ps_ret (pv 1))))), ?_⟩
  (try dsimp only [cxOf])
  rw [show start ["pairs", "data", "number", "content"] [.ref a] = [some (.ref a), none, none, none] from rfl]
  have hl := hw.len
  refine q_setg ?_
  refine ⟨_, rfl, a, us, rfl, .inl ha, 4, (us.length : Int), rfl, by decide, fun p H1 s1 np e1 => ?_⟩
  walk_at "nrm"
  rw [hl] at e1
  refine ⟨_, rfl, a, rfl, ⟨_, s1.seq ha⟩, for_list (K := K) (a := a) (xs := us) (fun i σ' H' => (∃ c2 c3 : Option V, σ' = [some (.ref a), some (.ref p), c2, c3]) ∧ Same H H' ∧ H' p = some (.lst ((nb 4 ws.length ++ (ws.take i).flatMap pairB).map V.int)))
    ⟨⟨none, none, rfl⟩, s1, by rw [e1]; simp⟩ (fun i σ' H' _ ⟨_, s2, _⟩ => s2.seq ha) ?_ ?_⟩
  · rintro i v σ' H2 hv ⟨⟨c2, c3, rfl⟩, s2, e2⟩
    have hi := (List.getElem?_eq_some_iff.mp hv).1
    have hwi : ws[i]? = some (ws[i]'(by omega)) := List.getElem?_eq_getElem (by omega)
    have hm : ws[i]'(by omega) ∈ ws := List.getElem_mem _
    generalize ws[i]'(by omega) = ww at hwi hm
    obtain ⟨t, c, rfl, et, ec, _⟩ := hw.each i v ww hv hwi
    have hwo := hok ww hm
    have hsub : ∀ w ∈ ws.take i, PairOk w := fun w hw => hok w (List.mem_of_mem_take hw)
    refine ⟨t, _, rfl, SqT.of (s2 _ _ (sF _ _ et)), rfl, _, _, rfl, _, _, rfl, rfl, ?_⟩
    refine ⟨_, rfl, .inl ⟨rfl, _, SqL.of e2⟩, _, rfl, 4, ww.1, rfl, by decide, fun p3 H3 s3 np3 e3 => ?_⟩
    have hz : (nb 4 ws.length ++ (ws.take i).flatMap pairB).length = 4 + 260 * i := by
      rw [List.length_append, nb_len, pairsB_len hsub, List.length_take]
      omega
    refine ⟨p, p3, _, _, rfl, rfl, s3 _ _ e2, e3, ?_, ?_⟩
    · rw [List.length_map, List.length_map, hz, nb_len]
      exact Nat.le_of_lt (Nat.lt_of_le_of_lt (show _ ≤ 1000000 by omega) (by decide))
    have npc : c ≠ p := fun z => by
      have := sF _ _ ec
      rw [z, np] at this
      cases this
    have ec3 : upd H3 p (.lst ((nb 4 ws.length ++ (ws.take i).flatMap pairB).map V.int ++ (nb 4 ww.1).map V.int)) c = some (.lst (ww.2.map V.int)) := by
      rw [upd_ne npc]
      exact s3 _ _ (s2 _ _ (sF _ _ ec))
    have ep3 : upd H3 p (.lst ((nb 4 ws.length ++ (ws.take i).flatMap pairB).map V.int ++ (nb 4 ww.1).map V.int)) p = some (.lst ((nb 4 ws.length ++ (ws.take i).flatMap pairB).map V.int ++ (nb 4 ww.1).map V.int)) := upd_same
    refine ⟨_, rfl, .inl ⟨rfl, _, SqL.of ep3⟩, _, rfl, p, c, _, _, rfl, rfl, ep3, ec3, ?_, ⟨_, _, rfl⟩, fun b o hb => ?_, ?_⟩
    · rw [List.length_append, List.length_map, List.length_map, List.length_map, hz, nb_len, hwo.2.2]
      exact Nat.le_of_lt (Nat.lt_of_le_of_lt (show _ ≤ 1000000 by omega) (by decide))
    · rw [upd_ne (ne_of_none hb np), upd_ne (ne_of_none hb np)]
      exact s3 _ _ (s2 _ _ hb)
    · rw [upd_same, take_more hwi, List.flatMap_append]
      simp only [List.flatMap_cons, List.flatMap_nil, List.append_nil, pairB, List.map_append, List.append_assoc]
  · rintro σ' H2 ⟨⟨c2, c3, rfl⟩, s2, e2⟩
    rw [hl, List.take_length] at e2
    exact s_ret (val_var rfl) (q p H2 s2 np e2)
def optE : Option Nat → V
  | none => .non
  | some e => .int (e : Int)
def spGE (K : Frag) : Sp := fun vs H Q _ => ∃ (d : Addr) (xs : List Int) (pl : Nat), vs = [.ref d, .int (pl : Int)] ∧ SqL K H d (xs.map V.int) ∧ (∀ x ∈ xs, 0 ≤ x) ∧ xs.length ≤ 1000000 ∧ pl ≤ 1000000 ∧ Q (optE (gEnd xs pl)) H
theorem ok_group_end (T : Txt K mg) : FnOk P w K mg base CX0 2 T.f_group_end T.fd_group_end ["data", "place"] (spGE K) := by
  refine T.F_group_end.ok sc_group_end (fun vs H Q E h => ?_) (fun cdv A outer s H vs Q E hr h => ?_)
  · obtain ⟨_, _, _, rfl, _⟩ := h
    rfl
  obtain ⟨d, xs, pl, rfl, hd, h0, hx, hp, q⟩ := h
  refine ⟨_, (pss_cons (ps_set (i := 2) sc_group_end.nd rfl (by first | exact Or.inl rfl | exact Or.inr rfl) (pe_op op_add (pv 1) (pe_glob (v := .int 4) (by rfl) T.g_NUMBER_WIDTH ⟨_, rfl⟩)))
      (pss_cons (ps_if (pt_cmpR op_gt (pv 2) (pe_callB call_len_seq (by rfl) T.z_len (by decide +kernel) (pa_cons (pv 0) pa_nil)) (nomark _))
        (pss_one (ps_ret pe_non))
        pss_nil)
      (pss_cons (ps_set (i := 3) sc_group_end.nd rfl (by first | exact Or.inl rfl | exact Or.inr rfl) (pe_op op_add (pv 2) (pe_op op_mul (pe_glob (v := .int 260) (by rfl) T.g_PAIR_SIZE ⟨_, rfl⟩) (pe_call (ok_read_number T) (hr.mono (by decide)) (by rfl) T.g_read_number T.F_read_number.kp T.b_read_number .nil pass0 (pa_cons (pv 0) (pa_cons (pv 1) (pa_cons (pe_glob (v := .int 4) (by rfl) T.g_NUMBER_WIDTH ⟨_, rfl⟩) pa_nil)))))))
      (pss_cons (ps_if (pt_cmpR op_gt (pv 3) (pe_callB call_len_seq (by rfl) T.z_len (by decide +kernel) (pa_cons (pv 0) pa_nil)) (nomark _))
        (pss_one (ps_ret pe_non))
        pss_nil)
      (pss_one (ps_ret (pv 3))))))), ?_⟩
  (try dsimp only [cxOf])
  rw [show start ["data", "place", "pairs_place", "end"] [.ref d, .int (pl : Int)] = [some (.ref d), some (.int (pl : Int)), none, none] from rfl]
  refine q_set (v := .int ((pl : Int) + 4)) (by walk_at "val") ?_
  walk_at "nrm"
  have hlen : ((xs.map V.int).length : Int) = (xs.length : Int) := by rw [List.length_map]
  refine q_when (b := decide ((pl : Int) + 4 > ((xs.map V.int).length : Nat))) (by walk_at "ans") (fun hb => ?_) (fun hb => ?_)
  · have hb := of_decide_eq_true hb
    refine s_ret (v := .non) val_c ?_
    have : gEnd xs pl = none := by unfold gEnd; exact if_pos (by omega)
    rw [this] at q
    exact q
  · have hb := of_decide_eq_false hb
    have hp4 : pl + 4 ≤ xs.length := by omega
    refine q_setg ?_
    refine ⟨_, rfl, _, rfl, _, rfl, d, xs, pl, 4, rfl, hd, by omega, hx, ?_⟩
    have hc : nv ((xs.drop pl).take 4) = (cnt xs pl : Int) := by
      unfold cnt
      exact (Int.toNat_of_nonneg (nv_pos _ fun x hx => h0 x (List.mem_of_mem_drop (List.mem_of_mem_take hx)))).symm
    rw [hc]
    refine ⟨260, (cnt xs pl : Int), rfl, rfl, .inl ⟨by decide, by decide⟩, (pl : Int) + 4, 260 * (cnt xs pl : Int), rfl, rfl, ?_⟩
    walk_at "nrm"
    refine q_when (b := decide ((pl : Int) + 4 + 260 * (cnt xs pl : Int) > ((xs.map V.int).length : Nat))) (by walk_at "ans") (fun hb => ?_) (fun hb => ?_)
    · have hb := of_decide_eq_true hb
      refine s_ret (v := .non) val_c ?_
      have : gEnd xs pl = none := by unfold gEnd; rw [if_neg (by omega)]; exact if_pos (by omega)
      rw [this] at q
      exact q
    · have hb := of_decide_eq_false hb
      refine s_ret (val_var rfl) ?_
      have : gEnd xs pl = some (pl + 4 + 260 * cnt xs pl) := by unfold gEnd; rw [if_neg (by omega)]; exact if_neg (by omega)
      rw [this] at q
      rw [show (pl : Int) + 4 + 260 * (cnt xs pl : Int) = ((pl + 4 + 260 * cnt xs pl : Nat) : Int) from by omega]
      exact q
def spRP (K : Frag) : Sp := fun vs H Q _ => ∃ (d : Addr) (xs : List Int) (pl n : Nat), vs = [.ref d, .int (pl : Int), .int ((pl + 260 * n : Nat) : Int)] ∧ SqL K H d (xs.map V.int) ∧ pl + 260 * n ≤ xs.length ∧ xs.length ≤ 1000000 ∧
  ∀ (p : Addr) (F : Hp) (ws : List V) (H' : Hp), NewIn H F H' → F p = some (.lst ws) → WrIn F ws (prs xs pl n) → Q (.ref p) H'
theorem ok_read_pairs (T : Txt K mg) : FnOk P w K mg base CX0 2 T.f_read_pairs T.fd_read_pairs ["data", "place", "end"] (spRP K) := by
  refine T.F_read_pairs.ok sc_read_pairs (fun vs H Q E h => ?_) (fun cdv A outer s H vs Q E hr h => ?_)
  · obtain ⟨_, _, _, _, rfl, _⟩ := h
    rfl
  obtain ⟨d, xs, pl, n, rfl, hd, hl, hx, q⟩ := h
  refine ⟨_, (pss_cons (ps_set (i := 3) sc_read_pairs.nd rfl (by first | exact Or.inl rfl | exact Or.inr rfl) (pe_lst pa_nil))
      (pss_cons (ps_for PassesOwn.never rfl (pi_range3 (by rfl) T.z_range (pa_cons (pv 1) (pa_cons (pv 2) (pa_cons (pe_glob (v := .int 260) (by rfl) T.g_PAIR_SIZE ⟨_, rfl⟩) pa_nil)))) (pg_name (i := 4) sc_read_pairs.nd rfl (by first | exact Or.inl rfl | exact Or.inr rfl))
        (pss_cons (ps_set (i := 5) sc_read_pairs.nd rfl (by first | exact Or.inl rfl | exact Or.inr rfl) (pe_call (ok_read_number T) (hr.mono (by decide)) (by rfl) T.g_read_number T.F_read_number.kp T.b_read_number .nil pass0 (pa_cons (pv 0) (pa_cons (pv 4) (pa_cons (pe_glob (v := .int 4) (by rfl) T.g_NUMBER_WIDTH ⟨_, rfl⟩) pa_nil)))))
        (pss_one (ps_expr (pe_bm PySem.F.plainAttrs_list PySem.F.slot_list_append PySem.F.type_list_append mt_append (pv 3) (pa_cons (pe_tup (pa_cons (pv 5) (pa_cons (pe_slice sl_list (pv 0) (po_some (pe_op op_add (pv 4) (pe_glob (v := .int 4) (by rfl) T.g_NUMBER_WIDTH ⟨_, rfl⟩))) (po_some (pe_op op_add (pv 4) (pe_glob (v := .int 260) (by rfl) T.g_PAIR_SIZE ⟨_, rfl⟩)))) pa_nil))) pa_nil))))))
      (pss_one (ps_ret (pv 3))))), ?_⟩
  (try dsimp only [cxOf])
  rw [show start ["data", "place", "end", "pairs", "at", "number"] [.ref d, .int (pl : Int), .int ((pl + 260 * n : Nat) : Int)] = [some (.ref d), some (.int (pl : Int)), some (.int ((pl + 260 * n : Nat) : Int)), none, none, none] from rfl]
  refine q_setg ?_
  refine ⟨Nat.zero_le _, fun l hl0 => ?_⟩
  walk_at "nrm"
  have N0 : NewIn H (fun _ => none) (upd H l (.lst [])) := .nil (same_upd hl0)
  refine ⟨_, rfl, _, rfl, (pl : Int), ((pl + 260 * n : Nat) : Int), 260, n, rfl, ?_, ?_⟩
  · have := rgC_up (i := (pl : Int)) (n := n) (c := 260) (by decide) (by decide) (by omega) (by omega) (by omega)
    rw [show ((pl + 260 * n : Nat) : Int) = (pl : Int) + ((260 : Nat) : Int) * (n : Int) from by omega]
    exact this
  refine for_rangeC (lo := (pl : Int)) (c := 260) (n := n) (fun i σ' H' => ∃ (F : Hp) (ws : List V) (c4 c5 : Option V), σ' = [some (.ref d), some (.int (pl : Int)), some (.int ((pl + 260 * n : Nat) : Int)), some (.ref l), c4, c5] ∧ NewIn H F H' ∧ F l = none ∧ H' l = some (.lst ws) ∧ WrIn F ws (prs xs pl i))
    ⟨_, [], none, none, rfl, N0, rfl, upd_same, ⟨rfl, fun i v w a _ => by cases a⟩⟩ ?_ ?_
  · rintro i σ' H1 hi ⟨F, ws, c4, c5, rfl, N, hF, el, W⟩
    rw [show (pl : Int) + (i : Int) * 260 = ((pl + 260 * i : Nat) : Int) from by omega]
    refine q_setg ?_
    refine ⟨_, rfl, _, rfl, d, xs, pl + 260 * i, 4, rfl, N.old.seq hd, by omega, hx, ?_⟩
    walk_at "nrm"
    refine ⟨_, rfl, .inl ⟨rfl, _, SqL.of el⟩, _, rfl, _, rfl, _, rfl, ((pl + 260 * i : Nat) : Int), 4, rfl, rfl, _, rfl, _, rfl, ((pl + 260 * i : Nat) : Int), 260, rfl, rfl, _, rfl, d, _, rfl, N.old.seq hd, fun c hc => ⟨by show 2 ≤ sizeLine; decide, fun t ht => ?_⟩⟩
    have ecut : cutV (xs.map V.int) (some (((pl + 260 * i : Nat) : Int) + 4)) (some (((pl + 260 * i : Nat) : Int) + 260)) = ((xs.drop (pl + 260 * i + 4)).take 256).map V.int := by
      have := cut_mid V.int xs (a := pl + 260 * i + 4) (b := pl + 260 * i + 260) (by omega) (by omega)
      rw [show pl + 260 * i + 260 - (pl + 260 * i + 4) = 256 from by omega] at this
      exact this
    rw [ecut] at ht ⊢
    have N1 := N.ext (o := .lst (((xs.drop (pl + 260 * i + 4)).take 256).map V.int)) hc
    have N2 := N1.ext (o := .tup [.int (nv ((xs.drop (pl + 260 * i)).take 4)), .ref c]) ht
    have lc : l ≠ c := ne_of_none el hc
    have el1 : upd H1 c (.lst (((xs.drop (pl + 260 * i + 4)).take 256).map V.int)) l = some (.lst ws) := by rw [upd_ne lc]; exact el
    have lt : l ≠ t := ne_of_none el1 ht
    have ct : c ≠ t := ne_of_none (upd_same : upd H1 c (.lst (((xs.drop (pl + 260 * i + 4)).take 256).map V.int)) c = _) ht
    have hwl : ws.length = i := by
      have := W.len
      unfold prs at this
      rw [List.length_map, List.length_range] at this
      exact this
    refine ⟨l, ws, _, rfl, rfl, by rw [upd_ne lt]; exact el1, Nat.lt_of_le_of_lt (show _ ≤ 1000000 by omega) (by decide), ?_⟩
    have cF : F c = none := N.sm.free hc
    have tF : upd F c (.lst (((xs.drop (pl + 260 * i + 4)).take 256).map V.int)) t = none := N1.sm.free ht
    refine ⟨_, ws ++ [.ref t], _, _, rfl, N2.put hl0 ?_, ?_, upd_same, ?_⟩
    · rw [upd_ne lt, upd_ne lc]; exact hF
    · rw [upd_ne lt, upd_ne lc]; exact hF
    · have e0 : prs xs pl (i + 1) = prs xs pl i ++ [(nv ((xs.drop (pl + 260 * i)).take 4), (xs.drop (pl + 260 * i + 4)).take 256)] := by
        unfold prs
        rw [List.range_succ, List.map_append]
        rfl
      rw [e0]
      refine wr_more (wrIn_ext ((same_upd cF).trans (same_upd tF)) W) ⟨t, c, rfl, upd_same, ?_, ?_⟩
      · rw [upd_ne ct]; exact upd_same
      · rw [List.length_take]; omega
  · rintro σ' H1 ⟨F, ws, c4, c5, rfl, N, hF, el, W⟩
    exact s_ret (val_var rfl) (q l _ ws H1 (N.frz hl0 el) upd_same (wrIn_ext (same_upd hF) W))
def spRG (K : Frag) : Sp := fun vs H Q _ => ∃ (d : Addr) (xs : List Int) (gs : List (List (Int × List Int))), vs = [.ref d] ∧ SqL K H d (xs.map V.int) ∧ (∀ x ∈ xs, 0 ≤ x) ∧ xs.length ≤ 1000000 ∧ Grps xs 0 gs ∧
  ∀ (p : Addr) (F : Hp) (us : List V) (H' : Hp), NewIn H F H' → F p = some (.lst us) → GsIn F us gs → Q (.ref p) H'
theorem optE_ne (e : Option Nat) : (!decide (optE e = V.non)) = e.isSome := by
  cases e with
  | none => rfl
  | some e => rfl
theorem ok_read_groups (T : Txt K mg) : FnOk P w K mg base CX0 3 T.f_read_groups T.fd_read_groups ["data"] (spRG K) := by
  refine T.F_read_groups.ok sc_read_groups (fun vs H Q E h => ?_) (fun cdv A outer s H vs Q E hr h => ?_)
  · obtain ⟨_, _, _, rfl, _⟩ := h
    rfl
  obtain ⟨d, xs, gs, rfl, hd, h0, hx, G, q⟩ := h
  refine ⟨_, (pss_cons (ps_set (i := 1) sc_read_groups.nd rfl (by first | exact Or.inl rfl | exact Or.inr rfl) (pe_lst pa_nil))
      (pss_cons (ps_set (i := 2) sc_read_groups.nd rfl (by first | exact Or.inl rfl | exact Or.inr rfl) pe_int)
      (pss_cons (ps_set (i := 3) sc_read_groups.nd rfl (by first | exact Or.inl rfl | exact Or.inr rfl) (pe_call (ok_group_end T) (hr.mono (by decide)) (by rfl) T.g_group_end T.F_group_end.kp T.b_group_end .nil pass0 (pa_cons (pv 0) (pa_cons (pv 2) pa_nil))))
      (pss_cons (ps_while PassesOwn.never (pt_cmpR op_notN (pv 3) pe_non (nomark _))
        (pss_cons (ps_expr (pe_bm PySem.F.plainAttrs_list PySem.F.slot_list_append PySem.F.type_list_append mt_append (pv 1) (pa_cons (pe_call (ok_read_pairs T) (hr.mono (by decide)) (by rfl) T.g_read_pairs T.F_read_pairs.kp T.b_read_pairs .nil pass0 (pa_cons (pv 0) (pa_cons (pe_op op_add (pv 2) (pe_glob (v := .int 4) (by rfl) T.g_NUMBER_WIDTH ⟨_, rfl⟩)) (pa_cons (pv 3) pa_nil)))) pa_nil)))
        (pss_cons (ps_set (i := 2) sc_read_groups.nd rfl (by first | exact Or.inl rfl | exact Or.inr rfl) (pv 3))
        (pss_one (ps_set (i := 3) sc_read_groups.nd rfl (by first | exact Or.inl rfl | exact Or.inr rfl) (pe_call (ok_group_end T) (hr.mono (by decide)) (by rfl) T.g_group_end T.F_group_end.kp T.b_group_end .nil pass0 (pa_cons (pv 0) (pa_cons (pv 2) pa_nil))))))))
      (pss_one (ps_ret (pv 1))))))), ?_⟩
  (try dsimp only [cxOf])
  rw [show start ["data", "groups", "place", "end"] [.ref d] = [some (.ref d), none, none, none] from rfl]
  refine q_setg ?_
  refine ⟨Nat.zero_le _, fun l hl0 => ?_⟩
  walk_at "nrm"
  have N0 : NewIn H (fun _ => none) (upd H l (.lst [])) := .nil (same_upd hl0)
  refine q_set (v := .int 0) (by walk_at "val") ?_
  walk_at "nrm"
  refine q_setg ?_
  refine ⟨_, rfl, _, rfl, d, xs, 0, rfl, N0.old.seq hd, h0, hx, by decide, ?_⟩
  walk_at "nrm"
  refine while_by (fun σ' H' => ∃ (pl : Nat) (F : Hp) (us : List V) (g1 g2 : List (List (Int × List Int))), σ' = [some (.ref d), some (.ref l), some (.int (pl : Int)), some (optE (gEnd xs pl))] ∧ pl ≤ 1000000 ∧ NewIn H F H' ∧ F l = none ∧ H' l = some (.lst us) ∧ GsIn F us g1 ∧ g1 ++ g2 = gs ∧ Grps xs pl g2 ∧ us.length ≤ pl)
    (fun σ' _ => match σ'[2]? with | some (some (V.int pl)) => 1000001 - pl.toNat | _ => 0) ⟨0, _, [], [], gs, rfl, by decide, N0, rfl, upd_same, ⟨rfl, fun i v w a _ => by cases a⟩, rfl, G, Nat.le_refl _⟩ ?_ ?_
  · rintro σ' H1 ⟨pl, F, us, g1, g2, rfl, hp, N, hF, el, GI, eg, G2, hu⟩
    refine ⟨_, rfl, rfl, _, rfl, ?_⟩
    rw [optE_ne]
    cases G2 with
    | nil he =>
      rw [he, if_neg (show ¬ (none : Option Nat).isSome = true from Bool.false_ne_true)]
      rw [List.append_nil] at eg
      subst eg
      exact s_ret (val_var rfl) (q l _ us H1 (N.frz hl0 el) upd_same (gsIn_ext (same_upd hF) GI))
    | @cons _ e gs' he G3 =>
      obtain ⟨e1, e2, e3⟩ := gEnd_le he
      rw [he, if_pos (show (some e).isSome = true from rfl)]
      refine ⟨_, rfl, .inl ⟨rfl, _, SqL.of el⟩, _, rfl, _, rfl, (pl : Int), 4, rfl, rfl, _, rfl, d, xs, pl + 4, cnt xs pl, ?_, N.old.seq hd, by omega, hx, fun p F2 ws H2 N2 ep W => ?_⟩
      · rw [e1]
        rfl
      have hpF : H1 p = none := N2.new _ _ ep
      have el2 : H2 l = some (.lst us) := N2.old _ _ el
      have lF2 : F2 l = none := by
        cases h : F2 l with
        | none => rfl
        | some o =>
          have := N2.new _ _ h
          rw [el] at this
          cases this
      -- both ghosts in one
      have hdis : ∀ b o, F2 b = some o → F b = none := fun b o h => N.sm.free (N2.new b o h)
      refine ⟨l, us, _, rfl, rfl, el2, Nat.lt_of_le_of_lt (show _ ≤ 1000000 by omega) (by decide), ?_⟩
      refine q_set (v := .int (e : Int)) (val_var rfl) ?_
      walk_at "nrm"
      refine s_setg ?_
      have sJ1 : Same F (joinF F F2) := joinF_left
      have sJ2 : Same F2 (joinF F F2) := joinF_right hdis
      have NJ : NewIn H (joinF F F2) (upd H2 l (.lst (us ++ [.ref p]))) := by
        refine NewIn.put ?_ hl0 ?_
        · exact NewIn.join N N2
        · unfold joinF; rw [hF]; exact lF2
      refine ⟨_, rfl, _, rfl, d, xs, e, rfl, NJ.old.seq hd, h0, hx, by omega, ?_⟩
      refine ⟨⟨e, joinF F F2, us ++ [.ref p], g1 ++ [prs xs (pl + 4) (cnt xs pl)], gs', rfl, by omega, NJ, by unfold joinF; rw [hF]; exact lF2, upd_same, gs_more (gsIn_ext sJ1 GI) (sJ2 _ _ ep) (wrIn_ext sJ2 W), by rw [List.append_assoc]; exact eg, G3, by rw [List.length_append]; show us.length + 1 ≤ e; omega⟩, ?_⟩
      show 1000001 - ((e : Int)).toNat < 1000001 - ((pl : Int)).toNat
      omega
  · rintro σ' H1 Q Q' hq ⟨v, hv, h⟩
    exact ⟨v, hv, h.1, h.2.imp fun k hk => ⟨hk.1, hq _ _ hk.2⟩⟩

end
end K04


namespace K04
open PySem L2 Nv RZ
local macro_rules | `(tactic| walk_at "hp") => `(tactic| first
  | assumption
  | exact upd_same
  | exact (upd_ne (by assumption)).trans (by first | assumption | exact upd_same | exact (upd_ne (by assumption)).trans (by first | assumption | exact upd_same))
  | exact (upd_ne (Ne.symm (by assumption))).trans (by first | assumption | exact upd_same))
local macro_rules | `(tactic| walk_at "cond") => `(tactic| first
  | (change (0 : Int) < _; first | decide | omega)
  | exact Or.inr ⟨by decide, by decide⟩
  | exact Or.inl ⟨by decide, by decide⟩
  | exact Or.inr ⟨by omega, by omega⟩
  | exact Or.inl ⟨by omega, by omega⟩
  | exact ⟨by decide, by decide, by decide⟩
  | exact wide_div (by first | decide | omega) (show _ < 2 ^ 64 by first | decide | omega) (by decide) (by decide)
  | (change (0 : Int) ≤ _; first | decide | omega)
  | exact ⟨by decide, by decide⟩
  | exact ⟨by omega, by omega⟩)
local macro_rules | `(tactic| walk_at "val") => `(tactic| first
  | (with_reducible exact val_c)
  | ((with_reducible apply val_var); exact rfl)
  | ((with_reducible apply val_I0); walk_at "val"; walk_at "val")
  | ((with_reducible apply val_I); walk_at "val"; walk_at "val"; walk_at "cond")
  | ((with_reducible apply val_ixL); walk_at "val"; walk_at "val"; (first | exact SqL.of (by walk_at "hp") | assumption); exact rfl)
  | ((with_reducible apply val_len); walk_at "val"; first | exact Or.inl (SqL.of (by walk_at "hp")) | exact Or.inl (by assumption) | exact Or.inr (by assumption) | exact Or.inr (SqT.of (by walk_at "hp")))
  | ((with_reducible apply val_int1); walk_at "val")
  | ((with_reducible apply val_abs); walk_at "val")
  | ((with_reducible apply val_max2); walk_at "val"; walk_at "val")
  | ((with_reducible apply val_eq); walk_at "val"; walk_at "val"; exact rfl)
  | ((with_reducible apply val_ne); walk_at "val"; walk_at "val"; exact rfl)
  | ((with_reducible apply val_not); walk_at "val")
  | ((with_reducible apply val_U); walk_at "val"))
local macro_rules | `(tactic| walk_at "ans") => `(tactic| first
  | ((with_reducible apply ans_Eq); walk_at "val"; walk_at "val"; exact rfl)
  | ((with_reducible apply ans_Ne); walk_at "val"; walk_at "val"; exact rfl)
  | ((with_reducible apply ans_I0); walk_at "val"; walk_at "val"; exact rfl)
  | ((with_reducible refine ans_And ?_ (fun _ => ?_)); walk_at "ans"; walk_at "ans")
  | ((with_reducible refine ans_or2 ?_ (fun _ => ?_)); walk_at "ans"; walk_at "ans")
  | ((with_reducible refine ans_not ?_); walk_at "ans")
  | ((with_reducible apply ans_val); walk_at "val"))
local macro_rules | `(tactic| walk_at "nrm") => `(tactic| (try dsimp only [List.set_cons_zero, List.set_cons_succ]))
local macro_rules | `(tactic| walk_at "set") => `(tactic| first
  | ((with_reducible apply q_set); walk_at "val"; walk_at "nrm")
  | ((with_reducible apply s_set); walk_at "val"; walk_at "nrm"))
local macro_rules | `(tactic| walk_at "setL") => `(tactic| first
  | ((with_reducible apply q_setL); walk_at "val"; walk_at "val"; walk_at "val"; walk_at "hp"; exact rfl; walk_at "nrm")
  | ((with_reducible apply s_setL); walk_at "val"; walk_at "val"; walk_at "val"; walk_at "hp"; exact rfl; walk_at "nrm"))
local macro_rules | `(tactic| walk_at "ff") => `(tactic| (walk_at "nrm"; rw [if_neg (by decide)]; (try ((with_reducible refine st_next ?_); walk_at "nrm"))))
local macro_rules | `(tactic| walk_at "nok") => `(tactic| (refine ⟨_, rfl, rfl, _, rfl, ?_⟩; walk_at "nrm"; rw [if_neg (by decide)]))
local macro_rules | `(tactic| walk_at "yesk") => `(tactic| (refine ⟨_, rfl, rfl, _, rfl, ?_⟩; walk_at "nrm"; rw [if_pos (by decide)]))

section
variable {P : Program} {w : World} {K : PySem.W.Frag} {mg : Str → Option Value} {base : Heap}
theorem rep_flat (n : Nat) (a : Int) : (List.replicate n [V.int a]).flatten = (List.replicate n a).map V.int := by
  induction n with
  | zero => rfl
  | succ n ih => rw [List.replicate_succ, List.flatten_cons, ih, List.replicate_succ]; rfl
def Bytes (xs : List Int) : Prop := ∀ x ∈ xs, 0 ≤ x ∧ x < 256
theorem bytes_rep {n : Nat} {a : Int} (h0 : 0 ≤ a) (h1 : a < 256) : Bytes (List.replicate n a) := fun x hx => by
  rw [List.eq_of_mem_replicate hx]; exact ⟨h0, h1⟩
theorem bytes_app {xs ys : List Int} (h : Bytes xs) (k : Bytes ys) : Bytes (xs ++ ys) := fun x hx => (List.mem_append.mp hx).elim (h x) (k x)
def spLC (K : Frag) : Sp := fun vs H Q _ => ∃ (st sc : Addr) (H0 : Hp) (ns : List Int), vs = [.ref st, .ref sc] ∧ Dr K H0 H st sc ns ∧
  ∀ (p : Addr) (xs : List Int) (H' : Hp), xs.length = 256 → Bytes xs → p ≠ st → H p = none → H' p = some (.lst (xs.map V.int)) → Kp st H H' → Dr K H0 H' st sc ns → Q (.ref p) H'
theorem dr_ne {K : Frag} {H0 H1 : Hp} {st sc b : Addr} {ns : List Int} (D1 : Dr K H0 H1 st sc ns) (h : H1 b = none) : b ≠ st := fun e => by
  obtain ⟨i, d, _, _, e'⟩ := D1.ex
  rw [e, e'] at h
  cases h
theorem kp_free {st : Addr} {H H' : Hp} {b : Addr} (k : Kp st H H') (n : b ≠ st) (h : H' b = none) : H b = none := by
  cases e : H b with
  | none => rfl
  | some o =>
    have := k b o n e
    rw [h] at this
    cases this
theorem ok_law_content (T : Txt K mg) : FnOk P w K mg base CX0 2 T.f_law_content T.fd_law_content ["state", "script"] (spLC K) := by
  refine T.F_law_content.ok sc_law_content (fun vs H Q E h => ?_) (fun cdv A outer s H vs Q E hr h => ?_)
  · obtain ⟨_, _, _, _, rfl, _⟩ := h
    rfl
  obtain ⟨st, sc, H0, ns, rfl, D, q⟩ := h
  refine ⟨_, (pss_one (ps_ret (pe_op op_cat (pe_op op_cat (pe_op op_rep (pe_lst (pa_cons (pe_call (ok_law_draw T) (hr.mono (by decide)) (by rfl) T.g_law_draw T.F_law_draw.kp T.b_law_draw .nil pass0 (pa_cons (pv 0) (pa_cons (pv 1) (pa_cons pe_int pa_nil)))) pa_nil)) pe_int) (pe_op op_rep (pe_lst (pa_cons (pe_call (ok_law_draw T) (hr.mono (by decide)) (by rfl) T.g_law_draw T.F_law_draw.kp T.b_law_draw .nil pass0 (pa_cons (pv 0) (pa_cons (pv 1) (pa_cons pe_int pa_nil)))) pa_nil)) pe_int)) (pe_op op_rep (pe_lst (pa_cons (pe_call (ok_law_draw T) (hr.mono (by decide)) (by rfl) T.g_law_draw T.F_law_draw.kp T.b_law_draw .nil pass0 (pa_cons (pv 0) (pa_cons (pv 1) (pa_cons pe_int pa_nil)))) pa_nil)) pe_int)))), ?_⟩
  (try dsimp only [cxOf])
  rw [show start ["state", "script"] [.ref st, .ref sc] = [some (.ref st), some (.ref sc)] from rfl]
  refine ⟨_, rfl, _, rfl, st, sc, 256, H0, ns, rfl, by decide, by decide, D, fun a H1 a0 a1 hB1 D1 => ?_⟩
  refine ⟨by show 1 ≤ sizeLine; decide, fun l1 hl1 => ?_⟩
  refine ⟨l1, 100, [.int a], rfl, rfl, upd_same, by decide, by decide, by show 100 ≤ sizeLine; decide, fun p1 hp1 => ?_⟩
  rw [rep_flat]
  have s1 : Same H1 (upd (upd H1 l1 (.lst [.int a])) p1 (.lst ((List.replicate (100 : Int).toNat a).map V.int))) := (same_upd hl1).trans (same_upd hp1)
  have e1 : (upd (upd H1 l1 (.lst [.int a])) p1 (.lst ((List.replicate (100 : Int).toNat a).map V.int))) p1 = some (.lst ((List.replicate 100 a).map V.int)) := upd_same
  have n1 : p1 ≠ st := dr_ne (D1.kp (same_upd hl1)) hp1
  generalize upd (upd H1 l1 (.lst [.int a])) p1 (.lst ((List.replicate (100 : Int).toNat a).map V.int)) = G1 at s1 e1
  have D1' := D1.kp s1
  refine ⟨_, rfl, _, rfl, st, sc, 256, H0, ns, rfl, by decide, by decide, D1', fun b H2 b0 b1 hB2 D2 => ?_⟩
  refine ⟨by show 1 ≤ sizeLine; decide, fun l2 hl2 => ?_⟩
  refine ⟨l2, 100, [.int b], rfl, rfl, upd_same, by decide, by decide, by show 100 ≤ sizeLine; decide, fun p2 hp2 => ?_⟩
  rw [rep_flat]
  have s2 : Same H2 (upd (upd H2 l2 (.lst [.int b])) p2 (.lst ((List.replicate (100 : Int).toNat b).map V.int))) := (same_upd hl2).trans (same_upd hp2)
  have e2 : (upd (upd H2 l2 (.lst [.int b])) p2 (.lst ((List.replicate (100 : Int).toNat b).map V.int))) p2 = some (.lst ((List.replicate 100 b).map V.int)) := upd_same
  have n2 : p2 ≠ st := dr_ne (D2.kp (same_upd hl2)) hp2
  generalize upd (upd H2 l2 (.lst [.int b])) p2 (.lst ((List.replicate (100 : Int).toNat b).map V.int)) = G2 at s2 e2
  have D2' := D2.kp s2
  have e1' : G2 p1 = some (.lst ((List.replicate 100 a).map V.int)) := s2 _ _ (by rw [hB2 _ n1]; exact e1)
  refine ⟨p1, p2, _, _, rfl, rfl, e1', e2, by rw [List.length_map, List.length_map, List.length_replicate, List.length_replicate]; show 200 ≤ sizeLine; decide, fun p3 hp3 => ?_⟩
  rw [← List.map_append]
  have s3 := same_upd (o := .lst ((List.replicate 100 a ++ List.replicate 100 b).map V.int)) hp3
  have e3 : upd G2 p3 (.lst ((List.replicate 100 a ++ List.replicate 100 b).map V.int)) p3 = _ := upd_same
  have n3 : p3 ≠ st := dr_ne D2' hp3
  generalize upd G2 p3 (.lst ((List.replicate 100 a ++ List.replicate 100 b).map V.int)) = G3 at s3 e3
  have D3' := D2'.kp s3
  refine ⟨_, rfl, _, rfl, st, sc, 256, H0, ns, rfl, by decide, by decide, D3', fun c H4 c0 c1 hB4 D4 => ?_⟩
  refine ⟨by show 1 ≤ sizeLine; decide, fun l4 hl4 => ?_⟩
  refine ⟨l4, 56, [.int c], rfl, rfl, upd_same, by decide, by decide, by show 56 ≤ sizeLine; decide, fun p4 hp4 => ?_⟩
  rw [rep_flat]
  have s4 : Same H4 (upd (upd H4 l4 (.lst [.int c])) p4 (.lst ((List.replicate (56 : Int).toNat c).map V.int))) := (same_upd hl4).trans (same_upd hp4)
  have e4 : (upd (upd H4 l4 (.lst [.int c])) p4 (.lst ((List.replicate (56 : Int).toNat c).map V.int))) p4 = some (.lst ((List.replicate 56 c).map V.int)) := upd_same
  generalize upd (upd H4 l4 (.lst [.int c])) p4 (.lst ((List.replicate (56 : Int).toNat c).map V.int)) = G4 at s4 e4
  have D4' := D4.kp s4
  have e3' : G4 p3 = some (.lst ((List.replicate 100 a ++ List.replicate 100 b).map V.int)) := s4 _ _ (by rw [hB4 _ n3]; exact e3)
  refine ⟨p3, p4, _, _, rfl, rfl, e3', e4, by rw [List.length_map, List.length_map, List.length_append, List.length_replicate, List.length_replicate, List.length_replicate]; show 256 ≤ sizeLine; decide, fun p5 hp5 => ?_⟩
  rw [← List.map_append]
  have n5 : p5 ≠ st := dr_ne D4' hp5
  have kk : Kp st H G4 := (((((((Kp.but hB1).trans (Kp.of s1)).trans (Kp.but hB2)).trans (Kp.of s2)).trans (Kp.of s3)).trans (Kp.but hB4)).trans (Kp.of s4))
  refine q p5 (List.replicate 100 a ++ List.replicate 100 b ++ List.replicate 56 c) _ (by rw [List.length_append, List.length_append, List.length_replicate, List.length_replicate, List.length_replicate]) (bytes_app (bytes_app (bytes_rep a0 a1) (bytes_rep b0 b1)) (bytes_rep c0 c1)) n5 (kp_free kk n5 hp5) upd_same (kk.trans (Kp.of (same_upd hp5))) (D4'.kp (same_upd hp5))

theorem dr_upd {K : Frag} {H0 H2 : Hp} {st sc l : Addr} {ns : List Int} {o : HO} (D2 : Dr K H0 H2 st sc ns) (hl : H0 l = none) (hs : l ≠ st) : Dr K H0 (upd H2 l o) st sc ns := by
  obtain ⟨i, d, hi, hd, es⟩ := D2.ex
  exact ⟨D2.sq, fun b o hb => by rw [upd_ne (ne_of_none hb hl)]; exact D2.same b o hb, D2.new, i, d, hi, hd, by rw [upd_ne hs.symm]; exact es⟩
theorem dr_old {K : Frag} {H0 H : Hp} {st sc l : Addr} {ns : List Int} (D : Dr K H0 H st sc ns) (h : H l = none) : H0 l = none := D.same.free h
/-- a drawn group -/
def GrpOk (g : List (Int × List Int)) : Prop := (∀ w ∈ g, PairOk w) ∧ g.length ≤ 3 ∧ ∀ w ∈ g, Bytes w.2
def spLG (K : Frag) : Sp := fun vs H Q _ => ∃ (st sc : Addr) (H0 : Hp) (ns : List Int), vs = [.ref st, .ref sc] ∧ Dr K H0 H st sc ns ∧
  ∀ (p : Addr) (F : Hp) (us : List V) (g : List (Int × List Int)) (H' : Hp), NewK st H F H' → F p = some (.lst us) → WrIn F us g → GrpOk g → Dr K H0 H' st sc ns → Q (.ref p) H'
theorem ok_law_group (T : Txt K mg) : FnOk P w K mg base CX0 3 T.f_law_group T.fd_law_group ["state", "script"] (spLG K) := by
  refine T.F_law_group.ok sc_law_group (fun vs H Q E h => ?_) (fun cdv A outer s H vs Q E hr h => ?_)
  · obtain ⟨_, _, _, _, rfl, _⟩ := h
    rfl
  obtain ⟨st, sc, H0, ns, rfl, D, q⟩ := h
  refine ⟨_, (pss_cons (ps_set (i := 2) sc_law_group.nd rfl (by first | exact Or.inl rfl | exact Or.inr rfl) (pe_lst pa_nil))
      (pss_cons (ps_for PassesOwn.never rfl (pi_range1 (by rfl) T.z_range (pa_cons (pe_call (ok_law_draw T) (hr.mono (by decide)) (by rfl) T.g_law_draw T.F_law_draw.kp T.b_law_draw .nil pass0 (pa_cons (pv 0) (pa_cons (pv 1) (pa_cons pe_int pa_nil)))) pa_nil)) (pg_name (i := 3) sc_law_group.nd rfl (by first | exact Or.inl rfl | exact Or.inr rfl))
        (pss_cons (ps_set (i := 4) sc_law_group.nd rfl (by first | exact Or.inl rfl | exact Or.inr rfl) (pe_ix ix_list (pe_lst (pa_cons pe_int (pa_cons pe_int (pa_cons pe_int (pa_cons (pe_call (ok_law_draw T) (hr.mono (by decide)) (by rfl) T.g_law_draw T.F_law_draw.kp T.b_law_draw .nil pass0 (pa_cons (pv 0) (pa_cons (pv 1) (pa_cons pe_int pa_nil)))) pa_nil))))) (pe_call (ok_law_draw T) (hr.mono (by decide)) (by rfl) T.g_law_draw T.F_law_draw.kp T.b_law_draw .nil pass0 (pa_cons (pv 0) (pa_cons (pv 1) (pa_cons pe_int pa_nil)))) (fun _ _ => rfl)))
        (pss_one (ps_expr (pe_bm PySem.F.plainAttrs_list PySem.F.slot_list_append PySem.F.type_list_append mt_append (pv 2) (pa_cons (pe_tup (pa_cons (pv 4) (pa_cons (pe_call (ok_law_content T) (hr.mono (by decide)) (by rfl) T.g_law_content T.F_law_content.kp T.b_law_content .nil pass0 (pa_cons (pv 0) (pa_cons (pv 1) pa_nil))) pa_nil))) pa_nil))))))
      (pss_one (ps_ret (pv 2))))), ?_⟩
  (try dsimp only [cxOf])
  rw [show start ["state", "script", "pairs", "k", "number"] [.ref st, .ref sc] = [some (.ref st), some (.ref sc), none, none, none] from rfl]
  refine q_setg ?_
  refine ⟨Nat.zero_le _, fun l hl0 => ?_⟩
  walk_at "nrm"
  have lst : l ≠ st := dr_ne D hl0
  have lH0 : H0 l = none := dr_old D hl0
  have hst : ∃ o, H st = some o := by obtain ⟨i, d, _, _, e⟩ := D.ex; exact ⟨_, e⟩
  refine ⟨_, rfl, _, rfl, st, sc, 4, H0, ns, rfl, by decide, by decide, D.kp (same_upd hl0), fun r H1 r0 r4 hB1 D1 => ?_⟩
  refine ⟨r, rfl, by omega, by omega, ?_⟩
  refine for_range (lo := 0) (n := r.toNat) (fun i σ' H' => ∃ (F : Hp) (us : List V) (g : List (Int × List Int)) (c3 c4 : Option V), σ' = [some (.ref st), some (.ref sc), some (.ref l), c3, c4] ∧ NewK st H F H' ∧ F l = none ∧ H' l = some (.lst us) ∧ WrIn F us g ∧ g.length = i ∧ (∀ w ∈ g, PairOk w) ∧ (∀ w ∈ g, Bytes w.2) ∧ Dr K H0 H' st sc ns)
    ⟨_, [], [], none, none, rfl, .nil ((Kp.of (same_upd hl0)).trans (Kp.but hB1)) hst, rfl, by rw [hB1 _ lst]; exact upd_same, ⟨rfl, fun i v w a _ => by cases a⟩, rfl, (fun w h => by cases h), (fun w h => by cases h), D1⟩ ?_ ?_
  · rintro i σ' H2 hi ⟨F, us, g, c3, c4, rfl, N, hF, el, W, hg, hok, hby, D2⟩
    refine q_setg ?_
    refine ⟨_, rfl, _, rfl, st, sc, 70000, H0, ns, rfl, by decide, by decide, D2, fun z H3 z0 z1 hB3 D3 => ?_⟩
    refine ⟨by show 4 ≤ sizeLine; decide, fun l5 hl5 => ?_⟩
    have l5st := dr_ne D3 hl5
    refine ⟨_, rfl, _, rfl, st, sc, 4, H0, ns, rfl, by decide, by decide, D3.kp (same_upd hl5), fun j H5 j0 j3 hB5 D5 => ?_⟩
    have e5 : H5 l5 = some (.lst [.int 0, .int 1, .int 4294967295, .int z]) := by
      rw [hB5 _ l5st]
      exact upd_same
    obtain ⟨n, hn0, hn1, hat⟩ : ∃ n : Int, 0 ≤ n ∧ n < 4294967296 ∧ atI [V.int 0, V.int 1, V.int 4294967295, .int z] j = some (.int n) := by
      have c : j = 0 ∨ j = 1 ∨ j = 2 ∨ j = 3 := by omega
      rcases c with rfl | rfl | rfl | rfl
      · exact ⟨0, by decide, by decide, rfl⟩
      · exact ⟨1, by decide, by decide, rfl⟩
      · exact ⟨4294967295, by decide, by decide, rfl⟩
      · exact ⟨z, by omega, by omega, rfl⟩
    refine ⟨l5, _, j, _, rfl, rfl, SqL.of e5, hat, ?_⟩
    walk_at "nrm"
    have k5 : Kp st H2 H5 := ((Kp.but hB3).trans (Kp.of (same_upd hl5))).trans (Kp.but hB5)
    have el5 := k5 _ _ lst el
    refine ⟨_, rfl, .inl ⟨rfl, _, SqL.of el5⟩, _, rfl, _, rfl, _, rfl, st, sc, H0, ns, rfl, D5, fun c xs H6 hx hb cst nc ec k6 D6 => ⟨by show 2 ≤ sizeLine; decide, fun t ht => ?_⟩⟩
    have el6 := k6 _ _ lst el5
    have tst := dr_ne D6 ht
    have lt : l ≠ t := ne_of_none el6 ht
    have ct : c ≠ t := ne_of_none ec ht
    have N5 := (N.kp k5)
    have N6 := N5.kp k6
    have hc : H c = none := N5.free cst nc
    have cl : c ≠ l := fun e => by rw [e, el5] at nc; cases nc
    have N7 : NewK st H (upd F c (.lst (xs.map V.int))) H6 := N6.frz hc ec
    have N8 := N7.ext (o := .tup [.int n, .ref c]) tst ht
    have hul : us.length = i := by rw [W.len, hg]
    refine ⟨l, us, _, rfl, rfl, by rw [upd_ne lt]; exact el6, Nat.lt_of_le_of_lt (show _ ≤ 1000000 by omega) (by decide), ?_⟩
    have cF : F c = none := N5.sm.free nc
    have tF : upd F c (.lst (xs.map V.int)) t = none := N7.sm.free ht
    have hFl : upd (upd F c (.lst (xs.map V.int))) t (.tup [.int n, .ref c]) l = none := by rw [upd_ne lt, upd_ne cl.symm]; exact hF
    refine ⟨_, us ++ [.ref t], g ++ [(n, xs)], _, _, rfl, N8.put hl0 hFl, hFl, upd_same, ?_, by rw [List.length_append, hg]; rfl, fun w hw => ?_, fun w hw => ?_, dr_upd (D6.kp (same_upd ht)) lH0 lst⟩
    · exact wr_more (wrIn_ext ((same_upd cF).trans (same_upd tF)) W) ⟨t, c, rfl, upd_same, by rw [upd_ne ct]; exact upd_same, by rw [hx]; decide⟩
    · rcases List.mem_append.mp hw with h | h
      · exact hok w h
      · rw [List.mem_singleton.mp h]; exact ⟨hn0, hn1, hx⟩
    · rcases List.mem_append.mp hw with h | h
      · exact hby w h
      · rw [List.mem_singleton.mp h]; exact hb
  · rintro σ' H2 ⟨F, us, g, c3, c4, rfl, N, hF, el, W, hg, hok, hby, D2⟩
    exact s_ret (val_var rfl) (q l _ us g H2 (N.frz hl0 el) upd_same (wrIn_ext (same_upd hF) W) ⟨hok, by omega, hby⟩ D2)
theorem nb4 {n : Int} (h0 : 0 ≤ n) (h1 : n < 4294967296) : nb 4 n = [n / 2 ^ (24 : Int).toNat, Builtin.bitAnd (n / 2 ^ (16 : Int).toNat) 255, Builtin.bitAnd (n / 2 ^ (8 : Int).toNat) 255, Builtin.bitAnd n 255] := by
  rw [PyProof.Rows.bitAnd_m8, PyProof.Rows.bitAnd_m8, PyProof.Rows.bitAnd_m8]
  show [n / 256 / 256 / 256 % 256, n / 256 / 256 % 256, n / 256 % 256, n % 256] = _
  rw [show (2 : Int) ^ (24 : Int).toNat = 16777216 from by decide, show (2 : Int) ^ (16 : Int).toNat = 65536 from by decide, show (2 : Int) ^ (8 : Int).toNat = 256 from by decide]
  rw [show n / 256 / 256 / 256 % 256 = n / 16777216 from by omega, show n / 256 / 256 % 256 = n / 65536 % 256 from by omega]
def spLB (K : Frag) : Sp := fun vs H Q _ => ∃ (a : Addr) (us : List V) (F : Hp) (g : List (Int × List Int)), vs = [.ref a] ∧ SqL K H a us ∧ Same F H ∧ WrIn F us g ∧ (∀ w ∈ g, PairOk w) ∧ g.length ≤ 255 ∧
  ∀ (p : Addr) (H' : Hp), Same H H' → H p = none → H' p = some (.lst ((grpB g).map V.int)) → Q (.ref p) H'
theorem ok_law_bytes (T : Txt K mg) : FnOk P w K mg base CX0 1 T.f_law_bytes T.fd_law_bytes ["pairs"] (spLB K) := by
  refine T.F_law_bytes.ok sc_law_bytes (fun vs H Q E h => ?_) (fun cdv A outer s H vs Q E hr h => ?_)
  · obtain ⟨_, _, _, _, rfl, _⟩ := h
    rfl
  obtain ⟨a, us, F, g, rfl, ha, sF, hw, hok, hn, q⟩ := h
  refine ⟨_, (pss_cons (ps_set (i := 1) sc_law_bytes.nd rfl (by first | exact Or.inl rfl | exact Or.inr rfl) (pe_lst (pa_cons pe_int (pa_cons pe_int (pa_cons pe_int (pa_cons (pe_callB call_len_seq (by rfl) T.z_len (by decide +kernel) (pa_cons (pv 0) pa_nil)) pa_nil))))))
      (pss_cons (ps_for PassesOwn.never rfl (pi_list (pv 0)) (pg_tup (by rfl) (pgs_cons (pg_name (i := 2) sc_law_bytes.nd rfl (by first | exact Or.inl rfl | exact Or.inr rfl)) (pgs_cons (pg_name (i := 3) sc_law_bytes.nd rfl (by first | exact Or.inl rfl | exact Or.inr rfl)) pgs_nil)))
        (pss_one (ps_set (i := 1) sc_law_bytes.nd rfl (by first | exact Or.inl rfl | exact Or.inr rfl) (pe_op op_cat (pe_op op_cat (pv 1) (pe_lst (pa_cons (pe_op op_shr (pv 2) pe_int) (pa_cons (pe_op op_and (pe_op op_shr (pv 2) pe_int) pe_int) (pa_cons (pe_op op_and (pe_op op_shr (pv 2) pe_int) pe_int) (pa_cons (pe_op op_and (pv 2) pe_int) pa_nil)))))) (pv 3)))))
      (pss_one (ps_ret (pv 1))))), ?_⟩
  (try dsimp only [cxOf])
  rw [show start ["pairs", "data", "number", "page"] [.ref a] = [some (.ref a), none, none, none] from rfl]
  have hl := hw.len
  refine q_setg ?_
  refine ⟨_, rfl, a, us, rfl, .inl ha, by show 4 ≤ sizeLine; decide, fun p0 hp0 => ?_⟩
  walk_at "nrm"
  have e0 : [V.int 0, V.int 0, V.int 0, V.int (us.length : Int)] = (nb 4 (g.length : Int)).map V.int := by
    rw [hl]
    show _ = [V.int ((g.length : Int) / 256 / 256 / 256 % 256), V.int ((g.length : Int) / 256 / 256 % 256), V.int ((g.length : Int) / 256 % 256), V.int ((g.length : Int) % 256)]
    rw [show (g.length : Int) / 256 / 256 / 256 % 256 = 0 from by omega, show (g.length : Int) / 256 / 256 % 256 = 0 from by omega, show (g.length : Int) / 256 % 256 = 0 from by omega, show (g.length : Int) % 256 = g.length from by omega]
  rw [e0]
  have s0 := same_upd (o := .lst ((nb 4 (g.length : Int)).map V.int)) hp0
  refine ⟨_, rfl, a, rfl, ⟨_, s0.seq ha⟩, for_list (K := K) (a := a) (xs := us) (fun i σ' H' => ∃ (p : Addr) (c2 c3 : Option V), σ' = [some (.ref a), some (.ref p), c2, c3] ∧ Same H H' ∧ H p = none ∧ H' p = some (.lst ((nb 4 g.length ++ (g.take i).flatMap pairB).map V.int)))
    ⟨p0, none, none, rfl, s0, hp0, by rw [upd_same]; simp⟩ (fun i σ' H' _ ⟨_, _, _, _, s2, _⟩ => s2.seq ha) ?_ ?_⟩
  · rintro i v σ' H2 hv ⟨p, c2, c3, rfl, s2, np, e2⟩
    have hi := (List.getElem?_eq_some_iff.mp hv).1
    have hwi : g[i]? = some (g[i]'(by omega)) := List.getElem?_eq_getElem (by omega)
    have hm : g[i]'(by omega) ∈ g := List.getElem_mem _
    generalize g[i]'(by omega) = ww at hwi hm
    obtain ⟨t, c, rfl, et, ec, _⟩ := hw.each i v ww hv hwi
    have hwo := hok ww hm
    have hsub : ∀ w ∈ g.take i, PairOk w := fun w hw => hok w (List.mem_of_mem_take hw)
    have hz : (nb 4 g.length ++ (g.take i).flatMap pairB).length = 4 + 260 * i := by
      rw [List.length_append, nb_len, pairsB_len hsub, List.length_take]
      omega
    refine ⟨t, _, rfl, SqT.of (s2 _ _ (sF _ _ et)), rfl, _, _, rfl, _, _, rfl, rfl, ?_⟩
    refine s_setg ?_
    refine ⟨_, rfl, _, rfl, ww.1, 24, rfl, rfl, by show (0 : Int) ≤ 24; decide, _, rfl, ww.1, 16, rfl, rfl, by show (0 : Int) ≤ 16; decide, _, 255, rfl, rfl, _, rfl, ww.1, 8, rfl, rfl, by show (0 : Int) ≤ 8; decide, _, 255, rfl, rfl, _, rfl, ww.1, 255, rfl, rfl, by show 4 ≤ sizeLine; decide, fun l1 hl1 => ?_⟩
    have e4 : [V.int (ww.1 / 2 ^ (24 : Int).toNat), V.int (Builtin.bitAnd (ww.1 / 2 ^ (16 : Int).toNat) 255), V.int (Builtin.bitAnd (ww.1 / 2 ^ (8 : Int).toNat) 255), V.int (Builtin.bitAnd ww.1 255)] = (nb 4 ww.1).map V.int := by
      rw [nb4 hwo.1 hwo.2.1]
      rfl
    rw [e4]
    have s3 := same_upd (o := .lst ((nb 4 ww.1).map V.int)) hl1
    refine ⟨p, l1, _, _, rfl, rfl, s3 _ _ e2, upd_same, ?_, fun l2 hl2 => ?_⟩
    · rw [List.length_map, List.length_map, hz, nb_len]
      exact Nat.le_of_lt (Nat.lt_of_le_of_lt (show _ ≤ 1000000 by omega) (by decide))
    have s4 := same_upd (o := .lst ((nb 4 g.length ++ (g.take i).flatMap pairB).map V.int ++ (nb 4 ww.1).map V.int)) hl2
    refine ⟨_, rfl, l2, c, _, _, rfl, rfl, upd_same, s4 _ _ (s3 _ _ (s2 _ _ (sF _ _ ec))), ?_, fun l3 hl3 => ?_⟩
    · rw [List.length_append, List.length_map, List.length_map, List.length_map, hz, nb_len, hwo.2.2]
      exact Nat.le_of_lt (Nat.lt_of_le_of_lt (show _ ≤ 1000000 by omega) (by decide))
    have s5 := ((s2.trans s3).trans s4)
    refine ⟨l3, _, _, rfl, s5.trans (same_upd hl3), s5.free hl3, ?_⟩
    rw [upd_same, take_more hwi, List.flatMap_append]
    simp only [List.flatMap_cons, List.flatMap_nil, List.append_nil, pairB, List.map_append, List.append_assoc]
  · rintro σ' H2 ⟨p, c2, c3, rfl, s2, np, e2⟩
    rw [hl, List.take_length] at e2
    exact s_ret (val_var rfl) (q p H2 s2 np e2)
end
end K04


namespace K04
open PySem L2 Nv RZ
local macro_rules | `(tactic| walk_at "hp") => `(tactic| first
  | assumption
  | exact upd_same
  | exact (upd_ne (by assumption)).trans (by first | assumption | exact upd_same | exact (upd_ne (by assumption)).trans (by first | assumption | exact upd_same))
  | exact (upd_ne (Ne.symm (by assumption))).trans (by first | assumption | exact upd_same))
local macro_rules | `(tactic| walk_at "cond") => `(tactic| first
  | (change (0 : Int) < _; first | decide | omega)
  | exact Or.inr ⟨by decide, by decide⟩
  | exact Or.inl ⟨by decide, by decide⟩
  | exact Or.inr ⟨by omega, by omega⟩
  | exact Or.inl ⟨by omega, by omega⟩
  | exact ⟨by decide, by decide, by decide⟩
  | exact wide_div (by first | decide | omega) (show _ < 2 ^ 64 by first | decide | omega) (by decide) (by decide)
  | (change (0 : Int) ≤ _; first | decide | omega)
  | exact ⟨by decide, by decide⟩
  | exact ⟨by omega, by omega⟩)
local macro_rules | `(tactic| walk_at "val") => `(tactic| first
  | (with_reducible exact val_c)
  | ((with_reducible apply val_var); exact rfl)
  | ((with_reducible apply val_I0); walk_at "val"; walk_at "val")
  | ((with_reducible apply val_I); walk_at "val"; walk_at "val"; walk_at "cond")
  | ((with_reducible apply val_ixL); walk_at "val"; walk_at "val"; (first | exact SqL.of (by walk_at "hp") | assumption); exact rfl)
  | ((with_reducible apply val_len); walk_at "val"; first | exact Or.inl (SqL.of (by walk_at "hp")) | exact Or.inl (by assumption) | exact Or.inr (by assumption) | exact Or.inr (SqT.of (by walk_at "hp")))
  | ((with_reducible apply val_int1); walk_at "val")
  | ((with_reducible apply val_abs); walk_at "val")
  | ((with_reducible apply val_max2); walk_at "val"; walk_at "val")
  | ((with_reducible apply val_eq); walk_at "val"; walk_at "val"; exact rfl)
  | ((with_reducible apply val_ne); walk_at "val"; walk_at "val"; exact rfl)
  | ((with_reducible apply val_not); walk_at "val")
  | ((with_reducible apply val_U); walk_at "val"))
local macro_rules | `(tactic| walk_at "ans") => `(tactic| first
  | ((with_reducible apply ans_Eq); walk_at "val"; walk_at "val"; exact rfl)
  | ((with_reducible apply ans_Ne); walk_at "val"; walk_at "val"; exact rfl)
  | ((with_reducible apply ans_I0); walk_at "val"; walk_at "val"; exact rfl)
  | ((with_reducible refine ans_And ?_ (fun _ => ?_)); walk_at "ans"; walk_at "ans")
  | ((with_reducible refine ans_or2 ?_ (fun _ => ?_)); walk_at "ans"; walk_at "ans")
  | ((with_reducible refine ans_not ?_); walk_at "ans")
  | ((with_reducible apply ans_val); walk_at "val"))
local macro_rules | `(tactic| walk_at "nrm") => `(tactic| (try dsimp only [List.set_cons_zero, List.set_cons_succ]))
local macro_rules | `(tactic| walk_at "set") => `(tactic| first
  | ((with_reducible apply q_set); walk_at "val"; walk_at "nrm")
  | ((with_reducible apply s_set); walk_at "val"; walk_at "nrm"))
local macro_rules | `(tactic| walk_at "setL") => `(tactic| first
  | ((with_reducible apply q_setL); walk_at "val"; walk_at "val"; walk_at "val"; walk_at "hp"; exact rfl; walk_at "nrm")
  | ((with_reducible apply s_setL); walk_at "val"; walk_at "val"; walk_at "val"; walk_at "hp"; exact rfl; walk_at "nrm"))
local macro_rules | `(tactic| walk_at "ff") => `(tactic| (walk_at "nrm"; rw [if_neg (by decide)]; (try ((with_reducible refine st_next ?_); walk_at "nrm"))))
local macro_rules | `(tactic| walk_at "nok") => `(tactic| (refine ⟨_, rfl, rfl, _, rfl, ?_⟩; walk_at "nrm"; rw [if_neg (by decide)]))
local macro_rules | `(tactic| walk_at "yesk") => `(tactic| (refine ⟨_, rfl, rfl, _, rfl, ?_⟩; walk_at "nrm"; rw [if_pos (by decide)]))
local macro_rules | `(tactic| walk_at "no") => `(tactic| (walk_at "nrm"; rw [if_neg (by decide)]; walk_at "nrm"))
local macro_rules | `(tactic| walk_at "yes") => `(tactic| (walk_at "nrm"; rw [if_pos (by decide)]; walk_at "nrm"))
local macro_rules | `(tactic| walk_at "nos") => `(tactic| (walk_at "nrm"; repeat (rw [if_neg (by decide)]; walk_at "nrm"); (try ((with_reducible refine st_next ?_); walk_at "nrm"))))

section
variable {P : Program} {w : World} {K : PySem.W.Frag} {mg : Str → Option Value} {base : Heap}
def sp_law (K : PySem.W.Frag) : Sp := fun vs H Q _ => ∃ (a : Addr) (ns : List Int), vs = [.ref a] ∧ SqL K H a (ns.map V.int) ∧ ns.length ≤ 63 ∧ ∀ H', Q (.bl true) H'
def GsOk (gs : List (List (Int × List Int))) : Prop := ∀ g ∈ gs, GrpOk g
theorem gsOk_le {gs : List (List (Int × List Int))} (h : GsOk gs) : (logB gs).length ≤ 800 * gs.length := by
  induction gs with
  | nil => exact Nat.zero_le _
  | cons g gs ih =>
    have := ih fun x hx => h x (List.mem_cons_of_mem _ hx)
    have hg := h g (List.mem_cons_self ..)
    have := grpB_len hg.1
    have := hg.2.1
    unfold logB at *
    rw [List.flatMap_cons, List.length_append, List.length_cons]
    omega
theorem grpB_pos {g : List (Int × List Int)} (h : GrpOk g) : ∀ x ∈ grpB g, 0 ≤ x := by
  intro x hx
  unfold grpB at hx
  rcases List.mem_append.mp hx with k | k
  · exact (nb_byte _ _ x k).1
  · obtain ⟨w, hw, k⟩ := List.mem_flatMap.mp k
    unfold pairB at k
    rcases List.mem_append.mp k with k | k
    · exact (nb_byte _ _ x k).1
    · exact (h.2.2 w hw x k).1
/-- the contents of found are changed, one by one -/
def isC (o : HO) : Prop := ∃ xs : List Int, xs.length = 256 ∧ o = .lst (xs.map V.int)
structure Chg (F H' : Hp) (n : Nat) : Prop where
  rest : ∀ b o, F b = some o → ¬ isC o → H' b = some o
  cont : ∀ b o, F b = some o → isC o → ∃ xs, H' b = some (.lst xs) ∧ xs.length ≤ 256 + n
theorem Chg.more {F H' : Hp} {n : Nat} {b : Addr} {xs : List Int} {ys : List V} (c : Chg F H' n) (e : F b = some (.lst (xs.map V.int))) (hx : xs.length = 256) (e' : H' b = some (.lst ys)) (hy : ys.length ≤ 256 + n) (v : V) : Chg F (upd H' b (.lst (ys ++ [v]))) (n + 1) := by
  refine ⟨fun b' o h k => ?_, fun b' o h k => ?_⟩
  · have : b' ≠ b := fun z => by
      rw [z, e] at h
      cases h
      exact k ⟨xs, hx, rfl⟩
    rw [upd_ne this]
    exact c.rest b' o h k
  · by_cases hb : b' = b
    · subst hb
      exact ⟨_, upd_same, by rw [List.length_append]; show ys.length + 1 ≤ _; omega⟩
    · rw [upd_ne hb]
      obtain ⟨zs, h1, h2⟩ := c.cont b' o h k
      exact ⟨zs, h1, by omega⟩
theorem not_isC_tup {xs : List V} : ¬ isC (.tup xs) := fun ⟨_, _, h⟩ => by cases h
theorem not_isC_refs {F : Hp} {vs : List V} {ws : List (Int × List Int)} (W : WrIn F vs ws) : ¬ isC (.lst vs) := fun ⟨xs, hx, h⟩ => by
  cases h
  cases xs with
  | nil => simp at hx
  | cons x xs =>
    have hl := W.len
    cases ws with
    | nil => simp at hl
    | cons w ws =>
      obtain ⟨t, p, e, _⟩ := W.each 0 (.int x) w rfl rfl
      cases e
theorem not_isC_gs {F : Hp} {vs : List V} {gs : List (List (Int × List Int))} (W : GsIn F vs gs) : ¬ isC (.lst vs) := fun ⟨xs, hx, h⟩ => by
  cases h
  cases xs with
  | nil => simp at hx
  | cons x xs =>
    have hl := W.len
    cases gs with
    | nil => simp at hl
    | cons w ws =>
      obtain ⟨t, p, e, _⟩ := W.each 0 (.int x) w rfl rfl
      cases e
theorem ok_law (T : Txt K mg) : FnOk P w K mg base CX0 4 T.f_law T.fd_law ["script"] (sp_law K) := by
  refine T.F_law.ok sc_law (fun vs H Q E h => ?_) (fun cdv A outer s H vs Q E hr h => ?_)
  · obtain ⟨_, _, rfl, _⟩ := h
    rfl
  obtain ⟨sc, ns, rfl, hS, hlen, q⟩ := h
  refine ⟨_, (pss_cons (ps_set (i := 1) sc_law.nd rfl (by first | exact Or.inl rfl | exact Or.inr rfl) (pe_lst (pa_cons pe_int (pa_cons pe_int pa_nil))))
      (pss_cons (ps_setLc (i := 2) (own := [("k", 10)]) (g := gName 10) (by rfl) sc_law.nd rfl rfl (sw_true rfl rfl rfl (by decide +kernel)) (pi_range1 (by rfl) T.z_range (pa_cons (pe_call (ok_law_draw T) (hr.mono (by decide)) (by rfl) T.g_law_draw T.F_law_draw.kp T.b_law_draw .nil pass0 (pa_cons (pv 1) (pa_cons (pv 0) (pa_cons pe_int pa_nil)))) pa_nil)) (blkOk_by (own := [("k", 10)]) (N := ["script", "state", "groups", "data", "pairs", "handed", "found", "more", "kept", "pair", "k"]) (sc := defScope s_law) (by decide +kernel)) (fun _ _ _ _ _ => pg_name (i := 10) sc_law.nd rfl (by first | exact Or.inl rfl | exact Or.inr rfl)) (fun _ _ _ _ _ => pts_nil) (fun _ _ _ _ _ => pe_call (ok_law_group T) (hr.mono (by decide)) (by rfl) T.g_law_group T.F_law_group.kp T.b_law_group .nil pass0 (pa_cons (pv 1) (pa_cons (pv 0) pa_nil))))
      (pss_cons (ps_set (i := 3) sc_law.nd rfl (by first | exact Or.inl rfl | exact Or.inr rfl) (pe_lst pa_nil))
      (pss_cons (ps_for PassesOwn.never rfl (pi_list (pv 2)) (pg_name (i := 4) sc_law.nd rfl (by first | exact Or.inl rfl | exact Or.inr rfl))
        (pss_cons (ps_set (i := 5) sc_law.nd rfl (by first | exact Or.inl rfl | exact Or.inr rfl) (pe_callTy call_list_of (by rfl) T.z_list (by decide +kernel) (pa_cons (pv 4) pa_nil)))
        (pss_cons (ps_set (i := 6) sc_law.nd rfl (by first | exact Or.inl rfl | exact Or.inr rfl) (pe_call (ok_write_group T) (hr.mono (by decide)) (by rfl) T.g_write_group T.F_write_group.kp T.b_write_group .nil pass0 (pa_cons (pv 5) pa_nil)))
        (pss_cons (ps_if (PW.pt (pw_or (pt_cmpR (op_neD hr.units) (pv 6) (pe_call (ok_law_bytes T) (hr.mono (by decide)) (by rfl) T.g_law_bytes T.F_law_bytes.kp T.b_law_bytes .nil pass0 (pa_cons (pv 4) pa_nil)) (nomark _)) (pw_or1 (pt_cmpR (op_neD hr.units) (pv 5) (pv 4) (nomark _)))))
          (pss_one (ps_ret pe_bl))
          pss_nil)
        (pss_one (ps_set (i := 3) sc_law.nd rfl (by first | exact Or.inl rfl | exact Or.inr rfl) (pe_op op_cat (pv 3) (pv 6))))))))
      (pss_cons (ps_set (i := 7) sc_law.nd rfl (by first | exact Or.inl rfl | exact Or.inr rfl) (pe_call (ok_law_bytes T) (hr.mono (by decide)) (by rfl) T.g_law_bytes T.F_law_bytes.kp T.b_law_bytes .nil pass0 (pa_cons (pe_call (ok_law_group T) (hr.mono (by decide)) (by rfl) T.g_law_group T.F_law_group.kp T.b_law_group .nil pass0 (pa_cons (pv 1) (pa_cons (pv 0) pa_nil))) pa_nil)))
      (pss_cons (ps_set (i := 3) sc_law.nd rfl (by first | exact Or.inl rfl | exact Or.inr rfl) (pe_op op_cat (pv 3) (pe_slice sl_list (pv 7) po_none (po_some (pe_call (ok_law_draw T) (hr.mono (by decide)) (by rfl) T.g_law_draw T.F_law_draw.kp T.b_law_draw .nil pass0 (pa_cons (pv 1) (pa_cons (pv 0) (pa_cons (pe_callB call_len_seq (by rfl) T.z_len (by decide +kernel) (pa_cons (pv 7) pa_nil)) pa_nil))))))))
      (pss_cons (ps_set (i := 8) sc_law.nd rfl (by first | exact Or.inl rfl | exact Or.inr rfl) (pe_callTy call_list_of (by rfl) T.z_list (by decide +kernel) (pa_cons (pv 3) pa_nil)))
      (pss_cons (ps_set (i := 6) sc_law.nd rfl (by first | exact Or.inl rfl | exact Or.inr rfl) (pe_call (ok_read_groups T) (hr.mono (by decide)) (by rfl) T.g_read_groups T.F_read_groups.kp T.b_read_groups .nil pass0 (pa_cons (pv 3) pa_nil)))
      (pss_cons (ps_if (PW.pt (pw_or (pt_not (pt_val (pe_callB call_isi (by rfl) T.z_isinstance (by decide +kernel) (pa_cons (pv 6) (pa_cons (pe_bltn (by rfl) T.z_list (by decide +kernel) (show RelV (.ty "list") _ from rfl)) pa_nil))))) (pw_or (pt_cmpR (op_neD hr.units) (pv 6) (pv 2) (nomark _)) (pw_or1 (pt_cmpR (op_neD hr.units) (pv 3) (pv 8) (nomark _))))))
        (pss_one (ps_ret pe_bl))
        pss_nil)
      (pss_cons (ps_for PassesOwn.never rfl (pi_list (pv 6)) (pg_name (i := 4) sc_law.nd rfl (by first | exact Or.inl rfl | exact Or.inr rfl))
        (pss_one (ps_for PassesOwn.never rfl (pi_list (pv 4)) (pg_name (i := 9) sc_law.nd rfl (by first | exact Or.inl rfl | exact Or.inr rfl))
          (pss_cons (ps_if (PW.pt (pw_or (pt_not (pt_val (pe_callB call_isi (by rfl) T.z_isinstance (by decide +kernel) (pa_cons (pv 9) (pa_cons (pe_bltn (by rfl) T.z_tuple (by decide +kernel) (show RelV (.ty "tuple") _ from rfl)) pa_nil))))) (pw_or1 (pt_not (pt_val (pe_callB call_isi (by rfl) T.z_isinstance (by decide +kernel) (pa_cons (pe_ix ix_tup (pv 9) pe_int (fun _ _ => rfl)) (pa_cons (pe_bltn (by rfl) T.z_list (by decide +kernel) (show RelV (.ty "list") _ from rfl)) pa_nil))))))))
            (pss_one (ps_ret pe_bl))
            pss_nil)
          (pss_one (ps_expr (pe_bm PySem.F.plainAttrs_list PySem.F.slot_list_append PySem.F.type_list_append mt_append (pe_ix ix_tup (pv 9) pe_int (fun _ _ => rfl)) (pa_cons pe_int pa_nil))))))))
      (pss_one (ps_ret (pe_cmpR (op_eqD hr.units) (pe_call (ok_read_groups T) (hr.mono (by decide)) (by rfl) T.g_read_groups T.F_read_groups.kp T.b_read_groups .nil pass0 (pa_cons (pv 3) pa_nil)) (pv 2) (nomark _)))))))))))))), ?_⟩
  (try dsimp only [cxOf])
  rw [show start ["script", "state", "groups", "data", "pairs", "handed", "found", "more", "kept", "pair", "k"] [.ref sc] = [some (.ref sc), none, none, none, none, none, none, none, none, none, none] from rfl]
  refine q_setg ?_
  refine ⟨by show 2 ≤ sizeLine; decide, fun st hst => ?_⟩
  walk_at "nrm"
  have D0 : Dr K H (upd H st (.lst [.int 0, .int 0])) st sc ns := ⟨hS, same_upd hst, hst, 0, 0, Int.le_refl _, Int.le_refl _, upd_same⟩
  have hst1 : ∃ o, upd H st (.lst [.int 0, .int 0]) st = some o := ⟨_, upd_same⟩
  generalize upd H st (.lst [.int 0, .int 0]) = H0 at D0 hst1
  -- groups
  refine q_setg ?_
  refine ⟨_, rfl, _, rfl, st, sc, 4, H, ns, rfl, by decide, by decide, D0, fun r H1 r0 r4 hB1 D1 => ?_⟩
  refine ⟨r, rfl, by omega, by omega, fun l hl => ?_⟩
  have lst : l ≠ st := dr_ne D1 hl
  have lH : H l = none := dr_old D1 hl
  have k1 : Kp st H0 (upd H1 l (.lst [])) := (Kp.but hB1).trans (Kp.of (same_upd hl))
  have lH0 : H0 l = none := kp_free (Kp.but hB1) lst hl
  refine lc_range (lo := 0) (n := r.toNat) (fun i H2 => ∃ (F : Hp) (us : List V) (gs : List (List (Int × List Int))), NewK st H0 F H2 ∧ F l = none ∧ H2 l = some (.lst us) ∧ GsIn F us gs ∧ gs.length = i ∧ GsOk gs ∧ Dr K H H2 st sc ns)
    ⟨_, [], [], .nil k1 hst1, rfl, upd_same, ⟨rfl, fun i v w a _ => by cases a⟩, rfl, (fun g h => by cases h), D1.kp (same_upd hl)⟩ ?_ ?_
  · rintro i H2 hi ⟨F, us, gs, N, hF, el, GI, hg, hok, D2⟩
    refine ⟨rfl, g_yes ?_⟩
    refine ⟨_, rfl, _, rfl, st, sc, H, ns, rfl, D2, fun p F2 ws g H3 N3 ep W hgo D3 => ?_⟩
    have el3 := N3.old _ _ lst el
    have hul : us.length = i := by rw [GI.len, hg]
    have lF2 : F2 l = none := by
      cases h : F2 l with
      | none => rfl
      | some o =>
        have := N3.new _ _ h
        rw [el] at this
        cases this
    have hdis : ∀ b o, F2 b = some o → F b = none := fun b o h => N.sm.free (N3.new b o h)
    have hJ : joinF F F2 l = none := by unfold joinF; rw [hF]; exact lF2
    refine ⟨us, el3, Nat.lt_of_le_of_lt (show _ ≤ 1000000 by omega) (by decide), joinF F F2, us ++ [.ref p], gs ++ [g], (N.join N3).put lH0 hJ, hJ, upd_same, gs_more (gsIn_ext joinF_left GI) (joinF_right hdis _ _ ep) (wrIn_ext (joinF_right hdis) W), by rw [List.length_append, hg]; rfl, fun x hx => ?_, dr_upd D3 lH lst⟩
    rcases List.mem_append.mp hx with h | h
    · exact hok x h
    · rw [List.mem_singleton.mp h]; exact hgo
  rintro H2 ⟨F, us, gs, N, hF, el, GI, hg, hok, D2⟩
  have hgl : gs.length ≤ 3 := by omega
  walk_at "nrm"
  -- data
  refine q_setg ?_
  refine ⟨Nat.zero_le _, fun d0 hd0 => ?_⟩
  walk_at "nrm"
  have N1 := (N.frz (o := .lst us) lH0 el)
  have GI1 := gsIn_ext (same_upd (o := .lst us) hF) GI
  have el1 : upd F l (.lst us) l = some (.lst us) := upd_same
  generalize upd F l (.lst us) = F1 at N1 GI1 el1
  have sF1 : Same F1 H2 := N1.sm
  have sd0 := same_upd (o := .lst []) hd0
  refine ⟨_, rfl, l, rfl, ⟨_, SqL.of (sd0 _ _ (sF1 _ _ el1))⟩, for_list (K := K) (a := l) (xs := us) (fun i σ' H' => ∃ (p : Addr) (c4 c5 c6 : Option V), σ' = [some (.ref sc), some (.ref st), some (.ref l), some (.ref p), c4, c5, c6, none, none, none, none] ∧ Same H2 H' ∧ H2 p = none ∧ H' p = some (.lst ((logB (gs.take i)).map V.int)))
    ⟨d0, none, none, none, rfl, sd0, hd0, upd_same⟩ (fun i σ' H' _ ⟨_, _, _, _, _, s2, _⟩ => SqL.of (s2 _ _ (sF1 _ _ el1))) ?_ ?_⟩
  · rintro i v σ' H3 hv ⟨p, c4, c5, c6, rfl, s3, np, ep⟩
    have hi := (List.getElem?_eq_some_iff.mp hv).1
    have hgl2 := GI1.len
    have hgi : gs[i]? = some (gs[i]'(by omega)) := List.getElem?_eq_getElem (by omega)
    have hm : gs[i]'(by omega) ∈ gs := List.getElem_mem _
    generalize gs[i]'(by omega) = g at hgi hm
    obtain ⟨a, ws, rfl, ea, W⟩ := GI1.each i v g hv hgi
    have hgo := hok g hm
    have sF3 : Same F1 H3 := sF1.trans s3
    have hg3 : g.length ≤ 3 := hgo.2.1
    refine q_setg ?_
    refine ⟨_, rfl, a, _, rfl, .inl (SqL.of (sF3 _ _ ea)), fun h nh => ?_⟩
    walk_at "nrm"
    have s4 := same_upd (o := .lst ws) nh
    refine q_setg ?_
    refine ⟨_, rfl, h, ws, F1, g, rfl, SqL.of upd_same, sF3.trans s4, W, hgo.1, by omega, fun f H5 s5 nf ef => ?_⟩
    walk_at "nrm"
    have sF5 : Same F1 H5 := (sF3.trans s4).trans s5
    refine ⟨_, rfl, _, rfl, a, ws, F1, g, rfl, SqL.of (sF5 _ _ ea), sF5, W, hgo.1, by omega, fun b H6 s6 nb6 eb => ?_⟩
    refine neL_ints (SqL.of (s6 _ _ ef)) (SqL.of eb) ⟨_, rfl, ?_⟩
    rw [decide_eq_true rfl]
    walk_at "nos"
    have sF6 := sF5.trans s6
    have eh6 : H6 h = some (.lst ws) := s6 _ _ (s5 _ _ upd_same)
    refine ⟨_, rfl, _, rfl, neD_same (d := grpD g) (.lst (SqL.of eh6) (dp_pairs sF6 W)) (.lst (SqL.of (sF6 _ _ ea)) (dp_pairs sF6 W)) (grpD_ok g) (by decide) ⟨_, rfl, ?_⟩⟩
    walk_at "nos"
    have s36 : Same H3 H6 := (s4.trans s5).trans s6
    have ep6 := s36 _ _ ep
    have ef6 := s6 _ _ ef
    have hlb : (logB (gs.take i)).length ≤ 3000 := by
      have := gsOk_le (gs := gs.take i) fun x hx => hok x (List.mem_of_mem_take hx)
      rw [List.length_take] at this
      omega
    refine s_setg ?_
    refine ⟨_, rfl, _, rfl, p, f, _, _, rfl, rfl, ep6, ef6, ?_, fun p2 hp2 => ?_⟩
    · rw [List.length_map, List.length_map, grpB_len hgo.1]
      exact Nat.le_of_lt (Nat.lt_of_le_of_lt (show _ ≤ 1000000 by omega) (by decide))
    refine ⟨p2, _, _, _, rfl, (s3.trans s36).trans (same_upd hp2), (s3.trans s36).free hp2, ?_⟩
    rw [upd_same, take_more hgi, ← List.map_append]
    unfold logB
    rw [List.flatMap_append]
    simp only [List.flatMap_cons, List.flatMap_nil, List.append_nil]
  rintro σ' H3 ⟨p, c4, c5, c6, rfl, s3, np, ep⟩
  rw [GI1.len, List.take_length] at ep
  have D3 := D2.kp s3
  walk_at "nrm"
  -- more
  refine q_setg ?_
  refine ⟨_, rfl, _, rfl, st, sc, H, ns, rfl, D3, fun m F4 ws g H4 N4 em W hgo D4 => ?_⟩
  refine ⟨m, ws, F4, g, rfl, SqL.of (N4.sm _ _ em), N4.sm, W, hgo.1, (by have := hgo.2.1; omega), fun b H5 s5 nb5 eb => ?_⟩
  walk_at "nrm"
  have pst : p ≠ st := fun z => by
    obtain ⟨o, e⟩ := N.has
    have : ∃ o, H2 st = some o := by obtain ⟨i, d, _, _, e⟩ := D2.ex; exact ⟨_, e⟩
    obtain ⟨o, e⟩ := this
    rw [← z, np] at e
    cases e
  have ep5 := s5 _ _ (N4.old _ _ pst ep)
  have D5 := D4.kp s5
  have hgl3 := hgo.2.1
  have hbl := grpB_len hgo.1
  -- data
  refine q_setg ?_
  refine ⟨_, rfl, _, rfl, _, rfl, _, rfl, _, rfl, b, _, rfl, .inl (SqL.of eb), st, sc, _, H, ns, rfl, ?_, ?_, D5, fun k H6 k0 k1 hB6 D6 => ?_⟩
  · rw [List.length_map, hbl]; omega
  · rw [List.length_map, hbl]; omega
  rw [List.length_map, hbl] at k1
  obtain ⟨kk, rfl⟩ := Int.eq_ofNat_of_zero_le k0
  have bst : b ≠ st := fun z => by
    obtain ⟨i, d, _, _, e⟩ := D4.ex
    rw [z, e] at nb5
    cases nb5
  have eb6 : H6 b = some (.lst ((grpB g).map V.int)) := by rw [hB6 _ bst]; exact eb
  have ep6 : H6 p = some (.lst ((logB gs).map V.int)) := by rw [hB6 _ pst]; exact ep5
  refine ⟨_, rfl, b, _, rfl, SqL.of eb6, fun t ht => ?_⟩
  rw [cut_take]
  have s7 := same_upd (o := .lst (((grpB g).take kk).map V.int)) ht
  have hlb := gsOk_le hok
  refine ⟨p, t, _, _, rfl, rfl, s7 _ _ ep6, upd_same, ?_, fun d hd => ?_⟩
  · rw [List.length_map, List.length_map, List.length_take]
    exact Nat.le_of_lt (Nat.lt_of_le_of_lt (show _ ≤ 1000000 by omega) (by decide))
  walk_at "nrm"
  rw [← List.map_append]
  have s8 := same_upd (o := .lst ((logB gs ++ (grpB g).take kk).map V.int)) hd
  -- kept
  refine q_setg ?_
  refine ⟨_, rfl, d, _, rfl, .inl (SqL.of upd_same), fun e9 h9 => ?_⟩
  walk_at "nrm"
  have s9 := same_upd (o := .lst ((logB gs ++ (grpB g).take kk).map V.int)) h9
  have ed9 := s9 _ _ (upd_same : upd (upd H6 t (.lst (((grpB g).take kk).map V.int))) d (.lst ((logB gs ++ (grpB g).take kk).map V.int)) d = _)
  have ee9 : upd (upd (upd H6 t (.lst (((grpB g).take kk).map V.int))) d (.lst ((logB gs ++ (grpB g).take kk).map V.int))) e9 (.lst ((logB gs ++ (grpB g).take kk).map V.int)) e9 = _ := upd_same
  have s69 := (s7.trans s8).trans s9
  generalize upd (upd (upd H6 t (.lst (((grpB g).take kk).map V.int))) d (.lst ((logB gs ++ (grpB g).take kk).map V.int))) e9 (.lst ((logB gs ++ (grpB g).take kk).map V.int)) = H9 at ed9 ee9 s69
  -- the groups, still there
  have sF9 : Same F1 H9 := fun b o e => s69 b o (by
    have hb : b ≠ st := ne_of_none e N1.st
    rw [hB6 _ hb]
    exact s5 _ _ (N4.old _ _ hb (s3 _ _ (sF1 _ _ e))))
  have hpos : ∀ x ∈ logB gs ++ (grpB g).take kk, 0 ≤ x := fun x hx => by
    rcases List.mem_append.mp hx with h | h
    · unfold logB at h
      obtain ⟨g', hg', h⟩ := List.mem_flatMap.mp h
      exact grpB_pos (hok g' hg') x h
    · exact grpB_pos hgo x (List.mem_of_mem_take h)
  have hll : (logB gs ++ (grpB g).take kk).length ≤ 1000000 := by
    rw [List.length_append, List.length_take]
    omega
  have hG : Grps (logB gs ++ (grpB g).take kk) 0 gs := by
    have := grps_of (gs := gs) (fun g hg => ⟨(hok g hg).1, by have := (hok g hg).2.1; omega⟩) [] ((grpB g).take kk) (fun pre => gEnd_cut hgo.1 (by omega) pre (by omega))
    exact this
  generalize logB gs ++ (grpB g).take kk = dat at ed9 ee9 hpos hll hG
  -- found
  refine q_setg ?_
  refine ⟨_, rfl, d, dat, gs, rfl, SqL.of ed9, hpos, hll, hG, fun f F10 fs H10 N10 ef GI10 => ?_⟩
  walk_at "nrm"
  have sF10 : Same F1 H10 := sF9.trans N10.old
  have ed10 := N10.old _ _ ed9
  have ee10 := N10.old _ _ ee9
  have ef10 := N10.sm _ _ ef
  refine ⟨_, rfl, ⟨_, _, _, _, true, rfl, .ty "list", .base (.lst ef10), kit_ty (by decide +kernel), ?_⟩⟩
  refine ⟨true, rfl, ?_⟩
  walk_at "nos"
  refine ⟨_, rfl, _, rfl, neD_same (d := grpsD gs) (.lst (SqL.of ef10) (dp_grps N10.sm GI10)) (.lst (SqL.of (sF10 _ _ el1)) (dp_grps sF10 GI1)) (grpsD_ok gs) (by decide) ⟨_, rfl, ?_⟩⟩
  walk_at "nos"
  refine ⟨_, rfl, _, rfl, ?_⟩
  refine neL_ints (SqL.of ed10) (SqL.of ee10) ⟨_, rfl, ?_⟩
  rw [decide_eq_true rfl]
  walk_at "nos"
  -- the contents are changed
  have fF1 : ∀ b o, F10 b = some o → H9 b = none := N10.new
  have C0 : Chg F10 H10 0 := ⟨fun b o e _ => N10.sm b o e, fun b o e ⟨xs, hx, ho⟩ => ⟨xs.map V.int, by rw [← ho]; exact N10.sm b o e, by rw [List.length_map, hx]; exact Nat.le_refl _⟩⟩
  have nfs : ¬ isC (.lst fs) := not_isC_gs GI10
  refine ⟨_, rfl, f, rfl, ⟨_, SqL.of ef10⟩, for_list (K := K) (a := f) (xs := fs) (fun i σ' H' => ∃ (c4 c9 : Option V), σ' = [some (.ref sc), some (.ref st), some (.ref l), some (.ref d), c4, c5, some (.ref f), some (.ref b), some (.ref e9), c9, none] ∧ Chg F10 H' (4 * i) ∧ Same H9 H')
    ⟨_, _, rfl, C0, N10.old⟩ (fun i σ' H' _ ⟨_, _, _, c, _⟩ => SqL.of (c.rest _ _ ef nfs)) ?_ ?_⟩
  · rintro i v σ' H' hv ⟨c4', c9, rfl, C1, s1⟩
    have hi := (List.getElem?_eq_some_iff.mp hv).1
    have hgl2 := GI10.len
    have hgi : gs[i]? = some (gs[i]'(by omega)) := List.getElem?_eq_getElem (by omega)
    have hm : gs[i]'(by omega) ∈ gs := List.getElem_mem _
    generalize gs[i]'(by omega) = g' at hgi hm
    obtain ⟨a, ws', rfl, ea, W'⟩ := GI10.each i v g' hv hgi
    have hgo' := hok g' hm
    have nws : ¬ isC (.lst ws') := not_isC_refs W'
    have hwl := W'.len
    have hg3 := hgo'.2.1
    refine ⟨_, rfl, a, rfl, ⟨_, SqL.of (C1.rest _ _ ea nws)⟩, for_list (K := K) (a := a) (xs := ws') (fun j σ' H' => ∃ (c9 : Option V), σ' = [some (.ref sc), some (.ref st), some (.ref l), some (.ref d), some (.ref a), c5, some (.ref f), some (.ref b), some (.ref e9), c9, none] ∧ Chg F10 H' (4 * i + j) ∧ Same H9 H')
      ⟨_, rfl, C1, s1⟩ (fun i σ' H' _ ⟨_, _, c, _⟩ => SqL.of (c.rest _ _ ea nws)) ?_ ?_⟩
    · rintro j v σ' H'' hv ⟨c9', rfl, C2, s2⟩
      have hj := (List.getElem?_eq_some_iff.mp hv).1
      have hwi : g'[j]? = some (g'[j]'(by omega)) := List.getElem?_eq_getElem (by omega)
      have hm2 : g'[j]'(by omega) ∈ g' := List.getElem_mem _
      generalize g'[j]'(by omega) = ww at hwi hm2
      obtain ⟨t', c', rfl, et, ec, _⟩ := W'.each j v ww hv hwi
      have hwo := hgo'.1 ww hm2
      have et2 := C2.rest _ _ et not_isC_tup
      obtain ⟨ys, ey, hy⟩ := C2.cont _ _ ec ⟨ww.2, hwo.2.2, rfl⟩
      refine ⟨_, rfl, ⟨_, _, _, _, true, rfl, .ty "tuple", .base (.tup et2), kit_ty (by decide +kernel), ?_⟩⟩
      refine ⟨true, rfl, ?_⟩
      walk_at "nos"
      refine ⟨_, rfl, ⟨t', _, 1, _, rfl, rfl, SqT.of et2, rfl, ⟨_, _, _, _, true, rfl, .ty "list", .base (.lst ey), kit_ty (by decide +kernel), ?_⟩⟩⟩
      refine ⟨true, rfl, ?_⟩
      walk_at "nos"
      refine ⟨_, rfl, t', _, 1, _, rfl, rfl, SqT.of et2, rfl, .inl ⟨rfl, _, SqL.of ey⟩, c', ys, _, rfl, rfl, ey, Nat.lt_of_le_of_lt (show _ ≤ 1000000 by omega) (by decide), ⟨_, rfl, C2.more ec hwo.2.2 ey hy _, ?_⟩⟩
      exact fun b o e => by
        have : b ≠ c' := fun z => by
          have := fF1 _ _ ec
          rw [← z, e] at this
          cases this
        rw [upd_ne this]
        exact s2 b o e
    · rintro σ' H'' ⟨c9', rfl, C2, s2⟩
      refine ⟨_, _, rfl, ⟨C2.rest, fun b o e k => ?_⟩, s2⟩
      obtain ⟨xs, h1, h2⟩ := C2.cont b o e k
      exact ⟨xs, h1, by omega⟩
  rintro σ' H11 ⟨c4', c9, rfl, C1, s11⟩
  walk_at "nrm"
  refine s_retg ?_
  refine ⟨_, rfl, d, dat, gs, rfl, SqL.of (s11 _ _ ed9), hpos, hll, hG, fun f2 F12 fs2 H12 N12 ef2 GI12 => ?_⟩
  refine ⟨_, rfl, eqD_same (d := grpsD gs) (.lst (SqL.of (N12.sm _ _ ef2)) (dp_grps N12.sm GI12)) (.lst (SqL.of (N12.old _ _ (s11 _ _ (sF9 _ _ el1)))) (dp_grps ((sF9.trans s11).trans N12.old) GI1)) (grpsD_ok gs) (by decide) ?_⟩
  exact q _
end
end K04


namespace K04
open PySem L2 Nv
theorem all_mk {K : PySem.W.Frag} {h : Heap} {mg : Str → Option Value} (X : K.In h) (G : h.Ns mainGlobals mg)
    {f0 : Addr} {od0 an0 : Option Addr} {sl0 : Array (Option Value)} {oc0 kV0 dc0 pm0 cd0 ct0 : Value} {f1 : Addr} {od1 an1 : Option Addr} {sl1 : Array (Option Value)} {oc1 kV1 dc1 pm1 cd1 ct1 : Value} {f2 : Addr} {od2 an2 : Option Addr} {sl2 : Array (Option Value)} {oc2 kV2 dc2 pm2 cd2 ct2 : Value} {f3 : Addr} {od3 an3 : Option Addr} {sl3 : Array (Option Value)} {oc3 kV3 dc3 pm3 cd3 ct3 : Value} {f4 : Addr} {od4 an4 : Option Addr} {sl4 : Array (Option Value)} {oc4 kV4 dc4 pm4 cd4 ct4 : Value} {f5 : Addr} {od5 an5 : Option Addr} {sl5 : Array (Option Value)} {oc5 kV5 dc5 pm5 cd5 ct5 : Value} {f6 : Addr} {od6 an6 : Option Addr} {sl6 : Array (Option Value)} {oc6 kV6 dc6 pm6 cd6 ct6 : Value} {f7 : Addr} {od7 an7 : Option Addr} {sl7 : Array (Option Value)} {oc7 kV7 dc7 pm7 cd7 ct7 : Value} {f8 : Addr} {od8 an8 : Option Addr} {sl8 : Array (Option Value)} {oc8 kV8 dc8 pm8 cd8 ct8 : Value} {f9 : Addr} {od9 an9 : Option Addr} {sl9 : Array (Option Value)} {oc9 kV9 dc9 pm9 cd9 ct9 : Value} {f10 : Addr} {od10 an10 : Option Addr} {sl10 : Array (Option Value)} {oc10 kV10 dc10 pm10 cd10 ct10 : Value} {tNUMBER_WIDTH : Tok} {tPAIR_SIZE : Tok}
    (a0 : PySem.W.nsIn K mainGlobals "write_number" = some (some (.ref f0)))
    (l0 : K.lookup f0 = some ⟨oc0, od0, .func (PySem.W.fnOf "write_number" "write_number" (defArgs s_write_number) (defBody s_write_number) (defScope s_write_number) .none kV0 dc0 pm0 an0 cd0 ct0), sl0⟩)
    (c0 : PySem.W.codeIn K cd0 "write_number" = true)
    (k0 : PySem.W.keepIn K (.ref f0) = true)
    (a1 : PySem.W.nsIn K mainGlobals "read_number" = some (some (.ref f1)))
    (l1 : K.lookup f1 = some ⟨oc1, od1, .func (PySem.W.fnOf "read_number" "read_number" (defArgs s_read_number) (defBody s_read_number) (defScope s_read_number) .none kV1 dc1 pm1 an1 cd1 ct1), sl1⟩)
    (c1 : PySem.W.codeIn K cd1 "read_number" = true)
    (k1 : PySem.W.keepIn K (.ref f1) = true)
    (a2 : PySem.W.nsIn K mainGlobals "write_group" = some (some (.ref f2)))
    (l2 : K.lookup f2 = some ⟨oc2, od2, .func (PySem.W.fnOf "write_group" "write_group" (defArgs s_write_group) (defBody s_write_group) (defScope s_write_group) .none kV2 dc2 pm2 an2 cd2 ct2), sl2⟩)
    (c2 : PySem.W.codeIn K cd2 "write_group" = true)
    (k2 : PySem.W.keepIn K (.ref f2) = true)
    (a3 : PySem.W.nsIn K mainGlobals "read_groups" = some (some (.ref f3)))
    (l3 : K.lookup f3 = some ⟨oc3, od3, .func (PySem.W.fnOf "read_groups" "read_groups" (defArgs s_read_groups) (defBody s_read_groups) (defScope s_read_groups) .none kV3 dc3 pm3 an3 cd3 ct3), sl3⟩)
    (c3 : PySem.W.codeIn K cd3 "read_groups" = true)
    (k3 : PySem.W.keepIn K (.ref f3) = true)
    (a4 : PySem.W.nsIn K mainGlobals "group_end" = some (some (.ref f4)))
    (l4 : K.lookup f4 = some ⟨oc4, od4, .func (PySem.W.fnOf "group_end" "group_end" (defArgs s_group_end) (defBody s_group_end) (defScope s_group_end) .none kV4 dc4 pm4 an4 cd4 ct4), sl4⟩)
    (c4 : PySem.W.codeIn K cd4 "group_end" = true)
    (k4 : PySem.W.keepIn K (.ref f4) = true)
    (a5 : PySem.W.nsIn K mainGlobals "read_pairs" = some (some (.ref f5)))
    (l5 : K.lookup f5 = some ⟨oc5, od5, .func (PySem.W.fnOf "read_pairs" "read_pairs" (defArgs s_read_pairs) (defBody s_read_pairs) (defScope s_read_pairs) .none kV5 dc5 pm5 an5 cd5 ct5), sl5⟩)
    (c5 : PySem.W.codeIn K cd5 "read_pairs" = true)
    (k5 : PySem.W.keepIn K (.ref f5) = true)
    (a6 : PySem.W.nsIn K mainGlobals "_law_draw" = some (some (.ref f6)))
    (l6 : K.lookup f6 = some ⟨oc6, od6, .func (PySem.W.fnOf "_law_draw" "_law_draw" (defArgs s_law_draw) (defBody s_law_draw) (defScope s_law_draw) .none kV6 dc6 pm6 an6 cd6 ct6), sl6⟩)
    (c6 : PySem.W.codeIn K cd6 "_law_draw" = true)
    (k6 : PySem.W.keepIn K (.ref f6) = true)
    (a7 : PySem.W.nsIn K mainGlobals "_law_content" = some (some (.ref f7)))
    (l7 : K.lookup f7 = some ⟨oc7, od7, .func (PySem.W.fnOf "_law_content" "_law_content" (defArgs s_law_content) (defBody s_law_content) (defScope s_law_content) .none kV7 dc7 pm7 an7 cd7 ct7), sl7⟩)
    (c7 : PySem.W.codeIn K cd7 "_law_content" = true)
    (k7 : PySem.W.keepIn K (.ref f7) = true)
    (a8 : PySem.W.nsIn K mainGlobals "_law_group" = some (some (.ref f8)))
    (l8 : K.lookup f8 = some ⟨oc8, od8, .func (PySem.W.fnOf "_law_group" "_law_group" (defArgs s_law_group) (defBody s_law_group) (defScope s_law_group) .none kV8 dc8 pm8 an8 cd8 ct8), sl8⟩)
    (c8 : PySem.W.codeIn K cd8 "_law_group" = true)
    (k8 : PySem.W.keepIn K (.ref f8) = true)
    (a9 : PySem.W.nsIn K mainGlobals "_law_bytes" = some (some (.ref f9)))
    (l9 : K.lookup f9 = some ⟨oc9, od9, .func (PySem.W.fnOf "_law_bytes" "_law_bytes" (defArgs s_law_bytes) (defBody s_law_bytes) (defScope s_law_bytes) .none kV9 dc9 pm9 an9 cd9 ct9), sl9⟩)
    (c9 : PySem.W.codeIn K cd9 "_law_bytes" = true)
    (k9 : PySem.W.keepIn K (.ref f9) = true)
    (a10 : PySem.W.nsIn K mainGlobals "law" = some (some (.ref f10)))
    (l10 : K.lookup f10 = some ⟨oc10, od10, .func (PySem.W.fnOf "law" "law" (defArgs s_law) (defBody s_law) (defScope s_law) .none kV10 dc10 pm10 an10 cd10 ct10), sl10⟩)
    (c10 : PySem.W.codeIn K cd10 "law" = true)
    (k10 : PySem.W.keepIn K (.ref f10) = true)
    (z_range : PySem.W.nsIn K mainGlobals "range" = some none)
    (z_list : PySem.W.nsIn K mainGlobals "list" = some none)
    (z_len : PySem.W.nsIn K mainGlobals "len" = some none)
    (z_int : PySem.W.nsIn K mainGlobals "int" = some none)
    (z_reversed : PySem.W.nsIn K mainGlobals "reversed" = some none)
    (z_isinstance : PySem.W.nsIn K mainGlobals "isinstance" = some none)
    (z_tuple : PySem.W.nsIn K mainGlobals "tuple" = some none)
    (aNUMBER_WIDTH : PySem.W.nsIn K mainGlobals "NUMBER_WIDTH" = some (some (.int 4 tNUMBER_WIDTH)))
    (aPAIR_SIZE : PySem.W.nsIn K mainGlobals "PAIR_SIZE" = some (some (.int 260 tPAIR_SIZE)))
    : ∃ T : Txt K mg, T.f_law = f10 ∧ T.fd_law = PySem.W.fnOf "law" "law" (defArgs s_law) (defBody s_law) (defScope s_law) .none kV10 dc10 pm10 an10 cd10 ct10 := by
  have F0 := fun_mk (st := s_write_number) l0 c0 k0
  have b0 := F0.binds (ps := ["width", "number"]) fun _ _ _ _ _ _ us hl => match us, hl with | [_, _], _ => rfl
  have F1 := fun_mk (st := s_read_number) l1 c1 k1
  have b1 := F1.binds (ps := ["data", "place", "width"]) fun _ _ _ _ _ _ us hl => match us, hl with | [_, _, _], _ => rfl
  have F2 := fun_mk (st := s_write_group) l2 c2 k2
  have b2 := F2.binds (ps := ["pairs"]) fun _ _ _ _ _ _ us hl => match us, hl with | [_], _ => rfl
  have F3 := fun_mk (st := s_read_groups) l3 c3 k3
  have b3 := F3.binds (ps := ["data"]) fun _ _ _ _ _ _ us hl => match us, hl with | [_], _ => rfl
  have F4 := fun_mk (st := s_group_end) l4 c4 k4
  have b4 := F4.binds (ps := ["data", "place"]) fun _ _ _ _ _ _ us hl => match us, hl with | [_, _], _ => rfl
  have F5 := fun_mk (st := s_read_pairs) l5 c5 k5
  have b5 := F5.binds (ps := ["data", "place", "end"]) fun _ _ _ _ _ _ us hl => match us, hl with | [_, _, _], _ => rfl
  have F6 := fun_mk (st := s_law_draw) l6 c6 k6
  have b6 := F6.binds (ps := ["state", "script", "size"]) fun _ _ _ _ _ _ us hl => match us, hl with | [_, _, _], _ => rfl
  have F7 := fun_mk (st := s_law_content) l7 c7 k7
  have b7 := F7.binds (ps := ["state", "script"]) fun _ _ _ _ _ _ us hl => match us, hl with | [_, _], _ => rfl
  have F8 := fun_mk (st := s_law_group) l8 c8 k8
  have b8 := F8.binds (ps := ["state", "script"]) fun _ _ _ _ _ _ us hl => match us, hl with | [_, _], _ => rfl
  have F9 := fun_mk (st := s_law_bytes) l9 c9 k9
  have b9 := F9.binds (ps := ["pairs"]) fun _ _ _ _ _ _ us hl => match us, hl with | [_], _ => rfl
  have F10 := fun_mk (st := s_law) l10 c10 k10
  have b10 := F10.binds (ps := ["script"]) fun _ _ _ _ _ _ us hl => match us, hl with | [_], _ => rfl
  exact ⟨{
    f_write_number := f0
    fd_write_number := _
    F_write_number := F0
    b_write_number := b0
    g_write_number := PySem.W.mg_of X G a0
    f_read_number := f1
    fd_read_number := _
    F_read_number := F1
    b_read_number := b1
    g_read_number := PySem.W.mg_of X G a1
    f_write_group := f2
    fd_write_group := _
    F_write_group := F2
    b_write_group := b2
    g_write_group := PySem.W.mg_of X G a2
    f_read_groups := f3
    fd_read_groups := _
    F_read_groups := F3
    b_read_groups := b3
    g_read_groups := PySem.W.mg_of X G a3
    f_group_end := f4
    fd_group_end := _
    F_group_end := F4
    b_group_end := b4
    g_group_end := PySem.W.mg_of X G a4
    f_read_pairs := f5
    fd_read_pairs := _
    F_read_pairs := F5
    b_read_pairs := b5
    g_read_pairs := PySem.W.mg_of X G a5
    f_law_draw := f6
    fd_law_draw := _
    F_law_draw := F6
    b_law_draw := b6
    g_law_draw := PySem.W.mg_of X G a6
    f_law_content := f7
    fd_law_content := _
    F_law_content := F7
    b_law_content := b7
    g_law_content := PySem.W.mg_of X G a7
    f_law_group := f8
    fd_law_group := _
    F_law_group := F8
    b_law_group := b8
    g_law_group := PySem.W.mg_of X G a8
    f_law_bytes := f9
    fd_law_bytes := _
    F_law_bytes := F9
    b_law_bytes := b9
    g_law_bytes := PySem.W.mg_of X G a9
    f_law := f10
    fd_law := _
    F_law := F10
    b_law := b10
    g_law := PySem.W.mg_of X G a10
    z_range := PySem.W.mg_none_of X G z_range
    z_list := PySem.W.mg_none_of X G z_list
    z_len := PySem.W.mg_none_of X G z_len
    z_int := PySem.W.mg_none_of X G z_int
    z_reversed := PySem.W.mg_none_of X G z_reversed
    z_isinstance := PySem.W.mg_none_of X G z_isinstance
    z_tuple := PySem.W.mg_none_of X G z_tuple
    t_NUMBER_WIDTH := tNUMBER_WIDTH
    g_NUMBER_WIDTH := PySem.W.mg_of X G aNUMBER_WIDTH
    t_PAIR_SIZE := tPAIR_SIZE
    g_PAIR_SIZE := PySem.W.mg_of X G aPAIR_SIZE }, rfl, rfl⟩
theorem walk {l : PySem.W.OpenLaw} {q : Program} {loose : List Str} {XP : (Str → Option Value) → Heap → Prop} {YP : World → Heap → Prop} {d : DefRec} {K : Params → PySem.W.Frag} (hn : l.most = some 63) (hdf : d.params.defaults = []) (hdn : d.name = "law")
    (hY : ∀ (w : World) (h : Heap), YP w h → (K w.params).In h)
    (F : ∀ (w : World) (mg : Str → Option Value) (h : Heap), (K w.params).In h → h.Ns mainGlobals mg → ∃ T : Txt (K w.params) mg, ∀ (s : Shared) (u : Value), BindsTo s T.fd_law ⟨[u], []⟩ [("script", u)]) :
    PySem.W.WalkO q loose XP YP l.row.toRowW d [] (fun f vs => PySem.call f vs) := by
  refine L2.walk_of (n := 63) (k := 20) (x := "script") (CX := fun _ => CX0) (sp := fun w => sp_law (K w.params)) hn (by decide) hdf ⟨rfl, by decide, by decide⟩ hY (fun w mg fa h KX G hmg => ?_) (fun w H a ns hl hO hS => ?_) fun _ _ _ _ _ z => z
  · obtain ⟨T, hT⟩ := F w mg h KX G
    rw [hdn] at hmg
    have e := T.g_law.symm.trans hmg
    cases e
    exact ⟨T.fd_law, hT, fun base _ _ => (ok_law T).mono (by decide)⟩
  · exact ⟨a, ns, rfl, hS, hl, fun _ => rfl⟩

end K04
open PySem PySem.W PyProof.Rows
set_option maxRecDepth 100000 in
set_option maxHeartbeats 0 in
theorem PySem.Challenge.cw_nearvault_k04_groups_holds : PySem.Challenge.rw_nearvault_k04_groups.Holds := by
  w_on; o_law; k_head; (case hw => w_witness2)
  k_fill
  refine K04.walk (l := PySem.Challenge.rw_nearvault_k04_groups) rfl rfl rfl (fun w h Y => PySem.W.kIn_of Y) ?F
  case F =>
    intro w mg h KX G
    refine' Exists.imp (fun T hT s u => ?bind) (K04.all_mk KX G ?a0 ?l0 ?c0 ?k0 ?a1 ?l1 ?c1 ?k1 ?a2 ?l2 ?c2 ?k2 ?a3 ?l3 ?c3 ?k3 ?a4 ?l4 ?c4 ?k4 ?a5 ?l5 ?c5 ?k5 ?a6 ?l6 ?c6 ?k6 ?a7 ?l7 ?c7 ?k7 ?a8 ?l8 ?c8 ?k8 ?a9 ?l9 ?c9 ?k9 ?a10 ?l10 ?c10 ?k10 ?z_range ?z_list ?z_len ?z_int ?z_reversed ?z_isinstance ?z_tuple ?aNUMBER_WIDTH ?aPAIR_SIZE)
    (case a0 => k_is)
    (case l0 => k_is)
    (case c0 => k_is)
    (case k0 => k_is)
    (case a1 => k_is)
    (case l1 => k_is)
    (case c1 => k_is)
    (case k1 => k_is)
    (case a2 => k_is)
    (case l2 => k_is)
    (case c2 => k_is)
    (case k2 => k_is)
    (case a3 => k_is)
    (case l3 => k_is)
    (case c3 => k_is)
    (case k3 => k_is)
    (case a4 => k_is)
    (case l4 => k_is)
    (case c4 => k_is)
    (case k4 => k_is)
    (case a5 => k_is)
    (case l5 => k_is)
    (case c5 => k_is)
    (case k5 => k_is)
    (case a6 => k_is)
    (case l6 => k_is)
    (case c6 => k_is)
    (case k6 => k_is)
    (case a7 => k_is)
    (case l7 => k_is)
    (case c7 => k_is)
    (case k7 => k_is)
    (case a8 => k_is)
    (case l8 => k_is)
    (case c8 => k_is)
    (case k8 => k_is)
    (case a9 => k_is)
    (case l9 => k_is)
    (case c9 => k_is)
    (case k9 => k_is)
    (case a10 => k_is)
    (case l10 => k_is)
    (case c10 => k_is)
    (case k10 => k_is)
    (case z_range => k_is)
    (case z_list => k_is)
    (case z_len => k_is)
    (case z_int => k_is)
    (case z_reversed => k_is)
    (case z_isinstance => k_is)
    (case z_tuple => k_is)
    (case aNUMBER_WIDTH => k_is)
    (case aPAIR_SIZE => k_is)
    (case bind => obtain ⟨_, e⟩ := hT; rw [e]; exact .of_eq rfl)
#print axioms PySem.Challenge.cw_nearvault_k04_groups_holds



