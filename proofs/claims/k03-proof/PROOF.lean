import PyProof.Rows.All
import Wide.All
import OpenK.AllK
import Wide.FinOn
import PyProof.EqAt
import PyProof.EqKinds
import PyProof.TupleCall
import KE.DataMinMax
import HandS.ForMost
import HandS.Steps
import HandS.Evl
import HandS.Wide
import HandS.EndBits
import HandS.Zip
import HandS.TupAny
import HandS.IsInst
import HandS.SortKw
import HandS.RevRange
import HandS.Conv
import HandS.Exc
import HandS.ExcOwn
import HandS.ExcIs
import HandS.Rev
import HandS.Lambda
import HandS.WordsExc
import PySem.Challenge.RW_nearvault_k03_devices
set_option Elab.async false
set_option linter.all false
set_option maxRecDepth 100000
set_option maxHeartbeats 4000000
/-! # a small kit over the hand layer: readings of straight code, step by step -/
namespace Nv
open PySem L2
abbrev Frag := PySem.W.Frag
section
variable {σ : St} {H H' : Hp} {D : Ends} {K : Frag} {i j : Int} {x y z v : V} {ta tb te tv : TE} {b : Bool} {a C dx p : Addr} {fs : List (Str × V)} {f : Str} {t u c : TT} {ts tu tw : TS} {n : Nat}
/-! ### values -/
theorem g_val {Q : VK} (h : Val te σ H v) (q : Q v H) : te σ H Q := h Q q
theorem val_I0 {g : Int → Int → V} (ha : Val ta σ H (.int i)) (hb : Val tb σ H (.int j)) : Val (tOp (rI0 g) ta tb) σ H (g i j) := val_op ha hb fun _ q => ⟨i, j, rfl, rfl, q⟩
theorem val_I {C : Int → Int → Prop} {g : Int → Int → V} (ha : Val ta σ H (.int i)) (hb : Val tb σ H (.int j)) (hc : C i j) : Val (tOp (rI C g) ta tb) σ H (g i j) := val_op ha hb fun _ q => ⟨i, j, rfl, rfl, hc, q⟩
theorem val_U {g : Int → V} (ha : Val ta σ H (.int i)) : Val (tUn (rU g) ta) σ H (g i) := fun Q q => ha _ ⟨i, rfl, q⟩
theorem val_eq (ha : Val ta σ H x) (hb : Val tb σ H y) (hs : scal x y = true) : Val (tOp rEq ta tb) σ H (.bl (decide (x = y))) := val_op ha hb fun _ q => ⟨hs, q⟩
theorem val_ne (ha : Val ta σ H x) (hb : Val tb σ H y) (hs : scal x y = true) : Val (tOp rNe ta tb) σ H (.bl (!decide (x = y))) := val_op ha hb fun _ q => ⟨hs, q⟩
theorem val_not (ha : Val ta σ H (.bl b)) : Val (tNotV ta) σ H (.bl (!b)) := fun Q q => ha _ ⟨b, rfl, q⟩
theorem val_ixL {xs : List V} (ha : Val ta σ H (.ref p)) (hb : Val tb σ H (.int i)) (hs : SqL K H p xs) (hv : atI xs i = some v) : Val (tOp (rIxL K) ta tb) σ H v := val_op ha hb fun _ q => ⟨p, xs, i, v, rfl, rfl, hs, hv, q⟩
theorem val_ixT {xs : List V} (ha : Val ta σ H (.ref p)) (hb : Val tb σ H (.int i)) (hs : SqT K H p xs) (hv : atI xs i = some v) : Val (tOp (rIxT K) ta tb) σ H v := val_op ha hb fun _ q => ⟨p, xs, i, v, rfl, rfl, hs, hv, q⟩
theorem val_len {xs : List V} (ha : Val ta σ H (.ref p)) (hs : SqL K H p xs ∨ SqT K H p xs) :
    Val (tCB (fun xs H Q => ∃ p ys, xs = [V.ref p] ∧ (SqL K H p ys ∨ SqT K H p ys) ∧ Q (.int ys.length) H) (tCons ta tNil)) σ H (.int xs.length) := fun Q q => ha _ ⟨p, xs, rfl, hs, q⟩
theorem val_int1 (ha : Val ta σ H (.int i)) : Val (tCB (fun xs H Q => (∃ i, xs = [V.int i] ∧ Q (.int i) H) ∨ ∃ k, xs = [.bl k] ∧ Q (.int (if k then 1 else 0)) H) (tCons ta tNil)) σ H (.int i) := fun Q q => ha _ (.inl ⟨i, rfl, q⟩)
theorem val_abs (ha : Val ta σ H (.int i)) : Val (tCB (fun xs H Q => ∃ i, xs = [V.int i] ∧ Q (.int (if i < 0 then -i else i)) H) (tCons ta tNil)) σ H (.int (if i < 0 then -i else i)) := fun Q q => ha _ ⟨i, rfl, q⟩
theorem val_max2 (ha : Val ta σ H (.int i)) (hb : Val tb σ H (.int j)) : Val (tCB (fun xs H Q => ∃ i j, xs = [V.int i, .int j] ∧ Q (.int (if j > i then j else i)) H) (tCons ta (tCons tb tNil))) σ H (.int (if j > i then j else i)) := fun Q q => ha _ (hb _ ⟨i, j, rfl, q⟩)
/-! ### tests -/
theorem ans_I0 {g : Int → Int → V} (ha : Val ta σ H (.int i)) (hb : Val tb σ H (.int j)) (e : g i j = .bl b) : Ans (tTest (tOp (rI0 g) ta tb)) σ H b := ans_cmp ha hb fun Q q => ⟨i, j, rfl, rfl, by rw [e]; exact q⟩
theorem ans_Eq (ha : Val ta σ H x) (hb : Val tb σ H y) (hs : scal x y = true) : Ans (tTest (tOp rEq ta tb)) σ H (decide (x = y)) := ans_eq ha hb hs rfl
theorem ans_Ne (ha : Val ta σ H x) (hb : Val tb σ H y) (hs : scal x y = true) : Ans (tTest (tOp rNe ta tb)) σ H (!decide (x = y)) := ans_ne ha hb hs rfl
theorem ans_or2 {b1 b2 : Bool} (h1 : Ans t σ H b1) (h2 : b1 = false → Ans u σ H b2) : Ans (tOr t u) σ H (b1 || b2) := by
  cases b1 with
  | true => exact ans_or1 h1
  | false => exact ans_or h1 (h2 rfl)
theorem ans_And {b1 b2 : Bool} (h1 : Ans t σ H b1) (h2 : b1 = true → Ans u σ H b2) : Ans (tAnd t u) σ H (b1 && b2) := by
  cases b1 with
  | true => exact ans_and h1 (h2 rfl)
  | false => exact ans_and0 h1
theorem g_yes {A B : Hp → Prop} (h : A H) : tYes σ H (fun b H3 => if b = true then A H3 else B H3) := by
  show (if true = true then A H else B H)
  rw [if_pos rfl]
  exact h
theorem g_test {A B : Hp → Prop} (h : Ans c σ H b) (h1 : b = true → A H) (h2 : b = false → B H) : c σ H (fun b H3 => if b = true then A H3 else B H3) := by
  refine h _ ?_
  cases b with
  | true => rw [if_pos rfl]; exact h1 rfl
  | false => rw [if_neg Bool.false_ne_true]; exact h2 rfl
theorem g_noPart {Q : Option Int → Hp → Prop} (q : Q none H) : tNoPart σ H Q := q
/-! ### statements, something behind -/
theorem q_set {m : Nat} (h : Val te σ H v) (q : tu D (σ.set m (some v)) H) : tSeq (tAsg te (gName m)) tu D σ H := h _ q
theorem s_set {m : Nat} (h : Val te σ H v) (q : D.nx (σ.set m (some v)) H) : tAsg te (gName m) D σ H := h _ q
theorem q_setg {m : Nat} (h : te σ H fun v H1 => tu D (σ.set m (some v)) H1) : tSeq (tAsg te (gName m)) tu D σ H := h
theorem s_setg {m : Nat} (h : te σ H fun v H1 => D.nx (σ.set m (some v)) H1) : tAsg te (gName m) D σ H := h
theorem q_when (h : Ans c σ H b) (h1 : b = true → ts { D with nx := tu D } σ H) (h2 : b = false → tu D σ H) : tSeq (tIfS c ts tNext) tu D σ H := by
  refine h _ ?_
  cases b with
  | true => rw [if_pos rfl]; exact h1 rfl
  | false => rw [if_neg Bool.false_ne_true]; exact h2 rfl
theorem s_when (h : Ans c σ H b) (h1 : b = true → ts D σ H) (h2 : b = false → D.nx σ H) : tIfS c ts tNext D σ H := by
  refine h _ ?_
  cases b with
  | true => rw [if_pos rfl]; exact h1 rfl
  | false => rw [if_neg Bool.false_ne_true]; exact h2 rfl
theorem q_ife (h : Ans c σ H b) (h1 : b = true → ts { D with nx := tu D } σ H) (h2 : b = false → tw { D with nx := tu D } σ H) : tSeq (tIfS c ts tw) tu D σ H := by
  refine h _ ?_
  cases b with
  | true => rw [if_pos rfl]; exact h1 rfl
  | false => rw [if_neg Bool.false_ne_true]; exact h2 rfl
theorem s_ife (h : Ans c σ H b) (h1 : b = true → ts D σ H) (h2 : b = false → tw D σ H) : tIfS c ts tw D σ H := by
  refine h _ ?_
  cases b with
  | true => rw [if_pos rfl]; exact h1 rfl
  | false => rw [if_neg Bool.false_ne_true]; exact h2 rfl
/-- what stands behind an if, told once -/
theorem q_cutIf (M : St → Hp → Prop) (h : ts { D with nx := M } σ H) (k : ∀ σ' H', M σ' H' → tu D σ' H') (mono : ∀ N : St → Hp → Prop, (∀ σ' H', M σ' H' → N σ' H') → ts { D with nx := M } σ H → ts { D with nx := N } σ H) : tSeq ts tu D σ H := mono _ k h
theorem q_setL {xs : List V} {k : Nat} (hv : Val te σ H v) (ho : Val ta σ H (.ref p)) (hi : Val tb σ H (.int i)) (hl : H p = some (.lst xs)) (hk : ixN xs.length i = some k) (q : tu D σ (upd H p (.lst (xs.set k v)))) : tSeq (tAsg te (gSub ta tb rSetL)) tu D σ H := by
  refine hv _ ?_
  refine ho _ ?_
  refine hi _ ?_
  exact ⟨p, xs, i, k, rfl, rfl, hl, hk, q⟩
theorem s_setL {xs : List V} {k : Nat} (hv : Val te σ H v) (ho : Val ta σ H (.ref p)) (hi : Val tb σ H (.int i)) (hl : H p = some (.lst xs)) (hk : ixN xs.length i = some k) (q : D.nx σ (upd H p (.lst (xs.set k v)))) : tAsg te (gSub ta tb rSetL) D σ H := by
  refine hv _ ?_
  refine ho _ ?_
  refine hi _ ?_
  exact ⟨p, xs, i, k, rfl, rfl, hl, hk, q⟩
theorem s_ret (h : Val te σ H v) (q : D.rt v H) : tRet te D σ H := h _ q
theorem s_retg (h : te σ H D.rt) : tRet te D σ H := h
theorem q_fld (hv : Val tv σ H y) (ha : Val ta σ H (.ref a)) (ho : H a = some (.ins C dx fs)) (hc : Cls K C) (hn : NoAttr K C f) (hl : fs.length < 1000) (q : tu D σ (upd H a (.ins C dx (putF f y fs)))) : tSeq (sFld K ta tv f) tu D σ H := st_fld (D := { D with nx := tu D }) hv ha ho hc hn hl q
end
section
variable {σ : St} {H : Hp} {D : Ends} {tu ts : TS}
/-- a statement, then the rest, with a word between them -/
theorem q_cut (M : St → Hp → Prop) (h : ts { D with nx := M } σ H) (k : ∀ σ' H', M σ' H' → tu D σ' H') : Evl.tCut ts tu D σ H := ⟨M, h, k⟩
end
/-! ### heaps -/
/-- all but a is as it was -/
def But (a : Addr) (H H' : Hp) : Prop := ∀ b, b ≠ a → H' b = H b
theorem But.refl (a : Addr) (H : Hp) : But a H H := fun _ _ => rfl
theorem But.upd {a : Addr} {H : Hp} {o : HO} : But a H (upd H a o) := fun b h => upd_ne h
theorem But.trans {a : Addr} {H H1 H2 : Hp} (x : But a H H1) (y : But a H1 H2) : But a H H2 := fun b h => (y b h).trans (x b h)
/-- what was tracked stays, but for a -/
def Kp (a : Addr) (H H' : Hp) : Prop := ∀ b o, b ≠ a → H b = some o → H' b = some o
theorem Kp.refl (a : Addr) (H : Hp) : Kp a H H := fun _ _ _ e => e
theorem Kp.trans {a : Addr} {H H1 H2 : Hp} (x : Kp a H H1) (y : Kp a H1 H2) : Kp a H H2 := fun b o n e => y b o n (x b o n e)
theorem Kp.but {a : Addr} {H H' : Hp} (x : But a H H') : Kp a H H' := fun b o n e => by rw [x b n]; exact e
theorem Kp.of {a : Addr} {H H' : Hp} (x : Same H H') : Kp a H H' := fun b o _ e => x b o e
theorem same_upd {H : Hp} {p : Addr} {o : HO} (h : H p = none) : Same H (upd H p o) := fun b x e => by
  rw [upd_ne (ne_of_none e h)]
  exact e
theorem Same.of_kp {a : Addr} {H H' : Hp} (n : H a = none) (x : Kp a H H') : Same H H' := fun b o e => x b o (ne_of_none e n) e
theorem seqT {K : Frag} {H H' : Hp} {a : Addr} {xs : List V} (e : Same H H') (h : SqT K H a xs) : SqT K H' a xs := by
  rcases h with (h | ⟨o, h⟩) | h
  · exact .inl (.inl (e _ _ h))
  · exact .inl (.inr ⟨o, e _ _ h⟩)
  · exact .inr h
theorem ixN_lt {n k : Nat} (h : k < n) : ixN n (k : Int) = some k := by
  unfold ixN
  rw [if_pos (by omega), if_pos (by omega)]
  all_goals rfl
theorem at_map {α : Type} {g : α → V} {xs : List α} {k : Nat} {x : α} (h : xs[k]? = some x) : atI (xs.map g) (k : Int) = some (g x) := atI_nat (by rw [List.getElem?_map, h]; rfl)
theorem at_mod {ns : List Int} (i : Int) (h : 0 < ns.length) : ∃ c : Int, atI (ns.map V.int) (i % (((ns.map V.int).length : Nat) : Int)) = some (.int c) := by
  have hm : i % (((ns.map V.int).length : Nat) : Int) = (((i % ((ns.length : Nat) : Int)).toNat : Nat) : Int) := by
    rw [List.length_map]
    exact (Int.toNat_of_nonneg (Int.emod_nonneg _ (by omega))).symm
  have hlt : (i % ((ns.length : Nat) : Int)).toNat < ns.length := by
    have := Int.emod_lt_of_pos i (show (0 : Int) < (ns.length : Nat) by omega)
    have := Int.emod_nonneg i (show ((ns.length : Nat) : Int) ≠ 0 by omega)
    omega
  rw [hm]
  exact ⟨_, at_map (List.getElem?_eq_getElem hlt)⟩
/-! ### max(xs, default=d) -/
section
open PySem.W PyProof.Rows
theorem readsAll_ints {h : Heap} : ∀ {its : List Value} {ns : List Int}, IntsAre its ns → ∃ as, ReadsAll h its (ns.map PyData.int) as
  | _, _, .nil => ⟨_, .nil⟩
  | _, _, .cons n t h => by
    obtain ⟨as, r⟩ := readsAll_ints h
    exact ⟨_, .cons (Reads.int n t) r⟩
theorem depth_ints : ∀ ns : List Int, PyData.depthAll (ns.map PyData.int) ≤ 1
  | [] => by simp [PyData.depthAll]
  | n :: r => by
    have ih := depth_ints r
    simp only [List.map_cons, PyData.depthAll, PyData.depth]
    omega
theorem alike_ints (ns : List Int) : AlikeAll (ns.map PyData.int) := by
  refine ⟨fun x hx y hy => ?_, fun x hx => ?_⟩
  · obtain ⟨a, _, rfl⟩ := List.mem_map.mp hx
    obtain ⟨b, _, rfl⟩ := List.mem_map.mp hy
    rfl
  · obtain ⟨a, _, rfl⟩ := List.mem_map.mp hx
    exact fun z => nomatch z
def maxDf (d : Int) : List Int → Int
  | [] => d
  | y :: ys => ys.foldl max y
def rMaxDf (K : Frag) : List V → List V → Hp → VK → Prop := fun xs zs H Q => ∃ (a : Addr) (ns : List Int) (d : Int), xs = [.ref a] ∧ zs = [.int d] ∧ SqL K H a (ns.map V.int) ∧ Q (.int (maxDf d ns)) H
theorem cr_maxDf {X : Cx} (hc : X.calm = true) (hu : X.A.units + 2 < cLine) : CallRK X (.builtin "max") ["default"] (rMaxDf X.K) := by
  intro pins s σ H xs zs us ws Q I r rz h
  obtain ⟨a, ns, d, rfl, rfl, hs, q⟩ := h
  obtain ⟨its, rv, hl, _⟩ := I.list hs
  rw [Vals.ref1 r]
  cases rz with
  | cons r1 rn =>
    cases rn
    rename_i w0
    obtain ⟨as, hr⟩ := readsAll_ints (h := s.heap) rv.ints
    show wpAny _ _ (call (.builtin "max") [.ref a] [(Str.ofString "default", w0)]) _ _ _
    have hdep := depth_ints ns
    refine max_list_default (xs := ns.map PyData.int) (as := as) (I.ok.hd hc) hl.isList (by simpa using hr) (alike_ints ns) (by omega) (fun e h' tk hk => ?_) (fun y ys i v h' tk bs e hv hR hk => ?_)
    · have e0 : ns = [] := List.map_eq_nil_iff.mp e
      subst e0
      exact ⟨.int d, H, I.kept hk, r1, q⟩
    · cases ns with
      | nil => cases e
      | cons n r =>
        have e1 : PyData.int n = y ∧ r.map PyData.int = ys := by
          have := List.cons.inj e
          exact this
        obtain ⟨rfl, rfl⟩ := e1
        rw [maxD_ints] at hR
        cases hR
        exact ⟨.int _, H, I.kept hk, ⟨_, rfl⟩, q⟩
end
/-! ### slices and sums of tuples, whatever object comes -/
theorem cutV_whole {xs : List V} {lo hi : Option Int} (h : HT.sIx xs.length 0 lo = 0 ∧ HT.sIx xs.length xs.length hi = xs.length) : cutV xs lo hi = xs := by
  unfold cutV
  rw [h.1, h.2]
  simp
theorem slT_any {K : Frag} {H : Hp} {Q : VK} {a : Addr} {xs : List V} {lo hi : Option Int} (ha : SqT K H a xs) (k : ∀ p H', Same H H' → SqT K H' p (cutV xs lo hi) → Q (.ref p) H') : rSlA K (.ref a) lo hi H Q :=
  ⟨a, xs, rfl, ha, fun h => k a H (Same.refl _) (by rw [cutV_whole h]; exact ha), fun _ p hp => k p _ (same_upd hp) (SqT.of upd_same)⟩
theorem catA_any {K : Frag} {H : Hp} {Q : VK} {a b : Addr} {xs ys : List V} (ha : SqT K H a xs) (hb : SqT K H b ys) (hz : xs.length + ys.length ≤ sizeLine) (k : ∀ p H', Same H H' → SqT K H' p (xs ++ ys) → Q (.ref p) H') : rCatA K (.ref a) (.ref b) H Q :=
  ⟨a, b, xs, ys, rfl, rfl, ha, hb, hz, fun h => k b H (Same.refl _) (by rw [h]; exact hb), fun _ h => k a H (Same.refl _) (by rw [h, List.append_nil]; exact ha), fun _ _ p hp => k p _ (same_upd hp) (SqT.of upd_same)⟩
theorem cut_take {α : Type} (g : α → V) (xs : List α) (k : Nat) : cutV (xs.map g) none (some (k : Int)) = (xs.take k).map g := by
  unfold cutV
  rw [HT.sIx_none, HT.sIx_nat, List.length_map, List.drop_zero, Nat.sub_zero, ← List.map_take]
  congr 1
  rw [List.take_eq_take_iff]
  omega
theorem cut_drop {α : Type} (g : α → V) (xs : List α) (k : Nat) : cutV (xs.map g) (some (k : Int)) none = (xs.drop k).map g := by
  unfold cutV
  rw [HT.sIx_none, HT.sIx_nat, List.length_map, ← List.map_drop, ← List.map_take]
  congr 1
  by_cases h : k ≤ xs.length
  · rw [Nat.min_eq_left h, List.take_of_length_le (by rw [List.length_drop]; omega)]
  · rw [Nat.min_eq_right (by omega), List.drop_eq_nil_of_le (Nat.le_refl _), List.drop_eq_nil_of_le (by omega), List.take_nil]
/-! ### == of data -/
theorem dpAll_ints {K : Frag} {H : Hp} : ∀ ns : List Int, DpAll K H (ns.map V.int) (ns.map PyData.int)
  | [] => .nil
  | n :: r => .cons (.int n) (dpAll_ints r)
theorem lay_ints : ∀ ns : List Int, PyData.canLayAll0 (ns.map PyData.int) = true
  | [] => by simp [PyData.canLayAll0]
  | n :: r => by
    simp only [List.map_cons, PyData.canLayAll0, lay_ints r, PyData.canLay0, Bool.and_self]
theorem shaped_tup_ints (ns : List Int) : SeqAt.shaped (.tuple (ns.map PyData.int)) = true := by
  have h := depth_ints ns
  have h2 : PyData.depth (.tuple (ns.map PyData.int)) ≤ 64 := by
    rw [PyData.depth]
    omega
  unfold SeqAt.shaped
  rw [Bool.and_eq_true]
  exact ⟨by rw [PyData.canLay0]; exact lay_ints ns, decide_eq_true h2⟩
theorem shaped_lst_ints (ns : List Int) : SeqAt.shaped (.list (ns.map PyData.int)) = true := by
  have h := depth_ints ns
  have h2 : PyData.depth (.list (ns.map PyData.int)) ≤ 64 := by
    rw [PyData.depth]
    omega
  unfold SeqAt.shaped
  rw [Bool.and_eq_true]
  exact ⟨by rw [PyData.canLay0]; exact lay_ints ns, decide_eq_true h2⟩
theorem eqT_ints {K : Frag} {H : Hp} {Q : VK} {a b : Addr} {xs ys : List Int} (ha : SqT K H a (xs.map V.int)) (hb : SqT K H b (ys.map V.int)) (q : Q (.bl (decide (xs = ys))) H) : rEqD K (.ref a) (.ref b) H Q :=
  ⟨_, _, .tup ha (dpAll_ints xs), .tup hb (dpAll_ints ys), shaped_tup_ints xs, shaped_tup_ints ys, by
    have e : PyData.eqv (.tuple (xs.map PyData.int)) (.tuple (ys.map PyData.int)) = decide (xs = ys) := by
      rw [← PySem.W.ked_eqvAll]
      simp only [PyData.eqv]
    rw [e]
    exact q⟩
theorem eqL_ints {K : Frag} {H : Hp} {Q : VK} {a b : Addr} {xs ys : List Int} (ha : SqL K H a (xs.map V.int)) (hb : SqL K H b (ys.map V.int)) (q : Q (.bl (decide (xs = ys))) H) : rEqD K (.ref a) (.ref b) H Q :=
  ⟨_, _, .lst ha (dpAll_ints xs), .lst hb (dpAll_ints ys), shaped_lst_ints xs, shaped_lst_ints ys, by
    have e : PyData.eqv (.list (xs.map PyData.int)) (.list (ys.map PyData.int)) = decide (xs = ys) := by
      rw [← PySem.W.ked_eqvAll]
      simp only [PyData.eqv]
    rw [e]
    exact q⟩
theorem neL_ints {K : Frag} {H : Hp} {Q : VK} {a b : Addr} {xs ys : List Int} (ha : SqL K H a (xs.map V.int)) (hb : SqL K H b (ys.map V.int)) (q : Q (.bl (!decide (xs = ys))) H) : rNeD K (.ref a) (.ref b) H Q :=
  ⟨_, _, .lst ha (dpAll_ints xs), .lst hb (dpAll_ints ys), shaped_lst_ints xs, shaped_lst_ints ys, by
    have e : PyData.eqv (.list (xs.map PyData.int)) (.list (ys.map PyData.int)) = decide (xs = ys) := by
      rw [← PySem.W.ked_eqvAll]
      simp only [PyData.eqv]
    rw [e]
    exact q⟩
theorem neT_ints {K : Frag} {H : Hp} {Q : VK} {a b : Addr} {xs ys : List Int} (ha : SqT K H a (xs.map V.int)) (hb : SqT K H b (ys.map V.int)) (q : Q (.bl (!decide (xs = ys))) H) : rNeD K (.ref a) (.ref b) H Q :=
  ⟨_, _, .tup ha (dpAll_ints xs), .tup hb (dpAll_ints ys), shaped_tup_ints xs, shaped_tup_ints ys, by
    have e : PyData.eqv (.tuple (xs.map PyData.int)) (.tuple (ys.map PyData.int)) = decide (xs = ys) := by
      rw [← PySem.W.ked_eqvAll]
      simp only [PyData.eqv]
    rw [e]
    exact q⟩
/-! ### a range object with a step, held by a name -/
section
open PyProof.Rows
variable {X : Cx}
def rngHO (p : Addr) (i j c : Int) : HO := .ext fun h => ∃ t u v, h.get? p = some { cls := .type "range", data := .fields #[.int i t, .int j u, .int c v] }
def rRng3 : List V → Hp → VK → Prop := fun vs H Q => ∃ i j c : Int, vs = [.int i, .int j, .int c] ∧ c ≠ 0 ∧ c.natAbs < 1073741824 ∧ ∀ p, H p = none → Q (.ref p) (upd H p (rngHO p i j c))
theorem cr_range3 : CallR X (.type "range") rRng3 := by
  intro pins s σ H vs us Q I r h
  obtain ⟨i, j, c, rfl, c0, c1, q⟩ := h
  cases r with
  | cons r rr =>
    cases rr with
    | cons r' rr =>
      cases rr with
      | cons r'' rr =>
        cases rr
        obtain ⟨t, rfl⟩ := r
        obtain ⟨t', rfl⟩ := r'
        obtain ⟨t'', rfl⟩ := r''
        refine call_range_3 c0 ?_ (.inl (PyProof.noPylong_small c1))
        have hf : H s.heap.objs.size = none := I.hok.fresh (Nat.le_refl _)
        refine ⟨.ref s.heap.objs.size, upd H s.heap.objs.size (rngHO s.heap.objs.size i j c), I.laid (t' := s.toks) (fun b u e => Heap.get?_push_of_some _ e) (Nat.le_refl _) ?_, rfl, q _ hf⟩
        exact ⟨⟨_, _, _, Heap.get?_push_size _ rfl⟩, ⟨_, Heap.get?_push_size _ rfl⟩, fun h1 h2 ⟨a, b, d, e⟩ k => ⟨a, b, d, k _ e⟩⟩
def iRngV (tl : TE) : TI := fun σ H R => tl σ H fun x H1 => ∃ (p : Addr) (i j c : Int) (n : Nat), x = .ref p ∧ H1 p = some (rngHO p i j c) ∧ RgC i j c n ∧ R (Itc i c n) H1
theorem pi_rngV {tg l : Expr} {tl : TE} (hl : PE X l tl) : PI X tg l (iRngV tl) := by
  refine ⟨fun pins s σ H R I h => ?_⟩
  refine thn (hl.run pins s σ H _ I h) fun v s1 ⟨x, H1, I1, r1, q1⟩ => ?_
  obtain ⟨p, i, j, k, n, e, ep, ⟨c0, c1, c2, c3⟩, q⟩ := q1
  subst e
  cases r1
  obtain ⟨⟨t, u, w1, hp⟩, _, _⟩ := I1.hok p _ ep
  refine wpAny_pyIter_range (show IsRange s1.heap p i j k t u w1 from hp) c2 ?_
  refine pi_one (tk := s1.toks) I1 _ (turn_rangeC _ i k n) ?_ q
  have e1 : i + ((0 : Nat) : Int) * k = i := by simp
  have e2 : (n : Int) - ((0 : Nat) : Int) = Builtin.Range.rangeSize i j k := by rw [c3]; simp
  show IsRangeIter _ _ (i + ((0 : Nat) : Int) * k) ((n : Int) - ((0 : Nat) : Int)) k
  rw [e1, e2]
  exact Heap.get?_push_size _ rfl
end
theorem lc_rangeC {lo c : Int} {n : Nat} {g : TG} {tt : TT} {te : TE} {vs : List Nat} {σ : St} {H1 : Hp} {D : Addr} {Qd : Hp → Prop} (Pv : Nat → Hp → Prop) (h0 : Pv 0 (upd H1 D (.lst [])))
    (hs : ∀ (i : Nat) H, i < n → Pv i H → g (.int (lo + (i : Int) * c)) (wipe σ vs) H fun σ2 H2 => wipe σ2 vs = wipe σ vs ∧ tt σ2 H2 fun b H3 =>
      if b = true then te σ2 H3 fun y H4 => ∃ acc, H4 D = some (.lst acc) ∧ acc.length < sizeLine ∧ Pv (i + 1) (upd H4 D (.lst (acc ++ [y]))) else Pv (i + 1) H3) (hd : ∀ H, Pv n H → Qd H) :
    ∃ W : Nat → Nat → Hp → Prop, (∃ m, W 0 m (upd H1 D (.lst []))) ∧ ∀ i m H, W i m H →
      ((Itc lo c n).stop i H ∧ Qd H) ∨ ((Itc lo c n).go i H ∧ ∃ Nx : Hp → Prop, (∀ H', Nx H' → ∃ m', m' < m ∧ W (i + 1) m' H') ∧ ∀ x H', (Itc lo c n).yld i H x H' → g x (wipe σ vs) H' fun σ2 H2 => wipe σ2 vs = wipe σ vs ∧ tt σ2 H2 fun b H3 =>
        if b = true then te σ2 H3 fun y H4 => ∃ acc, H4 D = some (.lst acc) ∧ acc.length < sizeLine ∧ Nx (upd H4 D (.lst (acc ++ [y]))) else Nx H3) := by
  refine ⟨fun i m H => m = n - i ∧ i ≤ n ∧ Pv i H, ⟨n, by simp, Nat.zero_le _, h0⟩, ?_⟩
  rintro i m H ⟨rfl, hi, p⟩
  by_cases hlt : i < n
  · refine .inr ⟨hlt, Pv (i + 1), fun H' p' => ⟨n - (i + 1), by omega, rfl, hlt, p'⟩, fun x H' y => ?_⟩
    obtain ⟨e, y⟩ := y
    subst e y
    exact hs i _ hlt p
  · have e : i = n := by omega
    subst e
    exact .inl ⟨Nat.le_refl _, hd H p⟩
/-- a range up by twos -/
theorem rgC_two {i : Int} {n : Nat} (h0 : 0 ≤ i) (h1 : i < 2 ^ 40) (h2 : n < 1000000) : RgC i (i + 2 * (n : Int)) 2 n := by
  have hz : Builtin.Range.rangeSize i (i + 2 * (n : Int)) 2 = (n : Int) := by
    unfold Builtin.Range.rangeSize
    simp only [show (2 : Int) > 0 by decide, if_true]
    split <;> omega
  refine ⟨by decide, by decide, ?_, hz⟩
  unfold Builtin.Range.small Builtin.Range.rangeFitsLong
  rw [hz, if_pos (show (2 : Int) > 0 by decide)]
  simp only [Bool.and_eq_true, Bool.or_eq_true, decide_eq_true_eq]
  refine ⟨⟨⟨⟨?_, ?_⟩, ?_⟩, ?_⟩, .inr ?_⟩ <;> omega
end Nv

namespace Nv
open PySem L2
/-- the drawing state: made at st since H0; the script at sc -/
structure Dr (K : Frag) (H0 H : Hp) (st sc : Addr) (ns : List Int) : Prop where
  sq : SqL K H0 sc (ns.map V.int)
  same : Same H0 H
  new : H0 st = none
  ex : ∃ i d : Int, 0 ≤ i ∧ 0 ≤ d ∧ H st = some (.lst [.int i, .int d])
theorem Dr.kp {K : Frag} {H0 H H' : Hp} {st sc : Addr} {ns : List Int} (d : Dr K H0 H st sc ns) (h : Same H H') : Dr K H0 H' st sc ns := by
  obtain ⟨i, j, hi, hj, e⟩ := d.ex
  exact ⟨d.sq, d.same.trans h, d.new, i, j, hi, hj, h _ _ e⟩
theorem Dr.put {K : Frag} {H0 H : Hp} {st sc : Addr} {ns : List Int} {i j : Int} (d : Dr K H0 H st sc ns) (hi : 0 ≤ i) (hj : 0 ≤ j) : Dr K H0 (upd H st (.lst [.int i, .int j])) st sc ns :=
  ⟨d.sq, fun b o e => by rw [upd_ne (ne_of_none e d.new)]; exact d.same b o e, d.new, i, j, hi, hj, upd_same⟩
theorem Dr.seq {K : Frag} {H0 H : Hp} {st sc : Addr} {ns : List Int} (d : Dr K H0 H st sc ns) : SqL K H sc (ns.map V.int) := d.same.seq d.sq
/-- the law's helper that draws: a number below n; the state alone changes -/
def spDraw (K : Frag) : Sp := fun vs H Q _ => ∃ (st sc : Addr) (n : Int) (H0 : Hp) (ns : List Int), vs = [.ref st, .ref sc, .int n] ∧ 0 < n ∧ n.natAbs < 2 ^ 64 ∧ Dr K H0 H st sc ns ∧
  ∀ (r : Int) (H' : Hp), 0 ≤ r → r < n → But st H H' → Dr K H0 H' st sc ns → Q (.int r) H'
end Nv

namespace Nv
open PySem L2
/-! # a device: plain states -/
structure DS where
  pages : Int → Option (List Int)
  writes : List (Int × List Int)
  log : List Int
  steps : List (Option Int)
  done : Int
  allowed : Option Int
def zeros : List Int := List.replicate 256 0
def DS.new : DS := ⟨fun _ => none, [], [], [], 0, none⟩
def putP (f : Int → Option (List Int)) (n : Int) (xs : List Int) : Int → Option (List Int) := fun j => if j = n then some xs else f j
def getP (f : Int → Option (List Int)) (n : Int) : List Int := (f n).getD zeros
def lastW (ws : List (Int × List Int)) (n : Int) (o : Option (List Int)) : Option (List Int) := ws.foldl (fun o w => if w.1 = n then some w.2 else o) o
def DS.page (d : DS) (n : Int) : List Int := (lastW d.writes n (d.pages n)).getD zeros
def logStep (l : List Int) : Option Int → List Int
  | none => []
  | some b => l ++ [b]
def afterL (l : List Int) (ss : List (Option Int)) : List Int := ss.foldl logStep l
def DS.logNow (d : DS) : List Int := afterL d.log d.steps
def DS.tick (d : DS) : Option DS := match d.allowed with
  | none => some { d with done := d.done + 1 }
  | some a => if a ≤ 0 then none else some { d with done := d.done + 1, allowed := some (a - 1) }
def DS.write (d : DS) (n : Int) (xs : List Int) : DS := { d with writes := d.writes ++ [(n, xs)] }
def putAll (f : Int → Option (List Int)) (ws : List (Int × List Int)) : Int → Option (List Int) := ws.foldl (fun f w => putP f w.1 w.2) f
def DS.syncP (d : DS) : DS := { d with pages := putAll d.pages d.writes, writes := [] }
def DS.add (d : DS) (s : Option Int) : DS := { d with steps := d.steps ++ [s] }
def DS.syncL (d : DS) : DS := { d with log := d.logNow, steps := [] }
/-- the bytes one by one, as far as the power goes; was it enough? -/
def DS.appendAll : DS → List Int → DS × Bool
  | d, [] => (d, true)
  | d, b :: r => match d.tick with
    | none => (d, false)
    | some e => (e.add (some b)).appendAll r
def endW (f : Int → Option (List Int)) (w : Int × List Int) (fate : Int) : Int → Option (List Int) :=
  if fate = 1 then putP f w.1 w.2 else if fate = 2 then putP f w.1 (w.2.take 128 ++ (getP f w.1).drop 128) else f
def crashP (f : Int → Option (List Int)) (ws : List (Int × List Int)) (fs : List Int) : Int → Option (List Int) := (ws.zip fs).foldl (fun f p => endW f p.1 p.2) f
def DS.crash (d : DS) (fs : List Int) (k : Nat) : DS := ⟨crashP d.pages d.writes fs, [], afterL d.log (d.steps.take k), [], d.done, none⟩
theorem afterL_snoc (l : List Int) (ss : List (Option Int)) (s : Option Int) : afterL l (ss ++ [s]) = logStep (afterL l ss) s := by
  unfold afterL
  rw [List.foldl_append]
  rfl
theorem afterL_len (l : List Int) : ∀ ss : List (Option Int), (afterL l ss).length ≤ l.length + ss.length := by
  intro ss
  induction ss generalizing l with
  | nil => exact Nat.le_refl _
  | cons s r ih =>
    have h := ih (logStep l s)
    have h2 : (logStep l s).length ≤ l.length + 1 := by
      cases s with
      | none => exact Nat.zero_le _
      | some b =>
        show (l ++ [b]).length ≤ _
        rw [List.length_append]
        exact Nat.le_refl _
    show (afterL (logStep l s) r).length ≤ l.length + (r.length + 1)
    omega
theorem lastW_snoc (ws : List (Int × List Int)) (w : Int × List Int) (n : Int) (o : Option (List Int)) : lastW (ws ++ [w]) n o = if w.1 = n then some w.2 else lastW ws n o := by
  unfold lastW
  rw [List.foldl_append]
  rfl
theorem putAll_snoc (f : Int → Option (List Int)) (ws : List (Int × List Int)) (w : Int × List Int) : putAll f (ws ++ [w]) = putP (putAll f ws) w.1 w.2 := by
  unfold putAll
  rw [List.foldl_append]
  rfl
theorem take_more {α : Type} {l : List α} {i : Nat} {x : α} (h : l[i]? = some x) : l.take (i + 1) = l.take i ++ [x] := by
  rw [List.take_add_one, h]
  rfl
theorem crash_more {f : Int → Option (List Int)} {ws : List (Int × List Int)} {fs : List Int} {i : Nat} {w : Int × List Int} {a : Int} (hw : ws[i]? = some w) (ha : fs[i]? = some a) :
    crashP f (ws.take (i + 1)) (fs.take (i + 1)) = endW (crashP f (ws.take i) (fs.take i)) w a := by
  have h1 := (List.getElem?_eq_some_iff.mp hw).1
  have h2 := (List.getElem?_eq_some_iff.mp ha).1
  unfold crashP
  rw [take_more hw, take_more ha, List.zip_append (by rw [List.length_take, List.length_take]; omega), List.foldl_append]
  rfl
theorem crash_min {f : Int → Option (List Int)} {ws : List (Int × List Int)} {fs : List Int} : crashP f (ws.take (min ws.length fs.length)) (fs.take (min ws.length fs.length)) = crashP f ws fs := by
  unfold crashP
  rw [show (ws.take (min ws.length fs.length)).zip (fs.take (min ws.length fs.length)) = (ws.zip fs).take (min ws.length fs.length) from List.take_zipWith.symm]
  congr 1
  exact List.take_of_length_le (by rw [List.length_zip]; exact Nat.le_refl _)
def optV : Option Int → V
  | none => .non
  | some i => .int i
/-! # a device in the heap: the ghost of its parts; what is written in F stays for ever -/
structure DG where
  dx : Addr
  dp : Addr
  pw : Addr
  ls : Addr
  dl : Addr
  F : Hp
  kvs : List (Key × V)
  vs : List V
def devF (g : DG) (d : DS) : List (Str × V) := [("_durable_pages", .ref g.dp), ("_page_writes", .ref g.pw), ("_durable_log", .ref g.dl), ("_log_steps", .ref g.ls), ("_steps_performed", .int d.done), ("_steps_allowed", optV d.allowed)]
def PgIn (F : Hp) (kvs : List (Key × V)) (f : Int → Option (List Int)) : Prop := ∀ n : Int, (f n = none ∧ valV kvs (.inl n) = none) ∨ ∃ p xs, f n = some xs ∧ valV kvs (.inl n) = some (.ref p) ∧ F p = some (.lst (xs.map V.int)) ∧ xs.length ≤ 1000
def WrOne (F : Hp) (v : V) (w : Int × List Int) : Prop := ∃ t p, v = .ref t ∧ F t = some (.tup [.int w.1, .ref p]) ∧ F p = some (.lst (w.2.map V.int)) ∧ w.2.length ≤ 1000
structure WrIn (F : Hp) (vs : List V) (ws : List (Int × List Int)) : Prop where
  len : vs.length = ws.length
  each : ∀ (i : Nat) (v : V) (w : Int × List Int), vs[i]? = some v → ws[i]? = some w → WrOne F v w
structure DevAt (C : Addr) (H : Hp) (dev : Addr) (g : DG) (d : DS) : Prop where
  at_ : H dev = some (.ins C g.dx (devF g d))
  dp : H g.dp = some (.dK g.kvs)
  pg : PgIn g.F g.kvs d.pages
  pw : H g.pw = some (.lst g.vs)
  wr : WrIn g.F g.vs d.writes
  ls : H g.ls = some (.lst (d.steps.map optV))
  dl : H g.dl = some (.lst (d.log.map V.int))
  sm : Same g.F H
  f0 : g.F dev = none
  f1 : g.F g.dp = none
  f2 : g.F g.pw = none
  f3 : g.F g.ls = none
  f4 : g.F g.dl = none
  ne : g.pw ≠ g.ls
  ne2 : g.dl ≠ g.pw
  ne3 : g.dl ≠ g.ls
def own (dev : Addr) (g : DG) (b : Addr) : Prop := b = dev ∨ b = g.dp ∨ b = g.pw ∨ (b = g.ls ∨ b = g.dl) ∨ ∃ o, g.F b = some o
/-- what a call of the device does to the heap: what it doesn't own stays; what it owns behind it is its own or new -/
structure Fr (dev : Addr) (g : DG) (H : Hp) (g' : DG) (H' : Hp) : Prop where
  keep : ∀ b o, ¬ own dev g b → H b = some o → H' b = some o
  grow : ∀ b, own dev g' b → own dev g b ∨ H b = none
theorem Fr.refl (dev : Addr) (g : DG) (H : Hp) : Fr dev g H g H := ⟨fun _ _ _ e => e, fun _ h => .inl h⟩
theorem Fr.trans {dev : Addr} {g g1 g2 : DG} {H H1 H2 : Hp} (x : Fr dev g H g1 H1) (y : Fr dev g1 H1 g2 H2) : Fr dev g H g2 H2 := by
  refine ⟨fun b o n e => y.keep b o (fun h => ?_) (x.keep b o n e), fun b h => ?_⟩
  · rcases x.grow b h with h | h
    · exact n h
    · rw [e] at h; cases h
  · rcases y.grow b h with h | h
    · exact x.grow b h
    · by_cases k : own dev g b
      · exact .inl k
      · refine .inr ?_
        cases e : H b with
        | none => rfl
        | some o =>
          have := x.keep b o k e
          rw [h] at this
          cases this
theorem Fr.same {dev : Addr} {g : DG} {H H' : Hp} (h : Same H H') : Fr dev g H g H' := ⟨fun b o _ e => h b o e, fun _ h => .inl h⟩
/-- a field list: what stands first, what stands behind -/
theorem fld_hd {f : Str} {x : V} {l : List (Str × V)} : ((f, x) :: l).lookup f = some x := by simp [List.lookup]
theorem fld_tl {f g : Str} {x : V} {l : List (Str × V)} (n : (f == g) = false) : ((g, x) :: l).lookup f = l.lookup f := by simp [List.lookup, n]
theorem set_hd {f : Str} {x y : V} {l : List (Str × V)} : putF f y ((f, x) :: l) = (f, y) :: l := by simp [putF]
theorem set_tl {f g : Str} {x y : V} {l l' : List (Str × V)} (n : ¬ g = f) (e : putF f y l = l') : putF f y ((g, x) :: l) = (g, x) :: l' := by
  rw [← e]
  simp [putF, n]
section
variable {C dev p t : Addr} {H H' : Hp} {g : DG} {d : DS} {n : Int} {xs : List Int} {o : HO}
theorem lk_dp : (devF g d).lookup ("_durable_pages" : Str) = some (.ref g.dp) := fld_hd
theorem lk_pw : (devF g d).lookup ("_page_writes" : Str) = some (.ref g.pw) := (fld_tl (by decide +kernel)).trans fld_hd
theorem lk_dl : (devF g d).lookup ("_durable_log" : Str) = some (.ref g.dl) := (fld_tl (by decide +kernel)).trans ((fld_tl (by decide +kernel)).trans fld_hd)
theorem lk_ls : (devF g d).lookup ("_log_steps" : Str) = some (.ref g.ls) := (fld_tl (by decide +kernel)).trans ((fld_tl (by decide +kernel)).trans ((fld_tl (by decide +kernel)).trans fld_hd))
theorem lk_done : (devF g d).lookup ("_steps_performed" : Str) = some (.int d.done) := (fld_tl (by decide +kernel)).trans ((fld_tl (by decide +kernel)).trans ((fld_tl (by decide +kernel)).trans ((fld_tl (by decide +kernel)).trans fld_hd)))
theorem lk_all : (devF g d).lookup ("_steps_allowed" : Str) = some (optV d.allowed) := (fld_tl (by decide +kernel)).trans ((fld_tl (by decide +kernel)).trans ((fld_tl (by decide +kernel)).trans ((fld_tl (by decide +kernel)).trans ((fld_tl (by decide +kernel)).trans fld_hd))))
theorem lk_no {m : Str} (h : (["_durable_pages", "_page_writes", "_durable_log", "_log_steps", "_steps_performed", "_steps_allowed"] : List Str).all (fun f => !(m == f)) = true) : (devF g d).lookup m = none := by
  simp only [List.all_cons, List.all_nil, Bool.and_true, Bool.and_eq_true, Bool.not_eq_true'] at h
  obtain ⟨h1, h2, h3, h4, h5, h6⟩ := h
  exact (fld_tl h1).trans ((fld_tl h2).trans ((fld_tl h3).trans ((fld_tl h4).trans ((fld_tl h5).trans ((fld_tl h6).trans rfl)))))
theorem put_pw {q : Addr} : putF "_page_writes" (.ref q) (devF g d) = devF { g with pw := q } d := set_tl (by decide +kernel) set_hd
theorem put_dl {q : Addr} : putF "_durable_log" (.ref q) (devF g d) = devF { g with dl := q } d := set_tl (by decide +kernel) (set_tl (by decide +kernel) set_hd)
theorem put_ls {q : Addr} : putF "_log_steps" (.ref q) (devF g d) = devF { g with ls := q } d := set_tl (by decide +kernel) (set_tl (by decide +kernel) (set_tl (by decide +kernel) set_hd))
theorem put_done {i : Int} : putF "_steps_performed" (.int i) (devF g d) = devF g { d with done := i } := set_tl (by decide +kernel) (set_tl (by decide +kernel) (set_tl (by decide +kernel) (set_tl (by decide +kernel) set_hd)))
theorem put_all {a : Option Int} : putF "_steps_allowed" (optV a) (devF g d) = devF g { d with allowed := a } := set_tl (by decide +kernel) (set_tl (by decide +kernel) (set_tl (by decide +kernel) (set_tl (by decide +kernel) (set_tl (by decide +kernel) set_hd))))
theorem same_ne {F : Hp} {a : Addr} (h : Same F H) (n : F a = none) : Same F (upd H a o) := fun b x e => by
  rw [upd_ne (ne_of_none e n)]
  exact h b x e
theorem DevAt.n1 (D : DevAt C H dev g d) : g.dp ≠ dev := ne_of D.dp D.at_ (fun z => nomatch z)
theorem DevAt.n2 (D : DevAt C H dev g d) : g.pw ≠ dev := ne_of D.pw D.at_ (fun z => nomatch z)
theorem DevAt.n3 (D : DevAt C H dev g d) : g.ls ≠ dev := ne_of D.ls D.at_ (fun z => nomatch z)
theorem DevAt.n4 (D : DevAt C H dev g d) : g.pw ≠ g.dp := ne_of D.pw D.dp (fun z => nomatch z)
theorem DevAt.n5 (D : DevAt C H dev g d) : g.ls ≠ g.dp := ne_of D.ls D.dp (fun z => nomatch z)
theorem DevAt.n6 (D : DevAt C H dev g d) : g.dl ≠ dev := ne_of D.dl D.at_ (fun z => nomatch z)
theorem DevAt.n7 (D : DevAt C H dev g d) : g.dl ≠ g.dp := ne_of D.dl D.dp (fun z => nomatch z)
theorem DevAt.has (D : DevAt C H dev g d) {b : Addr} (h : own dev g b) : ∃ o, H b = some o := by
  rcases h with rfl | rfl | rfl | (rfl | rfl) | ⟨o, e⟩
  · exact ⟨_, D.at_⟩
  · exact ⟨_, D.dp⟩
  · exact ⟨_, D.pw⟩
  · exact ⟨_, D.ls⟩
  · exact ⟨_, D.dl⟩
  · exact ⟨_, D.sm _ _ e⟩
theorem DevAt.not_own (D : DevAt C H dev g d) {b : Addr} (h : H b = none) : ¬ own dev g b := fun k => by
  obtain ⟨o, e⟩ := D.has k
  rw [h] at e
  cases e
/-- what others change -/
theorem DevAt.kp (D : DevAt C H dev g d) (h : ∀ b o, own dev g b → H b = some o → H' b = some o) : DevAt C H' dev g d :=
  ⟨h _ _ (.inl rfl) D.at_, h _ _ (.inr (.inl rfl)) D.dp, D.pg, h _ _ (.inr (.inr (.inl rfl))) D.pw, D.wr, h _ _ (.inr (.inr (.inr (.inl (.inl rfl))))) D.ls, h _ _ (.inr (.inr (.inr (.inl (.inr rfl))))) D.dl, fun b o e => h _ _ (.inr (.inr (.inr (.inr ⟨o, e⟩)))) (D.sm _ _ e), D.f0, D.f1, D.f2, D.f3, D.f4, D.ne, D.ne2, D.ne3⟩
theorem DevAt.same (D : DevAt C H dev g d) (h : Same H H') : DevAt C H' dev g d := D.kp fun b o _ e => h b o e
/-- a field that no part depends on: done, allowed -/
theorem DevAt.num (D : DevAt C H dev g d) {d' : DS} (h1 : d'.pages = d.pages) (h2 : d'.writes = d.writes) (h3 : d'.log = d.log) (h4 : d'.steps = d.steps) : DevAt C (upd H dev (.ins C g.dx (devF g d'))) dev g d' :=
  ⟨upd_same, by rw [upd_ne D.n1]; exact D.dp, by rw [h1]; exact D.pg, by rw [upd_ne D.n2]; exact D.pw, by rw [h2]; exact D.wr, by rw [upd_ne D.n3, h4]; exact D.ls, by rw [upd_ne D.n6, h3]; exact D.dl, same_ne D.sm D.f0, D.f0, D.f1, D.f2, D.f3, D.f4, D.ne, D.ne2, D.ne3⟩
theorem Fr.ins : Fr dev g H g (upd H dev o) := ⟨fun b u n e => by rw [upd_ne (fun z => n (.inl z))]; exact e, fun _ h => .inl h⟩
theorem pgIn_ext {F F' : Hp} {kvs : List (Key × V)} {f : Int → Option (List Int)} (h : Same F F') (x : PgIn F kvs f) : PgIn F' kvs f := fun n => by
  rcases x n with k | ⟨p, xs, k1, k2, k3, k4⟩
  · exact .inl k
  · exact .inr ⟨p, xs, k1, k2, h _ _ k3, k4⟩
theorem wrIn_ext {F F' : Hp} {vs : List V} {ws : List (Int × List Int)} (h : Same F F') (x : WrIn F vs ws) : WrIn F' vs ws := ⟨x.len, fun i v w a b => by
  obtain ⟨t, p, k1, k2, k3, k4⟩ := x.each i v w a b
  exact ⟨t, p, k1, h _ _ k2, h _ _ k3, k4⟩⟩
/-- a new object is put among what stays -/
theorem DevAt.ext (D : DevAt C H dev g d) (hp : H p = none) : DevAt C (upd H p o) dev { g with F := upd g.F p o } d := by
  have hF : g.F p = none := D.sm.free hp
  have s1 : Same g.F (upd g.F p o) := same_upd hF
  have s2 : Same H (upd H p o) := same_upd hp
  have nn : ∀ {b : Addr} {u : HO}, H b = some u → g.F b = none → upd g.F p o b = none := fun e f => by rw [upd_ne (ne_of_none e hp)]; exact f
  exact ⟨s2 _ _ D.at_, s2 _ _ D.dp, pgIn_ext s1 D.pg, s2 _ _ D.pw, wrIn_ext s1 D.wr, s2 _ _ D.ls, s2 _ _ D.dl, fun b u e => by
    have e : upd g.F p o b = some u := e
    by_cases hb : b = p
    · subst hb; rw [upd_same] at e ⊢; exact e
    · rw [upd_ne hb] at e ⊢; exact D.sm b u e, nn D.at_ D.f0, nn D.dp D.f1, nn D.pw D.f2, nn D.ls D.f3, nn D.dl D.f4, D.ne, D.ne2, D.ne3⟩
theorem Fr.ext (hp : H p = none) : Fr dev g H { g with F := upd g.F p o } (upd H p o) := ⟨fun b u _ e => same_upd hp b u e, fun b h => by
  rcases h with h | h | h | h | ⟨u, e⟩
  · exact .inl (.inl h)
  · exact .inl (.inr (.inl h))
  · exact .inl (.inr (.inr (.inl h)))
  · exact .inl (.inr (.inr (.inr (.inl h))))
  · by_cases hb : b = p
    · subst hb; exact .inr hp
    · have e : upd g.F p o b = some u := e
      rw [upd_ne hb] at e
      exact .inl (.inr (.inr (.inr (.inr ⟨u, e⟩))))⟩
/-- a log step more -/
theorem DevAt.step (D : DevAt C H dev g d) (s : Option Int) : DevAt C (upd H g.ls (.lst (d.steps.map optV ++ [optV s]))) dev g (d.add s) :=
  ⟨by rw [upd_ne D.n3.symm]; exact D.at_, by rw [upd_ne D.n5.symm]; exact D.dp, D.pg, by rw [upd_ne D.ne]; exact D.pw, D.wr, by rw [upd_same]; show _ = some (HO.lst ((d.steps ++ [s]).map optV)); rw [List.map_append]; rfl, by rw [upd_ne D.ne3]; exact D.dl, same_ne D.sm D.f3, D.f0, D.f1, D.f2, D.f3, D.f4, D.ne, D.ne2, D.ne3⟩
theorem Fr.ls : Fr dev g H g (upd H g.ls o) := ⟨fun b u n e => by rw [upd_ne (fun z => n (.inr (.inr (.inr (.inl (.inl z))))))]; exact e, fun _ h => .inl h⟩
theorem Fr.dl : Fr dev g H g (upd H g.dl o) := ⟨fun b u n e => by rw [upd_ne (fun z => n (.inr (.inr (.inr (.inl (.inr z))))))]; exact e, fun _ h => .inl h⟩
/-- more bytes in the durable log -/
theorem DevAt.extL (D : DevAt C H dev g d) : DevAt C (upd H g.dl (.lst (xs.map V.int))) dev g { d with log := xs } :=
  ⟨by rw [upd_ne D.n6.symm]; exact D.at_, by rw [upd_ne D.n7.symm]; exact D.dp, D.pg, by rw [upd_ne D.ne2.symm]; exact D.pw, D.wr, by rw [upd_ne D.ne3.symm]; exact D.ls, upd_same, same_ne D.sm D.f4, D.f0, D.f1, D.f2, D.f3, D.f4, D.ne, D.ne2, D.ne3⟩
theorem wr_more {F : Hp} {vs : List V} {ws : List (Int × List Int)} {v : V} {w0 : Int × List Int} (W : WrIn F vs ws) (h : WrOne F v w0) : WrIn F (vs ++ [v]) (ws ++ [w0]) :=
  ⟨by rw [List.length_append, List.length_append, W.len]; rfl, fun i v' w a b => by
    have hl := W.len
    by_cases hi : i < vs.length
    · rw [List.getElem?_append_left hi] at a
      rw [List.getElem?_append_left (by omega)] at b
      exact W.each i v' w a b
    · rw [List.getElem?_append_right (by omega)] at a b
      have e0 : i - vs.length = 0 := by
        have := (List.getElem?_eq_some_iff.mp a).1
        simp at this
        omega
      rw [← hl] at b
      rw [e0] at a b
      obtain rfl : v = v' := Option.some.inj a
      obtain rfl : w0 = w := Option.some.inj b
      exact h⟩
/-- a write more -/
theorem DevAt.wmore (D : DevAt C H dev g d) {v : V} (h : WrOne g.F v (n, xs)) : DevAt C (upd H g.pw (.lst (g.vs ++ [v]))) dev { g with vs := g.vs ++ [v] } (d.write n xs) :=
  ⟨by rw [upd_ne D.n2.symm]; exact D.at_, by show upd H g.pw _ g.dp = _; rw [upd_ne D.n4.symm]; exact D.dp, D.pg, upd_same, wr_more D.wr h, by show upd H g.pw _ g.ls = _; rw [upd_ne D.ne.symm]; exact D.ls, by show upd H g.pw _ g.dl = _; rw [upd_ne D.ne2]; exact D.dl, same_ne D.sm D.f2, D.f0, D.f1, D.f2, D.f3, D.f4, D.ne, D.ne2, D.ne3⟩
theorem Fr.pw {vs : List V} : Fr dev g H { g with vs := vs } (upd H g.pw o) := ⟨fun b u n e => by rw [upd_ne (fun z => n (.inr (.inr (.inl z))))]; exact e, fun _ h => .inl h⟩
theorem pg_put {F : Hp} {kvs : List (Key × V)} {f : Int → Option (List Int)} (P : PgIn F kvs f) (hp : F p = some (.lst (xs.map V.int))) (hl : xs.length ≤ 1000) : PgIn F (putK kvs (.inl n) (.ref p)) (putP f n xs) := fun j => by
  rw [valV_put]
  by_cases hj : j = n
  · subst hj
    exact .inr ⟨p, xs, if_pos rfl, if_pos rfl, hp, hl⟩
  · rcases P j with ⟨a, b⟩ | ⟨q, ys, a, b, c, e⟩
    · exact .inl ⟨(if_neg hj).trans a, (if_neg (fun z => hj (Sum.inl.inj z))).trans b⟩
    · exact .inr ⟨q, ys, (if_neg hj).trans a, (if_neg (fun z => hj (Sum.inl.inj z))).trans b, c, e⟩
/-- a durable page -/
theorem DevAt.put (D : DevAt C H dev g d) (hp : g.F p = some (.lst (xs.map V.int))) (hl : xs.length ≤ 1000) : DevAt C (upd H g.dp (.dK (putK g.kvs (.inl n) (.ref p)))) dev { g with kvs := putK g.kvs (.inl n) (.ref p) } { d with pages := putP d.pages n xs } :=
  ⟨by rw [upd_ne D.n1.symm]; exact D.at_, upd_same, pg_put D.pg hp hl, by show upd H g.dp _ g.pw = _; rw [upd_ne D.n4]; exact D.pw, D.wr, by show upd H g.dp _ g.ls = _; rw [upd_ne D.n5]; exact D.ls, by show upd H g.dp _ g.dl = _; rw [upd_ne D.n7]; exact D.dl, same_ne D.sm D.f1, D.f0, D.f1, D.f2, D.f3, D.f4, D.ne, D.ne2, D.ne3⟩
theorem Fr.dp {kvs : List (Key × V)} : Fr dev g H { g with kvs := kvs } (upd H g.dp o) := ⟨fun b u n e => by rw [upd_ne (fun z => n (.inr (.inl z)))]; exact e, fun _ h => .inl h⟩
/-- no writes: a new empty list in the field -/
theorem DevAt.noW (D : DevAt C H dev g d) (hp : H p = none) : DevAt C (upd (upd H p (.lst [])) dev (.ins C g.dx (devF { g with pw := p } d))) dev { g with pw := p, vs := [] } { d with writes := [] } := by
  have s2 : Same H (upd H p (.lst [])) := same_upd hp
  have npd : p ≠ dev := (ne_of_none D.at_ hp).symm
  exact ⟨upd_same, by show upd _ dev _ g.dp = _; rw [upd_ne D.n1]; exact s2 _ _ D.dp, D.pg, by show upd _ dev _ p = _; rw [upd_ne npd, upd_same], ⟨rfl, fun i v w a _ => by cases a⟩, by show upd _ dev _ g.ls = _; rw [upd_ne D.n3]; exact s2 _ _ D.ls, by show upd _ dev _ g.dl = _; rw [upd_ne D.n6]; exact s2 _ _ D.dl, same_ne (fun b o e => s2 b o (D.sm b o e)) D.f0, D.f0, D.f1, D.sm.free hp, D.f3, D.f4, (ne_of_none D.ls hp).symm, ne_of_none D.dl hp, D.ne3⟩
theorem Fr.noW (hp : H p = none) {o' : HO} : Fr dev g H { g with pw := p, vs := [] } (upd (upd H p o') dev o) := ⟨fun b u n e => by rw [upd_ne (fun z => n (.inl z))]; exact same_upd hp b u e, fun b h => by
  rcases h with h | h | h | h | ⟨u, e⟩
  · exact .inl (.inl h)
  · exact .inl (.inr (.inl h))
  · have h : b = p := h
    subst h
    exact .inr hp
  · exact .inl (.inr (.inr (.inr (.inl h))))
  · exact .inl (.inr (.inr (.inr (.inr ⟨u, e⟩))))⟩
/-- no log steps -/
theorem DevAt.noL (D : DevAt C H dev g d) (hp : H p = none) : DevAt C (upd (upd H p (.lst [])) dev (.ins C g.dx (devF { g with ls := p } d))) dev { g with ls := p } { d with steps := [] } := by
  have s2 : Same H (upd H p (.lst [])) := same_upd hp
  have npd : p ≠ dev := (ne_of_none D.at_ hp).symm
  exact ⟨upd_same, by show upd _ dev _ g.dp = _; rw [upd_ne D.n1]; exact s2 _ _ D.dp, D.pg, by show upd _ dev _ g.pw = _; rw [upd_ne D.n2]; exact s2 _ _ D.pw, D.wr, by show upd _ dev _ p = _; rw [upd_ne npd, upd_same]; rfl, by show upd _ dev _ g.dl = _; rw [upd_ne D.n6]; exact s2 _ _ D.dl, same_ne (fun b o e => s2 b o (D.sm b o e)) D.f0, D.f0, D.f1, D.f2, D.sm.free hp, D.f4, ne_of_none D.pw hp, D.ne2, ne_of_none D.dl hp⟩
theorem Fr.noL (hp : H p = none) {o' : HO} : Fr dev g H { g with ls := p } (upd (upd H p o') dev o) := ⟨fun b u n e => by rw [upd_ne (fun z => n (.inl z))]; exact same_upd hp b u e, fun b h => by
  rcases h with h | h | h | h | ⟨u, e⟩
  · exact .inl (.inl h)
  · exact .inl (.inr (.inl h))
  · exact .inl (.inr (.inr (.inl h)))
  · rcases h with h | h
    · have h : b = p := h
      subst h
      exact .inr hp
    · exact .inl (.inr (.inr (.inr (.inl (.inr h)))))
  · exact .inl (.inr (.inr (.inr (.inr ⟨u, e⟩))))⟩
/-- behind a call that made the new log -/
theorem Fr.newL (s : Same H H') (hp : H p = none) : Fr dev g H { g with dl := p } (upd H' dev o) := ⟨fun b u n e => by rw [upd_ne (fun z => n (.inl z))]; exact s b u e, fun b h => by
  rcases h with h | h | h | (h | h) | ⟨u, e⟩
  · exact .inl (.inl h)
  · exact .inl (.inr (.inl h))
  · exact .inl (.inr (.inr (.inl h)))
  · exact .inl (.inr (.inr (.inr (.inl (.inl h)))))
  · have h : b = p := h
    subst h
    exact .inr hp
  · exact .inl (.inr (.inr (.inr (.inr ⟨u, e⟩))))⟩
theorem putK_le (c : List (Key × V)) (k : Key) (x : V) : (putK c k x).length ≤ c.length + 1 := by
  unfold putK
  split
  · rw [List.length_map]
    exact Nat.le_succ _
  · rw [List.length_append]
    exact Nat.le_refl _
/-- another durable log -/
theorem DevAt.newL (D : DevAt C H dev g d) (s : Same H H') (np : H p = none) (hp : H' p = some (.lst (xs.map V.int))) : DevAt C (upd H' dev (.ins C g.dx (devF { g with dl := p } d))) dev { g with dl := p } { d with log := xs } :=
  have D' := D.same s
  ⟨upd_same, by show upd _ dev _ g.dp = _; rw [upd_ne D.n1]; exact D'.dp, D.pg, by show upd _ dev _ g.pw = _; rw [upd_ne D.n2]; exact D'.pw, D.wr, by show upd _ dev _ g.ls = _; rw [upd_ne D.n3]; exact D'.ls, by show upd _ dev _ p = _; rw [upd_ne (ne_of_none D.at_ np).symm]; exact hp, same_ne D'.sm D.f0, D.f0, D.f1, D.f2, D.f3, D.sm.free np, D.ne, (ne_of_none D.pw np).symm, (ne_of_none D.ls np).symm⟩
/-- nothing but bytes: they are put behind -/
theorem afterL_bytes (l : List Int) : ∀ ss : List (Option Int), (ss.map optV).any (fun y => eqV y .non) = false → (afterL l ss).map V.int = l.map V.int ++ ss.map optV := by
  intro ss
  induction ss generalizing l with
  | nil => intro _; exact (List.append_nil _).symm
  | cons s r ih =>
    intro h
    rw [List.map_cons, List.any_cons, Bool.or_eq_false_iff] at h
    cases s with
    | none => cases h.1
    | some b =>
      show (afterL (l ++ [b]) r).map V.int = _
      rw [ih (l ++ [b]) h.2, List.map_append, List.append_assoc]
      rfl
end
end Nv

namespace Nv
open PySem L2 PyProof.Rows RZ
/-! # errors of own classes, made without an argument; what a try's suite asks -/
theorem pmk_own0 {X : Cx} {C : Addr} {bmB : List Value} {B newId initId : String} {x : Str} {p pos : Pos} (F : ExcBaseFacts B newId initId bmB) (q : PySem.W.excIn X.K C bmB newId = true) (gC : X.mg x = some (.ref C)) (kC : PySem.W.keepIn X.K (.ref C) = true) (r : Raises X (.ref C)) (hg : Gl X x)
    (hdb : (x == ("__debug__" : Str)) = false := by decide) : PMk X (.Call (.Name x p) [] [] pos) (fun _ H Q => Q (.ref C) none H) := by
  intro pins s σ H Q I h
  refine wpAny_Call_Name_kw (ld_glob I hg gC ?_ hdb)
  refine PySem.W.callWith_K0 (first := []) I.kIn kC ?_
  obtain ⟨bm, N, nm, qn, bs, hdct, sn, sub, ab, col, dd, k0, k1, k2, k3, k5, mN, hC, hN, hni, T⟩ := exc_obj I.kIn q
  obtain ⟨hp1, g1, d1, tk1, os1⟩ := s
  refine wpAny_call_exc_subT F T hC hN hni (fun h' e hm => ?_) (Nat.zero_le _)
  exact mk_of I hm r h (I.hok.gone hm.new)
/-- an error's word for whatever slots: what a try's suite asks -/
def anyS (W : WX) : XK := fun cls d H => ∀ σ, W cls d σ H
theorem passAny {X : Cx} {W : WX} (tk : Takes X W) : Passes (L2.CX X.prog X.w) X (anyS W) := passes_call tk fun _ _ σ _ h => h σ
/-- as many slots as names -/
def tLen (n : Nat) (t : TS) : TS := fun D σ H => σ.length = n → t D σ H
theorem pss_len {X : Cx} {st : List Stmt} {n : Nat} {t : TS} (hn : X.N.length = n) (h : PSs X st t) : PSs X st (tLen n t) := ⟨fun pins s σ H D I q => h.run pins s σ H D I (q (I.len.trans hn))⟩
/-- statements under a condition that the reading tells -/
def tGiven (p : Prop) (t : TS) : TS := fun D σ H => p ∧ t D σ H
theorem pss_given {X : Cx} {st : List Stmt} {p : Prop} {t : TS} (h : p → PSs X st t) : PSs X st (tGiven p t) := ⟨fun pins s σ H D I q => (h q.1).run pins s σ H D I q.2⟩
/-- isinstance of an error: of an own class, of ValueError -/
theorem kit_own {K : Frag} {t : Value} {C : Addr} (h1 : PySem.W.isClsIn K C = true) (h2 : PySem.W.typeIn K (.ref C) = some (.type "type")) (h3 : PySem.W.subIn K t (.ref C) = some true) : PySem.W.kitOne K t (.ref C) = some true := by
  unfold PySem.W.kitOne
  split
  · rfl
  · have h1' : (PySem.W.clsIn K C).isSome = true := h1
    have h4 : ((PySem.W.clsIn K C).isSome && PySem.W.typeIn K (.ref C) == some (.type "type")) = true := by
      rw [h1', h2]
      rfl
    exact (if_pos h4).trans h3
theorem kit_VE {K : Frag} {C : Addr} (h : PySem.W.subIn K (.ref C) (.type "ValueError") = some true) : PySem.W.kitOne K (.ref C) (.type "ValueError") = some true := by
  unfold PySem.W.kitOne
  split
  · rfl
  · exact Eq.trans (if_pos (e := (none : Option Bool)) (show PySem.W.kitMeta "ValueError" = true by decide +kernel)) h
/-- zip of two lists of any lengths -/
theorem for_zipM {K : Frag} {a b : Addr} {xs ys : List V} {g : TG} {tb : TS} {D : Ends} {σ : L2.St} {H : Hp} (Pv : Nat → L2.St → Hp → Prop) (h0 : Pv 0 σ H) (hq : ∀ i σ H, Pv i σ H → SqL K H a xs ∧ SqL K H b ys)
    (hs : ∀ (i : Nat) (x y : V) (T : Addr) (σ : L2.St) (H : Hp), xs[i]? = some x → ys[i]? = some y → Pv i σ H → H T = none → g (.ref T) σ (upd H T (.tup [x, y])) fun σ2 H2 => tb { D with nx := Pv (i + 1), ct := Pv (i + 1), bk := D.nx } σ2 H2) (hd : ∀ σ H, Pv (min xs.length ys.length) σ H → D.nx σ H) :
    ∃ W : Nat → Nat → L2.St → Hp → Prop, (∃ m, W 0 m σ H) ∧ ∀ i m σ H, W i m σ H →
      ((Itz K a b).stop i H ∧ D.nx σ H) ∨ ((Itz K a b).go i H ∧ ∃ N : L2.St → Hp → Prop, (∀ σ' H', N σ' H' → ∃ m', m' < m ∧ W (i + 1) m' σ' H') ∧ ∀ v H', (Itz K a b).yld i H v H' → g v σ H' fun σ2 H2 => tb { D with nx := N, ct := N, bk := D.nx } σ2 H2) := by
  refine ⟨fun i m σ H => m = min xs.length ys.length - i ∧ i ≤ min xs.length ys.length ∧ Pv i σ H, ⟨_, rfl, Nat.zero_le _, h0⟩, ?_⟩
  rintro i m σ H ⟨rfl, hi, p⟩
  obtain ⟨qx, qy⟩ := hq i σ H p
  by_cases hlt : i < min xs.length ys.length
  · have hx : xs[i]? = some (xs[i]'(by omega)) := List.getElem?_eq_getElem (by omega)
    have hy : ys[i]? = some (ys[i]'(by omega)) := List.getElem?_eq_getElem (by omega)
    refine .inr ⟨⟨xs, ys, _, _, qx, qy, hx, hy⟩, Pv (i + 1), fun σ' H' p' => ⟨min xs.length ys.length - (i + 1), by omega, rfl, hlt, p'⟩, fun v H' y => ?_⟩
    obtain ⟨T, x', y', rfl, hT, rfl, f1, f2⟩ := y
    exact hs i x' y' T σ H (f1 xs qx) (f2 ys qy) p hT
  · have e : i = min xs.length ys.length := by omega
    subst e
    exact .inl ⟨⟨xs, ys, qx, qy, by omega⟩, hd σ H p⟩
end Nv

namespace K03
open PySem L2 Nv
def top (i : Nat) : Stmt := PySem.Challenge.pw_nearvault_k03_devices.main.body.getD i (.Pass ⟨0, 0, 0, 0⟩)
abbrev s_log_after : Stmt := top 8
abbrev s_Device_init : Stmt := inClass (top 9) 0
abbrev s_Device_write_page : Stmt := inClass (top 9) 1
abbrev s_Device_sync_pages : Stmt := inClass (top 9) 2
abbrev s_Device_append : Stmt := inClass (top 9) 3
abbrev s_Device_clear : Stmt := inClass (top 9) 4
abbrev s_Device_sync_log : Stmt := inClass (top 9) 5
abbrev s_Device_page : Stmt := inClass (top 9) 6
abbrev s_Device_log : Stmt := inClass (top 9) 7
abbrev s_Device_limit : Stmt := inClass (top 9) 8
abbrev s_Device_crash : Stmt := inClass (top 9) 9
abbrev s_Device_steps : Stmt := inClass (top 9) 10
abbrev s_Device_pending : Stmt := inClass (top 9) 11
abbrev s_Device_take_step : Stmt := inClass (top 9) 12
abbrev s_Device_durable_page : Stmt := inClass (top 9) 13
abbrev s_Device_end_page_write : Stmt := inClass (top 9) 14
abbrev s_Device_end_log_steps : Stmt := inClass (top 9) 15
abbrev s_law_draw : Stmt := top 11
abbrev s_law_new : Stmt := top 12
abbrev s_law_may : Stmt := top 13
abbrev s_law_log : Stmt := top 14
abbrev s_law_page : Stmt := top 15
abbrev s_law_crash : Stmt := top 16
abbrev s_law_expected : Stmt := top 17
abbrev s_law_done : Stmt := top 18
abbrev s_law_same : Stmt := top 19
abbrev s_law : Stmt := top 20
theorem sc_log_after : FnScope ["log", "log_steps", "after", "step"] ["log", "log_steps"] (defScope s_log_after) := ⟨rfl, rfl, rfl, by decide +kernel, rfl, by decide +kernel, by decide +kernel⟩
theorem sc_Device_init : FnScope ["self"] ["self"] (defScope s_Device_init) := ⟨rfl, rfl, rfl, by decide +kernel, rfl, by decide +kernel, by decide +kernel⟩
theorem sc_Device_write_page : FnScope ["self", "number", "data"] ["self", "number", "data"] (defScope s_Device_write_page) := ⟨rfl, rfl, rfl, by decide +kernel, rfl, by decide +kernel, by decide +kernel⟩
theorem sc_Device_sync_pages : FnScope ["self", "number", "data"] ["self"] (defScope s_Device_sync_pages) := ⟨rfl, rfl, rfl, by decide +kernel, rfl, by decide +kernel, by decide +kernel⟩
theorem sc_Device_append : FnScope ["self", "data", "byte"] ["self", "data"] (defScope s_Device_append) := ⟨rfl, rfl, rfl, by decide +kernel, rfl, by decide +kernel, by decide +kernel⟩
theorem sc_Device_clear : FnScope ["self"] ["self"] (defScope s_Device_clear) := ⟨rfl, rfl, rfl, by decide +kernel, rfl, by decide +kernel, by decide +kernel⟩
theorem sc_Device_sync_log : FnScope ["self"] ["self"] (defScope s_Device_sync_log) := ⟨rfl, rfl, rfl, by decide +kernel, rfl, by decide +kernel, by decide +kernel⟩
theorem sc_Device_page : FnScope ["self", "number", "written", "data"] ["self", "number"] (defScope s_Device_page) := ⟨rfl, rfl, rfl, by decide +kernel, rfl, by decide +kernel, by decide +kernel⟩
theorem sc_Device_log : FnScope ["self"] ["self"] (defScope s_Device_log) := ⟨rfl, rfl, rfl, by decide +kernel, rfl, by decide +kernel, by decide +kernel⟩
theorem sc_Device_limit : FnScope ["self", "steps"] ["self", "steps"] (defScope s_Device_limit) := ⟨rfl, rfl, rfl, by decide +kernel, rfl, by decide +kernel, by decide +kernel⟩
theorem sc_Device_crash : FnScope ["self", "fates", "kept", "number", "data", "fate"] ["self", "fates", "kept"] (defScope s_Device_crash) := ⟨rfl, rfl, rfl, by decide +kernel, rfl, by decide +kernel, by decide +kernel⟩
theorem sc_Device_steps : FnScope ["self"] ["self"] (defScope s_Device_steps) := ⟨rfl, rfl, rfl, by decide +kernel, rfl, by decide +kernel, by decide +kernel⟩
theorem sc_Device_pending : FnScope ["self"] ["self"] (defScope s_Device_pending) := ⟨rfl, rfl, rfl, by decide +kernel, rfl, by decide +kernel, by decide +kernel⟩
theorem sc_Device_take_step : FnScope ["self"] ["self"] (defScope s_Device_take_step) := ⟨rfl, rfl, rfl, by decide +kernel, rfl, by decide +kernel, by decide +kernel⟩
theorem sc_Device_durable_page : FnScope ["self", "number"] ["self", "number"] (defScope s_Device_durable_page) := ⟨rfl, rfl, rfl, by decide +kernel, rfl, by decide +kernel, by decide +kernel⟩
theorem sc_Device_end_page_write : FnScope ["self", "number", "data", "fate", "second_half"] ["self", "number", "data", "fate"] (defScope s_Device_end_page_write) := ⟨rfl, rfl, rfl, by decide +kernel, rfl, by decide +kernel, by decide +kernel⟩
theorem sc_Device_end_log_steps : FnScope ["self", "log_steps"] ["self", "log_steps"] (defScope s_Device_end_log_steps) := ⟨rfl, rfl, rfl, by decide +kernel, rfl, by decide +kernel, by decide +kernel⟩
theorem sc_law_draw : FnScope ["state", "script", "size", "cell", "mixed", "digit"] ["state", "script", "size"] (defScope s_law_draw) := ⟨rfl, rfl, rfl, by decide +kernel, rfl, by decide +kernel, by decide +kernel⟩
theorem sc_law_new : FnScope [] [] (defScope s_law_new) := ⟨rfl, rfl, rfl, by decide +kernel, rfl, by decide +kernel, by decide +kernel⟩
theorem sc_law_may : FnScope ["model"] ["model"] (defScope s_law_may) := ⟨rfl, rfl, rfl, by decide +kernel, rfl, by decide +kernel, by decide +kernel⟩
theorem sc_law_log : FnScope ["model", "data", "byte"] ["model"] (defScope s_law_log) := ⟨rfl, rfl, rfl, by decide +kernel, rfl, by decide +kernel, by decide +kernel⟩
theorem sc_law_page : FnScope ["model", "number", "data", "other", "content"] ["model", "number"] (defScope s_law_page) := ⟨rfl, rfl, rfl, by decide +kernel, rfl, by decide +kernel, by decide +kernel⟩
theorem sc_law_crash : FnScope ["model", "fates", "kept", "k", "number", "data", "old"] ["model", "fates", "kept"] (defScope s_law_crash) := ⟨rfl, rfl, rfl, by decide +kernel, rfl, by decide +kernel, by decide +kernel⟩
theorem sc_law_expected : FnScope ["model", "kind", "number", "data", "byte", "other", "content"] ["model", "kind", "number", "data"] (defScope s_law_expected) := ⟨rfl, rfl, rfl, by decide +kernel, rfl, by decide +kernel, by decide +kernel⟩
theorem sc_law_done : FnScope ["device", "kind", "number", "data", "error"] ["device", "kind", "number", "data"] (defScope s_law_done) := ⟨rfl, rfl, rfl, by decide +kernel, rfl, by decide +kernel, by decide +kernel⟩
theorem sc_law_same : FnScope ["device", "model", "number", "page"] ["device", "model"] (defScope s_law_same) := ⟨rfl, rfl, rfl, by decide +kernel, rfl, by decide +kernel, by decide +kernel⟩
theorem sc_law : FnScope ["script", "state", "device", "model", "turn", "kind", "number", "data", "due", "steps", "fates", "kept", "k"] ["script"] (defScope s_law) := ⟨rfl, rfl, rfl, by decide +kernel, rfl, by decide +kernel, by decide +kernel⟩
structure Txt (K : PySem.W.Frag) (mg : Str → Option Value) where
  f_log_after : Addr
  fd_log_after : FuncData
  F_log_after : Fun K "log_after" "log_after" s_log_after f_log_after fd_log_after
  b_log_after : Binds K fd_log_after ["log", "log_steps"] []
  g_log_after : mg "log_after" = some (.ref f_log_after)
  f_Device_init : Addr
  fd_Device_init : FuncData
  F_Device_init : Fun K "__init__" "Device.__init__" s_Device_init f_Device_init fd_Device_init
  b_Device_init : Binds K fd_Device_init ["self"] []
  f_Device_write_page : Addr
  fd_Device_write_page : FuncData
  F_Device_write_page : Fun K "write_page" "Device.write_page" s_Device_write_page f_Device_write_page fd_Device_write_page
  b_Device_write_page : Binds K fd_Device_write_page ["self", "number", "data"] []
  f_Device_sync_pages : Addr
  fd_Device_sync_pages : FuncData
  F_Device_sync_pages : Fun K "sync_pages" "Device.sync_pages" s_Device_sync_pages f_Device_sync_pages fd_Device_sync_pages
  b_Device_sync_pages : Binds K fd_Device_sync_pages ["self"] []
  f_Device_append : Addr
  fd_Device_append : FuncData
  F_Device_append : Fun K "append" "Device.append" s_Device_append f_Device_append fd_Device_append
  b_Device_append : Binds K fd_Device_append ["self", "data"] []
  f_Device_clear : Addr
  fd_Device_clear : FuncData
  F_Device_clear : Fun K "clear" "Device.clear" s_Device_clear f_Device_clear fd_Device_clear
  b_Device_clear : Binds K fd_Device_clear ["self"] []
  f_Device_sync_log : Addr
  fd_Device_sync_log : FuncData
  F_Device_sync_log : Fun K "sync_log" "Device.sync_log" s_Device_sync_log f_Device_sync_log fd_Device_sync_log
  b_Device_sync_log : Binds K fd_Device_sync_log ["self"] []
  f_Device_page : Addr
  fd_Device_page : FuncData
  F_Device_page : Fun K "page" "Device.page" s_Device_page f_Device_page fd_Device_page
  b_Device_page : Binds K fd_Device_page ["self", "number"] []
  f_Device_log : Addr
  fd_Device_log : FuncData
  F_Device_log : Fun K "log" "Device.log" s_Device_log f_Device_log fd_Device_log
  b_Device_log : Binds K fd_Device_log ["self"] []
  f_Device_limit : Addr
  fd_Device_limit : FuncData
  F_Device_limit : Fun K "limit" "Device.limit" s_Device_limit f_Device_limit fd_Device_limit
  b_Device_limit : Binds K fd_Device_limit ["self", "steps"] []
  f_Device_crash : Addr
  fd_Device_crash : FuncData
  F_Device_crash : Fun K "crash" "Device.crash" s_Device_crash f_Device_crash fd_Device_crash
  b_Device_crash : Binds K fd_Device_crash ["self", "fates", "kept"] []
  f_Device_steps : Addr
  fd_Device_steps : FuncData
  F_Device_steps : Fun K "steps" "Device.steps" s_Device_steps f_Device_steps fd_Device_steps
  b_Device_steps : Binds K fd_Device_steps ["self"] []
  f_Device_pending : Addr
  fd_Device_pending : FuncData
  F_Device_pending : Fun K "pending" "Device.pending" s_Device_pending f_Device_pending fd_Device_pending
  b_Device_pending : Binds K fd_Device_pending ["self"] []
  f_Device_take_step : Addr
  fd_Device_take_step : FuncData
  F_Device_take_step : Fun K "_take_step" "Device._take_step" s_Device_take_step f_Device_take_step fd_Device_take_step
  b_Device_take_step : Binds K fd_Device_take_step ["self"] []
  f_Device_durable_page : Addr
  fd_Device_durable_page : FuncData
  F_Device_durable_page : Fun K "_durable_page" "Device._durable_page" s_Device_durable_page f_Device_durable_page fd_Device_durable_page
  b_Device_durable_page : Binds K fd_Device_durable_page ["self", "number"] []
  f_Device_end_page_write : Addr
  fd_Device_end_page_write : FuncData
  F_Device_end_page_write : Fun K "_end_page_write" "Device._end_page_write" s_Device_end_page_write f_Device_end_page_write fd_Device_end_page_write
  b_Device_end_page_write : Binds K fd_Device_end_page_write ["self", "number", "data", "fate"] []
  f_Device_end_log_steps : Addr
  fd_Device_end_log_steps : FuncData
  F_Device_end_log_steps : Fun K "_end_log_steps" "Device._end_log_steps" s_Device_end_log_steps f_Device_end_log_steps fd_Device_end_log_steps
  b_Device_end_log_steps : Binds K fd_Device_end_log_steps ["self", "log_steps"] []
  f_law_draw : Addr
  fd_law_draw : FuncData
  F_law_draw : Fun K "_law_draw" "_law_draw" s_law_draw f_law_draw fd_law_draw
  b_law_draw : Binds K fd_law_draw ["state", "script", "size"] []
  g_law_draw : mg "_law_draw" = some (.ref f_law_draw)
  f_law_new : Addr
  fd_law_new : FuncData
  F_law_new : Fun K "_law_new" "_law_new" s_law_new f_law_new fd_law_new
  b_law_new : Binds K fd_law_new [] []
  g_law_new : mg "_law_new" = some (.ref f_law_new)
  f_law_may : Addr
  fd_law_may : FuncData
  F_law_may : Fun K "_law_may" "_law_may" s_law_may f_law_may fd_law_may
  b_law_may : Binds K fd_law_may ["model"] []
  g_law_may : mg "_law_may" = some (.ref f_law_may)
  f_law_log : Addr
  fd_law_log : FuncData
  F_law_log : Fun K "_law_log" "_law_log" s_law_log f_law_log fd_law_log
  b_law_log : Binds K fd_law_log ["model"] []
  g_law_log : mg "_law_log" = some (.ref f_law_log)
  f_law_page : Addr
  fd_law_page : FuncData
  F_law_page : Fun K "_law_page" "_law_page" s_law_page f_law_page fd_law_page
  b_law_page : Binds K fd_law_page ["model", "number"] []
  g_law_page : mg "_law_page" = some (.ref f_law_page)
  f_law_crash : Addr
  fd_law_crash : FuncData
  F_law_crash : Fun K "_law_crash" "_law_crash" s_law_crash f_law_crash fd_law_crash
  b_law_crash : Binds K fd_law_crash ["model", "fates", "kept"] []
  g_law_crash : mg "_law_crash" = some (.ref f_law_crash)
  f_law_expected : Addr
  fd_law_expected : FuncData
  F_law_expected : Fun K "_law_expected" "_law_expected" s_law_expected f_law_expected fd_law_expected
  b_law_expected : Binds K fd_law_expected ["model", "kind", "number", "data"] []
  g_law_expected : mg "_law_expected" = some (.ref f_law_expected)
  f_law_done : Addr
  fd_law_done : FuncData
  F_law_done : Fun K "_law_done" "_law_done" s_law_done f_law_done fd_law_done
  b_law_done : Binds K fd_law_done ["device", "kind", "number", "data"] []
  g_law_done : mg "_law_done" = some (.ref f_law_done)
  f_law_same : Addr
  fd_law_same : FuncData
  F_law_same : Fun K "_law_same" "_law_same" s_law_same f_law_same fd_law_same
  b_law_same : Binds K fd_law_same ["device", "model"] []
  g_law_same : mg "_law_same" = some (.ref f_law_same)
  f_law : Addr
  fd_law : FuncData
  F_law : Fun K "law" "law" s_law f_law fd_law
  b_law : Binds K fd_law ["script"] []
  g_law : mg "law" = some (.ref f_law)
  C_VaultError : Addr
  g_VaultError : mg "VaultError" = some (.ref C_VaultError)
  x_VaultError : PySem.W.excIn K C_VaultError [.type "ValueError", .type "Exception", .type "BaseException", .type "object"] "ValueError.__new__" = true
  k_VaultError : PySem.W.keepIn K (.ref C_VaultError) = true
  xb_VaultError : PySem.W.subIn K (.ref C_VaultError) (.type "BaseException") = some true
  xt_VaultError : PySem.W.typeIn K (.ref C_VaultError) = some (.type "type")
  xi_VaultError : PySem.W.isClsIn K C_VaultError = true
  xs_VaultError : PySem.W.subIn K (.ref C_VaultError) (.ref C_VaultError) = some true
  C_PowerCut : Addr
  g_PowerCut : mg "PowerCut" = some (.ref C_PowerCut)
  x_PowerCut : PySem.W.excIn K C_PowerCut [.type "ValueError", .type "Exception", .type "BaseException", .type "object"] "ValueError.__new__" = true
  k_PowerCut : PySem.W.keepIn K (.ref C_PowerCut) = true
  xb_PowerCut : PySem.W.subIn K (.ref C_PowerCut) (.type "BaseException") = some true
  xt_PowerCut : PySem.W.typeIn K (.ref C_PowerCut) = some (.type "type")
  xi_PowerCut : PySem.W.isClsIn K C_PowerCut = true
  xga_PowerCut : PySem.W.findIn K (.ref C_PowerCut) "__getattribute__" = some (some (.builtin "BaseException.__getattribute__"))
  xgt_PowerCut : PySem.W.findIn K (.ref C_PowerCut) "__getattr__" = some none
  xhd_PowerCut : PySem.W.hasDictIn K C_PowerCut = true
  xcl_PowerCut : PySem.W.findIn K (.ref C_PowerCut) "__class__" = some (some (.builtin "object.__class__"))
  xn_PowerCut : PySem.W.specialIn K (.builtin "object.__class__") "__get__" = some (some (.builtin "getset_descriptor.__get__"))
  xta_PowerCut : PySem.W.takesIn K (.builtin "object.__class__") = some true
  xm_PowerCut : PySem.W.mroIn K C_PowerCut (.type "object") = some true
  xv_PowerCut : PySem.W.subIn K (.ref C_PowerCut) (.type "ValueError") = some true
  xs_PowerCut : PySem.W.subIn K (.ref C_PowerCut) (.ref C_PowerCut) = some true
  xs_PowerCut_VaultError : PySem.W.subIn K (.ref C_PowerCut) (.ref C_VaultError) = some true
  C_Device : Addr
  g_Device : mg "Device" = some (.ref C_Device)
  cl_Device : Cls K C_Device
  mk_Device : Mk K C_Device f_Device_init
  m_Device_write_page : Meth K C_Device "write_page" f_Device_write_page
  m_Device_sync_pages : Meth K C_Device "sync_pages" f_Device_sync_pages
  m_Device_append : Meth K C_Device "append" f_Device_append
  m_Device_clear : Meth K C_Device "clear" f_Device_clear
  m_Device_sync_log : Meth K C_Device "sync_log" f_Device_sync_log
  m_Device_page : Meth K C_Device "page" f_Device_page
  m_Device_log : Meth K C_Device "log" f_Device_log
  m_Device_limit : Meth K C_Device "limit" f_Device_limit
  m_Device_crash : Meth K C_Device "crash" f_Device_crash
  m_Device_steps : Meth K C_Device "steps" f_Device_steps
  m_Device_pending : Meth K C_Device "pending" f_Device_pending
  m_Device_take_step : Meth K C_Device "_take_step" f_Device_take_step
  m_Device_durable_page : Meth K C_Device "_durable_page" f_Device_durable_page
  m_Device_end_page_write : Meth K C_Device "_end_page_write" f_Device_end_page_write
  m_Device_end_log_steps : Meth K C_Device "_end_log_steps" f_Device_end_log_steps
  n_Device__durable_pages : NoAttr K C_Device "_durable_pages"
  n_Device__page_writes : NoAttr K C_Device "_page_writes"
  n_Device__durable_log : NoAttr K C_Device "_durable_log"
  n_Device__log_steps : NoAttr K C_Device "_log_steps"
  n_Device__steps_performed : NoAttr K C_Device "_steps_performed"
  n_Device__steps_allowed : NoAttr K C_Device "_steps_allowed"
  z_list : mg "list" = none
  z_range : mg "range" = none
  z_reversed : mg "reversed" = none
  z_zip : mg "zip" = none
  z_int : mg "int" = none
  z_min : mg "min" = none
  z_len : mg "len" = none
  z_max : mg "max" = none
  z_isinstance : mg "isinstance" = none
  t_PAGE_SIZE : Tok
  g_PAGE_SIZE : mg "PAGE_SIZE" = some (.int 256 t_PAGE_SIZE)
  t_HALF_PAGE : Tok
  g_HALF_PAGE : mg "HALF_PAGE" = some (.int 128 t_HALF_PAGE)
  t_TAKES_EFFECT : Tok
  g_TAKES_EFFECT : mg "TAKES_EFFECT" = some (.int 1 t_TAKES_EFFECT)
  t_FIRST_HALF_TAKES_EFFECT : Tok
  g_FIRST_HALF_TAKES_EFFECT : mg "FIRST_HALF_TAKES_EFFECT" = some (.int 2 t_FIRST_HALF_TAKES_EFFECT)
  z_ValueError : mg "ValueError" = none

end K03


namespace K03
open PySem L2 Nv
/-! # the law's model of a device: a dict of parts; the ghost is a device's -/
def mostI (d : DS) : Int := match d.allowed with
  | none => -1
  | some a => d.done + a
def stepI : Option Int → Int
  | none => -1
  | some b => b
/-- the model's dict, by what it answers -/
structure MD (ks : List (Key × V)) (dp pw dl ls : Addr) (done most : Int) : Prop where
  pages : valV ks (.inr "pages") = some (.ref dp)
  writes : valV ks (.inr "writes") = some (.ref pw)
  log : valV ks (.inr "log") = some (.ref dl)
  steps : valV ks (.inr "steps") = some (.ref ls)
  done : valV ks (.inr "done") = some (.int done)
  most : valV ks (.inr "most") = some (.int most)
  len : ks.length ≤ 6
theorem putK_in {ks : List (Key × V)} {k : Key} {v x : V} (h : valV ks k = some x) : (putK ks k v).length = ks.length := by
  unfold putK
  rw [valV_any, h, if_pos (show (some x).isSome = true from rfl), List.length_map]
section
variable {ks : List (Key × V)} {dp pw dl ls q : Addr} {done most i : Int}
theorem MD.put_done (M : MD ks dp pw dl ls done most) : MD (putK ks (.inr "done") (.int i)) dp pw dl ls i most := by
  refine ⟨?_, ?_, ?_, ?_, ?_, ?_, by rw [putK_in M.done]; exact M.len⟩ <;> rw [valV_put] <;> first | exact if_pos rfl | (rw [if_neg (by decide +kernel)]; first | exact M.pages | exact M.writes | exact M.log | exact M.steps | exact M.most)
theorem MD.put_most (M : MD ks dp pw dl ls done most) : MD (putK ks (.inr "most") (.int i)) dp pw dl ls done i := by
  refine ⟨?_, ?_, ?_, ?_, ?_, ?_, by rw [putK_in M.most]; exact M.len⟩ <;> rw [valV_put] <;> first | exact if_pos rfl | (rw [if_neg (by decide +kernel)]; first | exact M.pages | exact M.writes | exact M.log | exact M.steps | exact M.done)
theorem MD.put_writes (M : MD ks dp pw dl ls done most) : MD (putK ks (.inr "writes") (.ref q)) dp q dl ls done most := by
  refine ⟨?_, ?_, ?_, ?_, ?_, ?_, by rw [putK_in M.writes]; exact M.len⟩ <;> rw [valV_put] <;> first | exact if_pos rfl | (rw [if_neg (by decide +kernel)]; first | exact M.pages | exact M.log | exact M.steps | exact M.done | exact M.most)
theorem MD.put_log (M : MD ks dp pw dl ls done most) : MD (putK ks (.inr "log") (.ref q)) dp pw q ls done most := by
  refine ⟨?_, ?_, ?_, ?_, ?_, ?_, by rw [putK_in M.log]; exact M.len⟩ <;> rw [valV_put] <;> first | exact if_pos rfl | (rw [if_neg (by decide +kernel)]; first | exact M.pages | exact M.writes | exact M.steps | exact M.done | exact M.most)
theorem MD.put_steps (M : MD ks dp pw dl ls done most) : MD (putK ks (.inr "steps") (.ref q)) dp pw dl q done most := by
  refine ⟨?_, ?_, ?_, ?_, ?_, ?_, by rw [putK_in M.steps]; exact M.len⟩ <;> rw [valV_put] <;> first | exact if_pos rfl | (rw [if_neg (by decide +kernel)]; first | exact M.pages | exact M.writes | exact M.log | exact M.done | exact M.most)
end
/-- the numbers of a state are in order -/
structure Good (d : DS) : Prop where
  dn : 0 ≤ d.done
  al : ∀ a, d.allowed = some a → 0 ≤ a
  nn : ∀ b, some b ∈ d.steps → 0 ≤ b
structure ModAt (H : Hp) (m : Addr) (g : DG) (d : DS) : Prop where
  at_ : ∃ ks, H m = some (.dK ks) ∧ MD ks g.dp g.pw g.dl g.ls d.done (mostI d)
  dp : H g.dp = some (.dK g.kvs)
  pg : PgIn g.F g.kvs d.pages
  pw : H g.pw = some (.lst g.vs)
  wr : WrIn g.F g.vs d.writes
  ls : H g.ls = some (.lst (d.steps.map fun s => V.int (stepI s)))
  dl : g.F g.dl = some (.lst (d.log.map V.int))
  sm : Same g.F H
  f0 : g.F m = none
  f1 : g.F g.dp = none
  f2 : g.F g.pw = none
  f3 : g.F g.ls = none
  ne : g.pw ≠ g.ls
  nd : g.dp ≠ m
  ok : Good d
section
variable {m p t : Addr} {H H' : Hp} {g : DG} {d : DS} {n i : Int} {xs : List Int} {o : HO}
theorem ModAt.n2 (D : ModAt H m g d) : g.pw ≠ m := by
  obtain ⟨ks, e, _⟩ := D.at_
  exact ne_of D.pw e (fun z => nomatch z)
theorem ModAt.n3 (D : ModAt H m g d) : g.ls ≠ m := by
  obtain ⟨ks, e, _⟩ := D.at_
  exact ne_of D.ls e (fun z => nomatch z)
theorem ModAt.n4 (D : ModAt H m g d) : g.pw ≠ g.dp := ne_of D.pw D.dp (fun z => nomatch z)
theorem ModAt.n5 (D : ModAt H m g d) : g.ls ≠ g.dp := ne_of D.ls D.dp (fun z => nomatch z)
theorem ModAt.has (D : ModAt H m g d) {b : Addr} (h : own m g b) : ∃ o, H b = some o := by
  obtain ⟨ks, e, _⟩ := D.at_
  rcases h with rfl | rfl | rfl | (rfl | rfl) | ⟨o, e⟩
  · exact ⟨_, e⟩
  · exact ⟨_, D.dp⟩
  · exact ⟨_, D.pw⟩
  · exact ⟨_, D.ls⟩
  · exact ⟨_, D.sm _ _ D.dl⟩
  · exact ⟨_, D.sm _ _ e⟩
theorem ModAt.not_own (D : ModAt H m g d) {b : Addr} (h : H b = none) : ¬ own m g b := fun k => by
  obtain ⟨o, e⟩ := D.has k
  rw [h] at e
  cases e
theorem ModAt.kp (D : ModAt H m g d) (h : ∀ b o, own m g b → H b = some o → H' b = some o) : ModAt H' m g d := by
  obtain ⟨ks, e, M⟩ := D.at_
  exact ⟨⟨ks, h _ _ (.inl rfl) e, M⟩, h _ _ (.inr (.inl rfl)) D.dp, D.pg, h _ _ (.inr (.inr (.inl rfl))) D.pw, D.wr, h _ _ (.inr (.inr (.inr (.inl (.inl rfl))))) D.ls, D.dl, fun b o e => h _ _ (.inr (.inr (.inr (.inr ⟨o, e⟩)))) (D.sm _ _ e), D.f0, D.f1, D.f2, D.f3, D.ne, D.nd, D.ok⟩
theorem ModAt.same (D : ModAt H m g d) (h : Same H H') : ModAt H' m g d := D.kp fun b o _ e => h b o e
/-- another dict with the same parts -/
theorem ModAt.num (D : ModAt H m g d) {d' : DS} {ks : List (Key × V)} (M : MD ks g.dp g.pw g.dl g.ls d'.done (mostI d')) (h1 : d'.pages = d.pages) (h2 : d'.writes = d.writes) (h3 : d'.log = d.log) (h4 : d'.steps = d.steps) (ok : Good d') : ModAt (upd H m (.dK ks)) m g d' :=
  ⟨⟨ks, upd_same, M⟩, by rw [upd_ne D.nd]; exact D.dp, by rw [h1]; exact D.pg, by rw [upd_ne D.n2]; exact D.pw, by rw [h2]; exact D.wr, by rw [upd_ne D.n3, h4]; exact D.ls, by rw [h3]; exact D.dl, same_ne D.sm D.f0, D.f0, D.f1, D.f2, D.f3, D.ne, D.nd, ok⟩
theorem ModAt.ext (D : ModAt H m g d) (hp : H p = none) : ModAt (upd H p o) m { g with F := upd g.F p o } d := by
  have hF : g.F p = none := D.sm.free hp
  have s1 : Same g.F (upd g.F p o) := same_upd hF
  have s2 : Same H (upd H p o) := same_upd hp
  obtain ⟨ks, e0, M⟩ := D.at_
  have nn : ∀ {b : Addr} {u : HO}, H b = some u → g.F b = none → upd g.F p o b = none := fun e f => by rw [upd_ne (ne_of_none e hp)]; exact f
  exact ⟨⟨ks, s2 _ _ e0, M⟩, s2 _ _ D.dp, pgIn_ext s1 D.pg, s2 _ _ D.pw, wrIn_ext s1 D.wr, s2 _ _ D.ls, s1 _ _ D.dl, fun b u e => by
    have e : upd g.F p o b = some u := e
    by_cases hb : b = p
    · subst hb; rw [upd_same] at e ⊢; exact e
    · rw [upd_ne hb] at e ⊢; exact D.sm b u e, nn e0 D.f0, nn D.dp D.f1, nn D.pw D.f2, nn D.ls D.f3, D.ne, D.nd, D.ok⟩
theorem good_add (ok : Good d) {s : Option Int} (h : ∀ b, s = some b → 0 ≤ b) : Good (d.add s) := ⟨ok.dn, ok.al, fun b hb => by
  have hb : some b ∈ d.steps ++ [s] := hb
  rcases List.mem_append.mp hb with k | k
  · exact ok.nn b k
  · exact h b (List.mem_singleton.mp k).symm⟩
theorem ModAt.step (D : ModAt H m g d) {s : Option Int} (h : ∀ b, s = some b → 0 ≤ b) : ModAt (upd H g.ls (.lst ((d.steps.map fun s => V.int (stepI s)) ++ [.int (stepI s)]))) m g (d.add s) := by
  obtain ⟨ks, e0, M⟩ := D.at_
  exact ⟨⟨ks, by rw [upd_ne D.n3.symm]; exact e0, M⟩, by rw [upd_ne D.n5.symm]; exact D.dp, D.pg, by rw [upd_ne D.ne]; exact D.pw, D.wr, by rw [upd_same]; show _ = some (HO.lst ((d.steps ++ [s]).map fun s => V.int (stepI s))); rw [List.map_append]; rfl, D.dl, same_ne D.sm D.f3, D.f0, D.f1, D.f2, D.f3, D.ne, D.nd, good_add D.ok h⟩
theorem ModAt.wmore (D : ModAt H m g d) {v : V} (h : WrOne g.F v (n, xs)) : ModAt (upd H g.pw (.lst (g.vs ++ [v]))) m { g with vs := g.vs ++ [v] } (d.write n xs) := by
  obtain ⟨ks, e0, M⟩ := D.at_
  exact ⟨⟨ks, by rw [upd_ne D.n2.symm]; exact e0, M⟩, by show upd H g.pw _ g.dp = _; rw [upd_ne D.n4.symm]; exact D.dp, D.pg, upd_same, wr_more D.wr h, by show upd H g.pw _ g.ls = _; rw [upd_ne D.ne.symm]; exact D.ls, D.dl, same_ne D.sm D.f2, D.f0, D.f1, D.f2, D.f3, D.ne, D.nd, ⟨D.ok.dn, D.ok.al, D.ok.nn⟩⟩
theorem ModAt.put (D : ModAt H m g d) (hp : g.F p = some (.lst (xs.map V.int))) (hl : xs.length ≤ 1000) : ModAt (upd H g.dp (.dK (putK g.kvs (.inl n) (.ref p)))) m { g with kvs := putK g.kvs (.inl n) (.ref p) } { d with pages := putP d.pages n xs } := by
  obtain ⟨ks, e0, M⟩ := D.at_
  exact ⟨⟨ks, by rw [upd_ne D.nd.symm]; exact e0, M⟩, upd_same, pg_put D.pg hp hl, by show upd H g.dp _ g.pw = _; rw [upd_ne D.n4]; exact D.pw, D.wr, by show upd H g.dp _ g.ls = _; rw [upd_ne D.n5]; exact D.ls, D.dl, same_ne D.sm D.f1, D.f0, D.f1, D.f2, D.f3, D.ne, D.nd, ⟨D.ok.dn, D.ok.al, D.ok.nn⟩⟩
theorem ModAt.noW (D : ModAt H m g d) (hp : H p = none) : ∃ ks, upd H p (.lst []) m = some (.dK ks) ∧ ks.length ≤ 6 ∧ ModAt (upd (upd H p (.lst [])) m (.dK (putK ks (.inr "writes") (.ref p)))) m { g with pw := p, vs := [] } { d with writes := [] } := by
  obtain ⟨ks, e0, M⟩ := D.at_
  have s2 : Same H (upd H p (.lst [])) := same_upd hp
  have npd : p ≠ m := (ne_of_none e0 hp).symm
  exact ⟨ks, s2 _ _ e0, M.len, ⟨_, upd_same, M.put_writes⟩, by show upd _ m _ g.dp = _; rw [upd_ne D.nd]; exact s2 _ _ D.dp, D.pg, by show upd _ m _ p = _; rw [upd_ne npd, upd_same], ⟨rfl, fun i v w a _ => by cases a⟩, by show upd _ m _ g.ls = _; rw [upd_ne D.n3]; exact s2 _ _ D.ls, D.dl, same_ne (fun b o e => s2 b o (D.sm b o e)) D.f0, D.f0, D.f1, D.sm.free hp, D.f3, (ne_of_none D.ls hp).symm, D.nd, ⟨D.ok.dn, D.ok.al, D.ok.nn⟩⟩
theorem ModAt.noL (D : ModAt H m g d) (hp : H p = none) : ∃ ks, upd H p (.lst []) m = some (.dK ks) ∧ ks.length ≤ 6 ∧ ModAt (upd (upd H p (.lst [])) m (.dK (putK ks (.inr "steps") (.ref p)))) m { g with ls := p } { d with steps := [] } := by
  obtain ⟨ks, e0, M⟩ := D.at_
  have s2 : Same H (upd H p (.lst [])) := same_upd hp
  have npd : p ≠ m := (ne_of_none e0 hp).symm
  exact ⟨ks, s2 _ _ e0, M.len, ⟨_, upd_same, M.put_steps⟩, by show upd _ m _ g.dp = _; rw [upd_ne D.nd]; exact s2 _ _ D.dp, D.pg, by show upd _ m _ g.pw = _; rw [upd_ne D.n2]; exact s2 _ _ D.pw, D.wr, by show upd _ m _ p = _; rw [upd_ne npd, upd_same]; rfl, D.dl, same_ne (fun b o e => s2 b o (D.sm b o e)) D.f0, D.f0, D.f1, D.f2, D.sm.free hp, ne_of_none D.pw hp, D.nd, ⟨D.ok.dn, D.ok.al, fun b hb => absurd hb (by simp)⟩⟩
/-- other log steps: a list of its own in the dict -/
theorem ModAt.otherL (D : ModAt H m g d) {ss : List (Option Int)} (hp : H p = none) (hs : ∀ b, some b ∈ ss → 0 ≤ b) : ∃ ks, upd H p (.lst (ss.map fun s => V.int (stepI s))) m = some (.dK ks) ∧ ks.length ≤ 6 ∧ ModAt (upd (upd H p (.lst (ss.map fun s => V.int (stepI s)))) m (.dK (putK ks (.inr "steps") (.ref p)))) m { g with ls := p } { d with steps := ss } := by
  obtain ⟨ks, e0, M⟩ := D.at_
  have s2 : Same H (upd H p (.lst (ss.map fun s => V.int (stepI s)))) := same_upd hp
  have npd : p ≠ m := (ne_of_none e0 hp).symm
  exact ⟨ks, s2 _ _ e0, M.len, ⟨_, upd_same, M.put_steps⟩, by show upd _ m _ g.dp = _; rw [upd_ne D.nd]; exact s2 _ _ D.dp, D.pg, by show upd _ m _ g.pw = _; rw [upd_ne D.n2]; exact s2 _ _ D.pw, D.wr, by show upd _ m _ p = _; rw [upd_ne npd, upd_same], D.dl, same_ne (fun b o e => s2 b o (D.sm b o e)) D.f0, D.f0, D.f1, D.f2, D.sm.free hp, ne_of_none D.pw hp, D.nd, ⟨D.ok.dn, D.ok.al, hs⟩⟩
theorem ModAt.newL (D : ModAt H m g d) (hp : g.F p = some (.lst (xs.map V.int))) : ∃ ks, H m = some (.dK ks) ∧ ks.length ≤ 6 ∧ ModAt (upd H m (.dK (putK ks (.inr "log") (.ref p)))) m { g with dl := p } { d with log := xs } := by
  obtain ⟨ks, e0, M⟩ := D.at_
  exact ⟨ks, e0, M.len, ⟨_, upd_same, M.put_log⟩, by show upd _ m _ g.dp = _; rw [upd_ne D.nd]; exact D.dp, D.pg, by show upd _ m _ g.pw = _; rw [upd_ne D.n2]; exact D.pw, D.wr, by show upd _ m _ g.ls = _; rw [upd_ne D.n3]; exact D.ls, hp, same_ne D.sm D.f0, D.f0, D.f1, D.f2, D.f3, D.ne, D.nd, ⟨D.ok.dn, D.ok.al, D.ok.nn⟩⟩
/-- another log, that stays -/
theorem frOldL {u : HO} (hp : g.F p = some u) : Fr m g H { g with dl := p } (upd H m o) := ⟨fun b u n e => by rw [upd_ne (fun z => n (.inl z))]; exact e, fun b h => by
  rcases h with h | h | h | (h | h) | h
  · exact .inl (.inl h)
  · exact .inl (.inr (.inl h))
  · exact .inl (.inr (.inr (.inl h)))
  · exact .inl (.inr (.inr (.inr (.inl (.inl h)))))
  · have h : b = p := h
    exact .inl (.inr (.inr (.inr (.inr ⟨u, by rw [h]; exact hp⟩))))
  · exact .inl (.inr (.inr (.inr (.inr h))))⟩
end
end K03

namespace K03
open PySem L2 Nv RZ
local macro_rules | `(tactic| walk_at "hp") => `(tactic| first
  | assumption
  | exact upd_same
  | exact (upd_ne (by assumption)).trans (by first | assumption | exact upd_same | exact (upd_ne (by assumption)).trans (by first | assumption | exact upd_same))
  | exact (upd_ne (Ne.symm (by assumption))).trans (by first | assumption | exact upd_same))
local macro_rules | `(tactic| walk_at "cond") => `(tactic| first
  | (change (0 : Int) < _; first | decide | omega)
  | exact Or.inr ⟨by decide, by decide⟩
  | exact Or.inl ⟨by decide, by decide⟩
  | exact Or.inr ⟨by omega, by omega⟩
  | exact Or.inl ⟨by omega, by omega⟩
  | exact ⟨by decide, by decide, by decide⟩
  | exact wide_div (by first | decide | omega) (show _ < 2 ^ 64 by first | decide | omega) (by decide) (by decide)
  | (change (0 : Int) ≤ _; first | decide | omega)
  | exact ⟨by decide, by decide⟩
  | exact ⟨by omega, by omega⟩)
local macro_rules | `(tactic| walk_at "val") => `(tactic| first
  | (with_reducible exact val_c)
  | ((with_reducible apply val_var); exact rfl)
  | ((with_reducible apply val_I0); walk_at "val"; walk_at "val")
  | ((with_reducible apply val_I); walk_at "val"; walk_at "val"; walk_at "cond")
  | ((with_reducible apply val_ixL); walk_at "val"; walk_at "val"; (first | exact SqL.of (by walk_at "hp") | assumption); exact rfl)
  | ((with_reducible apply val_len); walk_at "val"; first | exact Or.inl (SqL.of (by walk_at "hp")) | exact Or.inl (by assumption) | exact Or.inr (by assumption) | exact Or.inr (SqT.of (by walk_at "hp")))
  | ((with_reducible apply val_int1); walk_at "val")
  | ((with_reducible apply val_abs); walk_at "val")
  | ((with_reducible apply val_max2); walk_at "val"; walk_at "val")
  | ((with_reducible apply val_eq); walk_at "val"; walk_at "val"; exact rfl)
  | ((with_reducible apply val_ne); walk_at "val"; walk_at "val"; exact rfl)
  | ((with_reducible apply val_not); walk_at "val")
  | ((with_reducible apply val_U); walk_at "val"))
local macro_rules | `(tactic| walk_at "ans") => `(tactic| first
  | ((with_reducible apply ans_Eq); walk_at "val"; walk_at "val"; exact rfl)
  | ((with_reducible apply ans_Ne); walk_at "val"; walk_at "val"; exact rfl)
  | ((with_reducible apply ans_I0); walk_at "val"; walk_at "val"; exact rfl)
  | ((with_reducible refine ans_And ?_ (fun _ => ?_)); walk_at "ans"; walk_at "ans")
  | ((with_reducible refine ans_or2 ?_ (fun _ => ?_)); walk_at "ans"; walk_at "ans")
  | ((with_reducible refine ans_not ?_); walk_at "ans")
  | ((with_reducible apply ans_val); walk_at "val"))
local macro_rules | `(tactic| walk_at "nrm") => `(tactic| (try dsimp only [List.set_cons_zero, List.set_cons_succ]))
local macro_rules | `(tactic| walk_at "set") => `(tactic| first
  | ((with_reducible apply q_set); walk_at "val"; walk_at "nrm")
  | ((with_reducible apply s_set); walk_at "val"; walk_at "nrm"))
local macro_rules | `(tactic| walk_at "setL") => `(tactic| first
  | ((with_reducible apply q_setL); walk_at "val"; walk_at "val"; walk_at "val"; walk_at "hp"; exact rfl; walk_at "nrm")
  | ((with_reducible apply s_setL); walk_at "val"; walk_at "val"; walk_at "val"; walk_at "hp"; exact rfl; walk_at "nrm"))
local macro_rules | `(tactic| walk_at "ff") => `(tactic| (walk_at "nrm"; rw [if_neg (by decide)]; (try ((with_reducible refine st_next ?_); walk_at "nrm"))))
local macro_rules | `(tactic| walk_at "nok") => `(tactic| (refine ⟨_, rfl, rfl, _, rfl, ?_⟩; walk_at "nrm"; rw [if_neg (by decide)]))
local macro_rules | `(tactic| walk_at "yesk") => `(tactic| (refine ⟨_, rfl, rfl, _, rfl, ?_⟩; walk_at "nrm"; rw [if_pos (by decide)]))
local macro_rules | `(tactic| walk_at "no") => `(tactic| (walk_at "nrm"; rw [if_neg (by decide)]; walk_at "nrm"))
local macro_rules | `(tactic| walk_at "yes") => `(tactic| (walk_at "nrm"; rw [if_pos (by decide)]; walk_at "nrm"))
local macro_rules | `(tactic| walk_at "nos") => `(tactic| (walk_at "nrm"; repeat (rw [if_neg (by decide)]; walk_at "nrm"); (try ((with_reducible refine st_next ?_); walk_at "nrm"))))

section
variable {P : Program} {w : World} {K : PySem.W.Frag} {mg : Str → Option Value} {base : Heap}
/-! ### the device's methods -/
def bnd (g : DG) (d : DS) : Nat := g.kvs.length + d.writes.length
def spTick (C CP : Addr) : Sp := fun vs H Q E => ∃ (dev : Addr) (g : DG) (d : DS), vs = [.ref dev] ∧ DevAt C H dev g d ∧ (d.tick = none → E (.ref CP) none H) ∧
  ∀ (d' : DS) (H' : Hp), d.tick = some d' → DevAt C H' dev g d' → (∀ b, b ≠ dev → H' b = H b) → Q .non H'
theorem ok_Device_take_step (T : Txt K mg) : FnOk P w K mg base (L2.CX P w) 2 T.f_Device_take_step T.fd_Device_take_step ["self"] (spTick T.C_Device T.C_PowerCut) := by
  refine T.F_Device_take_step.okX sc_Device_take_step (fun vs H Q E h => ?_) (fun cdv A outer s H vs Q E hr h => ?_)
  · obtain ⟨_, _, _, rfl, _⟩ := h
    rfl
  obtain ⟨dev, g, d, rfl, D, kN, kS⟩ := h
  refine ⟨_, (pss_cons (ps_if (pt_cmpR op_notN (pe_fld (pv 0) rfl) pe_non (nomark _))
        (pss_cons (ps_if (pt_cmpR op_le (pe_fld (pv 0) rfl) pe_int (nomark _))
          (pss_one (ps_raise rfl (takes_of rfl rfl rfl rfl) (pmk_own0 PySem.F.excBase_ValueError T.x_PowerCut T.g_PowerCut T.k_PowerCut (raises_own T.xb_PowerCut T.xt_PowerCut) (by rfl))))
          pss_nil)
        (pss_one (ps_fldaug (pv 0) pe_int in_sub)))
        pss_nil)
      (pss_one (ps_fldaug (pv 0) pe_int in_add))), ?_⟩
  (try dsimp only [cxOf])
  rw [show start ["self"] [.ref dev] = [some (.ref dev)] from rfl]
  refine ⟨_, rfl, dev, T.C_Device, g.dx, devF g d, _, rfl, D.at_, T.cl_Device, T.n_Device__steps_allowed, lk_all, rfl, _, rfl, ?_⟩
  walk_at "nrm"
  cases ha : d.allowed with
  | none =>
    rw [if_neg (show ¬ (!decide (optV none = V.non)) = true by decide)]
    refine ⟨_, rfl, dev, T.C_Device, g.dx, devF g d, _, rfl, D.at_, T.cl_Device, T.n_Device__steps_performed, lk_done, _, _, rfl, rfl, g.dx, devF g d, D.at_, (by show 6 < 1000; decide), ?_⟩
    rw [put_done]
    exact kS { d with done := d.done + 1 } _ (by unfold DS.tick; rw [ha]) (D.num rfl rfl rfl rfl) fun b hb => upd_ne hb
  | some a =>
    rw [if_pos (show (!decide (optV (some a) = V.non)) = true from rfl)]
    refine ⟨_, rfl, dev, T.C_Device, g.dx, devF g d, V.int a, rfl, D.at_, T.cl_Device, T.n_Device__steps_allowed, (by rw [lk_all, ha]; rfl), a, 0, rfl, rfl, _, rfl, ?_⟩
    walk_at "nrm"
    by_cases h0 : a ≤ 0
    · rw [if_pos (decide_eq_true h0)]
      exact kN (by unfold DS.tick; rw [ha]; exact if_pos h0)
    · rw [if_neg (by rw [decide_eq_false h0]; exact Bool.false_ne_true)]
      refine ⟨_, rfl, dev, T.C_Device, g.dx, devF g d, V.int a, rfl, D.at_, T.cl_Device, T.n_Device__steps_allowed, (by rw [lk_all, ha]; rfl), a, 1, rfl, rfl, g.dx, devF g d, D.at_, (by show 6 < 1000; decide), ?_⟩
      rw [show putF "_steps_allowed" (V.int (a - 1)) (devF g d) = devF g { d with allowed := some (a - 1) } from put_all (a := some (a - 1))]
      have D1 : DevAt T.C_Device _ dev g { d with allowed := some (a - 1) } := D.num (d' := { d with allowed := some (a - 1) }) rfl rfl rfl rfl
      refine ⟨_, rfl, dev, T.C_Device, g.dx, devF g { d with allowed := some (a - 1) }, _, rfl, D1.at_, T.cl_Device, T.n_Device__steps_performed, lk_done, _, _, rfl, rfl, g.dx, devF g { d with allowed := some (a - 1) }, D1.at_, (by show 6 < 1000; decide), ?_⟩
      rw [put_done, upd_upd]
      exact kS { d with done := d.done + 1, allowed := some (a - 1) } _ (by unfold DS.tick; rw [ha]; exact if_neg h0) (D.num rfl rfl rfl rfl) fun b hb => upd_ne hb
theorem Fr_of {dev : Addr} {g : DG} {H H' : Hp} (h : ∀ b, b ≠ dev → H' b = H b) : Fr dev g H g H' := ⟨fun b o n e => by rw [h b (fun z => n (.inl z))]; exact e, fun _ h => .inl h⟩
theorem tick_same {d d' : DS} (h : d.tick = some d') : d'.pages = d.pages ∧ d'.writes = d.writes ∧ d'.log = d.log ∧ d'.steps = d.steps := by
  unfold DS.tick at h
  cases ha : d.allowed with
  | none =>
    rw [ha] at h
    cases h
    exact ⟨rfl, rfl, rfl, rfl⟩
  | some a =>
    rw [ha] at h
    by_cases h0 : a ≤ 0
    · have h : (if a ≤ 0 then none else some { d with done := d.done + 1, allowed := some (a - 1) }) = some d' := h
      rw [if_pos h0] at h
      cases h
    · have h : (if a ≤ 0 then none else some { d with done := d.done + 1, allowed := some (a - 1) }) = some d' := h
      rw [if_neg h0] at h
      cases h
      exact ⟨rfl, rfl, rfl, rfl⟩
def spAfter (K : Frag) : Sp := fun vs H Q _ => ∃ (a b : Addr) (l : List Int) (ss : List (Option Int)), vs = [.ref a, .ref b] ∧ SqL K H a (l.map V.int) ∧ SqL K H b (ss.map optV) ∧ l.length + ss.length ≤ 1000000 ∧
  ∀ (p : Addr) (H' : Hp), Same H H' → H p = none → H' p = some (.lst ((afterL l ss).map V.int)) → Q (.ref p) H'
theorem ok_log_after (T : Txt K mg) : FnOk P w K mg base CX0 1 T.f_log_after T.fd_log_after ["log", "log_steps"] (spAfter K) := by
  refine T.F_log_after.ok sc_log_after (fun vs H Q E h => ?_) (fun cdv A outer s H vs Q E hr h => ?_)
  · obtain ⟨_, _, _, _, rfl, _⟩ := h
    rfl
  obtain ⟨a, b, l, ss, rfl, hA, hB, hl, q⟩ := h
  refine ⟨_, (pss_cons (ps_set (i := 2) sc_log_after.nd rfl (by first | exact Or.inl rfl | exact Or.inr rfl) (pe_callTy call_list_of (by rfl) T.z_list (by decide +kernel) (pa_cons (pv 0) pa_nil)))
      (pss_cons (ps_for PassesOwn.never rfl (pi_list (pv 1)) (pg_name (i := 3) sc_log_after.nd rfl (by first | exact Or.inl rfl | exact Or.inr rfl))
        (pss_one (ps_if (pt_cmpR op_isN (pv 3) pe_non (nomark _))
          (pss_one (ps_set (i := 2) sc_log_after.nd rfl (by first | exact Or.inl rfl | exact Or.inr rfl) (pe_lst pa_nil)))
          (pss_one (ps_expr (pe_bm PySem.F.plainAttrs_list PySem.F.slot_list_append PySem.F.type_list_append mt_append (pv 2) (pa_cons (pv 3) pa_nil)))))))
      (pss_one (ps_ret (pv 2))))), ?_⟩
  (try dsimp only [cxOf])
  rw [show start ["log", "log_steps", "after", "step"] [.ref a, .ref b] = [some (.ref a), some (.ref b), none, none] from rfl]
  refine q_setg ?_
  refine ⟨_, rfl, a, _, rfl, .inl hA, fun p hp => ?_⟩
  walk_at "nrm"
  have s1 : Same H (upd H p (.lst (l.map V.int))) := same_upd hp
  refine ⟨_, rfl, b, rfl, ⟨_, s1.seq hB⟩, for_list (K := K) (a := b) (xs := ss.map optV) (fun i σ' H' => ∃ (p : Addr) (c : Option V), σ' = [some (.ref a), some (.ref b), some (.ref p), c] ∧ Same H H' ∧ H p = none ∧ H' p = some (.lst ((afterL l (ss.take i)).map V.int)))
    ⟨p, none, rfl, s1, hp, upd_same⟩ (fun i σ' H' _ ⟨_, _, _, s2, _⟩ => s2.seq hB) ?_ ?_⟩
  · rintro i x σ' H' hx ⟨p, c, rfl, s2, np, e⟩
    rw [List.getElem?_map] at hx
    obtain ⟨s, hs, rfl⟩ : ∃ s, ss[i]? = some s ∧ x = optV s := by
      cases e : ss[i]? with
      | none => rw [e] at hx; cases hx
      | some s => rw [e] at hx; exact ⟨s, rfl, (Option.some.inj hx).symm⟩
    have hi := (List.getElem?_eq_some_iff.mp hs).1
    refine ⟨_, rfl, rfl, _, rfl, ?_⟩
    walk_at "nrm"
    rw [take_more hs, afterL_snoc]
    cases s with
    | none =>
      rw [if_pos (show decide (optV none = V.non) = true by decide)]
      refine s_setg ?_
      refine ⟨Nat.zero_le _, fun p2 hp2 => ?_⟩
      exact ⟨p2, _, rfl, s2.trans (same_upd hp2), s2.free hp2, upd_same⟩
    | some z =>
      rw [if_neg (show ¬ decide (optV (some z) = V.non) = true from Bool.false_ne_true)]
      have h1 := afterL_len l (ss.take i)
      rw [List.length_take] at h1
      refine ⟨_, rfl, .inl ⟨rfl, _, SqL.of e⟩, _, rfl, p, _, _, rfl, rfl, e, ?_, p, _, rfl, ?_, np, ?_⟩
      · rw [List.length_map]
        exact Nat.lt_of_le_of_lt (show _ ≤ 1000000 by omega) (by decide)
      · exact fun b o hb => by
          rw [upd_ne (ne_of_none hb np)]
          exact s2 b o hb
      · rw [upd_same]
        show some (HO.lst ((afterL l (ss.take i)).map V.int ++ [V.int z])) = some (HO.lst ((afterL l (ss.take i) ++ [z]).map V.int))
        rw [List.map_append]
        rfl
  · rintro σ' H' ⟨p, c, rfl, s2, np, e⟩
    rw [List.length_map, List.take_length] at e
    exact s_ret (val_var rfl) (q p H' s2 np e)
def spLog (C : Addr) : Sp := fun vs H Q _ => ∃ (dev : Addr) (g : DG) (d : DS), vs = [.ref dev] ∧ DevAt C H dev g d ∧ d.log.length + d.steps.length ≤ 1000000 ∧ ∀ (p : Addr) (H' : Hp), Same H H' → H p = none → H' p = some (.lst (d.logNow.map V.int)) → Q (.ref p) H'
theorem ok_Device_log (T : Txt K mg) : FnOk P w K mg base CX0 2 T.f_Device_log T.fd_Device_log ["self"] (spLog T.C_Device) := by
  refine T.F_Device_log.ok sc_Device_log (fun vs H Q E h => ?_) (fun cdv A outer s H vs Q E hr h => ?_)
  · obtain ⟨_, _, _, rfl, _⟩ := h
    rfl
  obtain ⟨dev, g, d, rfl, D, hl, q⟩ := h
  refine ⟨_, (pss_one (ps_ret (pe_call (ok_log_after T) (hr.mono (by decide)) (by rfl) T.g_log_after T.F_log_after.kp T.b_log_after .nil pass0 (pa_cons (pe_fld (pv 0) rfl) (pa_cons (pe_fld (pv 0) rfl) pa_nil))))), ?_⟩
  (try dsimp only [cxOf])
  rw [show start ["self"] [.ref dev] = [some (.ref dev)] from rfl]
  refine ⟨_, rfl, dev, T.C_Device, g.dx, devF g d, _, rfl, D.at_, T.cl_Device, T.n_Device__durable_log, lk_dl, _, rfl, dev, T.C_Device, g.dx, devF g d, _, rfl, D.at_, T.cl_Device, T.n_Device__log_steps, lk_ls, ?_⟩
  exact ⟨g.dl, g.ls, d.log, d.steps, rfl, SqL.of D.dl, SqL.of D.ls, hl, q⟩

end
end K03


namespace K03
open PySem L2 Nv RZ
local macro_rules | `(tactic| walk_at "hp") => `(tactic| first
  | assumption
  | exact upd_same
  | exact (upd_ne (by assumption)).trans (by first | assumption | exact upd_same | exact (upd_ne (by assumption)).trans (by first | assumption | exact upd_same))
  | exact (upd_ne (Ne.symm (by assumption))).trans (by first | assumption | exact upd_same))
local macro_rules | `(tactic| walk_at "cond") => `(tactic| first
  | (change (0 : Int) < _; first | decide | omega)
  | exact Or.inr ⟨by decide, by decide⟩
  | exact Or.inl ⟨by decide, by decide⟩
  | exact Or.inr ⟨by omega, by omega⟩
  | exact Or.inl ⟨by omega, by omega⟩
  | exact ⟨by decide, by decide, by decide⟩
  | exact wide_div (by first | decide | omega) (show _ < 2 ^ 64 by first | decide | omega) (by decide) (by decide)
  | (change (0 : Int) ≤ _; first | decide | omega)
  | exact ⟨by decide, by decide⟩
  | exact ⟨by omega, by omega⟩)
local macro_rules | `(tactic| walk_at "val") => `(tactic| first
  | (with_reducible exact val_c)
  | ((with_reducible apply val_var); exact rfl)
  | ((with_reducible apply val_I0); walk_at "val"; walk_at "val")
  | ((with_reducible apply val_I); walk_at "val"; walk_at "val"; walk_at "cond")
  | ((with_reducible apply val_ixL); walk_at "val"; walk_at "val"; (first | exact SqL.of (by walk_at "hp") | assumption); exact rfl)
  | ((with_reducible apply val_len); walk_at "val"; first | exact Or.inl (SqL.of (by walk_at "hp")) | exact Or.inl (by assumption) | exact Or.inr (by assumption) | exact Or.inr (SqT.of (by walk_at "hp")))
  | ((with_reducible apply val_int1); walk_at "val")
  | ((with_reducible apply val_abs); walk_at "val")
  | ((with_reducible apply val_max2); walk_at "val"; walk_at "val")
  | ((with_reducible apply val_eq); walk_at "val"; walk_at "val"; exact rfl)
  | ((with_reducible apply val_ne); walk_at "val"; walk_at "val"; exact rfl)
  | ((with_reducible apply val_not); walk_at "val")
  | ((with_reducible apply val_U); walk_at "val"))
local macro_rules | `(tactic| walk_at "ans") => `(tactic| first
  | ((with_reducible apply ans_Eq); walk_at "val"; walk_at "val"; exact rfl)
  | ((with_reducible apply ans_Ne); walk_at "val"; walk_at "val"; exact rfl)
  | ((with_reducible apply ans_I0); walk_at "val"; walk_at "val"; exact rfl)
  | ((with_reducible refine ans_And ?_ (fun _ => ?_)); walk_at "ans"; walk_at "ans")
  | ((with_reducible refine ans_or2 ?_ (fun _ => ?_)); walk_at "ans"; walk_at "ans")
  | ((with_reducible refine ans_not ?_); walk_at "ans")
  | ((with_reducible apply ans_val); walk_at "val"))
local macro_rules | `(tactic| walk_at "nrm") => `(tactic| (try dsimp only [List.set_cons_zero, List.set_cons_succ]))
local macro_rules | `(tactic| walk_at "set") => `(tactic| first
  | ((with_reducible apply q_set); walk_at "val"; walk_at "nrm")
  | ((with_reducible apply s_set); walk_at "val"; walk_at "nrm"))
local macro_rules | `(tactic| walk_at "setL") => `(tactic| first
  | ((with_reducible apply q_setL); walk_at "val"; walk_at "val"; walk_at "val"; walk_at "hp"; exact rfl; walk_at "nrm")
  | ((with_reducible apply s_setL); walk_at "val"; walk_at "val"; walk_at "val"; walk_at "hp"; exact rfl; walk_at "nrm"))
local macro_rules | `(tactic| walk_at "ff") => `(tactic| (walk_at "nrm"; rw [if_neg (by decide)]; (try ((with_reducible refine st_next ?_); walk_at "nrm"))))
local macro_rules | `(tactic| walk_at "nok") => `(tactic| (refine ⟨_, rfl, rfl, _, rfl, ?_⟩; walk_at "nrm"; rw [if_neg (by decide)]))
local macro_rules | `(tactic| walk_at "yesk") => `(tactic| (refine ⟨_, rfl, rfl, _, rfl, ?_⟩; walk_at "nrm"; rw [if_pos (by decide)]))
local macro_rules | `(tactic| walk_at "no") => `(tactic| (walk_at "nrm"; rw [if_neg (by decide)]; walk_at "nrm"))
local macro_rules | `(tactic| walk_at "yes") => `(tactic| (walk_at "nrm"; rw [if_pos (by decide)]; walk_at "nrm"))
local macro_rules | `(tactic| walk_at "nos") => `(tactic| (walk_at "nrm"; repeat (rw [if_neg (by decide)]; walk_at "nrm"); (try ((with_reducible refine st_next ?_); walk_at "nrm"))))

section
variable {P : Program} {w : World} {K : PySem.W.Frag} {mg : Str → Option Value} {base : Heap}
def spWrite (C CP : Addr) : Sp := fun vs H Q E => ∃ (dev : Addr) (g : DG) (d : DS) (n : Int) (a : Addr) (xs : List Int), vs = [.ref dev, .int n, .ref a] ∧ DevAt C H dev g d ∧ H a = some (.lst (xs.map V.int)) ∧ xs.length ≤ 1000 ∧ bnd g d ≤ 1000000 ∧ (d.tick = none → E (.ref CP) none H) ∧
  ∀ (d' : DS) (g' : DG) (H' : Hp), d.tick = some d' → DevAt C H' dev g' (d'.write n xs) → Fr dev g H g' H' → bnd g' (d'.write n xs) ≤ bnd g d + 1 → Q .non H'
theorem ok_Device_write_page (T : Txt K mg) : FnOk P w K mg base (L2.CX P w) 3 T.f_Device_write_page T.fd_Device_write_page ["self", "number", "data"] (spWrite T.C_Device T.C_PowerCut) := by
  refine T.F_Device_write_page.okX sc_Device_write_page (fun vs H Q E h => ?_) (fun cdv A outer s H vs Q E hr h => ?_)
  · obtain ⟨_, _, _, _, _, _, rfl, _⟩ := h
    rfl
  obtain ⟨dev, g, d, n, a, xs, rfl, D, hA, hx, hb, kN, kS⟩ := h
  refine ⟨_, (pss_cons (ps_expr (pe_meth0 (pv 0) T.cl_Device T.m_Device_take_step (ok_Device_take_step T) (hr.mono (by decide)) T.b_Device_take_step .nil (passes_call (takes_of rfl rfl rfl rfl) (fun _ _ _ _ z => z))))
      (pss_one (ps_expr (pe_bm PySem.F.plainAttrs_list PySem.F.slot_list_append PySem.F.type_list_append mt_append (pe_fld (pv 0) rfl) (pa_cons (pe_tup (pa_cons (pv 1) (pa_cons (pe_callTy call_list_of (by rfl) T.z_list (by decide +kernel) (pa_cons (pv 2) pa_nil)) pa_nil))) pa_nil))))), ?_⟩
  (try dsimp only [cxOf])
  rw [show start ["self", "number", "data"] [.ref dev, .int n, .ref a] = [some (.ref dev), some (.int n), some (.ref a)] from rfl]
  refine ⟨_, rfl, dev, g.dx, devF g d, rfl, D.at_, lk_no (by decide +kernel), dev, g, d, rfl, D, kN, fun d' H1 ed D1 fr => ?_⟩
  obtain ⟨e1, e2, e3, e4⟩ := tick_same ed
  have hA1 : H1 a = some (.lst (xs.map V.int)) := by rw [fr a (ne_of hA D.at_ (fun z => nomatch z))]; exact hA
  refine ⟨_, rfl, dev, T.C_Device, g.dx, devF g d', _, rfl, D1.at_, T.cl_Device, T.n_Device__page_writes, lk_pw, .inl ⟨rfl, _, SqL.of D1.pw⟩, _, rfl, _, rfl, a, _, rfl, .inl (SqL.of hA1), fun l hl => ⟨by show 2 ≤ sizeLine; decide, fun t ht => ?_⟩⟩
  have D2 := D1.ext (o := .lst (xs.map V.int)) hl
  have D3 := D2.ext (o := .tup [.int n, .ref l]) ht
  have F3 : upd (upd g.F l (.lst (xs.map V.int))) t (.tup [.int n, .ref l]) l = some (.lst (xs.map V.int)) := by
    rw [upd_ne (ne_of_none (upd_same : upd H1 l (.lst (xs.map V.int)) l = _) ht)]
    exact upd_same
  have D4 := D3.wmore (n := n) (xs := xs) (v := .ref t) ⟨t, l, rfl, upd_same, F3, hx⟩
  have hlen : g.vs.length ≤ 1000000 := by
    have := D.wr.len
    unfold bnd at hb
    omega
  refine ⟨g.pw, g.vs, .ref t, rfl, rfl, D3.pw, Nat.lt_of_le_of_lt hlen (by decide), ?_⟩
  refine kS d' _ _ ed D4 ((((Fr_of fr).trans (Fr.ext hl)).trans (Fr.ext ht)).trans Fr.pw) ?_
  show g.kvs.length + (d'.writes ++ [(n, xs)]).length ≤ g.kvs.length + d.writes.length + 1
  rw [List.length_append, e2]
  exact Nat.le_refl _
def spSyncP (C CP : Addr) : Sp := fun vs H Q E => ∃ (dev : Addr) (g : DG) (d : DS), vs = [.ref dev] ∧ DevAt C H dev g d ∧ bnd g d ≤ 1000000 ∧ (d.tick = none → E (.ref CP) none H) ∧
  ∀ (d' : DS) (g' : DG) (H' : Hp), d.tick = some d' → DevAt C H' dev g' d'.syncP → Fr dev g H g' H' → bnd g' d'.syncP ≤ bnd g d → Q .non H'
theorem ok_Device_sync_pages (T : Txt K mg) : FnOk P w K mg base (L2.CX P w) 3 T.f_Device_sync_pages T.fd_Device_sync_pages ["self"] (spSyncP T.C_Device T.C_PowerCut) := by
  refine T.F_Device_sync_pages.okX sc_Device_sync_pages (fun vs H Q E h => ?_) (fun cdv A outer s H vs Q E hr h => ?_)
  · obtain ⟨_, _, _, rfl, _⟩ := h
    rfl
  obtain ⟨dev, g, d, rfl, D, hb, kN, kS⟩ := h
  refine ⟨_, (pss_cons (ps_expr (pe_meth0 (pv 0) T.cl_Device T.m_Device_take_step (ok_Device_take_step T) (hr.mono (by decide)) T.b_Device_take_step .nil (passes_call (takes_of rfl rfl rfl rfl) (fun _ _ _ _ z => z))))
      (pss_cons (ps_for (passes_of rfl) rfl (pi_list (pe_fld (pv 0) rfl)) (pg_tup (by rfl) (pgs_cons (pg_name (i := 1) sc_Device_sync_pages.nd rfl (by first | exact Or.inl rfl | exact Or.inr rfl)) (pgs_cons (pg_name (i := 2) sc_Device_sync_pages.nd rfl (by first | exact Or.inl rfl | exact Or.inr rfl)) pgs_nil)))
        (pss_one (ps_dput (hu_of hr) (pe_fld (pv 0) rfl) (pv 1) (pv 2) rfl)))
      (pss_one (ps_fld (pv 0) (pe_lst pa_nil) rfl)))), ?_⟩
  (try dsimp only [cxOf])
  rw [show start ["self", "number", "data"] [.ref dev] = [some (.ref dev), none, none] from rfl]
  refine ⟨_, rfl, dev, g.dx, devF g d, rfl, D.at_, lk_no (by decide +kernel), dev, g, d, rfl, D, kN, fun d' H1 ed D1 fr => ?_⟩
  obtain ⟨e1, e2, e3, e4⟩ := tick_same ed
  refine ⟨_, rfl, dev, T.C_Device, g.dx, devF g d', _, rfl, D1.at_, T.cl_Device, T.n_Device__page_writes, lk_pw, g.pw, rfl, ⟨_, SqL.of D1.pw⟩, for_list (K := K) (a := g.pw) (xs := g.vs) (fun i σ' H' => ∃ (kvs : List (Key × V)) (c1 c2 : Option V), σ' = [some (.ref dev), c1, c2] ∧ DevAt T.C_Device H' dev { g with kvs := kvs } { d' with pages := putAll d'.pages (d'.writes.take i) } ∧ Fr dev g H { g with kvs := kvs } H' ∧ kvs.length ≤ g.kvs.length + i)
    ⟨g.kvs, none, none, rfl, D1, Fr_of fr, Nat.le_refl _⟩ (fun i σ' H' _ ⟨_, _, _, _, D2, _, _⟩ => SqL.of D2.pw) ?_ ?_⟩
  · rintro i v σ' H' hv ⟨kvs, c1, c2, rfl, D2, f2, hk⟩
    have hi := (List.getElem?_eq_some_iff.mp hv).1
    have hl := D1.wr.len
    have hw : d'.writes[i]? = some (d'.writes[i]'(by omega)) := List.getElem?_eq_getElem (by omega)
    generalize d'.writes[i]'(by omega) = ww at hw
    obtain ⟨t, p, rfl, et, ep, hp⟩ := D2.wr.each i v ww hv hw
    refine ⟨t, _, rfl, SqT.of (D2.sm _ _ et), rfl, _, _, rfl, _, _, rfl, rfl, ?_⟩
    refine ⟨_, rfl, _, rfl, dev, T.C_Device, g.dx, devF _ _, _, rfl, D2.at_, T.cl_Device, T.n_Device__durable_pages, lk_dp, _, rfl, g.dp, _, rfl, DPut.k (k := .inl ww.1) D2.dp ?_, ?_⟩
    · unfold bnd at hb
      rw [e2] at hl
      exact Nat.lt_of_le_of_lt (show _ ≤ 1000000 by show kvs.length ≤ _; omega) (by decide)
    · refine ⟨putK kvs (.inl ww.1) (.ref p), _, _, rfl, ?_, f2.trans Fr.dp, ?_⟩
      · have D3 := D2.put (n := ww.1) ep hp
        rw [take_more hw, putAll_snoc]
        exact D3
      · have := putK_le kvs (.inl ww.1) (.ref p)
        exact Nat.le_trans this (by omega)
  · rintro σ' H' ⟨kvs, c1, c2, rfl, D2, f2, hk⟩
    have hl := D1.wr.len
    rw [hl, List.take_length] at D2
    refine ⟨Nat.zero_le _, fun p hp => ?_⟩
    have s3 := same_upd (o := .lst []) hp
    refine ⟨_, rfl, dev, T.C_Device, g.dx, devF _ _, rfl, s3 _ _ D2.at_, T.cl_Device, T.n_Device__page_writes, (by show 6 < 1000; decide), ?_⟩
    rw [put_pw]
    refine kS d' _ _ ed (D2.noW hp) (f2.trans (Fr.noW hp)) ?_
    show kvs.length + 0 ≤ g.kvs.length + d.writes.length
    rw [hl, e2] at hk
    omega
def spAppend (C CP : Addr) : Sp := fun vs H Q E => ∃ (dev : Addr) (g : DG) (d : DS) (a : Addr) (xs : List Int), vs = [.ref dev, .ref a] ∧ DevAt C H dev g d ∧ H a = some (.lst (xs.map V.int)) ∧ ¬ own dev g a ∧ d.steps.length + xs.length ≤ 1000000 ∧
  ((d.appendAll xs).2 = false → ∀ H', DevAt C H' dev g (d.appendAll xs).1 → Fr dev g H g H' → E (.ref CP) none H') ∧
  ((d.appendAll xs).2 = true → ∀ H', DevAt C H' dev g (d.appendAll xs).1 → Fr dev g H g H' → Q .non H')
theorem appendAll_none {d : DS} {b : Int} {r : List Int} (h : d.tick = none) : d.appendAll (b :: r) = (d, false) := by
  rw [DS.appendAll, h]
theorem appendAll_some {d e : DS} {b : Int} {r : List Int} (h : d.tick = some e) : d.appendAll (b :: r) = (e.add (some b)).appendAll r := by
  rw [DS.appendAll, h]
theorem ok_Device_append (T : Txt K mg) : FnOk P w K mg base (L2.CX P w) 3 T.f_Device_append T.fd_Device_append ["self", "data"] (spAppend T.C_Device T.C_PowerCut) := by
  refine T.F_Device_append.okX sc_Device_append (fun vs H Q E h => ?_) (fun cdv A outer s H vs Q E hr h => ?_)
  · obtain ⟨_, _, _, _, _, rfl, _⟩ := h
    rfl
  obtain ⟨dev, g, d, a, xs, rfl, D, hA, na, hx, kN, kS⟩ := h
  refine ⟨_, (pss_one (ps_for (passes_of rfl) rfl (pi_list (pv 1)) (pg_name (i := 2) sc_Device_append.nd rfl (by first | exact Or.inl rfl | exact Or.inr rfl))
        (pss_cons (ps_expr (pe_meth0 (pv 0) T.cl_Device T.m_Device_take_step (ok_Device_take_step T) (hr.mono (by decide)) T.b_Device_take_step .nil (passes_call (takes_of rfl rfl rfl rfl) (fun _ _ _ _ z => z))))
        (pss_one (ps_expr (pe_bm PySem.F.plainAttrs_list PySem.F.slot_list_append PySem.F.type_list_append mt_append (pe_fld (pv 0) rfl) (pa_cons (pv 2) pa_nil))))))), ?_⟩
  (try dsimp only [cxOf])
  rw [show start ["self", "data", "byte"] [.ref dev, .ref a] = [some (.ref dev), some (.ref a), none] from rfl]
  refine ⟨_, rfl, a, rfl, ⟨_, SqL.of hA⟩, for_list (K := K) (a := a) (xs := xs.map V.int) (fun i σ' H' => ∃ (d1 : DS) (c : Option V), σ' = [some (.ref dev), some (.ref a), c] ∧ DevAt T.C_Device H' dev g d1 ∧ Fr dev g H g H' ∧ d1.appendAll (xs.drop i) = d.appendAll xs ∧ d1.steps.length ≤ d.steps.length + i)
    ⟨d, none, rfl, D, Fr.refl _ _ _, rfl, Nat.le_refl _⟩ (fun i σ' H' _ ⟨_, _, _, _, f, _⟩ => SqL.of (f.keep _ _ na hA)) ?_ ?_⟩
  · rintro i v σ' H' hv ⟨d1, c, rfl, D1, f1, eq, hs⟩
    rw [List.getElem?_map] at hv
    obtain ⟨b, hb, rfl⟩ : ∃ b, xs[i]? = some b ∧ v = V.int b := by
      cases e : xs[i]? with
      | none => rw [e] at hv; cases hv
      | some s => rw [e] at hv; exact ⟨s, rfl, (Option.some.inj hv).symm⟩
    have hi := (List.getElem?_eq_some_iff.mp hb).1
    have hd : xs.drop i = b :: xs.drop (i + 1) := by
      rw [List.drop_eq_getElem_cons hi]
      congr 1
      rw [List.getElem?_eq_getElem hi] at hb
      exact Option.some.inj hb
    rw [hd] at eq
    refine ⟨_, rfl, dev, g.dx, devF g d1, rfl, D1.at_, lk_no (by decide +kernel), dev, g, d1, rfl, D1, fun e => ?_, fun d2 H2 ed D2 fr => ?_⟩
    · rw [appendAll_none e] at eq
      exact kN (by rw [← eq]) H' (by rw [← eq]; exact D1) f1
    · obtain ⟨e1, e2, e3, e4⟩ := tick_same ed
      rw [appendAll_some ed] at eq
      refine ⟨_, rfl, dev, T.C_Device, g.dx, devF g d2, _, rfl, D2.at_, T.cl_Device, T.n_Device__log_steps, lk_ls, .inl ⟨rfl, _, SqL.of D2.ls⟩, _, rfl, g.ls, _, _, rfl, rfl, D2.ls, ?_, ?_⟩
      · rw [List.length_map, e4]
        exact Nat.lt_of_le_of_lt (show _ ≤ 1000000 by omega) (by decide)
      · refine ⟨_, _, rfl, D2.step (some b), (f1.trans (Fr_of fr)).trans Fr.ls, eq, ?_⟩
        show (d2.steps ++ [some b]).length ≤ _
        rw [List.length_append, e4]
        show d1.steps.length + 1 ≤ _
        omega
  · rintro σ' H' ⟨d1, c, rfl, D1, f1, eq, hs⟩
    rw [List.length_map, List.drop_length] at eq
    have eq : (d1, true) = d.appendAll xs := eq
    exact kS (by rw [← eq]) H' (by rw [← eq]; exact D1) f1
def spClear (C CP : Addr) : Sp := fun vs H Q E => ∃ (dev : Addr) (g : DG) (d : DS), vs = [.ref dev] ∧ DevAt C H dev g d ∧ d.steps.length ≤ 1000000 ∧ (d.tick = none → E (.ref CP) none H) ∧
  ∀ (d' : DS) (H' : Hp), d.tick = some d' → DevAt C H' dev g (d'.add none) → Fr dev g H g H' → Q .non H'
theorem ok_Device_clear (T : Txt K mg) : FnOk P w K mg base (L2.CX P w) 3 T.f_Device_clear T.fd_Device_clear ["self"] (spClear T.C_Device T.C_PowerCut) := by
  refine T.F_Device_clear.okX sc_Device_clear (fun vs H Q E h => ?_) (fun cdv A outer s H vs Q E hr h => ?_)
  · obtain ⟨_, _, _, rfl, _⟩ := h
    rfl
  obtain ⟨dev, g, d, rfl, D, hb, kN, kS⟩ := h
  refine ⟨_, (pss_cons (ps_expr (pe_meth0 (pv 0) T.cl_Device T.m_Device_take_step (ok_Device_take_step T) (hr.mono (by decide)) T.b_Device_take_step .nil (passes_call (takes_of rfl rfl rfl rfl) (fun _ _ _ _ z => z))))
      (pss_one (ps_expr (pe_bm PySem.F.plainAttrs_list PySem.F.slot_list_append PySem.F.type_list_append mt_append (pe_fld (pv 0) rfl) (pa_cons pe_non pa_nil))))), ?_⟩
  (try dsimp only [cxOf])
  rw [show start ["self"] [.ref dev] = [some (.ref dev)] from rfl]
  refine ⟨_, rfl, dev, g.dx, devF g d, rfl, D.at_, lk_no (by decide +kernel), dev, g, d, rfl, D, kN, fun d' H1 ed D1 fr => ?_⟩
  obtain ⟨e1, e2, e3, e4⟩ := tick_same ed
  refine ⟨_, rfl, dev, T.C_Device, g.dx, devF g d', _, rfl, D1.at_, T.cl_Device, T.n_Device__log_steps, lk_ls, .inl ⟨rfl, _, SqL.of D1.ls⟩, g.ls, _, _, rfl, rfl, D1.ls, ?_, ?_⟩
  · rw [List.length_map, e4]
    exact Nat.lt_of_le_of_lt hb (by decide)
  · exact kS d' _ ed (D1.step none) ((Fr_of fr).trans Fr.ls)
def spEndL (C : Addr) : Sp := fun vs H Q _ => ∃ (dev : Addr) (g : DG) (d : DS) (a : Addr) (ss : List (Option Int)), vs = [.ref dev, .ref a] ∧ DevAt C H dev g d ∧ H a = some (.lst (ss.map optV)) ∧ d.log.length + ss.length ≤ 1000000 ∧
  ∀ (g' : DG) (H' : Hp), DevAt C H' dev g' { d with log := afterL d.log ss, steps := [] } → Fr dev g H g' H' → g'.kvs = g.kvs → Q .non H'
theorem ok_Device_end_log_steps (T : Txt K mg) : FnOk P w K mg base CX0 2 T.f_Device_end_log_steps T.fd_Device_end_log_steps ["self", "log_steps"] (spEndL T.C_Device) := by
  refine T.F_Device_end_log_steps.ok sc_Device_end_log_steps (fun vs H Q E h => ?_) (fun cdv A outer s H vs Q E hr h => ?_)
  · obtain ⟨_, _, _, _, _, rfl, _⟩ := h
    rfl
  obtain ⟨dev, g, d, a, ss, rfl, D, hA, hb, q⟩ := h
  refine ⟨_, (pss_cons (ps_if (pt_cmpR op_in_seq pe_non (pv 1) (by rfl))
        (pss_one (ps_fld (pv 0) (pe_call (ok_log_after T) (hr.mono (by decide)) (by rfl) T.g_log_after T.F_log_after.kp T.b_log_after .nil pass0 (pa_cons (pe_fld (pv 0) rfl) (pa_cons (pv 1) pa_nil))) rfl))
        (pss_one (ps_expr (pe_bm PySem.F.plainAttrs_list PySem.F.slot_list_extend PySem.F.type_list_extend mt_extend (pe_fld (pv 0) rfl) (pa_cons (pv 1) pa_nil)))))
      (pss_one (ps_fld (pv 0) (pe_lst pa_nil) rfl))), ?_⟩
  (try dsimp only [cxOf])
  rw [show start ["self", "log_steps"] [.ref dev, .ref a] = [some (.ref dev), some (.ref a)] from rfl]
  have flat : (ss.map optV).all flatV = true := by
    rw [List.all_eq_true]
    intro y hy
    obtain ⟨s, _, rfl⟩ := List.mem_map.mp hy
    cases s <;> rfl
  refine ⟨_, rfl, a, _, rfl, .inl (SqL.of hA), rfl, flat, _, rfl, ?_⟩
  walk_at "nrm"
  by_cases hn : inV .non (ss.map optV) = true
  · rw [if_pos (show (if false = true then !inV .non (ss.map optV) else inV .non (ss.map optV)) = true from hn)]
    refine ⟨_, rfl, dev, T.C_Device, g.dx, devF g d, _, rfl, D.at_, T.cl_Device, T.n_Device__durable_log, lk_dl, _, rfl, ?_⟩
    refine ⟨g.dl, a, d.log, ss, rfl, SqL.of D.dl, SqL.of hA, hb, fun p H2 s2 np ep => ?_⟩
    have D2 := D.newL s2 np ep
    refine ⟨_, rfl, dev, T.C_Device, g.dx, devF _ _, rfl, s2 _ _ D.at_, T.cl_Device, T.n_Device__durable_log, (by show 6 < 1000; decide), ?_⟩
    rw [put_dl]
    refine ⟨Nat.zero_le _, fun l hl => ?_⟩
    have s4 := same_upd (o := .lst []) hl
    refine ⟨_, rfl, dev, T.C_Device, g.dx, devF _ _, rfl, s4 _ _ D2.at_, T.cl_Device, T.n_Device__log_steps, (by show 6 < 1000; decide), ?_⟩
    rw [put_ls]
    exact q _ _ (D2.noL hl) ((Fr.newL s2 np).trans (Fr.noL hl)) rfl
  · rw [if_neg (show ¬ (if false = true then !inV .non (ss.map optV) else inV .non (ss.map optV)) = true from hn)]
    have hx := afterL_bytes d.log ss (by simpa [inV] using hn)
    refine ⟨_, rfl, dev, T.C_Device, g.dx, devF g d, _, rfl, D.at_, T.cl_Device, T.n_Device__durable_log, lk_dl, .inl ⟨rfl, _, SqL.of D.dl⟩, _, rfl, g.dl, a, _, _, rfl, rfl, D.dl, hA, ?_, ?_⟩
    · rw [List.length_map, List.length_map]
      exact Nat.le_trans hb (by decide)
    rw [← hx]
    have D2 := D.extL (xs := afterL d.log ss)
    refine ⟨Nat.zero_le _, fun l hl => ?_⟩
    have s4 := same_upd (o := .lst []) hl
    refine ⟨_, rfl, dev, T.C_Device, g.dx, devF _ _, rfl, s4 _ _ D2.at_, T.cl_Device, T.n_Device__log_steps, (by show 6 < 1000; decide), ?_⟩
    rw [put_ls]
    exact q _ _ (D2.noL hl) (Fr.dl.trans (Fr.noL hl)) rfl
def spSyncL (C CP : Addr) : Sp := fun vs H Q E => ∃ (dev : Addr) (g : DG) (d : DS), vs = [.ref dev] ∧ DevAt C H dev g d ∧ d.log.length + d.steps.length ≤ 1000000 ∧ (d.tick = none → E (.ref CP) none H) ∧
  ∀ (d' : DS) (g' : DG) (H' : Hp), d.tick = some d' → DevAt C H' dev g' d'.syncL → Fr dev g H g' H' → g'.kvs = g.kvs → Q .non H'
theorem ok_Device_sync_log (T : Txt K mg) : FnOk P w K mg base (L2.CX P w) 3 T.f_Device_sync_log T.fd_Device_sync_log ["self"] (spSyncL T.C_Device T.C_PowerCut) := by
  refine T.F_Device_sync_log.okX sc_Device_sync_log (fun vs H Q E h => ?_) (fun cdv A outer s H vs Q E hr h => ?_)
  · obtain ⟨_, _, _, rfl, _⟩ := h
    rfl
  obtain ⟨dev, g, d, rfl, D, hb, kN, kS⟩ := h
  refine ⟨_, (pss_cons (ps_expr (pe_meth0 (pv 0) T.cl_Device T.m_Device_take_step (ok_Device_take_step T) (hr.mono (by decide)) T.b_Device_take_step .nil (passes_call (takes_of rfl rfl rfl rfl) (fun _ _ _ _ z => z))))
      (pss_one (ps_expr (pe_meth (pv 0) T.cl_Device T.m_Device_end_log_steps (ok_Device_end_log_steps T) (hr.mono (by decide)) T.b_Device_end_log_steps .nil pass0 (pa_cons (pe_fld (pv 0) rfl) pa_nil))))), ?_⟩
  (try dsimp only [cxOf])
  rw [show start ["self"] [.ref dev] = [some (.ref dev)] from rfl]
  refine ⟨_, rfl, dev, g.dx, devF g d, rfl, D.at_, lk_no (by decide +kernel), dev, g, d, rfl, D, kN, fun d' H1 ed D1 fr => ?_⟩
  obtain ⟨e1, e2, e3, e4⟩ := tick_same ed
  refine ⟨_, rfl, dev, g.dx, devF g d', rfl, D1.at_, lk_no (by decide +kernel), _, rfl, dev, T.C_Device, g.dx, devF g d', _, rfl, D1.at_, T.cl_Device, T.n_Device__log_steps, lk_ls, ?_⟩
  exact ⟨dev, g, d', g.ls, d'.steps, rfl, D1, D1.ls, (by rw [e3, e4]; exact hb), fun g' H' D2 f2 ek => kS d' g' H' ed D2 ((Fr_of fr).trans f2) ek⟩

end
end K03


namespace K03
open PySem L2 Nv RZ
local macro_rules | `(tactic| walk_at "hp") => `(tactic| first
  | assumption
  | exact upd_same
  | exact (upd_ne (by assumption)).trans (by first | assumption | exact upd_same | exact (upd_ne (by assumption)).trans (by first | assumption | exact upd_same))
  | exact (upd_ne (Ne.symm (by assumption))).trans (by first | assumption | exact upd_same))
local macro_rules | `(tactic| walk_at "cond") => `(tactic| first
  | (change (0 : Int) < _; first | decide | omega)
  | exact Or.inr ⟨by decide, by decide⟩
  | exact Or.inl ⟨by decide, by decide⟩
  | exact Or.inr ⟨by omega, by omega⟩
  | exact Or.inl ⟨by omega, by omega⟩
  | exact ⟨by decide, by decide, by decide⟩
  | exact wide_div (by first | decide | omega) (show _ < 2 ^ 64 by first | decide | omega) (by decide) (by decide)
  | (change (0 : Int) ≤ _; first | decide | omega)
  | exact ⟨by decide, by decide⟩
  | exact ⟨by omega, by omega⟩)
local macro_rules | `(tactic| walk_at "val") => `(tactic| first
  | (with_reducible exact val_c)
  | ((with_reducible apply val_var); exact rfl)
  | ((with_reducible apply val_I0); walk_at "val"; walk_at "val")
  | ((with_reducible apply val_I); walk_at "val"; walk_at "val"; walk_at "cond")
  | ((with_reducible apply val_ixL); walk_at "val"; walk_at "val"; (first | exact SqL.of (by walk_at "hp") | assumption); exact rfl)
  | ((with_reducible apply val_len); walk_at "val"; first | exact Or.inl (SqL.of (by walk_at "hp")) | exact Or.inl (by assumption) | exact Or.inr (by assumption) | exact Or.inr (SqT.of (by walk_at "hp")))
  | ((with_reducible apply val_int1); walk_at "val")
  | ((with_reducible apply val_abs); walk_at "val")
  | ((with_reducible apply val_max2); walk_at "val"; walk_at "val")
  | ((with_reducible apply val_eq); walk_at "val"; walk_at "val"; exact rfl)
  | ((with_reducible apply val_ne); walk_at "val"; walk_at "val"; exact rfl)
  | ((with_reducible apply val_not); walk_at "val")
  | ((with_reducible apply val_U); walk_at "val"))
local macro_rules | `(tactic| walk_at "ans") => `(tactic| first
  | ((with_reducible apply ans_Eq); walk_at "val"; walk_at "val"; exact rfl)
  | ((with_reducible apply ans_Ne); walk_at "val"; walk_at "val"; exact rfl)
  | ((with_reducible apply ans_I0); walk_at "val"; walk_at "val"; exact rfl)
  | ((with_reducible refine ans_And ?_ (fun _ => ?_)); walk_at "ans"; walk_at "ans")
  | ((with_reducible refine ans_or2 ?_ (fun _ => ?_)); walk_at "ans"; walk_at "ans")
  | ((with_reducible refine ans_not ?_); walk_at "ans")
  | ((with_reducible apply ans_val); walk_at "val"))
local macro_rules | `(tactic| walk_at "nrm") => `(tactic| (try dsimp only [List.set_cons_zero, List.set_cons_succ]))
local macro_rules | `(tactic| walk_at "set") => `(tactic| first
  | ((with_reducible apply q_set); walk_at "val"; walk_at "nrm")
  | ((with_reducible apply s_set); walk_at "val"; walk_at "nrm"))
local macro_rules | `(tactic| walk_at "setL") => `(tactic| first
  | ((with_reducible apply q_setL); walk_at "val"; walk_at "val"; walk_at "val"; walk_at "hp"; exact rfl; walk_at "nrm")
  | ((with_reducible apply s_setL); walk_at "val"; walk_at "val"; walk_at "val"; walk_at "hp"; exact rfl; walk_at "nrm"))
local macro_rules | `(tactic| walk_at "ff") => `(tactic| (walk_at "nrm"; rw [if_neg (by decide)]; (try ((with_reducible refine st_next ?_); walk_at "nrm"))))
local macro_rules | `(tactic| walk_at "nok") => `(tactic| (refine ⟨_, rfl, rfl, _, rfl, ?_⟩; walk_at "nrm"; rw [if_neg (by decide)]))
local macro_rules | `(tactic| walk_at "yesk") => `(tactic| (refine ⟨_, rfl, rfl, _, rfl, ?_⟩; walk_at "nrm"; rw [if_pos (by decide)]))
local macro_rules | `(tactic| walk_at "no") => `(tactic| (walk_at "nrm"; rw [if_neg (by decide)]; walk_at "nrm"))
local macro_rules | `(tactic| walk_at "yes") => `(tactic| (walk_at "nrm"; rw [if_pos (by decide)]; walk_at "nrm"))
local macro_rules | `(tactic| walk_at "nos") => `(tactic| (walk_at "nrm"; repeat (rw [if_neg (by decide)]; walk_at "nrm"); (try ((with_reducible refine st_next ?_); walk_at "nrm"))))

section
variable {P : Program} {w : World} {K : PySem.W.Frag} {mg : Str → Option Value} {base : Heap}
def spDur (C : Addr) : Sp := fun vs H Q _ => ∃ (dev : Addr) (g : DG) (d : DS) (n : Int), vs = [.ref dev, .int n] ∧ DevAt C H dev g d ∧ ∀ (p : Addr) (H' : Hp), Same H H' → H p = none → H' p = some (.lst ((getP d.pages n).map V.int)) → Q (.ref p) H'
theorem zeros_rep : (List.replicate (256 : Int).toNat [V.int 0]).flatten = zeros.map V.int := by
  unfold zeros
  rw [List.map_replicate]
  decide +kernel
theorem ok_Device_durable_page (T : Txt K mg) : FnOk P w K mg base CX0 1 T.f_Device_durable_page T.fd_Device_durable_page ["self", "number"] (spDur T.C_Device) := by
  refine T.F_Device_durable_page.ok sc_Device_durable_page (fun vs H Q E h => ?_) (fun cdv A outer s H vs Q E hr h => ?_)
  · obtain ⟨_, _, _, _, rfl, _⟩ := h
    rfl
  obtain ⟨dev, g, d, n, rfl, D, q⟩ := h
  refine ⟨_, (pss_cons (ps_if (pt_cmp (pc_din (hu_of hr) (pv 1) (pe_fld (pv 0) rfl)))
        (pss_one (ps_ret (pe_callTy call_list_of (by rfl) T.z_list (by decide +kernel) (pa_cons (pe_dget (hu_of hr) (pe_fld (pv 0) rfl) (pv 1) (fun _ _ => rfl)) pa_nil))))
        pss_nil)
      (pss_one (ps_ret (pe_op op_rep (pe_lst (pa_cons pe_int pa_nil)) (pe_glob (v := .int 256) (by rfl) T.g_PAGE_SIZE ⟨_, rfl⟩))))), ?_⟩
  (try dsimp only [cxOf])
  rw [show start ["self", "number"] [.ref dev, .int n] = [some (.ref dev), some (.int n)] from rfl]
  refine ⟨_, rfl, _, rfl, dev, T.C_Device, g.dx, devF g d, _, rfl, D.at_, T.cl_Device, T.n_Device__durable_pages, lk_dp, g.dp, valV g.kvs (.inl n), rfl, DGet.k (k := .inl n) D.dp, _, rfl, ?_⟩
  walk_at "nrm"
  rcases D.pg n with ⟨e1, e2⟩ | ⟨p, xs, e1, e2, e3, e4⟩
  · rw [e2, if_neg (show ¬ (none : Option V).isSome = true from Bool.false_ne_true)]
    refine ⟨by show 1 ≤ sizeLine; decide, fun l hl => ?_⟩
    refine ⟨l, 256, [.int 0], rfl, rfl, upd_same, by decide, by decide, by show 256 ≤ sizeLine; decide, fun p hp => ?_⟩
    refine q p _ ((same_upd hl).trans (same_upd hp)) ((same_upd hl).free hp) ?_
    rw [upd_same, zeros_rep]
    unfold getP
    rw [e1]
    rfl
  · rw [e2, if_pos (show (some (V.ref p)).isSome = true from rfl)]
    refine ⟨_, rfl, dev, T.C_Device, g.dx, devF g d, _, rfl, D.at_, T.cl_Device, T.n_Device__durable_pages, lk_dp, _, rfl, g.dp, .ref p, rfl, by rw [← e2]; exact DGet.k (k := .inl n) D.dp, p, _, rfl, .inl (SqL.of (D.sm _ _ e3)), fun l hl => ?_⟩
    refine q l _ (same_upd hl) hl ?_
    unfold getP
    rw [upd_same, e1]
    rfl
def spPage (C : Addr) : Sp := fun vs H Q _ => ∃ (dev : Addr) (g : DG) (d : DS) (n : Int), vs = [.ref dev, .int n] ∧ DevAt C H dev g d ∧ ∀ (p : Addr) (H' : Hp), Same H H' → H p = none → H' p = some (.lst ((d.page n).map V.int)) → Q (.ref p) H'
theorem ok_Device_page (T : Txt K mg) : FnOk P w K mg base CX0 2 T.f_Device_page T.fd_Device_page ["self", "number"] (spPage T.C_Device) := by
  refine T.F_Device_page.ok sc_Device_page (fun vs H Q E h => ?_) (fun cdv A outer s H vs Q E hr h => ?_)
  · obtain ⟨_, _, _, _, rfl, _⟩ := h
    rfl
  obtain ⟨dev, g, d, n, rfl, D, q⟩ := h
  refine ⟨_, (pss_cons (ps_for PassesOwn.never rfl (pi_reversed (by rfl) T.z_reversed (pa_cons (pe_fld (pv 0) rfl) pa_nil)) (pg_tup (by rfl) (pgs_cons (pg_name (i := 2) sc_Device_page.nd rfl (by first | exact Or.inl rfl | exact Or.inr rfl)) (pgs_cons (pg_name (i := 3) sc_Device_page.nd rfl (by first | exact Or.inl rfl | exact Or.inr rfl)) pgs_nil)))
        (pss_one (ps_if (pt_cmpR op_eq (pv 2) (pv 1) (nomark _))
          (pss_one (ps_ret (pe_callTy call_list_of (by rfl) T.z_list (by decide +kernel) (pa_cons (pv 3) pa_nil))))
          pss_nil)))
      (pss_one (ps_ret (pe_meth (pv 0) T.cl_Device T.m_Device_durable_page (ok_Device_durable_page T) (hr.mono (by decide)) T.b_Device_durable_page .nil pass0 (pa_cons (pv 1) pa_nil))))), ?_⟩
  (try dsimp only [cxOf])
  rw [show start ["self", "number", "written", "data"] [.ref dev, .int n] = [some (.ref dev), some (.int n), none, none] from rfl]
  have hl := D.wr.len
  refine ⟨_, rfl, dev, T.C_Device, g.dx, devF g d, _, rfl, D.at_, T.cl_Device, T.n_Device__page_writes, lk_pw, g.pw, g.vs, rfl, SqL.of D.pw, RT.for_Itv (K := K) (a := g.pw) (xs := g.vs) (fun i σ' H' => (∃ c1 c2 : Option V, σ' = [some (.ref dev), some (.int n), c1, c2]) ∧ H' = H ∧ lastW (d.writes.take (g.vs.length - i)) n (d.pages n) = lastW d.writes n (d.pages n))
    ⟨⟨none, none, rfl⟩, rfl, by rw [hl, Nat.sub_zero, List.take_length]⟩ (fun i σ' H' ⟨_, e, _⟩ => by rw [e]; exact SqL.of D.pw) ?_ ?_⟩
  · rintro i v σ' H' hi hv ⟨⟨c1, c2, rfl⟩, rfl, eq⟩
    have hw : d.writes[g.vs.length - 1 - i]? = some (d.writes[g.vs.length - 1 - i]'(by omega)) := List.getElem?_eq_getElem (by omega)
    generalize d.writes[g.vs.length - 1 - i]'(by omega) = ww at hw
    obtain ⟨t, p, rfl, et, ep, hp⟩ := D.wr.each _ _ ww hv hw
    rw [show g.vs.length - i = g.vs.length - 1 - i + 1 by omega, take_more hw, lastW_snoc] at eq
    refine ⟨t, _, rfl, SqT.of (D.sm _ _ et), rfl, _, _, rfl, _, _, rfl, rfl, ?_⟩
    refine ⟨_, rfl, _, rfl, rfl, _, rfl, ?_⟩
    walk_at "nrm"
    by_cases hn : ww.1 = n
    · rw [if_pos (show decide (V.int ww.1 = V.int n) = true from decide_eq_true (congrArg V.int hn))]
      refine ⟨_, rfl, p, _, rfl, .inl (SqL.of (D.sm _ _ ep)), fun l hl' => q l _ (same_upd hl') hl' ?_⟩
      rw [if_pos hn] at eq
      unfold DS.page
      rw [upd_same, ← eq]
      rfl
    · rw [if_neg (show ¬ decide (V.int ww.1 = V.int n) = true from fun z => hn (V.int.inj (of_decide_eq_true z)))]
      rw [if_neg hn] at eq
      exact ⟨⟨_, _, rfl⟩, rfl, by rw [show g.vs.length - (i + 1) = g.vs.length - 1 - i by omega]; exact eq⟩
  · rintro σ' H' ⟨⟨c1, c2, rfl⟩, rfl, eq⟩
    rw [Nat.sub_self] at eq
    refine ⟨_, rfl, dev, g.dx, devF g d, rfl, D.at_, lk_no (by decide +kernel), _, rfl, dev, g, d, n, rfl, D, fun p H2 s2 np ep => q p H2 s2 np ?_⟩
    rw [ep]
    unfold DS.page getP
    rw [← eq]
    rfl
def spLimit (C : Addr) : Sp := fun vs H Q _ => ∃ (dev : Addr) (g : DG) (d : DS) (a : Option Int), vs = [.ref dev, optV a] ∧ DevAt C H dev g d ∧ ∀ H' : Hp, DevAt C H' dev g { d with allowed := a } → (∀ b, b ≠ dev → H' b = H b) → Q .non H'
theorem ok_Device_limit (T : Txt K mg) : FnOk P w K mg base CX0 1 T.f_Device_limit T.fd_Device_limit ["self", "steps"] (spLimit T.C_Device) := by
  refine T.F_Device_limit.ok sc_Device_limit (fun vs H Q E h => ?_) (fun cdv A outer s H vs Q E hr h => ?_)
  · obtain ⟨_, _, _, _, rfl, _⟩ := h
    rfl
  obtain ⟨dev, g, d, a, rfl, D, q⟩ := h
  refine ⟨_, (pss_one (ps_fld (pv 0) (pv 1) rfl)), ?_⟩
  (try dsimp only [cxOf])
  rw [show start ["self", "steps"] [.ref dev, optV a] = [some (.ref dev), some (optV a)] from rfl]
  refine ⟨_, rfl, _, rfl, dev, T.C_Device, g.dx, devF g d, rfl, D.at_, T.cl_Device, T.n_Device__steps_allowed, (by show 6 < 1000; decide), ?_⟩
  rw [put_all]
  exact q _ (D.num rfl rfl rfl rfl) fun b hb => upd_ne hb
def spSteps (C : Addr) : Sp := fun vs H Q _ => ∃ (dev : Addr) (g : DG) (d : DS), vs = [.ref dev] ∧ DevAt C H dev g d ∧ Q (.int d.done) H
theorem ok_Device_steps (T : Txt K mg) : FnOk P w K mg base CX0 1 T.f_Device_steps T.fd_Device_steps ["self"] (spSteps T.C_Device) := by
  refine T.F_Device_steps.ok sc_Device_steps (fun vs H Q E h => ?_) (fun cdv A outer s H vs Q E hr h => ?_)
  · obtain ⟨_, _, _, rfl, _⟩ := h
    rfl
  obtain ⟨dev, g, d, rfl, D, q⟩ := h
  refine ⟨_, (pss_one (ps_ret (pe_fld (pv 0) rfl))), ?_⟩
  (try dsimp only [cxOf])
  rw [show start ["self"] [.ref dev] = [some (.ref dev)] from rfl]
  exact ⟨_, rfl, dev, T.C_Device, g.dx, devF g d, _, rfl, D.at_, T.cl_Device, T.n_Device__steps_performed, lk_done, q⟩
def spPending (C : Addr) : Sp := fun vs H Q _ => ∃ (dev : Addr) (g : DG) (d : DS), vs = [.ref dev] ∧ DevAt C H dev g d ∧ ∀ p, H p = none → Q (.ref p) (upd H p (.tup [.int d.writes.length, .int d.steps.length]))
theorem ok_Device_pending (T : Txt K mg) : FnOk P w K mg base CX0 1 T.f_Device_pending T.fd_Device_pending ["self"] (spPending T.C_Device) := by
  refine T.F_Device_pending.ok sc_Device_pending (fun vs H Q E h => ?_) (fun cdv A outer s H vs Q E hr h => ?_)
  · obtain ⟨_, _, _, rfl, _⟩ := h
    rfl
  obtain ⟨dev, g, d, rfl, D, q⟩ := h
  refine ⟨_, (pss_one (ps_ret (pe_tup (pa_cons (pe_callB call_len_seq (by rfl) T.z_len (by decide +kernel) (pa_cons (pe_fld (pv 0) rfl) pa_nil)) (pa_cons (pe_callB call_len_seq (by rfl) T.z_len (by decide +kernel) (pa_cons (pe_fld (pv 0) rfl) pa_nil)) pa_nil))))), ?_⟩
  (try dsimp only [cxOf])
  rw [show start ["self"] [.ref dev] = [some (.ref dev)] from rfl]
  refine ⟨_, rfl, dev, T.C_Device, g.dx, devF g d, _, rfl, D.at_, T.cl_Device, T.n_Device__page_writes, lk_pw, g.pw, _, rfl, .inl (SqL.of D.pw), _, rfl, dev, T.C_Device, g.dx, devF g d, _, rfl, D.at_, T.cl_Device, T.n_Device__log_steps, lk_ls, g.ls, _, rfl, .inl (SqL.of D.ls), by show 2 ≤ sizeLine; decide, fun p hp => ?_⟩
  rw [D.wr.len, List.length_map]
  exact q p hp
def spEnd (C : Addr) : Sp := fun vs H Q _ => ∃ (dev : Addr) (g : DG) (d : DS) (n : Int) (p : Addr) (xs : List Int) (a : Int), vs = [.ref dev, .int n, .ref p, .int a] ∧ DevAt C H dev g d ∧ g.F p = some (.lst (xs.map V.int)) ∧ xs.length ≤ 1000 ∧ g.kvs.length ≤ 1000000 ∧
  ∀ (g' : DG) (H' : Hp), DevAt C H' dev g' { d with pages := endW d.pages (n, xs) a } → Fr dev g H g' H' → g'.pw = g.pw → g'.vs = g.vs → g'.ls = g.ls → g'.kvs.length ≤ g.kvs.length + 1 → Q .non H'
theorem getP_len {F : Hp} {kvs : List (Key × V)} {f : Int → Option (List Int)} (h : PgIn F kvs f) (n : Int) : (getP f n).length ≤ 1000 := by
  unfold getP
  rcases h n with ⟨e, _⟩ | ⟨_, xs, e, _, _, h⟩
  · rw [e]
    decide
  · rw [e]
    exact h
theorem ok_Device_end_page_write (T : Txt K mg) : FnOk P w K mg base CX0 2 T.f_Device_end_page_write T.fd_Device_end_page_write ["self", "number", "data", "fate"] (spEnd T.C_Device) := by
  refine T.F_Device_end_page_write.ok sc_Device_end_page_write (fun vs H Q E h => ?_) (fun cdv A outer s H vs Q E hr h => ?_)
  · obtain ⟨_, _, _, _, _, _, _, rfl, _⟩ := h
    rfl
  obtain ⟨dev, g, d, n, p, xs, a, rfl, D, ep, hx, hk, q⟩ := h
  refine ⟨_, (pss_one (ps_if (pt_cmpR op_eq (pv 3) (pe_glob (v := .int 1) (by rfl) T.g_TAKES_EFFECT ⟨_, rfl⟩) (nomark _))
        (pss_one (ps_dput (hu_of hr) (pe_fld (pv 0) rfl) (pv 1) (pv 2) rfl))
        (pss_one (ps_if (pt_cmpR op_eq (pv 3) (pe_glob (v := .int 2) (by rfl) T.g_FIRST_HALF_TAKES_EFFECT ⟨_, rfl⟩) (nomark _))
          (pss_cons (ps_set (i := 4) sc_Device_end_page_write.nd rfl (by first | exact Or.inl rfl | exact Or.inr rfl) (pe_slice sl_list (pe_meth (pv 0) T.cl_Device T.m_Device_durable_page (ok_Device_durable_page T) (hr.mono (by decide)) T.b_Device_durable_page .nil pass0 (pa_cons (pv 1) pa_nil)) (po_some (pe_glob (v := .int 128) (by rfl) T.g_HALF_PAGE ⟨_, rfl⟩)) po_none))
          (pss_one (ps_dput (hu_of hr) (pe_fld (pv 0) rfl) (pv 1) (pe_op op_cat (pe_slice sl_list (pv 2) po_none (po_some (pe_glob (v := .int 128) (by rfl) T.g_HALF_PAGE ⟨_, rfl⟩))) (pv 4)) rfl)))
          pss_nil)))), ?_⟩
  (try dsimp only [cxOf])
  rw [show start ["self", "number", "data", "fate", "second_half"] [.ref dev, .int n, .ref p, .int a] = [some (.ref dev), some (.int n), some (.ref p), some (.int a), none] from rfl]
  refine ⟨_, rfl, rfl, _, rfl, ?_⟩
  walk_at "nrm"
  by_cases h1 : a = 1
  · rw [if_pos (show decide (V.int a = V.int 1) = true from decide_eq_true (congrArg V.int h1))]
    refine ⟨_, rfl, _, rfl, dev, T.C_Device, g.dx, devF g d, _, rfl, D.at_, T.cl_Device, T.n_Device__durable_pages, lk_dp, _, rfl, g.dp, _, rfl, DPut.k (k := .inl n) D.dp (Nat.lt_of_le_of_lt hk (by decide)), ?_⟩
    refine q { g with kvs := putK g.kvs (.inl n) (.ref p) } _ ?_ Fr.dp rfl rfl rfl (putK_le g.kvs (.inl n) (.ref p))
    rw [show endW d.pages (n, xs) a = putP d.pages n xs from if_pos h1]
    exact D.put ep hx
  · rw [if_neg (show ¬ decide (V.int a = V.int 1) = true from fun z => h1 (V.int.inj (of_decide_eq_true z)))]
    refine ⟨_, rfl, rfl, _, rfl, ?_⟩
    walk_at "nrm"
    by_cases h2 : a = 2
    · rw [if_pos (show decide (V.int a = V.int 2) = true from decide_eq_true (congrArg V.int h2))]
      refine q_setg ?_
      refine ⟨_, rfl, dev, g.dx, devF g d, rfl, D.at_, lk_no (by decide +kernel), _, rfl, dev, g, d, n, rfl, D, fun p1 H1 s1 np1 ep1 => ?_⟩
      refine ⟨128, rfl, p1, _, rfl, SqL.of ep1, fun p2 np2 => ?_⟩
      walk_at "nrm"
      have D1 := D.same s1
      have D2 := D1.same (same_upd (o := .lst (cutV ((getP d.pages n).map V.int) (some 128) none)) np2)
      refine ⟨_, rfl, ⟨128, rfl, p, _, rfl, SqL.of (D2.sm _ _ ep), fun p3 np3 => ?_⟩⟩
      have D3 := D2.same (same_upd (o := .lst (cutV (xs.map V.int) none (some 128))) np3)
      have hg := getP_len D.pg n
      refine ⟨_, rfl, p3, p2, _, _, rfl, rfl, upd_same, same_upd np3 _ _ upd_same, ?_, fun p4 np4 => ?_⟩
      · rw [show (128 : Int) = ((128 : Nat) : Int) from rfl, cut_take, cut_drop, List.length_map, List.length_map, List.length_take, List.length_drop]
        exact Nat.le_of_lt (Nat.lt_of_le_of_lt (show _ ≤ 2000 by omega) (by decide))
      have D4 := D3.ext (o := .lst (cutV (xs.map V.int) none (some 128) ++ cutV ((getP d.pages n).map V.int) (some 128) none)) np4
      refine ⟨_, rfl, dev, T.C_Device, g.dx, devF _ d, _, rfl, D4.at_, T.cl_Device, T.n_Device__durable_pages, lk_dp, _, rfl, g.dp, _, rfl, DPut.k (k := .inl n) D4.dp (Nat.lt_of_le_of_lt hk (by decide)), ?_⟩
      have D5 := D4.put (n := n) (p := p4) (xs := xs.take 128 ++ (getP d.pages n).drop 128) (by
        show upd g.F p4 _ p4 = _
        rw [upd_same, show (128 : Int) = ((128 : Nat) : Int) from rfl, cut_take, cut_drop, ← List.map_append]) (by
        rw [List.length_append, List.length_take, List.length_drop]
        omega)
      refine q _ _ ?_ (((((Fr.same s1).trans (Fr.same (same_upd np2))).trans (Fr.same (same_upd np3))).trans (Fr.ext np4)).trans (Fr.dp (kvs := putK g.kvs (.inl n) (.ref p4)))) rfl rfl rfl (putK_le g.kvs (.inl n) (.ref p4))
      rw [show endW d.pages (n, xs) a = putP d.pages n (xs.take 128 ++ (getP d.pages n).drop 128) from (if_neg h1).trans (if_pos h2)]
      exact D5
    · rw [if_neg (show ¬ decide (V.int a = V.int 2) = true from fun z => h2 (V.int.inj (of_decide_eq_true z)))]
      refine q g _ ?_ (Fr.refl _ _ _) rfl rfl rfl (Nat.le_succ _)
      rw [show endW d.pages (n, xs) a = d.pages from (if_neg h1).trans (if_neg h2)]
      exact D

end
end K03


namespace K03
open PySem L2 Nv RZ
local macro_rules | `(tactic| walk_at "hp") => `(tactic| first
  | assumption
  | exact upd_same
  | exact (upd_ne (by assumption)).trans (by first | assumption | exact upd_same | exact (upd_ne (by assumption)).trans (by first | assumption | exact upd_same))
  | exact (upd_ne (Ne.symm (by assumption))).trans (by first | assumption | exact upd_same))
local macro_rules | `(tactic| walk_at "cond") => `(tactic| first
  | (change (0 : Int) < _; first | decide | omega)
  | exact Or.inr ⟨by decide, by decide⟩
  | exact Or.inl ⟨by decide, by decide⟩
  | exact Or.inr ⟨by omega, by omega⟩
  | exact Or.inl ⟨by omega, by omega⟩
  | exact ⟨by decide, by decide, by decide⟩
  | exact wide_div (by first | decide | omega) (show _ < 2 ^ 64 by first | decide | omega) (by decide) (by decide)
  | (change (0 : Int) ≤ _; first | decide | omega)
  | exact ⟨by decide, by decide⟩
  | exact ⟨by omega, by omega⟩)
local macro_rules | `(tactic| walk_at "val") => `(tactic| first
  | (with_reducible exact val_c)
  | ((with_reducible apply val_var); exact rfl)
  | ((with_reducible apply val_I0); walk_at "val"; walk_at "val")
  | ((with_reducible apply val_I); walk_at "val"; walk_at "val"; walk_at "cond")
  | ((with_reducible apply val_ixL); walk_at "val"; walk_at "val"; (first | exact SqL.of (by walk_at "hp") | assumption); exact rfl)
  | ((with_reducible apply val_len); walk_at "val"; first | exact Or.inl (SqL.of (by walk_at "hp")) | exact Or.inl (by assumption) | exact Or.inr (by assumption) | exact Or.inr (SqT.of (by walk_at "hp")))
  | ((with_reducible apply val_int1); walk_at "val")
  | ((with_reducible apply val_abs); walk_at "val")
  | ((with_reducible apply val_max2); walk_at "val"; walk_at "val")
  | ((with_reducible apply val_eq); walk_at "val"; walk_at "val"; exact rfl)
  | ((with_reducible apply val_ne); walk_at "val"; walk_at "val"; exact rfl)
  | ((with_reducible apply val_not); walk_at "val")
  | ((with_reducible apply val_U); walk_at "val"))
local macro_rules | `(tactic| walk_at "ans") => `(tactic| first
  | ((with_reducible apply ans_Eq); walk_at "val"; walk_at "val"; exact rfl)
  | ((with_reducible apply ans_Ne); walk_at "val"; walk_at "val"; exact rfl)
  | ((with_reducible apply ans_I0); walk_at "val"; walk_at "val"; exact rfl)
  | ((with_reducible refine ans_And ?_ (fun _ => ?_)); walk_at "ans"; walk_at "ans")
  | ((with_reducible refine ans_or2 ?_ (fun _ => ?_)); walk_at "ans"; walk_at "ans")
  | ((with_reducible refine ans_not ?_); walk_at "ans")
  | ((with_reducible apply ans_val); walk_at "val"))
local macro_rules | `(tactic| walk_at "nrm") => `(tactic| (try dsimp only [List.set_cons_zero, List.set_cons_succ]))
local macro_rules | `(tactic| walk_at "set") => `(tactic| first
  | ((with_reducible apply q_set); walk_at "val"; walk_at "nrm")
  | ((with_reducible apply s_set); walk_at "val"; walk_at "nrm"))
local macro_rules | `(tactic| walk_at "setL") => `(tactic| first
  | ((with_reducible apply q_setL); walk_at "val"; walk_at "val"; walk_at "val"; walk_at "hp"; exact rfl; walk_at "nrm")
  | ((with_reducible apply s_setL); walk_at "val"; walk_at "val"; walk_at "val"; walk_at "hp"; exact rfl; walk_at "nrm"))
local macro_rules | `(tactic| walk_at "ff") => `(tactic| (walk_at "nrm"; rw [if_neg (by decide)]; (try ((with_reducible refine st_next ?_); walk_at "nrm"))))
local macro_rules | `(tactic| walk_at "nok") => `(tactic| (refine ⟨_, rfl, rfl, _, rfl, ?_⟩; walk_at "nrm"; rw [if_neg (by decide)]))
local macro_rules | `(tactic| walk_at "yesk") => `(tactic| (refine ⟨_, rfl, rfl, _, rfl, ?_⟩; walk_at "nrm"; rw [if_pos (by decide)]))
local macro_rules | `(tactic| walk_at "no") => `(tactic| (walk_at "nrm"; rw [if_neg (by decide)]; walk_at "nrm"))
local macro_rules | `(tactic| walk_at "yes") => `(tactic| (walk_at "nrm"; rw [if_pos (by decide)]; walk_at "nrm"))
local macro_rules | `(tactic| walk_at "nos") => `(tactic| (walk_at "nrm"; repeat (rw [if_neg (by decide)]; walk_at "nrm"); (try ((with_reducible refine st_next ?_); walk_at "nrm"))))

section
variable {P : Program} {w : World} {K : PySem.W.Frag} {mg : Str → Option Value} {base : Heap}
def spCrash (C : Addr) : Sp := fun vs H Q _ => ∃ (dev : Addr) (g : DG) (d : DS) (a : Addr) (fs : List Int) (k : Nat), vs = [.ref dev, .ref a, .int (k : Int)] ∧ DevAt C H dev g d ∧ H a = some (.lst (fs.map V.int)) ∧ ¬ own dev g a ∧ bnd g d ≤ 1000000 ∧ d.log.length + d.steps.length ≤ 1000000 ∧
  ∀ (g' : DG) (H' : Hp), DevAt C H' dev g' (d.crash fs k) → Fr dev g H g' H' → bnd g' (d.crash fs k) ≤ bnd g d → Q .non H'
theorem ok_Device_crash (T : Txt K mg) : FnOk P w K mg base CX0 3 T.f_Device_crash T.fd_Device_crash ["self", "fates", "kept"] (spCrash T.C_Device) := by
  refine T.F_Device_crash.ok sc_Device_crash (fun vs H Q E h => ?_) (fun cdv A outer s H vs Q E hr h => ?_)
  · obtain ⟨_, _, _, _, _, _, rfl, _⟩ := h
    rfl
  obtain ⟨dev, g, d, a, fs, k, rfl, D, hA, na, hb, hlog, q⟩ := h
  refine ⟨_, (pss_cons (ps_for PassesOwn.never rfl (pi_zipA (by rfl) T.z_zip (pa_cons (pe_fld (pv 0) rfl) (pa_cons (pv 1) pa_nil))) (pg_tup (by rfl) (pgs_cons (pg_tup (by rfl) (pgs_cons (pg_name (i := 3) sc_Device_crash.nd rfl (by first | exact Or.inl rfl | exact Or.inr rfl)) (pgs_cons (pg_name (i := 4) sc_Device_crash.nd rfl (by first | exact Or.inl rfl | exact Or.inr rfl)) pgs_nil))) (pgs_cons (pg_name (i := 5) sc_Device_crash.nd rfl (by first | exact Or.inl rfl | exact Or.inr rfl)) pgs_nil)))
        (pss_one (ps_expr (pe_meth (pv 0) T.cl_Device T.m_Device_end_page_write (ok_Device_end_page_write T) (hr.mono (by decide)) T.b_Device_end_page_write .nil pass0 (pa_cons (pv 3) (pa_cons (pv 4) (pa_cons (pv 5) pa_nil)))))))
      (pss_cons (ps_fld (pv 0) (pe_lst pa_nil) rfl)
      (pss_cons (ps_expr (pe_meth (pv 0) T.cl_Device T.m_Device_end_log_steps (ok_Device_end_log_steps T) (hr.mono (by decide)) T.b_Device_end_log_steps .nil pass0 (pa_cons (pe_slice sl_list (pe_fld (pv 0) rfl) po_none (po_some (pe_callB (call_max2 rfl) (by rfl) T.z_max (by decide +kernel) (pa_cons (pv 2) (pa_cons pe_int pa_nil))))) pa_nil)))
      (pss_one (ps_fld (pv 0) pe_non rfl))))), ?_⟩
  (try dsimp only [cxOf])
  rw [show start ["self", "fates", "kept", "number", "data", "fate"] [.ref dev, .ref a, .int (k : Int)] = [some (.ref dev), some (.ref a), some (.int (k : Int)), none, none, none] from rfl]
  have hl := D.wr.len
  refine ⟨_, rfl, dev, T.C_Device, g.dx, devF g d, _, rfl, D.at_, T.cl_Device, T.n_Device__page_writes, lk_pw, _, rfl, g.pw, a, _, _, rfl, .inl ⟨SqL.of D.pw, SqL.of hA, for_zipM (K := K) (a := g.pw) (b := a) (xs := g.vs) (ys := fs.map V.int)
    (fun i σ' H' => ∃ (g1 : DG) (c3 c4 c5 : Option V), σ' = [some (.ref dev), some (.ref a), some (.int (k : Int)), c3, c4, c5] ∧ DevAt T.C_Device H' dev g1 { d with pages := crashP d.pages (d.writes.take i) (fs.take i) } ∧ Fr dev g H g1 H' ∧ g1.pw = g.pw ∧ g1.vs = g.vs ∧ g1.ls = g.ls ∧ (i ≤ g.vs.length → g1.kvs.length ≤ g.kvs.length + i))
    ⟨g, none, none, none, rfl, D, Fr.refl _ _ _, rfl, rfl, rfl, fun _ => Nat.le_refl _⟩ (fun i σ' H' ⟨g1, _, _, _, _, D1, f1, e1, e2, _⟩ => ⟨by rw [← e1, ← e2]; exact SqL.of D1.pw, SqL.of (f1.keep _ _ na hA)⟩) ?_ ?_⟩⟩
  · rintro i x y t σ' H' hx hy ⟨g1, c3, c4, c5, rfl, D1, f1, e1, e2, e3, hk⟩ ht
    rw [List.getElem?_map] at hy
    obtain ⟨fa, hf, rfl⟩ : ∃ s, fs[i]? = some s ∧ y = V.int s := by
      cases e : fs[i]? with
      | none => rw [e] at hy; cases hy
      | some s => rw [e] at hy; exact ⟨s, rfl, (Option.some.inj hy).symm⟩
    have hi := (List.getElem?_eq_some_iff.mp hx).1
    have hw : d.writes[i]? = some (d.writes[i]'(by omega)) := List.getElem?_eq_getElem (by omega)
    generalize d.writes[i]'(by omega) = ww at hw
    obtain ⟨tt, p, rfl, et, ep, hp⟩ := D1.wr.each i x ww (by rw [e2]; exact hx) hw
    have st := same_upd (o := .tup [.ref tt, .int fa]) ht
    have D2 := D1.same st
    refine ⟨t, _, rfl, SqT.of upd_same, rfl, _, _, rfl, ⟨tt, _, rfl, SqT.of (D2.sm _ _ et), rfl, _, _, rfl, _, _, rfl, rfl, _, _, rfl, rfl, ?_⟩⟩
    have hk1 := hk (by omega)
    refine ⟨_, rfl, dev, g1.dx, devF g1 _, rfl, D2.at_, lk_no (by decide +kernel), _, rfl, _, rfl, _, rfl, dev, g1, _, ww.1, p, ww.2, fa, rfl, D2, ep, hp, ?_, fun g2 H2 D3 f2 k1 k2 k3 k4 => ?_⟩
    · unfold bnd at hb
      omega
    · refine ⟨g2, _, _, _, rfl, ?_, (f1.trans (Fr.same st)).trans f2, k1.trans e1, k2.trans e2, k3.trans e3, fun h => by omega⟩
      rw [crash_more hw hf]
      exact D3
  · rintro σ' H1 ⟨g1, c3, c4, c5, rfl, D1, f1, e1, e2, e3, hk⟩
    rw [List.length_map, hl, crash_min] at D1
    have hk1 := hk (Nat.min_le_left _ _)
    refine ⟨Nat.zero_le _, fun p hp => ?_⟩
    have s3 := same_upd (o := .lst []) hp
    refine ⟨_, rfl, dev, T.C_Device, g1.dx, devF _ _, rfl, s3 _ _ D1.at_, T.cl_Device, T.n_Device__page_writes, (by show 6 < 1000; decide), ?_⟩
    rw [put_pw]
    have D2 := D1.noW hp
    have f2 := f1.trans (Fr.noW (dev := dev) (o := .ins T.C_Device g1.dx (devF { g1 with pw := p } { d with pages := crashP d.pages d.writes fs })) hp (o' := .lst []))
    refine ⟨_, rfl, dev, _, devF _ _, rfl, D2.at_, lk_no (by decide +kernel), _, rfl, dev, T.C_Device, _, devF _ _, _, rfl, D2.at_, T.cl_Device, T.n_Device__log_steps, lk_ls, _, rfl, (k : Int), 0, rfl, ?_⟩
    rw [show (if (0 : Int) > (k : Int) then (0 : Int) else (k : Int)) = (k : Int) from if_neg (by omega)]
    refine ⟨_, rfl, g1.ls, _, rfl, SqL.of D2.ls, fun l hl2 => ?_⟩
    have s4 := same_upd (o := .lst (cutV (d.steps.map optV) none (some (k : Int)))) hl2
    have D3 := D2.same s4
    refine ⟨dev, { g1 with pw := p, vs := [] }, { d with pages := crashP d.pages d.writes fs, writes := [] }, l, d.steps.take k, rfl, D3, ?_, ?_, fun g5 H5 D5 f5 ek => ?_⟩
    · rw [← cut_take]
      exact upd_same
    · show d.log.length + _ ≤ _
      rw [List.length_take]
      omega
    refine ⟨_, rfl, dev, T.C_Device, _, devF _ _, rfl, D5.at_, T.cl_Device, T.n_Device__steps_allowed, (by show 6 < 1000; decide), ?_⟩
    rw [show V.non = optV none from rfl, put_all]
    refine q _ _ (D5.num (d' := d.crash fs k) rfl rfl rfl rfl) (((f2.trans (Fr.same s4)).trans f5).trans Fr.ins) ?_
    show g5.kvs.length + 0 ≤ g.kvs.length + d.writes.length
    rw [ek]
    show g1.kvs.length + 0 ≤ g.kvs.length + d.writes.length
    rw [hl] at hk1
    omega
theorem newF {dp pw dl ls : Addr} {g : DG} (h1 : g.dp = dp) (h2 : g.pw = pw) (h3 : g.dl = dl) (h4 : g.ls = ls) : putF "_steps_allowed" .non (putF "_steps_performed" (.int 0) (putF "_log_steps" (.ref ls) (putF "_durable_log" (.ref dl) (putF "_page_writes" (.ref pw) (putF "_durable_pages" (.ref dp) []))))) = devF g DS.new := by
  subst h1 h2 h3 h4
  have e1 : putF "_page_writes" (.ref g.pw) (putF "_durable_pages" (.ref g.dp) []) = ([("_durable_pages", V.ref g.dp), ("_page_writes", V.ref g.pw)] : List (Str × V)) := set_tl (by decide +kernel) rfl
  have e2 : putF "_durable_log" (.ref g.dl) ([("_durable_pages", V.ref g.dp), ("_page_writes", V.ref g.pw)] : List (Str × V)) = ([("_durable_pages", V.ref g.dp), ("_page_writes", V.ref g.pw), ("_durable_log", V.ref g.dl)] : List (Str × V)) := set_tl (by decide +kernel) (set_tl (by decide +kernel) rfl)
  have e3 : putF "_log_steps" (.ref g.ls) ([("_durable_pages", V.ref g.dp), ("_page_writes", V.ref g.pw), ("_durable_log", V.ref g.dl)] : List (Str × V)) = ([("_durable_pages", V.ref g.dp), ("_page_writes", V.ref g.pw), ("_durable_log", V.ref g.dl), ("_log_steps", V.ref g.ls)] : List (Str × V)) := set_tl (by decide +kernel) (set_tl (by decide +kernel) (set_tl (by decide +kernel) rfl))
  have e4 : putF "_steps_performed" (.int 0) ([("_durable_pages", V.ref g.dp), ("_page_writes", V.ref g.pw), ("_durable_log", V.ref g.dl), ("_log_steps", V.ref g.ls)] : List (Str × V)) = ([("_durable_pages", V.ref g.dp), ("_page_writes", V.ref g.pw), ("_durable_log", V.ref g.dl), ("_log_steps", V.ref g.ls), ("_steps_performed", V.int 0)] : List (Str × V)) := set_tl (by decide +kernel) (set_tl (by decide +kernel) (set_tl (by decide +kernel) (set_tl (by decide +kernel) rfl)))
  rw [e1, e2, e3, e4]
  exact set_tl (by decide +kernel) (set_tl (by decide +kernel) (set_tl (by decide +kernel) (set_tl (by decide +kernel) (set_tl (by decide +kernel) rfl))))
def spInit (C : Addr) : Sp := fun vs H Q _ => ∃ (p dx : Addr), vs = [.ref p] ∧ H p = some (.ins C dx []) ∧ ∀ (g' : DG) (H' : Hp), DevAt C H' p g' DS.new → (∀ b o, H b = some o → b ≠ p → H' b = some o) → (∀ b, own p g' b → b = p ∨ H b = none) → g'.kvs = [] → Q .non H'
theorem ok_Device_init (T : Txt K mg) : FnOk P w K mg base CX0 1 T.f_Device_init T.fd_Device_init ["self"] (spInit T.C_Device) := by
  refine T.F_Device_init.ok sc_Device_init (fun vs H Q E h => ?_) (fun cdv A outer s H vs Q E hr h => ?_)
  · obtain ⟨_, _, rfl, _⟩ := h
    rfl
  obtain ⟨p, dx, rfl, hp, q⟩ := h
  refine ⟨_, (pss_cons (ps_fld (pv 0) pe_dnewK rfl)
      (pss_cons (ps_fld (pv 0) (pe_lst pa_nil) rfl)
      (pss_cons (ps_fld (pv 0) (pe_lst pa_nil) rfl)
      (pss_cons (ps_fld (pv 0) (pe_lst pa_nil) rfl)
      (pss_cons (ps_fld (pv 0) pe_int rfl)
      (pss_one (ps_fld (pv 0) pe_non rfl))))))), ?_⟩
  (try dsimp only [cxOf])
  rw [show start ["self"] [.ref p] = [some (.ref p)] from rfl]
  have f : ∀ {b x : Addr} {o u : HO} {G : Hp}, G x = some u → upd G x o b = none → b ≠ x ∧ G b = none := fun {b x o u G} e h => by
    by_cases hb : b = x
    · rw [hb, upd_same] at h; cases h
    · exact ⟨hb, by rw [upd_ne hb] at h; exact h⟩
  have f' : ∀ {b x : Addr} {o : HO} {G : Hp}, upd G x o b = none → b ≠ x ∧ G b = none := fun {b x o G} h => by
    by_cases hb : b = x
    · rw [hb, upd_same] at h; cases h
    · exact ⟨hb, by rw [upd_ne hb] at h; exact h⟩
  intro dp n1
  have a1 : p ≠ dp := ne_of_none hp n1
  refine ⟨_, rfl, p, T.C_Device, dx, _, rfl, by rw [upd_ne a1]; exact hp, T.cl_Device, T.n_Device__durable_pages, (by show 0 < 1000; decide), ?_⟩
  refine ⟨Nat.zero_le _, fun pw n2 => ?_⟩
  obtain ⟨b1, m2⟩ := f' n2
  obtain ⟨b2, m2⟩ := f' m2
  refine ⟨_, rfl, p, T.C_Device, dx, _, rfl, by rw [upd_ne b1.symm, upd_same], T.cl_Device, T.n_Device__page_writes, (by show 1 < 1000; decide), ?_⟩
  refine ⟨Nat.zero_le _, fun dl n3 => ?_⟩
  obtain ⟨c1, m3⟩ := f' n3
  obtain ⟨c2, m3⟩ := f' m3
  obtain ⟨_, m3⟩ := f' m3
  obtain ⟨c3, m3⟩ := f' m3
  refine ⟨_, rfl, p, T.C_Device, dx, _, rfl, by rw [upd_ne c1.symm, upd_same], T.cl_Device, T.n_Device__durable_log, (by show 2 < 1000; decide), ?_⟩
  refine ⟨Nat.zero_le _, fun ls n4 => ?_⟩
  obtain ⟨d1, m4⟩ := f' n4
  obtain ⟨d2, m4⟩ := f' m4
  obtain ⟨_, m4⟩ := f' m4
  obtain ⟨d3, m4⟩ := f' m4
  obtain ⟨_, m4⟩ := f' m4
  obtain ⟨d4, m4⟩ := f' m4
  refine ⟨_, rfl, p, T.C_Device, dx, _, rfl, by rw [upd_ne d1.symm, upd_same], T.cl_Device, T.n_Device__log_steps, (by show 3 < 1000; decide), ?_⟩
  refine ⟨_, rfl, p, T.C_Device, dx, _, rfl, upd_same, T.cl_Device, T.n_Device__steps_performed, (by show 4 < 1000; decide), ?_⟩
  refine ⟨_, rfl, p, T.C_Device, dx, _, rfl, upd_same, T.cl_Device, T.n_Device__steps_allowed, (by show 5 < 1000; decide), ?_⟩
  have hF := newF (g := ⟨dx, dp, pw, ls, dl, fun _ => none, [], []⟩) (dp := dp) (pw := pw) (dl := dl) (ls := ls) rfl rfl rfl rfl
  refine q ⟨dx, dp, pw, ls, dl, fun _ => none, [], []⟩ _ ⟨by rw [upd_same, hF], ?_, fun _ => .inl ⟨rfl, rfl⟩, ?_, ⟨rfl, fun i v w a _ => by cases a⟩, ?_, ?_, fun b o e => (nomatch (show (none : Option HO) = some o from e)), rfl, rfl, rfl, rfl, rfl, fun z => d3 z.symm, c2, fun z => d2 z.symm⟩ (fun b o e hb => ?_) (fun b h => ?_) rfl
  · simp [upd, a1, a1.symm, b1, b1.symm, b2, b2.symm, c1, c1.symm, c2, c2.symm, c3, c3.symm, d1, d1.symm, d2, d2.symm, d3, d3.symm, d4, d4.symm, DS.new]
  · simp [upd, a1, a1.symm, b1, b1.symm, b2, b2.symm, c1, c1.symm, c2, c2.symm, c3, c3.symm, d1, d1.symm, d2, d2.symm, d3, d3.symm, d4, d4.symm, DS.new]
  · simp [upd, a1, a1.symm, b1, b1.symm, b2, b2.symm, c1, c1.symm, c2, c2.symm, c3, c3.symm, d1, d1.symm, d2, d2.symm, d3, d3.symm, d4, d4.symm, DS.new]
  · simp [upd, a1, a1.symm, b1, b1.symm, b2, b2.symm, c1, c1.symm, c2, c2.symm, c3, c3.symm, d1, d1.symm, d2, d2.symm, d3, d3.symm, d4, d4.symm, DS.new]
  · have k1 : b ≠ dp := ne_of_none e n1
    have k2 : b ≠ pw := ne_of_none e m2
    have k3 : b ≠ dl := ne_of_none e m3
    have k4 : b ≠ ls := ne_of_none e m4
    simp [upd, hb, k1, k2, k3, k4, e]
  · rcases h with h | h | h | (h | h) | ⟨o, e⟩
    · exact .inl h
    · rw [h]; exact .inr n1
    · rw [h]; exact .inr m2
    · rw [h]; exact .inr m4
    · rw [h]; exact .inr m3
    · cases e

end
end K03


namespace K03
open PySem L2 Nv RZ
local macro_rules | `(tactic| walk_at "hp") => `(tactic| first
  | assumption
  | exact upd_same
  | exact (upd_ne (by assumption)).trans (by first | assumption | exact upd_same | exact (upd_ne (by assumption)).trans (by first | assumption | exact upd_same))
  | exact (upd_ne (Ne.symm (by assumption))).trans (by first | assumption | exact upd_same))
local macro_rules | `(tactic| walk_at "cond") => `(tactic| first
  | (change (0 : Int) < _; first | decide | omega)
  | exact Or.inr ⟨by decide, by decide⟩
  | exact Or.inl ⟨by decide, by decide⟩
  | exact Or.inr ⟨by omega, by omega⟩
  | exact Or.inl ⟨by omega, by omega⟩
  | exact ⟨by decide, by decide, by decide⟩
  | exact wide_div (by first | decide | omega) (show _ < 2 ^ 64 by first | decide | omega) (by decide) (by decide)
  | (change (0 : Int) ≤ _; first | decide | omega)
  | exact ⟨by decide, by decide⟩
  | exact ⟨by omega, by omega⟩)
local macro_rules | `(tactic| walk_at "val") => `(tactic| first
  | (with_reducible exact val_c)
  | ((with_reducible apply val_var); exact rfl)
  | ((with_reducible apply val_I0); walk_at "val"; walk_at "val")
  | ((with_reducible apply val_I); walk_at "val"; walk_at "val"; walk_at "cond")
  | ((with_reducible apply val_ixL); walk_at "val"; walk_at "val"; (first | exact SqL.of (by walk_at "hp") | assumption); exact rfl)
  | ((with_reducible apply val_len); walk_at "val"; first | exact Or.inl (SqL.of (by walk_at "hp")) | exact Or.inl (by assumption) | exact Or.inr (by assumption) | exact Or.inr (SqT.of (by walk_at "hp")))
  | ((with_reducible apply val_int1); walk_at "val")
  | ((with_reducible apply val_abs); walk_at "val")
  | ((with_reducible apply val_max2); walk_at "val"; walk_at "val")
  | ((with_reducible apply val_eq); walk_at "val"; walk_at "val"; exact rfl)
  | ((with_reducible apply val_ne); walk_at "val"; walk_at "val"; exact rfl)
  | ((with_reducible apply val_not); walk_at "val")
  | ((with_reducible apply val_U); walk_at "val"))
local macro_rules | `(tactic| walk_at "ans") => `(tactic| first
  | ((with_reducible apply ans_Eq); walk_at "val"; walk_at "val"; exact rfl)
  | ((with_reducible apply ans_Ne); walk_at "val"; walk_at "val"; exact rfl)
  | ((with_reducible apply ans_I0); walk_at "val"; walk_at "val"; exact rfl)
  | ((with_reducible refine ans_And ?_ (fun _ => ?_)); walk_at "ans"; walk_at "ans")
  | ((with_reducible refine ans_or2 ?_ (fun _ => ?_)); walk_at "ans"; walk_at "ans")
  | ((with_reducible refine ans_not ?_); walk_at "ans")
  | ((with_reducible apply ans_val); walk_at "val"))
local macro_rules | `(tactic| walk_at "nrm") => `(tactic| (try dsimp only [List.set_cons_zero, List.set_cons_succ]))
local macro_rules | `(tactic| walk_at "set") => `(tactic| first
  | ((with_reducible apply q_set); walk_at "val"; walk_at "nrm")
  | ((with_reducible apply s_set); walk_at "val"; walk_at "nrm"))
local macro_rules | `(tactic| walk_at "setL") => `(tactic| first
  | ((with_reducible apply q_setL); walk_at "val"; walk_at "val"; walk_at "val"; walk_at "hp"; exact rfl; walk_at "nrm")
  | ((with_reducible apply s_setL); walk_at "val"; walk_at "val"; walk_at "val"; walk_at "hp"; exact rfl; walk_at "nrm"))
local macro_rules | `(tactic| walk_at "ff") => `(tactic| (walk_at "nrm"; rw [if_neg (by decide)]; (try ((with_reducible refine st_next ?_); walk_at "nrm"))))
local macro_rules | `(tactic| walk_at "nok") => `(tactic| (refine ⟨_, rfl, rfl, _, rfl, ?_⟩; walk_at "nrm"; rw [if_neg (by decide)]))
local macro_rules | `(tactic| walk_at "yesk") => `(tactic| (refine ⟨_, rfl, rfl, _, rfl, ?_⟩; walk_at "nrm"; rw [if_pos (by decide)]))
local macro_rules | `(tactic| walk_at "no") => `(tactic| (walk_at "nrm"; rw [if_neg (by decide)]; walk_at "nrm"))
local macro_rules | `(tactic| walk_at "yes") => `(tactic| (walk_at "nrm"; rw [if_pos (by decide)]; walk_at "nrm"))
local macro_rules | `(tactic| walk_at "nos") => `(tactic| (walk_at "nrm"; repeat (rw [if_neg (by decide)]; walk_at "nrm"); (try ((with_reducible refine st_next ?_); walk_at "nrm"))))

section
variable {σ : St} {H : Hp} {m : Addr} {ks : List (Key × V)} {k : Key} {v : V} {ta tk : TE}
theorem val_dget (ha : Val ta σ H (.ref m)) (hk : Val tk σ H (kV k)) (e : H m = some (.dK ks)) (h : valV ks k = some v) : Val (tDGet ta tk) σ H v := fun Q q => ha _ (hk _ ⟨m, v, rfl, by rw [← h]; exact DGet.k e, q⟩)
end
theorem tick_test {d : DS} (ok : Good d) : (decide (0 ≤ mostI d) && decide (mostI d ≤ d.done)) = d.tick.isNone := by
  have h0 := ok.dn
  unfold DS.tick mostI
  cases e : d.allowed with
  | none => rfl
  | some a =>
    have h1 := ok.al a e
    show (decide (0 ≤ d.done + a) && decide (d.done + a ≤ d.done)) = (if a ≤ 0 then none else some { d with done := d.done + 1, allowed := some (a - 1) }).isNone
    by_cases c : a ≤ 0
    · rw [if_pos c, decide_eq_true (show 0 ≤ d.done + a by omega), decide_eq_true (show d.done + a ≤ d.done by omega)]
      rfl
    · rw [if_neg c, decide_eq_false (show ¬ d.done + a ≤ d.done by omega), Bool.and_false]
      rfl
theorem tick_some {d d' : DS} (ok : Good d) (h : d.tick = some d') : Good d' ∧ d'.done = d.done + 1 ∧ mostI d' = mostI d := by
  have h0 := ok.dn
  unfold DS.tick at h
  cases e : d.allowed with
  | none =>
    rw [e] at h
    cases h
    refine ⟨⟨by show 0 ≤ d.done + 1; omega, fun a ha => ?_, ok.nn⟩, rfl, ?_⟩
    · have ha : (none : Option Int) = some a := ha
      cases ha
    · unfold mostI
      rw [e]
  | some a =>
    rw [e] at h
    have h : (if a ≤ 0 then none else some { d with done := d.done + 1, allowed := some (a - 1) }) = some d' := h
    by_cases c : a ≤ 0
    · rw [if_pos c] at h
      cases h
    · rw [if_neg c] at h
      cases h
      refine ⟨⟨by show 0 ≤ d.done + 1; omega, fun b hb => ?_, ok.nn⟩, rfl, ?_⟩
      · have hb : some (a - 1) = some b := hb
        have := Option.some.inj hb
        omega
      · unfold mostI
        rw [e]
        show d.done + 1 + (a - 1) = d.done + a
        omega
theorem good_new : Good DS.new := ⟨Int.le_refl _, (fun a h => by cases h), (fun b h => by cases h)⟩
theorem md_new {dp pw dl ls : Addr} : MD (mergeK [] [(.inr "pages", .ref dp), (.inr "writes", .ref pw), (.inr "log", .ref dl), (.inr "steps", .ref ls), (.inr "done", .int 0), (.inr "most", .int (-1))]) dp pw dl ls 0 (-1) := by
  refine ⟨?_, ?_, ?_, ?_, ?_, ?_, length_mergeK _ _⟩ <;> simp only [mergeK, List.foldl, valV_put] <;>
    repeat (first | exact if_pos trivial | exact if_pos rfl | rw [if_neg (by decide +kernel)])
section
variable {P : Program} {w : World} {K : PySem.W.Frag} {mg : Str → Option Value} {base : Heap}
def spNew : Sp := fun vs H Q _ => ∃ u : Unit, vs = [] ∧ ∀ (m : Addr) (g : DG) (H' : Hp), ModAt H' m g DS.new → Same H H' → (∀ b, own m g b → H b = none) → g.kvs = [] → Q (.ref m) H'
theorem ok_law_new (T : Txt K mg) : FnOk P w K mg base CX0 1 T.f_law_new T.fd_law_new [] spNew := by
  refine T.F_law_new.ok sc_law_new (fun vs H Q E h => ?_) (fun cdv A outer s H vs Q E hr h => ?_)
  · obtain ⟨_, rfl, _⟩ := h
    rfl
  obtain ⟨u, rfl, q⟩ := h
  refine ⟨_, (pss_one (ps_ret (pe_disp (pps_cons pe_str pe_dnewK (pps_cons pe_str (pe_lst pa_nil) (pps_cons pe_str (pe_lst pa_nil) (pps_cons pe_str (pe_lst pa_nil) (pps_cons pe_str pe_int (pps_cons pe_str (pe_un un_neg pe_int) pps_nil)))))) (by rfl) (by rfl) (fun z => by cases z) (by decide)))), ?_⟩
  (try dsimp only [cxOf])
  have f' : ∀ {b x : Addr} {o : HO} {G : Hp}, upd G x o b = none → b ≠ x ∧ G b = none := fun {b x o G} h => by
    by_cases hb : b = x
    · rw [hb, upd_same] at h; cases h
    · exact ⟨hb, by rw [upd_ne hb] at h; exact h⟩
  intro m n0 dp n1
  obtain ⟨a1, m1⟩ := f' n1
  refine ⟨Nat.zero_le _, fun pw n2 => ?_⟩
  obtain ⟨b1, m2⟩ := f' n2
  obtain ⟨b2, m2⟩ := f' m2
  refine ⟨Nat.zero_le _, fun dl n3 => ?_⟩
  obtain ⟨c1, m3⟩ := f' n3
  obtain ⟨c2, m3⟩ := f' m3
  obtain ⟨c3, m3⟩ := f' m3
  refine ⟨Nat.zero_le _, fun ls n4 => ?_⟩
  obtain ⟨d1, m4⟩ := f' n4
  obtain ⟨d2, m4⟩ := f' m4
  obtain ⟨d3, m4⟩ := f' m4
  obtain ⟨d4, m4⟩ := f' m4
  refine ⟨1, rfl, ?_, [(.inr "pages", .ref dp), (.inr "writes", .ref pw), (.inr "log", .ref dl), (.inr "steps", .ref ls), (.inr "done", .int 0), (.inr "most", .int (-1))], rfl, by show 6 ≤ 15; decide, ?_⟩
  · rw [upd_ne d4.symm, upd_ne c3.symm, upd_ne b2.symm, upd_ne a1.symm, upd_same]
  refine q m ⟨0, dp, pw, ls, dl, upd (fun _ => none) dl (.lst []), [], []⟩ _ ⟨⟨_, upd_same, md_new⟩, ?_, fun _ => .inl ⟨rfl, rfl⟩, ?_, ⟨rfl, fun i v w a _ => by cases a⟩, ?_, (upd_same : upd (fun _ => none) dl (HO.lst []) dl = some (.lst [])), fun b o e => ?_, (upd_ne c3.symm : upd (fun _ => none) dl (HO.lst []) m = none), (upd_ne c2.symm : upd (fun _ => none) dl (HO.lst []) dp = none), (upd_ne c1.symm : upd (fun _ => none) dl (HO.lst []) pw = none), (upd_ne d1 : upd (fun _ => none) dl (HO.lst []) ls = none), fun z => d2 z.symm, a1, good_new⟩ (fun b o e => ?_) (fun b h => ?_) rfl
  · simp [upd, a1, b1.symm, b2, c1, c2.symm, c3, d1, d2, d3.symm, d4]
  · simp [upd, a1, b1, b2, c1.symm, c2, c3, d1, d2.symm, d3, d4]
  · simp [upd, a1, b1, b2, c1, c2, c3, d1, d2, d3, d4, DS.new]
  · have e : upd (fun _ => none) dl (HO.lst []) b = some o := e
    by_cases hb : b = dl
    · subst hb
      rw [upd_same] at e
      rw [← e]
      simp [upd, c3, d1.symm]
    · rw [upd_ne hb] at e
      cases e
  · have k0 : b ≠ m := ne_of_none e n0
    have k1 : b ≠ dp := ne_of_none e m1
    have k2 : b ≠ pw := ne_of_none e m2
    have k3 : b ≠ dl := ne_of_none e m3
    have k4 : b ≠ ls := ne_of_none e m4
    simp [upd, k0, k1, k2, k3, k4, e]
  · rcases h with h | h | h | (h | h) | ⟨o, e⟩
    · rw [h]; exact n0
    · rw [h]; exact m1
    · rw [h]; exact m2
    · rw [h]; exact m4
    · rw [h]; exact m3
    · have e : upd (fun _ => none) dl (HO.lst []) b = some o := e
      by_cases hb : b = dl
      · rw [hb]; exact m3
      · rw [upd_ne hb] at e
        cases e
def spMay : Sp := fun vs H Q _ => ∃ (m : Addr) (g : DG) (d : DS), vs = [.ref m] ∧ ModAt H m g d ∧ (d.tick = none → Q (.bl false) H) ∧
  ∀ (d' : DS) (H' : Hp), d.tick = some d' → ModAt H' m g d' → (∀ b, b ≠ m → H' b = H b) → Q (.bl true) H'
theorem ok_law_may (T : Txt K mg) : FnOk P w K mg base CX0 1 T.f_law_may T.fd_law_may ["model"] spMay := by
  refine T.F_law_may.ok sc_law_may (fun vs H Q E h => ?_) (fun cdv A outer s H vs Q E hr h => ?_)
  · obtain ⟨_, _, _, rfl, _⟩ := h
    rfl
  obtain ⟨m, g, d, rfl, D, kN, kS⟩ := h
  refine ⟨_, (pss_cons (ps_if (PW.pt (pw_and (pt_cmpR op_ge (pe_dget (hu_of hr) (pv 0) pe_str (fun _ _ => rfl)) pe_int (nomark _)) (pw_and1 (pt_cmpR op_ge (pe_dget (hu_of hr) (pv 0) pe_str (fun _ _ => rfl)) (pe_dget (hu_of hr) (pv 0) pe_str (fun _ _ => rfl)) (nomark _)))))
        (pss_one (ps_ret pe_bl))
        pss_nil)
      (pss_cons (ps_dput (hu_of hr) (pv 0) pe_str (pe_op op_add (pe_dget (hu_of hr) (pv 0) pe_str (fun _ _ => rfl)) pe_int) rfl)
      (pss_one (ps_ret pe_bl)))), ?_⟩
  (try dsimp only [cxOf])
  rw [show start ["model"] [.ref m] = [some (.ref m)] from rfl]
  obtain ⟨ks, e0, M⟩ := D.at_
  have ht := tick_test D.ok
  refine q_when (b := decide (0 ≤ mostI d) && decide (mostI d ≤ d.done)) (ans_And (ans_I0 (val_dget (k := .inr "most") (val_var rfl) val_c e0 M.most) val_c rfl) (fun _ => ans_I0 (val_dget (k := .inr "done") (val_var rfl) val_c e0 M.done) (val_dget (k := .inr "most") (val_var rfl) val_c e0 M.most) rfl)) (fun hb => ?_) (fun hb => ?_)
  · refine s_ret val_c (kN ?_)
    rw [ht] at hb
    exact Option.isNone_iff_eq_none.mp hb
  · rw [ht] at hb
    cases ed : d.tick with
    | none => rw [ed] at hb; cases hb
    | some d' =>
      obtain ⟨ok', e1, e2⟩ := tick_some D.ok ed
      obtain ⟨p1, p2, p3, p4⟩ := tick_same ed
      refine ⟨_, rfl, m, _, rfl, (by rw [← M.done]; exact DGet.k (k := .inr "done") e0), ?_⟩
      refine ⟨d.done, 1, rfl, rfl, _, rfl, m, _, rfl, DPut.k (k := .inr "done") e0 (Nat.lt_of_le_of_lt M.len (by decide)), ?_⟩
      refine kS d' _ ed (D.num (d' := d') ?_ p1 p2 p3 p4 ok') fun b hb => upd_ne hb
      rw [e1, e2]
      exact M.put_done
end
end K03


namespace K03
open PySem L2 Nv RZ
local macro_rules | `(tactic| walk_at "hp") => `(tactic| first
  | assumption
  | exact upd_same
  | exact (upd_ne (by assumption)).trans (by first | assumption | exact upd_same | exact (upd_ne (by assumption)).trans (by first | assumption | exact upd_same))
  | exact (upd_ne (Ne.symm (by assumption))).trans (by first | assumption | exact upd_same))
local macro_rules | `(tactic| walk_at "cond") => `(tactic| first
  | (change (0 : Int) < _; first | decide | omega)
  | exact Or.inr ⟨by decide, by decide⟩
  | exact Or.inl ⟨by decide, by decide⟩
  | exact Or.inr ⟨by omega, by omega⟩
  | exact Or.inl ⟨by omega, by omega⟩
  | exact ⟨by decide, by decide, by decide⟩
  | exact wide_div (by first | decide | omega) (show _ < 2 ^ 64 by first | decide | omega) (by decide) (by decide)
  | (change (0 : Int) ≤ _; first | decide | omega)
  | exact ⟨by decide, by decide⟩
  | exact ⟨by omega, by omega⟩)
local macro_rules | `(tactic| walk_at "val") => `(tactic| first
  | (with_reducible exact val_c)
  | ((with_reducible apply val_var); exact rfl)
  | ((with_reducible apply val_I0); walk_at "val"; walk_at "val")
  | ((with_reducible apply val_I); walk_at "val"; walk_at "val"; walk_at "cond")
  | ((with_reducible apply val_ixL); walk_at "val"; walk_at "val"; (first | exact SqL.of (by walk_at "hp") | assumption); exact rfl)
  | ((with_reducible apply val_len); walk_at "val"; first | exact Or.inl (SqL.of (by walk_at "hp")) | exact Or.inl (by assumption) | exact Or.inr (by assumption) | exact Or.inr (SqT.of (by walk_at "hp")))
  | ((with_reducible apply val_int1); walk_at "val")
  | ((with_reducible apply val_abs); walk_at "val")
  | ((with_reducible apply val_max2); walk_at "val"; walk_at "val")
  | ((with_reducible apply val_eq); walk_at "val"; walk_at "val"; exact rfl)
  | ((with_reducible apply val_ne); walk_at "val"; walk_at "val"; exact rfl)
  | ((with_reducible apply val_not); walk_at "val")
  | ((with_reducible apply val_U); walk_at "val"))
local macro_rules | `(tactic| walk_at "ans") => `(tactic| first
  | ((with_reducible apply ans_Eq); walk_at "val"; walk_at "val"; exact rfl)
  | ((with_reducible apply ans_Ne); walk_at "val"; walk_at "val"; exact rfl)
  | ((with_reducible apply ans_I0); walk_at "val"; walk_at "val"; exact rfl)
  | ((with_reducible refine ans_And ?_ (fun _ => ?_)); walk_at "ans"; walk_at "ans")
  | ((with_reducible refine ans_or2 ?_ (fun _ => ?_)); walk_at "ans"; walk_at "ans")
  | ((with_reducible refine ans_not ?_); walk_at "ans")
  | ((with_reducible apply ans_val); walk_at "val"))
local macro_rules | `(tactic| walk_at "nrm") => `(tactic| (try dsimp only [List.set_cons_zero, List.set_cons_succ]))
local macro_rules | `(tactic| walk_at "set") => `(tactic| first
  | ((with_reducible apply q_set); walk_at "val"; walk_at "nrm")
  | ((with_reducible apply s_set); walk_at "val"; walk_at "nrm"))
local macro_rules | `(tactic| walk_at "setL") => `(tactic| first
  | ((with_reducible apply q_setL); walk_at "val"; walk_at "val"; walk_at "val"; walk_at "hp"; exact rfl; walk_at "nrm")
  | ((with_reducible apply s_setL); walk_at "val"; walk_at "val"; walk_at "val"; walk_at "hp"; exact rfl; walk_at "nrm"))
local macro_rules | `(tactic| walk_at "ff") => `(tactic| (walk_at "nrm"; rw [if_neg (by decide)]; (try ((with_reducible refine st_next ?_); walk_at "nrm"))))
local macro_rules | `(tactic| walk_at "nok") => `(tactic| (refine ⟨_, rfl, rfl, _, rfl, ?_⟩; walk_at "nrm"; rw [if_neg (by decide)]))
local macro_rules | `(tactic| walk_at "yesk") => `(tactic| (refine ⟨_, rfl, rfl, _, rfl, ?_⟩; walk_at "nrm"; rw [if_pos (by decide)]))
local macro_rules | `(tactic| walk_at "no") => `(tactic| (walk_at "nrm"; rw [if_neg (by decide)]; walk_at "nrm"))
local macro_rules | `(tactic| walk_at "yes") => `(tactic| (walk_at "nrm"; rw [if_pos (by decide)]; walk_at "nrm"))
local macro_rules | `(tactic| walk_at "nos") => `(tactic| (walk_at "nrm"; repeat (rw [if_neg (by decide)]; walk_at "nrm"); (try ((with_reducible refine st_next ?_); walk_at "nrm"))))

section
variable {σ : St} {H : Hp} {m : Addr} {g : DG} {d : DS} {tn : TE} {n : Int} {Q : VK}
/-- the model's page that is durable, or zeros -/
theorem rd_get (h0 : σ[0]? = some (some (.ref m))) (D : ModAt H m g d) (hn : ∀ H', Same H H' → Val tn σ H' (.int n)) (q : ∀ (p : Addr) (H' : Hp), Same H H' → H' p = some (.lst ((getP d.pages n).map V.int)) → Q (.ref p) H') :
    tDGet2 (tDGet (tVar 0) (tC (.str "pages"))) tn (tOp rRep (tLst (tCons (tC (.int 0)) tNil)) (tC (.int 256))) σ H Q := by
  obtain ⟨ks, e0, M⟩ := D.at_
  refine ⟨_, h0, m, _, rfl, (by rw [← M.pages]; exact DGet.k (k := .inr "pages") e0), g.dp, rfl, .inl ⟨_, .inl D.dp⟩, ?_⟩
  refine hn _ (Same.refl _) _ ?_
  refine ⟨by show 1 ≤ sizeLine; decide, fun l hl => ?_⟩
  refine ⟨l, 256, [.int 0], rfl, rfl, upd_same, by decide, by decide, by show 256 ≤ sizeLine; decide, fun p hp => ?_⟩
  have s2 : Same H (upd (upd H l (.lst [.int 0])) p (.lst (List.replicate (256 : Int).toNat [V.int 0]).flatten)) := (same_upd hl).trans (same_upd hp)
  refine ⟨valV g.kvs (.inl n), DGet.k (k := .inl n) (s2 _ _ D.dp), ?_⟩
  rcases D.pg n with ⟨e1, e2⟩ | ⟨p1, xs, e1, e2, e3, e4⟩
  · rw [e2]
    refine q p _ s2 ?_
    rw [upd_same, zeros_rep]
    unfold getP
    rw [e1]
    rfl
  · rw [e2]
    refine q p1 _ s2 ?_
    rw [s2 _ _ (D.sm _ _ e3)]
    unfold getP
    rw [e1]
    rfl
end
section
variable {P : Program} {w : World} {K : PySem.W.Frag} {mg : Str → Option Value} {base : Heap}
def spMLog : Sp := fun vs H Q _ => ∃ (m : Addr) (g : DG) (d : DS), vs = [.ref m] ∧ ModAt H m g d ∧ d.log.length + d.steps.length ≤ 1000000 ∧ ∀ (p : Addr) (H' : Hp), Same H H' → H p = none → H' p = some (.lst (d.logNow.map V.int)) → Q (.ref p) H'
theorem ok_law_log (T : Txt K mg) : FnOk P w K mg base CX0 1 T.f_law_log T.fd_law_log ["model"] spMLog := by
  refine T.F_law_log.ok sc_law_log (fun vs H Q E h => ?_) (fun cdv A outer s H vs Q E hr h => ?_)
  · obtain ⟨_, _, _, rfl, _⟩ := h
    rfl
  obtain ⟨m, g, d, rfl, D, hl, q⟩ := h
  refine ⟨_, (pss_cons (ps_set (i := 1) sc_law_log.nd rfl (by first | exact Or.inl rfl | exact Or.inr rfl) (pe_callTy call_list_of (by rfl) T.z_list (by decide +kernel) (pa_cons (pe_dget (hu_of hr) (pv 0) pe_str (fun _ _ => rfl)) pa_nil)))
      (pss_cons (ps_for PassesOwn.never rfl (pi_list (pe_dget (hu_of hr) (pv 0) pe_str (fun _ _ => rfl))) (pg_name (i := 2) sc_law_log.nd rfl (by first | exact Or.inl rfl | exact Or.inr rfl))
        (pss_one (ps_if (pt_cmpR op_lt (pv 2) pe_int (nomark _))
          (pss_one (ps_set (i := 1) sc_law_log.nd rfl (by first | exact Or.inl rfl | exact Or.inr rfl) (pe_lst pa_nil)))
          (pss_one (ps_expr (pe_bm PySem.F.plainAttrs_list PySem.F.slot_list_append PySem.F.type_list_append mt_append (pv 1) (pa_cons (pv 2) pa_nil)))))))
      (pss_one (ps_ret (pv 1))))), ?_⟩
  (try dsimp only [cxOf])
  rw [show start ["model", "data", "byte"] [.ref m] = [some (.ref m), none, none] from rfl]
  obtain ⟨ks, e0, M⟩ := D.at_
  refine q_setg ?_
  refine ⟨_, rfl, m, _, rfl, (by rw [← M.log]; exact DGet.k (k := .inr "log") e0), g.dl, _, rfl, .inl (SqL.of (D.sm _ _ D.dl)), fun p hp => ?_⟩
  walk_at "nrm"
  have s1 : Same H (upd H p (.lst (d.log.map V.int))) := same_upd hp
  refine ⟨_, rfl, m, _, rfl, (by rw [← M.steps]; exact DGet.k (k := .inr "steps") (s1 _ _ e0)), g.ls, rfl, ⟨_, SqL.of (s1 _ _ D.ls)⟩, for_list (K := K) (a := g.ls) (xs := d.steps.map fun s => V.int (stepI s)) (fun i σ' H' => ∃ (p : Addr) (c : Option V), σ' = [some (.ref m), some (.ref p), c] ∧ Same H H' ∧ H p = none ∧ H' p = some (.lst ((afterL d.log (d.steps.take i)).map V.int)))
    ⟨p, none, rfl, s1, hp, upd_same⟩ (fun i σ' H' _ ⟨_, _, _, s2, _⟩ => SqL.of (s2 _ _ D.ls)) ?_ ?_⟩
  · rintro i x σ' H' hx ⟨p, c, rfl, s2, np, e⟩
    rw [List.getElem?_map] at hx
    obtain ⟨s, hs, rfl⟩ : ∃ s, d.steps[i]? = some s ∧ x = V.int (stepI s) := by
      cases e : d.steps[i]? with
      | none => rw [e] at hx; cases hx
      | some s => rw [e] at hx; exact ⟨s, rfl, (Option.some.inj hx).symm⟩
    have hi := (List.getElem?_eq_some_iff.mp hs).1
    refine ⟨_, rfl, _, _, rfl, rfl, _, rfl, ?_⟩
    walk_at "nrm"
    rw [take_more hs, afterL_snoc]
    cases s with
    | none =>
      rw [if_pos (show decide (stepI none < 0) = true by decide)]
      refine s_setg ?_
      refine ⟨Nat.zero_le _, fun p2 hp2 => ?_⟩
      exact ⟨p2, _, rfl, s2.trans (same_upd hp2), s2.free hp2, upd_same⟩
    | some z =>
      have hz := D.ok.nn z (List.mem_of_getElem? hs)
      rw [if_neg (show ¬ decide (stepI (some z) < 0) = true from fun k => absurd (of_decide_eq_true k) (by show ¬ z < 0; omega))]
      have h1 := afterL_len d.log (d.steps.take i)
      rw [List.length_take] at h1
      refine ⟨_, rfl, .inl ⟨rfl, _, SqL.of e⟩, _, rfl, p, _, _, rfl, rfl, e, ?_, p, _, rfl, ?_, np, ?_⟩
      · rw [List.length_map]
        exact Nat.lt_of_le_of_lt (show _ ≤ 1000000 by omega) (by decide)
      · exact fun b o hb => by
          rw [upd_ne (ne_of_none hb np)]
          exact s2 b o hb
      · rw [upd_same]
        show some (HO.lst ((afterL d.log (d.steps.take i)).map V.int ++ [V.int z])) = some (HO.lst ((afterL d.log (d.steps.take i) ++ [z]).map V.int))
        rw [List.map_append]
        rfl
  · rintro σ' H' ⟨p, c, rfl, s2, np, e⟩
    rw [List.length_map, List.take_length] at e
    exact s_ret (val_var rfl) (q p H' s2 np e)
def spMPage : Sp := fun vs H Q _ => ∃ (m : Addr) (g : DG) (d : DS) (n : Int), vs = [.ref m, .int n] ∧ ModAt H m g d ∧ ∀ (p : Addr) (H' : Hp), Same H H' → H' p = some (.lst ((d.page n).map V.int)) → Q (.ref p) H'
theorem ok_law_page (T : Txt K mg) : FnOk P w K mg base CX0 1 T.f_law_page T.fd_law_page ["model", "number"] spMPage := by
  refine T.F_law_page.ok sc_law_page (fun vs H Q E h => ?_) (fun cdv A outer s H vs Q E hr h => ?_)
  · obtain ⟨_, _, _, _, rfl, _⟩ := h
    rfl
  obtain ⟨m, g, d, n, rfl, D, q⟩ := h
  refine ⟨_, (pss_cons (ps_set (i := 2) sc_law_page.nd rfl (by first | exact Or.inl rfl | exact Or.inr rfl) (pe_dget2 (hu_of hr) (pe_dget (hu_of hr) (pv 0) pe_str (fun _ _ => rfl)) (pv 1) (pe_op op_rep (pe_lst (pa_cons pe_int pa_nil)) pe_int) ⟨by rfl, by rfl, by rfl, by rfl⟩))
      (pss_cons (ps_for PassesOwn.never rfl (pi_list (pe_dget (hu_of hr) (pv 0) pe_str (fun _ _ => rfl))) (pg_tup (by rfl) (pgs_cons (pg_name (i := 3) sc_law_page.nd rfl (by first | exact Or.inl rfl | exact Or.inr rfl)) (pgs_cons (pg_name (i := 4) sc_law_page.nd rfl (by first | exact Or.inl rfl | exact Or.inr rfl)) pgs_nil)))
        (pss_one (ps_if (pt_cmpR op_eq (pv 3) (pv 1) (nomark _))
          (pss_one (ps_set (i := 2) sc_law_page.nd rfl (by first | exact Or.inl rfl | exact Or.inr rfl) (pv 4)))
          pss_nil)))
      (pss_one (ps_ret (pv 2))))), ?_⟩
  (try dsimp only [cxOf])
  rw [show start ["model", "number", "data", "other", "content"] [.ref m, .int n] = [some (.ref m), some (.int n), none, none, none] from rfl]
  obtain ⟨ks, e0, M⟩ := D.at_
  refine q_setg ?_
  refine rd_get rfl D (n := n) (fun _ _ => val_var rfl) fun p H1 s1 ep => ?_
  walk_at "nrm"
  have hl := D.wr.len
  refine ⟨_, rfl, m, _, rfl, (by rw [← M.writes]; exact DGet.k (k := .inr "writes") (s1 _ _ e0)), g.pw, rfl, ⟨_, SqL.of (s1 _ _ D.pw)⟩, for_list (K := K) (a := g.pw) (xs := g.vs) (fun i σ' H' => H' = H1 ∧ ∃ (p : Addr) (c1 c2 : Option V), σ' = [some (.ref m), some (.int n), some (.ref p), c1, c2] ∧ H1 p = some (.lst (((lastW (d.writes.take i) n (d.pages n)).getD zeros).map V.int)))
    ⟨rfl, p, none, none, rfl, ep⟩ (fun i σ' H' _ ⟨e, _⟩ => by rw [e]; exact SqL.of (s1 _ _ D.pw)) ?_ ?_⟩
  · rintro i v σ' H' hv ⟨rfl, p, c1, c2, rfl, e⟩
    have hi := (List.getElem?_eq_some_iff.mp hv).1
    have hw : d.writes[i]? = some (d.writes[i]'(by omega)) := List.getElem?_eq_getElem (by omega)
    generalize d.writes[i]'(by omega) = ww at hw
    obtain ⟨t, p1, rfl, et, ep, hp⟩ := D.wr.each _ _ ww hv hw
    refine ⟨t, _, rfl, SqT.of (s1 _ _ (D.sm _ _ et)), rfl, _, _, rfl, _, _, rfl, rfl, ?_⟩
    refine ⟨_, rfl, _, rfl, rfl, _, rfl, ?_⟩
    walk_at "nrm"
    rw [take_more hw, lastW_snoc]
    by_cases hn : ww.1 = n
    · rw [if_pos (show decide (V.int ww.1 = V.int n) = true from decide_eq_true (congrArg V.int hn)), if_pos hn]
      exact ⟨_, rfl, rfl, p1, _, _, rfl, s1 _ _ (D.sm _ _ ep)⟩
    · rw [if_neg (show ¬ decide (V.int ww.1 = V.int n) = true from fun z => hn (V.int.inj (of_decide_eq_true z))), if_neg hn]
      exact ⟨rfl, p, _, _, rfl, e⟩
  · rintro σ' H' ⟨rfl, p, c1, c2, rfl, e⟩
    rw [hl, List.take_length] at e
    exact s_ret (val_var rfl) (q p H' s1 e)
def spMCrash : Sp := fun vs H Q _ => ∃ (m : Addr) (g : DG) (d : DS) (a : Addr) (fs : List Int) (k : Nat), vs = [.ref m, .ref a, .int (k : Int)] ∧ ModAt H m g d ∧ H a = some (.lst (fs.map V.int)) ∧ fs.length ≤ 1000 ∧ ¬ own m g a ∧ bnd g d ≤ 1000000 ∧ d.log.length + d.steps.length ≤ 1000000 ∧
  ∀ (g' : DG) (H' : Hp), ModAt H' m g' (d.crash fs k) → Fr m g H g' H' → bnd g' (d.crash fs k) ≤ bnd g d → Q .non H'
theorem ok_law_crash (T : Txt K mg) : FnOk P w K mg base CX0 2 T.f_law_crash T.fd_law_crash ["model", "fates", "kept"] spMCrash := by
  refine T.F_law_crash.ok sc_law_crash (fun vs H Q E h => ?_) (fun cdv A outer s H vs Q E hr h => ?_)
  · obtain ⟨_, _, _, _, _, _, rfl, _⟩ := h
    rfl
  obtain ⟨m, g, d, a, fs, k, rfl, D, hA, hfl, na, hb, hlog, q⟩ := h
  refine ⟨_, (pss_cons (ps_for PassesOwn.never rfl (pi_range1 (by rfl) T.z_range (pa_cons (pe_callB (call_min2 rfl) (by rfl) T.z_min (by decide +kernel) (pa_cons (pe_callB call_len_seq (by rfl) T.z_len (by decide +kernel) (pa_cons (pv 1) pa_nil)) (pa_cons (pe_callB call_len_seq (by rfl) T.z_len (by decide +kernel) (pa_cons (pe_dget (hu_of hr) (pv 0) pe_str (fun _ _ => rfl)) pa_nil)) pa_nil))) pa_nil)) (pg_name (i := 3) sc_law_crash.nd rfl (by first | exact Or.inl rfl | exact Or.inr rfl))
        (pss_cons (ps_asg (pe_ix ix_list (pe_dget (hu_of hr) (pv 0) pe_str (fun _ _ => rfl)) (pv 3) (fun _ _ => rfl)) (pg_tup (by rfl) (pgs_cons (pg_name (i := 4) sc_law_crash.nd rfl (by first | exact Or.inl rfl | exact Or.inr rfl)) (pgs_cons (pg_name (i := 5) sc_law_crash.nd rfl (by first | exact Or.inl rfl | exact Or.inr rfl)) pgs_nil))))
        (pss_cons (ps_set (i := 6) sc_law_crash.nd rfl (by first | exact Or.inl rfl | exact Or.inr rfl) (pe_dget2 (hu_of hr) (pe_dget (hu_of hr) (pv 0) pe_str (fun _ _ => rfl)) (pv 4) (pe_op op_rep (pe_lst (pa_cons pe_int pa_nil)) pe_int) ⟨by rfl, by rfl, by rfl, by rfl⟩))
        (pss_cons (ps_if (pt_cmpR op_eq (pe_ix ix_list (pv 1) (pv 3) (fun _ _ => rfl)) pe_int (nomark _))
          (pss_one (ps_dput (hu_of hr) (pe_dget (hu_of hr) (pv 0) pe_str (fun _ _ => rfl)) (pv 4) (pv 5) rfl))
          pss_nil)
        (pss_one (ps_if (pt_cmpR op_eq (pe_ix ix_list (pv 1) (pv 3) (fun _ _ => rfl)) pe_int (nomark _))
          (pss_one (ps_dput (hu_of hr) (pe_dget (hu_of hr) (pv 0) pe_str (fun _ _ => rfl)) (pv 4) (pe_op op_cat (pe_slice sl_list (pv 5) po_none (po_some pe_int)) (pe_slice sl_list (pv 6) (po_some pe_int) po_none)) rfl))
          pss_nil))))))
      (pss_cons (ps_dput (hu_of hr) (pv 0) pe_str (pe_lst pa_nil) rfl)
      (pss_cons (ps_dput (hu_of hr) (pv 0) pe_str (pe_slice sl_list (pe_dget (hu_of hr) (pv 0) pe_str (fun _ _ => rfl)) po_none (po_some (pv 2))) rfl)
      (pss_cons (ps_dput (hu_of hr) (pv 0) pe_str (pe_call (ok_law_log T) (hr.mono (by decide)) (by rfl) T.g_law_log T.F_law_log.kp T.b_law_log .nil pass0 (pa_cons (pv 0) pa_nil)) rfl)
      (pss_cons (ps_dput (hu_of hr) (pv 0) pe_str (pe_lst pa_nil) rfl)
      (pss_one (ps_dput (hu_of hr) (pv 0) pe_str (pe_un un_neg pe_int) rfl))))))), ?_⟩
  (try dsimp only [cxOf])
  rw [show start ["model", "fates", "kept", "k", "number", "data", "old"] [.ref m, .ref a, .int (k : Int)] = [some (.ref m), some (.ref a), some (.int (k : Int)), none, none, none, none] from rfl]
  obtain ⟨ks, e0, M⟩ := D.at_
  have hl := D.wr.len
  have hmin : (if ((g.vs.length : Nat) : Int) < (((fs.map V.int).length : Nat) : Int) then ((g.vs.length : Nat) : Int) else (((fs.map V.int).length : Nat) : Int)) = ((min d.writes.length fs.length : Nat) : Int) := by
    rw [List.length_map, hl]
    split <;> omega
  refine ⟨_, rfl, a, _, rfl, .inl (SqL.of hA), _, rfl, m, _, rfl, (by rw [← M.writes]; exact DGet.k (k := .inr "writes") e0), g.pw, _, rfl, .inl (SqL.of D.pw), _, _, rfl, ?_⟩
  rw [hmin]
  refine ⟨_, rfl, by omega, by omega, ?_⟩
  rw [Int.toNat_natCast]
  refine for_range (lo := 0) (n := min d.writes.length fs.length) (fun i σ' H' => ∃ (g1 : DG) (c3 c4 c5 c6 : Option V), σ' = [some (.ref m), some (.ref a), some (.int (k : Int)), c3, c4, c5, c6] ∧ ModAt H' m g1 { d with pages := crashP d.pages (d.writes.take i) (fs.take i) } ∧ Fr m g H g1 H' ∧ (i ≤ d.writes.length → g1.kvs.length ≤ g.kvs.length + i))
    ⟨g, none, none, none, none, rfl, D, Fr.refl _ _ _, fun _ => Nat.le_refl _⟩ ?_ ?_
  · rintro i σ' H' hi ⟨g1, c3, c4, c5, c6, rfl, D1, f1, hk⟩
    have hw : d.writes[i]? = some (d.writes[i]'(by omega)) := List.getElem?_eq_getElem (by omega)
    generalize d.writes[i]'(by omega) = ww at hw
    have hf : fs[i]? = some (fs[i]'(by omega)) := List.getElem?_eq_getElem (by omega)
    generalize fs[i]'(by omega) = fa at hf
    have hl1 := D1.wr.len
    have hl1 : g1.vs.length = d.writes.length := hl1
    have hv : g1.vs[i]? = some (g1.vs[i]'(by omega)) := List.getElem?_eq_getElem (by omega)
    generalize g1.vs[i]'(by omega) = vv at hv
    obtain ⟨t, p, rfl, et, ep, hp⟩ := D1.wr.each i vv ww hv hw
    obtain ⟨ks1, e1, M1⟩ := D1.at_
    have hk1 := hk (by omega)
    have hA1 := f1.keep _ _ na hA
    rw [show (0 : Int) + (i : Int) = ((i : Nat) : Int) from by omega]
    refine ⟨_, rfl, m, _, rfl, (by rw [← M1.writes]; exact DGet.k (k := .inr "writes") e1), _, rfl, g1.pw, g1.vs, ((i : Nat) : Int), .ref t, rfl, rfl, SqL.of D1.pw, atI_nat hv, ?_⟩
    refine ⟨t, _, rfl, SqT.of (D1.sm _ _ et), rfl, _, _, rfl, _, _, rfl, rfl, ?_⟩
    walk_at "nrm"
    refine q_setg ?_
    refine rd_get rfl D1 (n := ww.1) (fun _ _ => val_var rfl) fun po H2 s2 eo => ?_
    walk_at "nrm"
    have D2 := D1.same s2
    obtain ⟨ks2, e2, M2⟩ := D2.at_
    have hA2 := s2 _ _ hA1
    refine ⟨_, rfl, _, rfl, a, _, _, _, rfl, rfl, SqL.of hA2, at_map hf, rfl, _, rfl, ?_⟩
    walk_at "nrm"
    have ec := crash_more (f := d.pages) hw hf
    by_cases h1 : fa = 1
    · rw [if_pos (show decide (V.int fa = V.int 1) = true from decide_eq_true (congrArg V.int h1))]
      refine ⟨_, rfl, _, rfl, m, _, rfl, (by rw [← M2.pages]; exact DGet.k (k := .inr "pages") e2), _, rfl, g1.dp, _, rfl, DPut.k (k := .inl ww.1) D2.dp (Nat.lt_of_le_of_lt (show _ ≤ 1000000 by unfold bnd at hb; omega) (by decide)), ?_⟩
      have D3 := D2.put (n := ww.1) ep hp
      refine ⟨_, rfl, _, rfl, a, _, _, _, rfl, rfl, SqL.of ((Fr.dp (o := .dK (putK g1.kvs (.inl ww.1) (.ref p))) (kvs := putK g1.kvs (.inl ww.1) (.ref p))).keep _ _ (fun z => by
        rcases f1.grow a z with z | z
        · exact na z
        · rw [hA] at z; cases z) hA2), at_map hf, rfl, _, rfl, ?_⟩
      walk_at "nrm"
      rw [if_neg (show ¬ decide (V.int fa = V.int 2) = true from fun z => by have := V.int.inj (of_decide_eq_true z); omega)]
      refine ⟨_, _, _, _, _, rfl, ?_, (f1.trans (Fr.same s2)).trans (Fr.dp (kvs := putK g1.kvs (.inl ww.1) (.ref p))), fun _ => Nat.le_trans (putK_le _ _ _) (by omega)⟩
      rw [ec, show endW (crashP d.pages (d.writes.take i) (fs.take i)) ww fa = putP (crashP d.pages (d.writes.take i) (fs.take i)) ww.1 ww.2 from if_pos h1]
      exact D3
    · rw [if_neg (show ¬ decide (V.int fa = V.int 1) = true from fun z => h1 (V.int.inj (of_decide_eq_true z)))]
      refine ⟨_, rfl, _, rfl, a, _, _, _, rfl, rfl, SqL.of hA2, at_map hf, rfl, _, rfl, ?_⟩
      walk_at "nrm"
      by_cases h2 : fa = 2
      · rw [if_pos (show decide (V.int fa = V.int 2) = true from decide_eq_true (congrArg V.int h2))]
        refine ⟨_, rfl, ⟨128, rfl, p, _, rfl, SqL.of (s2 _ _ (D1.sm _ _ ep)), fun p3 np3 => ?_⟩⟩
        have s3 := same_upd (o := .lst (cutV (ww.2.map V.int) none (some 128))) np3
        refine ⟨_, rfl, 128, rfl, po, _, rfl, SqL.of (s3 _ _ eo), fun p4 np4 => ?_⟩
        have s4 := same_upd (o := .lst (cutV ((getP (crashP d.pages (d.writes.take i) (fs.take i)) ww.1).map V.int) (some 128) none)) np4
        have hg := getP_len D2.pg ww.1
        have hg : (getP (crashP d.pages (d.writes.take i) (fs.take i)) ww.1).length ≤ 1000 := hg
        refine ⟨p3, p4, _, _, rfl, rfl, s4 _ _ upd_same, upd_same, ?_, fun p5 np5 => ?_⟩
        · rw [show (128 : Int) = ((128 : Nat) : Int) from rfl, cut_take, cut_drop, List.length_map, List.length_map, List.length_take, List.length_drop]
          exact Nat.le_of_lt (Nat.lt_of_le_of_lt (show _ ≤ 2000 by omega) (by decide))
        have D3 := (D2.same s3).same s4
        have D4 := D3.ext (o := .lst (cutV (ww.2.map V.int) none (some 128) ++ cutV ((getP (crashP d.pages (d.writes.take i) (fs.take i)) ww.1).map V.int) (some 128) none)) np5
        obtain ⟨ks4, e4, M4⟩ := D4.at_
        refine ⟨_, rfl, m, _, rfl, (by rw [← M4.pages]; exact DGet.k (k := .inr "pages") e4), _, rfl, g1.dp, _, rfl, DPut.k (k := .inl ww.1) D4.dp (Nat.lt_of_le_of_lt (show _ ≤ 1000000 by show g1.kvs.length ≤ _; unfold bnd at hb; omega) (by decide)), ?_⟩
        have D5 := D4.put (n := ww.1) (p := p5) (xs := ww.2.take 128 ++ (getP (crashP d.pages (d.writes.take i) (fs.take i)) ww.1).drop 128) (by
          show upd g1.F p5 _ p5 = _
          rw [upd_same, show (128 : Int) = ((128 : Nat) : Int) from rfl, cut_take, cut_drop, ← List.map_append]) (by
          rw [List.length_append, List.length_take, List.length_drop]
          omega)
        refine ⟨_, _, _, _, _, rfl, ?_, (((((f1.trans (Fr.same s2)).trans (Fr.same s3)).trans (Fr.same s4)).trans (Fr.ext np5)).trans (Fr.dp (kvs := putK g1.kvs (.inl ww.1) (.ref p5)))), fun _ => Nat.le_trans (putK_le g1.kvs _ _) (by omega)⟩
        rw [ec, show endW (crashP d.pages (d.writes.take i) (fs.take i)) ww fa = putP (crashP d.pages (d.writes.take i) (fs.take i)) ww.1 (ww.2.take 128 ++ (getP (crashP d.pages (d.writes.take i) (fs.take i)) ww.1).drop 128) from (if_neg h1).trans (if_pos h2)]
        exact D5
      · rw [if_neg (show ¬ decide (V.int fa = V.int 2) = true from fun z => h2 (V.int.inj (of_decide_eq_true z)))]
        refine ⟨g1, _, _, _, _, rfl, ?_, f1.trans (Fr.same s2), fun _ => by omega⟩
        rw [ec, show endW (crashP d.pages (d.writes.take i) (fs.take i)) ww fa = crashP d.pages (d.writes.take i) (fs.take i) from (if_neg h1).trans (if_neg h2)]
        exact D2
  · rintro σ' H1 ⟨g1, c3, c4, c5, c6, rfl, D1, f1, hk⟩
    rw [crash_min] at D1
    have hk1 := hk (Nat.min_le_left _ _)
    -- no writes
    refine ⟨Nat.zero_le _, fun p hp => ?_⟩
    obtain ⟨ks2, e2, l2, D2⟩ := D1.noW hp
    refine ⟨_, rfl, m, _, rfl, DPut.k (k := .inr "writes") e2 (Nat.lt_of_le_of_lt l2 (by decide)), ?_⟩
    have f2 := f1.trans (Fr.noW (dev := m) (o := .dK (putK ks2 (.inr "writes") (.ref p))) hp (o' := .lst []))
    -- the kept steps
    obtain ⟨ks3, e3, M3⟩ := D2.at_
    refine ⟨_, rfl, m, _, rfl, (by rw [← M3.steps]; exact DGet.k (k := .inr "steps") e3), _, rfl, (k : Int), rfl, g1.ls, _, rfl, SqL.of D2.ls, fun l hl2 => ?_⟩
    obtain ⟨ks4, e4, l4, D4⟩ := D2.otherL (ss := d.steps.take k) hl2 (fun b hb => D.ok.nn b (List.mem_of_mem_take hb))
    rw [show cutV (d.steps.map fun s => V.int (stepI s)) none (some (k : Int)) = (d.steps.take k).map fun s => V.int (stepI s) from cut_take _ _ _]
    refine ⟨_, rfl, m, _, rfl, DPut.k (k := .inr "steps") e4 (Nat.lt_of_le_of_lt l4 (by decide)), ?_⟩
    have f4 := f2.trans (Fr.noL (dev := m) (o := .dK (putK ks4 (.inr "steps") (.ref l))) hl2 (o' := .lst ((d.steps.take k).map fun s => V.int (stepI s))))
    -- the log
    refine ⟨_, rfl, m, _, _, rfl, D4, ?_, fun q1 H5 s5 nq eq => ?_⟩
    · show d.log.length + (d.steps.take k).length ≤ _
      rw [List.length_take]
      omega
    have eq : H5 q1 = some (.lst ((afterL d.log (d.steps.take k)).map V.int)) := eq
    obtain ⟨g5, eg, D5, f5⟩ : ∃ g5 : DG, g5 = { g1 with pw := p, vs := [], ls := l, F := upd g1.F q1 (.lst ((afterL d.log (d.steps.take k)).map V.int)) } ∧ ModAt H5 m g5 { d with pages := crashP d.pages d.writes fs, writes := [], steps := d.steps.take k } ∧ Fr m { g1 with pw := p, vs := [], ls := l } _ g5 H5 := by
      have h : ∀ b o, upd _ q1 (.lst ((afterL d.log (d.steps.take k)).map V.int)) b = some o → H5 b = some o := fun b o e => by
        by_cases hb : b = q1
        · subst hb; rw [upd_same] at e; rw [eq]; exact e
        · rw [upd_ne hb] at e; exact s5 b o e
      exact ⟨_, rfl, (D4.ext nq).same h, (Fr.ext nq).trans (Fr.same h)⟩
    obtain ⟨ks6, e6, l6, D6⟩ := D5.newL (p := q1) (xs := afterL d.log (d.steps.take k)) (by rw [eg]; exact upd_same)
    refine ⟨_, rfl, m, _, rfl, DPut.k (k := .inr "log") e6 (Nat.lt_of_le_of_lt l6 (by decide)), ?_⟩
    have f6 := (f4.trans f5).trans (frOldL (p := q1) (o := .dK (putK ks6 (.inr "log") (.ref q1))) (by rw [eg]; exact upd_same))
    -- no steps
    refine ⟨Nat.zero_le _, fun q2 hq2 => ?_⟩
    obtain ⟨ks7, e7, l7, D7⟩ := D6.noL hq2
    refine ⟨_, rfl, m, _, rfl, DPut.k (k := .inr "steps") e7 (Nat.lt_of_le_of_lt l7 (by decide)), ?_⟩
    have f7 := f6.trans (Fr.noL (dev := m) (o := .dK (putK ks7 (.inr "steps") (.ref q2))) hq2 (o' := .lst []))
    -- no limit
    obtain ⟨ks8, e8, M8⟩ := D7.at_
    refine ⟨1, rfl, _, rfl, m, _, rfl, DPut.k (k := .inr "most") e8 (Nat.lt_of_le_of_lt M8.len (by decide)), ?_⟩
    refine q _ _ (D7.num (d' := d.crash fs k) (M8.put_most (i := -1)) rfl rfl rfl rfl ⟨D.ok.dn, (fun a h => by cases h), (fun b h => absurd h (by show ¬ some b ∈ []; simp))⟩) (f7.trans Fr.ins) ?_
    rw [eg]
    show g1.kvs.length + 0 ≤ g.kvs.length + d.writes.length
    omega
end
end K03


namespace K03
open PySem L2 Nv RZ
local macro_rules | `(tactic| walk_at "hp") => `(tactic| first
  | assumption
  | exact upd_same
  | exact (upd_ne (by assumption)).trans (by first | assumption | exact upd_same | exact (upd_ne (by assumption)).trans (by first | assumption | exact upd_same))
  | exact (upd_ne (Ne.symm (by assumption))).trans (by first | assumption | exact upd_same))
local macro_rules | `(tactic| walk_at "cond") => `(tactic| first
  | (change (0 : Int) < _; first | decide | omega)
  | exact Or.inr ⟨by decide, by decide⟩
  | exact Or.inl ⟨by decide, by decide⟩
  | exact Or.inr ⟨by omega, by omega⟩
  | exact Or.inl ⟨by omega, by omega⟩
  | exact ⟨by decide, by decide, by decide⟩
  | exact wide_div (by first | decide | omega) (show _ < 2 ^ 64 by first | decide | omega) (by decide) (by decide)
  | (change (0 : Int) ≤ _; first | decide | omega)
  | exact ⟨by decide, by decide⟩
  | exact ⟨by omega, by omega⟩)
local macro_rules | `(tactic| walk_at "val") => `(tactic| first
  | (with_reducible exact val_c)
  | ((with_reducible apply val_var); exact rfl)
  | ((with_reducible apply val_I0); walk_at "val"; walk_at "val")
  | ((with_reducible apply val_I); walk_at "val"; walk_at "val"; walk_at "cond")
  | ((with_reducible apply val_ixL); walk_at "val"; walk_at "val"; (first | exact SqL.of (by walk_at "hp") | assumption); exact rfl)
  | ((with_reducible apply val_len); walk_at "val"; first | exact Or.inl (SqL.of (by walk_at "hp")) | exact Or.inl (by assumption) | exact Or.inr (by assumption) | exact Or.inr (SqT.of (by walk_at "hp")))
  | ((with_reducible apply val_int1); walk_at "val")
  | ((with_reducible apply val_abs); walk_at "val")
  | ((with_reducible apply val_max2); walk_at "val"; walk_at "val")
  | ((with_reducible apply val_eq); walk_at "val"; walk_at "val"; exact rfl)
  | ((with_reducible apply val_ne); walk_at "val"; walk_at "val"; exact rfl)
  | ((with_reducible apply val_not); walk_at "val")
  | ((with_reducible apply val_U); walk_at "val"))
local macro_rules | `(tactic| walk_at "ans") => `(tactic| first
  | ((with_reducible apply ans_Eq); walk_at "val"; walk_at "val"; exact rfl)
  | ((with_reducible apply ans_Ne); walk_at "val"; walk_at "val"; exact rfl)
  | ((with_reducible apply ans_I0); walk_at "val"; walk_at "val"; exact rfl)
  | ((with_reducible refine ans_And ?_ (fun _ => ?_)); walk_at "ans"; walk_at "ans")
  | ((with_reducible refine ans_or2 ?_ (fun _ => ?_)); walk_at "ans"; walk_at "ans")
  | ((with_reducible refine ans_not ?_); walk_at "ans")
  | ((with_reducible apply ans_val); walk_at "val"))
local macro_rules | `(tactic| walk_at "nrm") => `(tactic| (try dsimp only [List.set_cons_zero, List.set_cons_succ]))
local macro_rules | `(tactic| walk_at "set") => `(tactic| first
  | ((with_reducible apply q_set); walk_at "val"; walk_at "nrm")
  | ((with_reducible apply s_set); walk_at "val"; walk_at "nrm"))
local macro_rules | `(tactic| walk_at "setL") => `(tactic| first
  | ((with_reducible apply q_setL); walk_at "val"; walk_at "val"; walk_at "val"; walk_at "hp"; exact rfl; walk_at "nrm")
  | ((with_reducible apply s_setL); walk_at "val"; walk_at "val"; walk_at "val"; walk_at "hp"; exact rfl; walk_at "nrm"))
local macro_rules | `(tactic| walk_at "ff") => `(tactic| (walk_at "nrm"; rw [if_neg (by decide)]; (try ((with_reducible refine st_next ?_); walk_at "nrm"))))
local macro_rules | `(tactic| walk_at "nok") => `(tactic| (refine ⟨_, rfl, rfl, _, rfl, ?_⟩; walk_at "nrm"; rw [if_neg (by decide)]))
local macro_rules | `(tactic| walk_at "yesk") => `(tactic| (refine ⟨_, rfl, rfl, _, rfl, ?_⟩; walk_at "nrm"; rw [if_pos (by decide)]))
local macro_rules | `(tactic| walk_at "no") => `(tactic| (walk_at "nrm"; rw [if_neg (by decide)]; walk_at "nrm"))
local macro_rules | `(tactic| walk_at "yes") => `(tactic| (walk_at "nrm"; rw [if_pos (by decide)]; walk_at "nrm"))
local macro_rules | `(tactic| walk_at "nos") => `(tactic| (walk_at "nrm"; repeat (rw [if_neg (by decide)]; walk_at "nrm"); (try ((with_reducible refine st_next ?_); walk_at "nrm"))))

/-! ### one call, plainly -/
def opE (e : DS) (kind n : Int) (xs : List Int) : DS := if kind = 0 then e.write n xs else if kind = 1 then e.syncP else if kind = 3 then e.add none else e.syncL
def opD (d : DS) (kind n : Int) (xs : List Int) : DS × Bool := if kind = 2 then d.appendAll (xs.take n.toNat) else match d.tick with
  | none => (d, false)
  | some e => (opE e kind n xs, true)
theorem opD_none {d : DS} {kind n : Int} {xs : List Int} (hk : kind ≠ 2) (h : d.tick = none) : opD d kind n xs = (d, false) := by
  unfold opD
  rw [if_neg hk, h]
theorem opD_some {d e : DS} {kind n : Int} {xs : List Int} (hk : kind ≠ 2) (h : d.tick = some e) : opD d kind n xs = (opE e kind n xs, true) := by
  unfold opD
  rw [if_neg hk, h]
section
variable {P : Program} {w : World} {K : PySem.W.Frag} {mg : Str → Option Value} {base : Heap}
def IsKind (k : Int) : Prop := k = 0 ∨ k = 1 ∨ k = 2 ∨ k = 3 ∨ k = 4
def spExp : Sp := fun vs H Q _ => ∃ (m : Addr) (g : DG) (d : DS) (kind : Int) (n : Nat) (a : Addr) (xs : List Int), vs = [.ref m, .int kind, .int (n : Int), .ref a] ∧ IsKind kind ∧ ModAt H m g d ∧ H a = some (.lst (xs.map V.int)) ∧ (∀ x ∈ xs, 0 ≤ x) ∧ xs.length ≤ 1000 ∧ bnd g d ≤ 1000000 ∧ d.log.length + d.steps.length + 1000 ≤ 1000000 ∧
  ∀ (g' : DG) (H' : Hp), ModAt H' m g' (opD d kind (n : Int) xs).1 → Fr m g H g' H' → bnd g' (opD d kind (n : Int) xs).1 ≤ bnd g d + 1 → Q (.bl (opD d kind (n : Int) xs).2) H'
theorem syncP_snoc {d : DS} : d.syncP = { d with pages := putAll d.pages (d.writes.take d.writes.length), writes := [] } := by
  rw [List.take_length]
  rfl
theorem ok_law_expected (T : Txt K mg) : FnOk P w K mg base CX0 3 T.f_law_expected T.fd_law_expected ["model", "kind", "number", "data"] spExp := by
  refine T.F_law_expected.ok sc_law_expected (fun vs H Q E h => ?_) (fun cdv A outer s H vs Q E hr h => ?_)
  · obtain ⟨_, _, _, _, _, _, _, rfl, _⟩ := h
    rfl
  obtain ⟨m, g, d, kind, n, a, xs, rfl, hkind, D, hA, hpos, hx, hb, hlog, q⟩ := h
  refine ⟨_, (pss_cons (ps_if (pt_cmpR op_eq (pv 1) pe_int (nomark _))
        (pss_cons (ps_for PassesOwn.never rfl (pi_list (pe_slice sl_list (pv 3) po_none (po_some (pv 2)))) (pg_name (i := 4) sc_law_expected.nd rfl (by first | exact Or.inl rfl | exact Or.inr rfl))
          (pss_cons (ps_if (pt_not (pt_val (pe_call (ok_law_may T) (hr.mono (by decide)) (by rfl) T.g_law_may T.F_law_may.kp T.b_law_may .nil pass0 (pa_cons (pv 0) pa_nil))))
            (pss_one (ps_ret pe_bl))
            pss_nil)
          (pss_one (ps_expr (pe_bm PySem.F.plainAttrs_list PySem.F.slot_list_append PySem.F.type_list_append mt_append (pe_dget (hu_of hr) (pv 0) pe_str (fun _ _ => rfl)) (pa_cons (pv 4) pa_nil))))))
        (pss_one (ps_ret pe_bl)))
        pss_nil)
      (pss_cons (ps_if (pt_not (pt_val (pe_call (ok_law_may T) (hr.mono (by decide)) (by rfl) T.g_law_may T.F_law_may.kp T.b_law_may .nil pass0 (pa_cons (pv 0) pa_nil))))
        (pss_one (ps_ret pe_bl))
        pss_nil)
      (pss_cons (ps_if (pt_cmpR op_eq (pv 1) pe_int (nomark _))
        (pss_one (ps_expr (pe_bm PySem.F.plainAttrs_list PySem.F.slot_list_append PySem.F.type_list_append mt_append (pe_dget (hu_of hr) (pv 0) pe_str (fun _ _ => rfl)) (pa_cons (pe_tup (pa_cons (pv 2) (pa_cons (pe_callTy call_list_of (by rfl) T.z_list (by decide +kernel) (pa_cons (pv 3) pa_nil)) pa_nil))) pa_nil))))
        pss_nil)
      (pss_cons (ps_if (pt_cmpR op_eq (pv 1) pe_int (nomark _))
        (pss_cons (ps_for PassesOwn.never rfl (pi_list (pe_dget (hu_of hr) (pv 0) pe_str (fun _ _ => rfl))) (pg_tup (by rfl) (pgs_cons (pg_name (i := 5) sc_law_expected.nd rfl (by first | exact Or.inl rfl | exact Or.inr rfl)) (pgs_cons (pg_name (i := 6) sc_law_expected.nd rfl (by first | exact Or.inl rfl | exact Or.inr rfl)) pgs_nil)))
          (pss_one (ps_dput (hu_of hr) (pe_dget (hu_of hr) (pv 0) pe_str (fun _ _ => rfl)) (pv 5) (pv 6) rfl)))
        (pss_one (ps_dput (hu_of hr) (pv 0) pe_str (pe_lst pa_nil) rfl)))
        pss_nil)
      (pss_cons (ps_if (pt_cmpR op_eq (pv 1) pe_int (nomark _))
        (pss_one (ps_expr (pe_bm PySem.F.plainAttrs_list PySem.F.slot_list_append PySem.F.type_list_append mt_append (pe_dget (hu_of hr) (pv 0) pe_str (fun _ _ => rfl)) (pa_cons (pe_un un_neg pe_int) pa_nil))))
        pss_nil)
      (pss_cons (ps_if (pt_cmpR op_eq (pv 1) pe_int (nomark _))
        (pss_cons (ps_dput (hu_of hr) (pv 0) pe_str (pe_call (ok_law_log T) (hr.mono (by decide)) (by rfl) T.g_law_log T.F_law_log.kp T.b_law_log .nil pass0 (pa_cons (pv 0) pa_nil)) rfl)
        (pss_one (ps_dput (hu_of hr) (pv 0) pe_str (pe_lst pa_nil) rfl)))
        pss_nil)
      (pss_one (ps_ret pe_bl)))))))), ?_⟩
  (try dsimp only [cxOf])
  rw [show start ["model", "kind", "number", "data", "byte", "other", "content"] [.ref m, .int kind, .int (n : Int), .ref a] = [some (.ref m), some (.int kind), some (.int (n : Int)), some (.ref a), none, none, none] from rfl]
  by_cases h2 : kind = 2
  · subst h2
    walk_at "yesk"
    have eo : opD d 2 (n : Int) xs = d.appendAll (xs.take n) := by
      unfold opD
      rw [if_pos rfl, Int.toNat_natCast]
    rw [eo] at q
    refine ⟨_, rfl, _, rfl, (n : Int), rfl, a, _, rfl, SqL.of hA, fun l hl => ?_⟩
    rw [cut_take]
    have s1 := same_upd (o := .lst ((xs.take n).map V.int)) hl
    have D0 := D.same s1
    have nl : ¬ own m g l := D.not_own hl
    refine ⟨l, rfl, ⟨_, SqL.of upd_same⟩, for_list (K := K) (a := l) (xs := (xs.take n).map V.int) (fun i σ' H' => ∃ (d1 : DS) (c c5 c6 : Option V), σ' = [some (.ref m), some (.int 2), some (.int (n : Int)), some (.ref a), c, c5, c6] ∧ ModAt H' m g d1 ∧ Fr m g (upd H l (.lst ((xs.take n).map V.int))) g H' ∧ d1.appendAll ((xs.take n).drop i) = d.appendAll (xs.take n) ∧ d1.steps.length ≤ d.steps.length + i ∧ d1.writes = d.writes)
      ⟨d, none, none, none, rfl, D0, Fr.refl _ _ _, rfl, Nat.le_refl _, rfl⟩ (fun i σ' H' _ ⟨_, _, _, _, _, _, f, _⟩ => SqL.of (f.keep _ _ nl upd_same)) ?_ ?_⟩
    · rintro i v σ' H' hv ⟨d1, c, c5, c6, rfl, D1, f1, eq, hs, ew⟩
      rw [List.getElem?_map] at hv
      obtain ⟨b, hb', rfl⟩ : ∃ b, (xs.take n)[i]? = some b ∧ v = V.int b := by
        cases e : (xs.take n)[i]? with
        | none => rw [e] at hv; cases hv
        | some s => rw [e] at hv; exact ⟨s, rfl, (Option.some.inj hv).symm⟩
      have hi := (List.getElem?_eq_some_iff.mp hb').1
      have hb0 : 0 ≤ b := hpos b (List.mem_of_mem_take (List.mem_of_getElem? hb'))
      have hd : (xs.take n).drop i = b :: (xs.take n).drop (i + 1) := by
        rw [List.drop_eq_getElem_cons hi]
        congr 1
        rw [List.getElem?_eq_getElem hi] at hb'
        exact Option.some.inj hb'
      rw [hd] at eq
      have hi2 : i < 1000 := by
        rw [List.length_take] at hi
        omega
      refine ⟨_, rfl, m, g, d1, rfl, D1, fun e => ⟨_, rfl, ?_⟩, fun d2 H2 ed D2 fr => ⟨_, rfl, ?_⟩⟩
      · walk_at "nrm"
        rw [if_pos (show (!false) = true from rfl)]
        rw [appendAll_none e] at eq
        have := q g H' (by rw [← eq]; exact D1) ((Fr.same s1).trans f1) (by
          rw [← eq]
          show g.kvs.length + d1.writes.length ≤ g.kvs.length + d.writes.length + 1
          rw [ew]
          omega)
        rw [← eq] at this
        exact this
      · walk_at "nrm"
        rw [if_neg (show ¬ (!true) = true from Bool.false_ne_true)]
        obtain ⟨e1, e2, e3, e4⟩ := tick_same ed
        rw [appendAll_some ed] at eq
        obtain ⟨ks2, k2, M2⟩ := D2.at_
        refine ⟨_, rfl, m, .ref g.ls, rfl, (by rw [← M2.steps]; exact DGet.k (k := .inr "steps") k2), .inl ⟨rfl, _, SqL.of D2.ls⟩, _, rfl, g.ls, _, _, rfl, rfl, D2.ls, ?_, ?_⟩
        · rw [List.length_map, e4]
          exact Nat.lt_of_le_of_lt (show _ ≤ 1000000 by omega) (by decide)
        · have D3 := D2.step (s := some b) (fun z hz => by cases hz; exact hb0)
          refine ⟨_, _, _, _, rfl, D3, (f1.trans (Fr_of fr)).trans Fr.ls, eq, ?_, e2.trans ew⟩
          show (d2.steps ++ [some b]).length ≤ _
          rw [List.length_append, e4]
          show d1.steps.length + 1 ≤ _
          omega
    · rintro σ' H' ⟨d1, c, c5, c6, rfl, D1, f1, eq, hs, ew⟩
      rw [List.length_map, List.drop_length] at eq
      have eq : (d1, true) = d.appendAll (xs.take n) := eq
      have := q g H' (by rw [← eq]; exact D1) ((Fr.same s1).trans f1) (by
        rw [← eq]
        show g.kvs.length + d1.writes.length ≤ g.kvs.length + d.writes.length + 1
        rw [ew]
        omega)
      rw [← eq] at this
      exact this
  · refine ⟨_, rfl, rfl, _, rfl, ?_⟩
    walk_at "nrm"
    rw [if_neg (show ¬ decide (V.int kind = V.int 2) = true from fun z => h2 (V.int.inj (of_decide_eq_true z)))]
    refine ⟨_, rfl, m, g, d, rfl, D, fun e => ⟨_, rfl, ?_⟩, fun d' H1 ed D1 fr => ⟨_, rfl, ?_⟩⟩
    · walk_at "nrm"
      rw [if_pos (show (!false) = true from rfl)]
      rw [opD_none h2 e] at q
      exact q g H D (Fr.refl _ _ _) (Nat.le_succ _)
    · walk_at "nrm"
      rw [if_neg (show ¬ (!true) = true from Bool.false_ne_true)]
      obtain ⟨e1, e2, e3, e4⟩ := tick_same ed
      rw [opD_some h2 ed] at q
      have q := q
      obtain ⟨ks, k0, M⟩ := D1.at_
      have hl := D1.wr.len
      rcases hkind with rfl | rfl | rfl | rfl | rfl
      · -- a write
        walk_at "yesk"
        have hA1 : H1 a = some (.lst (xs.map V.int)) := by
          obtain ⟨ks0, k00, _⟩ := D.at_
          rw [fr a (ne_of hA k00 (fun z => nomatch z))]
          exact hA
        refine ⟨_, rfl, m, .ref g.pw, rfl, (by rw [← M.writes]; exact DGet.k (k := .inr "writes") k0), .inl ⟨rfl, _, SqL.of D1.pw⟩, _, rfl, _, rfl, a, _, rfl, .inl (SqL.of hA1), fun l hl' => ⟨by show 2 ≤ sizeLine; decide, fun t ht => ?_⟩⟩
        have D2 := D1.ext (o := .lst (xs.map V.int)) hl'
        have D3 := D2.ext (o := .tup [.int (n : Int), .ref l]) ht
        have F3 : upd (upd g.F l (.lst (xs.map V.int))) t (.tup [.int (n : Int), .ref l]) l = some (.lst (xs.map V.int)) := by
          rw [upd_ne (ne_of_none (upd_same : upd H1 l (.lst (xs.map V.int)) l = _) ht)]
          exact upd_same
        have D4 := D3.wmore (n := (n : Int)) (xs := xs) (v := .ref t) ⟨t, l, rfl, upd_same, F3, hx⟩
        have hlen : g.vs.length ≤ 1000000 := by
          unfold bnd at hb
          rw [e2] at hl
          omega
        refine ⟨g.pw, g.vs, .ref t, rfl, rfl, D3.pw, Nat.lt_of_le_of_lt hlen (by decide), ?_⟩
        walk_at "nok"
        walk_at "nok"
        walk_at "nok"
        refine q _ _ D4 ((((Fr_of fr).trans (Fr.ext hl')).trans (Fr.ext ht)).trans Fr.pw) ?_
        show g.kvs.length + (d'.writes ++ [((n : Int), xs)]).length ≤ g.kvs.length + d.writes.length + 1
        rw [List.length_append, e2]
        exact Nat.le_refl _
      · -- syncing the pages
        walk_at "nok"
        walk_at "yesk"
        refine ⟨_, rfl, m, _, rfl, (by rw [← M.writes]; exact DGet.k (k := .inr "writes") k0), g.pw, rfl, ⟨_, SqL.of D1.pw⟩, for_list (K := K) (a := g.pw) (xs := g.vs) (fun i σ' H' => ∃ (kvs : List (Key × V)) (c4 c5 c6 : Option V), σ' = [some (.ref m), some (.int 1), some (.int (n : Int)), some (.ref a), c4, c5, c6] ∧ ModAt H' m { g with kvs := kvs } { d' with pages := putAll d'.pages (d'.writes.take i) } ∧ Fr m g H { g with kvs := kvs } H' ∧ kvs.length ≤ g.kvs.length + i)
          ⟨g.kvs, none, none, none, rfl, D1, Fr_of fr, Nat.le_refl _⟩ (fun i σ' H' _ ⟨_, _, _, _, _, D2, _, _⟩ => SqL.of D2.pw) ?_ ?_⟩
        · rintro i v σ' H' hv ⟨kvs, c4, c5, c6, rfl, D2, f2, hk⟩
          have hi := (List.getElem?_eq_some_iff.mp hv).1
          have hw : d'.writes[i]? = some (d'.writes[i]'(by omega)) := List.getElem?_eq_getElem (by omega)
          generalize d'.writes[i]'(by omega) = ww at hw
          obtain ⟨t, p, rfl, et, ep, hp⟩ := D2.wr.each i v ww hv hw
          obtain ⟨ks2, k2, M2⟩ := D2.at_
          refine ⟨t, _, rfl, SqT.of (D2.sm _ _ et), rfl, _, _, rfl, _, _, rfl, rfl, ?_⟩
          refine ⟨_, rfl, _, rfl, m, _, rfl, (by rw [← M2.pages]; exact DGet.k (k := .inr "pages") k2), _, rfl, g.dp, _, rfl, DPut.k (k := .inl ww.1) D2.dp ?_, ?_⟩
          · unfold bnd at hb
            rw [e2] at hl
            exact Nat.lt_of_le_of_lt (show _ ≤ 1000000 by show kvs.length ≤ _; omega) (by decide)
          · refine ⟨putK kvs (.inl ww.1) (.ref p), _, _, _, rfl, ?_, f2.trans Fr.dp, ?_⟩
            · have D3 := D2.put (n := ww.1) ep hp
              rw [take_more hw, putAll_snoc]
              exact D3
            · exact Nat.le_trans (putK_le kvs (.inl ww.1) (.ref p)) (by omega)
        · rintro σ' H' ⟨kvs, c4, c5, c6, rfl, D2, f2, hk⟩
          rw [hl, List.take_length] at D2
          refine ⟨Nat.zero_le _, fun p hp => ?_⟩
          obtain ⟨ks3, k3, l3, D3⟩ := D2.noW hp
          refine ⟨_, rfl, m, _, rfl, DPut.k (k := .inr "writes") k3 (Nat.lt_of_le_of_lt l3 (by decide)), ?_⟩
          walk_at "nok"
          walk_at "nok"
          refine q _ _ D3 (f2.trans (Fr.noW hp)) ?_
          show kvs.length + 0 ≤ g.kvs.length + d.writes.length + 1
          rw [hl, e2] at hk
          omega
      · exact absurd rfl h2
      · -- clearing
        walk_at "nok"
        walk_at "nok"
        walk_at "yesk"
        refine ⟨_, rfl, m, .ref g.ls, rfl, (by rw [← M.steps]; exact DGet.k (k := .inr "steps") k0), .inl ⟨rfl, _, SqL.of D1.ls⟩, 1, rfl, g.ls, _, _, rfl, rfl, D1.ls, ?_, ?_⟩
        · rw [List.length_map, e4]
          exact Nat.lt_of_le_of_lt (show _ ≤ 1000000 by omega) (by decide)
        · walk_at "nok"
          refine q _ _ (D1.step (s := none) (fun b h => by cases h)) ((Fr_of fr).trans Fr.ls) ?_
          show g.kvs.length + d'.writes.length ≤ g.kvs.length + d.writes.length + 1
          rw [e2]
          omega
      · -- syncing the log
        walk_at "nok"
        walk_at "nok"
        walk_at "nok"
        walk_at "yesk"
        refine ⟨_, rfl, m, g, d', rfl, D1, (by rw [e3, e4]; omega), fun p H2 s2 np ep => ?_⟩
        obtain ⟨g5, eg, D2, f2⟩ : ∃ g5 : DG, g5 = { g with F := upd g.F p (.lst (d'.logNow.map V.int)) } ∧ ModAt H2 m g5 d' ∧ Fr m g H1 g5 H2 := by
          have h : ∀ b o, upd H1 p (.lst (d'.logNow.map V.int)) b = some o → H2 b = some o := fun b o e => by
            by_cases hb : b = p
            · subst hb; rw [upd_same] at e; rw [ep]; exact e
            · rw [upd_ne hb] at e; exact s2 b o e
          exact ⟨_, rfl, (D1.ext np).same h, (Fr.ext np).trans (Fr.same h)⟩
        obtain ⟨ks3, k3, l3, D3⟩ := D2.newL (p := p) (xs := d'.logNow) (by rw [eg]; exact upd_same)
        refine ⟨_, rfl, m, _, rfl, DPut.k (k := .inr "log") k3 (Nat.lt_of_le_of_lt l3 (by decide)), ?_⟩
        have f3 := ((Fr_of fr).trans f2).trans (frOldL (p := p) (o := .dK (putK ks3 (.inr "log") (.ref p))) (by rw [eg]; exact upd_same))
        refine ⟨Nat.zero_le _, fun q2 hq2 => ?_⟩
        obtain ⟨ks7, k7, l7, D7⟩ := D3.noL hq2
        refine ⟨_, rfl, m, _, rfl, DPut.k (k := .inr "steps") k7 (Nat.lt_of_le_of_lt l7 (by decide)), ?_⟩
        refine q _ _ D7 (f3.trans (Fr.noL hq2)) ?_
        rw [eg]
        show g.kvs.length + d'.writes.length ≤ g.kvs.length + d.writes.length + 1
        rw [e2]
        omega
end
end K03


namespace K03
open PySem L2 Nv RZ
local macro_rules | `(tactic| walk_at "hp") => `(tactic| first
  | assumption
  | exact upd_same
  | exact (upd_ne (by assumption)).trans (by first | assumption | exact upd_same | exact (upd_ne (by assumption)).trans (by first | assumption | exact upd_same))
  | exact (upd_ne (Ne.symm (by assumption))).trans (by first | assumption | exact upd_same))
local macro_rules | `(tactic| walk_at "cond") => `(tactic| first
  | (change (0 : Int) < _; first | decide | omega)
  | exact Or.inr ⟨by decide, by decide⟩
  | exact Or.inl ⟨by decide, by decide⟩
  | exact Or.inr ⟨by omega, by omega⟩
  | exact Or.inl ⟨by omega, by omega⟩
  | exact ⟨by decide, by decide, by decide⟩
  | exact wide_div (by first | decide | omega) (show _ < 2 ^ 64 by first | decide | omega) (by decide) (by decide)
  | (change (0 : Int) ≤ _; first | decide | omega)
  | exact ⟨by decide, by decide⟩
  | exact ⟨by omega, by omega⟩)
local macro_rules | `(tactic| walk_at "val") => `(tactic| first
  | (with_reducible exact val_c)
  | ((with_reducible apply val_var); exact rfl)
  | ((with_reducible apply val_I0); walk_at "val"; walk_at "val")
  | ((with_reducible apply val_I); walk_at "val"; walk_at "val"; walk_at "cond")
  | ((with_reducible apply val_ixL); walk_at "val"; walk_at "val"; (first | exact SqL.of (by walk_at "hp") | assumption); exact rfl)
  | ((with_reducible apply val_len); walk_at "val"; first | exact Or.inl (SqL.of (by walk_at "hp")) | exact Or.inl (by assumption) | exact Or.inr (by assumption) | exact Or.inr (SqT.of (by walk_at "hp")))
  | ((with_reducible apply val_int1); walk_at "val")
  | ((with_reducible apply val_abs); walk_at "val")
  | ((with_reducible apply val_max2); walk_at "val"; walk_at "val")
  | ((with_reducible apply val_eq); walk_at "val"; walk_at "val"; exact rfl)
  | ((with_reducible apply val_ne); walk_at "val"; walk_at "val"; exact rfl)
  | ((with_reducible apply val_not); walk_at "val")
  | ((with_reducible apply val_U); walk_at "val"))
local macro_rules | `(tactic| walk_at "ans") => `(tactic| first
  | ((with_reducible apply ans_Eq); walk_at "val"; walk_at "val"; exact rfl)
  | ((with_reducible apply ans_Ne); walk_at "val"; walk_at "val"; exact rfl)
  | ((with_reducible apply ans_I0); walk_at "val"; walk_at "val"; exact rfl)
  | ((with_reducible refine ans_And ?_ (fun _ => ?_)); walk_at "ans"; walk_at "ans")
  | ((with_reducible refine ans_or2 ?_ (fun _ => ?_)); walk_at "ans"; walk_at "ans")
  | ((with_reducible refine ans_not ?_); walk_at "ans")
  | ((with_reducible apply ans_val); walk_at "val"))
local macro_rules | `(tactic| walk_at "nrm") => `(tactic| (try dsimp only [List.set_cons_zero, List.set_cons_succ]))
local macro_rules | `(tactic| walk_at "set") => `(tactic| first
  | ((with_reducible apply q_set); walk_at "val"; walk_at "nrm")
  | ((with_reducible apply s_set); walk_at "val"; walk_at "nrm"))
local macro_rules | `(tactic| walk_at "setL") => `(tactic| first
  | ((with_reducible apply q_setL); walk_at "val"; walk_at "val"; walk_at "val"; walk_at "hp"; exact rfl; walk_at "nrm")
  | ((with_reducible apply s_setL); walk_at "val"; walk_at "val"; walk_at "val"; walk_at "hp"; exact rfl; walk_at "nrm"))
local macro_rules | `(tactic| walk_at "ff") => `(tactic| (walk_at "nrm"; rw [if_neg (by decide)]; (try ((with_reducible refine st_next ?_); walk_at "nrm"))))
local macro_rules | `(tactic| walk_at "nok") => `(tactic| (refine ⟨_, rfl, rfl, _, rfl, ?_⟩; walk_at "nrm"; rw [if_neg (by decide)]))
local macro_rules | `(tactic| walk_at "yesk") => `(tactic| (refine ⟨_, rfl, rfl, _, rfl, ?_⟩; walk_at "nrm"; rw [if_pos (by decide)]))
local macro_rules | `(tactic| walk_at "no") => `(tactic| (walk_at "nrm"; rw [if_neg (by decide)]; walk_at "nrm"))
local macro_rules | `(tactic| walk_at "yes") => `(tactic| (walk_at "nrm"; rw [if_pos (by decide)]; walk_at "nrm"))
local macro_rules | `(tactic| walk_at "nos") => `(tactic| (walk_at "nrm"; repeat (rw [if_neg (by decide)]; walk_at "nrm"); (try ((with_reducible refine st_next ?_); walk_at "nrm"))))

section
variable {P : Program} {w : World} {K : PySem.W.Frag} {mg : Str → Option Value} {base : Heap}
theorem exc_PowerCut (T : Txt K mg) : ExcC K T.C_PowerCut := ⟨T.xga_PowerCut, T.xgt_PowerCut, T.xb_PowerCut, T.xhd_PowerCut, T.xcl_PowerCut, T.xn_PowerCut, T.xta_PowerCut, T.xm_PowerCut⟩
theorem raised_ok (T : Txt K mg) {D : Ends} {H' : Hp} (q : D.rt (.bl false) H') :
    anyS (wAs K (.ref T.C_PowerCut) 4 (fun a cls d => tGiven (cls = .ref T.C_PowerCut ∧ d = none) (tLen 5 (tRet (tNotV (tAndV (tCB (rIsE K T.C_PowerCut a) (tCons (tVar 4) (tCons (tC (.ref T.C_VaultError)) tNil))) (tCB (rIsE K T.C_PowerCut a) (tCons (tVar 4) (tCons (tC (.ty "ValueError")) tNil)))))))) (fun _ _ _ _ => False) D) (.ref T.C_PowerCut) none H' := by
  intro σ'
  refine ⟨true, PySem.W.exm_ref T.xb_PowerCut T.xhd_PowerCut T.xt_PowerCut T.xs_PowerCut, fun _ e he => ⟨⟨rfl, rfl⟩, fun hlen => ?_⟩, fun z => by cases z⟩
  have hv : (σ'.set 4 (some (V.ref e)))[4]? = some (some (V.ref e)) := by
    rw [List.length_set] at hlen
    exact List.getElem?_set_self (by omega)
  refine ⟨_, hv, .ref T.C_VaultError, .ref T.C_VaultError, true, rfl, fun u r => r, (kit_own T.xi_VaultError T.xt_VaultError T.xs_PowerCut_VaultError), true, rfl, ?_⟩
  rw [if_pos rfl]
  exact ⟨_, hv, .ty "ValueError", .type "ValueError", true, rfl, fun u r => r, (kit_VE T.xv_PowerCut), true, rfl, q⟩
theorem appendAll_writes : ∀ (xs : List Int) (d : DS), (d.appendAll xs).1.writes = d.writes ∧ (d.appendAll xs).1.pages = d.pages ∧ (d.appendAll xs).1.log = d.log ∧ (d.appendAll xs).1.steps.length ≤ d.steps.length + xs.length
  | [], d => ⟨rfl, rfl, rfl, Nat.le_refl _⟩
  | b :: r, d => by
    cases e : d.tick with
    | none =>
      rw [appendAll_none e]
      exact ⟨rfl, rfl, rfl, Nat.le_add_right _ _⟩
    | some d' =>
      rw [appendAll_some e]
      obtain ⟨p1, p2, p3, p4⟩ := tick_same e
      obtain ⟨q1, q2, q3, q4⟩ := appendAll_writes r (d'.add (some b))
      refine ⟨q1.trans p2, q2.trans p1, q3.trans p3, ?_⟩
      have h : (d'.add (some b)).steps.length = d.steps.length + 1 := by
        show (d'.steps ++ [some b]).length = _
        rw [List.length_append, p4]
        rfl
      rw [h] at q4
      rw [List.length_cons]
      omega
def spDone (C : Addr) : Sp := fun vs H Q _ => ∃ (dev : Addr) (g : DG) (d : DS) (kind : Int) (n : Nat) (a : Addr) (xs : List Int), vs = [.ref dev, .int kind, .int (n : Int), .ref a] ∧ IsKind kind ∧ DevAt C H dev g d ∧ H a = some (.lst (xs.map V.int)) ∧ xs.length ≤ 1000 ∧ bnd g d ≤ 1000000 ∧ d.log.length + d.steps.length + 1000 ≤ 1000000 ∧
  ∀ (g' : DG) (H' : Hp), DevAt C H' dev g' (opD d kind (n : Int) xs).1 → Fr dev g H g' H' → bnd g' (opD d kind (n : Int) xs).1 ≤ bnd g d + 1 → Q (.bl (opD d kind (n : Int) xs).2) H'
theorem ok_law_done (T : Txt K mg) : FnOk P w K mg base CX0 5 T.f_law_done T.fd_law_done ["device", "kind", "number", "data"] (spDone T.C_Device) := by
  refine T.F_law_done.ok sc_law_done (fun vs H Q E h => ?_) (fun cdv A outer s H vs Q E hr h => ?_)
  · obtain ⟨_, _, _, _, _, _, _, rfl, _⟩ := h
    rfl
  obtain ⟨dev, g, d, kind, n, a, xs, rfl, hkind, D, hA, hx, hb, hlog, q⟩ := h
  refine ⟨_, (pss_cons (ps_try_as (i := 4) (Wout := fun _ _ _ _ => False) rfl rfl sc_law_done.nd rfl rfl ⟨by rfl, by decide, Or.inl T.g_PowerCut⟩ takes0 (fun W pn xe tk hp => pss_one (ps_if (pt_cmpR op_eq (pv 1) pe_int (nomark _)) (pss_one (ps_expr (pe_meth (pv 0) T.cl_Device T.m_Device_write_page (ok_Device_write_page T) (hr.mono (by decide)) T.b_Device_write_page .nil (passAny tk) (pa_cons (pv 2) (pa_cons (pv 3) pa_nil))))) (pss_one (ps_if (pt_cmpR op_eq (pv 1) pe_int (nomark _)) (pss_one (ps_expr (pe_meth0 (pv 0) T.cl_Device T.m_Device_sync_pages (ok_Device_sync_pages T) (hr.mono (by decide)) T.b_Device_sync_pages .nil (passAny tk)))) (pss_one (ps_if (pt_cmpR op_eq (pv 1) pe_int (nomark _)) (pss_one (ps_expr (pe_meth (pv 0) T.cl_Device T.m_Device_append (ok_Device_append T) (hr.mono (by decide)) T.b_Device_append .nil (passAny tk) (pa_cons (pe_slice (r := rSlL K) sl_list (pv 3) po_none (po_some (pv 2))) pa_nil)))) (pss_one (ps_if (pt_cmpR op_eq (pv 1) pe_int (nomark _)) (pss_one (ps_expr (pe_meth0 (pv 0) T.cl_Device T.m_Device_clear (ok_Device_clear T) (hr.mono (by decide)) T.b_Device_clear .nil (passAny tk)))) (pss_one (ps_expr (pe_meth0 (pv 0) T.cl_Device T.m_Device_sync_log (ok_Device_sync_log T) (hr.mono (by decide)) T.b_Device_sync_log .nil (passAny tk)))))))))))) (fun a oe cls d pn hz hf => pss_given (p := cls = .ref T.C_PowerCut ∧ d = none) fun h => pss_len (n := 5) rfl (pss_one (ps_ret (pe_not (pe_and (pe_callB (call_isE (exc_PowerCut T) (h.1 ▸ h.2 ▸ hz) hf) (by rfl) T.z_isinstance (by decide +kernel) (pa_cons (pv 4) (pa_cons (pe_glob (v := .ref T.C_VaultError) (by rfl) T.g_VaultError rfl) pa_nil))) (pe_one (pe_callB (call_isE (exc_PowerCut T) (h.1 ▸ h.2 ▸ hz) hf) (by rfl) T.z_isinstance (by decide +kernel) (pa_cons (pv 4) (pa_cons (pe_bltn (v := .ty "ValueError") (by rfl) T.z_ValueError (by decide +kernel) rfl) pa_nil))))))))))
      (pss_one (ps_ret pe_bl))), ?_⟩
  (try dsimp only [cxOf])
  rw [show start ["device", "kind", "number", "data", "error"] [.ref dev, .int kind, .int (n : Int), .ref a] = [some (.ref dev), some (.int kind), some (.int (n : Int)), some (.ref a), none] from rfl]
  rcases hkind with rfl | rfl | rfl | rfl | rfl
  · walk_at "yesk"
    refine ⟨_, rfl, dev, g.dx, devF g d, rfl, D.at_, lk_no (by decide +kernel), _, rfl, _, rfl, dev, g, d, (n : Int), a, xs, rfl, D, hA, hx, hb, fun e => raised_ok T ?_, fun d' g' H' ed D' f' hb' => ?_⟩
    · rw [opD_none (by decide) e] at q
      exact q g H D (Fr.refl _ _ _) (Nat.le_succ _)
    · rw [opD_some (by decide) ed] at q
      exact q g' H' D' f' hb'
  · walk_at "nok"
    walk_at "yesk"
    refine ⟨_, rfl, dev, g.dx, devF g d, rfl, D.at_, lk_no (by decide +kernel), dev, g, d, rfl, D, hb, fun e => raised_ok T ?_, fun d' g' H' ed D' f' hb' => ?_⟩
    · rw [opD_none (by decide) e] at q
      exact q g H D (Fr.refl _ _ _) (Nat.le_succ _)
    · rw [opD_some (by decide) ed] at q
      exact q g' H' D' f' (Nat.le_succ_of_le hb')
  · walk_at "nok"
    walk_at "nok"
    walk_at "yesk"
    have eo : opD d 2 (n : Int) xs = d.appendAll (xs.take n) := by
      unfold opD
      rw [if_pos rfl, Int.toNat_natCast]
    rw [eo] at q
    refine ⟨_, rfl, dev, g.dx, devF g d, rfl, D.at_, lk_no (by decide +kernel), _, rfl, _, rfl, (n : Int), rfl, a, _, rfl, SqL.of hA, fun l hl => ?_⟩
    rw [cut_take]
    have s1 := same_upd (o := .lst ((xs.take n).map V.int)) hl
    have hbw : bnd g (d.appendAll (xs.take n)).1 ≤ bnd g d + 1 := by
      show g.kvs.length + (d.appendAll (xs.take n)).1.writes.length ≤ g.kvs.length + d.writes.length + 1
      rw [(appendAll_writes _ _).1]
      omega
    refine ⟨dev, g, d, l, xs.take n, rfl, D.same s1, upd_same, D.not_own hl, (by rw [List.length_take]; omega), fun e H' D' f' => raised_ok T ?_, fun e H' D' f' => ?_⟩
    · have := q g H' D' ((Fr.same s1).trans f') hbw
      rw [e] at this
      exact this
    · have := q g H' D' ((Fr.same s1).trans f') hbw
      rw [e] at this
      exact this
  · walk_at "nok"
    walk_at "nok"
    walk_at "nok"
    walk_at "yesk"
    refine ⟨_, rfl, dev, g.dx, devF g d, rfl, D.at_, lk_no (by decide +kernel), dev, g, d, rfl, D, (by omega), fun e => raised_ok T ?_, fun d' H' ed D' f' => ?_⟩
    · rw [opD_none (by decide) e] at q
      exact q g H D (Fr.refl _ _ _) (Nat.le_succ _)
    · rw [opD_some (by decide) ed] at q
      refine q g H' D' f' ?_
      show g.kvs.length + d'.writes.length ≤ g.kvs.length + d.writes.length + 1
      rw [(tick_same ed).2.1]
      omega
  · walk_at "nok"
    walk_at "nok"
    walk_at "nok"
    walk_at "nok"
    refine ⟨_, rfl, dev, g.dx, devF g d, rfl, D.at_, lk_no (by decide +kernel), dev, g, d, rfl, D, (by omega), fun e => raised_ok T ?_, fun d' g' H' ed D' f' ek => ?_⟩
    · rw [opD_none (by decide) e] at q
      exact q g H D (Fr.refl _ _ _) (Nat.le_succ _)
    · rw [opD_some (by decide) ed] at q
      refine q g' H' D' f' ?_
      show g'.kvs.length + d'.writes.length ≤ g.kvs.length + d.writes.length + 1
      rw [(tick_same ed).2.1, ek]
      omega
end
end K03


namespace K03
open PySem L2 Nv RZ
local macro_rules | `(tactic| walk_at "hp") => `(tactic| first
  | assumption
  | exact upd_same
  | exact (upd_ne (by assumption)).trans (by first | assumption | exact upd_same | exact (upd_ne (by assumption)).trans (by first | assumption | exact upd_same))
  | exact (upd_ne (Ne.symm (by assumption))).trans (by first | assumption | exact upd_same))
local macro_rules | `(tactic| walk_at "cond") => `(tactic| first
  | (change (0 : Int) < _; first | decide | omega)
  | exact Or.inr ⟨by decide, by decide⟩
  | exact Or.inl ⟨by decide, by decide⟩
  | exact Or.inr ⟨by omega, by omega⟩
  | exact Or.inl ⟨by omega, by omega⟩
  | exact ⟨by decide, by decide, by decide⟩
  | exact wide_div (by first | decide | omega) (show _ < 2 ^ 64 by first | decide | omega) (by decide) (by decide)
  | (change (0 : Int) ≤ _; first | decide | omega)
  | exact ⟨by decide, by decide⟩
  | exact ⟨by omega, by omega⟩)
local macro_rules | `(tactic| walk_at "val") => `(tactic| first
  | (with_reducible exact val_c)
  | ((with_reducible apply val_var); exact rfl)
  | ((with_reducible apply val_I0); walk_at "val"; walk_at "val")
  | ((with_reducible apply val_I); walk_at "val"; walk_at "val"; walk_at "cond")
  | ((with_reducible apply val_ixL); walk_at "val"; walk_at "val"; (first | exact SqL.of (by walk_at "hp") | assumption); exact rfl)
  | ((with_reducible apply val_len); walk_at "val"; first | exact Or.inl (SqL.of (by walk_at "hp")) | exact Or.inl (by assumption) | exact Or.inr (by assumption) | exact Or.inr (SqT.of (by walk_at "hp")))
  | ((with_reducible apply val_int1); walk_at "val")
  | ((with_reducible apply val_abs); walk_at "val")
  | ((with_reducible apply val_max2); walk_at "val"; walk_at "val")
  | ((with_reducible apply val_eq); walk_at "val"; walk_at "val"; exact rfl)
  | ((with_reducible apply val_ne); walk_at "val"; walk_at "val"; exact rfl)
  | ((with_reducible apply val_not); walk_at "val")
  | ((with_reducible apply val_U); walk_at "val"))
local macro_rules | `(tactic| walk_at "ans") => `(tactic| first
  | ((with_reducible apply ans_Eq); walk_at "val"; walk_at "val"; exact rfl)
  | ((with_reducible apply ans_Ne); walk_at "val"; walk_at "val"; exact rfl)
  | ((with_reducible apply ans_I0); walk_at "val"; walk_at "val"; exact rfl)
  | ((with_reducible refine ans_And ?_ (fun _ => ?_)); walk_at "ans"; walk_at "ans")
  | ((with_reducible refine ans_or2 ?_ (fun _ => ?_)); walk_at "ans"; walk_at "ans")
  | ((with_reducible refine ans_not ?_); walk_at "ans")
  | ((with_reducible apply ans_val); walk_at "val"))
local macro_rules | `(tactic| walk_at "nrm") => `(tactic| (try dsimp only [List.set_cons_zero, List.set_cons_succ]))
local macro_rules | `(tactic| walk_at "set") => `(tactic| first
  | ((with_reducible apply q_set); walk_at "val"; walk_at "nrm")
  | ((with_reducible apply s_set); walk_at "val"; walk_at "nrm"))
local macro_rules | `(tactic| walk_at "setL") => `(tactic| first
  | ((with_reducible apply q_setL); walk_at "val"; walk_at "val"; walk_at "val"; walk_at "hp"; exact rfl; walk_at "nrm")
  | ((with_reducible apply s_setL); walk_at "val"; walk_at "val"; walk_at "val"; walk_at "hp"; exact rfl; walk_at "nrm"))
local macro_rules | `(tactic| walk_at "ff") => `(tactic| (walk_at "nrm"; rw [if_neg (by decide)]; (try ((with_reducible refine st_next ?_); walk_at "nrm"))))
local macro_rules | `(tactic| walk_at "nok") => `(tactic| (refine ⟨_, rfl, rfl, _, rfl, ?_⟩; walk_at "nrm"; rw [if_neg (by decide)]))
local macro_rules | `(tactic| walk_at "yesk") => `(tactic| (refine ⟨_, rfl, rfl, _, rfl, ?_⟩; walk_at "nrm"; rw [if_pos (by decide)]))
local macro_rules | `(tactic| walk_at "no") => `(tactic| (walk_at "nrm"; rw [if_neg (by decide)]; walk_at "nrm"))
local macro_rules | `(tactic| walk_at "yes") => `(tactic| (walk_at "nrm"; rw [if_pos (by decide)]; walk_at "nrm"))
local macro_rules | `(tactic| walk_at "nos") => `(tactic| (walk_at "nrm"; repeat (rw [if_neg (by decide)]; walk_at "nrm"); (try ((with_reducible refine st_next ?_); walk_at "nrm"))))

/-! ### pages are of 256 bytes; the log grows slowly -/
def Full (d : DS) : Prop := (∀ n, (getP d.pages n).length = 256) ∧ ∀ w ∈ d.writes, w.2.length = 256
theorem zeros_len : zeros.length = 256 := List.length_replicate
theorem lastW_len (n : Int) : ∀ (ws : List (Int × List Int)) (o : Option (List Int)), (∀ w ∈ ws, w.2.length = 256) → (o.getD zeros).length = 256 → ((lastW ws n o).getD zeros).length = 256
  | [], _, _, h => h
  | w :: r, o, hw, h => by
    show ((lastW r n (if w.1 = n then some w.2 else o)).getD zeros).length = 256
    refine lastW_len n r _ (fun x hx => hw x (List.mem_cons_of_mem _ hx)) ?_
    by_cases e : w.1 = n
    · rw [if_pos e]
      exact hw w List.mem_cons_self
    · rw [if_neg e]
      exact h
theorem page_len {d : DS} (h : Full d) (n : Int) : (d.page n).length = 256 := lastW_len n _ _ h.2 (h.1 n)
theorem getP_put {f : Int → Option (List Int)} {n : Int} {xs : List Int} (h : ∀ j, (getP f j).length = 256) (hx : xs.length = 256) (j : Int) : (getP (putP f n xs) j).length = 256 := by
  unfold getP putP
  by_cases e : j = n
  · rw [if_pos e]
    exact hx
  · rw [if_neg e]
    exact h j
theorem putAll_len : ∀ (ws : List (Int × List Int)) (f : Int → Option (List Int)), (∀ w ∈ ws, w.2.length = 256) → (∀ j, (getP f j).length = 256) → ∀ j, (getP (putAll f ws) j).length = 256
  | [], _, _, h => h
  | w :: r, f, hw, h => putAll_len r (putP f w.1 w.2) (fun x hx => hw x (List.mem_cons_of_mem _ hx)) (getP_put h (hw w List.mem_cons_self))
theorem endW_len {f : Int → Option (List Int)} {w : Int × List Int} {a : Int} (h : ∀ j, (getP f j).length = 256) (hw : w.2.length = 256) (j : Int) : (getP (endW f w a) j).length = 256 := by
  unfold endW
  split
  · exact getP_put h hw j
  · split
    · refine getP_put h ?_ j
      rw [List.length_append, List.length_take, List.length_drop, hw, h]
      rfl
    · exact h j
theorem crash_len : ∀ (ws : List (Int × List Int)) (fs : List Int) (f : Int → Option (List Int)), (∀ w ∈ ws, w.2.length = 256) → (∀ j, (getP f j).length = 256) → ∀ j, (getP (crashP f ws fs) j).length = 256
  | [], _, _, _, h => h
  | _ :: _, [], _, _, h => h
  | w :: r, a :: fs, f, hw, h => crash_len r fs (endW f w a) (fun x hx => hw x (List.mem_cons_of_mem _ hx)) (endW_len h (hw w List.mem_cons_self))
theorem full_new : Full DS.new := ⟨fun _ => zeros_len, fun w h => absurd h (by simp [DS.new])⟩
theorem full_of {d d' : DS} (h : Full d) (e1 : d'.pages = d.pages) (e2 : d'.writes = d.writes) : Full d' := ⟨by rw [e1]; exact h.1, by rw [e2]; exact h.2⟩
theorem full_crash {d : DS} {fs : List Int} {k : Nat} (h : Full d) : Full (d.crash fs k) := ⟨crash_len _ _ _ h.2 h.1, fun w hw => absurd hw (by simp [DS.crash])⟩
theorem full_op {d : DS} {kind n : Int} {xs : List Int} (h : Full d) (hx : xs.length = 256) : Full (opD d kind n xs).1 := by
  by_cases h2 : kind = 2
  · unfold opD
    rw [if_pos h2]
    obtain ⟨e1, e2, _, _⟩ := appendAll_writes (xs.take n.toNat) d
    exact full_of h e2 e1
  · cases e : d.tick with
    | none =>
      rw [opD_none h2 e]
      exact h
    | some d' =>
      rw [opD_some h2 e]
      obtain ⟨e1, e2, _, _⟩ := tick_same e
      have h' := full_of h e1 e2
      show Full (opE d' kind n xs)
      unfold opE
      split
      · refine ⟨h'.1, fun w hw => ?_⟩
        have hw : w ∈ d'.writes ++ [(n, xs)] := hw
        rcases List.mem_append.mp hw with k | k
        · exact h'.2 w k
        · rw [List.mem_singleton.mp k]
          exact hx
      · split
        · exact ⟨putAll_len _ _ h'.2 h'.1, fun w hw => absurd hw (by simp [DS.syncP])⟩
        · split
          · exact h'
          · exact h'
def lg (d : DS) : Nat := d.log.length + d.steps.length
theorem lg_crash {d : DS} {fs : List Int} {k : Nat} : lg (d.crash fs k) ≤ lg d := by
  have h := afterL_len d.log (d.steps.take k)
  rw [List.length_take] at h
  show (afterL d.log (d.steps.take k)).length + 0 ≤ d.log.length + d.steps.length
  omega
theorem lg_op {d : DS} {kind n : Int} {xs : List Int} : lg (opD d kind n xs).1 ≤ lg d + xs.length + 1 := by
  by_cases h2 : kind = 2
  · unfold opD
    rw [if_pos h2]
    obtain ⟨_, _, e3, e4⟩ := appendAll_writes (xs.take n.toNat) d
    rw [List.length_take] at e4
    unfold lg
    rw [e3]
    omega
  · cases e : d.tick with
    | none =>
      rw [opD_none h2 e]
      show lg d ≤ _
      omega
    | some d' =>
      rw [opD_some h2 e]
      obtain ⟨_, _, e3, e4⟩ := tick_same e
      show lg (opE d' kind n xs) ≤ _
      have hs : lg d' = lg d := by
        unfold lg
        rw [e3, e4]
      unfold opE
      split
      · show lg d' ≤ _
        omega
      · split
        · show lg d' ≤ _
          omega
        · split
          · show d'.log.length + (d'.steps ++ [none]).length ≤ _
            rw [List.length_append]
            show d'.log.length + (d'.steps.length + 1) ≤ _
            unfold lg at hs ⊢
            omega
          · have h := afterL_len d'.log d'.steps
            show (afterL d'.log d'.steps).length + 0 ≤ _
            unfold lg at hs ⊢
            omega
section
variable {P : Program} {w : World} {K : PySem.W.Frag} {mg : Str → Option Value} {base : Heap}
def spSame (C : Addr) : Sp := fun vs H Q _ => ∃ (dev : Addr) (g : DG) (m : Addr) (g2 : DG) (d : DS), vs = [.ref dev, .ref m] ∧ DevAt C H dev g d ∧ ModAt H m g2 d ∧ Full d ∧ lg d ≤ 1000000 ∧ ∀ H', Same H H' → Q (.bl true) H'
theorem ok_law_same (T : Txt K mg) : FnOk P w K mg base CX0 4 T.f_law_same T.fd_law_same ["device", "model"] (spSame T.C_Device) := by
  refine T.F_law_same.ok sc_law_same (fun vs H Q E h => ?_) (fun cdv A outer s H vs Q E hr h => ?_)
  · obtain ⟨_, _, _, _, _, rfl, _⟩ := h
    rfl
  obtain ⟨dev, g, m, g2, d, rfl, D, M, hF, hl, q⟩ := h
  refine ⟨_, (pss_cons (ps_if (PW.pt (pw_or (pt_cmpR (op_neD hr.units) (pe_meth0 (pv 0) T.cl_Device T.m_Device_log (ok_Device_log T) (hr.mono (by decide)) T.b_Device_log .nil pass0) (pe_call (ok_law_log T) (hr.mono (by decide)) (by rfl) T.g_law_log T.F_law_log.kp T.b_law_log .nil pass0 (pa_cons (pv 1) pa_nil)) (nomark _)) (pw_or1 (pt_cmpR op_ne (pe_meth0 (pv 0) T.cl_Device T.m_Device_steps (ok_Device_steps T) (hr.mono (by decide)) T.b_Device_steps .nil pass0) (pe_dget (hu_of hr) (pv 1) pe_str (fun _ _ => rfl)) (nomark _)))))
        (pss_one (ps_ret pe_bl))
        pss_nil)
      (pss_cons (ps_if (pt_cmpR (op_neD hr.units) (pe_meth0 (pv 0) T.cl_Device T.m_Device_pending (ok_Device_pending T) (hr.mono (by decide)) T.b_Device_pending .nil pass0) (pe_tup (pa_cons (pe_callB call_len_seq (by rfl) T.z_len (by decide +kernel) (pa_cons (pe_dget (hu_of hr) (pv 1) pe_str (fun _ _ => rfl)) pa_nil)) (pa_cons (pe_callB call_len_seq (by rfl) T.z_len (by decide +kernel) (pa_cons (pe_dget (hu_of hr) (pv 1) pe_str (fun _ _ => rfl)) pa_nil)) pa_nil))) (nomark _))
        (pss_one (ps_ret pe_bl))
        pss_nil)
      (pss_cons (ps_for PassesOwn.never rfl (pi_list (pe_lst (pa_cons pe_int (pa_cons pe_int (pa_cons pe_int pa_nil))))) (pg_name (i := 2) sc_law_same.nd rfl (by first | exact Or.inl rfl | exact Or.inr rfl))
        (pss_cons (ps_set (i := 3) sc_law_same.nd rfl (by first | exact Or.inl rfl | exact Or.inr rfl) (pe_meth (pv 0) T.cl_Device T.m_Device_page (ok_Device_page T) (hr.mono (by decide)) T.b_Device_page .nil pass0 (pa_cons (pv 2) pa_nil)))
        (pss_cons (ps_if (pt_cmpR (op_neD hr.units) (pv 3) (pe_call (ok_law_page T) (hr.mono (by decide)) (by rfl) T.g_law_page T.F_law_page.kp T.b_law_page .nil pass0 (pa_cons (pv 1) (pa_cons (pv 2) pa_nil))) (nomark _))
          (pss_one (ps_ret pe_bl))
          pss_nil)
        (pss_one (ps_asg pe_int (pg_sub (pv 3) pe_int set_list))))))
      (pss_cons (ps_expr (pe_bm PySem.F.plainAttrs_list PySem.F.slot_list_append PySem.F.type_list_append mt_append (pe_meth0 (pv 0) T.cl_Device T.m_Device_log (ok_Device_log T) (hr.mono (by decide)) T.b_Device_log .nil pass0) (pa_cons pe_int pa_nil)))
      (pss_one (ps_ret pe_bl)))))), ?_⟩
  (try dsimp only [cxOf])
  rw [show start ["device", "model", "number", "page"] [.ref dev, .ref m] = [some (.ref dev), some (.ref m), none, none] from rfl]
  refine ⟨_, rfl, dev, g.dx, devF g d, rfl, D.at_, lk_no (by decide +kernel), dev, g, d, rfl, D, hl, fun p1 H1 s1 n1 e1 => ?_⟩
  refine ⟨_, rfl, m, g2, d, rfl, M.same s1, hl, fun p2 H2 s2 n2 e2 => ?_⟩
  refine neL_ints (SqL.of (s2 _ _ e1)) (SqL.of e2) ⟨_, rfl, ?_⟩
  rw [decide_eq_true rfl]
  walk_at "nrm"
  rw [if_neg (by decide)]
  have t2 := s1.trans s2
  have D2 := D.same t2
  have M2 := M.same t2
  obtain ⟨ks, k0, MM⟩ := M2.at_
  refine ⟨_, rfl, dev, g.dx, devF g d, rfl, D2.at_, lk_no (by decide +kernel), dev, g, d, rfl, D2, ?_⟩
  refine ⟨_, rfl, m, .int d.done, rfl, (by rw [← MM.done]; exact DGet.k (k := .inr "done") k0), rfl, _, rfl, ?_⟩
  rw [decide_eq_true rfl]
  walk_at "nrm"
  rw [if_neg (by decide)]
  refine ⟨_, rfl, dev, g.dx, devF g d, rfl, D2.at_, lk_no (by decide +kernel), dev, g, d, rfl, D2, fun p3 n3 => ?_⟩
  have s3 := same_upd (o := .tup [.int d.writes.length, .int d.steps.length]) n3
  have M3 := M2.same s3
  have k3 := s3 _ _ k0
  refine ⟨_, rfl, m, .ref g2.pw, rfl, (by rw [← MM.writes]; exact DGet.k (k := .inr "writes") k3), g2.pw, _, rfl, .inl (SqL.of M3.pw), _, rfl, m, .ref g2.ls, rfl, (by rw [← MM.steps]; exact DGet.k (k := .inr "steps") k3), g2.ls, _, rfl, .inl (SqL.of M3.ls), by show 2 ≤ sizeLine; decide, fun p4 n4 => ?_⟩
  rw [M3.wr.len, List.length_map]
  have s4 := same_upd (o := .tup [.int d.writes.length, .int d.steps.length]) n4
  refine neT_ints (xs := [(d.writes.length : Int), (d.steps.length : Int)]) (ys := [(d.writes.length : Int), (d.steps.length : Int)]) (SqT.of (s4 _ _ upd_same)) (SqT.of upd_same) ⟨_, rfl, ?_⟩
  rw [decide_eq_true rfl]
  walk_at "nrm"
  rw [if_neg (by decide)]
  have t4 := (t2.trans s3).trans s4
  refine ⟨by show 3 ≤ sizeLine; decide, fun l nl => ?_⟩
  have s5 := same_upd (o := .lst [V.int 0, V.int 1, V.int 7]) nl
  have t5 := t4.trans s5
  refine ⟨l, rfl, ⟨_, SqL.of upd_same⟩, for_list (K := K) (a := l) (xs := [V.int 0, V.int 1, V.int 7]) (fun i σ' H' => (∃ c2 c3 : Option V, σ' = [some (.ref dev), some (.ref m), c2, c3]) ∧ Same H H' ∧ H' l = some (.lst [V.int 0, V.int 1, V.int 7]))
    ⟨⟨none, none, rfl⟩, t5, upd_same⟩ (fun i σ' H' _ ⟨_, _, e⟩ => SqL.of e) ?_ ?_⟩
  · rintro i v σ' H' hv ⟨⟨c2, c3, rfl⟩, sm, el⟩
    obtain ⟨n, rfl⟩ : ∃ n : Int, v = V.int n := by
      match i, hv with
      | 0, hv => exact ⟨0, (Option.some.inj hv).symm⟩
      | 1, hv => exact ⟨1, (Option.some.inj hv).symm⟩
      | 2, hv => exact ⟨7, (Option.some.inj hv).symm⟩
      | i + 3, hv => exact absurd hv (by simp)
    have D' := D.same sm
    have M' := M.same sm
    refine q_setg ?_
    refine ⟨_, rfl, dev, g.dx, devF g d, rfl, D'.at_, lk_no (by decide +kernel), _, rfl, dev, g, d, n, rfl, D', fun p H6 s6 n6 e6 => ?_⟩
    walk_at "nrm"
    refine ⟨_, rfl, _, rfl, _, rfl, m, g2, d, n, rfl, M'.same s6, fun p7 H7 s7 e7 => ?_⟩
    refine neL_ints (SqL.of (s7 _ _ e6)) (SqL.of e7) ⟨_, rfl, ?_⟩
    rw [decide_eq_true rfl]
    walk_at "nrm"
    rw [if_neg (by decide)]
    refine s_setL (k := 0) val_c (val_var rfl) val_c (s7 _ _ e6) ?_ ?_
    · rw [List.length_map, page_len hF]
      rfl
    · have s67 := sm.trans (s6.trans s7)
      have np : H p = none := sm.free n6
      refine ⟨⟨_, _, rfl⟩, fun b o hb => ?_, ?_⟩
      · rw [upd_ne (ne_of_none hb np)]
        exact s67 b o hb
      · rw [upd_ne (ne_of_none el n6)]
        exact s7 _ _ (s6 _ _ el)
  · rintro σ' H' ⟨⟨c2, c3, rfl⟩, sm, el⟩
    have D' := D.same sm
    refine ⟨_, rfl, dev, g.dx, devF g d, rfl, D'.at_, lk_no (by decide +kernel), dev, g, d, rfl, D', hl, fun p H6 s6 n6 e6 => ⟨.inl ⟨rfl, _, SqL.of e6⟩, p, _, _, rfl, rfl, e6, ?_, ?_⟩⟩
    · have h := afterL_len d.log d.steps
      rw [List.length_map]
      unfold lg at hl
      exact Nat.lt_of_le_of_lt (Nat.le_trans h hl) (by decide)
    · have np : H p = none := sm.free n6
      refine q _ fun b o hb => ?_
      rw [upd_ne (ne_of_none hb np)]
      exact s6 _ _ (sm b o hb)
end
end K03


namespace K03
open PySem L2 Nv RZ
local macro_rules | `(tactic| walk_at "hp") => `(tactic| first
  | assumption
  | exact upd_same
  | exact (upd_ne (by assumption)).trans (by first | assumption | exact upd_same | exact (upd_ne (by assumption)).trans (by first | assumption | exact upd_same))
  | exact (upd_ne (Ne.symm (by assumption))).trans (by first | assumption | exact upd_same))
local macro_rules | `(tactic| walk_at "cond") => `(tactic| first
  | (change (0 : Int) < _; first | decide | omega)
  | exact Or.inr ⟨by decide, by decide⟩
  | exact Or.inl ⟨by decide, by decide⟩
  | exact Or.inr ⟨by omega, by omega⟩
  | exact Or.inl ⟨by omega, by omega⟩
  | exact ⟨by decide, by decide, by decide⟩
  | exact wide_div (by first | decide | omega) (show _ < 2 ^ 64 by first | decide | omega) (by decide) (by decide)
  | (change (0 : Int) ≤ _; first | decide | omega)
  | exact ⟨by decide, by decide⟩
  | exact ⟨by omega, by omega⟩)
local macro_rules | `(tactic| walk_at "val") => `(tactic| first
  | (with_reducible exact val_c)
  | ((with_reducible apply val_var); exact rfl)
  | ((with_reducible apply val_I0); walk_at "val"; walk_at "val")
  | ((with_reducible apply val_I); walk_at "val"; walk_at "val"; walk_at "cond")
  | ((with_reducible apply val_ixL); walk_at "val"; walk_at "val"; (first | exact SqL.of (by walk_at "hp") | assumption); exact rfl)
  | ((with_reducible apply val_len); walk_at "val"; first | exact Or.inl (SqL.of (by walk_at "hp")) | exact Or.inl (by assumption) | exact Or.inr (by assumption) | exact Or.inr (SqT.of (by walk_at "hp")))
  | ((with_reducible apply val_int1); walk_at "val")
  | ((with_reducible apply val_abs); walk_at "val")
  | ((with_reducible apply val_max2); walk_at "val"; walk_at "val")
  | ((with_reducible apply val_eq); walk_at "val"; walk_at "val"; exact rfl)
  | ((with_reducible apply val_ne); walk_at "val"; walk_at "val"; exact rfl)
  | ((with_reducible apply val_not); walk_at "val")
  | ((with_reducible apply val_U); walk_at "val"))
local macro_rules | `(tactic| walk_at "ans") => `(tactic| first
  | ((with_reducible apply ans_Eq); walk_at "val"; walk_at "val"; exact rfl)
  | ((with_reducible apply ans_Ne); walk_at "val"; walk_at "val"; exact rfl)
  | ((with_reducible apply ans_I0); walk_at "val"; walk_at "val"; exact rfl)
  | ((with_reducible refine ans_And ?_ (fun _ => ?_)); walk_at "ans"; walk_at "ans")
  | ((with_reducible refine ans_or2 ?_ (fun _ => ?_)); walk_at "ans"; walk_at "ans")
  | ((with_reducible refine ans_not ?_); walk_at "ans")
  | ((with_reducible apply ans_val); walk_at "val"))
local macro_rules | `(tactic| walk_at "nrm") => `(tactic| (try dsimp only [List.set_cons_zero, List.set_cons_succ]))
local macro_rules | `(tactic| walk_at "set") => `(tactic| first
  | ((with_reducible apply q_set); walk_at "val"; walk_at "nrm")
  | ((with_reducible apply s_set); walk_at "val"; walk_at "nrm"))
local macro_rules | `(tactic| walk_at "setL") => `(tactic| first
  | ((with_reducible apply q_setL); walk_at "val"; walk_at "val"; walk_at "val"; walk_at "hp"; exact rfl; walk_at "nrm")
  | ((with_reducible apply s_setL); walk_at "val"; walk_at "val"; walk_at "val"; walk_at "hp"; exact rfl; walk_at "nrm"))
local macro_rules | `(tactic| walk_at "ff") => `(tactic| (walk_at "nrm"; rw [if_neg (by decide)]; (try ((with_reducible refine st_next ?_); walk_at "nrm"))))
local macro_rules | `(tactic| walk_at "nok") => `(tactic| (refine ⟨_, rfl, rfl, _, rfl, ?_⟩; walk_at "nrm"; rw [if_neg (by decide)]))
local macro_rules | `(tactic| walk_at "yesk") => `(tactic| (refine ⟨_, rfl, rfl, _, rfl, ?_⟩; walk_at "nrm"; rw [if_pos (by decide)]))
local macro_rules | `(tactic| walk_at "no") => `(tactic| (walk_at "nrm"; rw [if_neg (by decide)]; walk_at "nrm"))
local macro_rules | `(tactic| walk_at "yes") => `(tactic| (walk_at "nrm"; rw [if_pos (by decide)]; walk_at "nrm"))
local macro_rules | `(tactic| walk_at "nos") => `(tactic| (walk_at "nrm"; repeat (rw [if_neg (by decide)]; walk_at "nrm"); (try ((with_reducible refine st_next ?_); walk_at "nrm"))))

/-! ### the law's three parts in one heap -/
structure Law3 (K : Frag) (C : Addr) (H0 H : Hp) (st sc : Addr) (ns : List Int) (dev m : Addr) (g g2 : DG) (d d2 : DS) : Prop where
  dr : Dr K H0 H st sc ns
  dv : DevAt C H dev g d
  md : ModAt H m g2 d2
  dis : ∀ b, own dev g b → own m g2 b → False
  o1 : ∀ b, own dev g b → H0 b = none ∧ b ≠ st
  o2 : ∀ b, own m g2 b → H0 b = none ∧ b ≠ st
theorem dr_has {K : Frag} {H0 H : Hp} {st sc : Addr} {ns : List Int} (D : Dr K H0 H st sc ns) : ∃ o, H st = some o := by
  obtain ⟨i, d, _, _, e⟩ := D.ex
  exact ⟨_, e⟩
theorem dr_fr {K : Frag} {H0 H H' : Hp} {st sc x : Addr} {ns : List Int} {g g' : DG} (D : Dr K H0 H st sc ns) (o : ∀ b, own x g b → H0 b = none ∧ b ≠ st) (f : Fr x g H g' H') : Dr K H0 H' st sc ns := by
  obtain ⟨i, d, hi, hd, e⟩ := D.ex
  refine ⟨D.sq, fun b u hb => f.keep b u (fun z => ?_) (D.same b u hb), D.new, i, d, hi, hd, f.keep _ _ (fun z => (o _ z).2 rfl) e⟩
  have := (o b z).1
  rw [hb] at this
  cases this
theorem fr_not {x : Addr} {g g' : DG} {H H' : Hp} {b : Addr} {u : HO} (f : Fr x g H g' H') (n : ¬ own x g b) (e : H b = some u) : ¬ own x g' b := fun z => by
  rcases f.grow b z with k | k
  · exact n k
  · rw [e] at k; cases k
section
variable {K : Frag} {C : Addr} {H0 H H' : Hp} {st sc : Addr} {ns : List Int} {dev m : Addr} {g g' g2 : DG} {d d' d2 : DS}
theorem Law3.onDev (L : Law3 K C H0 H st sc ns dev m g g2 d d2) (D' : DevAt C H' dev g' d') (f : Fr dev g H g' H') : Law3 K C H0 H' st sc ns dev m g' g2 d' d2 := by
  obtain ⟨u, eu⟩ := dr_has L.dr
  refine ⟨dr_fr L.dr L.o1 f, D', L.md.kp fun b o h e => f.keep b o (fun z => L.dis b z h) e, fun b h1 h2 => ?_, fun b h => ?_, L.o2⟩
  · rcases f.grow b h1 with k | k
    · exact L.dis b k h2
    · obtain ⟨o, e⟩ := L.md.has h2
      rw [k] at e; cases e
  · rcases f.grow b h with k | k
    · exact L.o1 b k
    · exact ⟨L.dr.same.free k, (ne_of_none eu k).symm⟩
theorem Law3.onMod (L : Law3 K C H0 H st sc ns dev m g g2 d d2) (D' : ModAt H' m g' d') (f : Fr m g2 H g' H') : Law3 K C H0 H' st sc ns dev m g g' d d' := by
  obtain ⟨u, eu⟩ := dr_has L.dr
  refine ⟨dr_fr L.dr L.o2 f, L.dv.kp fun b o h e => f.keep b o (fun z => L.dis b h z) e, D', fun b h1 h2 => ?_, L.o1, fun b h => ?_⟩
  · rcases f.grow b h2 with k | k
    · exact L.dis b h1 k
    · obtain ⟨o, e⟩ := L.dv.has h1
      rw [k] at e; cases e
  · rcases f.grow b h with k | k
    · exact L.o2 b k
    · exact ⟨L.dr.same.free k, (ne_of_none eu k).symm⟩
theorem Law3.same (L : Law3 K C H0 H st sc ns dev m g g2 d d2) (s : Same H H') : Law3 K C H0 H' st sc ns dev m g g2 d d2 := ⟨L.dr.kp s, L.dv.same s, L.md.same s, L.dis, L.o1, L.o2⟩
theorem Law3.draw (L : Law3 K C H0 H st sc ns dev m g g2 d d2) (hB : But st H H') (D : Dr K H0 H' st sc ns) : Law3 K C H0 H' st sc ns dev m g g2 d d2 :=
  ⟨D, L.dv.kp fun b o h e => by rw [hB b (L.o1 b h).2]; exact e, L.md.kp fun b o h e => by rw [hB b (L.o2 b h).2]; exact e, L.dis, L.o1, L.o2⟩
theorem Law3.upd {l : Addr} {o : HO} (L : Law3 K C H0 H st sc ns dev m g g2 d d2) (n1 : ¬ own dev g l) (n2 : ¬ own m g2 l) (n3 : H0 l = none) (n4 : l ≠ st) : Law3 K C H0 (upd H l o) st sc ns dev m g g2 d d2 := by
  obtain ⟨i, j, hi, hj, e⟩ := L.dr.ex
  refine ⟨⟨L.dr.sq, fun b u hb => ?_, L.dr.new, i, j, hi, hj, by rw [upd_ne n4.symm]; exact e⟩, L.dv.kp fun b u h e => by rw [upd_ne (fun z => n1 (by rw [← z]; exact h))]; exact e, L.md.kp fun b u h e => by rw [upd_ne (fun z => n2 (by rw [← z]; exact h))]; exact e, L.dis, L.o1, L.o2⟩
  rw [upd_ne (ne_of_none hb n3)]
  exact L.dr.same b u hb
theorem dr_ne {b : Addr} (D1 : Dr K H0 H st sc ns) (h : H b = none) : b ≠ st := fun e => by
  obtain ⟨i, d, _, _, e'⟩ := D1.ex
  rw [e, e'] at h
  cases h
end
section
variable {P : Program} {w : World} {K : PySem.W.Frag} {mg : Str → Option Value} {base : Heap}
theorem ok_law_draw (T : Txt K mg) : FnOk P w K mg base CX0 1 T.f_law_draw T.fd_law_draw ["state", "script", "size"] (spDraw K) := by
  refine T.F_law_draw.ok sc_law_draw (fun vs H Q E h => ?_) (fun cdv A outer s H vs Q E hr h => ?_)
  · obtain ⟨_, _, _, _, _, rfl, _⟩ := h
    rfl
  obtain ⟨st, sc, n, H0, ns, rfl, hn, hn2, D, q⟩ := h
  refine ⟨_, (Evl.pss_cut (ps_if (pt_cmpR op_eq (pe_ix ix_list (pv 0) pe_int (fun _ _ => rfl)) pe_int (nomark _))
        (pss_cons (ps_set (i := 3) sc_law_draw.nd rfl (by first | exact Or.inl rfl | exact Or.inr rfl) pe_int)
        (Evl.pss_cut (ps_if (pt_cmpR op_gt (pe_callB call_len_seq (by rfl) T.z_len (by decide +kernel) (pa_cons (pv 1) pa_nil)) pe_int (nomark _))
          (pss_one (ps_set (i := 3) sc_law_draw.nd rfl (by first | exact Or.inl rfl | exact Or.inr rfl) (pe_ix ix_list (pv 1) (pe_op op_mod (pe_ix ix_list (pv 0) pe_int (fun _ _ => rfl)) (pe_callB call_len_seq (by rfl) T.z_len (by decide +kernel) (pa_cons (pv 1) pa_nil))) (fun _ _ => rfl))))
          pss_nil)
        (Evl.pss_cut (ps_if (pt_cmpR op_lt (pv 3) pe_int (nomark _))
          (pss_one (ps_set (i := 3) sc_law_draw.nd rfl (by first | exact Or.inl rfl | exact Or.inr rfl) (pe_op op_sub pe_int (pe_op op_mul pe_int (pv 3)))))
          pss_nil)
        (pss_cons (ps_set (i := 4) sc_law_draw.nd rfl (by first | exact Or.inl rfl | exact Or.inr rfl) (pe_op op_mod (pe_callTy call_int1 (by rfl) T.z_int (by decide +kernel) (pa_cons (pe_op op_mul (pe_op op_add (pe_op op_add (pv 3) (pe_op op_mul (pe_ix ix_list (pv 0) pe_int (fun _ _ => rfl)) pe_int)) pe_int) pe_int) pa_nil)) pe_int))
        (pss_cons (ps_asg (pe_op op_mod (pe_callTy call_int1 (by rfl) T.z_int (by decide +kernel) (pa_cons (pe_op op_add (pe_op op_mul (pv 4) pe_int) (pe_op op_mul (pe_ix ix_list (pv 0) pe_int (fun _ _ => rfl)) pe_int)) pa_nil)) pe_int) (pg_sub (pv 0) pe_int set_list))
        (Evl.pss_cut (ps_if (PW.pt (pw_and (pt_cmpR op_ge (pv 3) (pe_op op_pow pe_int pe_int) (nomark _)) (pw_and1 (pt_cmpR op_lt (pe_ix ix_list (pv 0) pe_int (fun _ _ => rfl)) (pe_callB call_len_seq (by rfl) T.z_len (by decide +kernel) (pa_cons (pv 1) pa_nil)) (nomark _)))))
          (pss_one (ps_asg (pv 3) (pg_sub (pv 0) pe_int set_list)))
          pss_nil)
        (pss_one (ps_asg (pe_op op_add (pe_ix ix_list (pv 0) pe_int (fun _ _ => rfl)) pe_int) (pg_sub (pv 0) pe_int set_list)))))))))
        pss_nil)
      (pss_cons (ps_set (i := 5) sc_law_draw.nd rfl (by first | exact Or.inl rfl | exact Or.inr rfl) (pe_op op_mod (pe_callTy call_int1 (by rfl) T.z_int (by decide +kernel) (pa_cons (pe_ix ix_list (pv 0) pe_int (fun _ _ => rfl)) pa_nil)) (pv 2)))
      (pss_cons (ps_asg (pe_op op_fdivW (pe_ix ix_list (pv 0) pe_int (fun _ _ => rfl)) (pv 2)) (pg_sub (pv 0) pe_int set_list))
      (pss_one (ps_ret (pv 5)))))), ?_⟩
  (try dsimp only [cxOf])
  rw [show start ["state", "script", "size", "cell", "mixed", "digit"] [.ref st, .ref sc, .int n] = [some (.ref st), some (.ref sc), some (.int n), none, none, none] from rfl]
  obtain ⟨i, d, hi, hd, e⟩ := D.ex
  have hS := D.seq
  refine q_cut (fun σ' H' => ∃ (i d : Int) (c3 c4 : Option V), σ' = [some (.ref st), some (.ref sc), some (.int n), c3, c4, none] ∧ 0 ≤ i ∧ 0 ≤ d ∧ But st H H' ∧ Dr K H0 H' st sc ns ∧ H' st = some (.lst [.int i, .int d])) ?_ ?_
  · refine s_when (b := decide (V.int d = V.int 0)) (by walk_at "ans") (fun hb => ?_) (fun hb => ⟨i, d, none, none, rfl, hi, hd, But.refl _ _, D, e⟩)
    refine q_set (v := .int 0) (by walk_at "val") ?_
    walk_at "nrm"
    refine q_cut (fun σ' H' => H' = H ∧ ∃ c : Int, σ' = [some (.ref st), some (.ref sc), some (.int n), some (.int c), none, none]) ?_ ?_
    · refine s_when (b := decide ((0 : Int) < ((ns.map V.int).length : Nat))) (by walk_at "ans") (fun hb => ?_) (fun hb => ⟨rfl, 0, rfl⟩)
      have h0 : 0 < ns.length := by
        have h1 := of_decide_eq_true hb
        rw [List.length_map] at h1
        omega
      obtain ⟨c, hc⟩ := at_mod i h0
      refine s_set (v := .int c) ?_ ⟨rfl, _, rfl⟩
      refine val_ixL (xs := ns.map V.int) (i := i % (((ns.map V.int).length : Nat) : Int)) (val_var rfl) ?_ hS hc
      refine val_I (val_ixL (val_var rfl) val_c (SqL.of e) rfl) (val_len (val_var rfl) (.inl hS)) ?_
      show (0 : Int) < _
      rw [List.length_map]
      omega
    rintro σ' H' ⟨rfl, c, rfl⟩
    refine q_cut (fun σ' H'' => H'' = H' ∧ ∃ c : Int, 0 ≤ c ∧ σ' = [some (.ref st), some (.ref sc), some (.int n), some (.int c), none, none]) ?_ ?_
    · refine s_when (b := decide (c < 0)) (by walk_at "ans") (fun hb => ?_) (fun hb => ⟨rfl, c, by have := of_decide_eq_false hb; omega, rfl⟩)
      have hc := of_decide_eq_true hb
      refine s_set (v := .int (1 - 2 * c)) (by walk_at "val") ⟨rfl, _, by omega, rfl⟩
    rintro σ' H'' ⟨rfl, c, hc, rfl⟩
    walk_at "set"
    walk_at "setL"
    generalize hm : (_ : Int) % 4294967291 = m5
    have hm5 : 0 ≤ m5 := by rw [← hm]; exact Int.emod_nonneg _ (by decide)
    refine q_cut (fun σ' H' => ∃ d' : Int, 0 ≤ d' ∧ But st H'' H' ∧ H' st = some (.lst [.int i, .int d']) ∧ ∃ c4, σ' = [some (.ref st), some (.ref sc), some (.int n), some (.int c), c4, none]) ?_ ?_
    · have e2 : (upd H'' st (.lst [V.int i, V.int m5])) st = some (.lst [.int i, .int m5]) := upd_same
      have hS2 : SqL K (upd H'' st (.lst [V.int i, V.int m5])) sc (ns.map V.int) := (D.put hi hm5).seq
      refine s_when (b := decide ((10 : Int) ^ (18 : Int).toNat ≤ c) && decide (i < ((ns.map V.int).length : Nat))) (by walk_at "ans") (fun hb => ?_) (fun hb => ⟨m5, hm5, But.upd, upd_same, _, rfl⟩)
      walk_at "setL"
      exact ⟨c, hc, But.upd.trans But.upd, upd_same, _, rfl⟩
    rintro σ' H' ⟨d', hd', hB, e', c4, rfl⟩
    walk_at "setL"
    exact ⟨i + 1, d', _, _, rfl, by omega, hd', hB.trans But.upd, ⟨D.sq, fun b o h => by rw [upd_ne (ne_of_none h D.new), hB b (ne_of_none h D.new)]; exact D.same b o h, D.new, i + 1, d', by omega, hd', upd_same⟩, upd_same⟩
  · rintro σ' H' ⟨i, d, c3, c4, rfl, hi, hd, hB, D, e⟩
    refine q_set (by walk_at "val") ?_
    walk_at "nrm"
    refine q_setL (by walk_at "val") (by walk_at "val") (by walk_at "val") e (k := 1) rfl ?_
    refine s_ret (val_var rfl) ?_
    refine q _ _ (Int.emod_nonneg _ (by omega)) (Int.emod_lt_of_pos _ hn) (hB.trans But.upd) ?_
    exact D.put hi (Int.ediv_nonneg hd (by omega))

def sp_law (K : PySem.W.Frag) : Sp := fun vs H Q _ => ∃ (a : Addr) (ns : List Int), vs = [.ref a] ∧ SqL K H a (ns.map V.int) ∧ ns.length ≤ 63 ∧ ∀ H', Q (.bl true) H'
theorem ok_law (T : Txt K mg) : FnOk P w K mg base CX0 6 T.f_law T.fd_law ["script"] (sp_law K) := by
  refine T.F_law.ok sc_law (fun vs H Q E h => ?_) (fun cdv A outer s H vs Q E hr h => ?_)
  · obtain ⟨_, _, rfl, _⟩ := h
    rfl
  obtain ⟨sc, ns, rfl, hS, hlen, q⟩ := h
  refine ⟨_, (pss_cons (ps_set (i := 1) sc_law.nd rfl (by first | exact Or.inl rfl | exact Or.inr rfl) (pe_lst (pa_cons pe_int (pa_cons pe_int pa_nil))))
      (pss_cons (ps_set (i := 2) sc_law.nd rfl (by first | exact Or.inl rfl | exact Or.inr rfl) (pe_make0 T.mk_Device (ok_Device_init T) (hr.mono (by decide)) (by rfl) T.g_Device T.b_Device_init .nil pass0))
      (pss_cons (ps_set (i := 3) sc_law.nd rfl (by first | exact Or.inl rfl | exact Or.inr rfl) (pe_call0 (ok_law_new T) (hr.mono (by decide)) (by rfl) T.g_law_new T.F_law_new.kp T.b_law_new .nil pass0))
      (pss_cons (ps_for PassesOwn.never rfl (pi_range1 (by rfl) T.z_range (pa_cons (pe_call (ok_law_draw T) (hr.mono (by decide)) (by rfl) T.g_law_draw T.F_law_draw.kp T.b_law_draw .nil pass0 (pa_cons (pv 1) (pa_cons (pv 0) (pa_cons pe_int pa_nil)))) pa_nil)) (pg_name (i := 4) sc_law.nd rfl (by first | exact Or.inl rfl | exact Or.inr rfl))
        (pss_cons (ps_set (i := 5) sc_law.nd rfl (by first | exact Or.inl rfl | exact Or.inr rfl) (pe_call (ok_law_draw T) (hr.mono (by decide)) (by rfl) T.g_law_draw T.F_law_draw.kp T.b_law_draw .nil pass0 (pa_cons (pv 1) (pa_cons (pv 0) (pa_cons pe_int pa_nil)))))
        (pss_cons (ps_set (i := 6) sc_law.nd rfl (by first | exact Or.inl rfl | exact Or.inr rfl) (pe_ix ix_list (pe_lst (pa_cons pe_int (pa_cons pe_int (pa_cons pe_int pa_nil)))) (pe_call (ok_law_draw T) (hr.mono (by decide)) (by rfl) T.g_law_draw T.F_law_draw.kp T.b_law_draw .nil pass0 (pa_cons (pv 1) (pa_cons (pv 0) (pa_cons pe_int pa_nil)))) (fun _ _ => rfl)))
        (pss_cons (ps_set (i := 7) sc_law.nd rfl (by first | exact Or.inl rfl | exact Or.inr rfl) (pe_op op_cat (pe_op op_rep (pe_lst (pa_cons (pe_call (ok_law_draw T) (hr.mono (by decide)) (by rfl) T.g_law_draw T.F_law_draw.kp T.b_law_draw .nil pass0 (pa_cons (pv 1) (pa_cons (pv 0) (pa_cons pe_int pa_nil)))) pa_nil)) pe_int) (pe_op op_rep (pe_lst (pa_cons (pe_call (ok_law_draw T) (hr.mono (by decide)) (by rfl) T.g_law_draw T.F_law_draw.kp T.b_law_draw .nil pass0 (pa_cons (pv 1) (pa_cons (pv 0) (pa_cons pe_int pa_nil)))) pa_nil)) pe_int)))
        (Evl.pss_cut (ps_if (pt_cmpR op_eq (pv 5) pe_int (nomark _))
          (pss_one (ps_set (i := 6) sc_law.nd rfl (by first | exact Or.inl rfl | exact Or.inr rfl) (pe_ix ix_list (pe_lst (pa_cons pe_int (pa_cons pe_int (pa_cons pe_int (pa_cons pe_int pa_nil))))) (pe_call (ok_law_draw T) (hr.mono (by decide)) (by rfl) T.g_law_draw T.F_law_draw.kp T.b_law_draw .nil pass0 (pa_cons (pv 1) (pa_cons (pv 0) (pa_cons pe_int pa_nil)))) (fun _ _ => rfl))))
          pss_nil)
        (Evl.pss_cut (ps_if (pt_cmpR op_lt (pv 5) pe_int (nomark _))
          (pss_cons (ps_set (i := 8) sc_law.nd rfl (by first | exact Or.inl rfl | exact Or.inr rfl) (pe_call (ok_law_expected T) (hr.mono (by decide)) (by rfl) T.g_law_expected T.F_law_expected.kp T.b_law_expected .nil pass0 (pa_cons (pv 3) (pa_cons (pv 5) (pa_cons (pv 6) (pa_cons (pv 7) pa_nil))))))
          (pss_cons (ps_if (pt_cmpR op_ne (pe_call (ok_law_done T) (hr.mono (by decide)) (by rfl) T.g_law_done T.F_law_done.kp T.b_law_done .nil pass0 (pa_cons (pv 2) (pa_cons (pv 5) (pa_cons (pv 6) (pa_cons (pv 7) pa_nil))))) (pv 8) (nomark _))
            (pss_one (ps_ret pe_bl))
            pss_nil)
          (pss_one (ps_asg pe_int (pg_sub (pv 7) pe_int set_list)))))
          (pss_one (ps_if (pt_cmpR op_eq (pv 5) pe_int (nomark _))
            (pss_cons (ps_set (i := 9) sc_law.nd rfl (by first | exact Or.inl rfl | exact Or.inr rfl) (pe_ix ix_list (pe_lst (pa_cons (pe_call (ok_law_draw T) (hr.mono (by decide)) (by rfl) T.g_law_draw T.F_law_draw.kp T.b_law_draw .nil pass0 (pa_cons (pv 1) (pa_cons (pv 0) (pa_cons pe_int pa_nil)))) (pa_cons (pe_call (ok_law_draw T) (hr.mono (by decide)) (by rfl) T.g_law_draw T.F_law_draw.kp T.b_law_draw .nil pass0 (pa_cons (pv 1) (pa_cons (pv 0) (pa_cons pe_int pa_nil)))) pa_nil))) (pe_call (ok_law_draw T) (hr.mono (by decide)) (by rfl) T.g_law_draw T.F_law_draw.kp T.b_law_draw .nil pass0 (pa_cons (pv 1) (pa_cons (pv 0) (pa_cons pe_int pa_nil)))) (fun _ _ => rfl)))
            (pss_cons (ps_expr (pe_meth (pv 2) T.cl_Device T.m_Device_limit (ok_Device_limit T) (hr.mono (by decide)) T.b_Device_limit .nil pass0 (pa_cons (pv 9) pa_nil)))
            (pss_one (ps_dput (hu_of hr) (pv 3) pe_str (pe_op op_add (pe_dget (hu_of hr) (pv 3) pe_str (fun _ _ => rfl)) (pv 9)) rfl))))
            (pss_one (ps_if (pt_cmpR op_eq (pv 5) pe_int (nomark _))
              (pss_cons (ps_expr (pe_meth (pv 2) T.cl_Device T.m_Device_limit (ok_Device_limit T) (hr.mono (by decide)) T.b_Device_limit .nil pass0 (pa_cons pe_non pa_nil)))
              (pss_one (ps_dput (hu_of hr) (pv 3) pe_str (pe_un un_neg pe_int) rfl)))
              (pss_cons (ps_setLc (i := 10) (own := [("k", 12)]) (g := gName 12) (by rfl) sc_law.nd rfl rfl (sw_true rfl rfl rfl (by decide +kernel)) (pi_range1 (by rfl) T.z_range (pa_cons (pe_call (ok_law_draw T) (hr.mono (by decide)) (by rfl) T.g_law_draw T.F_law_draw.kp T.b_law_draw .nil pass0 (pa_cons (pv 1) (pa_cons (pv 0) (pa_cons pe_int pa_nil)))) pa_nil)) (blkOk_by (own := [("k", 12)]) (N := ["script", "state", "device", "model", "turn", "kind", "number", "data", "due", "steps", "fates", "kept", "k"]) (sc := defScope s_law) (by decide +kernel)) (fun _ _ _ _ _ => pg_name (i := 12) sc_law.nd rfl (by first | exact Or.inl rfl | exact Or.inr rfl)) (fun _ _ _ _ _ => pts_nil) (fun _ _ _ _ _ => pe_call (ok_law_draw T) (hr.mono (by decide)) (by rfl) T.g_law_draw T.F_law_draw.kp T.b_law_draw .nil pass0 (pa_cons (pv 1) (pa_cons (pv 0) (pa_cons pe_int pa_nil)))))
              (pss_cons (ps_set (i := 11) sc_law.nd rfl (by first | exact Or.inl rfl | exact Or.inr rfl) (pe_ix ix_list (pe_lst (pa_cons (pe_call (ok_law_draw T) (hr.mono (by decide)) (by rfl) T.g_law_draw T.F_law_draw.kp T.b_law_draw .nil pass0 (pa_cons (pv 1) (pa_cons (pv 0) (pa_cons pe_int pa_nil)))) (pa_cons (pe_call (ok_law_draw T) (hr.mono (by decide)) (by rfl) T.g_law_draw T.F_law_draw.kp T.b_law_draw .nil pass0 (pa_cons (pv 1) (pa_cons (pv 0) (pa_cons pe_int pa_nil)))) pa_nil))) (pe_call (ok_law_draw T) (hr.mono (by decide)) (by rfl) T.g_law_draw T.F_law_draw.kp T.b_law_draw .nil pass0 (pa_cons (pv 1) (pa_cons (pv 0) (pa_cons pe_int pa_nil)))) (fun _ _ => rfl)))
              (pss_cons (ps_expr (pe_meth (pv 2) T.cl_Device T.m_Device_crash (ok_Device_crash T) (hr.mono (by decide)) T.b_Device_crash .nil pass0 (pa_cons (pe_callTy call_list_of (by rfl) T.z_list (by decide +kernel) (pa_cons (pv 10) pa_nil)) (pa_cons (pv 11) pa_nil))))
              (pss_one (ps_expr (pe_call (ok_law_crash T) (hr.mono (by decide)) (by rfl) T.g_law_crash T.F_law_crash.kp T.b_law_crash .nil pass0 (pa_cons (pv 3) (pa_cons (pv 10) (pa_cons (pv 11) pa_nil))))))))))))))
        (pss_one (ps_if (pt_not (pt_val (pe_call (ok_law_same T) (hr.mono (by decide)) (by rfl) T.g_law_same T.F_law_same.kp T.b_law_same .nil pass0 (pa_cons (pv 2) (pa_cons (pv 3) pa_nil)))))
          (pss_one (ps_ret pe_bl))
          pss_nil))))))))
      (pss_one (ps_ret pe_bl)))))), ?_⟩
  (try dsimp only [cxOf])
  rw [show start ["script", "state", "device", "model", "turn", "kind", "number", "data", "due", "steps", "fates", "kept", "k"] [.ref sc] = [some (.ref sc), none, none, none, none, none, none, none, none, none, none, none, none] from rfl]
  refine q_setg ?_
  refine ⟨by show 2 ≤ sizeLine; decide, fun st hst => ?_⟩
  walk_at "nrm"
  have D0 : Dr K H (upd H st (.lst [.int 0, .int 0])) st sc ns := ⟨hS, same_upd hst, hst, 0, 0, Int.le_refl _, Int.le_refl _, upd_same⟩
  generalize upd H st (.lst [.int 0, .int 0]) = H0 at D0
  -- the device, the model
  refine q_setg ?_
  intro dev dx nd nx ne
  have s0 : Same H0 (upd (upd H0 dx (.own dev)) dev (.ins T.C_Device dx [])) := (same_upd nx).trans (same_upd (by rw [upd_ne ne.symm]; exact nd))
  refine ⟨dev, dx, rfl, upd_same, fun g H1 D1 k1 o1 hk1 => ⟨rfl, ?_⟩⟩
  walk_at "nrm"
  have s1 : Same H0 H1 := fun b o e => k1 b o (s0 b o e) (ne_of_none e nd)
  refine q_setg ?_
  refine ⟨(), rfl, fun m g2 H2 M2 s2 o2 hk2 => ?_⟩
  walk_at "nrm"
  have n0 : ∀ b, own dev g b → H0 b = none := fun b h => by
    rcases o1 b h with z | z
    · rw [z]; exact nd
    · exact s0.free z
  have L0 : Law3 K T.C_Device H H2 st sc ns dev m g g2 DS.new DS.new := by
    have nn : ∀ b, H0 b = none → b ≠ st := fun b h => dr_ne D0 h
    refine ⟨D0.kp (s1.trans s2), D1.same s2, M2, fun b h1 h2 => ?_, fun b h => ⟨D0.same.free (n0 b h), nn b (n0 b h)⟩, fun b h => ?_⟩
    · obtain ⟨o, e⟩ := D1.has h1
      rw [o2 b h2] at e
      cases e
    · have := s1.free (o2 b h)
      exact ⟨D0.same.free this, nn b this⟩
  refine ⟨_, rfl, _, rfl, st, sc, 25, H, ns, rfl, by decide, by decide, L0.dr, fun r H3 r0 r24 hB3 D3 => ?_⟩
  refine ⟨r, rfl, by omega, by omega, ?_⟩
  have L3 := L0.draw hB3 D3
  refine for_range (lo := 0) (n := r.toNat) (fun i σ' H' => ∃ (g g2 : DG) (d : DS) (c4 c5 c6 c7 c8 c9 c10 c11 : Option V), σ' = [some (.ref sc), some (.ref st), some (.ref dev), some (.ref m), c4, c5, c6, c7, c8, c9, c10, c11, none] ∧ Law3 K T.C_Device H H' st sc ns dev m g g2 d d ∧ Full d ∧ bnd g d ≤ i ∧ bnd g2 d ≤ i ∧ lg d ≤ i * 1000)
    ⟨g, g2, DS.new, none, none, none, none, none, none, none, none, rfl, L3, full_new, by unfold bnd; rw [hk1]; exact Nat.le_refl _, by unfold bnd; rw [hk2]; exact Nat.le_refl _, Nat.zero_le _⟩ ?_ ?_
  · rintro i σ' H4 hi ⟨g, g2, d, c4, c5, c6, c7, c8, c9, c10, c11, rfl, L, hF, hb1, hb2, hlg⟩
    have hi : i < 25 := by omega
    -- kind
    refine q_setg ?_
    refine ⟨_, rfl, _, rfl, st, sc, 8, H, ns, rfl, by decide, by decide, L.dr, fun kind H5 k0 k8 hB5 D5 => ?_⟩
    walk_at "nrm"
    have L5 := L.draw hB5 D5
    -- number
    refine q_setg ?_
    refine ⟨by show 3 ≤ sizeLine; decide, fun l6 n6 => ?_⟩
    have L6 := L5.same (same_upd (o := .lst [V.int 0, V.int 1, V.int 7]) n6)
    refine ⟨_, rfl, _, rfl, st, sc, 3, H, ns, rfl, by decide, by decide, L6.dr, fun j H7 j0 j3 hB7 D7 => ?_⟩
    have L7 := L6.draw hB7 D7
    obtain ⟨n, hn⟩ : ∃ n : Nat, atI [V.int 0, V.int 1, V.int 7] j = some (.int (n : Int)) := by
      have c : j = 0 ∨ j = 1 ∨ j = 2 := by omega
      rcases c with rfl | rfl | rfl
      · exact ⟨0, rfl⟩
      · exact ⟨1, rfl⟩
      · exact ⟨7, rfl⟩
    refine ⟨l6, _, j, _, rfl, rfl, SqL.of (by rw [hB7 _ (dr_ne L5.dr n6)]; exact upd_same), hn, ?_⟩
    walk_at "nrm"
    -- data
    refine q_setg ?_
    refine ⟨_, rfl, _, rfl, st, sc, 256, H, ns, rfl, by decide, by decide, L7.dr, fun x0 H8 x00 x01 hB8 D8 => ?_⟩
    have L8 := L7.draw hB8 D8
    refine ⟨by show 1 ≤ sizeLine; decide, fun l8 n8 => ?_⟩
    refine ⟨l8, 128, [.int x0], rfl, rfl, upd_same, by decide, by decide, by show 128 ≤ sizeLine; decide, fun l9 n9 => ?_⟩
    have L9 := (L8.same (same_upd (o := .lst [V.int x0]) n8)).same (same_upd (o := .lst (List.replicate (128 : Int).toNat [V.int x0]).flatten) n9)
    refine ⟨_, rfl, _, rfl, st, sc, 256, H, ns, rfl, by decide, by decide, L9.dr, fun x1 H10 x10 x11 hB10 D10 => ?_⟩
    have L10 := L9.draw hB10 D10
    have e9 : H10 l9 = some (.lst (List.replicate (128 : Int).toNat [V.int x0]).flatten) := by
      rw [hB10 _ (dr_ne (L8.same (same_upd (o := .lst [V.int x0]) n8)).dr n9)]
      exact upd_same
    refine ⟨by show 1 ≤ sizeLine; decide, fun l11 n11 => ?_⟩
    refine ⟨l11, 128, [.int x1], rfl, rfl, upd_same, by decide, by decide, by show 128 ≤ sizeLine; decide, fun l12 n12 => ?_⟩
    have s12 := (same_upd (o := .lst [V.int x1]) n11).trans (same_upd (o := .lst (List.replicate (128 : Int).toNat [V.int x1]).flatten) n12)
    have L12 := L10.same s12
    refine ⟨l9, l12, _, _, rfl, rfl, s12 _ _ e9, upd_same, ?_, fun pd npd => ?_⟩
    · show 128 + 128 ≤ sizeLine
      decide
    obtain ⟨xs, exs, hxl, hpos⟩ : ∃ xs : List Int, (List.replicate (128 : Int).toNat [V.int x0]).flatten ++ (List.replicate (128 : Int).toNat [V.int x1]).flatten = xs.map V.int ∧ xs.length = 256 ∧ ∀ x ∈ xs, 0 ≤ x := by
      refine ⟨List.replicate 128 x0 ++ List.replicate 128 x1, ?_, ?_, fun x hx => ?_⟩
      · rw [List.map_append, List.map_replicate, List.map_replicate]
        rfl
      · rw [List.length_append, List.length_replicate, List.length_replicate]
      · rcases List.mem_append.mp hx with k | k
        · rw [List.eq_of_mem_replicate k]; exact x00
        · rw [List.eq_of_mem_replicate k]; exact x10
    rw [exs]
    walk_at "nrm"
    have L13 := L12.same (same_upd (o := .lst (xs.map V.int)) npd)
    have npst := dr_ne L12.dr npd
    have npH := L12.dr.same.free npd
    have nps := L12.dv.not_own npd
    have npm := L12.md.not_own npd
    have epd : upd (upd (upd H10 l11 (.lst [V.int x1])) l12 (.lst (List.replicate (128 : Int).toNat [V.int x1]).flatten)) pd (.lst (xs.map V.int)) pd = some (.lst (xs.map V.int)) := upd_same
    generalize upd (upd (upd H10 l11 (.lst [V.int x1])) l12 (.lst (List.replicate (128 : Int).toNat [V.int x1]).flatten)) pd (.lst (xs.map V.int)) = H13 at L13 epd
    -- the number of a log's piece
    refine q_cut (fun σ' H' => ∃ n : Nat, σ' = [some (.ref sc), some (.ref st), some (.ref dev), some (.ref m), some (.int (0 + (i : Int))), some (.int kind), some (.int (n : Int)), some (.ref pd), c8, c9, c10, c11, none] ∧ Law3 K T.C_Device H H' st sc ns dev m g g2 d d ∧ H' pd = some (.lst (xs.map V.int))) ?_ ?_
    · refine s_when (b := decide (V.int kind = V.int 2)) (by walk_at "ans") (fun hb => ?_) (fun hb => ⟨n, rfl, L13, epd⟩)
      refine s_setg ?_
      refine ⟨by show 4 ≤ sizeLine; decide, fun l14 n14 => ?_⟩
      have L14 := L13.same (same_upd (o := .lst [V.int 0, V.int 1, V.int 7, V.int 200]) n14)
      refine ⟨_, rfl, _, rfl, st, sc, 4, H, ns, rfl, by decide, by decide, L14.dr, fun j H15 j0 j3 hB15 D15 => ?_⟩
      obtain ⟨n, hn⟩ : ∃ n : Nat, atI [V.int 0, V.int 1, V.int 7, V.int 200] j = some (.int (n : Int)) := by
        have c : j = 0 ∨ j = 1 ∨ j = 2 ∨ j = 3 := by omega
        rcases c with rfl | rfl | rfl | rfl
        · exact ⟨0, rfl⟩
        · exact ⟨1, rfl⟩
        · exact ⟨7, rfl⟩
        · exact ⟨200, rfl⟩
      refine ⟨l14, _, j, _, rfl, rfl, SqL.of (by rw [hB15 _ (dr_ne L13.dr n14)]; exact upd_same), hn, ?_⟩
      exact ⟨n, rfl, L14.draw hB15 D15, by rw [hB15 _ npst]; exact same_upd n14 _ _ epd⟩
    rintro σ' H14 ⟨n, rfl, L14, epd⟩
    -- the call
    refine q_cut (fun σ' H' => ∃ (g g2 : DG) (d : DS) (c4 c5 c6 c7 c8 c9 c10 c11 : Option V), σ' = [some (.ref sc), some (.ref st), some (.ref dev), some (.ref m), c4, c5, c6, c7, c8, c9, c10, c11, none] ∧ Law3 K T.C_Device H H' st sc ns dev m g g2 d d ∧ Full d ∧ bnd g d ≤ i + 1 ∧ bnd g2 d ≤ i + 1 ∧ lg d ≤ (i + 1) * 1000) ?_ ?_
    · have hk8 : kind < 8 := k8
      refine ⟨_, rfl, _, _, rfl, rfl, _, rfl, ?_⟩
      walk_at "nrm"
      by_cases k5 : kind < 5
      · rw [if_pos (decide_eq_true k5)]
        have hkind : IsKind kind := by
          unfold IsKind
          omega
        have hlg' : d.log.length + d.steps.length ≤ i * 1000 := hlg
        refine q_setg ?_
        refine ⟨_, rfl, _, rfl, _, rfl, _, rfl, m, g2, d, kind, n, pd, xs, rfl, hkind, L14.md, epd, hpos, by omega, by omega, by omega, fun g2' H15 M15 f15 b15 => ?_⟩
        walk_at "nrm"
        have L15 := L14.onMod M15 f15
        have e15 := f15.keep _ _ npm epd
        refine ⟨_, rfl, _, rfl, _, rfl, _, rfl, dev, g, d, kind, n, pd, xs, rfl, hkind, L15.dv, e15, by omega, by omega, by omega, fun g' H16 D16 f16 b16 => ?_⟩
        refine ⟨_, rfl, rfl, _, rfl, ?_⟩
        rw [decide_eq_true rfl]
        walk_at "nrm"
        rw [if_neg (by decide)]
        have L16 := L15.onDev D16 f16
        have e16 := f16.keep _ _ nps e15
        have hlg2 := lg_op (d := d) (kind := kind) (n := (n : Int)) (xs := xs)
        refine s_setL (k := 0) val_c (val_var rfl) val_c e16 (by rw [List.length_map, hxl]; rfl) ?_
        exact ⟨g', g2', _, _, _, _, _, _, _, _, _, rfl, L16.upd (fr_not f16 nps e15) (fr_not f15 npm epd) npH npst, full_op hF hxl, by omega, by omega, by omega⟩
      rw [if_neg (show ¬ decide (kind < 5) = true from fun z => k5 (of_decide_eq_true z))]
      refine ⟨_, rfl, rfl, _, rfl, ?_⟩
      walk_at "nrm"
      by_cases k55 : kind = 5
      · rw [if_pos (show decide (V.int kind = V.int 5) = true from decide_eq_true (congrArg V.int k55))]
        refine q_setg ?_
        refine ⟨_, rfl, _, rfl, st, sc, 9, H, ns, rfl, by decide, by decide, L14.dr, fun y0 H15 y00 y01 hB15 D15 => ?_⟩
        have L15 := L14.draw hB15 D15
        refine ⟨_, rfl, _, rfl, st, sc, 500, H, ns, rfl, by decide, by decide, L15.dr, fun y1 H16 y10 y11 hB16 D16 => ?_⟩
        have L16 := L15.draw hB16 D16
        refine ⟨by show 2 ≤ sizeLine; decide, fun l17 n17 => ?_⟩
        have L17 := L16.same (same_upd (o := .lst [V.int y0, V.int y1]) n17)
        refine ⟨_, rfl, _, rfl, st, sc, 2, H, ns, rfl, by decide, by decide, L17.dr, fun j H18 j0 j1 hB18 D18 => ?_⟩
        have L18 := L17.draw hB18 D18
        obtain ⟨z, hz0, hz⟩ : ∃ z : Int, 0 ≤ z ∧ atI [V.int y0, V.int y1] j = some (.int z) := by
          have c : j = 0 ∨ j = 1 := by omega
          rcases c with rfl | rfl
          · exact ⟨y0, y00, rfl⟩
          · exact ⟨y1, y10, rfl⟩
        refine ⟨l17, _, j, _, rfl, rfl, SqL.of (by rw [hB18 _ (dr_ne L16.dr n17)]; exact upd_same), hz, ?_⟩
        walk_at "nrm"
        refine ⟨_, rfl, dev, g.dx, devF g d, rfl, L18.dv.at_, lk_no (by decide +kernel), _, rfl, dev, g, d, some z, rfl, L18.dv, fun H19 D19 f19 => ?_⟩
        have L19 := L18.onDev D19 (Fr_of f19)
        obtain ⟨ks, e0, MM⟩ := L19.md.at_
        refine ⟨_, rfl, m, .int d.done, rfl, (by rw [← MM.done]; exact DGet.k (k := .inr "done") e0), _, rfl, d.done, z, rfl, rfl, _, rfl, m, _, rfl, DPut.k (k := .inr "most") e0 (Nat.lt_of_le_of_lt MM.len (by decide)), ?_⟩
        have M20 := L19.md.num (d' := { d with allowed := some z }) (MM.put_most (i := d.done + z)) rfl rfl rfl rfl ⟨L19.md.ok.dn, (fun a ha => by cases ha; exact hz0), L19.md.ok.nn⟩
        exact ⟨g, g2, { d with allowed := some z }, _, _, _, _, _, _, _, _, rfl, L19.onMod M20 Fr.ins, full_of hF rfl rfl, Nat.le_succ_of_le hb1, Nat.le_succ_of_le hb2, Nat.le_trans hlg (by omega)⟩
      rw [if_neg (show ¬ decide (V.int kind = V.int 5) = true from fun z => k55 (V.int.inj (of_decide_eq_true z)))]
      refine ⟨_, rfl, rfl, _, rfl, ?_⟩
      walk_at "nrm"
      by_cases k6 : kind = 6
      · rw [if_pos (show decide (V.int kind = V.int 6) = true from decide_eq_true (congrArg V.int k6))]
        refine ⟨_, rfl, dev, g.dx, devF g d, rfl, L14.dv.at_, lk_no (by decide +kernel), dev, g, d, none, rfl, L14.dv, fun H19 D19 f19 => ?_⟩
        have L19 := L14.onDev D19 (Fr_of f19)
        obtain ⟨ks, e0, MM⟩ := L19.md.at_
        refine ⟨1, rfl, _, rfl, m, _, rfl, DPut.k (k := .inr "most") e0 (Nat.lt_of_le_of_lt MM.len (by decide)), ?_⟩
        have M20 := L19.md.num (d' := { d with allowed := none }) (MM.put_most (i := -1)) rfl rfl rfl rfl ⟨L19.md.ok.dn, (fun a ha => by cases ha), L19.md.ok.nn⟩
        exact ⟨g, g2, { d with allowed := none }, _, _, _, _, _, _, _, _, rfl, L19.onMod M20 Fr.ins, full_of hF rfl rfl, Nat.le_succ_of_le hb1, Nat.le_succ_of_le hb2, Nat.le_trans hlg (by omega)⟩
      rw [if_neg (show ¬ decide (V.int kind = V.int 6) = true from fun z => k6 (V.int.inj (of_decide_eq_true z)))]
      -- a crash: the fates
      refine q_setg ?_
      refine ⟨_, rfl, _, rfl, st, sc, 12, H, ns, rfl, by decide, by decide, L14.dr, fun r H15 r0 r12 hB15 D15 => ?_⟩
      have L15 := L14.draw hB15 D15
      refine ⟨r, rfl, by omega, by omega, fun l nl => ?_⟩
      have a1 := L15.dv.not_own nl
      have a2 := L15.md.not_own nl
      have a3 := L15.dr.same.free nl
      have a4 := dr_ne L15.dr nl
      refine lc_range (lo := 0) (n := r.toNat) (fun i H2 => ∃ fs : List Int, fs.length = i ∧ H2 l = some (.lst (fs.map V.int)) ∧ Law3 K T.C_Device H H2 st sc ns dev m g g2 d d) ⟨[], rfl, upd_same, L15.same (same_upd nl)⟩ ?_ ?_
      · rintro i2 H16 hi2 ⟨fs, hfl, el, L16⟩
        refine ⟨rfl, g_yes ?_⟩
        refine ⟨_, rfl, _, rfl, st, sc, 3, H, ns, rfl, by decide, by decide, L16.dr, fun z H17 z0 z3 hB17 D17 => ?_⟩
        have L17 := L16.draw hB17 D17
        exact ⟨_, by rw [hB17 l a4]; exact el, by rw [List.length_map, hfl]; exact small1000 (by omega), fs ++ [z], by rw [List.length_append, hfl]; rfl, by rw [upd_same, List.map_append]; rfl, L17.upd a1 a2 a3 a4⟩
      rintro H16 ⟨fs, hfl, el, L16⟩
      walk_at "nrm"
      -- how many log steps
      refine q_setg ?_
      refine ⟨_, rfl, _, rfl, st, sc, 9, H, ns, rfl, by decide, by decide, L16.dr, fun y0 H17 y00 y01 hB17 D17 => ?_⟩
      have L17 := L16.draw hB17 D17
      refine ⟨_, rfl, _, rfl, st, sc, 900, H, ns, rfl, by decide, by decide, L17.dr, fun y1 H18 y10 y11 hB18 D18 => ?_⟩
      have L18 := L17.draw hB18 D18
      refine ⟨by show 2 ≤ sizeLine; decide, fun l19 n19 => ?_⟩
      have L19 := L18.same (same_upd (o := .lst [V.int y0, V.int y1]) n19)
      refine ⟨_, rfl, _, rfl, st, sc, 2, H, ns, rfl, by decide, by decide, L19.dr, fun j H20 j0 j1 hB20 D20 => ?_⟩
      have L20 := L19.draw hB20 D20
      obtain ⟨k, hk⟩ : ∃ k : Nat, atI [V.int y0, V.int y1] j = some (.int (k : Int)) := by
        have c : j = 0 ∨ j = 1 := by omega
        rcases c with rfl | rfl
        · exact ⟨y0.toNat, by rw [Int.toNat_of_nonneg y00]; rfl⟩
        · exact ⟨y1.toNat, by rw [Int.toNat_of_nonneg y10]; rfl⟩
      refine ⟨l19, _, j, _, rfl, rfl, SqL.of (by rw [hB20 _ (dr_ne L18.dr n19)]; exact upd_same), hk, ?_⟩
      walk_at "nrm"
      have el20 : H20 l = some (.lst (fs.map V.int)) := by
        rw [hB20 l a4]
        refine same_upd n19 _ _ ?_
        rw [hB18 l a4, hB17 l a4]
        exact el
      -- the device's crash
      refine ⟨_, rfl, dev, g.dx, devF g d, rfl, L20.dv.at_, lk_no (by decide +kernel), _, rfl, l, _, rfl, .inl (SqL.of el20), fun l2 nl2 => ?_⟩
      have s21 := same_upd (o := .lst (fs.map V.int)) nl2
      have L21 := L20.same s21
      refine ⟨_, rfl, dev, g, d, l2, fs, k, rfl, L21.dv, upd_same, L20.dv.not_own nl2, by omega, by unfold lg at hlg; omega, fun g' H22 D22 f22 b22 => ?_⟩
      have L22 := L21.onDev D22 f22
      have el22 := f22.keep _ _ a1 (s21 _ _ el20)
      -- the model's
      refine ⟨_, rfl, _, rfl, _, rfl, m, g2, d, l, fs, k, rfl, L22.md, el22, by omega, a2, by omega, by unfold lg at hlg; omega, fun g2' H23 M23 f23 b23 => ?_⟩
      have hlg2 := lg_crash (d := d) (fs := fs) (k := k)
      exact ⟨g', g2', _, _, _, _, _, _, _, _, _, rfl, L22.onMod M23 f23, full_crash hF, by omega, by omega, by omega⟩
    rintro σ' H20 ⟨g, g2, d, c4, c5, c6, c7, c8, c9, c10, c11, rfl, L20, hF20, hb20, hb21, hlg20⟩
    refine ⟨_, rfl, _, rfl, dev, g, m, g2, d, rfl, L20.dv, L20.md, hF20, by omega, fun H21 s21 => ⟨_, rfl, ?_⟩⟩
    walk_at "nrm"
    rw [if_neg (by decide)]
    exact ⟨g, g2, d, c4, c5, c6, c7, c8, c9, c10, c11, rfl, L20.same s21, hF20, hb20, hb21, hlg20⟩
  · rintro σ' H' _
    exact q _
end
end K03


namespace K03
open PySem L2 Nv
theorem all_mk {K : PySem.W.Frag} {h : Heap} {mg : Str → Option Value} (X : K.In h) (G : h.Ns mainGlobals mg)
    {f0 : Addr} {od0 an0 : Option Addr} {sl0 : Array (Option Value)} {oc0 kV0 dc0 pm0 cd0 ct0 : Value} {f1 : Addr} {od1 an1 : Option Addr} {sl1 : Array (Option Value)} {oc1 kV1 dc1 pm1 cd1 ct1 : Value} {f2 : Addr} {od2 an2 : Option Addr} {sl2 : Array (Option Value)} {oc2 kV2 dc2 pm2 cd2 ct2 : Value} {f3 : Addr} {od3 an3 : Option Addr} {sl3 : Array (Option Value)} {oc3 kV3 dc3 pm3 cd3 ct3 : Value} {f4 : Addr} {od4 an4 : Option Addr} {sl4 : Array (Option Value)} {oc4 kV4 dc4 pm4 cd4 ct4 : Value} {f5 : Addr} {od5 an5 : Option Addr} {sl5 : Array (Option Value)} {oc5 kV5 dc5 pm5 cd5 ct5 : Value} {f6 : Addr} {od6 an6 : Option Addr} {sl6 : Array (Option Value)} {oc6 kV6 dc6 pm6 cd6 ct6 : Value} {f7 : Addr} {od7 an7 : Option Addr} {sl7 : Array (Option Value)} {oc7 kV7 dc7 pm7 cd7 ct7 : Value} {f8 : Addr} {od8 an8 : Option Addr} {sl8 : Array (Option Value)} {oc8 kV8 dc8 pm8 cd8 ct8 : Value} {f9 : Addr} {od9 an9 : Option Addr} {sl9 : Array (Option Value)} {oc9 kV9 dc9 pm9 cd9 ct9 : Value} {f10 : Addr} {od10 an10 : Option Addr} {sl10 : Array (Option Value)} {oc10 kV10 dc10 pm10 cd10 ct10 : Value} {f11 : Addr} {od11 an11 : Option Addr} {sl11 : Array (Option Value)} {oc11 kV11 dc11 pm11 cd11 ct11 : Value} {f12 : Addr} {od12 an12 : Option Addr} {sl12 : Array (Option Value)} {oc12 kV12 dc12 pm12 cd12 ct12 : Value} {f13 : Addr} {od13 an13 : Option Addr} {sl13 : Array (Option Value)} {oc13 kV13 dc13 pm13 cd13 ct13 : Value} {f14 : Addr} {od14 an14 : Option Addr} {sl14 : Array (Option Value)} {oc14 kV14 dc14 pm14 cd14 ct14 : Value} {f15 : Addr} {od15 an15 : Option Addr} {sl15 : Array (Option Value)} {oc15 kV15 dc15 pm15 cd15 ct15 : Value} {f16 : Addr} {od16 an16 : Option Addr} {sl16 : Array (Option Value)} {oc16 kV16 dc16 pm16 cd16 ct16 : Value} {f17 : Addr} {od17 an17 : Option Addr} {sl17 : Array (Option Value)} {oc17 kV17 dc17 pm17 cd17 ct17 : Value} {f18 : Addr} {od18 an18 : Option Addr} {sl18 : Array (Option Value)} {oc18 kV18 dc18 pm18 cd18 ct18 : Value} {f19 : Addr} {od19 an19 : Option Addr} {sl19 : Array (Option Value)} {oc19 kV19 dc19 pm19 cd19 ct19 : Value} {f20 : Addr} {od20 an20 : Option Addr} {sl20 : Array (Option Value)} {oc20 kV20 dc20 pm20 cd20 ct20 : Value} {f21 : Addr} {od21 an21 : Option Addr} {sl21 : Array (Option Value)} {oc21 kV21 dc21 pm21 cd21 ct21 : Value} {f22 : Addr} {od22 an22 : Option Addr} {sl22 : Array (Option Value)} {oc22 kV22 dc22 pm22 cd22 ct22 : Value} {f23 : Addr} {od23 an23 : Option Addr} {sl23 : Array (Option Value)} {oc23 kV23 dc23 pm23 cd23 ct23 : Value} {f24 : Addr} {od24 an24 : Option Addr} {sl24 : Array (Option Value)} {oc24 kV24 dc24 pm24 cd24 ct24 : Value} {f25 : Addr} {od25 an25 : Option Addr} {sl25 : Array (Option Value)} {oc25 kV25 dc25 pm25 cd25 ct25 : Value} {f26 : Addr} {od26 an26 : Option Addr} {sl26 : Array (Option Value)} {oc26 kV26 dc26 pm26 cd26 ct26 : Value} {C_VaultError : Addr} {C_PowerCut : Addr} {C_Device : Addr} {tPAGE_SIZE : Tok} {tHALF_PAGE : Tok} {tTAKES_EFFECT : Tok} {tFIRST_HALF_TAKES_EFFECT : Tok}
    (aC_Device : PySem.W.nsIn K mainGlobals "Device" = some (some (.ref C_Device)))
    (aC_PowerCut : PySem.W.nsIn K mainGlobals "PowerCut" = some (some (.ref C_PowerCut)))
    (aC_VaultError : PySem.W.nsIn K mainGlobals "VaultError" = some (some (.ref C_VaultError)))
    (a0 : PySem.W.nsIn K mainGlobals "log_after" = some (some (.ref f0)))
    (l0 : K.lookup f0 = some ⟨oc0, od0, .func (PySem.W.fnOf "log_after" "log_after" (defArgs s_log_after) (defBody s_log_after) (defScope s_log_after) .none kV0 dc0 pm0 an0 cd0 ct0), sl0⟩)
    (c0 : PySem.W.codeIn K cd0 "log_after" = true)
    (k0 : PySem.W.keepIn K (.ref f0) = true)
    (a1 : PySem.W.findIn K (.ref C_Device) "__init__" = some (some (.ref f1)))
    (i1 : PySem.W.isFn K (.ref f1) = true)
    (l1 : K.lookup f1 = some ⟨oc1, od1, .func (PySem.W.fnOf "__init__" "Device.__init__" (defArgs s_Device_init) (defBody s_Device_init) (defScope s_Device_init) .none kV1 dc1 pm1 an1 cd1 ct1), sl1⟩)
    (c1 : PySem.W.codeIn K cd1 "Device.__init__" = true)
    (k1 : PySem.W.keepIn K (.ref f1) = true)
    (a2 : PySem.W.findIn K (.ref C_Device) "write_page" = some (some (.ref f2)))
    (i2 : PySem.W.isFn K (.ref f2) = true)
    (l2 : K.lookup f2 = some ⟨oc2, od2, .func (PySem.W.fnOf "write_page" "Device.write_page" (defArgs s_Device_write_page) (defBody s_Device_write_page) (defScope s_Device_write_page) .none kV2 dc2 pm2 an2 cd2 ct2), sl2⟩)
    (c2 : PySem.W.codeIn K cd2 "Device.write_page" = true)
    (k2 : PySem.W.keepIn K (.ref f2) = true)
    (a3 : PySem.W.findIn K (.ref C_Device) "sync_pages" = some (some (.ref f3)))
    (i3 : PySem.W.isFn K (.ref f3) = true)
    (l3 : K.lookup f3 = some ⟨oc3, od3, .func (PySem.W.fnOf "sync_pages" "Device.sync_pages" (defArgs s_Device_sync_pages) (defBody s_Device_sync_pages) (defScope s_Device_sync_pages) .none kV3 dc3 pm3 an3 cd3 ct3), sl3⟩)
    (c3 : PySem.W.codeIn K cd3 "Device.sync_pages" = true)
    (k3 : PySem.W.keepIn K (.ref f3) = true)
    (a4 : PySem.W.findIn K (.ref C_Device) "append" = some (some (.ref f4)))
    (i4 : PySem.W.isFn K (.ref f4) = true)
    (l4 : K.lookup f4 = some ⟨oc4, od4, .func (PySem.W.fnOf "append" "Device.append" (defArgs s_Device_append) (defBody s_Device_append) (defScope s_Device_append) .none kV4 dc4 pm4 an4 cd4 ct4), sl4⟩)
    (c4 : PySem.W.codeIn K cd4 "Device.append" = true)
    (k4 : PySem.W.keepIn K (.ref f4) = true)
    (a5 : PySem.W.findIn K (.ref C_Device) "clear" = some (some (.ref f5)))
    (i5 : PySem.W.isFn K (.ref f5) = true)
    (l5 : K.lookup f5 = some ⟨oc5, od5, .func (PySem.W.fnOf "clear" "Device.clear" (defArgs s_Device_clear) (defBody s_Device_clear) (defScope s_Device_clear) .none kV5 dc5 pm5 an5 cd5 ct5), sl5⟩)
    (c5 : PySem.W.codeIn K cd5 "Device.clear" = true)
    (k5 : PySem.W.keepIn K (.ref f5) = true)
    (a6 : PySem.W.findIn K (.ref C_Device) "sync_log" = some (some (.ref f6)))
    (i6 : PySem.W.isFn K (.ref f6) = true)
    (l6 : K.lookup f6 = some ⟨oc6, od6, .func (PySem.W.fnOf "sync_log" "Device.sync_log" (defArgs s_Device_sync_log) (defBody s_Device_sync_log) (defScope s_Device_sync_log) .none kV6 dc6 pm6 an6 cd6 ct6), sl6⟩)
    (c6 : PySem.W.codeIn K cd6 "Device.sync_log" = true)
    (k6 : PySem.W.keepIn K (.ref f6) = true)
    (a7 : PySem.W.findIn K (.ref C_Device) "page" = some (some (.ref f7)))
    (i7 : PySem.W.isFn K (.ref f7) = true)
    (l7 : K.lookup f7 = some ⟨oc7, od7, .func (PySem.W.fnOf "page" "Device.page" (defArgs s_Device_page) (defBody s_Device_page) (defScope s_Device_page) .none kV7 dc7 pm7 an7 cd7 ct7), sl7⟩)
    (c7 : PySem.W.codeIn K cd7 "Device.page" = true)
    (k7 : PySem.W.keepIn K (.ref f7) = true)
    (a8 : PySem.W.findIn K (.ref C_Device) "log" = some (some (.ref f8)))
    (i8 : PySem.W.isFn K (.ref f8) = true)
    (l8 : K.lookup f8 = some ⟨oc8, od8, .func (PySem.W.fnOf "log" "Device.log" (defArgs s_Device_log) (defBody s_Device_log) (defScope s_Device_log) .none kV8 dc8 pm8 an8 cd8 ct8), sl8⟩)
    (c8 : PySem.W.codeIn K cd8 "Device.log" = true)
    (k8 : PySem.W.keepIn K (.ref f8) = true)
    (a9 : PySem.W.findIn K (.ref C_Device) "limit" = some (some (.ref f9)))
    (i9 : PySem.W.isFn K (.ref f9) = true)
    (l9 : K.lookup f9 = some ⟨oc9, od9, .func (PySem.W.fnOf "limit" "Device.limit" (defArgs s_Device_limit) (defBody s_Device_limit) (defScope s_Device_limit) .none kV9 dc9 pm9 an9 cd9 ct9), sl9⟩)
    (c9 : PySem.W.codeIn K cd9 "Device.limit" = true)
    (k9 : PySem.W.keepIn K (.ref f9) = true)
    (a10 : PySem.W.findIn K (.ref C_Device) "crash" = some (some (.ref f10)))
    (i10 : PySem.W.isFn K (.ref f10) = true)
    (l10 : K.lookup f10 = some ⟨oc10, od10, .func (PySem.W.fnOf "crash" "Device.crash" (defArgs s_Device_crash) (defBody s_Device_crash) (defScope s_Device_crash) .none kV10 dc10 pm10 an10 cd10 ct10), sl10⟩)
    (c10 : PySem.W.codeIn K cd10 "Device.crash" = true)
    (k10 : PySem.W.keepIn K (.ref f10) = true)
    (a11 : PySem.W.findIn K (.ref C_Device) "steps" = some (some (.ref f11)))
    (i11 : PySem.W.isFn K (.ref f11) = true)
    (l11 : K.lookup f11 = some ⟨oc11, od11, .func (PySem.W.fnOf "steps" "Device.steps" (defArgs s_Device_steps) (defBody s_Device_steps) (defScope s_Device_steps) .none kV11 dc11 pm11 an11 cd11 ct11), sl11⟩)
    (c11 : PySem.W.codeIn K cd11 "Device.steps" = true)
    (k11 : PySem.W.keepIn K (.ref f11) = true)
    (a12 : PySem.W.findIn K (.ref C_Device) "pending" = some (some (.ref f12)))
    (i12 : PySem.W.isFn K (.ref f12) = true)
    (l12 : K.lookup f12 = some ⟨oc12, od12, .func (PySem.W.fnOf "pending" "Device.pending" (defArgs s_Device_pending) (defBody s_Device_pending) (defScope s_Device_pending) .none kV12 dc12 pm12 an12 cd12 ct12), sl12⟩)
    (c12 : PySem.W.codeIn K cd12 "Device.pending" = true)
    (k12 : PySem.W.keepIn K (.ref f12) = true)
    (a13 : PySem.W.findIn K (.ref C_Device) "_take_step" = some (some (.ref f13)))
    (i13 : PySem.W.isFn K (.ref f13) = true)
    (l13 : K.lookup f13 = some ⟨oc13, od13, .func (PySem.W.fnOf "_take_step" "Device._take_step" (defArgs s_Device_take_step) (defBody s_Device_take_step) (defScope s_Device_take_step) .none kV13 dc13 pm13 an13 cd13 ct13), sl13⟩)
    (c13 : PySem.W.codeIn K cd13 "Device._take_step" = true)
    (k13 : PySem.W.keepIn K (.ref f13) = true)
    (a14 : PySem.W.findIn K (.ref C_Device) "_durable_page" = some (some (.ref f14)))
    (i14 : PySem.W.isFn K (.ref f14) = true)
    (l14 : K.lookup f14 = some ⟨oc14, od14, .func (PySem.W.fnOf "_durable_page" "Device._durable_page" (defArgs s_Device_durable_page) (defBody s_Device_durable_page) (defScope s_Device_durable_page) .none kV14 dc14 pm14 an14 cd14 ct14), sl14⟩)
    (c14 : PySem.W.codeIn K cd14 "Device._durable_page" = true)
    (k14 : PySem.W.keepIn K (.ref f14) = true)
    (a15 : PySem.W.findIn K (.ref C_Device) "_end_page_write" = some (some (.ref f15)))
    (i15 : PySem.W.isFn K (.ref f15) = true)
    (l15 : K.lookup f15 = some ⟨oc15, od15, .func (PySem.W.fnOf "_end_page_write" "Device._end_page_write" (defArgs s_Device_end_page_write) (defBody s_Device_end_page_write) (defScope s_Device_end_page_write) .none kV15 dc15 pm15 an15 cd15 ct15), sl15⟩)
    (c15 : PySem.W.codeIn K cd15 "Device._end_page_write" = true)
    (k15 : PySem.W.keepIn K (.ref f15) = true)
    (a16 : PySem.W.findIn K (.ref C_Device) "_end_log_steps" = some (some (.ref f16)))
    (i16 : PySem.W.isFn K (.ref f16) = true)
    (l16 : K.lookup f16 = some ⟨oc16, od16, .func (PySem.W.fnOf "_end_log_steps" "Device._end_log_steps" (defArgs s_Device_end_log_steps) (defBody s_Device_end_log_steps) (defScope s_Device_end_log_steps) .none kV16 dc16 pm16 an16 cd16 ct16), sl16⟩)
    (c16 : PySem.W.codeIn K cd16 "Device._end_log_steps" = true)
    (k16 : PySem.W.keepIn K (.ref f16) = true)
    (a17 : PySem.W.nsIn K mainGlobals "_law_draw" = some (some (.ref f17)))
    (l17 : K.lookup f17 = some ⟨oc17, od17, .func (PySem.W.fnOf "_law_draw" "_law_draw" (defArgs s_law_draw) (defBody s_law_draw) (defScope s_law_draw) .none kV17 dc17 pm17 an17 cd17 ct17), sl17⟩)
    (c17 : PySem.W.codeIn K cd17 "_law_draw" = true)
    (k17 : PySem.W.keepIn K (.ref f17) = true)
    (a18 : PySem.W.nsIn K mainGlobals "_law_new" = some (some (.ref f18)))
    (l18 : K.lookup f18 = some ⟨oc18, od18, .func (PySem.W.fnOf "_law_new" "_law_new" (defArgs s_law_new) (defBody s_law_new) (defScope s_law_new) .none kV18 dc18 pm18 an18 cd18 ct18), sl18⟩)
    (c18 : PySem.W.codeIn K cd18 "_law_new" = true)
    (k18 : PySem.W.keepIn K (.ref f18) = true)
    (a19 : PySem.W.nsIn K mainGlobals "_law_may" = some (some (.ref f19)))
    (l19 : K.lookup f19 = some ⟨oc19, od19, .func (PySem.W.fnOf "_law_may" "_law_may" (defArgs s_law_may) (defBody s_law_may) (defScope s_law_may) .none kV19 dc19 pm19 an19 cd19 ct19), sl19⟩)
    (c19 : PySem.W.codeIn K cd19 "_law_may" = true)
    (k19 : PySem.W.keepIn K (.ref f19) = true)
    (a20 : PySem.W.nsIn K mainGlobals "_law_log" = some (some (.ref f20)))
    (l20 : K.lookup f20 = some ⟨oc20, od20, .func (PySem.W.fnOf "_law_log" "_law_log" (defArgs s_law_log) (defBody s_law_log) (defScope s_law_log) .none kV20 dc20 pm20 an20 cd20 ct20), sl20⟩)
    (c20 : PySem.W.codeIn K cd20 "_law_log" = true)
    (k20 : PySem.W.keepIn K (.ref f20) = true)
    (a21 : PySem.W.nsIn K mainGlobals "_law_page" = some (some (.ref f21)))
    (l21 : K.lookup f21 = some ⟨oc21, od21, .func (PySem.W.fnOf "_law_page" "_law_page" (defArgs s_law_page) (defBody s_law_page) (defScope s_law_page) .none kV21 dc21 pm21 an21 cd21 ct21), sl21⟩)
    (c21 : PySem.W.codeIn K cd21 "_law_page" = true)
    (k21 : PySem.W.keepIn K (.ref f21) = true)
    (a22 : PySem.W.nsIn K mainGlobals "_law_crash" = some (some (.ref f22)))
    (l22 : K.lookup f22 = some ⟨oc22, od22, .func (PySem.W.fnOf "_law_crash" "_law_crash" (defArgs s_law_crash) (defBody s_law_crash) (defScope s_law_crash) .none kV22 dc22 pm22 an22 cd22 ct22), sl22⟩)
    (c22 : PySem.W.codeIn K cd22 "_law_crash" = true)
    (k22 : PySem.W.keepIn K (.ref f22) = true)
    (a23 : PySem.W.nsIn K mainGlobals "_law_expected" = some (some (.ref f23)))
    (l23 : K.lookup f23 = some ⟨oc23, od23, .func (PySem.W.fnOf "_law_expected" "_law_expected" (defArgs s_law_expected) (defBody s_law_expected) (defScope s_law_expected) .none kV23 dc23 pm23 an23 cd23 ct23), sl23⟩)
    (c23 : PySem.W.codeIn K cd23 "_law_expected" = true)
    (k23 : PySem.W.keepIn K (.ref f23) = true)
    (a24 : PySem.W.nsIn K mainGlobals "_law_done" = some (some (.ref f24)))
    (l24 : K.lookup f24 = some ⟨oc24, od24, .func (PySem.W.fnOf "_law_done" "_law_done" (defArgs s_law_done) (defBody s_law_done) (defScope s_law_done) .none kV24 dc24 pm24 an24 cd24 ct24), sl24⟩)
    (c24 : PySem.W.codeIn K cd24 "_law_done" = true)
    (k24 : PySem.W.keepIn K (.ref f24) = true)
    (a25 : PySem.W.nsIn K mainGlobals "_law_same" = some (some (.ref f25)))
    (l25 : K.lookup f25 = some ⟨oc25, od25, .func (PySem.W.fnOf "_law_same" "_law_same" (defArgs s_law_same) (defBody s_law_same) (defScope s_law_same) .none kV25 dc25 pm25 an25 cd25 ct25), sl25⟩)
    (c25 : PySem.W.codeIn K cd25 "_law_same" = true)
    (k25 : PySem.W.keepIn K (.ref f25) = true)
    (a26 : PySem.W.nsIn K mainGlobals "law" = some (some (.ref f26)))
    (l26 : K.lookup f26 = some ⟨oc26, od26, .func (PySem.W.fnOf "law" "law" (defArgs s_law) (defBody s_law) (defScope s_law) .none kV26 dc26 pm26 an26 cd26 ct26), sl26⟩)
    (c26 : PySem.W.codeIn K cd26 "law" = true)
    (k26 : PySem.W.keepIn K (.ref f26) = true)
    (x_VaultError : PySem.W.excIn K C_VaultError [.type "ValueError", .type "Exception", .type "BaseException", .type "object"] "ValueError.__new__" = true)
    (k_VaultError : PySem.W.keepIn K (.ref C_VaultError) = true)
    (xb_VaultError : PySem.W.subIn K (.ref C_VaultError) (.type "BaseException") = some true)
    (xt_VaultError : PySem.W.typeIn K (.ref C_VaultError) = some (.type "type"))
    (xi_VaultError : PySem.W.isClsIn K C_VaultError = true)
    (xs_VaultError : PySem.W.subIn K (.ref C_VaultError) (.ref C_VaultError) = some true)
    (x_PowerCut : PySem.W.excIn K C_PowerCut [.type "ValueError", .type "Exception", .type "BaseException", .type "object"] "ValueError.__new__" = true)
    (k_PowerCut : PySem.W.keepIn K (.ref C_PowerCut) = true)
    (xb_PowerCut : PySem.W.subIn K (.ref C_PowerCut) (.type "BaseException") = some true)
    (xt_PowerCut : PySem.W.typeIn K (.ref C_PowerCut) = some (.type "type"))
    (xi_PowerCut : PySem.W.isClsIn K C_PowerCut = true)
    (xga_PowerCut : PySem.W.findIn K (.ref C_PowerCut) "__getattribute__" = some (some (.builtin "BaseException.__getattribute__")))
    (xgt_PowerCut : PySem.W.findIn K (.ref C_PowerCut) "__getattr__" = some none)
    (xhd_PowerCut : PySem.W.hasDictIn K C_PowerCut = true)
    (xcl_PowerCut : PySem.W.findIn K (.ref C_PowerCut) "__class__" = some (some (.builtin "object.__class__")))
    (xn_PowerCut : PySem.W.specialIn K (.builtin "object.__class__") "__get__" = some (some (.builtin "getset_descriptor.__get__")))
    (xta_PowerCut : PySem.W.takesIn K (.builtin "object.__class__") = some true)
    (xm_PowerCut : PySem.W.mroIn K C_PowerCut (.type "object") = some true)
    (xv_PowerCut : PySem.W.subIn K (.ref C_PowerCut) (.type "ValueError") = some true)
    (xs_PowerCut : PySem.W.subIn K (.ref C_PowerCut) (.ref C_PowerCut) = some true)
    (xs_PowerCut_VaultError : PySem.W.subIn K (.ref C_PowerCut) (.ref C_VaultError) = some true)
    (pg_Device : PySem.W.plainGet K C_Device Str.empty = true)
    (hd_Device : PySem.W.hasDictIn K C_Device = true)
    (po_Device : PySem.W.plainOver K C_Device = true)
    (sa_Device : PySem.W.findIn K (.ref C_Device) "__setattr__" = some (some (.builtin "object.__setattr__")))
    (mk_Device : PySem.W.makesIn K C_Device = true)
    (kc_Device : PySem.W.keepIn K (.ref C_Device) = true)
    (n_Device__durable_pages : PySem.W.findIn K (.ref C_Device) "_durable_pages" = some none)
    (n_Device__page_writes : PySem.W.findIn K (.ref C_Device) "_page_writes" = some none)
    (n_Device__durable_log : PySem.W.findIn K (.ref C_Device) "_durable_log" = some none)
    (n_Device__log_steps : PySem.W.findIn K (.ref C_Device) "_log_steps" = some none)
    (n_Device__steps_performed : PySem.W.findIn K (.ref C_Device) "_steps_performed" = some none)
    (n_Device__steps_allowed : PySem.W.findIn K (.ref C_Device) "_steps_allowed" = some none)
    (z_list : PySem.W.nsIn K mainGlobals "list" = some none)
    (z_range : PySem.W.nsIn K mainGlobals "range" = some none)
    (z_reversed : PySem.W.nsIn K mainGlobals "reversed" = some none)
    (z_zip : PySem.W.nsIn K mainGlobals "zip" = some none)
    (z_int : PySem.W.nsIn K mainGlobals "int" = some none)
    (z_min : PySem.W.nsIn K mainGlobals "min" = some none)
    (z_len : PySem.W.nsIn K mainGlobals "len" = some none)
    (z_max : PySem.W.nsIn K mainGlobals "max" = some none)
    (z_isinstance : PySem.W.nsIn K mainGlobals "isinstance" = some none)
    (aPAGE_SIZE : PySem.W.nsIn K mainGlobals "PAGE_SIZE" = some (some (.int 256 tPAGE_SIZE)))
    (aHALF_PAGE : PySem.W.nsIn K mainGlobals "HALF_PAGE" = some (some (.int 128 tHALF_PAGE)))
    (aTAKES_EFFECT : PySem.W.nsIn K mainGlobals "TAKES_EFFECT" = some (some (.int 1 tTAKES_EFFECT)))
    (aFIRST_HALF_TAKES_EFFECT : PySem.W.nsIn K mainGlobals "FIRST_HALF_TAKES_EFFECT" = some (some (.int 2 tFIRST_HALF_TAKES_EFFECT)))
    (zVE : PySem.W.nsIn K mainGlobals "ValueError" = some none)
    : ∃ T : Txt K mg, T.f_law = f26 ∧ T.fd_law = PySem.W.fnOf "law" "law" (defArgs s_law) (defBody s_law) (defScope s_law) .none kV26 dc26 pm26 an26 cd26 ct26 := by
  have F0 := fun_mk (st := s_log_after) l0 c0 k0
  have b0 := F0.binds (ps := ["log", "log_steps"]) fun _ _ _ _ _ _ us hl => match us, hl with | [_, _], _ => rfl
  have F1 := fun_mk (st := s_Device_init) l1 c1 k1
  have b1 := F1.binds (ps := ["self"]) fun _ _ _ _ _ _ us hl => match us, hl with | [_], _ => rfl
  have F2 := fun_mk (st := s_Device_write_page) l2 c2 k2
  have b2 := F2.binds (ps := ["self", "number", "data"]) fun _ _ _ _ _ _ us hl => match us, hl with | [_, _, _], _ => rfl
  have F3 := fun_mk (st := s_Device_sync_pages) l3 c3 k3
  have b3 := F3.binds (ps := ["self"]) fun _ _ _ _ _ _ us hl => match us, hl with | [_], _ => rfl
  have F4 := fun_mk (st := s_Device_append) l4 c4 k4
  have b4 := F4.binds (ps := ["self", "data"]) fun _ _ _ _ _ _ us hl => match us, hl with | [_, _], _ => rfl
  have F5 := fun_mk (st := s_Device_clear) l5 c5 k5
  have b5 := F5.binds (ps := ["self"]) fun _ _ _ _ _ _ us hl => match us, hl with | [_], _ => rfl
  have F6 := fun_mk (st := s_Device_sync_log) l6 c6 k6
  have b6 := F6.binds (ps := ["self"]) fun _ _ _ _ _ _ us hl => match us, hl with | [_], _ => rfl
  have F7 := fun_mk (st := s_Device_page) l7 c7 k7
  have b7 := F7.binds (ps := ["self", "number"]) fun _ _ _ _ _ _ us hl => match us, hl with | [_, _], _ => rfl
  have F8 := fun_mk (st := s_Device_log) l8 c8 k8
  have b8 := F8.binds (ps := ["self"]) fun _ _ _ _ _ _ us hl => match us, hl with | [_], _ => rfl
  have F9 := fun_mk (st := s_Device_limit) l9 c9 k9
  have b9 := F9.binds (ps := ["self", "steps"]) fun _ _ _ _ _ _ us hl => match us, hl with | [_, _], _ => rfl
  have F10 := fun_mk (st := s_Device_crash) l10 c10 k10
  have b10 := F10.binds (ps := ["self", "fates", "kept"]) fun _ _ _ _ _ _ us hl => match us, hl with | [_, _, _], _ => rfl
  have F11 := fun_mk (st := s_Device_steps) l11 c11 k11
  have b11 := F11.binds (ps := ["self"]) fun _ _ _ _ _ _ us hl => match us, hl with | [_], _ => rfl
  have F12 := fun_mk (st := s_Device_pending) l12 c12 k12
  have b12 := F12.binds (ps := ["self"]) fun _ _ _ _ _ _ us hl => match us, hl with | [_], _ => rfl
  have F13 := fun_mk (st := s_Device_take_step) l13 c13 k13
  have b13 := F13.binds (ps := ["self"]) fun _ _ _ _ _ _ us hl => match us, hl with | [_], _ => rfl
  have F14 := fun_mk (st := s_Device_durable_page) l14 c14 k14
  have b14 := F14.binds (ps := ["self", "number"]) fun _ _ _ _ _ _ us hl => match us, hl with | [_, _], _ => rfl
  have F15 := fun_mk (st := s_Device_end_page_write) l15 c15 k15
  have b15 := F15.binds (ps := ["self", "number", "data", "fate"]) fun _ _ _ _ _ _ us hl => match us, hl with | [_, _, _, _], _ => rfl
  have F16 := fun_mk (st := s_Device_end_log_steps) l16 c16 k16
  have b16 := F16.binds (ps := ["self", "log_steps"]) fun _ _ _ _ _ _ us hl => match us, hl with | [_, _], _ => rfl
  have F17 := fun_mk (st := s_law_draw) l17 c17 k17
  have b17 := F17.binds (ps := ["state", "script", "size"]) fun _ _ _ _ _ _ us hl => match us, hl with | [_, _, _], _ => rfl
  have F18 := fun_mk (st := s_law_new) l18 c18 k18
  have b18 := F18.binds (ps := []) fun _ _ _ _ _ _ us hl => match us, hl with | [], _ => rfl
  have F19 := fun_mk (st := s_law_may) l19 c19 k19
  have b19 := F19.binds (ps := ["model"]) fun _ _ _ _ _ _ us hl => match us, hl with | [_], _ => rfl
  have F20 := fun_mk (st := s_law_log) l20 c20 k20
  have b20 := F20.binds (ps := ["model"]) fun _ _ _ _ _ _ us hl => match us, hl with | [_], _ => rfl
  have F21 := fun_mk (st := s_law_page) l21 c21 k21
  have b21 := F21.binds (ps := ["model", "number"]) fun _ _ _ _ _ _ us hl => match us, hl with | [_, _], _ => rfl
  have F22 := fun_mk (st := s_law_crash) l22 c22 k22
  have b22 := F22.binds (ps := ["model", "fates", "kept"]) fun _ _ _ _ _ _ us hl => match us, hl with | [_, _, _], _ => rfl
  have F23 := fun_mk (st := s_law_expected) l23 c23 k23
  have b23 := F23.binds (ps := ["model", "kind", "number", "data"]) fun _ _ _ _ _ _ us hl => match us, hl with | [_, _, _, _], _ => rfl
  have F24 := fun_mk (st := s_law_done) l24 c24 k24
  have b24 := F24.binds (ps := ["device", "kind", "number", "data"]) fun _ _ _ _ _ _ us hl => match us, hl with | [_, _, _, _], _ => rfl
  have F25 := fun_mk (st := s_law_same) l25 c25 k25
  have b25 := F25.binds (ps := ["device", "model"]) fun _ _ _ _ _ _ us hl => match us, hl with | [_, _], _ => rfl
  have F26 := fun_mk (st := s_law) l26 c26 k26
  have b26 := F26.binds (ps := ["script"]) fun _ _ _ _ _ _ us hl => match us, hl with | [_], _ => rfl
  exact ⟨{
    f_log_after := f0
    fd_log_after := _
    F_log_after := F0
    b_log_after := b0
    g_log_after := PySem.W.mg_of X G a0
    f_Device_init := f1
    fd_Device_init := _
    F_Device_init := F1
    b_Device_init := b1
    f_Device_write_page := f2
    fd_Device_write_page := _
    F_Device_write_page := F2
    b_Device_write_page := b2
    f_Device_sync_pages := f3
    fd_Device_sync_pages := _
    F_Device_sync_pages := F3
    b_Device_sync_pages := b3
    f_Device_append := f4
    fd_Device_append := _
    F_Device_append := F4
    b_Device_append := b4
    f_Device_clear := f5
    fd_Device_clear := _
    F_Device_clear := F5
    b_Device_clear := b5
    f_Device_sync_log := f6
    fd_Device_sync_log := _
    F_Device_sync_log := F6
    b_Device_sync_log := b6
    f_Device_page := f7
    fd_Device_page := _
    F_Device_page := F7
    b_Device_page := b7
    f_Device_log := f8
    fd_Device_log := _
    F_Device_log := F8
    b_Device_log := b8
    f_Device_limit := f9
    fd_Device_limit := _
    F_Device_limit := F9
    b_Device_limit := b9
    f_Device_crash := f10
    fd_Device_crash := _
    F_Device_crash := F10
    b_Device_crash := b10
    f_Device_steps := f11
    fd_Device_steps := _
    F_Device_steps := F11
    b_Device_steps := b11
    f_Device_pending := f12
    fd_Device_pending := _
    F_Device_pending := F12
    b_Device_pending := b12
    f_Device_take_step := f13
    fd_Device_take_step := _
    F_Device_take_step := F13
    b_Device_take_step := b13
    f_Device_durable_page := f14
    fd_Device_durable_page := _
    F_Device_durable_page := F14
    b_Device_durable_page := b14
    f_Device_end_page_write := f15
    fd_Device_end_page_write := _
    F_Device_end_page_write := F15
    b_Device_end_page_write := b15
    f_Device_end_log_steps := f16
    fd_Device_end_log_steps := _
    F_Device_end_log_steps := F16
    b_Device_end_log_steps := b16
    f_law_draw := f17
    fd_law_draw := _
    F_law_draw := F17
    b_law_draw := b17
    g_law_draw := PySem.W.mg_of X G a17
    f_law_new := f18
    fd_law_new := _
    F_law_new := F18
    b_law_new := b18
    g_law_new := PySem.W.mg_of X G a18
    f_law_may := f19
    fd_law_may := _
    F_law_may := F19
    b_law_may := b19
    g_law_may := PySem.W.mg_of X G a19
    f_law_log := f20
    fd_law_log := _
    F_law_log := F20
    b_law_log := b20
    g_law_log := PySem.W.mg_of X G a20
    f_law_page := f21
    fd_law_page := _
    F_law_page := F21
    b_law_page := b21
    g_law_page := PySem.W.mg_of X G a21
    f_law_crash := f22
    fd_law_crash := _
    F_law_crash := F22
    b_law_crash := b22
    g_law_crash := PySem.W.mg_of X G a22
    f_law_expected := f23
    fd_law_expected := _
    F_law_expected := F23
    b_law_expected := b23
    g_law_expected := PySem.W.mg_of X G a23
    f_law_done := f24
    fd_law_done := _
    F_law_done := F24
    b_law_done := b24
    g_law_done := PySem.W.mg_of X G a24
    f_law_same := f25
    fd_law_same := _
    F_law_same := F25
    b_law_same := b25
    g_law_same := PySem.W.mg_of X G a25
    f_law := f26
    fd_law := _
    F_law := F26
    b_law := b26
    g_law := PySem.W.mg_of X G a26
    C_VaultError := C_VaultError
    g_VaultError := PySem.W.mg_of X G aC_VaultError
    x_VaultError := x_VaultError
    k_VaultError := k_VaultError
    xb_VaultError := xb_VaultError
    xt_VaultError := xt_VaultError
    xi_VaultError := xi_VaultError
    xs_VaultError := xs_VaultError
    C_PowerCut := C_PowerCut
    g_PowerCut := PySem.W.mg_of X G aC_PowerCut
    x_PowerCut := x_PowerCut
    k_PowerCut := k_PowerCut
    xb_PowerCut := xb_PowerCut
    xt_PowerCut := xt_PowerCut
    xi_PowerCut := xi_PowerCut
    xga_PowerCut := xga_PowerCut
    xgt_PowerCut := xgt_PowerCut
    xhd_PowerCut := xhd_PowerCut
    xcl_PowerCut := xcl_PowerCut
    xn_PowerCut := xn_PowerCut
    xta_PowerCut := xta_PowerCut
    xm_PowerCut := xm_PowerCut
    xv_PowerCut := xv_PowerCut
    xs_PowerCut := xs_PowerCut
    xs_PowerCut_VaultError := xs_PowerCut_VaultError
    C_Device := C_Device
    g_Device := PySem.W.mg_of X G aC_Device
    cl_Device := ⟨pg_Device, hd_Device, po_Device, sa_Device⟩
    mk_Device := ⟨mk_Device, a1, i1, kc_Device⟩
    m_Device_write_page := ⟨a2, i2, k2⟩
    m_Device_sync_pages := ⟨a3, i3, k3⟩
    m_Device_append := ⟨a4, i4, k4⟩
    m_Device_clear := ⟨a5, i5, k5⟩
    m_Device_sync_log := ⟨a6, i6, k6⟩
    m_Device_page := ⟨a7, i7, k7⟩
    m_Device_log := ⟨a8, i8, k8⟩
    m_Device_limit := ⟨a9, i9, k9⟩
    m_Device_crash := ⟨a10, i10, k10⟩
    m_Device_steps := ⟨a11, i11, k11⟩
    m_Device_pending := ⟨a12, i12, k12⟩
    m_Device_take_step := ⟨a13, i13, k13⟩
    m_Device_durable_page := ⟨a14, i14, k14⟩
    m_Device_end_page_write := ⟨a15, i15, k15⟩
    m_Device_end_log_steps := ⟨a16, i16, k16⟩
    n_Device__durable_pages := n_Device__durable_pages
    n_Device__page_writes := n_Device__page_writes
    n_Device__durable_log := n_Device__durable_log
    n_Device__log_steps := n_Device__log_steps
    n_Device__steps_performed := n_Device__steps_performed
    n_Device__steps_allowed := n_Device__steps_allowed
    z_list := PySem.W.mg_none_of X G z_list
    z_range := PySem.W.mg_none_of X G z_range
    z_reversed := PySem.W.mg_none_of X G z_reversed
    z_zip := PySem.W.mg_none_of X G z_zip
    z_int := PySem.W.mg_none_of X G z_int
    z_min := PySem.W.mg_none_of X G z_min
    z_len := PySem.W.mg_none_of X G z_len
    z_max := PySem.W.mg_none_of X G z_max
    z_isinstance := PySem.W.mg_none_of X G z_isinstance
    t_PAGE_SIZE := tPAGE_SIZE
    g_PAGE_SIZE := PySem.W.mg_of X G aPAGE_SIZE
    t_HALF_PAGE := tHALF_PAGE
    g_HALF_PAGE := PySem.W.mg_of X G aHALF_PAGE
    t_TAKES_EFFECT := tTAKES_EFFECT
    g_TAKES_EFFECT := PySem.W.mg_of X G aTAKES_EFFECT
    t_FIRST_HALF_TAKES_EFFECT := tFIRST_HALF_TAKES_EFFECT
    g_FIRST_HALF_TAKES_EFFECT := PySem.W.mg_of X G aFIRST_HALF_TAKES_EFFECT
    z_ValueError := PySem.W.mg_none_of X G zVE }, rfl, rfl⟩
theorem walk {l : PySem.W.OpenLaw} {q : Program} {loose : List Str} {XP : (Str → Option Value) → Heap → Prop} {YP : World → Heap → Prop} {d : DefRec} {K : Params → PySem.W.Frag} (hn : l.most = some 63) (hdf : d.params.defaults = []) (hdn : d.name = "law")
    (hY : ∀ (w : World) (h : Heap), YP w h → (K w.params).In h)
    (F : ∀ (w : World) (mg : Str → Option Value) (h : Heap), (K w.params).In h → h.Ns mainGlobals mg → ∃ T : Txt (K w.params) mg, ∀ (s : Shared) (u : Value), BindsTo s T.fd_law ⟨[u], []⟩ [("script", u)]) :
    PySem.W.WalkO q loose XP YP l.row.toRowW d [] (fun f vs => PySem.call f vs) := by
  refine L2.walk_of (n := 63) (k := 20) (x := "script") (CX := fun _ => CX0) (sp := fun w => sp_law (K w.params)) hn (by decide) hdf ⟨rfl, by decide, by decide⟩ hY (fun w mg fa h KX G hmg => ?_) (fun w H a ns hl hO hS => ?_) fun _ _ _ _ _ z => z
  · obtain ⟨T, hT⟩ := F w mg h KX G
    rw [hdn] at hmg
    have e := T.g_law.symm.trans hmg
    cases e
    exact ⟨T.fd_law, hT, fun base _ _ => (ok_law T).mono (by decide)⟩
  · exact ⟨a, ns, rfl, hS, hl, fun _ => rfl⟩

end K03
open PySem PySem.W PyProof.Rows
set_option maxRecDepth 100000 in
set_option maxHeartbeats 0 in
theorem PySem.Challenge.cw_nearvault_k03_devices_holds : PySem.Challenge.rw_nearvault_k03_devices.Holds := by
  w_on; o_law; k_head; (case hw => w_witness2)
  k_fill
  refine K03.walk (l := PySem.Challenge.rw_nearvault_k03_devices) rfl rfl rfl (fun w h Y => PySem.W.kIn_of Y) ?F
  case F =>
    intro w mg h KX G
    refine' Exists.imp (fun T hT s u => ?bind) (K03.all_mk KX G ?aC_Device ?aC_PowerCut ?aC_VaultError ?a0 ?l0 ?c0 ?k0 ?a1 ?i1 ?l1 ?c1 ?k1 ?a2 ?i2 ?l2 ?c2 ?k2 ?a3 ?i3 ?l3 ?c3 ?k3 ?a4 ?i4 ?l4 ?c4 ?k4 ?a5 ?i5 ?l5 ?c5 ?k5 ?a6 ?i6 ?l6 ?c6 ?k6 ?a7 ?i7 ?l7 ?c7 ?k7 ?a8 ?i8 ?l8 ?c8 ?k8 ?a9 ?i9 ?l9 ?c9 ?k9 ?a10 ?i10 ?l10 ?c10 ?k10 ?a11 ?i11 ?l11 ?c11 ?k11 ?a12 ?i12 ?l12 ?c12 ?k12 ?a13 ?i13 ?l13 ?c13 ?k13 ?a14 ?i14 ?l14 ?c14 ?k14 ?a15 ?i15 ?l15 ?c15 ?k15 ?a16 ?i16 ?l16 ?c16 ?k16 ?a17 ?l17 ?c17 ?k17 ?a18 ?l18 ?c18 ?k18 ?a19 ?l19 ?c19 ?k19 ?a20 ?l20 ?c20 ?k20 ?a21 ?l21 ?c21 ?k21 ?a22 ?l22 ?c22 ?k22 ?a23 ?l23 ?c23 ?k23 ?a24 ?l24 ?c24 ?k24 ?a25 ?l25 ?c25 ?k25 ?a26 ?l26 ?c26 ?k26 ?x_VaultError ?k_VaultError ?xb_VaultError ?xt_VaultError ?xi_VaultError ?xs_VaultError ?x_PowerCut ?k_PowerCut ?xb_PowerCut ?xt_PowerCut ?xi_PowerCut ?xga_PowerCut ?xgt_PowerCut ?xhd_PowerCut ?xcl_PowerCut ?xn_PowerCut ?xta_PowerCut ?xm_PowerCut ?xv_PowerCut ?xs_PowerCut ?xs_PowerCut_VaultError ?pg_Device ?hd_Device ?po_Device ?sa_Device ?mk_Device ?kc_Device ?n_Device__durable_pages ?n_Device__page_writes ?n_Device__durable_log ?n_Device__log_steps ?n_Device__steps_performed ?n_Device__steps_allowed ?z_list ?z_range ?z_reversed ?z_zip ?z_int ?z_min ?z_len ?z_max ?z_isinstance ?aPAGE_SIZE ?aHALF_PAGE ?aTAKES_EFFECT ?aFIRST_HALF_TAKES_EFFECT ?zVE)
    (case aC_Device => k_is)
    (case aC_PowerCut => k_is)
    (case aC_VaultError => k_is)
    (case a0 => k_is)
    (case l0 => k_is)
    (case c0 => k_is)
    (case k0 => k_is)
    (case a1 => k_is)
    (case i1 => k_is)
    (case l1 => k_is)
    (case c1 => k_is)
    (case k1 => k_is)
    (case a2 => k_is)
    (case i2 => k_is)
    (case l2 => k_is)
    (case c2 => k_is)
    (case k2 => k_is)
    (case a3 => k_is)
    (case i3 => k_is)
    (case l3 => k_is)
    (case c3 => k_is)
    (case k3 => k_is)
    (case a4 => k_is)
    (case i4 => k_is)
    (case l4 => k_is)
    (case c4 => k_is)
    (case k4 => k_is)
    (case a5 => k_is)
    (case i5 => k_is)
    (case l5 => k_is)
    (case c5 => k_is)
    (case k5 => k_is)
    (case a6 => k_is)
    (case i6 => k_is)
    (case l6 => k_is)
    (case c6 => k_is)
    (case k6 => k_is)
    (case a7 => k_is)
    (case i7 => k_is)
    (case l7 => k_is)
    (case c7 => k_is)
    (case k7 => k_is)
    (case a8 => k_is)
    (case i8 => k_is)
    (case l8 => k_is)
    (case c8 => k_is)
    (case k8 => k_is)
    (case a9 => k_is)
    (case i9 => k_is)
    (case l9 => k_is)
    (case c9 => k_is)
    (case k9 => k_is)
    (case a10 => k_is)
    (case i10 => k_is)
    (case l10 => k_is)
    (case c10 => k_is)
    (case k10 => k_is)
    (case a11 => k_is)
    (case i11 => k_is)
    (case l11 => k_is)
    (case c11 => k_is)
    (case k11 => k_is)
    (case a12 => k_is)
    (case i12 => k_is)
    (case l12 => k_is)
    (case c12 => k_is)
    (case k12 => k_is)
    (case a13 => k_is)
    (case i13 => k_is)
    (case l13 => k_is)
    (case c13 => k_is)
    (case k13 => k_is)
    (case a14 => k_is)
    (case i14 => k_is)
    (case l14 => k_is)
    (case c14 => k_is)
    (case k14 => k_is)
    (case a15 => k_is)
    (case i15 => k_is)
    (case l15 => k_is)
    (case c15 => k_is)
    (case k15 => k_is)
    (case a16 => k_is)
    (case i16 => k_is)
    (case l16 => k_is)
    (case c16 => k_is)
    (case k16 => k_is)
    (case a17 => k_is)
    (case l17 => k_is)
    (case c17 => k_is)
    (case k17 => k_is)
    (case a18 => k_is)
    (case l18 => k_is)
    (case c18 => k_is)
    (case k18 => k_is)
    (case a19 => k_is)
    (case l19 => k_is)
    (case c19 => k_is)
    (case k19 => k_is)
    (case a20 => k_is)
    (case l20 => k_is)
    (case c20 => k_is)
    (case k20 => k_is)
    (case a21 => k_is)
    (case l21 => k_is)
    (case c21 => k_is)
    (case k21 => k_is)
    (case a22 => k_is)
    (case l22 => k_is)
    (case c22 => k_is)
    (case k22 => k_is)
    (case a23 => k_is)
    (case l23 => k_is)
    (case c23 => k_is)
    (case k23 => k_is)
    (case a24 => k_is)
    (case l24 => k_is)
    (case c24 => k_is)
    (case k24 => k_is)
    (case a25 => k_is)
    (case l25 => k_is)
    (case c25 => k_is)
    (case k25 => k_is)
    (case a26 => k_is)
    (case l26 => k_is)
    (case c26 => k_is)
    (case k26 => k_is)
    (case x_VaultError => first | k_exc | k_is)
    (case k_VaultError => k_is)
    (case xb_VaultError => k_is)
    (case xt_VaultError => k_is)
    (case xi_VaultError => k_is)
    (case xs_VaultError => k_is)
    (case x_PowerCut => first | k_exc | k_is)
    (case k_PowerCut => k_is)
    (case xb_PowerCut => k_is)
    (case xt_PowerCut => k_is)
    (case xi_PowerCut => k_is)
    (case xga_PowerCut => k_is)
    (case xgt_PowerCut => k_is)
    (case xhd_PowerCut => k_is)
    (case xcl_PowerCut => k_is)
    (case xn_PowerCut => k_is)
    (case xta_PowerCut => k_is)
    (case xm_PowerCut => k_is)
    (case xv_PowerCut => k_is)
    (case xs_PowerCut => k_is)
    (case xs_PowerCut_VaultError => k_is)
    (case pg_Device => k_is)
    (case hd_Device => k_is)
    (case po_Device => k_is)
    (case sa_Device => k_is)
    (case mk_Device => k_is)
    (case kc_Device => k_is)
    (case n_Device__durable_pages => k_is)
    (case n_Device__page_writes => k_is)
    (case n_Device__durable_log => k_is)
    (case n_Device__log_steps => k_is)
    (case n_Device__steps_performed => k_is)
    (case n_Device__steps_allowed => k_is)
    (case z_list => k_is)
    (case z_range => k_is)
    (case z_reversed => k_is)
    (case z_zip => k_is)
    (case z_int => k_is)
    (case z_min => k_is)
    (case z_len => k_is)
    (case z_max => k_is)
    (case z_isinstance => k_is)
    (case aPAGE_SIZE => k_is)
    (case aHALF_PAGE => k_is)
    (case aTAKES_EFFECT => k_is)
    (case aFIRST_HALF_TAKES_EFFECT => k_is)
    (case zVE => k_is)
    (case bind => obtain ⟨_, e⟩ := hT; rw [e]; exact .of_eq rfl)
#print axioms PySem.Challenge.cw_nearvault_k03_devices_holds



