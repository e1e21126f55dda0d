import PyProof.Rows.All
import Wide.All
import OpenK.AllK
import Wide.FinOn
import PyProof.EqAt
import PyProof.EqKinds
import PyProof.TupleCall
import KE.DataMinMax
import HandS.ForMost
import HandS.Steps
import HandS.Evl
import HandS.Wide
import HandS.EndBits
import HandS.Zip
import HandS.TupAny
import HandS.IsInst
import HandS.SortKw
import HandS.RevRange
import HandS.Conv
import HandS.Exc
import HandS.ExcOwn
import HandS.ExcIs
import HandS.Rev
import HandS.Lambda
import HandS.WordsExc
import HandS.More
import HandS.DeepEq
import HandS.ExcCtx
import HandS.SuiteRaise
import HandS.CallSlots
import HandS.TryOnly
import HandS.HotCalls
import HandS.SetFor
import PySem.Challenge.RW_nearvault_k06_whole_pagers_and_power
set_option Elab.async false
set_option linter.all false
set_option maxRecDepth 100000
set_option maxHeartbeats 4000000
/-! # a small kit over the hand layer: readings of straight code, step by step -/
namespace Nv
open PySem L2
abbrev Frag := PySem.W.Frag
section
variable {σ : St} {H H' : Hp} {D : Ends} {K : Frag} {i j : Int} {x y z v : V} {ta tb te tv : TE} {b : Bool} {a C dx p : Addr} {fs : List (Str × V)} {f : Str} {t u c : TT} {ts tu tw : TS} {n : Nat}
/-! ### values -/
theorem g_val {Q : VK} (h : Val te σ H v) (q : Q v H) : te σ H Q := h Q q
theorem val_I0 {g : Int → Int → V} (ha : Val ta σ H (.int i)) (hb : Val tb σ H (.int j)) : Val (tOp (rI0 g) ta tb) σ H (g i j) := val_op ha hb fun _ q => ⟨i, j, rfl, rfl, q⟩
theorem val_I {C : Int → Int → Prop} {g : Int → Int → V} (ha : Val ta σ H (.int i)) (hb : Val tb σ H (.int j)) (hc : C i j) : Val (tOp (rI C g) ta tb) σ H (g i j) := val_op ha hb fun _ q => ⟨i, j, rfl, rfl, hc, q⟩
theorem val_U {g : Int → V} (ha : Val ta σ H (.int i)) : Val (tUn (rU g) ta) σ H (g i) := fun Q q => ha _ ⟨i, rfl, q⟩
theorem val_eq (ha : Val ta σ H x) (hb : Val tb σ H y) (hs : scal x y = true) : Val (tOp rEq ta tb) σ H (.bl (decide (x = y))) := val_op ha hb fun _ q => ⟨hs, q⟩
theorem val_ne (ha : Val ta σ H x) (hb : Val tb σ H y) (hs : scal x y = true) : Val (tOp rNe ta tb) σ H (.bl (!decide (x = y))) := val_op ha hb fun _ q => ⟨hs, q⟩
theorem val_not (ha : Val ta σ H (.bl b)) : Val (tNotV ta) σ H (.bl (!b)) := fun Q q => ha _ ⟨b, rfl, q⟩
theorem val_ixL {xs : List V} (ha : Val ta σ H (.ref p)) (hb : Val tb σ H (.int i)) (hs : SqL K H p xs) (hv : atI xs i = some v) : Val (tOp (rIxL K) ta tb) σ H v := val_op ha hb fun _ q => ⟨p, xs, i, v, rfl, rfl, hs, hv, q⟩
theorem val_ixT {xs : List V} (ha : Val ta σ H (.ref p)) (hb : Val tb σ H (.int i)) (hs : SqT K H p xs) (hv : atI xs i = some v) : Val (tOp (rIxT K) ta tb) σ H v := val_op ha hb fun _ q => ⟨p, xs, i, v, rfl, rfl, hs, hv, q⟩
theorem val_len {xs : List V} (ha : Val ta σ H (.ref p)) (hs : SqL K H p xs ∨ SqT K H p xs) :
    Val (tCB (fun xs H Q => ∃ p ys, xs = [V.ref p] ∧ (SqL K H p ys ∨ SqT K H p ys) ∧ Q (.int ys.length) H) (tCons ta tNil)) σ H (.int xs.length) := fun Q q => ha _ ⟨p, xs, rfl, hs, q⟩
theorem val_int1 (ha : Val ta σ H (.int i)) : Val (tCB (fun xs H Q => (∃ i, xs = [V.int i] ∧ Q (.int i) H) ∨ ∃ k, xs = [.bl k] ∧ Q (.int (if k then 1 else 0)) H) (tCons ta tNil)) σ H (.int i) := fun Q q => ha _ (.inl ⟨i, rfl, q⟩)
theorem val_abs (ha : Val ta σ H (.int i)) : Val (tCB (fun xs H Q => ∃ i, xs = [V.int i] ∧ Q (.int (if i < 0 then -i else i)) H) (tCons ta tNil)) σ H (.int (if i < 0 then -i else i)) := fun Q q => ha _ ⟨i, rfl, q⟩
theorem val_max2 (ha : Val ta σ H (.int i)) (hb : Val tb σ H (.int j)) : Val (tCB (fun xs H Q => ∃ i j, xs = [V.int i, .int j] ∧ Q (.int (if j > i then j else i)) H) (tCons ta (tCons tb tNil))) σ H (.int (if j > i then j else i)) := fun Q q => ha _ (hb _ ⟨i, j, rfl, q⟩)
/-! ### tests -/
theorem ans_I0 {g : Int → Int → V} (ha : Val ta σ H (.int i)) (hb : Val tb σ H (.int j)) (e : g i j = .bl b) : Ans (tTest (tOp (rI0 g) ta tb)) σ H b := ans_cmp ha hb fun Q q => ⟨i, j, rfl, rfl, by rw [e]; exact q⟩
theorem ans_Eq (ha : Val ta σ H x) (hb : Val tb σ H y) (hs : scal x y = true) : Ans (tTest (tOp rEq ta tb)) σ H (decide (x = y)) := ans_eq ha hb hs rfl
theorem ans_Ne (ha : Val ta σ H x) (hb : Val tb σ H y) (hs : scal x y = true) : Ans (tTest (tOp rNe ta tb)) σ H (!decide (x = y)) := ans_ne ha hb hs rfl
theorem ans_or2 {b1 b2 : Bool} (h1 : Ans t σ H b1) (h2 : b1 = false → Ans u σ H b2) : Ans (tOr t u) σ H (b1 || b2) := by
  cases b1 with
  | true => exact ans_or1 h1
  | false => exact ans_or h1 (h2 rfl)
theorem ans_And {b1 b2 : Bool} (h1 : Ans t σ H b1) (h2 : b1 = true → Ans u σ H b2) : Ans (tAnd t u) σ H (b1 && b2) := by
  cases b1 with
  | true => exact ans_and h1 (h2 rfl)
  | false => exact ans_and0 h1
theorem g_yes {A B : Hp → Prop} (h : A H) : tYes σ H (fun b H3 => if b = true then A H3 else B H3) := by
  show (if true = true then A H else B H)
  rw [if_pos rfl]
  exact h
theorem g_test {A B : Hp → Prop} (h : Ans c σ H b) (h1 : b = true → A H) (h2 : b = false → B H) : c σ H (fun b H3 => if b = true then A H3 else B H3) := by
  refine h _ ?_
  cases b with
  | true => rw [if_pos rfl]; exact h1 rfl
  | false => rw [if_neg Bool.false_ne_true]; exact h2 rfl
theorem g_noPart {Q : Option Int → Hp → Prop} (q : Q none H) : tNoPart σ H Q := q
/-! ### statements, something behind -/
theorem q_set {m : Nat} (h : Val te σ H v) (q : tu D (σ.set m (some v)) H) : tSeq (tAsg te (gName m)) tu D σ H := h _ q
theorem s_set {m : Nat} (h : Val te σ H v) (q : D.nx (σ.set m (some v)) H) : tAsg te (gName m) D σ H := h _ q
theorem q_setg {m : Nat} (h : te σ H fun v H1 => tu D (σ.set m (some v)) H1) : tSeq (tAsg te (gName m)) tu D σ H := h
theorem s_setg {m : Nat} (h : te σ H fun v H1 => D.nx (σ.set m (some v)) H1) : tAsg te (gName m) D σ H := h
theorem q_when (h : Ans c σ H b) (h1 : b = true → ts { D with nx := tu D } σ H) (h2 : b = false → tu D σ H) : tSeq (tIfS c ts tNext) tu D σ H := by
  refine h _ ?_
  cases b with
  | true => rw [if_pos rfl]; exact h1 rfl
  | false => rw [if_neg Bool.false_ne_true]; exact h2 rfl
theorem s_when (h : Ans c σ H b) (h1 : b = true → ts D σ H) (h2 : b = false → D.nx σ H) : tIfS c ts tNext D σ H := by
  refine h _ ?_
  cases b with
  | true => rw [if_pos rfl]; exact h1 rfl
  | false => rw [if_neg Bool.false_ne_true]; exact h2 rfl
theorem q_ife (h : Ans c σ H b) (h1 : b = true → ts { D with nx := tu D } σ H) (h2 : b = false → tw { D with nx := tu D } σ H) : tSeq (tIfS c ts tw) tu D σ H := by
  refine h _ ?_
  cases b with
  | true => rw [if_pos rfl]; exact h1 rfl
  | false => rw [if_neg Bool.false_ne_true]; exact h2 rfl
theorem s_ife (h : Ans c σ H b) (h1 : b = true → ts D σ H) (h2 : b = false → tw D σ H) : tIfS c ts tw D σ H := by
  refine h _ ?_
  cases b with
  | true => rw [if_pos rfl]; exact h1 rfl
  | false => rw [if_neg Bool.false_ne_true]; exact h2 rfl
/-- what stands behind an if, told once -/
theorem q_cutIf (M : St → Hp → Prop) (h : ts { D with nx := M } σ H) (k : ∀ σ' H', M σ' H' → tu D σ' H') (mono : ∀ N : St → Hp → Prop, (∀ σ' H', M σ' H' → N σ' H') → ts { D with nx := M } σ H → ts { D with nx := N } σ H) : tSeq ts tu D σ H := mono _ k h
theorem q_setL {xs : List V} {k : Nat} (hv : Val te σ H v) (ho : Val ta σ H (.ref p)) (hi : Val tb σ H (.int i)) (hl : H p = some (.lst xs)) (hk : ixN xs.length i = some k) (q : tu D σ (upd H p (.lst (xs.set k v)))) : tSeq (tAsg te (gSub ta tb rSetL)) tu D σ H := by
  refine hv _ ?_
  refine ho _ ?_
  refine hi _ ?_
  exact ⟨p, xs, i, k, rfl, rfl, hl, hk, q⟩
theorem s_setL {xs : List V} {k : Nat} (hv : Val te σ H v) (ho : Val ta σ H (.ref p)) (hi : Val tb σ H (.int i)) (hl : H p = some (.lst xs)) (hk : ixN xs.length i = some k) (q : D.nx σ (upd H p (.lst (xs.set k v)))) : tAsg te (gSub ta tb rSetL) D σ H := by
  refine hv _ ?_
  refine ho _ ?_
  refine hi _ ?_
  exact ⟨p, xs, i, k, rfl, rfl, hl, hk, q⟩
theorem s_ret (h : Val te σ H v) (q : D.rt v H) : tRet te D σ H := h _ q
theorem s_retg (h : te σ H D.rt) : tRet te D σ H := h
theorem q_fld (hv : Val tv σ H y) (ha : Val ta σ H (.ref a)) (ho : H a = some (.ins C dx fs)) (hc : Cls K C) (hn : NoAttr K C f) (hl : fs.length < 1000) (q : tu D σ (upd H a (.ins C dx (putF f y fs)))) : tSeq (sFld K ta tv f) tu D σ H := st_fld (D := { D with nx := tu D }) hv ha ho hc hn hl q
end
section
variable {σ : St} {H : Hp} {D : Ends} {tu ts : TS}
/-- a statement, then the rest, with a word between them -/
theorem q_cut (M : St → Hp → Prop) (h : ts { D with nx := M } σ H) (k : ∀ σ' H', M σ' H' → tu D σ' H') : Evl.tCut ts tu D σ H := ⟨M, h, k⟩
end
/-! ### heaps -/
/-- all but a is as it was -/
def But (a : Addr) (H H' : Hp) : Prop := ∀ b, b ≠ a → H' b = H b
theorem But.refl (a : Addr) (H : Hp) : But a H H := fun _ _ => rfl
theorem But.upd {a : Addr} {H : Hp} {o : HO} : But a H (upd H a o) := fun b h => upd_ne h
theorem But.trans {a : Addr} {H H1 H2 : Hp} (x : But a H H1) (y : But a H1 H2) : But a H H2 := fun b h => (y b h).trans (x b h)
/-- what was tracked stays, but for a -/
def Kp (a : Addr) (H H' : Hp) : Prop := ∀ b o, b ≠ a → H b = some o → H' b = some o
theorem Kp.refl (a : Addr) (H : Hp) : Kp a H H := fun _ _ _ e => e
theorem Kp.trans {a : Addr} {H H1 H2 : Hp} (x : Kp a H H1) (y : Kp a H1 H2) : Kp a H H2 := fun b o n e => y b o n (x b o n e)
theorem Kp.but {a : Addr} {H H' : Hp} (x : But a H H') : Kp a H H' := fun b o n e => by rw [x b n]; exact e
theorem Kp.of {a : Addr} {H H' : Hp} (x : Same H H') : Kp a H H' := fun b o _ e => x b o e
theorem same_upd {H : Hp} {p : Addr} {o : HO} (h : H p = none) : Same H (upd H p o) := fun b x e => by
  rw [upd_ne (ne_of_none e h)]
  exact e
theorem Same.of_kp {a : Addr} {H H' : Hp} (n : H a = none) (x : Kp a H H') : Same H H' := fun b o e => x b o (ne_of_none e n) e
theorem seqT {K : Frag} {H H' : Hp} {a : Addr} {xs : List V} (e : Same H H') (h : SqT K H a xs) : SqT K H' a xs := by
  rcases h with (h | ⟨o, h⟩) | h
  · exact .inl (.inl (e _ _ h))
  · exact .inl (.inr ⟨o, e _ _ h⟩)
  · exact .inr h
theorem ixN_lt {n k : Nat} (h : k < n) : ixN n (k : Int) = some k := by
  unfold ixN
  rw [if_pos (by omega), if_pos (by omega)]
  all_goals rfl
theorem at_map {α : Type} {g : α → V} {xs : List α} {k : Nat} {x : α} (h : xs[k]? = some x) : atI (xs.map g) (k : Int) = some (g x) := atI_nat (by rw [List.getElem?_map, h]; rfl)
theorem at_mod {ns : List Int} (i : Int) (h : 0 < ns.length) : ∃ c : Int, atI (ns.map V.int) (i % (((ns.map V.int).length : Nat) : Int)) = some (.int c) := by
  have hm : i % (((ns.map V.int).length : Nat) : Int) = (((i % ((ns.length : Nat) : Int)).toNat : Nat) : Int) := by
    rw [List.length_map]
    exact (Int.toNat_of_nonneg (Int.emod_nonneg _ (by omega))).symm
  have hlt : (i % ((ns.length : Nat) : Int)).toNat < ns.length := by
    have := Int.emod_lt_of_pos i (show (0 : Int) < (ns.length : Nat) by omega)
    have := Int.emod_nonneg i (show ((ns.length : Nat) : Int) ≠ 0 by omega)
    omega
  rw [hm]
  exact ⟨_, at_map (List.getElem?_eq_getElem hlt)⟩
/-! ### max(xs, default=d) -/
section
open PySem.W PyProof.Rows
theorem readsAll_ints {h : Heap} : ∀ {its : List Value} {ns : List Int}, IntsAre its ns → ∃ as, ReadsAll h its (ns.map PyData.int) as
  | _, _, .nil => ⟨_, .nil⟩
  | _, _, .cons n t h => by
    obtain ⟨as, r⟩ := readsAll_ints h
    exact ⟨_, .cons (Reads.int n t) r⟩
theorem depth_ints : ∀ ns : List Int, PyData.depthAll (ns.map PyData.int) ≤ 1
  | [] => by simp [PyData.depthAll]
  | n :: r => by
    have ih := depth_ints r
    simp only [List.map_cons, PyData.depthAll, PyData.depth]
    omega
theorem alike_ints (ns : List Int) : AlikeAll (ns.map PyData.int) := by
  refine ⟨fun x hx y hy => ?_, fun x hx => ?_⟩
  · obtain ⟨a, _, rfl⟩ := List.mem_map.mp hx
    obtain ⟨b, _, rfl⟩ := List.mem_map.mp hy
    rfl
  · obtain ⟨a, _, rfl⟩ := List.mem_map.mp hx
    exact fun z => nomatch z
def maxDf (d : Int) : List Int → Int
  | [] => d
  | y :: ys => ys.foldl max y
def rMaxDf (K : Frag) : List V → List V → Hp → VK → Prop := fun xs zs H Q => ∃ (a : Addr) (ns : List Int) (d : Int), xs = [.ref a] ∧ zs = [.int d] ∧ SqL K H a (ns.map V.int) ∧ Q (.int (maxDf d ns)) H
theorem cr_maxDf {X : Cx} (hc : X.calm = true) (hu : X.A.units + 2 < cLine) : CallRK X (.builtin "max") ["default"] (rMaxDf X.K) := by
  intro pins s σ H xs zs us ws Q I r rz h
  obtain ⟨a, ns, d, rfl, rfl, hs, q⟩ := h
  obtain ⟨its, rv, hl, _⟩ := I.list hs
  rw [Vals.ref1 r]
  cases rz with
  | cons r1 rn =>
    cases rn
    rename_i w0
    obtain ⟨as, hr⟩ := readsAll_ints (h := s.heap) rv.ints
    show wpAny _ _ (call (.builtin "max") [.ref a] [(Str.ofString "default", w0)]) _ _ _
    have hdep := depth_ints ns
    refine max_list_default (xs := ns.map PyData.int) (as := as) (I.ok.hd hc) hl.isList (by simpa using hr) (alike_ints ns) (by omega) (fun e h' tk hk => ?_) (fun y ys i v h' tk bs e hv hR hk => ?_)
    · have e0 : ns = [] := List.map_eq_nil_iff.mp e
      subst e0
      exact ⟨.int d, H, I.kept hk, r1, q⟩
    · cases ns with
      | nil => cases e
      | cons n r =>
        have e1 : PyData.int n = y ∧ r.map PyData.int = ys := by
          have := List.cons.inj e
          exact this
        obtain ⟨rfl, rfl⟩ := e1
        rw [maxD_ints] at hR
        cases hR
        exact ⟨.int _, H, I.kept hk, ⟨_, rfl⟩, q⟩
end
/-! ### slices and sums of tuples, whatever object comes -/
theorem cutV_whole {xs : List V} {lo hi : Option Int} (h : HT.sIx xs.length 0 lo = 0 ∧ HT.sIx xs.length xs.length hi = xs.length) : cutV xs lo hi = xs := by
  unfold cutV
  rw [h.1, h.2]
  simp
theorem slT_any {K : Frag} {H : Hp} {Q : VK} {a : Addr} {xs : List V} {lo hi : Option Int} (ha : SqT K H a xs) (k : ∀ p H', Same H H' → SqT K H' p (cutV xs lo hi) → Q (.ref p) H') : rSlA K (.ref a) lo hi H Q :=
  ⟨a, xs, rfl, ha, fun h => k a H (Same.refl _) (by rw [cutV_whole h]; exact ha), fun _ p hp => k p _ (same_upd hp) (SqT.of upd_same)⟩
theorem catA_any {K : Frag} {H : Hp} {Q : VK} {a b : Addr} {xs ys : List V} (ha : SqT K H a xs) (hb : SqT K H b ys) (hz : xs.length + ys.length ≤ sizeLine) (k : ∀ p H', Same H H' → SqT K H' p (xs ++ ys) → Q (.ref p) H') : rCatA K (.ref a) (.ref b) H Q :=
  ⟨a, b, xs, ys, rfl, rfl, ha, hb, hz, fun h => k b H (Same.refl _) (by rw [h]; exact hb), fun _ h => k a H (Same.refl _) (by rw [h, List.append_nil]; exact ha), fun _ _ p hp => k p _ (same_upd hp) (SqT.of upd_same)⟩
theorem cut_take {α : Type} (g : α → V) (xs : List α) (k : Nat) : cutV (xs.map g) none (some (k : Int)) = (xs.take k).map g := by
  unfold cutV
  rw [HT.sIx_none, HT.sIx_nat, List.length_map, List.drop_zero, Nat.sub_zero, ← List.map_take]
  congr 1
  rw [List.take_eq_take_iff]
  omega
theorem cut_drop {α : Type} (g : α → V) (xs : List α) (k : Nat) : cutV (xs.map g) (some (k : Int)) none = (xs.drop k).map g := by
  unfold cutV
  rw [HT.sIx_none, HT.sIx_nat, List.length_map, ← List.map_drop, ← List.map_take]
  congr 1
  by_cases h : k ≤ xs.length
  · rw [Nat.min_eq_left h, List.take_of_length_le (by rw [List.length_drop]; omega)]
  · rw [Nat.min_eq_right (by omega), List.drop_eq_nil_of_le (Nat.le_refl _), List.drop_eq_nil_of_le (by omega), List.take_nil]
/-! ### == of data -/
theorem dpAll_ints {K : Frag} {H : Hp} : ∀ ns : List Int, DpAll K H (ns.map V.int) (ns.map PyData.int)
  | [] => .nil
  | n :: r => .cons (.int n) (dpAll_ints r)
theorem lay_ints : ∀ ns : List Int, PyData.canLayAll0 (ns.map PyData.int) = true
  | [] => by simp [PyData.canLayAll0]
  | n :: r => by
    simp only [List.map_cons, PyData.canLayAll0, lay_ints r, PyData.canLay0, Bool.and_self]
theorem shaped_tup_ints (ns : List Int) : SeqAt.shaped (.tuple (ns.map PyData.int)) = true := by
  have h := depth_ints ns
  have h2 : PyData.depth (.tuple (ns.map PyData.int)) ≤ 64 := by
    rw [PyData.depth]
    omega
  unfold SeqAt.shaped
  rw [Bool.and_eq_true]
  exact ⟨by rw [PyData.canLay0]; exact lay_ints ns, decide_eq_true h2⟩
theorem shaped_lst_ints (ns : List Int) : SeqAt.shaped (.list (ns.map PyData.int)) = true := by
  have h := depth_ints ns
  have h2 : PyData.depth (.list (ns.map PyData.int)) ≤ 64 := by
    rw [PyData.depth]
    omega
  unfold SeqAt.shaped
  rw [Bool.and_eq_true]
  exact ⟨by rw [PyData.canLay0]; exact lay_ints ns, decide_eq_true h2⟩
theorem eqT_ints {K : Frag} {H : Hp} {Q : VK} {a b : Addr} {xs ys : List Int} (ha : SqT K H a (xs.map V.int)) (hb : SqT K H b (ys.map V.int)) (q : Q (.bl (decide (xs = ys))) H) : rEqD K (.ref a) (.ref b) H Q :=
  ⟨_, _, .tup ha (dpAll_ints xs), .tup hb (dpAll_ints ys), shaped_tup_ints xs, shaped_tup_ints ys, by
    have e : PyData.eqv (.tuple (xs.map PyData.int)) (.tuple (ys.map PyData.int)) = decide (xs = ys) := by
      rw [← PySem.W.ked_eqvAll]
      simp only [PyData.eqv]
    rw [e]
    exact q⟩
theorem eqL_ints {K : Frag} {H : Hp} {Q : VK} {a b : Addr} {xs ys : List Int} (ha : SqL K H a (xs.map V.int)) (hb : SqL K H b (ys.map V.int)) (q : Q (.bl (decide (xs = ys))) H) : rEqD K (.ref a) (.ref b) H Q :=
  ⟨_, _, .lst ha (dpAll_ints xs), .lst hb (dpAll_ints ys), shaped_lst_ints xs, shaped_lst_ints ys, by
    have e : PyData.eqv (.list (xs.map PyData.int)) (.list (ys.map PyData.int)) = decide (xs = ys) := by
      rw [← PySem.W.ked_eqvAll]
      simp only [PyData.eqv]
    rw [e]
    exact q⟩
theorem neL_ints {K : Frag} {H : Hp} {Q : VK} {a b : Addr} {xs ys : List Int} (ha : SqL K H a (xs.map V.int)) (hb : SqL K H b (ys.map V.int)) (q : Q (.bl (!decide (xs = ys))) H) : rNeD K (.ref a) (.ref b) H Q :=
  ⟨_, _, .lst ha (dpAll_ints xs), .lst hb (dpAll_ints ys), shaped_lst_ints xs, shaped_lst_ints ys, by
    have e : PyData.eqv (.list (xs.map PyData.int)) (.list (ys.map PyData.int)) = decide (xs = ys) := by
      rw [← PySem.W.ked_eqvAll]
      simp only [PyData.eqv]
    rw [e]
    exact q⟩
theorem neT_ints {K : Frag} {H : Hp} {Q : VK} {a b : Addr} {xs ys : List Int} (ha : SqT K H a (xs.map V.int)) (hb : SqT K H b (ys.map V.int)) (q : Q (.bl (!decide (xs = ys))) H) : rNeD K (.ref a) (.ref b) H Q :=
  ⟨_, _, .tup ha (dpAll_ints xs), .tup hb (dpAll_ints ys), shaped_tup_ints xs, shaped_tup_ints ys, by
    have e : PyData.eqv (.tuple (xs.map PyData.int)) (.tuple (ys.map PyData.int)) = decide (xs = ys) := by
      rw [← PySem.W.ked_eqvAll]
      simp only [PyData.eqv]
    rw [e]
    exact q⟩
/-! ### a range object with a step, held by a name -/
section
open PyProof.Rows
variable {X : Cx}
def rngHO (p : Addr) (i j c : Int) : HO := .ext fun h => ∃ t u v, h.get? p = some { cls := .type "range", data := .fields #[.int i t, .int j u, .int c v] }
def rRng3 : List V → Hp → VK → Prop := fun vs H Q => ∃ i j c : Int, vs = [.int i, .int j, .int c] ∧ c ≠ 0 ∧ c.natAbs < 1073741824 ∧ ∀ p, H p = none → Q (.ref p) (upd H p (rngHO p i j c))
theorem cr_range3 : CallR X (.type "range") rRng3 := by
  intro pins s σ H vs us Q I r h
  obtain ⟨i, j, c, rfl, c0, c1, q⟩ := h
  cases r with
  | cons r rr =>
    cases rr with
    | cons r' rr =>
      cases rr with
      | cons r'' rr =>
        cases rr
        obtain ⟨t, rfl⟩ := r
        obtain ⟨t', rfl⟩ := r'
        obtain ⟨t'', rfl⟩ := r''
        refine call_range_3 c0 ?_ (.inl (PyProof.noPylong_small c1))
        have hf : H s.heap.objs.size = none := I.hok.fresh (Nat.le_refl _)
        refine ⟨.ref s.heap.objs.size, upd H s.heap.objs.size (rngHO s.heap.objs.size i j c), I.laid (t' := s.toks) (fun b u e => Heap.get?_push_of_some _ e) (Nat.le_refl _) ?_, rfl, q _ hf⟩
        exact ⟨⟨_, _, _, Heap.get?_push_size _ rfl⟩, ⟨_, Heap.get?_push_size _ rfl⟩, fun h1 h2 ⟨a, b, d, e⟩ k => ⟨a, b, d, k _ e⟩⟩
def iRngV (tl : TE) : TI := fun σ H R => tl σ H fun x H1 => ∃ (p : Addr) (i j c : Int) (n : Nat), x = .ref p ∧ H1 p = some (rngHO p i j c) ∧ RgC i j c n ∧ R (Itc i c n) H1
theorem pi_rngV {tg l : Expr} {tl : TE} (hl : PE X l tl) : PI X tg l (iRngV tl) := by
  refine ⟨fun pins s σ H R I h => ?_⟩
  refine thn (hl.run pins s σ H _ I h) fun v s1 ⟨x, H1, I1, r1, q1⟩ => ?_
  obtain ⟨p, i, j, k, n, e, ep, ⟨c0, c1, c2, c3⟩, q⟩ := q1
  subst e
  cases r1
  obtain ⟨⟨t, u, w1, hp⟩, _, _⟩ := I1.hok p _ ep
  refine wpAny_pyIter_range (show IsRange s1.heap p i j k t u w1 from hp) c2 ?_
  refine pi_one (tk := s1.toks) I1 _ (turn_rangeC _ i k n) ?_ q
  have e1 : i + ((0 : Nat) : Int) * k = i := by simp
  have e2 : (n : Int) - ((0 : Nat) : Int) = Builtin.Range.rangeSize i j k := by rw [c3]; simp
  show IsRangeIter _ _ (i + ((0 : Nat) : Int) * k) ((n : Int) - ((0 : Nat) : Int)) k
  rw [e1, e2]
  exact Heap.get?_push_size _ rfl
end
theorem lc_rangeC {lo c : Int} {n : Nat} {g : TG} {tt : TT} {te : TE} {vs : List Nat} {σ : St} {H1 : Hp} {D : Addr} {Qd : Hp → Prop} (Pv : Nat → Hp → Prop) (h0 : Pv 0 (upd H1 D (.lst [])))
    (hs : ∀ (i : Nat) H, i < n → Pv i H → g (.int (lo + (i : Int) * c)) (wipe σ vs) H fun σ2 H2 => wipe σ2 vs = wipe σ vs ∧ tt σ2 H2 fun b H3 =>
      if b = true then te σ2 H3 fun y H4 => ∃ acc, H4 D = some (.lst acc) ∧ acc.length < sizeLine ∧ Pv (i + 1) (upd H4 D (.lst (acc ++ [y]))) else Pv (i + 1) H3) (hd : ∀ H, Pv n H → Qd H) :
    ∃ W : Nat → Nat → Hp → Prop, (∃ m, W 0 m (upd H1 D (.lst []))) ∧ ∀ i m H, W i m H →
      ((Itc lo c n).stop i H ∧ Qd H) ∨ ((Itc lo c n).go i H ∧ ∃ Nx : Hp → Prop, (∀ H', Nx H' → ∃ m', m' < m ∧ W (i + 1) m' H') ∧ ∀ x H', (Itc lo c n).yld i H x H' → g x (wipe σ vs) H' fun σ2 H2 => wipe σ2 vs = wipe σ vs ∧ tt σ2 H2 fun b H3 =>
        if b = true then te σ2 H3 fun y H4 => ∃ acc, H4 D = some (.lst acc) ∧ acc.length < sizeLine ∧ Nx (upd H4 D (.lst (acc ++ [y]))) else Nx H3) := by
  refine ⟨fun i m H => m = n - i ∧ i ≤ n ∧ Pv i H, ⟨n, by simp, Nat.zero_le _, h0⟩, ?_⟩
  rintro i m H ⟨rfl, hi, p⟩
  by_cases hlt : i < n
  · refine .inr ⟨hlt, Pv (i + 1), fun H' p' => ⟨n - (i + 1), by omega, rfl, hlt, p'⟩, fun x H' y => ?_⟩
    obtain ⟨e, y⟩ := y
    subst e y
    exact hs i _ hlt p
  · have e : i = n := by omega
    subst e
    exact .inl ⟨Nat.le_refl _, hd H p⟩
/-- a range up by twos -/
theorem rgC_two {i : Int} {n : Nat} (h0 : 0 ≤ i) (h1 : i < 2 ^ 40) (h2 : n < 1000000) : RgC i (i + 2 * (n : Int)) 2 n := by
  have hz : Builtin.Range.rangeSize i (i + 2 * (n : Int)) 2 = (n : Int) := by
    unfold Builtin.Range.rangeSize
    simp only [show (2 : Int) > 0 by decide, if_true]
    split <;> omega
  refine ⟨by decide, by decide, ?_, hz⟩
  unfold Builtin.Range.small Builtin.Range.rangeFitsLong
  rw [hz, if_pos (show (2 : Int) > 0 by decide)]
  simp only [Bool.and_eq_true, Bool.or_eq_true, decide_eq_true_eq]
  refine ⟨⟨⟨⟨?_, ?_⟩, ?_⟩, ?_⟩, .inr ?_⟩ <;> omega
end Nv

namespace Nv
open PySem L2
/-- the drawing state: made at st since H0; the script at sc -/
structure Dr (K : Frag) (H0 H : Hp) (st sc : Addr) (ns : List Int) : Prop where
  sq : SqL K H0 sc (ns.map V.int)
  same : Same H0 H
  new : H0 st = none
  ex : ∃ i d : Int, 0 ≤ i ∧ 0 ≤ d ∧ H st = some (.lst [.int i, .int d])
theorem Dr.kp {K : Frag} {H0 H H' : Hp} {st sc : Addr} {ns : List Int} (d : Dr K H0 H st sc ns) (h : Same H H') : Dr K H0 H' st sc ns := by
  obtain ⟨i, j, hi, hj, e⟩ := d.ex
  exact ⟨d.sq, d.same.trans h, d.new, i, j, hi, hj, h _ _ e⟩
theorem Dr.put {K : Frag} {H0 H : Hp} {st sc : Addr} {ns : List Int} {i j : Int} (d : Dr K H0 H st sc ns) (hi : 0 ≤ i) (hj : 0 ≤ j) : Dr K H0 (upd H st (.lst [.int i, .int j])) st sc ns :=
  ⟨d.sq, fun b o e => by rw [upd_ne (ne_of_none e d.new)]; exact d.same b o e, d.new, i, j, hi, hj, upd_same⟩
theorem Dr.seq {K : Frag} {H0 H : Hp} {st sc : Addr} {ns : List Int} (d : Dr K H0 H st sc ns) : SqL K H sc (ns.map V.int) := d.same.seq d.sq
/-- the law's helper that draws: a number below n; the state alone changes -/
def spDraw (K : Frag) : Sp := fun vs H Q _ => ∃ (st sc : Addr) (n : Int) (H0 : Hp) (ns : List Int), vs = [.ref st, .ref sc, .int n] ∧ 0 < n ∧ n.natAbs < 2 ^ 64 ∧ Dr K H0 H st sc ns ∧
  ∀ (r : Int) (H' : Hp), 0 ≤ r → r < n → But st H H' → Dr K H0 H' st sc ns → Q (.int r) H'
end Nv

namespace Nv
open PySem L2
/-! # a device: plain states -/
structure DS where
  pages : Int → Option (List Int)
  writes : List (Int × List Int)
  log : List Int
  steps : List (Option Int)
  done : Int
  allowed : Option Int
def zeros : List Int := List.replicate 256 0
def DS.new : DS := ⟨fun _ => none, [], [], [], 0, none⟩
def putP (f : Int → Option (List Int)) (n : Int) (xs : List Int) : Int → Option (List Int) := fun j => if j = n then some xs else f j
def getP (f : Int → Option (List Int)) (n : Int) : List Int := (f n).getD zeros
def lastW (ws : List (Int × List Int)) (n : Int) (o : Option (List Int)) : Option (List Int) := ws.foldl (fun o w => if w.1 = n then some w.2 else o) o
def DS.page (d : DS) (n : Int) : List Int := (lastW d.writes n (d.pages n)).getD zeros
def logStep (l : List Int) : Option Int → List Int
  | none => []
  | some b => l ++ [b]
def afterL (l : List Int) (ss : List (Option Int)) : List Int := ss.foldl logStep l
def DS.logNow (d : DS) : List Int := afterL d.log d.steps
def DS.tick (d : DS) : Option DS := match d.allowed with
  | none => some { d with done := d.done + 1 }
  | some a => if a ≤ 0 then none else some { d with done := d.done + 1, allowed := some (a - 1) }
def DS.write (d : DS) (n : Int) (xs : List Int) : DS := { d with writes := d.writes ++ [(n, xs)] }
def putAll (f : Int → Option (List Int)) (ws : List (Int × List Int)) : Int → Option (List Int) := ws.foldl (fun f w => putP f w.1 w.2) f
def DS.syncP (d : DS) : DS := { d with pages := putAll d.pages d.writes, writes := [] }
def DS.add (d : DS) (s : Option Int) : DS := { d with steps := d.steps ++ [s] }
def DS.syncL (d : DS) : DS := { d with log := d.logNow, steps := [] }
/-- the bytes one by one, as far as the power goes; was it enough? -/
def DS.appendAll : DS → List Int → DS × Bool
  | d, [] => (d, true)
  | d, b :: r => match d.tick with
    | none => (d, false)
    | some e => (e.add (some b)).appendAll r
def endW (f : Int → Option (List Int)) (w : Int × List Int) (fate : Int) : Int → Option (List Int) :=
  if fate = 1 then putP f w.1 w.2 else if fate = 2 then putP f w.1 (w.2.take 128 ++ (getP f w.1).drop 128) else f
def crashP (f : Int → Option (List Int)) (ws : List (Int × List Int)) (fs : List Int) : Int → Option (List Int) := (ws.zip fs).foldl (fun f p => endW f p.1 p.2) f
def DS.crash (d : DS) (fs : List Int) (k : Nat) : DS := ⟨crashP d.pages d.writes fs, [], afterL d.log (d.steps.take k), [], d.done, none⟩
theorem afterL_snoc (l : List Int) (ss : List (Option Int)) (s : Option Int) : afterL l (ss ++ [s]) = logStep (afterL l ss) s := by
  unfold afterL
  rw [List.foldl_append]
  rfl
theorem afterL_len (l : List Int) : ∀ ss : List (Option Int), (afterL l ss).length ≤ l.length + ss.length := by
  intro ss
  induction ss generalizing l with
  | nil => exact Nat.le_refl _
  | cons s r ih =>
    have h := ih (logStep l s)
    have h2 : (logStep l s).length ≤ l.length + 1 := by
      cases s with
      | none => exact Nat.zero_le _
      | some b =>
        show (l ++ [b]).length ≤ _
        rw [List.length_append]
        exact Nat.le_refl _
    show (afterL (logStep l s) r).length ≤ l.length + (r.length + 1)
    omega
theorem lastW_snoc (ws : List (Int × List Int)) (w : Int × List Int) (n : Int) (o : Option (List Int)) : lastW (ws ++ [w]) n o = if w.1 = n then some w.2 else lastW ws n o := by
  unfold lastW
  rw [List.foldl_append]
  rfl
theorem putAll_snoc (f : Int → Option (List Int)) (ws : List (Int × List Int)) (w : Int × List Int) : putAll f (ws ++ [w]) = putP (putAll f ws) w.1 w.2 := by
  unfold putAll
  rw [List.foldl_append]
  rfl
theorem take_more {α : Type} {l : List α} {i : Nat} {x : α} (h : l[i]? = some x) : l.take (i + 1) = l.take i ++ [x] := by
  rw [List.take_add_one, h]
  rfl
theorem crash_more {f : Int → Option (List Int)} {ws : List (Int × List Int)} {fs : List Int} {i : Nat} {w : Int × List Int} {a : Int} (hw : ws[i]? = some w) (ha : fs[i]? = some a) :
    crashP f (ws.take (i + 1)) (fs.take (i + 1)) = endW (crashP f (ws.take i) (fs.take i)) w a := by
  have h1 := (List.getElem?_eq_some_iff.mp hw).1
  have h2 := (List.getElem?_eq_some_iff.mp ha).1
  unfold crashP
  rw [take_more hw, take_more ha, List.zip_append (by rw [List.length_take, List.length_take]; omega), List.foldl_append]
  rfl
theorem crash_min {f : Int → Option (List Int)} {ws : List (Int × List Int)} {fs : List Int} : crashP f (ws.take (min ws.length fs.length)) (fs.take (min ws.length fs.length)) = crashP f ws fs := by
  unfold crashP
  rw [show (ws.take (min ws.length fs.length)).zip (fs.take (min ws.length fs.length)) = (ws.zip fs).take (min ws.length fs.length) from List.take_zipWith.symm]
  congr 1
  exact List.take_of_length_le (by rw [List.length_zip]; exact Nat.le_refl _)
def optV : Option Int → V
  | none => .non
  | some i => .int i
/-! # a device in the heap: the ghost of its parts; what is written in F stays for ever -/
structure DG where
  dx : Addr
  dp : Addr
  pw : Addr
  ls : Addr
  dl : Addr
  F : Hp
  kvs : List (Key × V)
  vs : List V
def devF (g : DG) (d : DS) : List (Str × V) := [("_durable_pages", .ref g.dp), ("_page_writes", .ref g.pw), ("_durable_log", .ref g.dl), ("_log_steps", .ref g.ls), ("_steps_performed", .int d.done), ("_steps_allowed", optV d.allowed)]
def PgIn (F : Hp) (kvs : List (Key × V)) (f : Int → Option (List Int)) : Prop := ∀ n : Int, (f n = none ∧ valV kvs (.inl n) = none) ∨ ∃ p xs, f n = some xs ∧ valV kvs (.inl n) = some (.ref p) ∧ F p = some (.lst (xs.map V.int)) ∧ xs.length ≤ 1000
def WrOne (F : Hp) (v : V) (w : Int × List Int) : Prop := ∃ t p, v = .ref t ∧ F t = some (.tup [.int w.1, .ref p]) ∧ F p = some (.lst (w.2.map V.int)) ∧ w.2.length ≤ 1000
structure WrIn (F : Hp) (vs : List V) (ws : List (Int × List Int)) : Prop where
  len : vs.length = ws.length
  each : ∀ (i : Nat) (v : V) (w : Int × List Int), vs[i]? = some v → ws[i]? = some w → WrOne F v w
structure DevAt (C : Addr) (H : Hp) (dev : Addr) (g : DG) (d : DS) : Prop where
  at_ : H dev = some (.ins C g.dx (devF g d))
  dp : H g.dp = some (.dK g.kvs)
  pg : PgIn g.F g.kvs d.pages
  pw : H g.pw = some (.lst g.vs)
  wr : WrIn g.F g.vs d.writes
  ls : H g.ls = some (.lst (d.steps.map optV))
  dl : H g.dl = some (.lst (d.log.map V.int))
  sm : Same g.F H
  f0 : g.F dev = none
  f1 : g.F g.dp = none
  f2 : g.F g.pw = none
  f3 : g.F g.ls = none
  f4 : g.F g.dl = none
  ne : g.pw ≠ g.ls
  ne2 : g.dl ≠ g.pw
  ne3 : g.dl ≠ g.ls
def own (dev : Addr) (g : DG) (b : Addr) : Prop := b = dev ∨ b = g.dp ∨ b = g.pw ∨ (b = g.ls ∨ b = g.dl) ∨ ∃ o, g.F b = some o
/-- what a call of the device does to the heap: what it doesn't own stays; what it owns behind it is its own or new -/
structure Fr (dev : Addr) (g : DG) (H : Hp) (g' : DG) (H' : Hp) : Prop where
  keep : ∀ b o, ¬ own dev g b → H b = some o → H' b = some o
  grow : ∀ b, own dev g' b → own dev g b ∨ H b = none
theorem Fr.refl (dev : Addr) (g : DG) (H : Hp) : Fr dev g H g H := ⟨fun _ _ _ e => e, fun _ h => .inl h⟩
theorem Fr.trans {dev : Addr} {g g1 g2 : DG} {H H1 H2 : Hp} (x : Fr dev g H g1 H1) (y : Fr dev g1 H1 g2 H2) : Fr dev g H g2 H2 := by
  refine ⟨fun b o n e => y.keep b o (fun h => ?_) (x.keep b o n e), fun b h => ?_⟩
  · rcases x.grow b h with h | h
    · exact n h
    · rw [e] at h; cases h
  · rcases y.grow b h with h | h
    · exact x.grow b h
    · by_cases k : own dev g b
      · exact .inl k
      · refine .inr ?_
        cases e : H b with
        | none => rfl
        | some o =>
          have := x.keep b o k e
          rw [h] at this
          cases this
theorem Fr.same {dev : Addr} {g : DG} {H H' : Hp} (h : Same H H') : Fr dev g H g H' := ⟨fun b o _ e => h b o e, fun _ h => .inl h⟩
/-- a field list: what stands first, what stands behind -/
theorem fld_hd {f : Str} {x : V} {l : List (Str × V)} : ((f, x) :: l).lookup f = some x := by simp [List.lookup]
theorem fld_tl {f g : Str} {x : V} {l : List (Str × V)} (n : (f == g) = false) : ((g, x) :: l).lookup f = l.lookup f := by simp [List.lookup, n]
theorem set_hd {f : Str} {x y : V} {l : List (Str × V)} : putF f y ((f, x) :: l) = (f, y) :: l := by simp [putF]
theorem set_tl {f g : Str} {x y : V} {l l' : List (Str × V)} (n : ¬ g = f) (e : putF f y l = l') : putF f y ((g, x) :: l) = (g, x) :: l' := by
  rw [← e]
  simp [putF, n]
section
variable {C dev p t : Addr} {H H' : Hp} {g : DG} {d : DS} {n : Int} {xs : List Int} {o : HO}
theorem lk_dp : (devF g d).lookup ("_durable_pages" : Str) = some (.ref g.dp) := fld_hd
theorem lk_pw : (devF g d).lookup ("_page_writes" : Str) = some (.ref g.pw) := (fld_tl (by decide +kernel)).trans fld_hd
theorem lk_dl : (devF g d).lookup ("_durable_log" : Str) = some (.ref g.dl) := (fld_tl (by decide +kernel)).trans ((fld_tl (by decide +kernel)).trans fld_hd)
theorem lk_ls : (devF g d).lookup ("_log_steps" : Str) = some (.ref g.ls) := (fld_tl (by decide +kernel)).trans ((fld_tl (by decide +kernel)).trans ((fld_tl (by decide +kernel)).trans fld_hd))
theorem lk_done : (devF g d).lookup ("_steps_performed" : Str) = some (.int d.done) := (fld_tl (by decide +kernel)).trans ((fld_tl (by decide +kernel)).trans ((fld_tl (by decide +kernel)).trans ((fld_tl (by decide +kernel)).trans fld_hd)))
theorem lk_all : (devF g d).lookup ("_steps_allowed" : Str) = some (optV d.allowed) := (fld_tl (by decide +kernel)).trans ((fld_tl (by decide +kernel)).trans ((fld_tl (by decide +kernel)).trans ((fld_tl (by decide +kernel)).trans ((fld_tl (by decide +kernel)).trans fld_hd))))
theorem lk_no {m : Str} (h : (["_durable_pages", "_page_writes", "_durable_log", "_log_steps", "_steps_performed", "_steps_allowed"] : List Str).all (fun f => !(m == f)) = true) : (devF g d).lookup m = none := by
  simp only [List.all_cons, List.all_nil, Bool.and_true, Bool.and_eq_true, Bool.not_eq_true'] at h
  obtain ⟨h1, h2, h3, h4, h5, h6⟩ := h
  exact (fld_tl h1).trans ((fld_tl h2).trans ((fld_tl h3).trans ((fld_tl h4).trans ((fld_tl h5).trans ((fld_tl h6).trans rfl)))))
theorem put_pw {q : Addr} : putF "_page_writes" (.ref q) (devF g d) = devF { g with pw := q } d := set_tl (by decide +kernel) set_hd
theorem put_dl {q : Addr} : putF "_durable_log" (.ref q) (devF g d) = devF { g with dl := q } d := set_tl (by decide +kernel) (set_tl (by decide +kernel) set_hd)
theorem put_ls {q : Addr} : putF "_log_steps" (.ref q) (devF g d) = devF { g with ls := q } d := set_tl (by decide +kernel) (set_tl (by decide +kernel) (set_tl (by decide +kernel) set_hd))
theorem put_done {i : Int} : putF "_steps_performed" (.int i) (devF g d) = devF g { d with done := i } := set_tl (by decide +kernel) (set_tl (by decide +kernel) (set_tl (by decide +kernel) (set_tl (by decide +kernel) set_hd)))
theorem put_all {a : Option Int} : putF "_steps_allowed" (optV a) (devF g d) = devF g { d with allowed := a } := set_tl (by decide +kernel) (set_tl (by decide +kernel) (set_tl (by decide +kernel) (set_tl (by decide +kernel) (set_tl (by decide +kernel) set_hd))))
theorem same_ne {F : Hp} {a : Addr} (h : Same F H) (n : F a = none) : Same F (upd H a o) := fun b x e => by
  rw [upd_ne (ne_of_none e n)]
  exact h b x e
theorem DevAt.n1 (D : DevAt C H dev g d) : g.dp ≠ dev := ne_of D.dp D.at_ (fun z => nomatch z)
theorem DevAt.n2 (D : DevAt C H dev g d) : g.pw ≠ dev := ne_of D.pw D.at_ (fun z => nomatch z)
theorem DevAt.n3 (D : DevAt C H dev g d) : g.ls ≠ dev := ne_of D.ls D.at_ (fun z => nomatch z)
theorem DevAt.n4 (D : DevAt C H dev g d) : g.pw ≠ g.dp := ne_of D.pw D.dp (fun z => nomatch z)
theorem DevAt.n5 (D : DevAt C H dev g d) : g.ls ≠ g.dp := ne_of D.ls D.dp (fun z => nomatch z)
theorem DevAt.n6 (D : DevAt C H dev g d) : g.dl ≠ dev := ne_of D.dl D.at_ (fun z => nomatch z)
theorem DevAt.n7 (D : DevAt C H dev g d) : g.dl ≠ g.dp := ne_of D.dl D.dp (fun z => nomatch z)
theorem DevAt.has (D : DevAt C H dev g d) {b : Addr} (h : own dev g b) : ∃ o, H b = some o := by
  rcases h with rfl | rfl | rfl | (rfl | rfl) | ⟨o, e⟩
  · exact ⟨_, D.at_⟩
  · exact ⟨_, D.dp⟩
  · exact ⟨_, D.pw⟩
  · exact ⟨_, D.ls⟩
  · exact ⟨_, D.dl⟩
  · exact ⟨_, D.sm _ _ e⟩
theorem DevAt.not_own (D : DevAt C H dev g d) {b : Addr} (h : H b = none) : ¬ own dev g b := fun k => by
  obtain ⟨o, e⟩ := D.has k
  rw [h] at e
  cases e
/-- what others change -/
theorem DevAt.kp (D : DevAt C H dev g d) (h : ∀ b o, own dev g b → H b = some o → H' b = some o) : DevAt C H' dev g d :=
  ⟨h _ _ (.inl rfl) D.at_, h _ _ (.inr (.inl rfl)) D.dp, D.pg, h _ _ (.inr (.inr (.inl rfl))) D.pw, D.wr, h _ _ (.inr (.inr (.inr (.inl (.inl rfl))))) D.ls, h _ _ (.inr (.inr (.inr (.inl (.inr rfl))))) D.dl, fun b o e => h _ _ (.inr (.inr (.inr (.inr ⟨o, e⟩)))) (D.sm _ _ e), D.f0, D.f1, D.f2, D.f3, D.f4, D.ne, D.ne2, D.ne3⟩
theorem DevAt.same (D : DevAt C H dev g d) (h : Same H H') : DevAt C H' dev g d := D.kp fun b o _ e => h b o e
/-- a field that no part depends on: done, allowed -/
theorem DevAt.num (D : DevAt C H dev g d) {d' : DS} (h1 : d'.pages = d.pages) (h2 : d'.writes = d.writes) (h3 : d'.log = d.log) (h4 : d'.steps = d.steps) : DevAt C (upd H dev (.ins C g.dx (devF g d'))) dev g d' :=
  ⟨upd_same, by rw [upd_ne D.n1]; exact D.dp, by rw [h1]; exact D.pg, by rw [upd_ne D.n2]; exact D.pw, by rw [h2]; exact D.wr, by rw [upd_ne D.n3, h4]; exact D.ls, by rw [upd_ne D.n6, h3]; exact D.dl, same_ne D.sm D.f0, D.f0, D.f1, D.f2, D.f3, D.f4, D.ne, D.ne2, D.ne3⟩
theorem Fr.ins : Fr dev g H g (upd H dev o) := ⟨fun b u n e => by rw [upd_ne (fun z => n (.inl z))]; exact e, fun _ h => .inl h⟩
theorem pgIn_ext {F F' : Hp} {kvs : List (Key × V)} {f : Int → Option (List Int)} (h : Same F F') (x : PgIn F kvs f) : PgIn F' kvs f := fun n => by
  rcases x n with k | ⟨p, xs, k1, k2, k3, k4⟩
  · exact .inl k
  · exact .inr ⟨p, xs, k1, k2, h _ _ k3, k4⟩
theorem wrIn_ext {F F' : Hp} {vs : List V} {ws : List (Int × List Int)} (h : Same F F') (x : WrIn F vs ws) : WrIn F' vs ws := ⟨x.len, fun i v w a b => by
  obtain ⟨t, p, k1, k2, k3, k4⟩ := x.each i v w a b
  exact ⟨t, p, k1, h _ _ k2, h _ _ k3, k4⟩⟩
/-- a new object is put among what stays -/
theorem DevAt.ext (D : DevAt C H dev g d) (hp : H p = none) : DevAt C (upd H p o) dev { g with F := upd g.F p o } d := by
  have hF : g.F p = none := D.sm.free hp
  have s1 : Same g.F (upd g.F p o) := same_upd hF
  have s2 : Same H (upd H p o) := same_upd hp
  have nn : ∀ {b : Addr} {u : HO}, H b = some u → g.F b = none → upd g.F p o b = none := fun e f => by rw [upd_ne (ne_of_none e hp)]; exact f
  exact ⟨s2 _ _ D.at_, s2 _ _ D.dp, pgIn_ext s1 D.pg, s2 _ _ D.pw, wrIn_ext s1 D.wr, s2 _ _ D.ls, s2 _ _ D.dl, fun b u e => by
    have e : upd g.F p o b = some u := e
    by_cases hb : b = p
    · subst hb; rw [upd_same] at e ⊢; exact e
    · rw [upd_ne hb] at e ⊢; exact D.sm b u e, nn D.at_ D.f0, nn D.dp D.f1, nn D.pw D.f2, nn D.ls D.f3, nn D.dl D.f4, D.ne, D.ne2, D.ne3⟩
theorem Fr.ext (hp : H p = none) : Fr dev g H { g with F := upd g.F p o } (upd H p o) := ⟨fun b u _ e => same_upd hp b u e, fun b h => by
  rcases h with h | h | h | h | ⟨u, e⟩
  · exact .inl (.inl h)
  · exact .inl (.inr (.inl h))
  · exact .inl (.inr (.inr (.inl h)))
  · exact .inl (.inr (.inr (.inr (.inl h))))
  · by_cases hb : b = p
    · subst hb; exact .inr hp
    · have e : upd g.F p o b = some u := e
      rw [upd_ne hb] at e
      exact .inl (.inr (.inr (.inr (.inr ⟨u, e⟩))))⟩
/-- a log step more -/
theorem DevAt.step (D : DevAt C H dev g d) (s : Option Int) : DevAt C (upd H g.ls (.lst (d.steps.map optV ++ [optV s]))) dev g (d.add s) :=
  ⟨by rw [upd_ne D.n3.symm]; exact D.at_, by rw [upd_ne D.n5.symm]; exact D.dp, D.pg, by rw [upd_ne D.ne]; exact D.pw, D.wr, by rw [upd_same]; show _ = some (HO.lst ((d.steps ++ [s]).map optV)); rw [List.map_append]; rfl, by rw [upd_ne D.ne3]; exact D.dl, same_ne D.sm D.f3, D.f0, D.f1, D.f2, D.f3, D.f4, D.ne, D.ne2, D.ne3⟩
theorem Fr.ls : Fr dev g H g (upd H g.ls o) := ⟨fun b u n e => by rw [upd_ne (fun z => n (.inr (.inr (.inr (.inl (.inl z))))))]; exact e, fun _ h => .inl h⟩
theorem Fr.dl : Fr dev g H g (upd H g.dl o) := ⟨fun b u n e => by rw [upd_ne (fun z => n (.inr (.inr (.inr (.inl (.inr z))))))]; exact e, fun _ h => .inl h⟩
/-- more bytes in the durable log -/
theorem DevAt.extL (D : DevAt C H dev g d) : DevAt C (upd H g.dl (.lst (xs.map V.int))) dev g { d with log := xs } :=
  ⟨by rw [upd_ne D.n6.symm]; exact D.at_, by rw [upd_ne D.n7.symm]; exact D.dp, D.pg, by rw [upd_ne D.ne2.symm]; exact D.pw, D.wr, by rw [upd_ne D.ne3.symm]; exact D.ls, upd_same, same_ne D.sm D.f4, D.f0, D.f1, D.f2, D.f3, D.f4, D.ne, D.ne2, D.ne3⟩
theorem wr_more {F : Hp} {vs : List V} {ws : List (Int × List Int)} {v : V} {w0 : Int × List Int} (W : WrIn F vs ws) (h : WrOne F v w0) : WrIn F (vs ++ [v]) (ws ++ [w0]) :=
  ⟨by rw [List.length_append, List.length_append, W.len]; rfl, fun i v' w a b => by
    have hl := W.len
    by_cases hi : i < vs.length
    · rw [List.getElem?_append_left hi] at a
      rw [List.getElem?_append_left (by omega)] at b
      exact W.each i v' w a b
    · rw [List.getElem?_append_right (by omega)] at a b
      have e0 : i - vs.length = 0 := by
        have := (List.getElem?_eq_some_iff.mp a).1
        simp at this
        omega
      rw [← hl] at b
      rw [e0] at a b
      obtain rfl : v = v' := Option.some.inj a
      obtain rfl : w0 = w := Option.some.inj b
      exact h⟩
/-- a write more -/
theorem DevAt.wmore (D : DevAt C H dev g d) {v : V} (h : WrOne g.F v (n, xs)) : DevAt C (upd H g.pw (.lst (g.vs ++ [v]))) dev { g with vs := g.vs ++ [v] } (d.write n xs) :=
  ⟨by rw [upd_ne D.n2.symm]; exact D.at_, by show upd H g.pw _ g.dp = _; rw [upd_ne D.n4.symm]; exact D.dp, D.pg, upd_same, wr_more D.wr h, by show upd H g.pw _ g.ls = _; rw [upd_ne D.ne.symm]; exact D.ls, by show upd H g.pw _ g.dl = _; rw [upd_ne D.ne2]; exact D.dl, same_ne D.sm D.f2, D.f0, D.f1, D.f2, D.f3, D.f4, D.ne, D.ne2, D.ne3⟩
theorem Fr.pw {vs : List V} : Fr dev g H { g with vs := vs } (upd H g.pw o) := ⟨fun b u n e => by rw [upd_ne (fun z => n (.inr (.inr (.inl z))))]; exact e, fun _ h => .inl h⟩
theorem pg_put {F : Hp} {kvs : List (Key × V)} {f : Int → Option (List Int)} (P : PgIn F kvs f) (hp : F p = some (.lst (xs.map V.int))) (hl : xs.length ≤ 1000) : PgIn F (putK kvs (.inl n) (.ref p)) (putP f n xs) := fun j => by
  rw [valV_put]
  by_cases hj : j = n
  · subst hj
    exact .inr ⟨p, xs, if_pos rfl, if_pos rfl, hp, hl⟩
  · rcases P j with ⟨a, b⟩ | ⟨q, ys, a, b, c, e⟩
    · exact .inl ⟨(if_neg hj).trans a, (if_neg (fun z => hj (Sum.inl.inj z))).trans b⟩
    · exact .inr ⟨q, ys, (if_neg hj).trans a, (if_neg (fun z => hj (Sum.inl.inj z))).trans b, c, e⟩
/-- a durable page -/
theorem DevAt.put (D : DevAt C H dev g d) (hp : g.F p = some (.lst (xs.map V.int))) (hl : xs.length ≤ 1000) : DevAt C (upd H g.dp (.dK (putK g.kvs (.inl n) (.ref p)))) dev { g with kvs := putK g.kvs (.inl n) (.ref p) } { d with pages := putP d.pages n xs } :=
  ⟨by rw [upd_ne D.n1.symm]; exact D.at_, upd_same, pg_put D.pg hp hl, by show upd H g.dp _ g.pw = _; rw [upd_ne D.n4]; exact D.pw, D.wr, by show upd H g.dp _ g.ls = _; rw [upd_ne D.n5]; exact D.ls, by show upd H g.dp _ g.dl = _; rw [upd_ne D.n7]; exact D.dl, same_ne D.sm D.f1, D.f0, D.f1, D.f2, D.f3, D.f4, D.ne, D.ne2, D.ne3⟩
theorem Fr.dp {kvs : List (Key × V)} : Fr dev g H { g with kvs := kvs } (upd H g.dp o) := ⟨fun b u n e => by rw [upd_ne (fun z => n (.inr (.inl z)))]; exact e, fun _ h => .inl h⟩
/-- no writes: a new empty list in the field -/
theorem DevAt.noW (D : DevAt C H dev g d) (hp : H p = none) : DevAt C (upd (upd H p (.lst [])) dev (.ins C g.dx (devF { g with pw := p } d))) dev { g with pw := p, vs := [] } { d with writes := [] } := by
  have s2 : Same H (upd H p (.lst [])) := same_upd hp
  have npd : p ≠ dev := (ne_of_none D.at_ hp).symm
  exact ⟨upd_same, by show upd _ dev _ g.dp = _; rw [upd_ne D.n1]; exact s2 _ _ D.dp, D.pg, by show upd _ dev _ p = _; rw [upd_ne npd, upd_same], ⟨rfl, fun i v w a _ => by cases a⟩, by show upd _ dev _ g.ls = _; rw [upd_ne D.n3]; exact s2 _ _ D.ls, by show upd _ dev _ g.dl = _; rw [upd_ne D.n6]; exact s2 _ _ D.dl, same_ne (fun b o e => s2 b o (D.sm b o e)) D.f0, D.f0, D.f1, D.sm.free hp, D.f3, D.f4, (ne_of_none D.ls hp).symm, ne_of_none D.dl hp, D.ne3⟩
theorem Fr.noW (hp : H p = none) {o' : HO} : Fr dev g H { g with pw := p, vs := [] } (upd (upd H p o') dev o) := ⟨fun b u n e => by rw [upd_ne (fun z => n (.inl z))]; exact same_upd hp b u e, fun b h => by
  rcases h with h | h | h | h | ⟨u, e⟩
  · exact .inl (.inl h)
  · exact .inl (.inr (.inl h))
  · have h : b = p := h
    subst h
    exact .inr hp
  · exact .inl (.inr (.inr (.inr (.inl h))))
  · exact .inl (.inr (.inr (.inr (.inr ⟨u, e⟩))))⟩
/-- no log steps -/
theorem DevAt.noL (D : DevAt C H dev g d) (hp : H p = none) : DevAt C (upd (upd H p (.lst [])) dev (.ins C g.dx (devF { g with ls := p } d))) dev { g with ls := p } { d with steps := [] } := by
  have s2 : Same H (upd H p (.lst [])) := same_upd hp
  have npd : p ≠ dev := (ne_of_none D.at_ hp).symm
  exact ⟨upd_same, by show upd _ dev _ g.dp = _; rw [upd_ne D.n1]; exact s2 _ _ D.dp, D.pg, by show upd _ dev _ g.pw = _; rw [upd_ne D.n2]; exact s2 _ _ D.pw, D.wr, by show upd _ dev _ p = _; rw [upd_ne npd, upd_same]; rfl, by show upd _ dev _ g.dl = _; rw [upd_ne D.n6]; exact s2 _ _ D.dl, same_ne (fun b o e => s2 b o (D.sm b o e)) D.f0, D.f0, D.f1, D.f2, D.sm.free hp, D.f4, ne_of_none D.pw hp, D.ne2, ne_of_none D.dl hp⟩
theorem Fr.noL (hp : H p = none) {o' : HO} : Fr dev g H { g with ls := p } (upd (upd H p o') dev o) := ⟨fun b u n e => by rw [upd_ne (fun z => n (.inl z))]; exact same_upd hp b u e, fun b h => by
  rcases h with h | h | h | h | ⟨u, e⟩
  · exact .inl (.inl h)
  · exact .inl (.inr (.inl h))
  · exact .inl (.inr (.inr (.inl h)))
  · rcases h with h | h
    · have h : b = p := h
      subst h
      exact .inr hp
    · exact .inl (.inr (.inr (.inr (.inl (.inr h)))))
  · exact .inl (.inr (.inr (.inr (.inr ⟨u, e⟩))))⟩
/-- behind a call that made the new log -/
theorem Fr.newL (s : Same H H') (hp : H p = none) : Fr dev g H { g with dl := p } (upd H' dev o) := ⟨fun b u n e => by rw [upd_ne (fun z => n (.inl z))]; exact s b u e, fun b h => by
  rcases h with h | h | h | (h | h) | ⟨u, e⟩
  · exact .inl (.inl h)
  · exact .inl (.inr (.inl h))
  · exact .inl (.inr (.inr (.inl h)))
  · exact .inl (.inr (.inr (.inr (.inl (.inl h)))))
  · have h : b = p := h
    subst h
    exact .inr hp
  · exact .inl (.inr (.inr (.inr (.inr ⟨u, e⟩))))⟩
theorem putK_le (c : List (Key × V)) (k : Key) (x : V) : (putK c k x).length ≤ c.length + 1 := by
  unfold putK
  split
  · rw [List.length_map]
    exact Nat.le_succ _
  · rw [List.length_append]
    exact Nat.le_refl _
/-- another durable log -/
theorem DevAt.newL (D : DevAt C H dev g d) (s : Same H H') (np : H p = none) (hp : H' p = some (.lst (xs.map V.int))) : DevAt C (upd H' dev (.ins C g.dx (devF { g with dl := p } d))) dev { g with dl := p } { d with log := xs } :=
  have D' := D.same s
  ⟨upd_same, by show upd _ dev _ g.dp = _; rw [upd_ne D.n1]; exact D'.dp, D.pg, by show upd _ dev _ g.pw = _; rw [upd_ne D.n2]; exact D'.pw, D.wr, by show upd _ dev _ g.ls = _; rw [upd_ne D.n3]; exact D'.ls, by show upd _ dev _ p = _; rw [upd_ne (ne_of_none D.at_ np).symm]; exact hp, same_ne D'.sm D.f0, D.f0, D.f1, D.f2, D.f3, D.sm.free np, D.ne, (ne_of_none D.pw np).symm, (ne_of_none D.ls np).symm⟩
/-- nothing but bytes: they are put behind -/
theorem afterL_bytes (l : List Int) : ∀ ss : List (Option Int), (ss.map optV).any (fun y => eqV y .non) = false → (afterL l ss).map V.int = l.map V.int ++ ss.map optV := by
  intro ss
  induction ss generalizing l with
  | nil => intro _; exact (List.append_nil _).symm
  | cons s r ih =>
    intro h
    rw [List.map_cons, List.any_cons, Bool.or_eq_false_iff] at h
    cases s with
    | none => cases h.1
    | some b =>
      show (afterL (l ++ [b]) r).map V.int = _
      rw [ih (l ++ [b]) h.2, List.map_append, List.append_assoc]
      rfl
end
end Nv

namespace Nv
open PySem L2 PyProof.Rows RZ
/-! # errors of own classes, made without an argument; what a try's suite asks -/
theorem pmk_own0 {X : Cx} {C : Addr} {bmB : List Value} {B newId initId : String} {x : Str} {p pos : Pos} (F : ExcBaseFacts B newId initId bmB) (q : PySem.W.excIn X.K C bmB newId = true) (gC : X.mg x = some (.ref C)) (kC : PySem.W.keepIn X.K (.ref C) = true) (r : Raises X (.ref C)) (hg : Gl X x)
    (hdb : (x == ("__debug__" : Str)) = false := by decide) : PMk X (.Call (.Name x p) [] [] pos) (fun _ H Q => Q (.ref C) none H) := by
  intro pins s σ H Q I h
  refine wpAny_Call_Name_kw (ld_glob I hg gC ?_ hdb)
  refine PySem.W.callWith_K0 (first := []) I.kIn kC ?_
  obtain ⟨bm, N, nm, qn, bs, hdct, sn, sub, ab, col, dd, k0, k1, k2, k3, k5, mN, hC, hN, hni, T⟩ := exc_obj I.kIn q
  obtain ⟨hp1, g1, d1, tk1, os1⟩ := s
  refine wpAny_call_exc_subT F T hC hN hni (fun h' e hm => ?_) (Nat.zero_le _)
  exact mk_of I hm r h (I.hok.gone hm.new)
/-- an error's word for whatever slots: what a try's suite asks -/
def anyS (W : WX) : XK := fun cls d H => ∀ σ, W cls d σ H
theorem passAny {X : Cx} {W : WX} (tk : Takes X W) : Passes (L2.CX X.prog X.w) X (anyS W) := passes_call tk fun _ _ σ _ h => h σ
/-- as many slots as names -/
def tLen (n : Nat) (t : TS) : TS := fun D σ H => σ.length = n → t D σ H
theorem pss_len {X : Cx} {st : List Stmt} {n : Nat} {t : TS} (hn : X.N.length = n) (h : PSs X st t) : PSs X st (tLen n t) := ⟨fun pins s σ H D I q => h.run pins s σ H D I (q (I.len.trans hn))⟩
/-- statements under a condition that the reading tells -/
def tGiven (p : Prop) (t : TS) : TS := fun D σ H => p ∧ t D σ H
theorem pss_given {X : Cx} {st : List Stmt} {p : Prop} {t : TS} (h : p → PSs X st t) : PSs X st (tGiven p t) := ⟨fun pins s σ H D I q => (h q.1).run pins s σ H D I q.2⟩
/-- isinstance of an error: of an own class, of ValueError -/
theorem kit_own {K : Frag} {t : Value} {C : Addr} (h1 : PySem.W.isClsIn K C = true) (h2 : PySem.W.typeIn K (.ref C) = some (.type "type")) (h3 : PySem.W.subIn K t (.ref C) = some true) : PySem.W.kitOne K t (.ref C) = some true := by
  unfold PySem.W.kitOne
  split
  · rfl
  · have h1' : (PySem.W.clsIn K C).isSome = true := h1
    have h4 : ((PySem.W.clsIn K C).isSome && PySem.W.typeIn K (.ref C) == some (.type "type")) = true := by
      rw [h1', h2]
      rfl
    exact (if_pos h4).trans h3
theorem kit_VE {K : Frag} {C : Addr} (h : PySem.W.subIn K (.ref C) (.type "ValueError") = some true) : PySem.W.kitOne K (.ref C) (.type "ValueError") = some true := by
  unfold PySem.W.kitOne
  split
  · rfl
  · exact Eq.trans (if_pos (e := (none : Option Bool)) (show PySem.W.kitMeta "ValueError" = true by decide +kernel)) h
/-- zip of two lists of any lengths -/
theorem for_zipM {K : Frag} {a b : Addr} {xs ys : List V} {g : TG} {tb : TS} {D : Ends} {σ : L2.St} {H : Hp} (Pv : Nat → L2.St → Hp → Prop) (h0 : Pv 0 σ H) (hq : ∀ i σ H, Pv i σ H → SqL K H a xs ∧ SqL K H b ys)
    (hs : ∀ (i : Nat) (x y : V) (T : Addr) (σ : L2.St) (H : Hp), xs[i]? = some x → ys[i]? = some y → Pv i σ H → H T = none → g (.ref T) σ (upd H T (.tup [x, y])) fun σ2 H2 => tb { D with nx := Pv (i + 1), ct := Pv (i + 1), bk := D.nx } σ2 H2) (hd : ∀ σ H, Pv (min xs.length ys.length) σ H → D.nx σ H) :
    ∃ W : Nat → Nat → L2.St → Hp → Prop, (∃ m, W 0 m σ H) ∧ ∀ i m σ H, W i m σ H →
      ((Itz K a b).stop i H ∧ D.nx σ H) ∨ ((Itz K a b).go i H ∧ ∃ N : L2.St → Hp → Prop, (∀ σ' H', N σ' H' → ∃ m', m' < m ∧ W (i + 1) m' σ' H') ∧ ∀ v H', (Itz K a b).yld i H v H' → g v σ H' fun σ2 H2 => tb { D with nx := N, ct := N, bk := D.nx } σ2 H2) := by
  refine ⟨fun i m σ H => m = min xs.length ys.length - i ∧ i ≤ min xs.length ys.length ∧ Pv i σ H, ⟨_, rfl, Nat.zero_le _, h0⟩, ?_⟩
  rintro i m σ H ⟨rfl, hi, p⟩
  obtain ⟨qx, qy⟩ := hq i σ H p
  by_cases hlt : i < min xs.length ys.length
  · have hx : xs[i]? = some (xs[i]'(by omega)) := List.getElem?_eq_getElem (by omega)
    have hy : ys[i]? = some (ys[i]'(by omega)) := List.getElem?_eq_getElem (by omega)
    refine .inr ⟨⟨xs, ys, _, _, qx, qy, hx, hy⟩, Pv (i + 1), fun σ' H' p' => ⟨min xs.length ys.length - (i + 1), by omega, rfl, hlt, p'⟩, fun v H' y => ?_⟩
    obtain ⟨T, x', y', rfl, hT, rfl, f1, f2⟩ := y
    exact hs i x' y' T σ H (f1 xs qx) (f2 ys qy) p hT
  · have e : i = min xs.length ys.length := by omega
    subst e
    exact .inl ⟨⟨xs, ys, qx, qy, by omega⟩, hd σ H p⟩
end Nv

namespace Nv
open PySem L2 PyProof.Rows
/-! # a slice as a target; d.update(d2) -/
section
variable {X : Cx}
def slcHO (p : Addr) (i j : Int) : HO := .ext fun h => ∃ vl vu, h.IsSliceOf p vl vu .none ∧ RelV (.int i) vl ∧ RelV (.int j) vu
def tSlc (tl th : TE) : TE := fun σ H Q => tl σ H fun x H1 => th σ H1 fun y H2 => ∃ i j, x = .int i ∧ y = .int j ∧ ∀ p, H2 p = none → Q (.ref p) (upd H2 p (slcHO p i j))
theorem pe_slc {lo hi : Expr} {tl th : TE} {pos : Pos} (hl : PE X lo tl) (hh : PE X hi th) : PE X (.Slice (some lo) (some hi) none pos) (tSlc tl th) := by
  refine ⟨fun pins s σ H Q I h => ?_⟩
  refine wpAny_Slice ?_
  rw [evalPart_some]
  refine thn (hl.run pins s σ H _ I h) fun vl s1 ⟨x, H1, I1, r1, q1⟩ => ?_
  rw [evalPart_some]
  refine thn (hh.run pins s1 σ H1 _ I1 q1) fun vu s2 ⟨y, H2, I2, r2, i, j, ex, ey, q2⟩ => ?_
  subst ex ey
  rw [evalPart_none]
  refine wpAny_pure ?_
  have hf : H2 s2.heap.objs.size = none := I2.hok.fresh (Nat.le_refl _)
  refine ⟨.ref s2.heap.objs.size, upd H2 s2.heap.objs.size (slcHO s2.heap.objs.size i j), I2.laid (t' := s2.toks) (fun b u e => Heap.get?_push_of_some _ e) (Nat.le_refl _) ?_, rfl, q2 _ hf⟩
  exact ⟨⟨vl, vu, Heap.IsSliceOf.new _ _ _ _, r1, r2⟩, ⟨_, Heap.get?_push_size _ rfl⟩, fun h1 h2 ⟨a, b, ⟨o, eo, e1, e2⟩, e3, e4⟩ k => ⟨a, b, ⟨o, k _ eo, e1, e2⟩, e3, e4⟩⟩
def tSetSl : TSet := fun o i v H Q => ∃ l sl b xs ys a c, o = .ref l ∧ i = .ref sl ∧ v = .ref b ∧ H l = some (.lst xs) ∧ H sl = some (slcHO sl a c) ∧ H b = some (.lst ys) ∧ l ≠ b ∧ 0 ≤ a ∧ a ≤ c ∧ c ≤ xs.length ∧ xs.length + ys.length ≤ sizeLine ∧ Q (upd H l (.lst (xs.take a.toNat ++ ys ++ xs.drop c.toNat)))
theorem set_slc : PSet X tSetSl := by
  intro pins s σ H o i v ov iv u Q I ro ri rv h
  obtain ⟨l, sl, b, xs, ys, a, c, rfl, rfl, rfl, hH, hS, hB, hne, h0, hac, hc, hz, q⟩ := h
  cases ro
  cases ri
  cases rv
  obtain ⟨⟨vl, vu, hs, ra, rc⟩, _, _⟩ := I.hok sl _ hS
  exact set_slice I hH hB hne hs ra rc h0 hac hc hz fun s' I' => ⟨_, I', q⟩
theorem pg_subSl {o i : Expr} {to ti : TE} {t : TSet} {pos : Pos} (ho : PE X o to) (hi : PE X i ti) (hs : PSet X t)
    (ha : ∀ v, assign (.Subscript o i pos) X.env v = (do
      let ov ← holding [v] (eval o X.env)
      let iv ← holding [v, ov] (eval i X.env)
      standAt pos
      holding [v, ov, iv] (setItem ov iv v)
      release [iv, v, ov] []) := by intro _; rfl) : PG X (.Subscript o i pos) (gSub to ti t) := by
  refine ⟨fun pins s σ H v u Q I r h => ?_⟩
  rw [ha]
  refine wpAny_bind (wpAny_holding (thn (ho.run pins s σ H _ I h) fun ov s1 ⟨x, H1, I1, r1, q1⟩ => ?_))
  refine wpAny_bind (wpAny_holding (thn (hi.run pins s1 σ H1 _ I1 q1) fun iv s2 ⟨y, H2, I2, r2, q2⟩ => ?_))
  refine wpAny_bind (wpAny_standAt (wpAny_bind (wpAny_holding (thn (hs pins s2 σ H2 x y v ov iv u _ I2 r1 r2 r q2) fun _ s3 ⟨H3, I3, q3⟩ => ?_))))
  exact wpAny_release ⟨σ, H3, I3, q3⟩
/-- a field, where the written part must be told (in a comprehension) -/
theorem pe_fldK {K : Frag} {e : Expr} {f : Str} {ta : TE} {pos : Pos} (hK : X.K = K) (he : PE X e ta) (hb : attributeBase e f X.env (eval e X.env) = eval e X.env) : PE X (.Attribute e f pos) (tFld K ta f) := by
  subst hK
  exact pe_fld he hb
def tDUpd (td ty : TE) : TE := fun σ H Q => td σ H fun x H1 => ∃ a, x = .ref a ∧ IsD H1 a ∧ ty σ H1 fun y H2 => ∃ b kvs more, y = .ref b ∧ H2 a = some (.dK kvs) ∧ Rd H2 b (.dK more) ∧ a ≠ b ∧ kvs.length + more.length ≤ sizeLine ∧ Q .non (upd H2 a (.dK (mergeK kvs more)))
theorem pe_dupd {o e : Expr} {apos cpos : Pos} {td ty : TE} (ho : PE X o td) (he : PE X e ty) (m : M1 X o "update" apos e cpos) : PE X (.Call (.Attribute o "update" apos) [e] [] cpos) (tDUpd td ty) := by
  refine ⟨fun pins s σ H Q I h => ?_⟩
  refine wpAny_Call_method m.base m.few m.line PySem.F.plainAttrs_dict PySem.F.slot_dict_update PySem.F.type_dict_update (thn (ho.run pins s σ H _ I h) fun u s1 ⟨x, H1, I1, rx, a, ex, d, q1⟩ => ?_)
  subst ex
  obtain rfl : u = Value.ref a := rx
  obtain ⟨t1, t2, _⟩ := isD_at I1 d
  refine ⟨t1, t2, ?_⟩
  rw [m.trees]
  refine Calls.callWith_builtin rfl (Calls.evalArgs_plain (Calls.spliced_cons (thn (he.run pins s1 σ H1 _ I1 q1) fun iv s2 ⟨y, H2, I2, ry, b, kvs, more, ey, ea, eb, ne, hz, q2⟩ => Calls.spliced_nil ?_)))
  subst ey
  obtain rfl : iv = Value.ref b := ry
  obtain ⟨z, hd, vs, rel, dd⟩ := dk_of I2.hok ea
  obtain ⟨z2, hd2, vs2, rel2, dd2⟩ := dk_rd I2.hok eb
  refine call_meetsIn PySem.F.slot_dict_update dd.typeIs PySem.F.entry_dict_update (PySem.F.args_dict_update_2 _ _) (meets_dict_update (mixKind X.prog X.w) a b ne hd2)
    ⟨vs, vs2, dd, dd2, by rw [← rel.length, ← rel2.length]; exact hz, fun h' dd' _ hs => ?_⟩
  have hx : ∃ q, h'.get? a = some q := let ⟨q, _, _, hq, _⟩ := dd'; ⟨q, hq⟩
  exact ⟨.non, _, d_write (t' := s2.toks) I2 (by rw [ea]; exact True.intro) hs hx (dk_new (Nat.le_trans (length_mergeK more kvs) hz) hd (KV.merge rel2 rel) dd'), rfl, q2⟩
end
/-- xs[a:b], both ends within -/
theorem cut_mid {α : Type} (g : α → V) (xs : List α) {a b : Nat} (h1 : a ≤ b) (h2 : b ≤ xs.length) : cutV (xs.map g) (some (a : Int)) (some (b : Int)) = ((xs.drop a).take (b - a)).map g := by
  unfold cutV
  rw [HT.sIx_nat, HT.sIx_nat, List.length_map, ← List.map_drop, ← List.map_take, Nat.min_eq_left (by omega), Nat.min_eq_left (by omega)]
/-- a range up by steps of c -/
theorem rgC_up {i : Int} {n c : Nat} (hc : 0 < c) (hc2 : c < 10000) (h0 : 0 ≤ i) (h1 : i < 2 ^ 40) (h2 : n < 1000000) : RgC i (i + (c : Int) * (n : Int)) (c : Int) n := by
  have hz : Builtin.Range.rangeSize i (i + (c : Int) * (n : Int)) (c : Int) = (n : Int) := by
    unfold Builtin.Range.rangeSize
    rw [if_pos (show (c : Int) > 0 by omega)]
    have e : i + (c : Int) * (n : Int) - i + (c : Int) - 1 = (c : Int) * (n : Int) + ((c : Int) - 1) := by omega
    split
    · rename_i h
      have h := h
      first
        | (rw [show (i + (c : Int) * (n : Int) - i - 1) = (c : Int) * (n : Int) - 1 by omega]
           have hn : n = n - 1 + 1 := by
             rcases n with _ | n
             · simp at h
             · omega
           have : (c : Int) * (n : Int) - 1 = ((c : Int) - 1) + (c : Int) * ((n : Int) - 1) := by
             rw [Int.mul_sub, Int.mul_one]; omega
           rw [this, Int.add_mul_ediv_left _ _ (by omega), Int.ediv_eq_zero_of_lt (by omega) (by omega)]
           omega)
    · rename_i h
      have : n = 0 := by
        rcases n with _ | n
        · rfl
        · exfalso
          apply h
          have : 0 < (c : Int) * ((n + 1 : Nat) : Int) := Int.mul_pos (by omega) (by omega)
          omega
      omega
  refine ⟨by omega, by omega, ?_, hz⟩
  unfold Builtin.Range.small Builtin.Range.rangeFitsLong
  have hb : (c : Int) * (n : Int) ≤ 10000 * 1000000 := Int.mul_le_mul (by omega) (by omega) (by omega) (by omega)
  have hb0 : 0 ≤ (c : Int) * (n : Int) := Int.mul_nonneg (by omega) (by omega)
  generalize (c : Int) * (n : Int) = q at hz hb hb0
  rw [hz, if_pos (show (c : Int) > 0 by omega)]
  simp only [Bool.and_eq_true, Bool.or_eq_true, decide_eq_true_eq]
  refine ⟨⟨⟨⟨?_, ?_⟩, ?_⟩, ?_⟩, .inr ?_⟩ <;> omega
end Nv

namespace Nv
open PySem L2
/-! # numbers as bytes, groups as bytes -/
/-- the bytes of a number, the greatest first -/
def nb : Nat → Int → List Int
  | 0, _ => []
  | w + 1, n => nb w (n / 256) ++ [n % 256]
theorem nb_len : ∀ (w : Nat) (n : Int), (nb w n).length = w
  | 0, _ => rfl
  | w + 1, n => by
    show (nb w (n / 256) ++ [n % 256]).length = w + 1
    rw [List.length_append, nb_len w]
    rfl
theorem nb_byte : ∀ (w : Nat) (n : Int), ∀ x ∈ nb w n, 0 ≤ x ∧ x < 256
  | 0, _ => fun x h => by cases h
  | w + 1, n => fun x h => by
    rcases List.mem_append.mp h with h | h
    · exact nb_byte w _ x h
    · rw [List.mem_singleton.mp h]
      omega
def wn (w : Nat) (n : Int) (i : Nat) : List Int := (List.range i).map fun t => (n / 2 ^ (8 * (w - 1 - t))) % 256
theorem div_pow (n : Int) (k : Nat) : n / 256 / 2 ^ (8 * k) = n / 2 ^ (8 * (k + 1)) := by
  rw [Int.ediv_ediv_of_nonneg (by decide)]
  congr 1
  rw [show 8 * (k + 1) = 8 + 8 * k from by omega, Int.pow_add]
  rfl
theorem wn_all : ∀ (w : Nat) (n : Int), wn w n w = nb w n
  | 0, _ => rfl
  | w + 1, n => by
    show wn (w + 1) n (w + 1) = nb w (n / 256) ++ [n % 256]
    rw [← wn_all w (n / 256)]
    unfold wn
    rw [List.range_succ, List.map_append]
    congr 1
    · refine List.map_congr_left fun t ht => ?_
      have hlt := List.mem_range.mp ht
      rw [div_pow, show w - 1 - t + 1 = w + 1 - 1 - t from by omega]
    · simp
theorem wn_succ (w : Nat) (n : Int) (i : Nat) : wn w n (i + 1) = wn w n i ++ [(n / 2 ^ (8 * (w - 1 - i))) % 256] := by
  unfold wn
  rw [List.range_succ, List.map_append]
  rfl
/-- the number of bytes -/
def nv (l : List Int) : Int := l.foldl (fun a b => a * 256 + b) 0
theorem nv_snoc (l : List Int) (x : Int) : nv (l ++ [x]) = nv l * 256 + x := by
  unfold nv
  rw [List.foldl_append]
  rfl
theorem nv_nb : ∀ (w : Nat) (n : Int), 0 ≤ n → n < 256 ^ w → nv (nb w n) = n
  | 0, n, h0, h1 => by
    have h1 : n < 1 := h1
    show (0 : Int) = n
    omega
  | w + 1, n, h0, h1 => by
    show nv (nb w (n / 256) ++ [n % 256]) = n
    rw [Int.pow_succ] at h1
    rw [nv_snoc, nv_nb w (n / 256) (by omega) (by generalize (256 : Int) ^ w = q at h1 ⊢; omega)]
    omega
theorem nv_nb4 {n : Int} (h0 : 0 ≤ n) (h1 : n < 4294967296) : nv (nb 4 n) = n := nv_nb 4 n h0 (by rw [show (256 : Int) ^ 4 = 4294967296 from by decide]; exact h1)
theorem nv_pos : ∀ l : List Int, (∀ x ∈ l, 0 ≤ x) → 0 ≤ nv l := by
  intro l
  unfold nv
  suffices h : ∀ (l : List Int) (a : Int), 0 ≤ a → (∀ x ∈ l, 0 ≤ x) → 0 ≤ l.foldl (fun a b => a * 256 + b) a from h l 0 (Int.le_refl _)
  intro l
  induction l with
  | nil => exact fun a ha _ => ha
  | cons x r ih => exact fun a ha h => ih _ (show 0 ≤ a * 256 + x by have := h x (List.mem_cons_self ..); omega) fun y hy => h y (List.mem_cons_of_mem _ hy)
def pairB (w : Int × List Int) : List Int := nb 4 w.1 ++ w.2
def grpB (ws : List (Int × List Int)) : List Int := nb 4 ws.length ++ ws.flatMap pairB
def cnt (d : List Int) (pl : Nat) : Nat := (nv ((d.drop pl).take 4)).toNat
def gEnd (d : List Int) (pl : Nat) : Option Nat := if d.length < pl + 4 then none else if d.length < pl + 4 + 260 * cnt d pl then none else some (pl + 4 + 260 * cnt d pl)
def prs (d : List Int) (pl n : Nat) : List (Int × List Int) := (List.range n).map fun i => (nv ((d.drop (pl + 260 * i)).take 4), (d.drop (pl + 260 * i + 4)).take 256)
inductive Grps (d : List Int) : Nat → List (List (Int × List Int)) → Prop
  | nil {pl : Nat} : gEnd d pl = none → Grps d pl []
  | cons {pl e : Nat} {gs : List (List (Int × List Int))} : gEnd d pl = some e → Grps d e gs → Grps d pl (prs d (pl + 4) (cnt d pl) :: gs)
theorem gEnd_le {d : List Int} {pl e : Nat} (h : gEnd d pl = some e) : e = pl + 4 + 260 * cnt d pl ∧ e ≤ d.length ∧ pl + 4 ≤ d.length := by
  unfold gEnd at h
  by_cases h1 : d.length < pl + 4
  · rw [if_pos h1] at h; cases h
  · rw [if_neg h1] at h
    by_cases h2 : d.length < pl + 4 + 260 * cnt d pl
    · rw [if_pos h2] at h; cases h
    · rw [if_neg h2] at h
      cases h
      exact ⟨rfl, by omega, by omega⟩
/-- a page number and 256 bytes -/
def PairOk (w : Int × List Int) : Prop := 0 ≤ w.1 ∧ w.1 < 4294967296 ∧ w.2.length = 256
theorem pairB_len {w : Int × List Int} (h : PairOk w) : (pairB w).length = 260 := by
  unfold pairB
  rw [List.length_append, nb_len, h.2.2]
theorem pairsB_len : ∀ {ws : List (Int × List Int)}, (∀ w ∈ ws, PairOk w) → (ws.flatMap pairB).length = 260 * ws.length
  | [], _ => rfl
  | w :: ws, h => by
    rw [List.flatMap_cons, List.length_append, pairB_len (h w (List.mem_cons_self ..)), pairsB_len fun x hx => h x (List.mem_cons_of_mem _ hx), List.length_cons]
    omega
theorem grpB_len {ws : List (Int × List Int)} (h : ∀ w ∈ ws, PairOk w) : (grpB ws).length = 4 + 260 * ws.length := by
  unfold grpB
  rw [List.length_append, nb_len, pairsB_len h]
theorem take_pre {α : Type} (a b : List α) (n : Nat) (h : n = a.length) : (a ++ b).take n = a := by
  rw [h]; exact List.take_left
theorem drop_pre {α : Type} (a b : List α) (n : Nat) (h : n = a.length) : (a ++ b).drop n = b := by
  rw [h]; exact List.drop_left
theorem prs_at : ∀ {ws : List (Int × List Int)}, (∀ w ∈ ws, PairOk w) → ∀ (pre suf : List Int), prs (pre ++ ws.flatMap pairB ++ suf) pre.length ws.length = ws
  | [], _, _, _ => rfl
  | w :: ws, h, pre, suf => by
    have hw := h w (List.mem_cons_self ..)
    have ih := prs_at (ws := ws) (fun x hx => h x (List.mem_cons_of_mem _ hx)) (pre ++ pairB w) suf
    have e : pre ++ (w :: ws).flatMap pairB ++ suf = pre ++ pairB w ++ ws.flatMap pairB ++ suf := by
      rw [List.flatMap_cons]
      simp only [List.append_assoc]
    rw [e]
    generalize hd : pre ++ pairB w ++ ws.flatMap pairB ++ suf = d at ih
    rw [List.length_append, pairB_len hw] at ih
    have hd2 : d = pre ++ (nb 4 w.1 ++ (w.2 ++ (ws.flatMap pairB ++ suf))) := by
      rw [← hd]
      unfold pairB
      simp only [List.append_assoc]
    unfold prs at ih ⊢
    rw [List.length_cons, List.range_succ_eq_map, List.map_cons, List.map_map]
    congr 1
    · show (nv ((d.drop (pre.length + 260 * 0)).take 4), (d.drop (pre.length + 260 * 0 + 4)).take 256) = w
      have e1 : d.drop (pre.length + 260 * 0) = nb 4 w.1 ++ (w.2 ++ (ws.flatMap pairB ++ suf)) := by
        rw [hd2]; exact drop_pre _ _ _ (by omega)
      have e2 : d.drop (pre.length + 260 * 0 + 4) = w.2 ++ (ws.flatMap pairB ++ suf) := by
        rw [← List.drop_drop, e1]; exact drop_pre _ _ _ (by rw [nb_len])
      rw [e1, e2, take_pre _ _ _ (by rw [nb_len]), take_pre _ _ _ hw.2.2.symm, nv_nb4 hw.1 hw.2.1]
    · refine Eq.trans ?_ ih
      refine List.map_congr_left fun i _ => ?_
      show (nv ((d.drop (pre.length + 260 * (i + 1))).take 4), (d.drop (pre.length + 260 * (i + 1) + 4)).take 256) = _
      rw [show pre.length + 260 * (i + 1) = pre.length + 260 + 260 * i from by omega]
theorem cnt_at {ws : List (Int × List Int)} (hn : ws.length < 4294967296) (pre suf : List Int) : cnt (pre ++ grpB ws ++ suf) pre.length = ws.length := by
  unfold cnt grpB
  have e : (pre ++ (nb 4 ws.length ++ ws.flatMap pairB) ++ suf).drop pre.length = nb 4 ws.length ++ (ws.flatMap pairB ++ suf) := by
    rw [List.append_assoc, drop_pre _ _ _ rfl, List.append_assoc]
  rw [e, take_pre _ _ _ (by rw [nb_len]), nv_nb4 (by omega) (by omega)]
  omega
/-- a complete group stands in front -/
theorem grps_cons {ws : List (Int × List Int)} {gs : List (List (Int × List Int))} (h : ∀ w ∈ ws, PairOk w) (hn : ws.length < 4294967296) (pre suf : List Int) (G : Grps (pre ++ grpB ws ++ suf) (pre.length + (grpB ws).length) gs) : Grps (pre ++ grpB ws ++ suf) pre.length (ws :: gs) := by
  have hc := cnt_at hn pre suf
  have hl := grpB_len h
  have he : gEnd (pre ++ grpB ws ++ suf) pre.length = some (pre.length + (grpB ws).length) := by
    unfold gEnd
    rw [hc, if_neg (by rw [List.length_append, List.length_append, hl]; omega), if_neg (by rw [List.length_append, List.length_append, hl]; omega), hl]
    congr 1
    omega
  have hp : prs (pre ++ grpB ws ++ suf) (pre.length + 4) (cnt (pre ++ grpB ws ++ suf) pre.length) = ws := by
    rw [hc]
    have := prs_at h (pre ++ nb 4 ws.length) suf
    rw [List.length_append, nb_len] at this
    unfold grpB
    rw [show pre ++ (nb 4 ws.length ++ ws.flatMap pairB) ++ suf = pre ++ nb 4 ws.length ++ ws.flatMap pairB ++ suf from by simp only [List.append_assoc]]
    exact this
  have := Grps.cons he G
  rw [hp] at this
  exact this
/-- an incomplete group: what is cut off -/
theorem gEnd_cut {ws : List (Int × List Int)} (h : ∀ w ∈ ws, PairOk w) (hn : ws.length < 4294967296) (pre : List Int) {k : Nat} (hk : k < (grpB ws).length) : gEnd (pre ++ (grpB ws).take k) pre.length = none := by
  have hl := grpB_len h
  unfold gEnd
  by_cases h4 : k < 4
  · rw [if_pos (by rw [List.length_append, List.length_take]; omega)]
  · rw [if_neg (by rw [List.length_append, List.length_take]; omega)]
    have hc : cnt (pre ++ (grpB ws).take k) pre.length = ws.length := by
      unfold cnt
      rw [drop_pre _ _ _ rfl, List.take_take, Nat.min_eq_left (by omega)]
      unfold grpB
      rw [take_pre _ _ _ (by rw [nb_len]), nv_nb4 (by omega) (by omega)]
      omega
    rw [hc, if_pos (by rw [List.length_append, List.length_take]; omega)]
def logB (gs : List (List (Int × List Int))) : List Int := gs.flatMap grpB
/-- whole groups, then the begin of a further one, or nothing -/
theorem grps_of : ∀ {gs : List (List (Int × List Int))}, (∀ g ∈ gs, (∀ w ∈ g, PairOk w) ∧ g.length < 4294967296) → ∀ (pre suf : List Int), (∀ pre : List Int, gEnd (pre ++ suf) pre.length = none) → Grps (pre ++ logB gs ++ suf) pre.length gs
  | [], _, pre, suf, hs => by
    refine .nil ?_
    rw [show pre ++ logB [] ++ suf = pre ++ suf from by unfold logB; simp]
    exact hs pre
  | g :: gs, h, pre, suf, hs => by
    have hg := h g (List.mem_cons_self ..)
    have ih := grps_of (gs := gs) (fun x hx => h x (List.mem_cons_of_mem _ hx)) (pre ++ grpB g) suf hs
    have e : pre ++ logB (g :: gs) ++ suf = pre ++ grpB g ++ (logB gs ++ suf) := by
      unfold logB
      rw [List.flatMap_cons]
      simp only [List.append_assoc]
    rw [e]
    refine grps_cons hg.1 hg.2 pre (logB gs ++ suf) ?_
    rw [List.length_append] at ih
    rw [show pre ++ grpB g ++ (logB gs ++ suf) = pre ++ grpB g ++ logB gs ++ suf from by simp only [List.append_assoc]]
    exact ih
theorem gEnd_nil (pre : List Int) : gEnd (pre ++ []) pre.length = none := by
  unfold gEnd
  rw [if_pos (by simp)]
/-! ### groups in the heap -/
structure GsIn (F : Hp) (vs : List V) (gs : List (List (Int × List Int))) : Prop where
  len : vs.length = gs.length
  each : ∀ (i : Nat) (v : V) (g : List (Int × List Int)), vs[i]? = some v → gs[i]? = some g → ∃ a ws, v = .ref a ∧ F a = some (.lst ws) ∧ WrIn F ws g
theorem gsIn_ext {F F' : Hp} {vs : List V} {gs : List (List (Int × List Int))} (h : Same F F') (x : GsIn F vs gs) : GsIn F' vs gs := ⟨x.len, fun i v g a b => by
  obtain ⟨p, ws, k1, k2, k3⟩ := x.each i v g a b
  exact ⟨p, ws, k1, h _ _ k2, wrIn_ext h k3⟩⟩
theorem gs_more {F : Hp} {vs ws : List V} {gs : List (List (Int × List Int))} {a : Addr} {g : List (Int × List Int)} (G : GsIn F vs gs) (ha : F a = some (.lst ws)) (h : WrIn F ws g) : GsIn F (vs ++ [.ref a]) (gs ++ [g]) :=
  ⟨by rw [List.length_append, List.length_append, G.len]; rfl, fun i v' w x y => by
    have hl := G.len
    by_cases hi : i < vs.length
    · rw [List.getElem?_append_left hi] at x
      rw [List.getElem?_append_left (by omega)] at y
      exact G.each i v' w x y
    · rw [List.getElem?_append_right (by omega)] at x y
      have e0 : i - vs.length = 0 := by
        have := (List.getElem?_eq_some_iff.mp x).1
        simp at this
        omega
      rw [← hl] at y
      rw [e0] at x y
      obtain rfl : V.ref a = v' := Option.some.inj x
      obtain rfl : g = w := Option.some.inj y
      exact ⟨a, ws, rfl, ha, h⟩⟩
/-- what is new since H, and stays: F; now: H' -/
structure NewIn (H F H' : Hp) : Prop where
  new : ∀ b o, F b = some o → H b = none
  sm : Same F H'
  old : Same H H'
theorem NewIn.nil {H H' : Hp} (s : Same H H') : NewIn H (fun _ => none) H' := ⟨fun _ _ e => (by cases e), fun _ _ e => (by cases e), s⟩
theorem NewIn.same {H F H1 H2 : Hp} (N : NewIn H F H1) (s : Same H1 H2) : NewIn H F H2 := ⟨N.new, N.sm.trans s, N.old.trans s⟩
theorem NewIn.ext {H F H1 : Hp} {p : Addr} {o : HO} (N : NewIn H F H1) (hp : H1 p = none) : NewIn H (upd F p o) (upd H1 p o) := by
  have hH : H p = none := N.old.free hp
  refine ⟨fun b u e => ?_, fun b u e => ?_, N.old.trans (same_upd hp)⟩
  · by_cases hb : b = p
    · rw [hb]; exact hH
    · rw [upd_ne hb] at e; exact N.new b u e
  · by_cases hb : b = p
    · subst hb; rw [upd_same] at e ⊢; exact e
    · have e : upd F p o b = some u := e
      rw [upd_ne hb] at e ⊢; exact N.sm b u e
/-- a thing of one's own changes -/
theorem NewIn.put {H F H1 : Hp} {p : Addr} {o : HO} (N : NewIn H F H1) (hp : H p = none) (hF : F p = none) : NewIn H F (upd H1 p o) := ⟨N.new, fun b u e => by rw [upd_ne (ne_of_none e hF)]; exact N.sm b u e, fun b u e => by rw [upd_ne (ne_of_none e hp)]; exact N.old b u e⟩
/-- it stays from now on -/
theorem NewIn.frz {H F H1 : Hp} {p : Addr} {o : HO} (N : NewIn H F H1) (hp : H p = none) (e : H1 p = some o) : NewIn H (upd F p o) H1 := by
  refine ⟨fun b u h => ?_, fun b u h => ?_, N.old⟩
  · by_cases hb : b = p
    · rw [hb]; exact hp
    · rw [upd_ne hb] at h; exact N.new b u h
  · by_cases hb : b = p
    · subst hb; rw [upd_same] at h; rw [e]; exact h
    · rw [upd_ne hb] at h; exact N.sm b u h
theorem same_frz {F : Hp} {p : Addr} {o : HO} (h : F p = none) : Same F (upd F p o) := same_upd h
/-! ### as data -/
open PySem in
def pairD (w : Int × List Int) : PyData := .tuple [.int w.1, .list (w.2.map PyData.int)]
def grpD (g : List (Int × List Int)) : PyData := .list (g.map pairD)
def grpsD (gs : List (List (Int × List Int))) : PyData := .list (gs.map grpD)
theorem dp_pairs {K : Frag} {F H : Hp} (s : Same F H) : ∀ {vs : List V} {ws : List (Int × List Int)}, WrIn F vs ws → DpAll K H vs (ws.map pairD)
  | [], [], _ => .nil
  | v :: vs, w :: ws, h => by
    obtain ⟨t, p, rfl, e1, e2, _⟩ := h.each 0 v w rfl rfl
    refine .cons (.tup (SqT.of (s _ _ e1)) (.cons (.int _) (.cons (.lst (SqL.of (s _ _ e2)) (dpAll_ints _)) .nil))) (dp_pairs s ⟨by have := h.len; simpa using this, fun i v' w' a b => h.each (i + 1) v' w' (by simpa using a) (by simpa using b)⟩)
  | [], _ :: _, h => by have := h.len; simp at this
  | _ :: _, [], h => by have := h.len; simp at this
theorem dp_grps {K : Frag} {F H : Hp} (s : Same F H) : ∀ {vs : List V} {gs : List (List (Int × List Int))}, GsIn F vs gs → DpAll K H vs (gs.map grpD)
  | [], [], _ => .nil
  | v :: vs, g :: gs, h => by
    obtain ⟨a, ws, rfl, e1, e2⟩ := h.each 0 v g rfl rfl
    exact .cons (.lst (SqL.of (s _ _ e1)) (dp_pairs s e2)) (dp_grps s ⟨by have := h.len; simpa using this, fun i v' w' a b => h.each (i + 1) v' w' (by simpa using a) (by simpa using b)⟩)
  | [], _ :: _, h => by have := h.len; simp at this
  | _ :: _, [], h => by have := h.len; simp at this
theorem depthAll_le {n : Nat} : ∀ {ds : List PyData}, (∀ d ∈ ds, PyData.depth d ≤ n) → PyData.depthAll ds ≤ n
  | [], _ => by simp [PyData.depthAll]
  | d :: ds, h => by
    have := depthAll_le (ds := ds) (n := n) fun x hx => h x (List.mem_cons_of_mem _ hx)
    have h1 := h d (List.mem_cons_self ..)
    simp only [PyData.depthAll]
    omega
theorem layAll : ∀ {ds : List PyData}, (∀ d ∈ ds, d.canLay0 = true) → PyData.canLayAll0 ds = true
  | [], _ => by simp [PyData.canLayAll0]
  | d :: ds, h => by
    simp only [PyData.canLayAll0, h d (List.mem_cons_self ..), layAll (ds := ds) fun x hx => h x (List.mem_cons_of_mem _ hx), Bool.and_self]
theorem pairD_ok (w : Int × List Int) : PyData.depth (pairD w) ≤ 3 ∧ (pairD w).canLay0 = true := by
  have h := depth_ints w.2
  unfold pairD
  refine ⟨?_, ?_⟩
  · simp only [PyData.depth, PyData.depthAll]
    omega
  · simp only [PyData.canLay0, PyData.canLayAll0, lay_ints, Bool.and_self]
theorem grpD_ok (g : List (Int × List Int)) : PyData.depth (grpD g) ≤ 4 ∧ (grpD g).canLay0 = true := by
  unfold grpD
  refine ⟨?_, ?_⟩
  · rw [PyData.depth]
    have := depthAll_le (n := 3) (ds := g.map pairD) fun d hd => by
      obtain ⟨w, _, rfl⟩ := List.mem_map.mp hd
      exact (pairD_ok w).1
    omega
  · rw [PyData.canLay0]
    exact layAll fun d hd => by
      obtain ⟨w, _, rfl⟩ := List.mem_map.mp hd
      exact (pairD_ok w).2
theorem grpsD_ok (gs : List (List (Int × List Int))) : PyData.depth (grpsD gs) ≤ 5 ∧ (grpsD gs).canLay0 = true := by
  unfold grpsD
  refine ⟨?_, ?_⟩
  · rw [PyData.depth]
    have := depthAll_le (n := 4) (ds := gs.map grpD) fun d hd => by
      obtain ⟨w, _, rfl⟩ := List.mem_map.mp hd
      exact (grpD_ok w).1
    omega
  · rw [PyData.canLay0]
    exact layAll fun d hd => by
      obtain ⟨w, _, rfl⟩ := List.mem_map.mp hd
      exact (grpD_ok w).2
theorem shaped_of {d : PyData} {n : Nat} (h : PyData.depth d ≤ n ∧ d.canLay0 = true) (hn : n ≤ 64) : SeqAt.shaped d = true := by
  unfold SeqAt.shaped
  rw [Bool.and_eq_true]
  exact ⟨h.2, decide_eq_true (Nat.le_trans h.1 hn)⟩
/-- == of things that are the same data -/
theorem eqD_same {K : Frag} {H : Hp} {Q : VK} {x y : V} {d : PyData} {n : Nat} (hx : Dp K H x d) (hy : Dp K H y d) (h : PyData.depth d ≤ n ∧ d.canLay0 = true) (hn : n ≤ 64) (q : Q (.bl true) H) : rEqD K x y H Q :=
  ⟨d, d, hx, hy, shaped_of h hn, shaped_of h hn, by rw [SeqAt.eqv_refl d h.2]; exact q⟩
theorem neD_same {K : Frag} {H : Hp} {Q : VK} {x y : V} {d : PyData} {n : Nat} (hx : Dp K H x d) (hy : Dp K H y d) (h : PyData.depth d ≤ n ∧ d.canLay0 = true) (hn : n ≤ 64) (q : Q (.bl false) H) : rNeD K x y H Q :=
  ⟨d, d, hx, hy, shaped_of h hn, shaped_of h hn, by rw [SeqAt.eqv_refl d h.2]; exact q⟩
end Nv
namespace Nv
open PySem L2
/-- two ghosts in one -/
def joinF (F F2 : Hp) : Hp := fun b => match F b with | some o => some o | none => F2 b
theorem joinF_left {F F2 : Hp} : Same F (joinF F F2) := fun b o e => by unfold joinF; rw [e]
theorem joinF_right {F F2 : Hp} (h : ∀ b o, F2 b = some o → F b = none) : Same F2 (joinF F F2) := fun b o e => by unfold joinF; rw [h b o e]; exact e
theorem joinF_or {F F2 : Hp} {b : Addr} {o : HO} (h : joinF F F2 b = some o) : F b = some o ∨ F2 b = some o := by
  unfold joinF at h
  cases e : F b with
  | none => rw [e] at h; exact .inr h
  | some u => rw [e] at h; exact .inl h
theorem NewIn.join {H F H1 F2 H2 : Hp} (N : NewIn H F H1) (N2 : NewIn H1 F2 H2) : NewIn H (joinF F F2) H2 := by
  refine ⟨fun b o e => ?_, fun b o e => ?_, N.old.trans N2.old⟩
  · rcases joinF_or e with e | e
    · exact N.new b o e
    · exact N.old.free (N2.new b o e)
  · rcases joinF_or e with e | e
    · exact N2.old b o (N.sm b o e)
    · exact N2.sm b o e
end Nv
namespace Nv
open PySem L2
/-- as NewIn, but for a thing st that others change -/
structure NewK (st : Addr) (H F H' : Hp) : Prop where
  new : ∀ b o, F b = some o → H b = none
  sm : Same F H'
  old : Kp st H H'
  has : ∃ o, H st = some o
theorem NewK.nil {st : Addr} {H H' : Hp} (s : Kp st H H') (h : ∃ o, H st = some o) : NewK st H (fun _ => none) H' := ⟨fun _ _ e => (by cases e), fun _ _ e => (by cases e), s, h⟩
theorem NewK.st {st : Addr} {H F H' : Hp} (N : NewK st H F H') : F st = none := by
  obtain ⟨o, e⟩ := N.has
  cases h : F st with
  | none => rfl
  | some u =>
    have := N.new _ _ h
    rw [e] at this
    cases this
theorem NewK.kp {st : Addr} {H F H1 H2 : Hp} (N : NewK st H F H1) (s : Kp st H1 H2) : NewK st H F H2 := ⟨N.new, fun b o e => s b o (ne_of_none e N.st) (N.sm b o e), N.old.trans s, N.has⟩
theorem NewK.same {st : Addr} {H F H1 H2 : Hp} (N : NewK st H F H1) (s : Same H1 H2) : NewK st H F H2 := N.kp (Kp.of s)
theorem NewK.free {st : Addr} {H F H1 : Hp} (N : NewK st H F H1) {b : Addr} (n : b ≠ st) (h : H1 b = none) : H b = none := by
  cases e : H b with
  | none => rfl
  | some o =>
    have := N.old b o n e
    rw [h] at this
    cases this
theorem NewK.ext {st : Addr} {H F H1 : Hp} {p : Addr} {o : HO} (N : NewK st H F H1) (n : p ≠ st) (hp : H1 p = none) : NewK st H (upd F p o) (upd H1 p o) := by
  have hH : H p = none := N.free n hp
  refine ⟨fun b u e => ?_, fun b u e => ?_, N.old.trans (Kp.of (same_upd hp)), N.has⟩
  · by_cases hb : b = p
    · rw [hb]; exact hH
    · rw [upd_ne hb] at e; exact N.new b u e
  · by_cases hb : b = p
    · subst hb; rw [upd_same] at e ⊢; exact e
    · have e : upd F p o b = some u := e
      rw [upd_ne hb] at e ⊢; exact N.sm b u e
theorem NewK.put {st : Addr} {H F H1 : Hp} {p : Addr} {o : HO} (N : NewK st H F H1) (hp : H p = none) (hF : F p = none) : NewK st H F (upd H1 p o) := ⟨N.new, fun b u e => by rw [upd_ne (ne_of_none e hF)]; exact N.sm b u e, fun b u n e => by rw [upd_ne (ne_of_none e hp)]; exact N.old b u n e, N.has⟩
theorem NewK.frz {st : Addr} {H F H1 : Hp} {p : Addr} {o : HO} (N : NewK st H F H1) (hp : H p = none) (e : H1 p = some o) : NewK st H (upd F p o) H1 := by
  refine ⟨fun b u h => ?_, fun b u h => ?_, N.old, N.has⟩
  · by_cases hb : b = p
    · rw [hb]; exact hp
    · rw [upd_ne hb] at h; exact N.new b u h
  · by_cases hb : b = p
    · subst hb; rw [upd_same] at h; rw [e]; exact h
    · rw [upd_ne hb] at h; exact N.sm b u h
theorem NewK.join {st : Addr} {H F H1 F2 H2 : Hp} (N : NewK st H F H1) (N2 : NewK st H1 F2 H2) : NewK st H (joinF F F2) H2 := by
  obtain ⟨o2, e2⟩ := N2.has
  have hn : ∀ b o, F2 b = some o → b ≠ st := fun b o e z => by
    have := N2.new b o e
    rw [z, e2] at this
    cases this
  refine ⟨fun b o e => ?_, fun b o e => ?_, N.old.trans N2.old, N.has⟩
  · rcases joinF_or e with e | e
    · exact N.new b o e
    · exact N.free (hn b o e) (N2.new b o e)
  · rcases joinF_or e with e | e
    · exact N2.old b o (ne_of_none e N.st) (N.sm b o e)
    · exact N2.sm b o e
end Nv

namespace Nv
open PySem L2
/-! # a pager: plain states -/
theorem passNo {X : Cx} : Passes (L2.CX X.prog X.w) X (fun _ _ _ => False) := fun _ _ _ _ _ _ _ ⟨_, _, _, _, _, _, _, _, _, _, _, _, h⟩ => h.elim
abbrev PL := List (Int × List Int)
def getL (l : PL) (n : Int) : Option (List Int) := (l.find? fun w => decide (w.1 = n)).map (·.2)
def putL (l : PL) (n : Int) (xs : List Int) : PL := if (l.any fun w => decide (w.1 = n)) = true then l.map (fun w => if w.1 = n then (w.1, xs) else w) else l ++ [(n, xs)]
def mergeL (l m : PL) : PL := m.foldl (fun acc w => putL acc w.1 w.2) l
theorem getL_nil {n : Int} : getL [] n = none := rfl
theorem getL_pos {w : Int × List Int} {r : PL} {n : Int} (e : w.1 = n) : getL (w :: r) n = some w.2 := by simp [getL, List.find?_cons, e]
theorem getL_neg {w : Int × List Int} {r : PL} {n : Int} (e : ¬ w.1 = n) : getL (w :: r) n = getL r n := by simp [getL, List.find?_cons, e]
theorem getL_any (n : Int) : ∀ l : PL, (l.any fun w => decide (w.1 = n)) = (getL l n).isSome
  | [] => rfl
  | w :: r => by
    by_cases e : w.1 = n
    · rw [getL_pos e]; simp [e]
    · rw [getL_neg e, List.any_cons, getL_any n r]; simp [e]
theorem getL_map (n j : Int) (xs : List Int) : ∀ l : PL, getL (l.map fun w => if w.1 = n then (w.1, xs) else w) j = if j = n then (getL l j).map (fun _ => xs) else getL l j
  | [] => by simp [getL_nil]
  | w :: r => by
    have ih := getL_map n j xs r
    rw [List.map_cons]
    by_cases e : w.1 = n
    · rw [if_pos e]
      by_cases h : j = n
      · rw [if_pos h, getL_pos (show w.1 = j by rw [e, h]), getL_pos (show (w.1, xs).1 = j by show w.1 = j; rw [e, h])]; rfl
      · have h1 : ¬ w.1 = j := fun z => h (by rw [← z, e])
        rw [if_neg h, getL_neg h1, getL_neg (show ¬ (w.1, xs).1 = j from h1), ih, if_neg h]
    · rw [if_neg e]
      by_cases h1 : w.1 = j
      · have h : ¬ j = n := fun z => e (by rw [h1, z])
        rw [if_neg h, getL_pos h1, getL_pos h1]
      · rw [getL_neg h1, getL_neg h1, ih]
theorem getL_app (j : Int) (m : PL) : ∀ l : PL, getL (l ++ m) j = match getL l j with | some x => some x | none => getL m j
  | [] => rfl
  | w :: r => by
    rw [List.cons_append]
    by_cases e : w.1 = j
    · rw [getL_pos e, getL_pos e]
    · rw [getL_neg e, getL_neg e, getL_app j m r]
theorem getL_put (l : PL) (n j : Int) (xs : List Int) : getL (putL l n xs) j = if j = n then some xs else getL l j := by
  unfold putL
  by_cases a : (l.any fun w => decide (w.1 = n)) = true
  · rw [if_pos a, getL_map]
    rw [getL_any] at a
    by_cases e : j = n
    · rw [if_pos e, if_pos e, e]
      cases h : getL l n with
      | none => rw [h] at a; cases a
      | some x => rfl
    · rw [if_neg e, if_neg e]
  · rw [if_neg a, getL_app]
    rw [getL_any] at a
    by_cases e : j = n
    · rw [if_pos e, e]
      cases h : getL l n with
      | none => exact getL_pos rfl
      | some x => rw [h] at a; exact absurd rfl a
    · rw [if_neg e]
      cases h : getL l j with
      | none => exact getL_neg (fun z : n = j => e z.symm)
      | some x => rfl
theorem putL_le (l : PL) (n : Int) (xs : List Int) : (putL l n xs).length ≤ l.length + 1 := by
  unfold putL
  split
  · rw [List.length_map]; exact Nat.le_succ _
  · rw [List.length_append]; exact Nat.le_refl _
theorem putL_there {l : PL} {n : Int} {x : List Int} (h : getL l n = some x) (xs : List Int) : (putL l n xs).length = l.length := by
  unfold putL
  rw [getL_any, h, if_pos (show (some x).isSome = true from rfl), List.length_map]
theorem putL_mem {l : PL} {n : Int} {xs : List Int} {w : Int × List Int} (h : w ∈ putL l n xs) : w ∈ l ∨ (w.2 = xs ∧ w.1 = n) := by
  unfold putL at h
  split at h
  · obtain ⟨u, hu, e⟩ := List.mem_map.mp h
    by_cases k : u.1 = n
    · rw [if_pos k] at e; rw [← e]; exact .inr ⟨rfl, k⟩
    · rw [if_neg k] at e; rw [← e]; exact .inl hu
  · rcases List.mem_append.mp h with h | h
    · exact .inl h
    · rw [List.mem_singleton.mp h]; exact .inr ⟨rfl, rfl⟩
theorem getL_mem {l : PL} {n : Int} {xs : List Int} (h : getL l n = some xs) : (n, xs) ∈ l := by
  unfold getL at h
  obtain ⟨w, hw, e⟩ := Option.map_eq_some_iff.mp h
  have h1 := List.mem_of_find?_eq_some hw
  have h2 : w.1 = n := of_decide_eq_true (List.find?_some (p := fun w : Int × List Int => decide (w.1 = n)) hw)
  rw [← h2, ← e]
  exact h1
theorem mergeL_len : ∀ (m l : PL), (mergeL l m).length ≤ l.length + m.length
  | [], _ => Nat.le_refl _
  | w :: r, l => by
    have h1 := mergeL_len r (putL l w.1 w.2)
    have h2 := putL_le l w.1 w.2
    show (mergeL (putL l w.1 w.2) r).length ≤ l.length + (r.length + 1)
    omega
/-- a dict's keys: no one twice -/
def NoDup (l : PL) : Prop := (l.map (·.1)).Nodup
theorem noDup_put {l : PL} (h : NoDup l) (n : Int) (xs : List Int) : NoDup (putL l n xs) := by
  unfold NoDup putL
  by_cases a : (l.any fun w => decide (w.1 = n)) = true
  · rw [if_pos a, List.map_map]
    have : l.map ((fun x : Int × List Int => x.1) ∘ fun w => if w.1 = n then (w.1, xs) else w) = l.map (·.1) := List.map_congr_left fun w _ => by
      show (if w.1 = n then (w.1, xs) else w).1 = w.1
      split <;> rfl
    rw [this]
    exact h
  · rw [if_neg a, List.map_append]
    refine List.nodup_append.mpr ⟨h, by simp, fun x hx y hy e => ?_⟩
    have hy : y = n := by simpa using hy
    obtain ⟨w, hw, e2⟩ := List.mem_map.mp hx
    exact a (List.any_eq_true.mpr ⟨w, hw, by rw [e2, e, hy]; exact decide_eq_true rfl⟩)
theorem getL_of_mem : ∀ {l : PL}, NoDup l → ∀ {w : Int × List Int}, w ∈ l → getL l w.1 = some w.2
  | [], _, w, h => by cases h
  | u :: r, hn, w, h => by
    rcases List.mem_cons.mp h with h | h
    · rw [h]; exact getL_pos rfl
    · have hn' := List.nodup_cons.mp hn
      have : ¬ u.1 = w.1 := fun z => hn'.1 (by show u.1 ∈ _; rw [z]; exact List.mem_map_of_mem (f := fun x : Int × List Int => x.1) h)
      rw [getL_neg this]
      exact getL_of_mem hn'.2 h
theorem getL_merge : ∀ (m l : PL) (n : Int), NoDup m → getL (mergeL l m) n = match getL m n with | some x => some x | none => getL l n
  | [], _, _, _ => rfl
  | w :: r, l, n, h => by
    have h' := List.nodup_cons.mp h
    show getL (mergeL (putL l w.1 w.2) r) n = _
    rw [getL_merge r _ n h'.2, getL_put]
    by_cases e : w.1 = n
    · have hr : getL r n = none := by
        cases k : getL r n with
        | none => rfl
        | some x =>
          have := getL_mem k
          exact absurd (List.mem_map_of_mem (f := fun x : Int × List Int => x.1) this) (by rw [← e]; exact h'.1)
      rw [hr, getL_pos e, if_pos e.symm]
    · rw [getL_neg e, if_neg (fun z => e z.symm)]
theorem noDup_merge : ∀ (m l : PL), NoDup l → NoDup (mergeL l m)
  | [], _, h => h
  | w :: r, l, h => noDup_merge r (putL l w.1 w.2) (noDup_put h _ _)
/-- the pages in ascending order -/
def srtL (l : PL) : PL := (PySem.W.sortI (l.map (·.1))).map fun n => (n, (getL l n).getD [])
theorem srtL_len (l : PL) : (srtL l).length = l.length := by
  unfold srtL
  rw [List.length_map, (PySem.W.sortI_perm _).length_eq, List.length_map]
theorem srtL_mem {l : PL} (h : NoDup l) {w : Int × List Int} : w ∈ srtL l ↔ w ∈ l := by
  unfold srtL
  constructor
  · intro hw
    obtain ⟨n, hn, e⟩ := List.mem_map.mp hw
    have hn := (PySem.W.sortI_perm _).mem_iff.mp hn
    obtain ⟨u, hu, e2⟩ := List.mem_map.mp hn
    have := getL_of_mem h hu
    rw [e2] at this
    rw [← e, this]
    rw [← e2]
    exact hu
  · intro hw
    refine List.mem_map.mpr ⟨w.1, (PySem.W.sortI_perm _).mem_iff.mpr (List.mem_map_of_mem hw), ?_⟩
    rw [getL_of_mem h hw]
    rfl
/-! ### steps of the device that may fail -/
abbrev DM := DS → DS × Bool
def tickD (f : DS → DS) : DM := fun d => match d.tick with
  | none => (d, false)
  | some e => (f e, true)
def andD (a b : DM) : DM := fun d => if (a d).2 = true then b (a d).1 else a d
def appD (xs : List Int) : DM := fun d => d.appendAll xs
def commitD (ws : PL) : DM := andD (appD (grpB ws)) (tickD DS.syncL)
def writesD : PL → DM
  | [] => fun d => (d, true)
  | w :: r => andD (tickD fun d => d.write w.1 w.2) (writesD r)
def syncsD : DM := andD (tickD DS.syncP) (andD (tickD fun d => d.add none) (tickD DS.syncL))
def checkD (ws : PL) : DM := andD (writesD ws) syncsD
theorem andD_ok {a b : DM} {d : DS} (h : (a d).2 = true) : andD a b d = b (a d).1 := if_pos h
theorem andD_no {a b : DM} {d : DS} (h : (a d).2 = false) : andD a b d = a d := if_neg (by rw [h]; exact Bool.false_ne_true)
theorem tickD_some {f : DS → DS} {d e : DS} (h : d.tick = some e) : tickD f d = (f e, true) := by unfold tickD; rw [h]
theorem tickD_none {f : DS → DS} {d : DS} (h : d.tick = none) : tickD f d = (d, false) := by unfold tickD; rw [h]
structure PS where
  dev : DS
  dirty : PL
  since : PL
def PS.read (s : PS) (n : Int) : List Int := match getL s.dirty n with
  | some xs => xs
  | none => match getL s.since n with
    | some xs => xs
    | none => s.dev.page n
def PS.write (s : PS) (n : Int) (xs : List Int) : PS := { s with dirty := putL s.dirty n xs }
def PS.field (s : PS) (k : Nat) : Int := nv (((s.read 0).drop (4 * k)).take 4)
def setF (xs : List Int) (k : Nat) (v : Int) : List Int := xs.take (4 * k) ++ nb 4 v ++ xs.drop (4 * k + 4)
def PS.setField (s : PS) (k : Nat) (v : Int) : PS := s.write 0 (setF (s.read 0) k v)
def padL (xs : List Int) : List Int := xs ++ List.replicate (256 - xs.length) 0
def PS.allocN (s : PS) : Int := if s.field 7 = 0 then s.field 6 else s.field 7
def PS.alloc (s : PS) : PS := if s.field 7 = 0 then (s.setField 6 (s.field 6 + 1)).write (s.field 6) zeros else (s.setField 7 (nv ((s.read (s.field 7)).take 4))).write (s.field 7) zeros
def PS.release (s : PS) (n : Int) : PS := (s.write n (padL (nb 4 (s.field 7)))).setField 7 n
def PS.count (s : PS) : PS := if s.field 6 = 0 then s.setField 6 1 else s
def PS.rollback (s : PS) : PS := ({ s with dirty := [] } : PS).count
def PS.committed (s : PS) : PS := { dev := (commitD (srtL s.dirty) s.dev).1, dirty := [], since := mergeL s.since s.dirty }
def PS.commit (s : PS) : PS := if s.dirty = [] then s else s.committed
def PS.checked (s : PS) : PS := { s with dev := (checkD (srtL s.since) s.dev).1, since := [] }
theorem read_write (s : PS) (n j : Int) (xs : List Int) : (s.write n xs).read j = if j = n then xs else s.read j := by
  unfold PS.read PS.write
  rw [getL_put]
  by_cases e : j = n
  · rw [if_pos e, if_pos e]
  · rw [if_neg e, if_neg e]
theorem setF_len {xs : List Int} {k : Nat} {v : Int} (h : xs.length = 256) (hk : k ≤ 7) : (setF xs k v).length = 256 := by
  unfold setF
  rw [List.length_append, List.length_append, List.length_take, List.length_drop, nb_len]
  omega
theorem setF_bytes {xs : List Int} {k : Nat} {v : Int} (h : ∀ x ∈ xs, 0 ≤ x ∧ x < 256) : ∀ x ∈ setF xs k v, 0 ≤ x ∧ x < 256 := fun x hx => by
  unfold setF at hx
  rcases List.mem_append.mp hx with hx | hx
  · rcases List.mem_append.mp hx with hx | hx
    · exact h x (List.mem_of_mem_take hx)
    · exact nb_byte _ _ x hx
  · exact h x (List.mem_of_mem_drop hx)
theorem setF_same {xs : List Int} {k : Nat} {v : Int} (h : xs.length = 256) (hk : k ≤ 7) : ((setF xs k v).drop (4 * k)).take 4 = nb 4 v := by
  unfold setF
  rw [List.append_assoc, drop_pre _ _ _ (by rw [List.length_take]; omega), take_pre _ _ _ (by rw [nb_len])]
theorem setF_other {xs : List Int} {k j : Nat} {v : Int} (h : xs.length = 256) (hk : k ≤ 7) (hj : j ≤ 7) (n : j ≠ k) : ((setF xs k v).drop (4 * j)).take 4 = (xs.drop (4 * j)).take 4 := by
  refine List.ext_getElem? fun i => ?_
  rw [List.getElem?_take, List.getElem?_take]
  by_cases hi : i < 4
  · rw [if_pos hi, if_pos hi, List.getElem?_drop, List.getElem?_drop]
    unfold setF
    have hl : (xs.take (4 * k)).length = 4 * k := by rw [List.length_take]; omega
    by_cases hjk : j < k
    · rw [List.getElem?_append_left (by rw [List.length_append, hl, nb_len]; omega), List.getElem?_append_left (by rw [hl]; omega), List.getElem?_take, if_pos (by omega)]
    · rw [List.getElem?_append_right (by rw [List.length_append, hl, nb_len]; omega), List.length_append, hl, nb_len, List.getElem?_drop]
      congr 1
      omega
  · rw [if_neg hi, if_neg hi]
theorem padL_len {xs : List Int} (h : xs.length ≤ 256) : (padL xs).length = 256 := by
  unfold padL
  rw [List.length_append, List.length_replicate]
  omega
/-! # a pager in the heap -/
def DcIn (F : Hp) : List (Key × V) → PL → Prop
  | [], [] => True
  | kv :: r, w :: s => kv.1 = .inl w.1 ∧ (∃ p, kv.2 = .ref p ∧ F p = some (.lst (w.2.map V.int)) ∧ w.2.length ≤ 1000) ∧ DcIn F r s
  | _, _ => False
section
variable {F F' H H' : Hp} {kvs more : List (Key × V)} {l m : PL}
theorem dcIn_len : ∀ {kvs : List (Key × V)} {l : PL}, DcIn F kvs l → kvs.length = l.length
  | [], [], _ => rfl
  | _ :: r, _ :: s, h => by rw [List.length_cons, List.length_cons, dcIn_len h.2.2]
  | [], _ :: _, h => h.elim
  | _ :: _, [], h => h.elim
theorem dcIn_ext (s : Same F F') : ∀ {kvs : List (Key × V)} {l : PL}, DcIn F kvs l → DcIn F' kvs l
  | [], [], _ => trivial
  | _ :: r, _ :: t, h => by
    obtain ⟨h1, ⟨p, h2, h3, h4⟩, h5⟩ := h
    exact ⟨h1, ⟨p, h2, s _ _ h3, h4⟩, dcIn_ext s h5⟩
  | [], _ :: _, h => h.elim
  | _ :: _, [], h => h.elim
theorem dcIn_get (n : Int) : ∀ {kvs : List (Key × V)} {l : PL}, DcIn F kvs l → (valV kvs (.inl n) = none ∧ getL l n = none) ∨ ∃ p xs, valV kvs (.inl n) = some (.ref p) ∧ getL l n = some xs ∧ F p = some (.lst (xs.map V.int)) ∧ xs.length ≤ 1000
  | [], [], _ => .inl ⟨rfl, rfl⟩
  | kv :: r, w :: t, h => by
    obtain ⟨h1, ⟨p, h2, h3, h4⟩, h5⟩ := h
    by_cases e : w.1 = n
    · exact .inr ⟨p, w.2, by rw [valV_pos (by rw [h1, e]), h2], getL_pos e, h3, h4⟩
    · have e' : ¬ kv.1 = .inl n := fun z => e (by rw [h1] at z; exact Sum.inl.inj z)
      rw [valV_neg e', getL_neg e]
      exact dcIn_get n h5
  | [], _ :: _, h => h.elim
  | _ :: _, [], h => h.elim
theorem dcIn_any (n : Int) (h : DcIn F kvs l) : (kvs.any fun kv => decide (kv.1 = (Sum.inl n : Key))) = (l.any fun w => decide (w.1 = n)) := by
  rw [valV_any, getL_any]
  rcases dcIn_get n h with ⟨a, b⟩ | ⟨p, xs, a, b, _⟩
  · rw [a, b]; rfl
  · rw [a, b]; rfl
theorem dcIn_app : ∀ {kvs : List (Key × V)} {l : PL}, DcIn F kvs l → DcIn F more m → DcIn F (kvs ++ more) (l ++ m)
  | [], [], _, k => k
  | _ :: r, _ :: t, h, k => ⟨h.1, h.2.1, dcIn_app h.2.2 k⟩
  | [], _ :: _, h, _ => h.elim
  | _ :: _, [], h, _ => h.elim
theorem dcIn_map {n : Int} {p : Addr} {xs : List Int} (hp : F p = some (.lst (xs.map V.int))) (hx : xs.length ≤ 1000) : ∀ {kvs : List (Key × V)} {l : PL}, DcIn F kvs l →
    DcIn F (kvs.map fun kv => if kv.1 = .inl n then (kv.1, .ref p) else kv) (l.map fun w => if w.1 = n then (w.1, xs) else w)
  | [], [], _ => trivial
  | kv :: r, w :: t, h => by
    have ih := dcIn_map (n := n) hp hx h.2.2
    rw [List.map_cons, List.map_cons]
    by_cases e : w.1 = n
    · have e' : kv.1 = .inl n := by rw [h.1, e]
      rw [if_pos e, if_pos e']
      exact ⟨h.1, ⟨p, rfl, hp, hx⟩, ih⟩
    · have e' : ¬ kv.1 = .inl n := fun z => e (by rw [h.1] at z; exact Sum.inl.inj z)
      rw [if_neg e, if_neg e']
      exact ⟨h.1, h.2.1, ih⟩
  | [], _ :: _, h => h.elim
  | _ :: _, [], h => h.elim
theorem dcIn_put {n : Int} {p : Addr} {xs : List Int} (h : DcIn F kvs l) (hp : F p = some (.lst (xs.map V.int))) (hx : xs.length ≤ 1000) : DcIn F (putK kvs (.inl n) (.ref p)) (putL l n xs) := by
  unfold putK putL
  rw [dcIn_any n h]
  split
  · exact dcIn_map hp hx h
  · exact dcIn_app h ⟨rfl, ⟨p, rfl, hp, hx⟩, trivial⟩
theorem dcIn_merge : ∀ {more : List (Key × V)} {m : PL} {kvs : List (Key × V)} {l : PL}, DcIn F kvs l → DcIn F more m → DcIn F (mergeK kvs more) (mergeL l m)
  | [], [], _, _, h, _ => h
  | kv :: r, w :: t, kvs, l, h, k => by
    obtain ⟨h1, ⟨p, h2, h3, h4⟩, h5⟩ := k
    show DcIn F (mergeK (putK kvs kv.1 kv.2) r) (mergeL (putL l w.1 w.2) t)
    rw [h1, h2]
    exact dcIn_merge (dcIn_put h h3 h4) h5
  | [], _ :: _, _, _, _, k => k.elim
  | _ :: _, [], _, _, _, k => k.elim
theorem dcIn_keys : ∀ {kvs : List (Key × V)} {l : PL}, DcIn F kvs l → kvs.map (·.1) = (l.map (·.1)).map Sum.inl
  | [], [], _ => rfl
  | _ :: r, _ :: t, h => by rw [List.map_cons, List.map_cons, List.map_cons, h.1, dcIn_keys h.2.2]
  | [], _ :: _, h => h.elim
  | _ :: _, [], h => h.elim
end
/-- what is allowed to change, and what belongs to it behind -/
structure Frm (A : Addr → Prop) (H : Hp) (B : Addr → Prop) (H' : Hp) : Prop where
  keep : ∀ b o, ¬ A b → H b = some o → H' b = some o
  grow : ∀ b, B b → A b ∨ H b = none
theorem Frm.refl (A : Addr → Prop) (H : Hp) : Frm A H A H := ⟨fun _ _ _ e => e, fun _ h => .inl h⟩
theorem Frm.trans {A B C : Addr → Prop} {H H1 H2 : Hp} (x : Frm A H B H1) (y : Frm B H1 C H2) : Frm A H C H2 := by
  refine ⟨fun b o n e => y.keep b o (fun h => ?_) (x.keep b o n e), fun b h => ?_⟩
  · rcases x.grow b h with h | h
    · exact n h
    · rw [e] at h; cases h
  · rcases y.grow b h with h | h
    · exact x.grow b h
    · by_cases k : A b
      · exact .inl k
      · refine .inr ?_
        cases e : H b with
        | none => rfl
        | some o =>
          have := x.keep b o k e
          rw [h] at this
          cases this
theorem Frm.same {A : Addr → Prop} {H H' : Hp} (h : Same H H') : Frm A H A H' := ⟨fun b o _ e => h b o e, fun _ h => .inl h⟩
theorem Frm.to {A B C : Addr → Prop} {H H1 : Hp} (x : Frm A H B H1) (h : ∀ b, C b → B b) : Frm A H C H1 := ⟨x.keep, fun b k => x.grow b (h b k)⟩
theorem Fr.frm {dev : Addr} {g g' : DG} {H H' : Hp} (f : Fr dev g H g' H') : Frm (own dev g) H (own dev g') H' := ⟨f.keep, f.grow⟩
structure PG where
  px : Addr
  dd : Addr
  cc : Addr
  kd : List (Key × V)
  kc : List (Key × V)
  F : Hp
  dev : Addr
  g : DG
def pagF (P : PG) : List (Str × V) := [("_device", .ref P.dev), ("_dirty", .ref P.dd), ("_committed_since_checkpoint", .ref P.cc)]
structure PagAt (CD CP : Addr) (H : Hp) (pg : Addr) (P : PG) (s : PS) : Prop where
  dev : DevAt CD H P.dev P.g s.dev
  at_ : H pg = some (.ins CP P.px (pagF P))
  dd : H P.dd = some (.dK P.kd)
  cc : H P.cc = some (.dK P.kc)
  di : DcIn P.F P.kd s.dirty
  ci : DcIn P.F P.kc s.since
  sm : Same P.F H
  f0 : P.F pg = none
  f1 : P.F P.dd = none
  f2 : P.F P.cc = none
  ne : P.dd ≠ P.cc
  o0 : ¬ own P.dev P.g pg
  o1 : ¬ own P.dev P.g P.dd
  o2 : ¬ own P.dev P.g P.cc
  o3 : ∀ b o, P.F b = some o → ¬ own P.dev P.g b
def ownP (pg : Addr) (P : PG) (b : Addr) : Prop := b = pg ∨ b = P.dd ∨ b = P.cc ∨ (∃ o, P.F b = some o) ∨ own P.dev P.g b
theorem lkp_dev {P : PG} : (pagF P).lookup ("_device" : Str) = some (.ref P.dev) := fld_hd
theorem lkp_dd {P : PG} : (pagF P).lookup ("_dirty" : Str) = some (.ref P.dd) := (fld_tl (by decide +kernel)).trans fld_hd
theorem lkp_cc {P : PG} : (pagF P).lookup ("_committed_since_checkpoint" : Str) = some (.ref P.cc) := (fld_tl (by decide +kernel)).trans ((fld_tl (by decide +kernel)).trans fld_hd)
theorem lkp_no {P : PG} {m : Str} (h : (["_device", "_dirty", "_committed_since_checkpoint"] : List Str).all (fun f => !(m == f)) = true) : (pagF P).lookup m = none := by
  simp only [List.all_cons, List.all_nil, Bool.and_true, Bool.and_eq_true, Bool.not_eq_true'] at h
  obtain ⟨h1, h2, h3⟩ := h
  exact (fld_tl h1).trans ((fld_tl h2).trans ((fld_tl h3).trans rfl))
theorem putp_dd {P : PG} {q : Addr} : putF "_dirty" (.ref q) (pagF P) = pagF { P with dd := q } := set_tl (by decide +kernel) set_hd
theorem putp_cc {P : PG} {q : Addr} : putF "_committed_since_checkpoint" (.ref q) (pagF P) = pagF { P with cc := q } := set_tl (by decide +kernel) (set_tl (by decide +kernel) set_hd)
section
variable {CD CP pg p : Addr} {H H' : Hp} {P : PG} {s : PS} {o : HO}
theorem PagAt.n1 (D : PagAt CD CP H pg P s) : P.dd ≠ pg := ne_of D.dd D.at_ (fun z => nomatch z)
theorem PagAt.n2 (D : PagAt CD CP H pg P s) : P.cc ≠ pg := ne_of D.cc D.at_ (fun z => nomatch z)
theorem PagAt.has (D : PagAt CD CP H pg P s) {b : Addr} (h : ownP pg P b) : ∃ o, H b = some o := by
  rcases h with rfl | rfl | rfl | ⟨o, e⟩ | h
  · exact ⟨_, D.at_⟩
  · exact ⟨_, D.dd⟩
  · exact ⟨_, D.cc⟩
  · exact ⟨_, D.sm _ _ e⟩
  · exact D.dev.has h
theorem PagAt.not_own (D : PagAt CD CP H pg P s) {b : Addr} (h : H b = none) : ¬ ownP pg P b := fun k => by
  obtain ⟨o, e⟩ := D.has k
  rw [h] at e
  cases e
/-- what others change -/
theorem PagAt.kp (D : PagAt CD CP H pg P s) (h : ∀ b o, ownP pg P b → H b = some o → H' b = some o) : PagAt CD CP H' pg P s :=
  ⟨D.dev.kp fun b o k => h b o (.inr (.inr (.inr (.inr k)))), h _ _ (.inl rfl) D.at_, h _ _ (.inr (.inl rfl)) D.dd, h _ _ (.inr (.inr (.inl rfl))) D.cc, D.di, D.ci, fun b o e => h _ _ (.inr (.inr (.inr (.inl ⟨o, e⟩)))) (D.sm _ _ e), D.f0, D.f1, D.f2, D.ne, D.o0, D.o1, D.o2, D.o3⟩
theorem PagAt.same (D : PagAt CD CP H pg P s) (h : Same H H') : PagAt CD CP H' pg P s := D.kp fun b o _ e => h b o e
/-- a call of the device -/
theorem PagAt.devStep (D : PagAt CD CP H pg P s) {g' : DG} {d' : DS} (D' : DevAt CD H' P.dev g' d') (f : Fr P.dev P.g H g' H') : PagAt CD CP H' pg { P with g := g' } { s with dev := d' } := by
  have no : ∀ {b : Addr} {o : HO}, ¬ own P.dev P.g b → H b = some o → ¬ own P.dev g' b := fun n e k => by
    rcases f.grow _ k with k | k
    · exact n k
    · rw [e] at k; cases k
  exact ⟨D', f.keep _ _ D.o0 D.at_, f.keep _ _ D.o1 D.dd, f.keep _ _ D.o2 D.cc, D.di, D.ci, fun b o e => f.keep _ _ (D.o3 b o e) (D.sm _ _ e), D.f0, D.f1, D.f2, D.ne, no D.o0 D.at_, no D.o1 D.dd, no D.o2 D.cc, fun b o e => no (D.o3 b o e) (D.sm _ _ e)⟩
theorem Frm.dev {g' : DG} (f : Fr P.dev P.g H g' H') : Frm (ownP pg P) H (ownP pg { P with g := g' }) H' := by
  refine ⟨fun b o n e => f.keep b o (fun k => n (.inr (.inr (.inr (.inr k))))) e, fun b h => ?_⟩
  rcases h with h | h | h | h | h
  · exact .inl (.inl h)
  · exact .inl (.inr (.inl h))
  · exact .inl (.inr (.inr (.inl h)))
  · exact .inl (.inr (.inr (.inr (.inl h))))
  · rcases f.grow b h with h | h
    · exact .inl (.inr (.inr (.inr (.inr h))))
    · exact .inr h
/-- a new list is put among what stays -/
theorem PagAt.ext (D : PagAt CD CP H pg P s) (hp : H p = none) : PagAt CD CP (upd H p o) pg { P with F := upd P.F p o } s := by
  have hF : P.F p = none := D.sm.free hp
  have s1 : Same P.F (upd P.F p o) := same_upd hF
  have s2 : Same H (upd H p o) := same_upd hp
  have nn : ∀ {b : Addr} {u : HO}, H b = some u → P.F b = none → upd P.F p o b = none := fun e f => by rw [upd_ne (ne_of_none e hp)]; exact f
  refine ⟨D.dev.same s2, s2 _ _ D.at_, s2 _ _ D.dd, s2 _ _ D.cc, dcIn_ext s1 D.di, dcIn_ext s1 D.ci, fun b u e => ?_, nn D.at_ D.f0, nn D.dd D.f1, nn D.cc D.f2, D.ne, D.o0, D.o1, D.o2, fun b u e => ?_⟩
  · have e : upd P.F p o b = some u := e
    by_cases hb : b = p
    · subst hb; rw [upd_same] at e ⊢; exact e
    · rw [upd_ne hb] at e ⊢; exact D.sm b u e
  · have e : upd P.F p o b = some u := e
    by_cases hb : b = p
    · subst hb; exact D.dev.not_own hp
    · rw [upd_ne hb] at e; exact D.o3 b u e
theorem Frm.ext (hp : H p = none) : Frm (ownP pg P) H (ownP pg { P with F := upd P.F p o }) (upd H p o) := ⟨fun b u _ e => same_upd hp b u e, fun b h => by
  rcases h with h | h | h | ⟨u, e⟩ | h
  · exact .inl (.inl h)
  · exact .inl (.inr (.inl h))
  · exact .inl (.inr (.inr (.inl h)))
  · have e : upd P.F p o b = some u := e
    by_cases hb : b = p
    · subst hb; exact .inr hp
    · rw [upd_ne hb] at e; exact .inl (.inr (.inr (.inr (.inl ⟨u, e⟩))))
  · exact .inl (.inr (.inr (.inr (.inr h))))⟩
/-- a dirty page -/
theorem PagAt.put (D : PagAt CD CP H pg P s) {n : Int} {xs : List Int} (hp : P.F p = some (.lst (xs.map V.int))) (hx : xs.length ≤ 1000) : PagAt CD CP (upd H P.dd (.dK (putK P.kd (.inl n) (.ref p)))) pg { P with kd := putK P.kd (.inl n) (.ref p) } (s.write n xs) :=
  ⟨D.dev.kp fun b o k e => by rw [upd_ne (fun z => D.o1 (by rw [← z]; exact k))]; exact e, by rw [upd_ne D.n1.symm]; exact D.at_, upd_same, by show upd H P.dd _ P.cc = _; rw [upd_ne D.ne.symm]; exact D.cc, dcIn_put D.di hp hx, D.ci, fun b u e => by show upd H P.dd _ b = _; rw [upd_ne (ne_of_none e D.f1)]; exact D.sm b u e, D.f0, D.f1, D.f2, D.ne, D.o0, D.o1, D.o2, D.o3⟩
theorem Frm.dd {kd : List (Key × V)} : Frm (ownP pg P) H (ownP pg { P with kd := kd }) (upd H P.dd o) := ⟨fun b u n e => by rw [upd_ne (fun z => n (.inr (.inl z)))]; exact e, fun _ h => .inl h⟩
/-- the committed pages -/
theorem PagAt.cput (D : PagAt CD CP H pg P s) {kc : List (Key × V)} {l : PL} (h : DcIn P.F kc l) : PagAt CD CP (upd H P.cc (.dK kc)) pg { P with kc := kc } { s with since := l } :=
  ⟨D.dev.kp fun b o k e => by rw [upd_ne (fun z => D.o2 (by rw [← z]; exact k))]; exact e, by rw [upd_ne D.n2.symm]; exact D.at_, by show upd H P.cc _ P.dd = _; rw [upd_ne D.ne]; exact D.dd, upd_same, D.di, h, fun b u e => by show upd H P.cc _ b = _; rw [upd_ne (ne_of_none e D.f2)]; exact D.sm b u e, D.f0, D.f1, D.f2, D.ne, D.o0, D.o1, D.o2, D.o3⟩
theorem Frm.cc {kc : List (Key × V)} : Frm (ownP pg P) H (ownP pg { P with kc := kc }) (upd H P.cc o) := ⟨fun b u n e => by rw [upd_ne (fun z => n (.inr (.inr (.inl z))))]; exact e, fun _ h => .inl h⟩
/-- no dirty pages: a new dict in the field -/
theorem PagAt.noD (D : PagAt CD CP H pg P s) (hp : H p = none) : PagAt CD CP (upd (upd H p (.dK [])) pg (.ins CP P.px (pagF { P with dd := p }))) pg { P with dd := p, kd := [] } { s with dirty := [] } := by
  have s2 : Same H (upd H p (.dK [])) := same_upd hp
  have np : p ≠ pg := (ne_of_none D.at_ hp).symm
  refine ⟨(D.dev.same s2).kp fun b o k e => by rw [upd_ne (fun z => D.o0 (by rw [← z]; exact k))]; exact e, upd_same, by show upd _ pg _ p = _; rw [upd_ne np]; exact upd_same, by show upd _ pg _ P.cc = _; rw [upd_ne D.n2]; exact s2 _ _ D.cc, trivial, D.ci, fun b u e => by show upd _ pg _ b = _; rw [upd_ne (ne_of_none e D.f0)]; exact s2 _ _ (D.sm b u e), D.f0, D.sm.free hp, D.f2, (ne_of_none D.cc hp).symm, D.o0, D.dev.not_own hp, D.o2, D.o3⟩
theorem Frm.noD (hp : H p = none) {o' : HO} : Frm (ownP pg P) H (ownP pg { P with dd := p, kd := [] }) (upd (upd H p o') pg o) := ⟨fun b u n e => by rw [upd_ne (fun z => n (.inl z))]; exact same_upd hp b u e, fun b h => by
  rcases h with h | h | h | h | h
  · exact .inl (.inl h)
  · have h : b = p := h
    subst h
    exact .inr hp
  · exact .inl (.inr (.inr (.inl h)))
  · exact .inl (.inr (.inr (.inr (.inl h))))
  · exact .inl (.inr (.inr (.inr (.inr h))))⟩
theorem PagAt.noC (D : PagAt CD CP H pg P s) (hp : H p = none) : PagAt CD CP (upd (upd H p (.dK [])) pg (.ins CP P.px (pagF { P with cc := p }))) pg { P with cc := p, kc := [] } { s with since := [] } := by
  have s2 : Same H (upd H p (.dK [])) := same_upd hp
  have np : p ≠ pg := (ne_of_none D.at_ hp).symm
  refine ⟨(D.dev.same s2).kp fun b o k e => by rw [upd_ne (fun z => D.o0 (by rw [← z]; exact k))]; exact e, upd_same, by show upd _ pg _ P.dd = _; rw [upd_ne D.n1]; exact s2 _ _ D.dd, by show upd _ pg _ p = _; rw [upd_ne np]; exact upd_same, D.di, trivial, fun b u e => by show upd _ pg _ b = _; rw [upd_ne (ne_of_none e D.f0)]; exact s2 _ _ (D.sm b u e), D.f0, D.f1, D.sm.free hp, ne_of_none D.dd hp, D.o0, D.o1, D.dev.not_own hp, D.o3⟩
theorem Frm.noC (hp : H p = none) {o' : HO} : Frm (ownP pg P) H (ownP pg { P with cc := p, kc := [] }) (upd (upd H p o') pg o) := ⟨fun b u n e => by rw [upd_ne (fun z => n (.inl z))]; exact same_upd hp b u e, fun b h => by
  rcases h with h | h | h | h | h
  · exact .inl (.inl h)
  · exact .inl (.inr (.inl h))
  · have h : b = p := h
    subst h
    exact .inr hp
  · exact .inl (.inr (.inr (.inr (.inl h))))
  · exact .inl (.inr (.inr (.inr (.inr h))))⟩
end
end Nv
namespace Nv
open PySem L2
theorem appendAll_rest : ∀ (xs : List Int) (d : DS), (d.appendAll xs).1.writes = d.writes ∧ (d.appendAll xs).1.pages = d.pages ∧ (d.appendAll xs).1.log = d.log ∧ (d.appendAll xs).1.steps.length ≤ d.steps.length + xs.length
  | [], d => ⟨rfl, rfl, rfl, Nat.le_refl _⟩
  | b :: r, d => by
    unfold DS.appendAll
    cases h : d.tick with
    | none => exact ⟨rfl, rfl, rfl, by simp⟩
    | some e =>
      obtain ⟨h1, h2, h3, h4⟩ := appendAll_rest r (e.add (some b))
      have ht : e.pages = d.pages ∧ e.writes = d.writes ∧ e.log = d.log ∧ e.steps = d.steps := by
        unfold DS.tick at h
        cases ha : d.allowed with
        | none =>
          rw [ha] at h
          cases h
          exact ⟨rfl, rfl, rfl, rfl⟩
        | some a =>
          rw [ha] at h
          by_cases h0 : a ≤ 0
          · have h : (if a ≤ 0 then none else some { d with done := d.done + 1, allowed := some (a - 1) }) = some e := h
            rw [if_pos h0] at h
            cases h
          · have h : (if a ≤ 0 then none else some { d with done := d.done + 1, allowed := some (a - 1) }) = some e := h
            rw [if_neg h0] at h
            cases h
            exact ⟨rfl, rfl, rfl, rfl⟩
      refine ⟨h1.trans ht.2.1, h2.trans ht.1, h3.trans ht.2.2.1, ?_⟩
      have : (e.add (some b)).steps.length = d.steps.length + 1 := by
        show (e.steps ++ [some b]).length = _
        rw [List.length_append, ht.2.2.2]
        rfl
      rw [List.length_cons]
      show ((e.add (some b)).appendAll r).1.steps.length ≤ _
      omega
/-- a pager that is opened: before the checkpoint -/
def PS.opening (d : DS) (gs : List (List (Int × List Int))) : PS := ⟨d, [], gs.foldl (fun l g => mergeL l g) []⟩
def PS.opened (d : DS) (gs : List (List (Int × List Int))) : PS := (if d.logNow = [] then PS.opening d gs else (PS.opening d gs).checked).count
theorem PagAt.new {CD CP pg dev : Addr} {H F : Hp} {px dd cc : Addr} {g : DG} {d : DS} (D : DevAt CD H dev g d) (sm : Same F H) (h1 : H pg = some (.ins CP px (pagF ⟨px, dd, cc, [], [], F, dev, g⟩))) (h2 : H dd = some (.dK [])) (h3 : H cc = some (.dK []))
    (f0 : F pg = none) (f1 : F dd = none) (f2 : F cc = none) (ne : dd ≠ cc) (o0 : ¬ own dev g pg) (o1 : ¬ own dev g dd) (o2 : ¬ own dev g cc) (o3 : ∀ b o, F b = some o → ¬ own dev g b) : PagAt CD CP H pg ⟨px, dd, cc, [], [], F, dev, g⟩ ⟨d, [], []⟩ :=
  ⟨D, h1, h2, h3, trivial, trivial, sm, f0, f1, f2, ne, o0, o1, o2, o3⟩
theorem wr_pairOk {F : Hp} {vs : List V} {ws : List (Int × List Int)} (W : WrIn F vs ws) : ∀ w ∈ ws, w.2.length ≤ 1000 := fun w hw => by
  obtain ⟨i, hi, e⟩ := List.getElem_of_mem hw
  have hl := W.len
  obtain ⟨t, p, _, _, _, h⟩ := W.each i (vs[i]'(by omega)) w (List.getElem?_eq_getElem (by omega)) (by rw [← e]; exact List.getElem?_eq_getElem hi)
  exact h
end Nv

namespace Nv
open PySem L2
/-! # regions of a heap that stand apart -/
structure Rg where
  A : Addr → Prop
  P : Hp → Prop
  loc : ∀ H H' : Hp, P H → (∀ b o, A b → H b = some o → H' b = some o) → P H'
  has : ∀ (H : Hp) (b : Addr), P H → A b → ∃ o, H b = some o
structure Ap (rs : List Rg) (H : Hp) : Prop where
  each : ∀ r ∈ rs, r.P H
  apart : rs.Pairwise fun r q => ∀ b, r.A b → q.A b → False
section
variable {r r' q x y z : Rg} {rs rs' : List Rg} {H H' : Hp}
theorem Ap.nil : Ap [] H := ⟨fun _ h => (by cases h), .nil⟩
theorem Ap.hd (w : Ap (r :: rs) H) : r.P H := w.each r (List.mem_cons_self ..)
theorem Ap.tl (w : Ap (r :: rs) H) : Ap rs H := ⟨fun q h => w.each q (List.mem_cons_of_mem _ h), (List.pairwise_cons.mp w.apart).2⟩
theorem Ap.get (w : Ap rs H) (h : r ∈ rs) : r.P H := w.each r h
theorem Ap.same (w : Ap rs H) (s : Same H H') : Ap rs H' := ⟨fun r h => r.loc H H' (w.each r h) fun b o _ e => s b o e, w.apart⟩
theorem Ap.perm (w : Ap rs H) (p : rs.Perm rs') : Ap rs' H := ⟨fun r h => w.each r (p.mem_iff.mpr h), p.pairwise w.apart fun h b x y => h b y x⟩
/-- the first one changes -/
theorem Ap.on (w : Ap (r :: rs) H) (f : Frm r.A H r'.A H') (p : r'.P H') : Ap (r' :: rs) H' := by
  obtain ⟨h1, h2⟩ := List.pairwise_cons.mp w.apart
  have k : ∀ q ∈ rs, q.P H' := fun q hq => q.loc H H' (w.each q (List.mem_cons_of_mem _ hq)) fun b o a e => f.keep b o (fun z => h1 q hq b z a) e
  refine ⟨fun q hq => ?_, List.pairwise_cons.mpr ⟨fun q hq b a c => ?_, h2⟩⟩
  · rcases List.mem_cons.mp hq with hq | hq
    · rw [hq]; exact p
    · exact k q hq
  · rcases f.grow b a with a | a
    · exact h1 q hq b a c
    · obtain ⟨o, e⟩ := q.has H b (w.each q (List.mem_cons_of_mem _ hq)) c
      rw [a] at e
      cases e
theorem Ap.swap (w : Ap (x :: y :: rs) H) : Ap (y :: x :: rs) H := w.perm (.swap ..)
theorem Ap.rot3 (w : Ap (x :: y :: z :: rs) H) : Ap (z :: x :: y :: rs) H := w.perm (((List.Perm.swap ..).cons _).trans (.swap ..))
theorem Ap.on2 (w : Ap (x :: r :: rs) H) (f : Frm r.A H r'.A H') (p : r'.P H') : Ap (x :: r' :: rs) H' := (w.swap.on f p).swap
theorem Ap.on3 (w : Ap (x :: y :: r :: rs) H) (f : Frm r.A H r'.A H') (p : r'.P H') : Ap (x :: y :: r' :: rs) H' := (w.rot3.on f p).perm ((List.Perm.swap ..).trans ((List.Perm.swap ..).cons _))
theorem Ap.on4 (w : Ap (x :: y :: z :: r :: rs) H) (f : Frm r.A H r'.A H') (p : r'.P H') : Ap (x :: y :: z :: r' :: rs) H' :=
  ((w.perm (rs' := r :: x :: y :: z :: rs) ((((List.Perm.swap ..).cons _).cons _).trans (((List.Perm.swap ..).cons _).trans (.swap ..)))).on f p).perm ((List.Perm.swap ..).trans (((List.Perm.swap ..).cons _).trans (((List.Perm.swap ..).cons _).cons _)))
/-- a new one -/
theorem Ap.add (w : Ap rs H) (s : Same H H') (n : ∀ b, r.A b → H b = none) (p : r.P H') : Ap (r :: rs) H' := by
  have w' := w.same s
  refine ⟨fun q hq => ?_, List.pairwise_cons.mpr ⟨fun q hq b a c => ?_, w.apart⟩⟩
  · rcases List.mem_cons.mp hq with hq | hq
    · rw [hq]; exact p
    · exact w'.each q hq
  · obtain ⟨o, e⟩ := q.has H b (w.each q hq) c
    rw [n b a] at e
    cases e
theorem Ap.drop2 (w : Ap (x :: r :: rs) H) : Ap (x :: rs) H := w.swap.tl
theorem Ap.drop3 (w : Ap (x :: y :: r :: rs) H) : Ap (x :: y :: rs) H := w.rot3.tl
/-- told anew -/
theorem Ap.weak (w : Ap (r :: rs) H) (ha : ∀ b, r'.A b → r.A b) (hp : r.P H → r'.P H) : Ap (r' :: rs) H := w.on ⟨fun _ _ _ e => e, fun b h => .inl (ha b h)⟩ (hp w.hd)
end
/-- the drawing state with all that stood before -/
def rgDr (K : Frag) (H0 : Hp) (st sc : Addr) (ns : List Int) : Rg where
  A := fun b => b = st ∨ ∃ o, H0 b = some o
  P := fun H => Dr K H0 H st sc ns
  loc := fun H H' D k => by
    obtain ⟨i, d, hi, hd, e⟩ := D.ex
    exact ⟨D.sq, fun b o h => k b o (.inr ⟨o, h⟩) (D.same b o h), D.new, i, d, hi, hd, k _ _ (.inl rfl) e⟩
  has := fun H b D h => by
    rcases h with rfl | ⟨o, h⟩
    · obtain ⟨i, d, _, _, e⟩ := D.ex
      exact ⟨_, e⟩
    · exact ⟨o, D.same b o h⟩
theorem Frm.draw {K : Frag} {H0 H H' : Hp} {st sc : Addr} {ns : List Int} (hB : But st H H') : Frm (rgDr K H0 st sc ns).A H (rgDr K H0 st sc ns).A H' := ⟨fun b o n e => by rw [hB b (fun z => n (.inl z))]; exact e, fun _ h => .inl h⟩
theorem Frm.drawK {K : Frag} {H0 H H' : Hp} {st sc : Addr} {ns : List Int} (hB : Kp st H H') : Frm (rgDr K H0 st sc ns).A H (rgDr K H0 st sc ns).A H' := ⟨fun b o n e => hB b o (fun z => n (.inl z)) e, fun _ h => .inl h⟩
def rgPg (CD CP pg : Addr) (P : PG) (s : PS) : Rg := ⟨ownP pg P, fun H => PagAt CD CP H pg P s, fun _ _ D k => D.kp k, fun _ _ D h => D.has h⟩
def rgDv (CD dev : Addr) (g : DG) (d : DS) : Rg := ⟨own dev g, fun H => DevAt CD H dev g d, fun _ _ D k => D.kp k, fun _ _ D h => D.has h⟩
/-- what stays for ever -/
def rgF (F : Hp) : Rg := ⟨fun b => ∃ o, F b = some o, fun H => Same F H, fun _ _ s k b o e => k b o ⟨o, e⟩ (s b o e), fun _ b s ⟨o, e⟩ => ⟨o, s b o e⟩⟩
/-- one thing -/
def rgO (a : Addr) (o : HO) : Rg := ⟨fun b => b = a, fun H => H a = some o, fun _ _ e k => k _ _ rfl e, fun _ b e h => ⟨o, by rw [h]; exact e⟩⟩
section
variable {rs : List Rg} {H H' F : Hp} {p : Addr} {o o' : HO}
/-- a new thing is put among what stays -/
theorem Ap.frz (w : Ap (rgF F :: rs) H) (hp : H p = none) : Ap (rgF (upd F p o) :: rs) (upd H p o) := by
  refine w.on ⟨fun b u _ e => same_upd hp b u e, fun b h => ?_⟩ ?_
  · obtain ⟨u, h⟩ := h
    by_cases hb : b = p
    · rw [hb]; exact .inr hp
    · have h : upd F p o b = some u := h
      rw [upd_ne hb] at h
      exact .inl ⟨u, h⟩
  · have s : Same F H := w.hd
    exact fun b u e => by
      by_cases hb : b = p
      · subst hb; rw [upd_same] at e ⊢; exact e
      · rw [upd_ne hb] at e ⊢; exact s b u e
theorem Ap.freeF (w : Ap (rgF F :: rs) H) (hp : H p = none) : F p = none := Same.free (w.hd : Same F H) hp
theorem Ap.new (w : Ap rs H) (hp : H p = none) : Ap (rgO p o :: rs) (upd H p o) := w.add (same_upd hp) (fun b h => by rw [show b = p from h]; exact hp) upd_same
theorem Ap.obj (w : Ap (rgO p o :: rs) H) : H p = some o := w.hd
theorem Ap.set (w : Ap (rgO p o :: rs) H) : Ap (rgO p o' :: rs) (upd H p o') := w.on ⟨fun b u n e => by rw [upd_ne n]; exact e, fun _ h => .inl h⟩ upd_same
/-- one's own thing is put among what stays -/
theorem Ap.give (w : Ap (rgO p o :: rgF F :: rs) H) : Ap (rgF (upd F p o) :: rs) H ∧ F p = none := by
  obtain ⟨h1, h2⟩ := List.pairwise_cons.mp w.apart
  have sF : Same F H := w.each _ (List.mem_cons_of_mem _ (List.mem_cons_self ..))
  have hF : F p = none := by
    cases h : F p with
    | none => rfl
    | some u => exact (h1 _ (List.mem_cons_self ..) p rfl ⟨u, h⟩).elim
  have hx : ∀ b u, upd F p o b = some u → b = p ∨ F b = some u := fun b u h => by
    by_cases hb : b = p
    · exact .inl hb
    · rw [upd_ne hb] at h; exact .inr h
  refine ⟨⟨fun q hq => ?_, List.pairwise_cons.mpr ⟨fun q hq b a c => ?_, (List.pairwise_cons.mp h2).2⟩⟩, hF⟩
  · rcases List.mem_cons.mp hq with hq | hq
    · rw [hq]
      exact fun b u e => by
        by_cases hb : b = p
        · subst hb; rw [upd_same] at e; rw [← e]; exact w.hd
        · rw [upd_ne hb] at e; exact sF b u e
    · exact w.each q (List.mem_cons_of_mem _ (List.mem_cons_of_mem _ hq))
  · obtain ⟨u, a⟩ := a
    rcases hx b u a with a | a
    · exact h1 q (List.mem_cons_of_mem _ hq) b a c
    · exact (List.pairwise_cons.mp h2).1 q hq b ⟨u, a⟩ c
end
end Nv
namespace Nv
open PySem L2
/-- a thing of no one changes -/
theorem Ap.other {rs : List Rg} {H : Hp} {p : Addr} {o : HO} (w : Ap rs H) (n : ∀ r ∈ rs, ¬ r.A p) : Ap rs (upd H p o) := ⟨fun r h => r.loc H _ (w.each r h) fun b u a e => by rw [upd_ne (fun z => n r h (by rw [← z]; exact a))]; exact e, w.apart⟩
theorem erase_at {l : List Int} (hnd : l.Nodup) : ∀ {j : Nat} {n : Int}, l[j]? = some n → l.eraseIdx j = l.erase n := by
  induction l with
  | nil => intro j n h; simp at h
  | cons a r ih =>
    intro j n h
    have h2 := List.nodup_cons.mp hnd
    cases j with
    | zero =>
      have : a = n := Option.some.inj h
      rw [this, List.erase_cons_head]
      rfl
    | succ j =>
      have h : r[j]? = some n := by simpa using h
      have hm : n ∈ r := List.mem_of_getElem? h
      have : ¬ (a == n) = true := fun z => h2.1 (by rw [eq_of_beq z]; exact hm)
      rw [List.erase_cons_tail this, List.eraseIdx_cons_succ, ih h2.2 h]
end Nv
namespace Nv
open PySem L2
def rgIni (CD pg : Addr) (o : HO) (dev : Addr) (g : DG) (d : DS) : Rg where
  A := fun b => b = pg ∨ own dev g b
  P := fun H => H pg = some o ∧ DevAt CD H dev g d
  loc := fun H H' D k => ⟨k _ _ (.inl rfl) D.1, D.2.kp fun b o h => k b o (.inr h)⟩
  has := fun H b D h => by
    rcases h with rfl | h
    · exact ⟨_, D.1⟩
    · exact D.2.has h
theorem Ap.ini {CD pg dev : Addr} {o : HO} {g : DG} {d : DS} {rs : List Rg} {H H' : Hp} (w : Ap (rgDv CD dev g d :: rs) H) (s : Same H H') (n : H pg = none) (e : H' pg = some o) : Ap (rgIni CD pg o dev g d :: rs) H' :=
  w.on ⟨fun b u _ h => s b u h, fun b h => by
    rcases h with h | h
    · rw [h]; exact .inr n
    · exact .inl h⟩ ⟨e, (w.hd : DevAt CD H dev g d).same s⟩
theorem Ap.one {r : Rg} {H : Hp} (p : r.P H) : Ap [r] H := ⟨fun q h => by rw [List.mem_singleton.mp h]; exact p, List.pairwise_singleton _ _⟩
theorem crash_id {d : DS} (h1 : d.writes = []) (h2 : d.steps = []) (h3 : d.allowed = none) : d.crash [] 0 = d := by
  obtain ⟨a, b, c, e, f, g⟩ := d
  obtain rfl : b = [] := h1
  obtain rfl : e = [] := h2
  obtain rfl : g = none := h3
  rfl
end Nv
namespace Nv
open PySem L2
section
variable {a b c d e x : Rg} {rs : List Rg} {H : Hp}
theorem Ap.x22 (w : Ap (a :: b :: c :: d :: rs) H) : Ap (c :: d :: a :: b :: rs) H := w.perm (List.perm_append_comm_assoc [a, b] [c, d] rs)
theorem Ap.x5 (w : Ap (a :: b :: c :: d :: e :: rs) H) : Ap (e :: a :: b :: c :: d :: rs) H := w.perm (List.perm_middle (l₁ := [a, b, c, d]))
theorem Ap.y5 (w : Ap (e :: a :: b :: c :: d :: rs) H) : Ap (a :: b :: c :: d :: e :: rs) H := w.perm (List.perm_middle (l₁ := [a, b, c, d])).symm
theorem Ap.x32 (w : Ap (x :: a :: b :: c :: d :: rs) H) : Ap (c :: d :: x :: a :: b :: rs) H := w.perm (List.perm_append_comm_assoc [x, a, b] [c, d] rs)
theorem Ap.y32 (w : Ap (c :: d :: x :: a :: b :: rs) H) : Ap (x :: a :: b :: c :: d :: rs) H := w.perm (List.perm_append_comm_assoc [c, d] [x, a, b] rs)
end
theorem first_at {l : List Int} {n : Int} (h : n ∈ l) : ∃ j : Nat, l[j]? = some n ∧ ∀ i : Nat, i < j → l[i]? ≠ some n := by
  induction l with
  | nil => cases h
  | cons a r ih =>
    by_cases e : a = n
    · exact ⟨0, by rw [e]; rfl, fun i hi => by omega⟩
    · obtain ⟨j, h1, h2⟩ := ih (by rcases List.mem_cons.mp h with h | h; exact absurd h.symm e; exact h)
      refine ⟨j + 1, by simpa using h1, fun i hi => ?_⟩
      cases i with
      | zero => exact fun z => e (Option.some.inj z)
      | succ i => exact fun z => h2 i (by omega) (by simpa using z)
end Nv
namespace Nv
open PySem L2
theorem Ap.add2 {r q : Rg} {rs : List Rg} {H H' : Hp} (w : Ap rs H) (s : Same H H') (n1 : ∀ b, r.A b → H b = none) (n2 : ∀ b, q.A b → H b = none) (d : ∀ b, r.A b → q.A b → False) (p1 : r.P H') (p2 : q.P H') : Ap (r :: q :: rs) H' := by
  have w2 := w.add s n2 p2
  refine ⟨fun x h => ?_, List.pairwise_cons.mpr ⟨fun x h b a c => ?_, w2.apart⟩⟩
  · rcases List.mem_cons.mp h with h | h
    · rw [h]; exact p1
    · exact w2.each x h
  · rcases List.mem_cons.mp h with h | h
    · rw [h] at c; exact d b a c
    · obtain ⟨o, e⟩ := x.has H b (w.each x h) c
      rw [n1 b a] at e
      cases e
section
variable {a b c d e f x : Rg} {rs : List Rg} {H : Hp}
/-- the last of six is dropped, a new one in front goes to its place -/
theorem Ap.last6 (w : Ap (x :: a :: b :: c :: d :: e :: f :: rs) H) : Ap (a :: b :: c :: d :: e :: x :: rs) H :=
  ((w.perm (List.perm_middle (l₁ := [x, a, b, c, d, e]))).tl).perm (List.perm_middle (l₁ := [a, b, c, d, e])).symm
theorem Ap.last5 (w : Ap (x :: a :: b :: c :: d :: e :: rs) H) : Ap (a :: b :: c :: d :: x :: rs) H :=
  ((w.perm (List.perm_middle (l₁ := [x, a, b, c, d]))).tl).perm (List.perm_middle (l₁ := [a, b, c, d])).symm
theorem Ap.x6 (w : Ap (a :: b :: c :: d :: e :: f :: rs) H) : Ap (f :: a :: b :: c :: d :: e :: rs) H := w.perm (List.perm_middle (l₁ := [a, b, c, d, e]))
end
end Nv

namespace Nv
open PySem L2
/-! # a device without a limit of power -/
theorem tick_free {d : DS} (h : d.allowed = none) : d.tick = some { d with done := d.done + 1 } := by
  unfold DS.tick
  rw [h]
theorem appendAll_free : ∀ (xs : List Int) (d : DS), d.allowed = none → d.appendAll xs = ({ d with steps := d.steps ++ xs.map some, done := d.done + (xs.length : Int) }, true)
  | [], d, _ => by
    obtain ⟨a, b, c, e, f, g⟩ := d
    simp [DS.appendAll]
  | x :: xs, d, h => by
    unfold DS.appendAll
    rw [tick_free h]
    show (DS.add { d with done := d.done + 1 } (some x)).appendAll xs = _
    rw [appendAll_free xs (DS.add { d with done := d.done + 1 } (some x)) h]
    simp only [DS.add, List.map_cons, List.length_cons, List.append_assoc, List.cons_append, List.nil_append]
    congr 2
    push_cast
    omega
theorem afterL_some : ∀ (xs l : List Int), afterL l (xs.map some) = l ++ xs
  | [], l => by simp [afterL]
  | x :: xs, l => by
    show afterL (l ++ [x]) (xs.map some) = _
    rw [afterL_some xs]
    simp
theorem commitD_free {d : DS} {ws : PL} (h : d.allowed = none) (hs : d.steps = []) : commitD ws d = ({ d with log := d.log ++ grpB ws, steps := [], done := d.done + ((grpB ws).length : Int) + 1 }, true) := by
  unfold commitD
  have e := appendAll_free (grpB ws) d h
  rw [andD_ok (show (appD (grpB ws) d).2 = true by show (d.appendAll _).2 = true; rw [e])]
  show tickD DS.syncL (d.appendAll (grpB ws)).1 = _
  rw [e, tickD_some (tick_free (d := { d with steps := d.steps ++ (grpB ws).map some, done := d.done + ((grpB ws).length : Int) }) h)]
  simp only [DS.syncL, DS.logNow, hs, List.nil_append, afterL_some]
theorem writesD_free : ∀ (ws : PL) (d : DS), d.allowed = none → writesD ws d = ({ d with writes := d.writes ++ ws, done := d.done + (ws.length : Int) }, true)
  | [], d, _ => by
    obtain ⟨a, b, c, e, f, g⟩ := d
    simp [writesD]
  | w :: ws, d, h => by
    show andD (tickD fun d => d.write w.1 w.2) (writesD ws) d = _
    have e := tickD_some (f := fun d : DS => d.write w.1 w.2) (tick_free h)
    rw [andD_ok (by rw [e]), e]
    show writesD ws (DS.write { d with done := d.done + 1 } w.1 w.2) = _
    rw [writesD_free ws (DS.write { d with done := d.done + 1 } w.1 w.2) h]
    simp only [DS.write, List.append_assoc, List.cons_append, List.nil_append, List.length_cons]
    congr 2
    push_cast
    omega
theorem checkD_free {d : DS} {ws : PL} (h : d.allowed = none) : checkD ws d = ({ d with pages := putAll d.pages (d.writes ++ ws), writes := [], log := [], steps := [], done := d.done + (ws.length : Int) + 3 }, true) := by
  unfold checkD
  have e := writesD_free ws d h
  rw [andD_ok (by rw [e]), e]
  obtain ⟨p, wr, l, st, dn, al⟩ := d
  obtain rfl : al = none := h
  have hs : ∀ (w' : PL) (dn' : Int), syncsD ⟨p, w', l, st, dn', none⟩ = (⟨putAll p w', [], afterL l (st ++ [none]), [], dn' + 1 + 1 + 1, none⟩, true) := fun _ _ => rfl
  show syncsD ⟨p, wr ++ ws, l, st, dn + (ws.length : Int), none⟩ = _
  rw [hs, afterL_snoc]
  show ((⟨_, _, _, _, dn + (ws.length : Int) + 1 + 1 + 1, _⟩, _) : DS × Bool) = (⟨_, _, _, _, dn + (ws.length : Int) + 3, _⟩, _)
  rw [show dn + (ws.length : Int) + 1 + 1 + 1 = dn + (ws.length : Int) + 3 from by omega]
  rfl
theorem putAll_get : ∀ (ws : PL) (f : Int → Option (List Int)) (n : Int), NoDup ws → putAll f ws n = match getL ws n with | some x => some x | none => f n
  | [], _, _, _ => rfl
  | w :: r, f, n, h => by
    have h' := List.nodup_cons.mp h
    show putAll (putP f w.1 w.2) r n = _
    rw [putAll_get r _ n h'.2]
    by_cases e : w.1 = n
    · have hr : getL r n = none := by
        cases k : getL r n with
        | none => rfl
        | some x =>
          have := getL_mem k
          exact absurd (List.mem_map_of_mem (f := fun x : Int × List Int => x.1) this) (by rw [← e]; exact h'.1)
      rw [hr, getL_pos e]
      exact if_pos e.symm
    · rw [getL_neg e]
      cases getL r n with
      | some x => rfl
      | none => exact if_neg (fun z => e z.symm)
theorem srtL_keys {l : PL} : (srtL l).map (·.1) = PySem.W.sortI (l.map (·.1)) := by
  unfold srtL
  rw [List.map_map]
  exact List.map_id _
theorem noDup_srt {l : PL} (h : NoDup l) : NoDup (srtL l) := by
  unfold NoDup
  rw [srtL_keys]
  exact (PySem.W.sortI_perm _).symm.nodup h
theorem getL_srt {l : PL} (h : NoDup l) (n : Int) : getL (srtL l) n = getL l n := by
  cases e : getL l n with
  | some xs => exact getL_of_mem (noDup_srt h) (w := (n, xs)) ((srtL_mem h).mpr (getL_mem e))
  | none =>
    cases e2 : getL (srtL l) n with
    | none => rfl
    | some xs =>
      have := getL_of_mem h (w := (n, xs)) ((srtL_mem h).mp (getL_mem e2))
      rw [show getL l n = some xs from this] at e
      cases e
/-! ### what is read -/
def PS.cs (s : PS) : PS := { s with dirty := [] }
theorem page_nil {d : DS} (h : d.writes = []) (n : Int) : d.page n = (d.pages n).getD zeros := by
  unfold DS.page
  rw [h]
  rfl
theorem commit_read {s : PS} (hn : NoDup s.dirty) (ha : s.dev.allowed = none) (hs : s.dev.steps = []) (n : Int) : s.commit.read n = s.read n := by
  unfold PS.commit
  split
  · rfl
  · unfold PS.committed
    rw [commitD_free ha hs]
    unfold PS.read
    rw [getL_merge _ _ _ hn]
    cases getL s.dirty n with
    | some x => rfl
    | none => rfl
theorem commit_dirty (s : PS) : s.commit.dirty = [] := by
  unfold PS.commit
  split
  · assumption
  · rfl
theorem checked_read {s : PS} (hn : NoDup s.since) (ha : s.dev.allowed = none) (hw : s.dev.writes = []) (n : Int) : s.checked.read n = s.read n := by
  unfold PS.checked
  rw [checkD_free ha]
  unfold PS.read
  cases getL s.dirty n with
  | some x => rfl
  | none =>
    show DS.page _ n = _
    rw [page_nil rfl]
    show (putAll s.dev.pages (s.dev.writes ++ srtL s.since) n).getD zeros = _
    rw [hw, List.nil_append, putAll_get _ _ _ (noDup_srt hn), getL_srt hn]
    cases getL s.since n with
    | some x => rfl
    | none => rw [page_nil hw]
theorem count_congr {s t : PS} (h : ∀ n, s.read n = t.read n) (n : Int) : s.count.read n = t.count.read n := by
  have h6 : s.field 6 = t.field 6 := by unfold PS.field; rw [h 0]
  unfold PS.count
  rw [h6]
  split
  · show (s.write 0 (setF (s.read 0) 6 1)).read n = (t.write 0 (setF (t.read 0) 6 1)).read n
    rw [read_write, read_write, h 0, h n]
  · exact h n
def foldG (gs : List (List (Int × List Int))) : PL := gs.foldl (fun l g => mergeL l g) []
theorem foldG_snoc (gs : List (List (Int × List Int))) (g : List (Int × List Int)) : foldG (gs ++ [g]) = mergeL (foldG gs) g := by
  unfold foldG
  rw [List.foldl_append]
  rfl
theorem foldG_nd : ∀ (gs : List (List (Int × List Int))) (l : PL), NoDup l → NoDup (gs.foldl (fun l g => mergeL l g) l)
  | [], _, h => h
  | g :: r, l, h => foldG_nd r (mergeL l g) (noDup_merge g l h)
/-! ### numbers of the head -/
def fl (rd : Int → List Int) (k : Nat) : Int := nv (((rd 0).drop (4 * k)).take 4)
def rdSet (rd : Int → List Int) (k : Nat) (v : Int) : Int → List Int := fun j => if j = 0 then setF (rd 0) k v else rd j
def rdPut (rd : Int → List Int) (n : Int) (xs : List Int) : Int → List Int := fun j => if j = n then xs else rd j
theorem field_fl (s : PS) (k : Nat) : s.field k = fl s.read k := rfl
theorem read_setField (s : PS) (k : Nat) (v : Int) (j : Int) : (s.setField k v).read j = rdSet s.read k v j := read_write s 0 j _
theorem read_put (s : PS) (n : Int) (xs : List Int) (j : Int) : (s.write n xs).read j = rdPut s.read n xs j := read_write s n j xs
section
variable {rd rd' : Int → List Int} {k j : Nat} {v n : Int} {xs : List Int}
theorem fl_same (h : (rd 0).length = 256) (hk : k ≤ 7) (h0 : 0 ≤ v) (h1 : v < 4294967296) : fl (rdSet rd k v) k = v := by
  unfold fl rdSet
  rw [if_pos rfl, setF_same h hk, nv_nb4 h0 h1]
theorem fl_other (h : (rd 0).length = 256) (hk : k ≤ 7) (hj : j ≤ 7) (ne : j ≠ k) : fl (rdSet rd k v) j = fl rd j := by
  unfold fl rdSet
  rw [if_pos rfl, setF_other h hk hj ne]
theorem fl_put (ne : n ≠ 0) : fl (rdPut rd n xs) j = fl rd j := by
  unfold fl rdPut
  rw [if_neg (fun z => ne z.symm)]
theorem rdSet_ne {a : Int} (h : a ≠ 0) : rdSet rd k v a = rd a := if_neg h
theorem rdPut_ne {a : Int} (h : a ≠ n) : rdPut rd n xs a = rd a := if_neg h
theorem rdPut_eq : rdPut rd n xs n = xs := if_pos rfl
end
def Byt (xs : List Int) : Prop := ∀ x ∈ xs, 0 ≤ x ∧ x < 256
theorem byt_zeros : Byt zeros := fun x hx => by
  rw [List.eq_of_mem_replicate hx]
  exact ⟨by decide, by decide⟩
theorem byt_pad {xs : List Int} (h : Byt xs) : Byt (padL xs) := fun x hx => by
  unfold padL at hx
  rcases List.mem_append.mp hx with hx | hx
  · exact h x hx
  · rw [List.eq_of_mem_replicate hx]; exact ⟨by decide, by decide⟩
theorem byt_nb (w : Nat) (n : Int) : Byt (nb w n) := nb_byte w n
theorem byt_setF {xs : List Int} {k : Nat} {v : Int} (h : Byt xs) : Byt (setF xs k v) := setF_bytes h
/-! ### the law's model -/
structure MS where
  f3 : Int
  pages : Int → Option (List Int)
  many : Int
  free : List Int
  taken : List Int
  sz : Nat
def hd0 (l : List Int) : Int := l.head?.getD 0
def chain (rd : Int → List Int) : List Int → Prop
  | [] => True
  | a :: r => nv ((rd a).take 4) = hd0 r ∧ chain rd r
theorem chain_congr {rd rd' : Int → List Int} : ∀ {l : List Int}, (∀ a ∈ l, rd' a = rd a) → chain rd l → chain rd' l
  | [], _, _ => trivial
  | a :: r, h, c => ⟨by rw [h a (List.mem_cons_self ..)]; exact c.1, chain_congr (fun x hx => h x (List.mem_cons_of_mem _ hx)) c.2⟩
structure VR (rd : Int → List Int) (m : MS) : Prop where
  len : ∀ n, (rd n).length = 256
  by_ : ∀ n, Byt (rd n)
  f6 : fl rd 6 = m.many
  f7 : fl rd 7 = hd0 m.free
  f3 : fl rd 3 = m.f3
  ch : chain rd m.free
  tk : ∀ n ∈ m.taken, m.pages n = some (rd n)
  nd : (m.taken ++ m.free).Nodup
  rg : ∀ n ∈ m.taken ++ m.free, 1 ≤ n ∧ n < m.many
  m1 : 1 ≤ m.many
  m2 : m.many ≤ 1000
def MS.due (m : MS) : Int := m.free.head?.getD m.many
def MS.alloc (m : MS) : MS := { m with pages := fun j => if j = m.due then some zeros else m.pages j, many := if m.free = [] then m.many + 1 else m.many, free := m.free.tail, taken := m.taken ++ [m.due], sz := m.sz + 1 }
def MS.set3 (m : MS) (v : Int) : MS := { m with f3 := v, sz := m.sz + 1 }
def MS.wr (m : MS) (n : Int) (xs : List Int) : MS := { m with pages := fun j => if j = n then some xs else m.pages j, sz := m.sz + 1 }
def MS.rel (m : MS) (n : Int) : MS := { m with taken := m.taken.erase n, free := n :: m.free }
section
variable {rd rd' : Int → List Int} {m : MS} {s : PS} {n v : Int} {xs : List Int}
theorem VR.congr (V : VR rd m) (h : ∀ n, rd' n = rd n) : VR rd' m := by
  have : rd' = rd := funext h
  rw [this]
  exact V
theorem VR.hdr (V : VR rd m) : 0 ≤ hd0 m.free ∧ hd0 m.free < 1000 := by
  unfold hd0
  cases h : m.free with
  | nil => exact ⟨by decide, by decide⟩
  | cons a r =>
    have := V.rg a (List.mem_append_right _ (by rw [h]; exact List.mem_cons_self ..))
    have := V.m2
    show 0 ≤ a ∧ a < 1000
    omega
theorem VR.set3 (V : VR rd m) (h0 : 0 ≤ v) (h1 : v < 4294967296) : VR (rdSet rd 3 v) (m.set3 v) := by
  have nz : ∀ n ∈ m.taken ++ m.free, n ≠ 0 := fun n hn z => by have := V.rg n hn; omega
  refine ⟨fun n => ?_, fun n => ?_, ?_, ?_, fl_same (V.len 0) (by decide) h0 h1, ?_, fun n hn => ?_, V.nd, V.rg, V.m1, V.m2⟩
  · unfold rdSet
    split
    · exact setF_len (V.len 0) (by decide)
    · exact V.len n
  · unfold rdSet
    split
    · exact byt_setF (V.by_ 0)
    · exact V.by_ n
  · rw [fl_other (V.len 0) (by decide) (by decide) (by decide)]; exact V.f6
  · rw [fl_other (V.len 0) (by decide) (by decide) (by decide)]; exact V.f7
  · exact chain_congr (fun a ha => rdSet_ne (nz a (List.mem_append_right _ ha))) V.ch
  · rw [rdSet_ne (nz n (List.mem_append_left _ hn))]; exact V.tk n hn
theorem VR.wr (V : VR rd m) (hn : n ∈ m.taken) (hx : xs.length = 256) (hb : Byt xs) : VR (rdPut rd n xs) (m.wr n xs) := by
  have n0 : n ≠ 0 := fun z => by have := V.rg n (List.mem_append_left _ hn); omega
  refine ⟨fun j => ?_, fun j => ?_, by rw [fl_put n0]; exact V.f6, by rw [fl_put n0]; exact V.f7, by rw [fl_put n0]; exact V.f3, ?_, fun j hj => ?_, V.nd, V.rg, V.m1, V.m2⟩
  · unfold rdPut
    split
    · exact hx
    · exact V.len j
  · unfold rdPut
    split
    · exact hb
    · exact V.by_ j
  · refine chain_congr (fun a ha => rdPut_ne fun z => ?_) V.ch
    exact (List.nodup_append.mp V.nd).2.2 n hn a ha z.symm
  · show (if j = n then some xs else m.pages j) = _
    by_cases e : j = n
    · rw [if_pos e, e, rdPut_eq]
    · rw [if_neg e, rdPut_ne e]; exact V.tk j hj
theorem VR.rel (V : VR rd m) (hn : n ∈ m.taken) : VR (rdSet (rdPut rd n (padL (nb 4 (fl rd 7)))) 7 n) (m.rel n) := by
  have hr := V.rg n (List.mem_append_left _ hn)
  have hm := V.m2
  have n0 : n ≠ 0 := by omega
  have nz : ∀ n ∈ m.taken ++ m.free, n ≠ 0 := fun n hn z => by have := V.rg n hn; omega
  obtain ⟨d1, d2, d3⟩ := List.nodup_append.mp V.nd
  have nf : n ∉ m.free := fun h => d3 n hn n h rfl
  have l0 : (rdPut rd n (padL (nb 4 (fl rd 7))) 0).length = 256 := by rw [rdPut_ne (fun z => n0 z.symm)]; exact V.len 0
  have hp : (padL (nb 4 (fl rd 7))).length = 256 := padL_len (by rw [nb_len]; decide)
  have hperm : (m.taken.erase n ++ n :: m.free).Perm (m.taken ++ m.free) := (List.perm_middle).trans (((List.perm_cons_erase hn).symm).append_right m.free)
  refine ⟨fun j => ?_, fun j => ?_, ?_, fl_same l0 (by decide) (by omega) (by omega), ?_, ⟨?_, ?_⟩, fun j hj => ?_, hperm.symm.nodup V.nd, fun j hj => V.rg j (hperm.mem_iff.mp hj), V.m1, V.m2⟩
  · unfold rdSet
    split
    · exact setF_len l0 (by decide)
    · unfold rdPut
      split
      · exact hp
      · exact V.len j
  · unfold rdSet
    split
    · refine byt_setF ?_
      rw [rdPut_ne (fun z => n0 z.symm)]
      exact V.by_ 0
    · unfold rdPut
      split
      · exact byt_pad (byt_nb _ _)
      · exact V.by_ j
  · rw [fl_other l0 (by decide) (by decide) (by decide), fl_put n0]; exact V.f6
  · rw [fl_other l0 (by decide) (by decide) (by decide), fl_put n0]; exact V.f3
  · rw [rdSet_ne n0, rdPut_eq]
    unfold padL
    rw [take_pre _ _ _ (by rw [nb_len]), V.f7, nv_nb4 V.hdr.1 (by have := V.hdr.2; omega)]
  · exact chain_congr (fun a ha => by rw [rdSet_ne (nz a (List.mem_append_right _ ha)), rdPut_ne (fun z => nf (by rw [← z]; exact ha))]) V.ch
  · have hj : j ∈ m.taken.erase n := hj
    have hjt := List.mem_of_mem_erase hj
    have jn : j ≠ n := fun z => by rw [z] at hj; exact (List.Nodup.not_mem_erase d1) hj
    rw [rdSet_ne (nz j (List.mem_append_left _ hjt)), rdPut_ne jn]
    exact V.tk j hjt
theorem VR.alloc (V : VR s.read m) (h9 : m.many ≤ 900) : s.allocN = m.due ∧ VR s.alloc.read m.alloc := by
  have nz : ∀ n ∈ m.taken ++ m.free, n ≠ 0 := fun n hn z => by have := V.rg n hn; omega
  have hm := V.m1
  cases hf : m.free with
  | nil =>
    have h7 : s.field 7 = 0 := by rw [field_fl, V.f7, hf]; rfl
    have h6 : s.field 6 = m.many := V.f6
    have hd : m.due = m.many := by unfold MS.due; rw [hf]; rfl
    have m0 : m.many ≠ 0 := by omega
    refine ⟨by unfold PS.allocN; rw [if_pos h7, h6, hd], ?_⟩
    have hrd : ∀ n, s.alloc.read n = rdPut (rdSet s.read 6 (m.many + 1)) m.many zeros n := fun n => by
      unfold PS.alloc
      rw [if_pos h7, h6, read_put]
      unfold rdPut
      split
      · rfl
      · exact read_setField s 6 _ n
    refine VR.congr ?_ hrd
    have l0 := V.len 0
    refine ⟨fun j => ?_, fun j => ?_, ?_, ?_, ?_, ?_, fun j hj => ?_, ?_, fun j hj => ?_, ?_, ?_⟩
    · unfold rdPut
      split
      · decide
      · unfold rdSet
        split
        · exact setF_len l0 (by decide)
        · exact V.len j
    · unfold rdPut
      split
      · exact byt_zeros
      · unfold rdSet
        split
        · exact byt_setF (V.by_ 0)
        · exact V.by_ j
    · rw [fl_put m0, fl_same l0 (by decide) (by omega) (by omega)]
      show _ = if m.free = [] then m.many + 1 else m.many
      rw [if_pos hf]
    · rw [fl_put m0, fl_other l0 (by decide) (by decide) (by decide), V.f7]
      show _ = hd0 m.free.tail
      rw [hf]
      rfl
    · rw [fl_put m0, fl_other l0 (by decide) (by decide) (by decide)]; exact V.f3
    · show chain _ m.free.tail
      rw [hf]
      exact trivial
    · have hj : j ∈ m.taken ++ [m.due] := hj
      rw [hd] at hj
      show (if j = m.due then some zeros else m.pages j) = _
      rw [hd]
      by_cases e : j = m.many
      · rw [if_pos e, e, rdPut_eq]
      · rw [if_neg e, rdPut_ne e]
        have hjt : j ∈ m.taken := by
          rcases List.mem_append.mp hj with h | h
          · exact h
          · exact absurd (List.mem_singleton.mp h) e
        rw [rdSet_ne (nz j (List.mem_append_left _ hjt))]
        exact V.tk j hjt
    · show ((m.taken ++ [m.due]) ++ m.free.tail).Nodup
      rw [hf, hd]
      have hnd := V.nd
      rw [hf, List.append_nil] at hnd
      rw [List.tail_nil, List.append_nil]
      refine List.nodup_append.mpr ⟨hnd, by simp, fun a ha b hb e => ?_⟩
      have := V.rg a (List.mem_append_left _ ha)
      rw [List.mem_singleton.mp hb] at e
      omega
    · have hj : j ∈ (m.taken ++ [m.due]) ++ m.free.tail := hj
      rw [hf, hd, List.tail_nil, List.append_nil] at hj
      show 1 ≤ j ∧ j < if m.free = [] then m.many + 1 else m.many
      rw [if_pos hf]
      rcases List.mem_append.mp hj with h | h
      · have := V.rg j (List.mem_append_left _ h)
        omega
      · rw [List.mem_singleton.mp h]; omega
    · show 1 ≤ if m.free = [] then m.many + 1 else m.many
      rw [if_pos hf]; omega
    · show (if m.free = [] then m.many + 1 else m.many) ≤ 1000
      rw [if_pos hf]; omega
  | cons a r =>
    have hne : m.free ≠ [] := by rw [hf]; exact fun z => nomatch z
    have ha : a ∈ m.taken ++ m.free := List.mem_append_right _ (by rw [hf]; exact List.mem_cons_self ..)
    have hra := V.rg a ha
    have h7 : s.field 7 = a := by rw [field_fl, V.f7, hf]; rfl
    have h7n : s.field 7 ≠ 0 := by omega
    have a0 : a ≠ 0 := by omega
    have hd : m.due = a := by unfold MS.due; rw [hf]; rfl
    have hch := V.ch
    rw [hf] at hch
    obtain ⟨c1, c2⟩ := hch
    obtain ⟨d1, d2, d3⟩ := List.nodup_append.mp V.nd
    rw [hf] at d2
    have d2' := List.nodup_cons.mp d2
    have hrr : 0 ≤ hd0 r ∧ hd0 r < 1000 := by
      unfold hd0
      cases hr : r with
      | nil => exact ⟨by decide, by decide⟩
      | cons b t =>
        have := V.rg b (List.mem_append_right _ (by rw [hf, hr]; exact List.mem_cons_of_mem _ (List.mem_cons_self ..)))
        have := V.m2
        show 0 ≤ b ∧ b < 1000
        omega
    refine ⟨by unfold PS.allocN; rw [if_neg h7n, h7, hd], ?_⟩
    have hrd : ∀ n, s.alloc.read n = rdPut (rdSet s.read 7 (hd0 r)) a zeros n := fun n => by
      unfold PS.alloc
      rw [if_neg h7n, h7, c1, read_put]
      unfold rdPut
      split
      · rfl
      · exact read_setField s 7 _ n
    refine VR.congr ?_ hrd
    have l0 := V.len 0
    refine ⟨fun j => ?_, fun j => ?_, ?_, ?_, ?_, ?_, fun j hj => ?_, ?_, fun j hj => ?_, ?_, ?_⟩
    · unfold rdPut
      split
      · decide
      · unfold rdSet
        split
        · exact setF_len l0 (by decide)
        · exact V.len j
    · unfold rdPut
      split
      · exact byt_zeros
      · unfold rdSet
        split
        · exact byt_setF (V.by_ 0)
        · exact V.by_ j
    · rw [fl_put a0, fl_other l0 (by decide) (by decide) (by decide)]
      show _ = if m.free = [] then m.many + 1 else m.many
      rw [if_neg hne]
      exact V.f6
    · rw [fl_put a0, fl_same l0 (by decide) hrr.1 (by omega)]
      show _ = hd0 m.free.tail
      rw [hf]
      rfl
    · rw [fl_put a0, fl_other l0 (by decide) (by decide) (by decide)]; exact V.f3
    · show chain _ m.free.tail
      rw [hf]
      refine chain_congr (fun x hx => ?_) c2
      rw [rdPut_ne (fun z => d2'.1 (by rw [← z]; exact hx)), rdSet_ne (nz x (List.mem_append_right _ (by rw [hf]; exact List.mem_cons_of_mem _ hx)))]
    · have hj : j ∈ m.taken ++ [m.due] := hj
      rw [hd] at hj
      show (if j = m.due then some zeros else m.pages j) = _
      rw [hd]
      by_cases e : j = a
      · rw [if_pos e, e, rdPut_eq]
      · rw [if_neg e, rdPut_ne e]
        have hjt : j ∈ m.taken := by
          rcases List.mem_append.mp hj with h | h
          · exact h
          · exact absurd (List.mem_singleton.mp h) e
        rw [rdSet_ne (nz j (List.mem_append_left _ hjt))]
        exact V.tk j hjt
    · show ((m.taken ++ [m.due]) ++ m.free.tail).Nodup
      rw [hd, hf, List.tail_cons, List.append_assoc, List.singleton_append, ← hf]
      exact V.nd
    · have hj : j ∈ (m.taken ++ [m.due]) ++ m.free.tail := hj
      rw [hd, hf, List.tail_cons, List.append_assoc, List.singleton_append, ← hf] at hj
      show 1 ≤ j ∧ j < if m.free = [] then m.many + 1 else m.many
      rw [if_neg hne]
      exact V.rg j hj
    · show 1 ≤ if m.free = [] then m.many + 1 else m.many
      rw [if_neg hne]; exact V.m1
    · show (if m.free = [] then m.many + 1 else m.many) ≤ 1000
      rw [if_neg hne]; exact V.m2
end
end Nv

namespace Nv
open PySem L2
/-! # a pager and its log, without what the pages mean -/
def Pgs (rd : Int → List Int) : Prop := ∀ n, (rd n).length = 256 ∧ Byt (rd n)
structure InB (s : PS) (gs : List (List (Int × List Int))) (t : Nat) : Prop where
  rd : Pgs s.read
  cl : Pgs s.cs.read
  lg : s.dev.log = logB gs
  st : s.dev.steps = []
  wr : s.dev.writes = []
  al : s.dev.allowed = none
  gok : ∀ g ∈ gs, (∀ w ∈ g, PairOk w ∧ Byt w.2) ∧ g.length < 64
  gl : gs.length ≤ t
  nd : NoDup s.dirty
  ns : NoDup s.since
  dok : ∀ w ∈ s.dirty, PairOk w ∧ Byt w.2
  eq : ∀ n, getL s.since n = getL (foldG gs) n
  z1 : s.dirty.length + s.since.length ≤ 2 * t + 1
  z2 : s.dirty.length + (foldG gs).length ≤ 2 * t + 1
def DirtyB (l : PL) : Prop := NoDup l ∧ ∀ w ∈ l, PairOk w ∧ Byt w.2
theorem dirtyB_put {l : PL} (h : DirtyB l) {n : Int} {xs : List Int} (h0 : 0 ≤ n) (h1 : n < 4294967296) (hx : xs.length = 256) (hb : Byt xs) : DirtyB (putL l n xs) :=
  ⟨noDup_put h.1 n xs, fun w hw => by
    rcases putL_mem hw with hw | ⟨e1, e2⟩
    · exact h.2 w hw
    · exact ⟨⟨by rw [e2]; exact h0, by rw [e2]; exact h1, by rw [e1]; exact hx⟩, by rw [e1]; exact hb⟩⟩
theorem dirtyB_nil : DirtyB [] := ⟨List.nodup_nil, fun w h => (by cases h)⟩
/-- the number of bytes is a number of so many bytes -/
theorem nv_lt : ∀ (l : List Int), Byt l → 0 ≤ nv l ∧ nv l < 256 ^ l.length := by
  intro l
  suffices h : ∀ (n : Nat) (l : List Int), l.length = n → Byt l → 0 ≤ nv l ∧ nv l < 256 ^ n from fun hb => h _ l rfl hb
  intro n
  induction n with
  | zero =>
    intro l hl _
    rw [List.length_eq_zero_iff.mp hl]
    exact ⟨Int.le_refl _, by decide⟩
  | succ n ih =>
    intro l hl hb
    have hne : l ≠ [] := fun z => by rw [z] at hl; cases hl
    have e := List.dropLast_concat_getLast hne
    have h1 := ih l.dropLast (by rw [List.length_dropLast]; omega) (fun x hx => hb x (List.dropLast_subset l hx))
    have h2 := hb (l.getLast hne) (List.getLast_mem hne)
    rw [← e, nv_snoc, Int.pow_succ]
    generalize (256 : Int) ^ n = q at h1
    omega
theorem fl_range {rd : Int → List Int} (h : (rd 0).length = 256) (hb : Byt (rd 0)) {k : Nat} (hk : k ≤ 7) : 0 ≤ fl rd k ∧ fl rd k < 4294967296 := by
  have := nv_lt (((rd 0).drop (4 * k)).take 4) (fun x hx => hb x (List.mem_of_mem_drop (List.mem_of_mem_take hx)))
  rw [List.length_take, List.length_drop, h] at this
  rw [show min 4 (256 - 4 * k) = 4 from by omega] at this
  exact this
theorem len_of_same {a b : PL} (ha : NoDup a) (hb : NoDup b) (h : ∀ n, getL a n = getL b n) : a.length = b.length := by
  have na : a.Nodup := List.Pairwise.of_map (S := fun x y : Int => x ≠ y) (fun w : Int × List Int => w.1) (fun _ _ h e => h (by rw [e])) ha
  have nb : b.Nodup := List.Pairwise.of_map (S := fun x y : Int => x ≠ y) (fun w : Int × List Int => w.1) (fun _ _ h e => h (by rw [e])) hb
  refine ((List.perm_ext_iff_of_nodup na nb).mpr fun w => ⟨fun hw => ?_, fun hw => ?_⟩).length_eq
  · have := getL_of_mem ha hw
    rw [h] at this
    exact getL_mem this
  · have := getL_of_mem hb hw
    rw [← h] at this
    exact getL_mem this
section
variable {s s' : PS} {gs : List (List (Int × List Int))} {t : Nat} {n v : Int} {xs : List Int} {k : Nat}
theorem InB.upd (I : InB s gs t) (hd : s'.dev = s.dev) (hs : s'.since = s.since) (hD : DirtyB s'.dirty) (hl : s'.dirty.length ≤ s.dirty.length + 2) (R : Pgs s'.read) : InB s' gs (t + 1) := by
  have hc : s'.cs = s.cs := by
    unfold PS.cs
    rw [show s' = ⟨s'.dev, s'.dirty, s'.since⟩ from rfl, hd, hs]
  have := I.gl
  have := I.z1
  have := I.z2
  exact ⟨R, by rw [hc]; exact I.cl, by rw [hd]; exact I.lg, by rw [hd]; exact I.st, by rw [hd]; exact I.wr, by rw [hd]; exact I.al, I.gok, by omega, hD.1, by rw [hs]; exact I.ns, hD.2, by rw [hs]; exact I.eq, by rw [hs]; omega, by omega⟩
theorem InB.up (I : InB s gs t) : InB s gs (t + 1) := I.upd rfl rfl ⟨I.nd, I.dok⟩ (by omega) I.rd
theorem InB.dirty (I : InB s gs t) : DirtyB s.dirty := ⟨I.nd, I.dok⟩
theorem pgs_put {rd : Int → List Int} (h : Pgs rd) (hx : xs.length = 256) (hb : Byt xs) : Pgs (rdPut rd n xs) := fun j => by
  unfold rdPut
  split
  · exact ⟨hx, hb⟩
  · exact h j
theorem pgs_set {rd : Int → List Int} (h : Pgs rd) (hk : k ≤ 7) : Pgs (rdSet rd k v) := fun j => by
  unfold rdSet
  split
  · exact ⟨setF_len (h 0).1 hk, byt_setF (h 0).2⟩
  · exact h j
theorem pgs_congr {rd rd' : Int → List Int} (h : Pgs rd) (e : ∀ n, rd' n = rd n) : Pgs rd' := fun n => by rw [e n]; exact h n
theorem InB.setF (I : InB s gs t) (hk : k ≤ 7) : InB (s.setField k v) gs (t + 1) := by
  refine I.upd rfl rfl (dirtyB_put I.dirty (by decide) (by decide) (setF_len (I.rd 0).1 hk) (byt_setF (I.rd 0).2)) ?_ (pgs_congr (pgs_set I.rd hk) fun n => read_setField s k v n)
  have := putL_le s.dirty 0 (Nv.setF (s.read 0) k v)
  show (putL s.dirty 0 (Nv.setF (s.read 0) k v)).length ≤ _
  omega
theorem InB.write (I : InB s gs t) (h0 : 0 ≤ n) (h1 : n < 4294967296) (hx : xs.length = 256) (hb : Byt xs) : InB (s.write n xs) gs (t + 1) := by
  refine I.upd rfl rfl (dirtyB_put I.dirty h0 h1 hx hb) ?_ (pgs_congr (pgs_put I.rd hx hb) fun j => read_put s n xs j)
  have := putL_le s.dirty n xs
  show (putL s.dirty n xs).length ≤ _
  omega
theorem rel_read (s : PS) (n j : Int) : (s.release n).read j = rdSet (rdPut s.read n (padL (nb 4 (s.field 7)))) 7 n j := by
  show ((s.write n (padL (nb 4 (s.field 7)))).setField 7 n).read j = _
  rw [read_setField]
  have : (s.write n (padL (nb 4 (s.field 7)))).read = rdPut s.read n (padL (nb 4 (s.field 7))) := funext fun j => read_put s n _ j
  rw [this]
theorem InB.rel (I : InB s gs t) (h0 : 0 ≤ n) (h1 : n < 4294967296) : InB (s.release n) gs (t + 1) := by
  have hp : (padL (nb 4 (s.field 7))).length = 256 := padL_len (by rw [nb_len]; decide)
  have hb : Byt (padL (nb 4 (s.field 7))) := byt_pad (byt_nb _ _)
  have R1 : Pgs (rdPut s.read n (padL (nb 4 (s.field 7)))) := pgs_put I.rd hp hb
  have e1 : (s.write n (padL (nb 4 (s.field 7)))).read 0 = rdPut s.read n (padL (nb 4 (s.field 7))) 0 := read_put s n _ 0
  refine I.upd rfl rfl ?_ ?_ (pgs_congr (pgs_set R1 (k := 7) (v := n) (by decide)) fun j => rel_read s n j)
  · refine dirtyB_put (dirtyB_put I.dirty h0 h1 hp hb) (by decide) (by decide) ?_ ?_
    · rw [e1]; exact setF_len (R1 0).1 (by decide)
    · rw [e1]; exact byt_setF (R1 0).2
  · have h1 := putL_le s.dirty n (padL (nb 4 (s.field 7)))
    have h2 := putL_le (putL s.dirty n (padL (nb 4 (s.field 7)))) 0 (Nv.setF ((s.write n (padL (nb 4 (s.field 7)))).read 0) 7 n)
    show (putL (putL s.dirty n (padL (nb 4 (s.field 7)))) 0 (Nv.setF ((s.write n (padL (nb 4 (s.field 7)))).read 0) 7 n)).length ≤ _
    omega
theorem InB.allocN (I : InB s gs t) : 0 ≤ s.allocN ∧ s.allocN < 4294967296 := by
  unfold PS.allocN
  split
  · exact fl_range (I.rd 0).1 (I.rd 0).2 (by decide)
  · exact fl_range (I.rd 0).1 (I.rd 0).2 (by decide)
theorem InB.alloc (I : InB s gs t) : InB s.alloc gs (t + 1) := by
  have hr := I.allocN
  have hD : ∀ k v, k ≤ 7 → DirtyB (s.setField k v).dirty := fun k v hk => dirtyB_put I.dirty (by decide) (by decide) (setF_len (I.rd 0).1 hk) (byt_setF (I.rd 0).2)
  refine I.upd ?_ ?_ ?_ ?_ ?_
  · unfold PS.alloc; split <;> rfl
  · unfold PS.alloc; split <;> rfl
  · unfold PS.alloc
    by_cases h7 : s.field 7 = 0
    · rw [if_pos h7]
      rw [show s.allocN = s.field 6 from if_pos h7] at hr
      exact dirtyB_put (hD 6 _ (by decide)) hr.1 hr.2 (by decide) byt_zeros
    · rw [if_neg h7]
      rw [show s.allocN = s.field 7 from if_neg h7] at hr
      exact dirtyB_put (hD 7 _ (by decide)) hr.1 hr.2 (by decide) byt_zeros
  · unfold PS.alloc
    split
    · have h1 := putL_le s.dirty 0 (Nv.setF (s.read 0) 6 (s.field 6 + 1))
      have h2 := putL_le (putL s.dirty 0 (Nv.setF (s.read 0) 6 (s.field 6 + 1))) (s.field 6) zeros
      show (putL (putL s.dirty 0 (Nv.setF (s.read 0) 6 (s.field 6 + 1))) (s.field 6) zeros).length ≤ _
      omega
    · have h1 := putL_le s.dirty 0 (Nv.setF (s.read 0) 7 (nv ((s.read (s.field 7)).take 4)))
      have h2 := putL_le (putL s.dirty 0 (Nv.setF (s.read 0) 7 (nv ((s.read (s.field 7)).take 4)))) (s.field 7) zeros
      show (putL (putL s.dirty 0 (Nv.setF (s.read 0) 7 (nv ((s.read (s.field 7)).take 4)))) (s.field 7) zeros).length ≤ _
      omega
  · unfold PS.alloc
    split
    · refine pgs_congr (pgs_put (n := s.field 6) (xs := zeros) (pgs_set (k := 6) (v := s.field 6 + 1) I.rd (by decide)) (by decide) byt_zeros) fun j => ?_
      rw [read_put]
      unfold rdPut
      split
      · rfl
      · exact read_setField s 6 _ j
    · refine pgs_congr (pgs_put (n := s.field 7) (xs := zeros) (pgs_set (k := 7) (v := nv ((s.read (s.field 7)).take 4)) I.rd (by decide)) (by decide) byt_zeros) fun j => ?_
      rw [read_put]
      unfold rdPut
      split
      · rfl
      · exact read_setField s 7 _ j
def grpsB (s : PS) (gs : List (List (Int × List Int))) : List (List (Int × List Int)) := if s.dirty = [] then gs else gs ++ [srtL s.dirty]
theorem InB.commit (I : InB s gs t) (ht : t ≤ 30) : InB s.commit (grpsB s gs) (t + 1) := by
  have hr := commit_read I.nd I.al I.st
  have V : Pgs s.commit.read := pgs_congr I.rd hr
  have hd := commit_dirty s
  have hcs : s.commit.cs = s.commit := by
    unfold PS.cs
    rw [show s.commit = ⟨s.commit.dev, s.commit.dirty, s.commit.since⟩ from rfl, hd]
  have gl := I.gl
  have z1 := I.z1
  have z2 := I.z2
  by_cases he : s.dirty = []
  · have hc : s.commit = s := if_pos he
    have hg : grpsB s gs = gs := if_pos he
    rw [hg]
    rw [hc]
    exact I.up
  · have hc : s.commit = ⟨{ s.dev with log := s.dev.log ++ grpB (srtL s.dirty), steps := [], done := s.dev.done + ((grpB (srtL s.dirty)).length : Int) + 1 }, [], mergeL s.since s.dirty⟩ := by
      unfold PS.commit
      rw [if_neg he]
      unfold PS.committed
      rw [commitD_free I.al I.st]
    have hg : grpsB s gs = gs ++ [srtL s.dirty] := if_neg he
    have hsl := srtL_len s.dirty
    have hml2 := mergeL_len s.dirty s.since
    have hml3 := mergeL_len (srtL s.dirty) (foldG gs)
    refine ⟨V, by rw [hcs]; exact V, ?_, by rw [hc], by rw [hc]; exact I.wr, by rw [hc]; exact I.al, ?_, ?_, by rw [hc]; exact List.nodup_nil, by rw [hc]; exact noDup_merge _ _ I.ns, by rw [hc]; exact fun w h => (by cases h), ?_, ?_, ?_⟩
    · rw [hc, hg]
      show s.dev.log ++ grpB (srtL s.dirty) = logB (gs ++ [srtL s.dirty])
      unfold logB
      rw [List.flatMap_append, I.lg]
      simp [logB]
    · rw [hg]
      intro g hg
      rcases List.mem_append.mp hg with h | h
      · exact I.gok g h
      · rw [List.mem_singleton.mp h]
        exact ⟨fun w hw => I.dok w ((srtL_mem I.nd).mp hw), by omega⟩
    · rw [hg, List.length_append]
      show gs.length + 1 ≤ _
      omega
    · rw [hc, hg]
      intro n
      rw [foldG_snoc, getL_merge _ _ _ (noDup_srt I.nd), getL_srt I.nd]
      show getL (mergeL s.since s.dirty) n = _
      rw [getL_merge _ _ _ I.nd, I.eq n]
    · rw [hc]
      show 0 + (mergeL s.since s.dirty).length ≤ _
      omega
    · rw [hc, hg, foldG_snoc]
      show 0 + (mergeL (foldG gs) (srtL s.dirty)).length ≤ _
      omega
theorem checked_eq (I : InB s gs t) : s.checked = ⟨{ s.dev with pages := putAll s.dev.pages (srtL s.since), writes := [], log := [], steps := [], done := s.dev.done + (s.since.length : Int) + 3 }, s.dirty, []⟩ := by
  unfold PS.checked
  rw [checkD_free I.al, I.wr, srtL_len]
  rfl
theorem InB.checked (I : InB s gs t) (hd : s.dirty = []) : InB s.checked [] t := by
  have hr := checked_read I.ns I.al I.wr
  have hc := checked_eq I
  have hcs2 : s.checked.cs = s.checked := by
    rw [hc, hd]
    rfl
  have R := pgs_congr I.rd hr
  refine ⟨R, by rw [hcs2]; exact R, by rw [hc]; rfl, by rw [hc], by rw [hc], by rw [hc]; exact I.al, fun g h => (by cases h), Nat.zero_le _, by rw [hc]; exact I.nd, by rw [hc]; exact List.nodup_nil, by rw [hc]; exact I.dok, by rw [hc]; exact fun n => rfl, ?_, ?_⟩
  · rw [hc, hd]
    exact Nat.zero_le _
  · rw [hc, hd]
    exact Nat.zero_le _
theorem countB_dirty (hd : s.dirty = []) (R : Pgs s.read) : DirtyB s.count.dirty ∧ s.count.dirty.length ≤ 1 ∧ Pgs s.count.read := by
  unfold PS.count
  split
  · refine ⟨dirtyB_put (by rw [hd]; exact dirtyB_nil) (by decide) (by decide) (setF_len (R 0).1 (by decide)) (byt_setF (R 0).2), ?_, pgs_congr (pgs_set (k := 6) (v := 1) R (by decide)) fun n => read_setField s 6 1 n⟩
    have := putL_le s.dirty 0 (Nv.setF (s.read 0) 6 1)
    rw [hd] at this
    show (putL s.dirty 0 (Nv.setF (s.read 0) 6 1)).length ≤ 1
    rw [hd]
    exact this
  · rw [hd]
    exact ⟨dirtyB_nil, Nat.zero_le _, R⟩
theorem countB_since (s : PS) : s.count.since = s.since := by
  unfold PS.count
  split <;> rfl
theorem countB_dev (s : PS) : s.count.dev = s.dev := by
  unfold PS.count
  split <;> rfl
theorem countB_cs (s : PS) : s.count.cs = s.cs := by
  unfold PS.cs
  rw [countB_since, countB_dev]
theorem InB.rollback (I : InB s gs t) : InB s.rollback gs (t + 1) := by
  have hrb : s.rollback = s.cs.count := rfl
  obtain ⟨h1, h2, h3⟩ := countB_dirty (s := s.cs) rfl I.cl
  have e1 : s.rollback.dev = s.dev := countB_dev s.cs
  have e2 : s.rollback.since = s.since := countB_since s.cs
  have e3 : s.rollback.cs = s.cs := countB_cs s.cs
  have := I.z1
  have := I.z2
  have := I.gl
  rw [← hrb] at h1 h2 h3
  exact ⟨h3, by rw [e3]; exact I.cl, by rw [e1]; exact I.lg, by rw [e1]; exact I.st, by rw [e1]; exact I.wr, by rw [e1]; exact I.al, I.gok, by omega, h1.1, by rw [e2]; exact I.ns, h1.2, by rw [e2]; exact I.eq, by rw [e2]; omega, by omega⟩
theorem logB_nilB : ∀ {gs : List (List (Int × List Int))}, logB gs = [] → gs = []
  | [], _ => rfl
  | g :: r, h => by
    unfold logB at h
    rw [List.flatMap_cons] at h
    have := congrArg List.length h
    unfold grpB at this
    rw [List.length_append, List.length_append, nb_len] at this
    simp at this
theorem InB.logNow (I : InB s gs t) : s.dev.logNow = logB gs := by
  unfold DS.logNow
  rw [I.st, I.lg]
  rfl
theorem InB.grps (I : InB s gs t) : Grps s.dev.logNow 0 gs := by
  rw [I.logNow]
  have := grps_of (gs := gs) (fun g hg => ⟨fun w hw => ((I.gok g hg).1 w hw).1, by have := (I.gok g hg).2; omega⟩) [] [] gEnd_nil
  rw [List.append_nil] at this
  exact this
theorem InB.pos (I : InB s gs t) : ∀ x ∈ s.dev.logNow, 0 ≤ x := by
  rw [I.logNow]
  intro x hx
  unfold logB at hx
  obtain ⟨g, hg, hx⟩ := List.mem_flatMap.mp hx
  unfold grpB at hx
  rcases List.mem_append.mp hx with h | h
  · exact (nb_byte _ _ x h).1
  · obtain ⟨w, hw, h⟩ := List.mem_flatMap.mp h
    unfold pairB at h
    rcases List.mem_append.mp h with h | h
    · exact (nb_byte _ _ x h).1
    · exact (((I.gok g hg).1 w hw).2 x h).1
theorem InB.loglen (I : InB s gs t) (ht : t ≤ 31) : s.dev.log.length + s.dev.steps.length ≤ 620000 := by
  rw [I.lg, I.st]
  have h : ∀ gs : List (List (Int × List Int)), (∀ g ∈ gs, (∀ w ∈ g, PairOk w ∧ Byt w.2) ∧ g.length < 64) → (logB gs).length ≤ 20000 * gs.length := by
    intro gs
    induction gs with
    | nil => exact fun _ => Nat.zero_le _
    | cons g r ih =>
      intro h
      have h1 := ih fun x hx => h x (List.mem_cons_of_mem _ hx)
      have h2 := h g (List.mem_cons_self ..)
      have h3 := grpB_len (ws := g) fun w hw => (h2.1 w hw).1
      have h4 := h2.2
      unfold logB at h1 ⊢
      rw [List.flatMap_cons, List.length_append, List.length_cons, h3]
      omega
  have := h gs I.gok
  have := I.gl
  show (logB gs).length + 0 ≤ _
  omega
def foundB (d : DS) (gs : List (List (Int × List Int))) : PS := if d.logNow = [] then PS.opening d gs else (PS.opening d gs).checked
theorem foundB_read {d : DS} (hr : Pgs (PS.opening d gs).read) (ha : d.allowed = none) (hw : d.writes = []) (n : Int) : (foundB d gs).read n = (PS.opening d gs).read n := by
  unfold foundB
  split
  · rfl
  · exact checked_read (s := PS.opening d gs) (foldG_nd gs [] List.nodup_nil) ha hw n
theorem InB.open_read (I : InB s gs t) (n : Int) : (PS.opening s.dev gs).read n = s.cs.read n := by
  show (match getL (foldG gs) n with | some xs => xs | none => s.dev.page n) = (match getL s.since n with | some xs => xs | none => s.dev.page n)
  rw [I.eq n]
theorem InB.found_read (I : InB s gs t) (n : Int) : (foundB s.dev gs).read n = s.cs.read n := by
  rw [foundB_read (pgs_congr I.cl I.open_read) I.al I.wr, I.open_read]
theorem foundB_dirty (d : DS) (gs : List (List (Int × List Int))) : (foundB d gs).dirty = [] := by
  unfold foundB
  split <;> rfl
theorem InB.found_dev (I : InB s gs t) : (foundB s.dev gs).dev.log = [] ∧ (foundB s.dev gs).dev.steps = [] ∧ (foundB s.dev gs).dev.writes = [] ∧ (foundB s.dev gs).dev.allowed = none ∧ (foundB s.dev gs).since = [] := by
  unfold foundB
  by_cases h : s.dev.logNow = []
  · rw [if_pos h]
    have hg : gs = [] := logB_nilB (by rw [← I.logNow]; exact h)
    refine ⟨?_, I.st, I.wr, I.al, by rw [hg]; rfl⟩
    show s.dev.log = []
    rw [I.lg, hg]
    rfl
  · rw [if_neg h]
    unfold PS.checked
    rw [show (PS.opening s.dev gs).dev = s.dev from rfl, checkD_free I.al]
    exact ⟨rfl, rfl, rfl, I.al, rfl⟩
theorem InB.reopen (I : InB s gs t) : InB (PS.opened s.dev gs) [] (t + 1) := by
  have ho : PS.opened s.dev gs = (foundB s.dev gs).count := rfl
  have hr := I.found_read
  have hd := foundB_dirty s.dev gs
  obtain ⟨d1, d2, d3, d4, d5⟩ := I.found_dev
  obtain ⟨h1, h2, h3⟩ := countB_dirty hd (pgs_congr I.cl hr)
  rw [ho]
  have hcs : (foundB s.dev gs).count.cs = foundB s.dev gs := by
    rw [countB_cs]
    unfold PS.cs
    rw [show foundB s.dev gs = ⟨(foundB s.dev gs).dev, (foundB s.dev gs).dirty, (foundB s.dev gs).since⟩ from rfl, hd]
  have e1 := countB_dev (foundB s.dev gs)
  have e2 := countB_since (foundB s.dev gs)
  exact ⟨h3, by rw [hcs]; exact pgs_congr I.cl hr, by rw [e1, d1]; rfl, by rw [e1, d2], by rw [e1, d3], by rw [e1, d4], fun g h => (by cases h), Nat.zero_le _, h1.1, by rw [e2, d5]; exact List.nodup_nil, h1.2, by rw [e2, d5]; exact fun n => rfl, by rw [e2, d5]; show _ + 0 ≤ _; omega, by show _ + 0 ≤ _; omega⟩
end
theorem inB_new : InB (PS.opened DS.new []) [] 0 := by
  have ho : PS.opened DS.new [] = (PS.opening DS.new []).count := by unfold PS.opened; rw [if_pos (show DS.new.logNow = [] from rfl)]
  obtain ⟨h1, h2, h3⟩ := countB_dirty (s := PS.opening DS.new []) rfl (fun n => ⟨rfl, byt_zeros⟩)
  rw [ho]
  have hcs : (PS.opening DS.new []).count.cs = PS.opening DS.new [] := by rw [countB_cs]; rfl
  have e1 := countB_dev (PS.opening DS.new [])
  have e2 := countB_since (PS.opening DS.new [])
  exact ⟨h3, by rw [hcs]; exact fun n => ⟨rfl, byt_zeros⟩, by rw [e1]; rfl, by rw [e1]; rfl, by rw [e1]; rfl, by rw [e1]; rfl, fun g h => (by cases h), Nat.le_refl _, h1.1, by rw [e2]; exact List.nodup_nil, h1.2, by rw [e2]; exact fun n => rfl, by rw [e2]; show _ + 0 ≤ _; omega, by show _ + 0 ≤ _; omega⟩
/-! ### the law's model -/
structure M19 where
  disk : Int → Option (List Int)
  log : List Int
  since : PL
  dirty : PL
  steps : Int
  sz : Nat
def M19.rd (m : M19) (n : Int) : List Int := match getL m.dirty n with
  | some x => x
  | none => match getL m.since n with
    | some x => x
    | none => (m.disk n).getD zeros
structure R19 (s : PS) (m : M19) : Prop where
  di : m.dirty = s.dirty
  nd : NoDup m.since
  si : ∀ n, getL m.since n = getL s.since n
  lg : m.log = s.dev.log
  dn : m.steps = s.dev.done
  pg : ∀ n, m.disk n = s.dev.pages n
theorem R19.rd {s : PS} {m : M19} (R : R19 s m) (hw : s.dev.writes = []) (n : Int) : m.rd n = s.read n := by
  unfold M19.rd PS.read
  rw [R.di]
  cases getL s.dirty n with
  | some x => rfl
  | none =>
    rw [R.si n]
    cases getL s.since n with
    | some x => rfl
    | none => rw [page_nil hw, R.pg n]
theorem R19.len {s : PS} {m : M19} (R : R19 s m) (hs : NoDup s.since) : m.since.length = s.since.length := len_of_same R.nd hs R.si
def M19.setF (m : M19) (k : Nat) (v : Int) : M19 := { m with dirty := putL m.dirty 0 (Nv.setF (m.rd 0) k v) }
def M19.wr (m : M19) (n : Int) (xs : List Int) : M19 := { m with dirty := putL m.dirty n xs }
def M19.count (m : M19) : M19 := if fl m.rd 6 = 0 then m.setF 6 1 else m
theorem M19.rd_wr (m : M19) (n j : Int) (xs : List Int) : (m.wr n xs).rd j = if j = n then xs else m.rd j := by
  unfold M19.rd M19.wr
  rw [getL_put]
  by_cases e : j = n
  · rw [if_pos e, if_pos e]
  · rw [if_neg e, if_neg e]
theorem M19.rd_set (m : M19) (k : Nat) (v j : Int) : (m.setF k v).rd j = rdSet m.rd k v j := M19.rd_wr m 0 j _
def M19.alloc (m : M19) : M19 := if fl m.rd 7 = 0 then (m.setF 6 (fl m.rd 6 + 1)).wr (fl m.rd 6) zeros else (m.setF 7 (nv ((m.rd (fl m.rd 7)).take 4))).wr (fl m.rd 7) zeros
def M19.allocN (m : M19) : Int := if fl m.rd 7 = 0 then fl m.rd 6 else fl m.rd 7
def M19.rel (m : M19) (n : Int) : M19 := (m.wr n (padL (nb 4 (fl m.rd 7)))).setF 7 n
def M19.committed (m : M19) : M19 := if m.dirty = [] then m else { m with log := m.log ++ grpB (srtL m.dirty), since := mergeL m.since (srtL m.dirty), dirty := [], steps := m.steps + 5 + 260 * (m.dirty.length : Int) }
def M19.checked (m : M19) : M19 := { m with disk := putAll m.disk m.since, steps := m.steps + (m.since.length : Int) + 3, since := [], log := [], sz := m.sz + m.since.length }
section
variable {s : PS} {m : M19} {gs : List (List (Int × List Int))} {t : Nat} {n v : Int} {xs : List Int} {k : Nat}
theorem R19.wr (R : R19 s m) (n : Int) (xs : List Int) : R19 (s.write n xs) (m.wr n xs) := ⟨by show putL m.dirty n xs = putL s.dirty n xs; rw [R.di], R.nd, R.si, R.lg, R.dn, R.pg⟩
theorem R19.fl (R : R19 s m) (hw : s.dev.writes = []) (k : Nat) : fl m.rd k = s.field k := by
  have : m.rd = s.read := funext fun n => R.rd hw n
  rw [this]
  rfl
theorem R19.set (R : R19 s m) (hw : s.dev.writes = []) (k : Nat) (v : Int) : R19 (s.setField k v) (m.setF k v) := by
  have := R.wr 0 (Nv.setF (m.rd 0) k v)
  rw [R.rd hw 0] at this
  unfold M19.setF
  rw [R.rd hw 0]
  exact this
theorem R19.alloc (R : R19 s m) (hw : s.dev.writes = []) : m.allocN = s.allocN ∧ R19 s.alloc m.alloc := by
  refine ⟨by unfold M19.allocN PS.allocN; rw [R.fl hw 7, R.fl hw 6], ?_⟩
  unfold M19.alloc PS.alloc
  rw [R.fl hw 7, R.fl hw 6]
  split
  · exact (R.set hw 6 _).wr _ _
  · rw [R.rd hw]
    exact (R.set hw 7 _).wr _ _
theorem R19.rel (R : R19 s m) (hw : s.dev.writes = []) (n : Int) : R19 (s.release n) (m.rel n) := by
  unfold M19.rel PS.release
  rw [R.fl hw 7]
  exact (R.wr n _).set hw 7 n
theorem R19.count (R : R19 s m) (hw : s.dev.writes = []) : R19 s.count m.count := by
  unfold M19.count PS.count
  rw [R.fl hw 6]
  split
  · exact R.set hw 6 1
  · exact R
theorem R19.commit (R : R19 s m) (I : InB s gs t) : R19 s.commit m.committed := by
  unfold M19.committed PS.commit
  rw [R.di]
  split
  · exact R
  · unfold PS.committed
    rw [commitD_free I.al I.st]
    refine ⟨rfl, noDup_merge _ _ R.nd, fun n => ?_, ?_, ?_, R.pg⟩
    · show getL (mergeL m.since (srtL s.dirty)) n = getL (mergeL s.since s.dirty) n
      rw [getL_merge _ _ _ (noDup_srt I.nd), getL_merge _ _ _ I.nd, getL_srt I.nd, R.si n]
    · show m.log ++ _ = s.dev.log ++ _
      rw [R.lg]
    · show m.steps + 5 + 260 * (s.dirty.length : Int) = s.dev.done + ((grpB (srtL s.dirty)).length : Int) + 1
      rw [grpB_len (ws := srtL s.dirty) fun w hw => (I.dok w ((srtL_mem I.nd).mp hw)).1, srtL_len, R.dn]
      omega
theorem R19.checked (R : R19 s m) (I : InB s gs t) : R19 s.checked m.checked := by
  rw [checked_eq I]
  refine ⟨R.di, List.nodup_nil, fun n => rfl, rfl, ?_, fun n => ?_⟩
  · show m.steps + (m.since.length : Int) + 3 = s.dev.done + (s.since.length : Int) + 3
    rw [R.dn, R.len I.ns]
  · show putAll m.disk m.since n = putAll s.dev.pages (srtL s.since) n
    rw [putAll_get _ _ _ R.nd, putAll_get _ _ _ (noDup_srt I.ns), getL_srt I.ns, R.si n, R.pg n]
/-- what a rollback or an opening begins with -/
theorem R19.cs (R : R19 s m) : R19 s.cs { m with dirty := [] } := ⟨rfl, R.nd, R.si, R.lg, R.dn, R.pg⟩
theorem R19.found (R : R19 s m) (I : InB s gs t) (hd : m.dirty = []) : R19 (foundB s.dev gs) (if m.log = [] then m else m.checked) := by
  have hlg : m.log = [] ↔ s.dev.logNow = [] := by rw [I.logNow, R.lg, I.lg]
  unfold foundB
  have hf : NoDup (foldG gs) := foldG_nd gs [] List.nodup_nil
  by_cases h : s.dev.logNow = []
  · rw [if_pos h, if_pos (hlg.mpr h)]
    exact ⟨hd, R.nd, fun n => by rw [R.si n]; exact I.eq n, R.lg, R.dn, R.pg⟩
  · rw [if_neg h, if_neg (fun z => h (hlg.mp z))]
    have hl : m.since.length = (foldG gs).length := len_of_same R.nd hf fun n => by rw [R.si n]; exact I.eq n
    unfold PS.checked
    rw [show (PS.opening s.dev gs).dev = s.dev from rfl, checkD_free I.al, I.wr, srtL_len]
    refine ⟨hd, List.nodup_nil, fun n => rfl, rfl, ?_, fun n => ?_⟩
    · show m.steps + (m.since.length : Int) + 3 = s.dev.done + ((foldG gs).length : Int) + 3
      rw [R.dn, hl]
    · show putAll m.disk m.since n = putAll s.dev.pages ([] ++ srtL (foldG gs)) n
      rw [List.nil_append, putAll_get _ _ _ R.nd, putAll_get _ _ _ (noDup_srt hf), getL_srt hf, R.si n, R.pg n, I.eq n]
end
end Nv

namespace Nv
open PySem L2
/-! # a device whose power may end -/
def DS.lim (d : DS) (a : Option Int) : DS := { d with allowed := a }
/-- the limit's steps and the steps done are c together -/
def Lim (d : DS) (c : Int) : Prop := ∀ a, d.allowed = some a → 0 ≤ a ∧ d.done + a = c
/-- a part of the device's work: what holds of it whatever the limit -/
structure Tk (m : DM) : Prop where
  lim : ∀ d c, Lim d c → Lim (m d).1 c
  cut : ∀ d c, Lim d c → (m d).2 = false → (m d).1.done = c ∧ (m d).1.allowed ≠ none
  free : ∀ d, (m d).2 = true → m (d.lim none) = ((m d).1.lim none, true)
  non : ∀ d, d.allowed = none → (m d).1.allowed = none ∧ (m d).2 = true
  up : ∀ d, d.done ≤ (m d).1.done
  stay : ∀ d, d.allowed ≠ none → (m d).1.allowed ≠ none
theorem tick_ok {d e : DS} (h : d.tick = some e) : (∀ c, Lim d c → Lim e c) ∧ (d.lim none).tick = some (e.lim none) ∧ e.done = d.done + 1 ∧ (d.allowed = none → e.allowed = none) ∧ e.pages = d.pages ∧ e.writes = d.writes ∧ e.log = d.log ∧ e.steps = d.steps := by
  obtain ⟨p, w, l, s, n, al⟩ := d
  cases al with
  | none =>
    have h : some (⟨p, w, l, s, n + 1, none⟩ : DS) = some e := h
    cases h
    exact ⟨fun c _ a ha => (by cases ha), rfl, rfl, fun _ => rfl, rfl, rfl, rfl, rfl⟩
  | some a =>
    have h : (if a ≤ 0 then none else some (⟨p, w, l, s, n + 1, some (a - 1)⟩ : DS)) = some e := h
    by_cases h0 : a ≤ 0
    · rw [if_pos h0] at h; cases h
    · rw [if_neg h0] at h
      cases h
      refine ⟨fun c L b hb => ?_, rfl, rfl, fun z => (by cases z), rfl, rfl, rfl, rfl⟩
      cases hb
      have := L a rfl
      show 0 ≤ a - 1 ∧ n + 1 + (a - 1) = c
      have h2 : n + a = c := this.2
      omega
theorem tick_stay {d e : DS} (h : d.tick = some e) (ha : d.allowed ≠ none) : e.allowed ≠ none := by
  obtain ⟨p, w, l, s, n, al⟩ := d
  cases al with
  | none => exact absurd rfl ha
  | some a =>
    have h : (if a ≤ 0 then none else some (⟨p, w, l, s, n + 1, some (a - 1)⟩ : DS)) = some e := h
    by_cases h0 : a ≤ 0
    · rw [if_pos h0] at h; cases h
    · rw [if_neg h0] at h
      cases h
      exact fun z => (by cases z)
theorem tick_no {d : DS} {c : Int} (h : d.tick = none) (L : Lim d c) : d.done = c ∧ d.allowed ≠ none := by
  obtain ⟨p, w, l, s, n, al⟩ := d
  cases al with
  | none => cases h
  | some a =>
    have h : (if a ≤ 0 then none else some (⟨p, w, l, s, n + 1, some (a - 1)⟩ : DS)) = none := h
    by_cases h0 : a ≤ 0
    · have := L a rfl
      have h2 : n + a = c := this.2
      exact ⟨by show n = c; omega, fun z => (by cases z)⟩
    · rw [if_neg h0] at h; cases h
theorem tick_non {d : DS} (h : d.allowed = none) : d.tick = some { d with done := d.done + 1 } := tick_free h
theorem tk_id : Tk fun d => (d, true) := ⟨fun _ _ L => L, fun _ _ _ h => (by cases h), fun _ _ => rfl, fun _ h => ⟨h, rfl⟩, fun _ => Int.le_refl _, fun _ h => h⟩
theorem tk_tick {f : DS → DS} (hd : ∀ d, (f d).done = d.done) (ha : ∀ d, (f d).allowed = d.allowed) (hl : ∀ d a, f (d.lim a) = (f d).lim a) : Tk (tickD f) := by
  have key : ∀ d : DS, (d.tick = none ∧ tickD f d = (d, false)) ∨ ∃ e, d.tick = some e ∧ tickD f d = (f e, true) := fun d => by
    cases h : d.tick with
    | none => exact .inl ⟨rfl, tickD_none h⟩
    | some e => exact .inr ⟨e, rfl, tickD_some h⟩
  refine ⟨fun d c L => ?_, fun d c L h => ?_, fun d h => ?_, fun d h => ?_, fun d => ?_, fun d h => ?_⟩
  · rcases key d with ⟨_, e⟩ | ⟨e, h1, h2⟩
    · rw [e]; exact L
    · rw [h2]
      intro a h
      rw [ha] at h
      rw [hd]
      exact (tick_ok h1).1 c L a h
  · rcases key d with ⟨h1, e⟩ | ⟨e, h1, h2⟩
    · rw [e]; exact tick_no h1 L
    · rw [h2] at h; cases h
  · rcases key d with ⟨_, e⟩ | ⟨e, h1, h2⟩
    · rw [e] at h; cases h
    · rw [h2, tickD_some (tick_ok h1).2.1, hl]
  · rw [tickD_some (tick_non h)]
    exact ⟨by rw [ha]; exact h, rfl⟩
  · rcases key d with ⟨_, e⟩ | ⟨e, h1, h2⟩
    · rw [e]; exact Int.le_refl _
    · rw [h2, hd, (tick_ok h1).2.2.1]
      omega
  · rcases key d with ⟨_, e⟩ | ⟨e, h1, h2⟩
    · rw [e]; exact h
    · rw [h2, ha]; exact tick_stay h1 h
theorem tk_and {a b : DM} (A : Tk a) (B : Tk b) : Tk (andD a b) := by
  have key : ∀ d : DS, ((a d).2 = false ∧ andD a b d = a d) ∨ ((a d).2 = true ∧ andD a b d = b (a d).1) := fun d => by
    cases h : (a d).2 with
    | false => exact .inl ⟨rfl, andD_no h⟩
    | true => exact .inr ⟨rfl, andD_ok h⟩
  refine ⟨fun d c L => ?_, fun d c L h => ?_, fun d h => ?_, fun d h => ?_, fun d => ?_, fun d h => ?_⟩
  · rcases key d with ⟨_, e⟩ | ⟨_, e⟩
    · rw [e]; exact A.lim d c L
    · rw [e]; exact B.lim _ c (A.lim d c L)
  · rcases key d with ⟨h1, e⟩ | ⟨h1, e⟩
    · rw [e]; exact A.cut d c L h1
    · rw [e] at h ⊢; exact B.cut _ c (A.lim d c L) h
  · rcases key d with ⟨h1, e⟩ | ⟨h1, e⟩
    · rw [e, h1] at h; cases h
    · rw [e] at h ⊢
      have h2 := A.free d h1
      rw [andD_ok (by rw [h2]), h2]
      exact B.free _ h
  · have h1 := A.non d h
    rw [andD_ok h1.2]
    exact B.non _ h1.1
  · rcases key d with ⟨_, e⟩ | ⟨_, e⟩
    · rw [e]; exact A.up d
    · rw [e]; exact Int.le_trans (A.up d) (B.up _)
  · rcases key d with ⟨_, e⟩ | ⟨_, e⟩
    · rw [e]; exact A.stay d h
    · rw [e]; exact B.stay _ (A.stay d h)
theorem appD_cons (b : Int) (r : List Int) : appD (b :: r) = andD (tickD fun d => d.add (some b)) (appD r) := by
  funext d
  show DS.appendAll d (b :: r) = _
  unfold DS.appendAll
  cases h : d.tick with
  | none => rw [andD_no (by rw [tickD_none h]), tickD_none h]
  | some e => rw [andD_ok (by rw [tickD_some h]), tickD_some h]; rfl
theorem tk_app : ∀ xs : List Int, Tk (appD xs)
  | [] => by
    have e : appD [] = fun d => (d, true) := rfl
    rw [e]; exact tk_id
  | b :: r => by
    rw [appD_cons]
    exact tk_and (tk_tick (fun _ => rfl) (fun _ => rfl) fun _ _ => rfl) (tk_app r)
theorem tk_syncL : Tk (tickD DS.syncL) := tk_tick (fun _ => rfl) (fun _ => rfl) fun _ _ => rfl
theorem tk_commit (ws : PL) : Tk (commitD ws) := tk_and (tk_app _) tk_syncL
theorem tk_writes : ∀ ws : PL, Tk (writesD ws)
  | [] => tk_id
  | w :: r => tk_and (tk_tick (fun _ => rfl) (fun _ => rfl) fun _ _ => rfl) (tk_writes r)
theorem tk_syncs : Tk syncsD := tk_and (tk_tick (fun _ => rfl) (fun _ => rfl) fun _ _ => rfl) (tk_and (tk_tick (fun _ => rfl) (fun _ => rfl) fun _ _ => rfl) tk_syncL)
theorem tk_check (ws : PL) : Tk (checkD ws) := tk_and (tk_writes ws) tk_syncs
/-! ### where the power ends -/
theorem app_at : ∀ (xs : List Int) (d : DS), ∃ k, k ≤ xs.length ∧ (d.appendAll xs).1.steps = d.steps ++ (xs.take k).map some ∧ (d.appendAll xs).1.pages = d.pages ∧ (d.appendAll xs).1.writes = d.writes ∧ (d.appendAll xs).1.log = d.log ∧ ((d.appendAll xs).2 = true → k = xs.length)
  | [], d => ⟨0, Nat.le_refl _, by show d.steps = d.steps ++ []; rw [List.append_nil], rfl, rfl, rfl, fun _ => rfl⟩
  | b :: r, d => by
    unfold DS.appendAll
    cases h : d.tick with
    | none => exact ⟨0, Nat.zero_le _, by show d.steps = d.steps ++ []; rw [List.append_nil], rfl, rfl, rfl, fun z => (by cases z)⟩
    | some e =>
      obtain ⟨_, _, _, _, t1, t2, t3, t4⟩ := tick_ok h
      obtain ⟨k, k1, k2, k3, k4, k5, k6⟩ := app_at r (e.add (some b))
      refine ⟨k + 1, by rw [List.length_cons]; omega, ?_, k3.trans t1, k4.trans t2, k5.trans t3, fun z => by rw [List.length_cons, k6 z]⟩
      refine k2.trans ?_
      show (e.steps ++ [some b]) ++ (r.take k).map some = _
      rw [t4, List.take_succ_cons, List.map_cons, List.append_assoc]
      rfl
/-- a commit that is cut off: some of its bytes wait -/
theorem commit_cut {d : DS} {ws : PL} (hs : d.steps = []) (h : (commitD ws d).2 = false) : ∃ k, k ≤ (grpB ws).length ∧ (commitD ws d).1.steps = ((grpB ws).take k).map some ∧ (commitD ws d).1.pages = d.pages ∧ (commitD ws d).1.writes = d.writes ∧ (commitD ws d).1.log = d.log := by
  obtain ⟨k, k1, k2, k3, k4, k5, k6⟩ := app_at (grpB ws) d
  rw [hs, List.nil_append] at k2
  cases ha : (appD (grpB ws) d).2 with
  | false =>
    have e : commitD ws d = d.appendAll (grpB ws) := andD_no ha
    rw [e]
    exact ⟨k, k1, k2, k3, k4, k5⟩
  | true =>
    have e : commitD ws d = tickD DS.syncL (d.appendAll (grpB ws)).1 := andD_ok ha
    rw [e] at h ⊢
    cases ht : (d.appendAll (grpB ws)).1.tick with
    | some u => rw [tickD_some ht] at h; cases h
    | none =>
      rw [tickD_none ht]
      exact ⟨k, k1, k2, k3, k4, k5⟩
theorem writes_at : ∀ (ws : PL) (d : DS), ∃ k, (writesD ws d).1.writes = d.writes ++ ws.take k ∧ (writesD ws d).1.pages = d.pages ∧ (writesD ws d).1.log = d.log ∧ (writesD ws d).1.steps = d.steps ∧ ((writesD ws d).2 = true → ws.take k = ws)
  | [], d => ⟨0, by show d.writes = d.writes ++ []; rw [List.append_nil], rfl, rfl, rfl, fun _ => rfl⟩
  | w :: r, d => by
    show ∃ k, (andD (tickD fun d => d.write w.1 w.2) (writesD r) d).1.writes = _ ∧ (andD (tickD fun d => d.write w.1 w.2) (writesD r) d).1.pages = _ ∧ (andD (tickD fun d => d.write w.1 w.2) (writesD r) d).1.log = _ ∧ (andD (tickD fun d => d.write w.1 w.2) (writesD r) d).1.steps = _ ∧ ((andD (tickD fun d => d.write w.1 w.2) (writesD r) d).2 = true → _)
    cases h : d.tick with
    | none =>
      have e := tickD_none (f := fun d : DS => d.write w.1 w.2) h
      rw [andD_no (by rw [e]), e]
      exact ⟨0, by show d.writes = d.writes ++ []; rw [List.append_nil], rfl, rfl, rfl, fun z => (by cases z)⟩
    | some u =>
      obtain ⟨_, _, _, _, t1, t2, t3, t4⟩ := tick_ok h
      have e := tickD_some (f := fun d : DS => d.write w.1 w.2) h
      rw [andD_ok (by rw [e]), e]
      obtain ⟨k, k1, k2, k3, k4, k5⟩ := writes_at r (u.write w.1 w.2)
      refine ⟨k + 1, ?_, k2.trans t1, k3.trans t3, k4.trans t4, fun z => by rw [List.take_succ_cons, k5 z]⟩
      refine k1.trans ?_
      show (u.writes ++ [(w.1, w.2)]) ++ r.take k = _
      rw [t2, List.take_succ_cons, List.append_assoc]
      rfl
/-- a checkpoint that is cut off: some writes wait, or all are there and the log is, or is to be, cleared -/
theorem check_cut {d : DS} {ws : PL} (hw : d.writes = []) (hs : d.steps = []) (h : (checkD ws d).2 = false) :
    (∃ k, (checkD ws d).1.writes = ws.take k ∧ (checkD ws d).1.pages = d.pages ∧ (checkD ws d).1.log = d.log ∧ (checkD ws d).1.steps = []) ∨
    ((checkD ws d).1.writes = [] ∧ (checkD ws d).1.pages = putAll d.pages ws ∧ (checkD ws d).1.log = d.log ∧ ((checkD ws d).1.steps = [] ∨ (checkD ws d).1.steps = [none])) := by
  obtain ⟨k, k1, k2, k3, k4, k5⟩ := writes_at ws d
  rw [hw, List.nil_append] at k1
  rw [hs] at k4
  cases ha : (writesD ws d).2 with
  | false =>
    have e : checkD ws d = writesD ws d := andD_no ha
    rw [e]
    exact .inl ⟨k, k1, k2, k3, k4⟩
  | true =>
    have e : checkD ws d = syncsD (writesD ws d).1 := andD_ok ha
    rw [e] at h ⊢
    rw [k5 ha] at k1
    generalize (writesD ws d).1 = d1 at k1 k2 k3 k4 h ⊢
    unfold syncsD at h ⊢
    cases h1 : d1.tick with
    | none =>
      have e1 := tickD_none (f := DS.syncP) h1
      rw [andD_no (by rw [e1]), e1]
      exact .inl ⟨ws.length, by rw [List.take_length]; exact k1, k2, k3, k4⟩
    | some d2 =>
      obtain ⟨_, _, _, _, t1, t2, t3, t4⟩ := tick_ok h1
      have e1 := tickD_some (f := DS.syncP) h1
      rw [andD_ok (by rw [e1]), e1] at h ⊢
      have p1 : d2.syncP.pages = putAll d.pages ws := by show putAll d2.pages d2.writes = _; rw [t1, t2, k1, k2]
      have p2 : d2.syncP.log = d.log := t3.trans k3
      have p3 : d2.syncP.steps = [] := t4.trans k4
      have p4 : d2.syncP.writes = [] := rfl
      show (_ ∨ ((andD (tickD fun d => d.add none) (tickD DS.syncL) d2.syncP).1.writes = _ ∧ _))
      replace h : (andD (tickD fun d => d.add none) (tickD DS.syncL) d2.syncP).2 = false := h
      right
      show (andD (tickD fun d => d.add none) (tickD DS.syncL) d2.syncP).1.writes = [] ∧ (andD (tickD fun d => d.add none) (tickD DS.syncL) d2.syncP).1.pages = _ ∧ (andD (tickD fun d => d.add none) (tickD DS.syncL) d2.syncP).1.log = _ ∧ ((andD (tickD fun d => d.add none) (tickD DS.syncL) d2.syncP).1.steps = _ ∨ (andD (tickD fun d => d.add none) (tickD DS.syncL) d2.syncP).1.steps = _)
      generalize d2.syncP = d3 at p1 p2 p3 p4 h ⊢
      cases h2 : d3.tick with
      | none =>
        have e2 := tickD_none (f := fun d : DS => d.add none) h2
        rw [andD_no (by rw [e2]), e2]
        exact ⟨p4, p1, p2, .inl p3⟩
      | some d4 =>
        obtain ⟨_, _, _, _, u1, u2, u3, u4⟩ := tick_ok h2
        have e2 := tickD_some (f := fun d : DS => d.add none) h2
        rw [andD_ok (by rw [e2]), e2] at h ⊢
        have q1 : (d4.add none).steps = [none] := by show d4.steps ++ [none] = _; rw [u4, p3]; rfl
        cases h3 : (d4.add none).tick with
        | some d5 => rw [tickD_some h3] at h; cases h
        | none =>
          rw [tickD_none h3]
          exact ⟨u2.trans p4, u1.trans p1, u3.trans p2, .inr q1⟩
end Nv

namespace Nv
open PySem L2
/-! # what a device gives back behind a crash -/
abbrev GL := List (List (Int × List Int))
def viewG (gs : GL) (p : Int → Option (List Int)) (n : Int) : List Int := match getL (foldG gs) n with
  | some xs => xs
  | none => (p n).getD zeros
structure Rec (p : Int → Option (List Int)) (l : List Int) (gs : GL) (C : Int → List Int) : Prop where
  lg : ∃ tl, l = logB gs ++ tl ∧ (∀ pre : List Int, gEnd (pre ++ tl) pre.length = none) ∧ Byt tl ∧ tl.length ≤ 20000
  gok : ∀ g ∈ gs, (∀ w ∈ g, PairOk w ∧ Byt w.2) ∧ g.length < 64
  vw : ∀ n, viewG gs p n = C n
theorem viewG_nil (p : Int → Option (List Int)) (n : Int) : viewG [] p n = (p n).getD zeros := rfl
theorem foldG_nd' (gs : GL) : NoDup (foldG gs) := foldG_nd gs [] List.nodup_nil
theorem view_of (I : InB s gs t) (n : Int) : viewG gs s.dev.pages n = s.cs.read n := by
  show _ = match getL s.since n with | some xs => xs | none => s.dev.page n
  unfold viewG
  rw [← I.eq n, page_nil I.wr]
theorem byt_nil : Byt [] := fun _ h => (by cases h)
theorem rec_of (I : InB s gs t) : Rec s.dev.pages s.dev.log gs s.cs.read :=
  ⟨⟨[], by rw [List.append_nil]; exact I.lg, gEnd_nil, byt_nil, Nat.zero_le _⟩, I.gok, view_of I⟩
theorem crashP_other (n : Int) : ∀ (ws : PL) (fs : List Int) (f : Int → Option (List Int)), getL ws n = none → crashP f ws fs n = f n
  | [], _, _, _ => by simp [crashP]
  | w :: r, [], _, _ => by simp [crashP]
  | w :: r, a :: fs, f, h => by
    have hw : ¬ w.1 = n := fun e => by rw [getL_pos e] at h; cases h
    rw [getL_neg hw] at h
    show crashP (endW f w a) r fs n = f n
    rw [crashP_other n r fs _ h]
    have hn : ¬ n = w.1 := fun e => hw e.symm
    unfold endW
    split
    · exact if_neg hn
    · split
      · exact if_neg hn
      · rfl
theorem Rec.crash (R : Rec p l gs C) {ws : PL} (h : ∀ w ∈ ws, getL (foldG gs) w.1 ≠ none) (fs : List Int) : Rec (crashP p ws fs) l gs C := by
  refine ⟨R.lg, R.gok, fun n => ?_⟩
  rw [← R.vw n]
  unfold viewG
  cases e : getL (foldG gs) n with
  | some x => rfl
  | none =>
    show (crashP p ws fs n).getD zeros = _
    rw [crashP_other n ws fs p]
    cases k : getL ws n with
    | none => rfl
    | some x => exact absurd e (h _ (getL_mem k))
theorem Rec.put (R : Rec p l gs C) {ws : PL} (hn : NoDup ws) (h : ∀ n, getL ws n = getL (foldG gs) n) : Rec (putAll p ws) l gs C ∧ ∀ n, ((putAll p ws) n).getD zeros = C n := by
  have key : ∀ n, ((putAll p ws) n).getD zeros = C n := fun n => by
    rw [putAll_get _ _ _ hn, h n, ← R.vw n]
    unfold viewG
    cases getL (foldG gs) n <;> rfl
  refine ⟨⟨R.lg, R.gok, fun n => ?_⟩, key⟩
  have hv := R.vw n
  unfold viewG at hv ⊢
  cases e : getL (foldG gs) n with
  | some x => rw [e] at hv; exact hv
  | none => exact key n
theorem rec_nil {p : Int → Option (List Int)} (h : ∀ n, (p n).getD zeros = C n) : Rec p [] [] C := ⟨⟨[], rfl, gEnd_nil, byt_nil, Nat.zero_le _⟩, fun g hg => (by cases hg), h⟩
theorem afterL_nil (l : List Int) : afterL l [] = l := rfl
/-- a checkpoint was cut off, then the crash -/
theorem rec_check {d : DS} (R : Rec d.pages d.log gs C) (hw : d.writes = []) (hs : d.steps = []) {ws : PL} (hn : NoDup ws) (hg : ∀ n, getL ws n = getL (foldG gs) n) (hf : (checkD ws d).2 = false) (fs : List Int) (k : Nat) :
    ∃ gs', (gs' = gs ∨ gs' = []) ∧ Rec ((checkD ws d).1.crash fs k).pages ((checkD ws d).1.crash fs k).log gs' C := by
  rcases check_cut hw hs hf with ⟨j, a1, a2, a3, a4⟩ | ⟨a1, a2, a3, a4⟩
  · refine ⟨gs, .inl rfl, ?_⟩
    show Rec (crashP (checkD ws d).1.pages (checkD ws d).1.writes fs) (afterL (checkD ws d).1.log ((checkD ws d).1.steps.take k)) gs C
    rw [a1, a2, a3, a4, List.take_nil, afterL_nil]
    refine R.crash (fun w hw => ?_) fs
    have hw' := List.mem_of_mem_take hw
    rw [← hg, getL_of_mem hn hw']
    exact fun z => (by cases z)
  · obtain ⟨R1, R2⟩ := R.put hn hg
    have e1 : ((checkD ws d).1.crash fs k).pages = putAll d.pages ws := by
      show crashP (checkD ws d).1.pages (checkD ws d).1.writes fs = _
      rw [a1, a2]
      simp [crashP]
    have e2 : ((checkD ws d).1.crash fs k).log = afterL d.log ((checkD ws d).1.steps.take k) := by
      show afterL (checkD ws d).1.log ((checkD ws d).1.steps.take k) = _
      rw [a3]
    rw [e1, e2]
    rcases a4 with a4 | a4
    · rw [a4, List.take_nil]
      exact ⟨gs, .inl rfl, R1⟩
    · rw [a4]
      cases k with
      | zero => exact ⟨gs, .inl rfl, R1⟩
      | succ k =>
        refine ⟨[], .inr rfl, ?_⟩
        rw [List.take_succ_cons, List.take_nil]
        exact rec_nil R2
/-- what a group changes -/
def overG (g : List (Int × List Int)) (C : Int → List Int) (n : Int) : List Int := match getL g n with
  | some x => x
  | none => C n
theorem Rec.snoc {d : DS} (hl : l = logB gs) (R : Rec p l gs C) {g : List (Int × List Int)} (hg : (∀ w ∈ g, PairOk w ∧ Byt w.2) ∧ g.length < 64) (hn : NoDup g) : Rec p (l ++ grpB g) (gs ++ [g]) (overG g C) := by
  refine ⟨⟨[], ?_, gEnd_nil, byt_nil, Nat.zero_le _⟩, fun x hx => ?_, fun n => ?_⟩
  · rw [List.append_nil, hl]
    unfold logB
    rw [List.flatMap_append]
    simp
  · rcases List.mem_append.mp hx with h | h
    · exact R.gok x h
    · rw [List.mem_singleton.mp h]; exact hg
  · have hv := R.vw n
    unfold viewG at hv ⊢
    unfold overG
    rw [foldG_snoc, getL_merge _ _ _ hn]
    cases getL g n with
    | some x => rfl
    | none => exact hv
theorem byt_grpB {g : List (Int × List Int)} (hg : ∀ w ∈ g, PairOk w ∧ Byt w.2) : Byt (grpB g) := fun x hx => by
  unfold grpB at hx
  rcases List.mem_append.mp hx with h | h
  · exact nb_byte _ _ x h
  · obtain ⟨w, hw, h⟩ := List.mem_flatMap.mp h
    unfold pairB at h
    rcases List.mem_append.mp h with h | h
    · exact nb_byte _ _ x h
    · exact (hg w hw).2 x h
/-- a commit was cut off, then the crash -/
theorem rec_commit {d : DS} (R : Rec d.pages d.log gs C) (hl : d.log = logB gs) (hw : d.writes = []) (hs : d.steps = []) {g : List (Int × List Int)} (hg : (∀ w ∈ g, PairOk w ∧ Byt w.2) ∧ g.length < 64) (hn : NoDup g)
    (hf : (commitD g d).2 = false) (fs : List Int) {k : Nat} (hk : k ≤ (commitD g d).1.steps.length) :
    (k < 4 + 260 * g.length → Rec ((commitD g d).1.crash fs k).pages ((commitD g d).1.crash fs k).log gs C) ∧
    (4 + 260 * g.length ≤ k → Rec ((commitD g d).1.crash fs k).pages ((commitD g d).1.crash fs k).log (gs ++ [g]) (overG g C)) := by
  obtain ⟨j, j1, j2, j3, j4, j5⟩ := commit_cut hs hf
  have hgl := grpB_len (ws := g) fun w hw => (hg.1 w hw).1
  have e1 : ((commitD g d).1.crash fs k).pages = d.pages := by
    show crashP (commitD g d).1.pages (commitD g d).1.writes fs = _
    rw [j3, j4, hw]
    simp [crashP]
  have hk' : k ≤ j := by
    rw [j2, List.length_map, List.length_take] at hk
    omega
  have e2 : ((commitD g d).1.crash fs k).log = d.log ++ (grpB g).take k := by
    show afterL (commitD g d).1.log ((commitD g d).1.steps.take k) = _
    rw [j5, j2, ← List.map_take, List.take_take, Nat.min_eq_left hk', afterL_some]
  rw [e1, e2]
  refine ⟨fun h => ⟨⟨(grpB g).take k, by rw [hl], fun pre => gEnd_cut (fun w hw => (hg.1 w hw).1) (by have := hg.2; omega) pre (by omega), fun x hx => byt_grpB hg.1 x (List.mem_of_mem_take hx), ?_⟩, R.gok, R.vw⟩, fun h => ?_⟩
  · rw [List.length_take]
    have := hg.2
    omega
  · rw [List.take_of_length_le (by omega)]
    exact Rec.snoc (d := d) hl R hg hn
/-- nothing waits, then the crash -/
theorem rec_calm {d : DS} (R : Rec d.pages d.log gs C) (hw : d.writes = []) (hs : d.steps = []) (fs : List Int) (k : Nat) : Rec (d.crash fs k).pages (d.crash fs k).log gs C := by
  have e1 : (d.crash fs k).pages = d.pages := by
    show crashP d.pages d.writes fs = _
    rw [hw]
    simp [crashP]
  have e2 : (d.crash fs k).log = d.log := by
    show afterL d.log (d.steps.take k) = _
    rw [hs, List.take_nil]
    rfl
  rw [e1, e2]
  exact R
/-! ### opening -/
theorem Rec.now {d : DS} (hs : d.steps = []) : d.logNow = d.log := by
  unfold DS.logNow
  rw [hs]
  rfl
theorem Rec.grps (R : Rec p l gs C) : Grps l 0 gs := by
  obtain ⟨tl, e, h, _, _⟩ := R.lg
  have := grps_of (gs := gs) (fun g hg => ⟨fun w hw => ((R.gok g hg).1 w hw).1, by have := (R.gok g hg).2; omega⟩) [] tl h
  rw [e]
  exact this
theorem byt_logB {gs : GL} (h : ∀ g ∈ gs, (∀ w ∈ g, PairOk w ∧ Byt w.2) ∧ g.length < 64) : Byt (logB gs) := fun x hx => by
  unfold logB at hx
  obtain ⟨g, hg, hx⟩ := List.mem_flatMap.mp hx
  exact byt_grpB (h g hg).1 x hx
theorem Rec.pos (R : Rec p l gs C) : ∀ x ∈ l, 0 ≤ x := fun x hx => by
  obtain ⟨tl, e, _, h, _⟩ := R.lg
  rw [e] at hx
  rcases List.mem_append.mp hx with k | k
  · exact (byt_logB R.gok x k).1
  · exact (h x k).1
theorem logB_len : ∀ {gs : GL}, (∀ g ∈ gs, (∀ w ∈ g, PairOk w ∧ Byt w.2) ∧ g.length < 64) → (logB gs).length ≤ 20000 * gs.length
  | [], _ => Nat.zero_le _
  | g :: r, h => by
    have h1 := logB_len (gs := r) fun x hx => h x (List.mem_cons_of_mem _ hx)
    have h2 := h g (List.mem_cons_self ..)
    have h3 := grpB_len (ws := g) fun w hw => (h2.1 w hw).1
    have h4 := h2.2
    unfold logB at h1 ⊢
    rw [List.flatMap_cons, List.length_append, List.length_cons, h3]
    omega
theorem Rec.len (R : Rec p l gs C) : l.length ≤ 20000 * gs.length + 20000 := by
  obtain ⟨tl, e, _, _, h⟩ := R.lg
  have := logB_len R.gok
  rw [e, List.length_append]
  omega
theorem rec_lnil (R : Rec p [] gs C) : gs = [] := by
  obtain ⟨tl, e, _, _, _⟩ := R.lg
  exact logB_nilB (List.append_eq_nil_iff.mp e.symm).1
theorem open_view {d : DS} (R : Rec d.pages l gs C) (hw : d.writes = []) (n : Int) : (PS.opening d gs).read n = C n := by
  rw [← R.vw n]
  show (match getL (foldG gs) n with | some xs => xs | none => d.page n) = _
  unfold viewG
  rw [page_nil hw]
/-- a pager opened without a limit: what it holds -/
theorem rec_open {d : DS} (R : Rec d.pages d.log gs C) (PC : Pgs C) (hw : d.writes = []) (hs : d.steps = []) (ha : d.allowed = none) (t : Nat) : InB (PS.opened d gs) [] t ∧ (∀ n, (PS.opened d gs).cs.read n = C n) ∧ (foldG gs = (PS.opening d gs).since) := by
  have ho : PS.opened d gs = (foundB d gs).count := rfl
  have hv := open_view R hw
  have PO : Pgs (PS.opening d gs).read := pgs_congr PC hv
  have hr : ∀ n, (foundB d gs).read n = C n := fun n => (foundB_read PO ha hw n).trans (hv n)
  have hd := foundB_dirty d gs
  have hdev : (foundB d gs).dev.log = [] ∧ (foundB d gs).dev.steps = [] ∧ (foundB d gs).dev.writes = [] ∧ (foundB d gs).dev.allowed = none ∧ (foundB d gs).since = [] := by
    unfold foundB
    by_cases h : d.logNow = []
    · rw [if_pos h]
      rw [Rec.now hs] at h
      have hg : gs = [] := by rw [h] at R; exact rec_lnil R
      exact ⟨h, hs, hw, ha, by rw [hg]; rfl⟩
    · rw [if_neg h]
      unfold PS.checked
      rw [show (PS.opening d gs).dev = d from rfl, checkD_free ha]
      exact ⟨rfl, rfl, rfl, ha, rfl⟩
  obtain ⟨d1, d2, d3, d4, d5⟩ := hdev
  obtain ⟨h1, h2, h3⟩ := countB_dirty hd (pgs_congr PC hr)
  have hcs : (foundB d gs).count.cs = foundB d gs := by
    rw [countB_cs]
    unfold PS.cs
    rw [show foundB d gs = ⟨(foundB d gs).dev, (foundB d gs).dirty, (foundB d gs).since⟩ from rfl, hd]
  have e1 := countB_dev (foundB d gs)
  have e2 := countB_since (foundB d gs)
  rw [ho]
  refine ⟨⟨h3, by rw [hcs]; exact pgs_congr PC hr, by rw [e1, d1]; rfl, by rw [e1, d2], by rw [e1, d3], by rw [e1, d4], fun g h => (by cases h), Nat.zero_le _, h1.1, by rw [e2, d5]; exact List.nodup_nil, h1.2, by rw [e2, d5]; exact fun n => rfl, by rw [e2, d5]; show _ + 0 ≤ _; omega, by show _ + 0 ≤ _; omega⟩, fun n => by rw [hcs]; exact hr n, rfl⟩
/-- a pager that was opened under a limit that was enough: the device behind it -/
theorem rec_opened {d : DS} (R : Rec d.pages d.log gs C) (hw : d.writes = []) (hs : d.steps = []) (ok : d.logNow = [] ∨ (checkD (srtL (PS.opening d gs).since) d).2 = true) :
    (PS.opened d gs).dev.writes = [] ∧ (PS.opened d gs).dev.steps = [] ∧ (PS.opened d gs).dev.log = [] ∧ Rec (PS.opened d gs).dev.pages [] [] C := by
  have ho : (PS.opened d gs).dev = (foundB d gs).dev := countB_dev _
  rw [ho]
  unfold foundB
  by_cases h : d.logNow = []
  · rw [if_pos h]
    rw [Rec.now hs] at h
    have hg : gs = [] := by rw [h] at R; exact rec_lnil R
    subst hg
    refine ⟨hw, hs, h, ?_⟩
    rw [h] at R
    exact R
  · rw [if_neg h]
    have ok := ok.resolve_left h
    have hn : NoDup (srtL (foldG gs)) := noDup_srt (foldG_nd' gs)
    obtain ⟨R1, R2⟩ := R.put hn fun n => getL_srt (foldG_nd' gs) n
    have hfr := (tk_check (srtL (foldG gs))).free d ok
    rw [checkD_free (show (d.lim none).allowed = none from rfl)] at hfr
    have e := congrArg Prod.fst hfr
    unfold PS.checked
    show (checkD (srtL (foldG gs)) d).1.writes = [] ∧ (checkD (srtL (foldG gs)) d).1.steps = [] ∧ (checkD (srtL (foldG gs)) d).1.log = [] ∧ Rec (checkD (srtL (foldG gs)) d).1.pages [] [] C
    generalize (checkD (srtL (foldG gs)) d).1 = r at e ⊢
    have f1 : r.writes = [] := (congrArg DS.writes e).symm
    have f2 : r.steps = [] := (congrArg DS.steps e).symm
    have f3 : r.log = [] := (congrArg DS.log e).symm
    have f4 : r.pages = putAll d.pages (srtL (foldG gs)) := by
      have := (congrArg DS.pages e).symm
      refine Eq.trans this ?_
      show putAll d.pages (d.writes ++ srtL (foldG gs)) = _
      rw [hw]
      rfl
    rw [f4]
    exact ⟨f1, f2, f3, rec_nil R2⟩
end Nv

namespace Nv
open PySem L2
/-! # a pager under a limit -/
def PS.lim (s : PS) (a : Option Int) : PS := { s with dev := s.dev.lim a }
section
variable {s : PS} {gs : GL} {t : Nat} {a : Option Int}
theorem lim_read (s : PS) (a : Option Int) (n : Int) : (s.lim a).read n = s.read n := rfl
theorem lim_read' (s : PS) (a : Option Int) : (s.lim a).read = s.read := rfl
theorem lim_cs (s : PS) (a : Option Int) : (s.lim a).cs.read = s.cs.read := rfl
theorem lim_write (s : PS) (a : Option Int) (n : Int) (xs : List Int) : (s.lim a).write n xs = (s.write n xs).lim a := rfl
theorem lim_setF (s : PS) (a : Option Int) (k : Nat) (v : Int) : (s.lim a).setField k v = (s.setField k v).lim a := rfl
theorem lim_lim (s : PS) (a b : Option Int) : (s.lim a).lim b = s.lim b := rfl
theorem lim_none (h : s.dev.allowed = none) : s.lim none = s := by
  obtain ⟨⟨p, w, l, st, n, al⟩, d, c⟩ := s
  obtain rfl : al = none := h
  rfl
theorem overG_read (hn : NoDup s.dirty) (n : Int) : overG (srtL s.dirty) s.cs.read n = s.read n := by
  unfold overG
  rw [getL_srt hn]
  unfold PS.read PS.cs
  cases getL s.dirty n with
  | some x => rfl
  | none => rfl
theorem srt_ok (I : InB s gs t) (h : s.dirty.length < 64) : (∀ w ∈ srtL s.dirty, PairOk w ∧ Byt w.2) ∧ (srtL s.dirty).length < 64 :=
  ⟨fun w hw => I.dok w ((srtL_mem I.nd).mp hw), by rw [srtL_len]; exact h⟩
/-- a commit under a limit that is enough -/
theorem commit_lim (he : s.dirty ≠ []) (hc : (commitD (srtL s.dirty) s.dev).2 = true) : s.commit.lim none = (s.lim none).commit := by
  have h := (tk_commit (srtL s.dirty)).free s.dev hc
  have h1 : s.commit = s.committed := if_neg he
  have h2 : (s.lim none).commit = (s.lim none).committed := if_neg he
  rw [h1, h2]
  show (⟨(commitD (srtL s.dirty) s.dev).1.lim none, [], mergeL s.since s.dirty⟩ : PS) = ⟨(commitD (srtL s.dirty) (s.dev.lim none)).1, [], mergeL s.since s.dirty⟩
  rw [h]
theorem checked_lim (hc : (checkD (srtL s.since) s.dev).2 = true) : s.checked.lim none = (s.lim none).checked := by
  have h := (tk_check (srtL s.since)).free s.dev hc
  show (⟨(checkD (srtL s.since) s.dev).1.lim none, s.dirty, []⟩ : PS) = ⟨(checkD (srtL s.since) (s.dev.lim none)).1, s.dirty, []⟩
  rw [h]
/-- steps and limit behind a commit that was not cut off -/
theorem commit_used (hs : s.dev.steps = []) (he : s.dirty ≠ []) (hok : ∀ w ∈ srtL s.dirty, PairOk w) (hc : (commitD (srtL s.dirty) s.dev).2 = true) (L : Lim s.dev c) : Lim s.commit.dev c ∧ s.commit.dev.done = s.dev.done + 5 + 260 * (s.dirty.length : Int) := by
  have h1 : s.commit = s.committed := if_neg he
  have h := (tk_commit (srtL s.dirty)).free s.dev hc
  rw [commitD_free (show (s.dev.lim none).allowed = none from rfl) (show (s.dev.lim none).steps = [] from hs)] at h
  have e := congrArg (fun x : DS × Bool => x.1.done) h
  rw [h1]
  refine ⟨(tk_commit _).lim _ _ L, ?_⟩
  have e : s.dev.done + ((grpB (srtL s.dirty)).length : Int) + 1 = (commitD (srtL s.dirty) s.dev).1.done := e
  show (commitD (srtL s.dirty) s.dev).1.done = _
  rw [← e, grpB_len hok, srtL_len]
  push_cast
  omega
theorem commit_cutU (L : Lim s.dev c) (hc : (commitD (srtL s.dirty) s.dev).2 = false) : (commitD (srtL s.dirty) s.dev).1.done = c ∧ s.dev.allowed ≠ none := by
  refine ⟨((tk_commit _).cut _ _ L hc).1, fun h => ?_⟩
  rw [((tk_commit (srtL s.dirty)).non _ h).2] at hc
  cases hc
theorem check_cutU (L : Lim s.dev c) (hc : (checkD (srtL s.since) s.dev).2 = false) : (checkD (srtL s.since) s.dev).1.done = c ∧ s.dev.allowed ≠ none ∧ s.dev.done ≤ (checkD (srtL s.since) s.dev).1.done := by
  refine ⟨((tk_check _).cut _ _ L hc).1, fun h => ?_, (tk_check _).up _⟩
  rw [((tk_check (srtL s.since)).non _ h).2] at hc
  cases hc
theorem lim_le {d : DS} (L : Lim d c) (h : d.allowed ≠ none) : d.done ≤ c := by
  cases e : d.allowed with
  | none => exact absurd e h
  | some a => have := L a e; omega
/-! ### the device between the pagers -/
structure Dv (d : DS) (C : Int → List Int) : Prop where
  wr : d.writes = []
  st : d.steps = []
  al : d.allowed = none
  rc : ∃ gs, Rec d.pages d.log gs C ∧ gs.length ≤ 31 ∧ (foldG gs).length ≤ 63
theorem dv_crash {d : DS} (h : Rec (d.crash fs k).pages (d.crash fs k).log gs C) (h1 : gs.length ≤ 31) (h2 : (foldG gs).length ≤ 63) : Dv (d.crash fs k) C := ⟨rfl, rfl, rfl, gs, h, h1, h2⟩
theorem inB_len (I : InB s gs t) (ht : t ≤ 31) : gs.length ≤ 31 ∧ (foldG gs).length ≤ 63 ∧ s.dirty.length ≤ 63 ∧ s.since.length ≤ 63 := by
  have := I.gl
  have := I.z1
  have := I.z2
  omega
/-- behind a commit that was cut off -/
theorem dv_cut (I : InB (s.lim none) gs t) (ht : t ≤ 30) (he : s.dirty ≠ []) (hc : (commitD (srtL s.dirty) s.dev).2 = false) (fs : List Int) {k : Nat} (hk : k ≤ (commitD (srtL s.dirty) s.dev).1.steps.length) :
    (k < 4 + 260 * s.dirty.length → Dv ((commitD (srtL s.dirty) s.dev).1.crash fs k) s.cs.read) ∧ (4 + 260 * s.dirty.length ≤ k → Dv ((commitD (srtL s.dirty) s.dev).1.crash fs k) s.read) := by
  have hl := inB_len I (by omega)
  have R0 : Rec s.dev.pages s.dev.log gs s.cs.read := rec_of (s := s.lim none) I
  have J := I.commit ht
  have hd0 : (s.lim none).dirty ≠ [] := he
  have hg : grpsB (s.lim none) gs = gs ++ [srtL s.dirty] := if_neg hd0
  rw [hg] at J
  have hl2 := inB_len J (by omega)
  have hsl := srtL_len s.dirty
  obtain ⟨R1, R2⟩ := rec_commit (d := s.dev) R0 I.lg I.wr I.st (g := srtL s.dirty) (srt_ok (s := s.lim none) I (Nat.lt_of_le_of_lt hl.2.2.1 (by decide))) (noDup_srt I.nd) hc fs hk
  rw [hsl] at R1 R2
  refine ⟨fun h => dv_crash (R1 h) hl.1 hl.2.1, fun h => ?_⟩
  have R := R2 h
  have e : overG (srtL s.dirty) s.cs.read = s.read := funext fun n => overG_read (s := s) I.nd n
  rw [e] at R
  exact dv_crash R hl2.1 hl2.2.1
/-- behind a checkpoint that was cut off -/
theorem dv_late (I : InB (s.lim none) gs t) (ht : t ≤ 31) (hc : (checkD (srtL s.since) s.dev).2 = false) (fs : List Int) (k : Nat) : Dv ((checkD (srtL s.since) s.dev).1.crash fs k) s.cs.read := by
  have hl := inB_len I ht
  have R0 : Rec s.dev.pages s.dev.log gs s.cs.read := rec_of (s := s.lim none) I
  obtain ⟨gs', h, R⟩ := rec_check (d := s.dev) R0 I.wr I.st (ws := srtL s.since) (noDup_srt I.ns) (fun n => (getL_srt I.ns n).trans (I.eq n)) hc fs k
  rcases h with rfl | rfl
  · exact dv_crash R hl.1 hl.2.1
  · exact dv_crash R (by decide) (by decide)
/-- nothing was cut off -/
theorem dv_stands (I : InB (s.lim none) gs t) (ht : t ≤ 31) (fs : List Int) (k : Nat) : Dv (s.dev.crash fs k) s.cs.read := by
  have hl := inB_len I ht
  have R0 : Rec s.dev.pages s.dev.log gs s.cs.read := rec_of (s := s.lim none) I
  exact dv_crash (rec_calm R0 I.wr I.st fs k) hl.1 hl.2.1
theorem dv_of (I : InB s gs t) (ht : t ≤ 31) : Dv s.dev s.cs.read := ⟨I.wr, I.st, I.al, gs, rec_of I, (inB_len I ht).1, (inB_len I ht).2.1⟩
/-- an opening under a limit that was cut off, then the crash -/
theorem dv_open_cut {d : DS} (V : Dv d C) (hg : Rec d.pages d.log gs C) (h1 : gs.length ≤ 31) (h2 : (foldG gs).length ≤ 63) (hc : (checkD (srtL (PS.opening d gs).since) (d.lim a)).2 = false) (fs : List Int) (k : Nat) : Dv ((checkD (srtL (PS.opening d gs).since) (d.lim a)).1.crash fs k) C := by
  have hn := foldG_nd' gs
  obtain ⟨gs', h, R⟩ := rec_check (d := d.lim a) (C := C) (gs := gs) hg V.wr V.st (ws := srtL (foldG gs)) (noDup_srt hn) (fun n => getL_srt hn n) hc fs k
  rcases h with rfl | rfl
  · exact dv_crash R h1 h2
  · exact dv_crash R (by decide) (by decide)
/-- an opening under a limit that was enough, the limit taken away -/
theorem dv_open_ok {d : DS} (V : Dv d C) (hg : Rec d.pages d.log gs C) (ok : (d.lim a).logNow = [] ∨ (checkD (srtL (PS.opening (d.lim a) gs).since) (d.lim a)).2 = true) : Dv ((PS.opened (d.lim a) gs).dev.lim none) C := by
  obtain ⟨e1, e2, e3, R⟩ := rec_opened (d := d.lim a) hg V.wr V.st ok
  refine ⟨e1, e2, rfl, [], ?_, by decide, by decide⟩
  show Rec (PS.opened (d.lim a) gs).dev.pages (PS.opened (d.lim a) gs).dev.log [] C
  rw [e3]
  exact R
/-! ### what the law keeps -/
structure Kp6 (k0 : Int) (K : Int → List Int) (rd : Int → List Int) : Prop where
  f3 : fl rd 3 = k0
  pg : ∀ n : Int, 1 ≤ n → n ≤ 4 → rd n = K n
theorem Kp6.congr (x : Kp6 k0 K rd) (h : ∀ n, rd' n = rd n) : Kp6 k0 K rd' := ⟨by have := x.f3; unfold fl at this ⊢; rw [h 0]; exact this, fun n a b => (h n).trans (x.pg n a b)⟩
theorem Kp6.set (x : Kp6 k0 K rd) (P : Pgs rd) {v : Int} (h0 : 0 ≤ v) (h1 : v < 4294967296) : Kp6 v K (rdSet rd 3 v) :=
  ⟨fl_same (P 0).1 (by decide) h0 h1, fun n a b => by rw [rdSet_ne (by omega)]; exact x.pg n a b⟩
theorem Kp6.put (x : Kp6 k0 K rd) {n : Int} (h : 1 ≤ n) (xs : List Int) : Kp6 k0 (fun j => if j = n then xs else K j) (rdPut rd n xs) :=
  ⟨by rw [fl_put (by omega)]; exact x.f3, fun j a b => by
    unfold rdPut
    by_cases e : j = n
    · rw [if_pos e, if_pos e]
    · rw [if_neg e, if_neg e]; exact x.pg j a b⟩
/-- the head's count doesn't matter -/
theorem kp_count (P : Pgs s.cs.read) (x : Kp6 k0 K s.cs.read) : Kp6 k0 K s.cs.count.read := by
  unfold PS.count
  split
  · exact Kp6.congr (rd := rdSet s.cs.read 6 1) ⟨by rw [fl_other (P 0).1 (by decide) (by decide) (by decide)]; exact x.f3, fun n a b => by rw [rdSet_ne (by omega)]; exact x.pg n a b⟩ fun n => read_setField _ 6 1 n
  · exact x
theorem opened_count (d : DS) (gs : GL) : (PS.opened d gs).cs.count = PS.opened d gs := by
  have ho : PS.opened d gs = (foundB d gs).count := rfl
  rw [ho, countB_cs]
  have : (foundB d gs).cs = foundB d gs := by
    unfold PS.cs
    rw [show foundB d gs = ⟨(foundB d gs).dev, (foundB d gs).dirty, (foundB d gs).since⟩ from rfl, foundB_dirty]
  rw [this]
/-- a pager opened behind it all -/
theorem dv_open {d : DS} (V : Dv d C) (PC : Pgs C) (hg : Rec d.pages d.log gs C) (t : Nat) (x : Kp6 k0 K C) : InB (PS.opened d gs) [] t ∧ Kp6 k0 K (PS.opened d gs).read ∧ (∀ n, (PS.opened d gs).cs.read n = C n) ∧ (PS.opened d gs).dirty.map (·.1) = (if (PS.opened d gs).dirty = [] then [] else [0]) ∧ (PS.opened d gs).dev.log = [] ∧ (PS.opened d gs).dev.steps = [] ∧ (PS.opened d gs).dev.writes = [] := by
  obtain ⟨I, hv, _⟩ := rec_open hg PC V.wr V.st V.al t
  have k1 : Kp6 k0 K (PS.opened d gs).cs.read := x.congr hv
  have k2 := kp_count (s := PS.opened d gs) I.cl k1
  rw [opened_count] at k2
  refine ⟨I, k2, hv, ?_, I.lg, I.st, I.wr⟩
  have hd : (PS.opened d gs).dirty = (foundB d gs).count.dirty := rfl
  rw [hd]
  unfold PS.count
  split
  · have e : ((foundB d gs).setField 6 1).dirty = [(0, Nv.setF ((foundB d gs).read 0) 6 1)] := by
      show putL (foundB d gs).dirty 0 _ = _
      rw [foundB_dirty]
      rfl
    rw [e]
    rfl
  · rw [foundB_dirty]
    rfl
end
end Nv

namespace Nv
open PySem PySem.Spec PyProof.Rows L2 PySem.W
/-! # a != b for two dicts whose values are equal, numbers or lists -/
theorem dict_ne {prog : Program} {w : World} {T : Type} [DecidableEq T] {knd : KeyKind prog w T} {A : Around} {s : Shared} {a b : Addr} {ka kb : List (T × Value)} {r : Bool} (ya : (a == sysModules) = false) (yb : (b == sysModules) = false)
    (da : s.heap.DictOf knd a ka) (db : s.heap.DictOf knd b kb) (hu : A.units < cLine) (hits : ka.length = kb.length → KeqHitsP prog w A.in1 s kb ka r) (E Q : Value → Shared → Prop) (h : Q (.bool (!(ka.length == kb.length && r))) s) :
    wpAny (model prog w) A (compareOp .NotEq (.ref a) (.ref b)) Q E s := by
  have body : wpAny (model prog w) A.in1 (Builtin.Dict.dictSlotArgs "__ne__" ⟨[.ref a, .ref b], []⟩) (fun x s1 => s1 = s ∧ x = (.ref a, .ref b)) E s := by
    unfold Builtin.Dict.dictSlotArgs
    exact wpAny_bind (wpAny_notOrdered_dict da.typeIs (wpAny_pure ⟨rfl, rfl⟩))
  refine wpAny_richCompare_same_room (op := .NotEq) da.typeIs db.typeIs PySem.F.slot_dict_ne (wpAny_call_entry PySem.F.slot_dict_ne da.typeIs PySem.F.entry_dict_ne (wpAny_bind (wpAny_mono body (fun x s1 hx => ?_) fun _ _ z => z)) (PySem.F.args_dict_ne_2 _ _)) hu
  obtain ⟨rfl, rfl⟩ := hx
  refine wpAny_bind (wpAny_isInstance (T := "dict") db.typeIs PySem.F.sub_dict_dict ?_)
  simp only [Bool.not_true, Bool.false_eq_true, if_false]
  refine wpAny_bind (wpAny_pure (wpAny_bind (wpAny_pure (wpAny_bind (samePairsP ya yb da db hits (wpAny_pure ⟨_, rfl, (fun z => nomatch z), ?_⟩))))))
  simpa using h
/-- the values of one stand in the other: numbers the same, or lists of the same numbers -/
def rNeV (K : Frag) : R2 := fun x y H Q => ∃ a b ks ls, x = .ref a ∧ y = .ref b ∧ H a = some (.dK ks) ∧ H b = some (.dK ls) ∧ ks.length = ls.length ∧ (∀ p ∈ ks, ∃ u, valV ls p.1 = some u ∧ EqV K H 2 p.2 u) ∧ Q (.bl false) H
theorem op_neV {X : Cx} (hu : X.A.units + 64 < cLine) : OpR X (compareOp .NotEq) (rNeV X.K) := by
  intro pins s σ H x y v u Q I rx ry h
  obtain ⟨a, b, ks, ls, rfl, rfl, ha, hb, hl, hp, q⟩ := h
  obtain rfl : v = Value.ref a := rx
  obtain rfl : u = Value.ref b := ry
  obtain ⟨_, ya, va, ra, da⟩ := (show ObjOk X.prog X.w H s.heap a (.dK ks) from I.hok a _ ha)
  obtain ⟨_, yb, vb, rb, db⟩ := (show ObjOk X.prog X.w H s.heap b (.dK ls) from I.hok b _ hb)
  have ih := eqV_run I 2 X.A.in1 (by show X.A.units + 1 + 2 < cLine; omega)
  refine dict_ne (knd := mixKind X.prog X.w) (r := true) ya yb da db (by omega) (fun _ => hits_run ih rb ra hp) _ _ ?_
  have e : va.length = vb.length := by rw [← ra.length, ← rb.length]; exact hl
  rw [show (!(va.length == vb.length && true)) = false from by rw [e]; simp]
  exact ⟨.bl false, H, I, rfl, q⟩
theorem eqV_int {K : Frag} {H : Hp} (i : Int) : EqV K H 2 (.int i) (.int i) := .inl ⟨rfl, rfl⟩
theorem eqV_ints {K : Frag} {H : Hp} {a b : Addr} {xs : List Int} (ha : SqL K H a (xs.map V.int)) (hb : SqL K H b (xs.map V.int)) : EqV K H 2 (.ref a) (.ref b) := by
  refine .inr (.inr (.inl ⟨a, b, _, _, rfl, rfl, ha, hb, ?_⟩))
  have h : ∀ xs : List Int, Paired (EqV K H 1) (xs.map V.int) (xs.map V.int) := fun xs => by
    induction xs with
    | nil => exact .nil
    | cons x r ih => exact .cons (.inl ⟨rfl, rfl⟩) ih
  exact h xs
end Nv

namespace Nv
open PySem PySem.Spec PyProof.Rows L2
/-! # an own error class called without argument, its context told -/
theorem pmk_own0N {X : Cx} {C : Addr} {bmB : List Value} {B newId initId : String} {x : Str} {p pos : Pos} (F : ExcBaseFacts B newId initId bmB) (q : PySem.W.excIn X.K C bmB newId = true) (gC : X.mg x = some (.ref C)) (kC : PySem.W.keepIn X.K (.ref C) = true) (r : Raises X (.ref C)) (hg : Gl X x)
    (hdb : (x == ("__debug__" : Str)) = false := by decide) : L2N.PMk X (.Call (.Name x p) [] [] pos) (fun _ H Q => Q (.ref C) none H) := by
  intro pins s σ H Q I h
  refine wpAny_Call_Name_kw (ld_glob I hg gC ?_ hdb)
  refine PySem.W.callWith_K0 (first := []) I.kIn kC ?_
  obtain ⟨bm, N, nm, qn, bs, hdct, sn, sub, ab, col, dd, k0, k1, k2, k3, k5, mN, hC, hN, hni, T⟩ := exc_obj I.kIn q
  obtain ⟨hp1, g1, d1, tk1, os1⟩ := s
  refine wpAny_call_exc_subT F T hC hN hni (fun h' e hm => ?_) (Nat.zero_le _)
  exact L2N.mk_of I hm r h (I.hok.gone hm.new)
end Nv
namespace L2
open PySem PySem.Spec PyProof.Rows
/-- a def that lets errors out whose context is told -/
theorem Fun.okN {P : Program} {w : World} {K : PySem.W.Frag} {mg : Str → Option Value} {base : Heap} {x qual : Str} {st : Stmt} {f : Addr} {fd : FuncData} {N ps : List Str} {k : Nat} {sp : Sp} (F : Fun K x qual st f fd) (S : FnScope N ps (defScope st)) (len : ∀ vs H Q E, sp vs H Q E → vs.length = ps.length)
    (body : ∀ (cdv : Value) (A : Around) (outer : List Env) (s : Shared) (H : Hp) (vs : List V) (Q : VK) (E : XK), Room k (A.deeper (envOfC qual (defScope st) s.heap.objs.size f cdv)) → sp vs H Q E →
      ∃ t, PSs (cxOf (L2N.CX P w) P w K mg base N qual (defScope st) f cdv A outer s H E) (defBody st) t ∧ t { nx := fun _ H' => Q .non H', rt := Q } (start N vs) H) : FnOk P w K mg base (L2N.CX P w) (k + 1) f fd ps sp := by
  obtain ⟨_, _, _, _, _, _, cdv, _, _, rfl, look, code⟩ := F.ex
  exact fn_of look code S len fun A outer s H vs Q E => body cdv A outer s H vs Q E
end L2
namespace Nv
open PySem PySem.Spec PyProof.Rows L2
theorem passNoN {X : Cx} : Passes (L2N.CX X.prog X.w) X (fun _ _ _ => False) := fun _ _ _ _ _ _ _ ⟨_, _, _, _, _, _, _, _, _, _, _, _, h⟩ => h.elim
end Nv

namespace Nv
open PySem PySem.Spec PyProof.Rows L2
/-- what len asks of a list or tuple -/
def rLenK (K : Frag) : List V → Hp → VK → Prop := fun xs H Q => ∃ p ys, xs = [V.ref p] ∧ (SqL K H p ys ∨ SqT K H p ys) ∧ Q (.int ys.length) H
theorem pe_lenK {X : Cx} {K : Frag} {p pos : Pos} {e : Expr} {te : TE} (hK : X.K = K) (hg : Gl X "len") (hm : X.mg "len" = none) (he : PE X e te) (hst : starEach [e] X.env = (false, eval e X.env) :: starEach [] X.env := by rfl) :
    PE X (.Call (.Name "len" p) [e] [] pos) (tCB (rLenK K) (tCons te tNil)) := by
  subst hK
  exact pe_callB (id := "len") (r := rLenK X.K) call_len_seq hg hm (by decide +kernel) (pa_cons he pa_nil hst) (by decide) (by decide) hst rfl
/-! # calls in a try whose suite reads the slots -/
section
variable {X : Cx} {CX : CXT} {k : Nat} {f C : Addr} {fd : FuncData} {ps : List Str} {sp : Sp} {dvs : List V} {ds : List Value} {E : L2.St → XK} {x m : Str} {p pos apos : Pos} {e o : Expr} {es : List Expr} {ta : TE} {t : TA}
def tMethS (C : Addr) (m : Str) (sp : Sp) (dvs : List V) (E : L2.St → XK) (ta : TE) (t : TA) : TE := fun σ H Q => tMeth C m sp dvs (E σ) ta t σ H Q
theorem pe_meth0S {pl : Sem Bool} (he : PE X o ta) (c : Cls X.K C) (hm : Meth X.K C m f) (F : FnOk X.prog X.w X.K X.mg X.base CX k f fd ps sp) (hr : Room k X.A) (hb : Binds X.K fd ps ds) (hd : Vals dvs ds) (hx : ∀ σ, PassesAt CX X σ (E σ))
    (ht : eval (.Call (.Attribute o m apos) [] [] pos) X.env = (do
      let ov ← eval o X.env
      standAt apos.atName
      let (f, first) ← holding [ov] (getMethod ov m pl)
      callWith pos f first (backTo pos (starEach [] X.env)) (backToKw pos (keywordEach [] X.env))) := by rfl) :
    PE X (.Call (.Attribute o m apos) [] [] pos) (tMethS C m sp dvs E ta tNil) where
  run pins s σ H Q I h := by
    refine PySem.W.methodCall_KW (pl := pl) (wpAny_mono (he.run pins s σ H _ I h) (fun u s1 ⟨x, H1, I1, rx, a, dx, fs, ex, ea, l, q⟩ => ?_) fun _ _ z => z) ht
    subst ex
    obtain rfl : u = Value.ref a := rx
    have go := run_fnSD (us := [.ref a]) (vs := [.ref a]) F hr hb hd (hx σ) I1 (.cons rfl .nil) q
    exact getmeth_ok I1 ea c hm l (PySem.W.callWith_K0 (first := [.ref a]) I1.kIn hm.kp go)
def tMakeS (C : Addr) (sp : Sp) (dvs : List V) (E : L2.St → XK) (t : TA) : TE := fun σ H Q => tMake C sp dvs (E σ) t σ H Q
theorem pe_makeS (M : Mk X.K C f) (F : FnOk X.prog X.w X.K X.mg X.base CX k f fd ps sp) (hr : Room (k + 1) X.A) (hg : Gl X x) (hm : X.mg x = some (.ref C)) (hb : Binds X.K fd ps ds) (hd : Vals dvs ds) (hx : ∀ σ, PassesAt CX X σ (E σ))
    (ha : PA X (e :: es) t) (hdb : (x == ("__debug__" : Str)) = false := by decide) (he : starEach (e :: es) X.env = (false, eval e X.env) :: starEach es X.env := by rfl) (hpl : (backTo pos (starEach es X.env)).any (·.1) = false := by rfl) :
    PE X (.Call (.Name x p) (e :: es) [] pos) (tMakeS C sp dvs E t) where
  run pins s σ H Q I h := by
    refine wpAny_Call_Name_kw (ld_glob I hg hm (PySem.W.callWith_K (h₀ := X.base) I.ok.mod.kin M.kp (wpAny_mono (ha.run pos pins s σ H _ I h) (fun us s1 ⟨vs, H1, I1, r, q⟩ => ⟨I1.kIn, ?_⟩) fun _ _ z => z) he hpl) hdb)
    have J := Inv.made (C := C) I1
    have w := q (s1.heap.objs.size + 1) s1.heap.objs.size (I1.hok.fresh (Nat.le_succ _)) (I1.hok.fresh (Nat.le_refl _)) (Nat.ne_of_lt (Nat.lt_succ_self _))
    have vv : Vals (V.ref (s1.heap.objs.size + 1) :: (vs ++ dvs)) (Value.ref (s1.heap.objs.size + 1) :: (us ++ ds)) := .cons rfl (r.append hd)
    have len : (Value.ref (s1.heap.objs.size + 1) :: us ++ ds).length = ps.length := vv.length.symm.trans (F.len _ _ _ _ w)
    have body := F.run _ X.stack _ _ ⟨Value.ref (s1.heap.objs.size + 1) :: us, []⟩ _ _ _ _ (hr.make C us []) (J.env0.make C us []) (hb _ (Value.ref (s1.heap.objs.size + 1) :: us) J.kIn len) vv w
    refine wpAny_call (make_map (f := f) I1.kIn M.makes M.init (beq_iff_eq.mp M.fn) (codeAny_mono body fun r' s' z => ?_))
    match r', z with
    | .error u, z => exact hx σ pins _ _ u s' J z
    | .ok (.ret u), z =>
      obtain ⟨v, H', J', rv, ev, q'⟩ := J.after z
      subst ev
      exact ⟨rv, ⟨V.ref (s1.heap.objs.size + 1), H', J', rfl, q'⟩⟩
    | .ok .next, z => exact z.elim
    | .ok .brk, z => exact z.elim
    | .ok .cont, z => exact z.elim
end
end Nv

namespace Nv
open PySem PySem.Spec PyProof.Rows L2 HotX
/-! # ends of iterators while an error is handled -/
section
variable {prog : Program} {w : World} {A : Around} {E : Value → Shared → Prop} {s : Shared}
/-- the StopIteration that a built-in raises there -/
theorem stop_hot {α : Type} {x1 : Addr} {Q : α → Shared → Prop} (hot : HotAt A x1 s.heap)
    (k : ∀ h' e, (∀ b o, s.heap.get? b = some o → h'.get? b = some o) → (∃ o, h'.get? e = some o ∧ o.cls = .type "StopIteration") → E (.ref e) { s with heap := h' }) :
    wpAny (model prog w) A (newExc (.type "StopIteration") [] >>= fun v => (raiseNew v : Sem α)) Q E s := by
  obtain ⟨hh, o1, vs1, g1, d1, c1⟩ := hot
  refine wpAny_bind ?_
  simp only [newExc, newTuple]
  refine wpAny_bind (wpAny_newObj_type (wpAny_bind (m := firstArgMember _ _) (wpAny_of_eq (a := Value.none) (by first | rfl | (simp only [firstArgMember]; rfl)) (wpAny_newObj_type ?_ (by size_fits)))) (by size_fits))
  have up : ∀ b o, s.heap.get? b = some o → ∀ o1 o2, ((s.heap.push o1).push o2).get? b = some o := fun b o e _ _ => Heap.get?_push_of_some _ (Heap.get?_push_of_some _ e)
  refine raiseNew_hot ⟨hh, o1, vs1, up _ _ g1 _ _, d1, c1⟩ (Nat.ne_of_lt (Heap.lt_size (Heap.get?_push_of_some _ g1))) (Heap.get?_push_size _ rfl) rfl (by first | (simp; done) | (simp; omega) | (simp only [Array.size_append]; simp; omega)) ?_
  refine k _ _ (fun b o e => ?_) ⟨_, Heap.get?_update_self _ (Heap.get?_push_size _ rfl) rfl, rfl⟩
  rw [Heap.get?_update_other _ _ (Nat.ne_of_gt (Heap.lt_size (Heap.get?_push_of_some _ e)))]
  exact up _ _ e _ _
/-- a list's iterator at its end -/
theorem list_end_hot {it l x1 : Addr} {i : Nat} {items : Array Value} {Q : Option Value → Shared → Prop} (hot : HotAt A x1 s.heap) (ne : x1 ≠ it) (hit : s.heap.IsListIter it l i) (hl : s.heap.IsList l items) (hx : items[i]? = none)
    (k : ∀ h', (∀ b o, b ≠ it → s.heap.get? b = some o → h'.get? b = some o) → Q none { s with heap := h' }) : wpAny (model prog w) A (pyNext (.ref it)) Q E s := by
  obtain ⟨hh, o1, vs1, g1, d1, c1⟩ := hot
  obtain ⟨o, ho, hc, hd⟩ := id hit
  obtain ⟨ol, hol, _, nl, hdl⟩ := hl
  have other : ∀ (f : Obj → Obj) b u, b ≠ it → s.heap.get? b = some u → (s.heap.update it f).get? b = some u := fun f b u n e => by rw [Heap.get?_update_other _ _ (Ne.symm n)]; exact e
  unfold pyNext
  refine wpAny_bind (wpAny_attempt (wpAny_callSpecial?_slot (name := Str.ofString "__next__") hit.typeIs slot_listiter_next (wpAny_call_entry slot_listiter_next hit.typeIs entry_listiter_next ?_ (args_listiter_next _))))
  change wpAny _ _ (field (.ref it) 0 >>= _) _ _ s
  refine wpAny_bind (wpAny_field ho hd (x := .ref l) rfl ?_)
  change wpAny _ _ (if (Value.ref l == Value.none) = true then _ else _) _ _ s
  rw [if_neg (show ¬ ((Value.ref l == Value.none) = true) from Bool.false_ne_true)]
  change wpAny _ _ (field (.ref it) 1 >>= _) _ _ s
  refine wpAny_bind (wpAny_field ho hd (x := .int i 0) rfl ?_)
  change wpAny _ _ (seqItems? (.ref l) >>= _) _ _ s
  refine wpAny_bind (wpAny_seqItems hol hdl ?_)
  simp only [Int.toNat_natCast, hx]
  refine wpAny_bind (wpAny_rule (wpAny_bind (wpAny_setField ho hd (by simp) (stop_hot (x1 := x1) ⟨hh, o1, vs1, other _ _ _ ne g1, d1, c1⟩ fun h' e up ⟨oe, he, hce⟩ => ?_))))
  exact wpAny_bind (wpAny_isInstance (T := "StopIteration") (b := true) ⟨oe, he, hce⟩ isSubtype_stop (wpAny_pure (k h' fun b u n z => up _ _ (other _ _ _ n z))))
/-- the same, asked by another built-in -/
theorem list_nextOf_hot {it l x1 : Addr} {i : Nat} {items : Array Value} {Q : Value → Shared → Prop} (hot : HotAt A x1 s.heap) (ne : x1 ≠ it) (hit : s.heap.IsListIter it l i) (hl : s.heap.IsList l items) (hx : items[i]? = none)
    (k : ∀ h' e, (∀ b o, b ≠ it → s.heap.get? b = some o → h'.get? b = some o) → (∃ o, h'.get? e = some o ∧ o.cls = .type "StopIteration") → E (.ref e) { s with heap := h' }) : wpAny (model prog w) A (Builtin.SmallTypes.nextOf (.ref it)) Q E s := by
  obtain ⟨hh, o1, vs1, g1, d1, c1⟩ := hot
  obtain ⟨o, ho, hc, hd⟩ := id hit
  obtain ⟨ol, hol, _, nl, hdl⟩ := hl
  have other : ∀ (f : Obj → Obj) b u, b ≠ it → s.heap.get? b = some u → (s.heap.update it f).get? b = some u := fun f b u n e => by rw [Heap.get?_update_other _ _ (Ne.symm n)]; exact e
  unfold Builtin.SmallTypes.nextOf
  refine wpAny_bind (wpAny_callSpecial?_slot (name := Str.ofString "__next__") hit.typeIs slot_listiter_next (wpAny_call_entry slot_listiter_next hit.typeIs entry_listiter_next ?_ (args_listiter_next _)))
  change wpAny _ _ (field (.ref it) 0 >>= _) _ _ s
  refine wpAny_bind (wpAny_field ho hd (x := .ref l) rfl ?_)
  change wpAny _ _ (if (Value.ref l == Value.none) = true then _ else _) _ _ s
  rw [if_neg (show ¬ ((Value.ref l == Value.none) = true) from Bool.false_ne_true)]
  change wpAny _ _ (field (.ref it) 1 >>= _) _ _ s
  refine wpAny_bind (wpAny_field ho hd (x := .int i 0) rfl ?_)
  change wpAny _ _ (seqItems? (.ref l) >>= _) _ _ s
  refine wpAny_bind (wpAny_seqItems hol hdl ?_)
  simp only [Int.toNat_natCast, hx]
  exact wpAny_bind (wpAny_rule (wpAny_bind (wpAny_setField ho hd (by simp) (stop_hot (x1 := x1) ⟨hh, o1, vs1, other _ _ _ ne g1, d1, c1⟩ fun h' e up hs => k h' e (fun b u n z => up _ _ (other _ _ _ n z)) hs))))
/-- a tuple's iterator at its end -/
theorem tuple_end_hot {it t x1 : Addr} {i : Nat} {items : Array Value} {Q : Option Value → Shared → Prop} (hot : HotAt A x1 s.heap) (ne : x1 ≠ it) (hit : s.heap.IsTupleIter it t i) (ht : s.heap.IsTuple t items) (hx : items[i]? = none)
    (k : ∀ h', (∀ b o, b ≠ it → s.heap.get? b = some o → h'.get? b = some o) → Q none { s with heap := h' }) : wpAny (model prog w) A (pyNext (.ref it)) Q E s := by
  obtain ⟨hh, o1, vs1, g1, d1, c1⟩ := hot
  obtain ⟨o, ho, hc, hd⟩ := id hit
  obtain ⟨ol, hol, _, nl, hdl⟩ := ht
  have other : ∀ (f : Obj → Obj) b u, b ≠ it → s.heap.get? b = some u → (s.heap.update it f).get? b = some u := fun f b u n e => by rw [Heap.get?_update_other _ _ (Ne.symm n)]; exact e
  unfold pyNext
  refine wpAny_bind (wpAny_attempt (wpAny_callSpecial?_slot (name := Str.ofString "__next__") hit.typeIs PySem.F.slot_tuple_iterator_next (wpAny_call_entry PySem.F.slot_tuple_iterator_next hit.typeIs PySem.F.entry_tuple_iterator_next ?_ (PySem.F.args_tuple_iterator_next_1 _))))
  change wpAny _ _ (field (.ref it) 0 >>= _) _ _ s
  refine wpAny_bind (wpAny_field ho hd (x := .ref t) rfl ?_)
  change wpAny _ _ (if (Value.ref t == Value.none) = true then _ else _) _ _ s
  rw [if_neg (show ¬ ((Value.ref t == Value.none) = true) from Bool.false_ne_true)]
  change wpAny _ _ (field (.ref it) 1 >>= _) _ _ s
  refine wpAny_bind (wpAny_field ho hd (x := .int i 0) rfl ?_)
  change wpAny _ _ (seqItems? (.ref t) >>= _) _ _ s
  refine wpAny_bind (wpAny_seqItems hol hdl ?_)
  simp only [Int.toNat_natCast, hx]
  refine wpAny_bind (wpAny_rule (wpAny_bind (wpAny_setField ho hd (by simp) (stop_hot (x1 := x1) ⟨hh, o1, vs1, other _ _ _ ne g1, d1, c1⟩ fun h' e up ⟨oe, he, hce⟩ => ?_))))
  exact wpAny_bind (wpAny_isInstance (T := "StopIteration") (b := true) ⟨oe, he, hce⟩ isSubtype_stop (wpAny_pure (k h' fun b u n z => up _ _ (other _ _ _ n z))))
/-- a tuple taken apart -/
theorem items_hot {t x1 : Addr} {items : Array Value} {Q : List Value → Shared → Prop} (hot : HotAt A x1 s.heap) (ht : IsTup s.heap t items)
    (k : ∀ h', (∀ b o, b ≠ s.heap.objs.size → s.heap.get? b = some o → h'.get? b = some o) → Q items.toList { s with heap := h' }) : wpAny (model prog w) A (unpackItems (.ref t) items.size none) Q E s := by
  obtain ⟨hh, o1, vs1, g1, d1, c1⟩ := hot
  have lt : t ≠ s.heap.objs.size := by
    obtain ⟨o, ho, _⟩ := ht
    exact Nat.ne_of_lt (Heap.lt_size ho)
  have lx : x1 ≠ s.heap.objs.size := Nat.ne_of_lt (Heap.lt_size g1)
  unfold unpackItems notIterableAtAll
  refine wpAny_bind (wpAny_bind (wpAny_specialOf ht.typeIs slot_tuple_iter.lookup (wpAny_pure ?_)))
  simp only [Bool.false_eq_true, if_false]
  refine wpAny_bind (wpAny_holding (iter_tuple ht (wpAny_bind (wpAny_holding (draw_tuple lt items.size 0 _ _ ⟨_, Heap.get?_push_size _ rfl, rfl, rfl⟩ (ht.push _) (by omega) fun h1 hi1 hs1 => ?_)))))
  rw [show List.take items.size (List.drop 0 items.toList) = items.toList by rw [List.drop_zero]; exact List.take_of_length_le (by simp), if_neg (by simp)]
  have up : ∀ b o, b ≠ s.heap.objs.size → s.heap.get? b = some o → h1.get? b = some o := fun b o n e => hs1.extBut b o n (Heap.get?_push_of_some _ e)
  refine wpAny_bind (wpAny_holding (tuple_end_hot (x1 := x1) ⟨hh, o1, vs1, up _ _ lx g1, d1, c1⟩ lx hi1 ((ht.push _).extBut hs1.extBut lt) (by simp) fun h2 he2 => ?_))
  simp only [Option.isSome_none, Bool.false_eq_true, if_false]
  exact wpAny_pure (k h2 fun b o n e => he2 b o n (up b o n e))
end
section
variable {X : Cx} {pos : Pos}
/-- (a, b, ..) = a tuple, while an error is handled -/
theorem pg_tupH {es : List Expr} {k : Nat} {t : TGs} {n : Nat} (hc : L2H.HotC X) (h : PGs X es t) (hn : (assignEach es X.env).length = n := by rfl) (hst : (assignEach es X.env).findIdx? (·.1) = none := by rfl) : L2.PG X (.Tuple es k pos) (gTup X.K n t) where
  run pins s σ H v u Q I r hw := by
    obtain ⟨a, xs, rfl, hq, hl, hw⟩ := hw
    cases r
    obtain ⟨its, rv, ht, hz⟩ := I.tuple hq
    obtain ⟨x1, hot⟩ := hc.at I
    rw [PyProof.Rows.assign_Tuple]
    refine wpAny_bind (wpAny_standAt ?_)
    unfold unpack
    have hsz : (assignEach es X.env).length = its.toArray.size := by simp [hn, ← hl, rv.length]
    rw [hsz, hst]
    refine wpAny_bind (wpAny_holding (items_hot hot ht fun h' hx => ?_))
    exact h.run pins _ σ H xs _ Q (I.kept (t' := s.toks) fun b o e => hx b o (Nat.ne_of_lt (Heap.lt_size e)) e) (by simpa using rv) hw
end
section
open L2H
/-- the handled error stands, and no iterator is it -/
theorem hot_at {X : Cx} {pins : List (Addr × Obj)} {σ : L2.St} {H : Hp} {s : Shared} (hc : HotC X) (I : Inv X pins σ H s) : ∃ x1, HotAt X.A x1 s.heap ∧ ∀ b, FpOk X pins H b → x1 ≠ b := by
  obtain ⟨p, ⟨hh, vs, e, c⟩, hp⟩ := hc
  exact ⟨p.1, ⟨hh, p.2, vs, (I.pin p (List.mem_append_left _ hp)).1, e, c⟩, fun b f => f.2.2.2.2.2 p (List.mem_append_left _ hp)⟩
theorem turn_listH {P : Program} {w : World} {K : Frag} {tg : Expr} (a it : Addr) : TurnH P w K tg (Itl K a) [it] it (fun i h => h.IsListIter it a i) where
  mem := (turn_list (P := P) (w := w) (K := K) (tg := tg) a it).mem
  obj := (turn_list (P := P) (w := w) (K := K) (tg := tg) a it).obj
  keep := (turn_list (P := P) (w := w) (K := K) (tg := tg) a it).keep
  self := (turn_list (P := P) (w := w) (K := K) (tg := tg) a it).self
  item := by
    rintro X rfl rfl rfl hc i pins s σ H E I hf st ⟨xs, x, hq, hx⟩
    obtain ⟨its, rv, p, _⟩ := I.list hq
    obtain ⟨u, hu, ru⟩ := rv.get hx
    have f := hf it (List.mem_singleton.mpr rfl)
    refine wpAny_pyNext_list_item st p.isList (x := u) (by simpa using hu) fun h' st' sb => ⟨u, rfl, ?_⟩
    obtain ⟨o, e, c, d⟩ := id st'
    refine go_of (s := { s with heap := h' }) e c d (by decide) ⟨x, H, I.turned (t' := s.toks) (fun b o n e => (sb.2 b n).trans e) f.1 f.2.1 f.2.2.2.1 f.2.2.2.2.1 f.2.2.2.2.2, ru, ⟨rfl, fun ys hy => ?_⟩, st', fun b hb => (hf b hb).1⟩
    rw [I.list_inj hy hq]
    exact hx
  done := by
    rintro X rfl rfl rfl hc i pins s σ H E I hf st ⟨xs, hq, hx⟩
    obtain ⟨its, rv, p, _⟩ := I.list hq
    have hl := rv.length
    have f := hf it (List.mem_singleton.mpr rfl)
    obtain ⟨x1, hot, ne⟩ := hot_at hc I
    exact list_end_hot hot (ne it f) st p.isList (by simp; omega) fun h' k => ⟨rfl, I.turned (t' := s.toks) k f.1 f.2.1 f.2.2.2.1 f.2.2.2.2.1 f.2.2.2.2.2⟩
theorem pi_listH {X : Cx} {tg l : Expr} {tl : TE} (hl : PE X l tl) : PIH X tg l (iList X.K tl) where
  run pins s σ H R I h := by
    refine wpAny_mono (hl.run pins s σ H _ I h) (fun v s1 ⟨x, H1, I1, r1, a, e, ⟨xs, hq⟩, q⟩ => ?_) fun _ _ z => z
    subst e
    cases r1
    obtain ⟨its, rv, p, _⟩ := I1.list hq
    have J : Inv X pins σ H1 { s1 with heap := s1.heap.push { cls := .type "list_iterator", data := .fields #[.ref a, .int 0 0] } } := I1.kept (t' := s1.toks) fun b o e => Heap.get?_push_of_some _ e
    refine wpAny_pyIter_list p.isList ⟨_, [s1.heap.objs.size], _, _, H1, rfl, J, turn_listH a _, ⟨_, Heap.get?_push_size _ rfl, rfl, rfl⟩, fun b hb => ?_, q⟩
    rw [List.mem_singleton.mp hb]
    exact I1.fpOk (Nat.le_refl _) (I1.hok.fresh (Nat.le_refl _))
end
section
variable {prog : Program} {w : World} {A : Around} {E : Value → Shared → Prop} {s : Shared}
theorem walks_tuple_hot {x1 : Addr} {o1 : Obj} {vs1 : Array Value} (hh : A.handled = some (.ref x1)) (d1 : o1.data = .fields vs1) (c1 : vs1[2]? = some .none) (I ax : Addr) (n1 : ax ≠ I) (n2 : x1 ≠ I) (items : Array Value) :
    Walks prog w A I [I, ax, x1] [I] items.size (fun i v => items[i]? = some v) (fun i h => h.IsTupleIter I ax i ∧ h.IsTuple ax items ∧ h.get? x1 = some o1) where
  sub := by simp
  frame := fun _ _ _ st k => ⟨st.1.at fun o e => k I (by simp) o e, st.2.1.at fun o e => k ax (by simp) o e, k x1 (by simp) _ st.2.2⟩
  item := fun i s Q E hi st q => wpAny_pyNext_tuple_item st.1 st.2.1 (x := items[i]) (by simp [hi]) fun h' a1 a2 => q _ h' s.toks (by simp [hi]) ⟨a1, st.2.1.extBut a2.extBut n1, a2.extBut _ _ n2 st.2.2⟩ fun b o hb e => a2.extBut b o (fun z => hb (by simp [z])) e
  done := fun s Q E st q => tuple_end_hot ⟨hh, o1, vs1, st.2.2, d1, c1⟩ n2 st.1 st.2.1 (by simp) fun h' k => q h' s.toks fun b o hb e => k b o (fun z => hb (by simp [z])) e
  self := fun _ _ _ _ st q => wpAny_pyIter_tupleiter st.1 q
/-- the greater of two numbers -/
theorem max2_hot {x1 : Addr} {a b : Int} {t u : Tok} {Q : Value → Shared → Prop} (hot : HotAt A x1 s.heap)
    (k : ∀ h' tk, (∀ c o, s.heap.get? c = some o → h'.get? c = some o) → Q (if b > a then .int b u else .int a t) { s with heap := h', toks := tk }) :
    wpAny (model prog w) A (call (.builtin "max") [.int a t, .int b u]) Q E s := by
  obtain ⟨hh, o1, vs1, g1, d1, c1⟩ := hot
  have lx := Heap.lt_size g1
  have hT : (s.heap.push { cls := .type "tuple", data := .seq #[.int a t, .int b u] }).IsTuple s.heap.objs.size (intItems #[(a, t), (b, u)]) := ⟨_, Heap.get?_push_size _ rfl, rfl, 0, by simp [intItems]⟩
  have sz : (s.heap.push { cls := .type "tuple", data := .seq #[.int a t, .int b u] }).objs.size = s.heap.objs.size + 1 := Heap.size_push ..
  have sz2 : ((s.heap.push { cls := .type "tuple", data := .seq #[.int a t, .int b u] }).push { cls := .type "tuple_iterator", data := .fields #[.ref s.heap.objs.size, .int 0 0] }).objs.size = s.heap.objs.size + 2 := by rw [Heap.size_push, sz]
  refine call_max_two (wpAny_pyIter_tuple hT ?_)
  refine ⟨_, [_, s.heap.objs.size, x1], [_], _, _, _, _, rfl, walks_tuple_hot (A := A.in1) hh d1 c1 _ s.heap.objs.size (by rw [sz]; exact Nat.ne_of_lt (Nat.lt_succ_self _)) (by rw [sz]; exact Nat.ne_of_lt (Nat.lt_succ_of_lt lx)) (intItems #[(a, t), (b, u)]),
    ⟨⟨_, Heap.get?_push_size _ rfl, rfl, rfl⟩, hT.push _, Heap.get?_push_of_some _ (Heap.get?_push_of_some _ g1)⟩, fun c hc => ?_, by simp [intItems], CmpOf.ints_gt (numAt #[(a, t), (b, u)]) (fun _ _ => intItems_at), fun v h' tk hP hk => ?_⟩
  · show c < ((s.heap.push _).push _).objs.size
    rw [sz2]
    simp only [List.mem_cons, List.not_mem_nil, or_false] at hc
    rcases hc with e | e | e
    · rw [e, sz]; exact Nat.lt_succ_self _
    · rw [e]; exact Nat.lt_succ_of_lt (Nat.lt_succ_self _)
    · rw [e]; exact Nat.lt_succ_of_lt (Nat.lt_succ_of_lt lx)
  · have old : ∀ c o, s.heap.get? c = some o → h'.get? c = some o := fun c o e => hk c o (fun hm => by
      have := Heap.lt_size e
      rw [List.mem_singleton.mp hm, sz] at this
      exact Nat.lt_irrefl _ (Nat.lt_of_succ_lt this)) (Heap.get?_push_of_some _ (Heap.get?_push_of_some _ e))
    have hv : v = if b > a then Value.int b u else Value.int a t := by
      have n2 : (intItems #[(a, t), (b, u)]).size - 1 = 1 := by simp [intItems]
      rw [n2] at hP
      by_cases g : b > a
      · rw [show argBest (fun i j => decide (numAt #[(a, t), (b, u)] i > numAt #[(a, t), (b, u)] j)) 1 = 1 by simp [argBest, numAt, g]] at hP
        simpa [intItems, g] using hP.symm
      · rw [show argBest (fun i j => decide (numAt #[(a, t), (b, u)] i > numAt #[(a, t), (b, u)] j)) 1 = 0 by simp [argBest, numAt, g]] at hP
        simpa [intItems, g] using hP.symm
    rw [hv]
    exact k h' tk old
end
theorem call_max2H {X : Cx} (hc : L2H.HotC X) : CallR X (.builtin "max") (fun xs H Q => ∃ i j, xs = [.int i, .int j] ∧ Q (.int (if j > i then j else i)) H) := by
  intro pins s σ H xs us Q I r h
  obtain ⟨i, j, rfl, q⟩ := h
  obtain ⟨_, _, rfl, ⟨t, rfl⟩, ⟨t', rfl⟩⟩ := vals2 r
  obtain ⟨x1, hot⟩ := hc.at I
  refine max2_hot hot fun h' tk k => ⟨_, H, I.kept k, ?_, q⟩
  split
  · exact ⟨_, rfl⟩
  · exact ⟨_, rfl⟩
section
variable {prog : Program} {w : World} {A : Around} {E : Value → Shared → Prop} {s : Shared}
/-- two lists walked together, at the end of one -/
theorem zip_end_hot {x1 z TI TO i1 i2 l1 l2 : Addr} {k1 k2 : Nat} {xs ys : Array Value} {a b : Value} {Q : Option Value → Shared → Prop} (hot : HotAt A x1 s.heap) (nz : x1 ≠ z) (nT : x1 ≠ TO) (n1 : x1 ≠ i1) (n2 : x1 ≠ i2) (D : ZipApart z TI TO i1 i2 l1 l2)
    (hz : IsZip s.heap z TI TO .none) (hTI : IsPair s.heap TI (.ref i1) (.ref i2)) (hTO : IsPair s.heap TO a b) (h1 : s.heap.IsListIter i1 l1 k1) (h2 : s.heap.IsListIter i2 l2 k2) (hl1 : s.heap.IsList l1 xs) (hl2 : s.heap.IsList l2 ys) (hend : xs[k1]? = none ∨ ys[k2]? = none)
    (k : ∀ h', (∀ c o, c ≠ z → c ≠ TO → c ≠ i1 → c ≠ i2 → s.heap.get? c = some o → h'.get? c = some o) → Q none { s with heap := h' }) : wpAny (model prog w) A (pyNext (.ref z)) Q E s := by
  obtain ⟨hh, o1, vs1, g1, d1, c1⟩ := hot
  have ty : s.TypeIs (.ref z) "zip" := ⟨_, hz, rfl⟩
  unfold pyNext
  refine wpAny_bind (wpAny_attempt (wpAny_callSpecial?_slot (name := Str.ofString "__next__") ty PySem.F.slot_zip_next (wpAny_call_entry PySem.F.slot_zip_next ty PySem.F.entry_zip_next ?_ (PySem.F.args_zip_next_1 _))))
  have fin : ∀ (h' : Heap) (e : Addr), (∀ c o, c ≠ z → c ≠ TO → c ≠ i1 → c ≠ i2 → s.heap.get? c = some o → h'.get? c = some o) → (∃ o, h'.get? e = some o ∧ o.cls = .type "StopIteration") →
      wpAny (model prog w) A (do let y ← isInstance (.ref e) (.type "StopIteration"); if y = true then pure none else throw (.ref e)) Q E { s with heap := h' } := fun h' e up ⟨o, ho, hc⟩ => wpAny_bind (wpAny_isInstance (T := "StopIteration") (b := true) ⟨o, ho, hc⟩ isSubtype_stop (wpAny_pure (k h' up)))
  change wpAny _ _ (field (.ref z) 2 >>= _) _ _ _
  refine wpAny_bind (wpAny_field hz rfl (x := .bool false) rfl ?_)
  change wpAny _ _ (field (.ref z) 3 >>= _) _ _ _
  refine wpAny_bind (wpAny_field hz rfl (x := .ref TI) rfl (wpAny_bind (wpAny_seqItems hTI rfl ?_)))
  change wpAny _ _ (Builtin.SmallTypes.ownedTupleIsFree (.ref z) >>= _) _ _ _
  refine wpAny_bind ?_
  unfold Builtin.SmallTypes.ownedTupleIsFree
  refine wpAny_bind (wpAny_field hz rfl (x := .none) rfl (wpAny_pure ?_))
  simp only [if_true]
  refine wpAny_bind (wpAny_rule ?_)
  refine wpAny_bind (wpAny_field hz rfl (x := .ref TO) rfl ?_)
  refine wpAny_bind (wpAny_setField_rec hz (by simp) fun h3 hz3 e3 => ?_)
  replace hz3 : IsZip h3 z TI TO .ellipsis := hz3
  refine wpAny_bind ?_
  simp only [List.zipIdx_cons, List.zipIdx_nil, List.forIn_cons, List.forIn_nil]
  refine wpAny_bind (wpAny_bind (wpAny_onRaise ?_))
  change wpAny _ _ (Builtin.SmallTypes.nextOf (.ref i1) >>= _) _ _ _
  have done : ∀ (h4 : Heap) (e : Addr) (hz4 : IsZip h4 z TI TO .ellipsis) (he : ∃ o, h4.get? e = some o ∧ o.cls = .type "StopIteration"), e ≠ z := fun h4 e hz4 ⟨o, ho, hc⟩ q => by
    subst q
    rw [hz4] at ho
    cases ho
    simp at hc
  cases hx : xs[k1]? with
  | none =>
    refine wpAny_bind (list_nextOf_hot (x1 := x1) ⟨hh, o1, vs1, e3.extBut _ _ nz g1, d1, c1⟩ n1 (h1.extBut e3.extBut D.i1z) (hl1.extBut e3.extBut D.l1z) hx fun h4 e up he => ?_)
    have hz4 : IsZip h4 z TI TO .ellipsis := up _ _ D.i1z.symm hz3
    have ez := done h4 e hz4 he
    obtain ⟨oe, ho, hc⟩ := he
    exact wpAny_setField_rec hz4 (by simp) fun h5 _ e5 => fin h5 e (fun c o m1 _ m3 _ q => e5.extBut _ _ m1 (up _ _ m3 (e3.extBut _ _ m1 q))) ⟨oe, e5.extBut _ _ ez ho, hc⟩
  | some x =>
    have hy : ys[k2]? = none := hend.resolve_left fun q => by rw [hx] at q; cases q
    refine wpAny_bind (wpAny_nextOf_list_item (h1.extBut e3.extBut D.i1z) (hl1.extBut e3.extBut D.l1z) hx fun h4 _ e4 => wpAny_pure ?_)
    have hTO4 : IsPair h4 TO a b := e4.extBut _ _ D.TOi1 (e3.extBut _ _ D.TOz hTO)
    refine wpAny_bind (wpAny_seqItems hTO4 rfl (wpAny_bind (wpAny_updateSeq_pair hTO4 fun h5 _ e5 => ?_)))
    refine wpAny_bind (wpAny_letGo (wpAny_pure (wpAny_bind (wpAny_bind (wpAny_onRaise ?_)))))
    change wpAny _ _ (Builtin.SmallTypes.nextOf (.ref i2) >>= _) _ _ _
    have g5 : h5.get? x1 = some o1 := e5.extBut _ _ nT (e4.extBut _ _ n1 (e3.extBut _ _ nz g1))
    refine wpAny_bind (list_nextOf_hot (x1 := x1) ⟨hh, o1, vs1, g5, d1, c1⟩ n2 (((h2.extBut e3.extBut D.i2z).extBut e4.extBut D.i12.symm).extBut e5.extBut D.TOi2.symm) (((hl2.extBut e3.extBut D.l2z).extBut e4.extBut D.l2i1).extBut e5.extBut D.l2TO) hy fun h6 e up he => ?_)
    have hz6 : IsZip h6 z TI TO .ellipsis := up _ _ D.i2z.symm (e5.extBut _ _ D.TOz.symm (e4.extBut _ _ D.i1z.symm hz3))
    have ez := done h6 e hz6 he
    obtain ⟨oe, ho, hc⟩ := he
    exact wpAny_setField_rec hz6 (by simp) fun h7 _ e7 => fin h7 e (fun c o m1 m2 m3 m4 q => e7.extBut _ _ m1 (up _ _ m4 (e5.extBut _ _ m2 (e4.extBut _ _ m3 (e3.extBut _ _ m1 q))))) ⟨oe, e7.extBut _ _ ez ho, hc⟩
end
section
open L2H
theorem turn_zipH {P : Program} {w : World} {K : Frag} {elts : List Expr} {kk : Nat} {tpos : Pos} {a b z TI TO i1 i2 : Addr} (D : ZipApart z TI TO i1 i2 a b) :
    TurnH P w K (.Tuple elts kk tpos) (Itz K a b) [z, TI, TO, i1, i2] z (fun i h => IsZip h z TI TO .none ∧ IsPair h TI (.ref i1) (.ref i2) ∧ (∃ x y, IsPair h TO x y) ∧ h.IsListIter i1 a i ∧ h.IsListIter i2 b i) where
  mem := (turn_zip (P := P) (w := w) (K := K) (elts := elts) (kk := kk) (tpos := tpos) D).mem
  obj := (turn_zip (P := P) (w := w) (K := K) (elts := elts) (kk := kk) (tpos := tpos) D).obj
  keep := (turn_zip (P := P) (w := w) (K := K) (elts := elts) (kk := kk) (tpos := tpos) D).keep
  self := (turn_zip (P := P) (w := w) (K := K) (elts := elts) (kk := kk) (tpos := tpos) D).self
  item := by
    rintro X rfl rfl rfl hc i pins s σ H E I hf ⟨hz, hTI, ⟨x0, y0, hTO⟩, h1, h2⟩ ⟨xs, ys, x, y, qx, qy, hx, hy⟩
    obtain ⟨its, rv, p, _⟩ := I.list qx
    obtain ⟨its2, rv2, p2, _⟩ := I.list qy
    obtain ⟨u, hu, ru⟩ := rv.get hx
    obtain ⟨u2, hu2, ru2⟩ := rv2.get hy
    have lz : z < s.heap.objs.size := Heap.lt_size hz
    have lts : ∀ c ∈ [z, TI, TO, i1, i2], c < s.heap.objs.size := fun c hm => by
      simp only [List.mem_cons, List.not_mem_nil, or_false] at hm
      rcases hm with q | q | q | q | q
      · rw [q]; exact lz
      · rw [q]; exact Heap.lt_size hTI
      · rw [q]; exact Heap.lt_size hTO
      · rw [q]; obtain ⟨_, e, _⟩ := h1; exact Heap.lt_size e
      · rw [q]; obtain ⟨_, e, _⟩ := h2; exact Heap.lt_size e
    refine wpAny_pyNext_zip_item D hz hTI hTO h1 h2 p.isList p2.isList (x := u) (y := u2) (by simpa using hu) (by simpa using hu2) fun h' z' TO' h1' h2' hT _ up => ⟨_, rfl, wpAny_letOwnedTupleGo_zip (s := { s with heap := h' }) z' fun h3 z3 sb => ?_⟩
    have hT3 : h3.get? s.heap.objs.size = some { cls := .type "tuple", data := .seq #[u, u2] } := (sb.2 _ (Nat.ne_of_gt lz)).trans hT
    have all : ∀ c o, c ∉ [z, TI, TO, i1, i2] → s.heap.get? c = some o → h3.get? c = some o := fun c o n q => by
      simp only [List.mem_cons, List.not_mem_nil, or_false, not_or] at n
      exact (sb.2 c n.1).trans (up c o n.1 n.2.2.1 n.2.2.2.1 n.2.2.2.2 q)
    have new : ObjOk X.prog X.w (upd H s.heap.objs.size (.tup [x, y])) h3 s.heap.objs.size (.tup [x, y]) := ⟨by show 2 ≤ sizeLine; decide, [u, u2], .cons ru (.cons ru2 .nil), ⟨_, hT3, rfl, _, rfl⟩⟩
    have J : Inv X pins σ (upd H s.heap.objs.size (.tup [x, y])) { s with heap := h3 } := I.turnedNew (t' := s.toks) all hf (Nat.le_refl _) new
    refine ⟨.ref s.heap.objs.size, _, J, rfl, ⟨_, x, y, rfl, I.hok.fresh (Nat.le_refl _), rfl, fun l hl => by rw [I.list_inj hl qx]; exact hx, fun l hl => by rw [I.list_inj hl qy]; exact hy⟩,
      ⟨z3, (sb.2 _ D.TIz).trans (up _ _ D.TIz D.TITO D.TIi1 D.TIi2 hTI), ⟨u, u2, (sb.2 _ D.TOz).trans TO'⟩, h1'.at fun o q => (sb.2 _ D.i1z).trans q, h2'.at fun o q => (sb.2 _ D.i2z).trans q⟩, fun c hm => ?_⟩
    rw [upd_ne (Nat.ne_of_lt (lts c hm))]
    exact (hf c hm).1
  done := by
    rintro X rfl rfl rfl hc i pins s σ H E I hf ⟨hz, hTI, ⟨x0, y0, hTO⟩, h1, h2⟩ ⟨xs, ys, qx, qy, hend⟩
    obtain ⟨its, rv, p, _⟩ := I.list qx
    obtain ⟨its2, rv2, p2, _⟩ := I.list qy
    have l1 := rv.length
    have l2 := rv2.length
    obtain ⟨x1, hot, ne⟩ := hot_at hc I
    have he : its.toArray[i]? = none ∨ its2.toArray[i]? = none := hend.imp (fun q => by simp; omega) (fun q => by simp; omega)
    refine zip_end_hot hot (ne z (hf z (by simp))) (ne TO (hf TO (by simp))) (ne i1 (hf i1 (by simp))) (ne i2 (hf i2 (by simp))) D hz hTI hTO h1 h2 p.isList p2.isList he fun h' up => ⟨rfl, I.turnedL (t' := s.toks) (ch := [z, TI, TO, i1, i2]) (fun c o n q => ?_) hf⟩
    simp only [List.mem_cons, List.not_mem_nil, or_false, not_or] at n
    exact up c o n.1 n.2.2.1 n.2.2.2.1 n.2.2.2.2 q
/-- two lists (or, what is never so here, two tuples) -/
def iZipH (K : Frag) (ta : TA) : TI := fun σ H R => ta σ H fun vs H1 => ∃ a b xs ys, vs = [.ref a, .ref b] ∧ ((SqL K H1 a xs ∧ SqL K H1 b ys ∧ R (Itz K a b) H1) ∨ False)
theorem pi_zipH {X : Cx} {e e2 : Expr} {ta : TA} {p pos tpos : Pos} {elts : List Expr} {kk : Nat} (hg : Gl X "zip") (hm : X.mg "zip" = none) (ha : PA X [e, e2] ta)
    (hs : starEach [e, e2] X.env = (false, eval e X.env) :: starEach [e2] X.env := by rfl) (hpl : (backTo pos (starEach [e2] X.env)).any (·.1) = false := by rfl) : PIH X (.Tuple elts kk tpos) (.Call (.Name "zip" p) [e, e2] [] pos) (iZipH X.K ta) where
  run pins s σ H R I h := by
    refine Call_ (ld_blt I hg hm PyProof.Rows.boot_zip (PyProof.Rows.callWith_type1 (wpAny_mono (ha.run pos pins s σ H _ I h) (fun us s1 ⟨vs, H1, I1, r1, a, b, xs, ys, ex, q0⟩ => ?_) fun _ _ z => z) hs hpl))
    obtain ⟨qx, qy, q⟩ := q0.resolve_right id
    subst ex
    obtain ⟨v1, v2, rfl, e1, e2⟩ := vals2 r1
    cases e1
    cases e2
    obtain ⟨its, rv, p1, _⟩ := I1.list qx
    obtain ⟨its2, rv2, p2, _⟩ := I1.list qy
    refine call_zip_2 p1.isList p2.isList fun h' hz hTI hTO h1 h2 _ up => wpAny_pyIter_zip hz ⟨_, _, _, _, H1, rfl, I1.kept (t' := s1.toks) up, turn_zipH (PySem.W.ktu_apart s1.heap.objs.size a b p1.lt p2.lt), ⟨hz, hTI, ⟨_, _, hTO⟩, h1, h2⟩, fun c hc => ?_, q⟩
    have le : s1.heap.objs.size ≤ c := by
      simp only [List.mem_cons, List.not_mem_nil, or_false] at hc
      rcases hc with z | z | z | z | z <;> rw [z] <;> first | exact Nat.le_add_right _ _ | exact Nat.le_refl _
    exact I1.fpOk le (I1.hok.fresh le)
end
/-! ### a pin more, for a block of a comprehension -/
abbrev pinX (X : Cx) (q : Addr × Obj) : Cx := { X with pn := q :: X.pn }
section
variable {X : Cx} {pins : List (Addr × Obj)} {σ : L2.St} {H : Hp} {s : Shared} {q : Addr × Obj}
theorem ok_pin (o : X.Ok) : (pinX X q).Ok := ⟨o.mod, o.kind, o.glob, o.blt, o.above, o.inj, o.has, o.cab, o.hd, o.frames, o.stk, o.exf, o.bs, o.bsz, o.noex, o.exfs, o.funs, o.frf⟩
theorem ok_unpin (o : (pinX X q).Ok) : X.Ok := ⟨o.mod, o.kind, o.glob, o.blt, o.above, o.inj, o.has, o.cab, o.hd, o.frames, o.stk, o.exf, o.bs, o.bsz, o.noex, o.exfs, o.funs, o.frf⟩
theorem pin_on (I : Inv X pins σ H s) (h : s.heap.get? q.1 = some q.2 ∧ H q.1 = none ∧ q.1 ≠ X.env.locals ∧ q.1 ∉ X.fs ∧ ∀ v, q.2.data ≠ .cell v) : Inv (pinX X q) pins σ H s :=
  ⟨ok_pin I.ok, I.os, I.bare, I.base, I.loc, I.cell, I.free, I.freeC, fun p hp => by
    rcases List.mem_cons.mp (show p ∈ q :: (X.pn ++ pins) from hp) with e | e
    · rw [e]; exact h
    · exact I.pin p e, I.hok, I.len⟩
theorem pin_off (I : Inv (pinX X q) pins σ H s) : Inv X pins σ H s := ⟨ok_unpin I.ok, I.os, I.bare, I.base, I.loc, I.cell, I.free, I.freeC, fun p hp => I.pin p (List.mem_cons_of_mem _ hp), I.hok, I.len⟩
theorem hot_pin (h : L2H.Hot1 X.A q) : L2H.HotC (pinX X q) := ⟨q, h, List.mem_cons_self ..⟩
end
/-! ### [elt for target in iter] while an error is handled -/
section
open L2H
variable {X : Cx}
theorem lc_hot {pins : List (Addr × Obj)} {s : Shared} {σ : L2.St} {H : Hp} {Q : VK} {elt tg iter : Expr} {scope : Scope} {own : List (Str × Nat)} {pos pos' : Pos} {wi : TI} {g : TG} {te : TE} {use : Option (Value → Sem Unit)} {Qf : Value → Shared → Prop}
    (hc : HotC X) (hN : X.N.Nodup) (I : Inv X pins σ H s) (hi : PIH X tg iter wi) (ok : BlkOk X.N X.env.scope scope own)
    (hg : ∀ (s : Shared) (H : Hp) (C : Addr) (cl : List (Str × Addr)) (fp : List Addr) (q : Addr × Obj), Hot1 X.A q → L2.PG (pinX (X.blk s H scope (compEnvC scope cl C X.env) fp) q) tg g)
    (he : ∀ (s : Shared) (H : Hp) (C : Addr) (cl : List (Str × Addr)) (fp : List Addr) (q : Addr × Obj), Hot1 X.A q → PE (pinX (X.blk s H scope (compEnvC scope cl C X.env) fp) q) elt te)
    (hs : ∀ x, foldedSetIterable iter X.env x = pure x) (h : tLc wi g tYes te (own.map (·.2)) σ H Q)
    (fin : ∀ D C s' m H', Inv X pins σ H' s' → Q (.ref D) H' → s'.heap.Ns C m → FpOk X pins H' C → compPost (model X.prog X.w) X.A X.xe use Qf (.ref D) C (.ok .next) s') :
    wpAny (model X.prog X.w) X.A (comprehension (.ListComp elt [⟨tg, iter, [], 0⟩] scope pos) scope X.env pos' (newList []) false (eval iter X.env) use) Qf X.xe s := by
  obtain ⟨q, hot, hq⟩ := hc
  have hqm := List.mem_append_left pins hq
  refine wpAny_comprehension_free (use := use) rfl hs (closure_ok fun y hy e => (ok.free y hy e).elim (fun k => I.ok.has _ (.inl k)) fun k => I.ok.has _ (.inr k)) ok.kind (fun y hy e => by rw [ok.uniq y hy, e])
    (wpAny_mono (hi.run pins s σ H _ I h) (fun xv s1 hx => wpAny_mono hx (fun itv s2 h2 => ?_) fun _ _ z => z) fun _ _ z => z)
  obtain ⟨it, fp, tn, J, H2, rfl, I2, T, st2, f2, qq⟩ := h2
  refine wpAny_newObj_type (newEnv_comp ?_) (by show 0 ≤ sizeLine; decide)
  obtain ⟨D, hD⟩ : ∃ D, s2.heap.objs.size = D := ⟨_, rfl⟩
  rw [hD]
  obtain ⟨W, ⟨m0, w0⟩, turn⟩ := qq D (I2.hok.fresh (Nat.le_of_eq hD))
  obtain ⟨s3, hs3⟩ : ∃ s3 : Shared, ({ s2 with heap := s2.heap.push { cls := .type "list", data := .seq ([] : List Value).toArray } } : Shared) = s3 := ⟨_, rfl⟩
  rw [hs3]
  have I3 : Inv X pins σ (upd H2 D (.lst [])) s3 := by
    rw [← hs3]
    refine I2.laid (t' := s2.toks) (fun b o e => Heap.get?_push_of_some _ e) (Nat.le_of_eq hD) ⟨Nat.zero_le _, [], 0, .nil, ?_⟩
    rw [← hD]
    exact Heap.get?_push_size _ rfl
  have h3 : s3.heap = s2.heap.push { cls := .type "list", data := .seq ([] : List Value).toArray } := by rw [← hs3]
  have sz : ∀ b ∈ fp, b < s2.heap.objs.size := fun b hb => let ⟨o, e, _⟩ := T.obj _ _ st2 b hb; Heap.lt_size e
  have f3 : ∀ b ∈ fp, FpOk X pins (upd H2 D (.lst [])) b ∧ b < s3.heap.objs.size := fun b hb =>
    ⟨⟨by rw [upd_ne (by rw [← hD]; exact Nat.ne_of_lt (sz b hb))]; exact (f2 b hb).1, (f2 b hb).2⟩, by rw [h3, Heap.size_push]; exact Nat.lt_succ_of_lt (sz b hb)⟩
  have st3 : tn 0 s3.heap := T.keep _ _ _ st2 fun b _ o e => by rw [h3]; exact Heap.get?_push_of_some _ e
  obtain ⟨H3, hH3⟩ : ∃ H3, upd H2 D (.lst []) = H3 := ⟨_, rfl⟩
  rw [hH3] at I3 f3 w0
  have I4 := block_start I3 ok hN f3
  have pg := hg s3 H3 s3.heap.objs.size (cellsFrom (s3.heap.objs.size + 1) scope.names (cloFrom X.env.cells scope.names [])) fp q hot
  have pe := he s3 H3 s3.heap.objs.size (cellsFrom (s3.heap.objs.size + 1) scope.names (cloFrom X.env.cells scope.names [])) fp q hot
  show codeAny _ _ (.compStart (.ListComp elt [⟨tg, iter, [], 0⟩] scope pos) 0 (.ref it) (.ref D) (compEnvC scope (cellsFrom (s3.heap.objs.size + 1) scope.names (cloFrom X.env.cells scope.names [])) s3.heap.objs.size X.env)) (compPost (model X.prog X.w) X.A X.xe use Qf (.ref D) s3.heap.objs.size) { s3 with heap := pushCells (s3.heap.push { cls := .type "dict", data := .dict #[] }) scope.names }
  obtain ⟨ce, hce⟩ : ∃ ce, compEnvC scope (cellsFrom (s3.heap.objs.size + 1) scope.names (cloFrom X.env.cells scope.names [])) s3.heap.objs.size X.env = ce := ⟨_, rfl⟩
  have cL : ce.locals = s3.heap.objs.size := by rw [← hce]; rfl
  rw [hce] at I4 pg pe ⊢
  have P3 := I3.pin q hqm
  have up4 : ∀ b o, s3.heap.get? b = some o → (pushCells (s3.heap.push { cls := .type "dict", data := .dict #[] }) scope.names).get? b = some o := fun b o e => pushCells_keeps _ _ _ _ (Heap.get?_push_of_some _ e)
  have I4 := pin_on (q := q) I4 ⟨up4 _ _ P3.1, P3.2.1, by show q.1 ≠ ce.locals; rw [cL]; exact Nat.ne_of_lt (Heap.lt_size P3.1), fun hm => (List.mem_cons.mp (I3.stkSub q.1 hm)).elim P3.2.2.1 P3.2.2.2.1, P3.2.2.2.2⟩
  obtain ⟨s4, hs4⟩ : ∃ s4 : Shared, ({ s3 with heap := pushCells (s3.heap.push { cls := .type "dict", data := .dict #[] }) scope.names } : Shared) = s4 := ⟨_, rfl⟩
  rw [hs4] at I4 ⊢
  have st4 : tn 0 s4.heap := T.keep _ _ _ st3 fun b _ o e => by rw [← hs4]; exact up4 b o e
  obtain ⟨B, hB⟩ : ∃ B, pinX (X.blk s3 H3 scope ce fp) q = B := ⟨_, rfl⟩
  have hcB : HotC (pinX (X.blk s3 H3 scope ce fp) q) := hot_pin hot
  have stat : ∀ {σ' : L2.St} {H' : Hp} {s' : Shared}, Inv (pinX (X.blk s3 H3 scope ce fp) q) [] σ' H' s' → (∀ b ∈ fp, H' b = none) → ∀ b ∈ fp, FpOk (pinX (X.blk s3 H3 scope ce fp) q) [] H' b := fun {σ' H' s'} I' hn b hb =>
    ⟨hn b hb, (I'.ok.exf b hb).1, I'.ok.exfs b hb, .inl hb, fun x c e => (I'.ok.exf b hb).2 x c e, fun p hp => by
      have e : p = q := by simpa using (show p ∈ [q] ++ ([] : List (Addr × Obj)) from hp)
      rw [e]
      exact (f3 b hb).1.2.2.2.2.2 q hqm⟩
  have loop : codeAny (model X.prog X.w) X.A (.compLoop (.ListComp elt [⟨tg, iter, [], 0⟩] scope pos) 0 (.ref it) (.ref D) ce) (compPost (model X.prog X.w) X.A X.xe use Qf (.ref D) s3.heap.objs.size) s4 := by
    refine compLoop_any (fun n s' => ∃ i H', Inv (pinX (X.blk s3 H3 scope ce fp) q) [] (wipe σ (own.map (·.2))) H' s' ∧ tn i s'.heap ∧ (∀ b ∈ fp, H' b = none) ∧ W i n H') ?_ m0 ⟨0, H3, I4, st4, fun b hb => (f3 b hb).1.1, w0⟩
    rintro n s5 ⟨i, H5, I5, st5, n5, w5⟩
    rcases turn i n H5 w5 with ⟨stop, done⟩ | ⟨go, Nx, less, step⟩
    · refine thnF (T.done (pinX (X.blk s3 H3 scope ce fp) q) rfl rfl rfl hcB i [] s5 _ H5 (fun _ _ => False) I5 (stat I5 n5) st5 stop) fun r s6 ⟨hr, I6⟩ => ?_
      subst hr
      have I7 : Inv X pins σ H5 s6 := I3.call' (ch := fp) I6.os I6.base I6.hok I6.bare fun b hb => ⟨(f3 b hb).1.2.2.2.1, (f3 b hb).1.2.1, (f3 b hb).1.2.2.2.2.1, (f3 b hb).1.2.2.2.2.2⟩
      have nC : H5 ce.locals = none := I6.free
      obtain ⟨m, hn, _⟩ := I6.loc
      have hn : s6.heap.Ns ce.locals m := hn
      rw [cL] at hn nC
      exact fin D s3.heap.objs.size s6 m H5 I7 done hn (I3.fpOk (Nat.le_refl _) nC)
    · refine thnF (T.item (pinX (X.blk s3 H3 scope ce fp) q) rfl rfl rfl hcB i [] s5 _ H5 (fun _ _ => False) I5 (stat I5 n5) st5 go) fun r s6 ⟨u, hr, h6⟩ => ?_
      subst hr
      refine thnF h6 fun _ s7 ⟨x, H7, I7, r7, y7, st7, n7⟩ => ?_
      refine thnF (pg.run _ s7 _ H7 x u _ (I7.pinned (stat I7 n7) (T.obj _ _ st7)) r7 (step x H7 y7)) fun _ s8 ⟨σ8, H8, I8, hw8, q8⟩ => ?_
      refine thnF ((pts_nil (X := pinX (X.blk s3 H3 scope ce fp) q)).run _ s8 σ8 H8 _ I8 q8) fun b s9 ⟨H9, I9, q9⟩ => ?_
      have next : ∀ {s' : Shared} {H' : Hp}, Inv (pinX (X.blk s3 H3 scope ce fp) q) ([] ++ pinsAt fp s7.heap) σ8 H' s' → Nx H' → ∃ m, m < n ∧ ∃ i H', Inv (pinX (X.blk s3 H3 scope ce fp) q) [] (wipe σ (own.map (·.2))) H' s' ∧ tn i s'.heap ∧ (∀ b ∈ fp, H' b = none) ∧ W i m H' := fun {s' H'} I' nx => by
        obtain ⟨m', hm, w'⟩ := less H' nx
        have kept : ∀ b ∈ fp, ∀ o, s7.heap.get? b = some o → s'.heap.get? b = some o ∧ H' b = none := fun b hb o e =>
          let z := I'.pin (b, o) (List.mem_append_right _ (List.mem_append_right _ (mem_pinsAt hb e)))
          ⟨z.1, z.2.1⟩
        refine ⟨m', hm, i + 1, H', (I'.unpinned (pins := [])).weak (by rw [← hw8, wipe_length]) (fun j v e => ?_), T.keep _ _ _ st7 fun b hb o e => (kept b hb o e).1, fun b hb => ?_, w'⟩
        · rw [← hw8] at e
          exact (wipe_some e).1
        · obtain ⟨o, e, _⟩ := T.obj _ _ st7 b hb
          exact (kept b hb o e).2
      cases b with
      | false =>
        simp only [Bool.false_eq_true, if_false] at q9 ⊢
        exact next I9 q9
      | true =>
        simp only [if_true] at q9 ⊢
        refine thnF (pe.run _ s9 σ8 H9 _ I9 q9) fun z s10 ⟨yv, H10, I10, r10, acc, hD10, hz10, nx⟩ => ?_
        exact app_ok (X := pinX (X.blk s3 H3 scope ce fp) q) I10 hD10 hz10 r10 fun s11 I11 => next I11 nx
  exact codeAny_compStart_list loop (T.self X.A 0 _ _ _ st4 loop)
end
section
open L2H
variable {X : Cx} {CX : CXT} {k : Nat} {f C : Addr} {fd : FuncData} {ps : List Str} {sp : Sp} {E : L2.St → XK} {m : Str} {apos pos : Pos} {o : Expr} {ta : TE}
/-- name = [elt for target in iter], while an error is handled -/
theorem ps_setLcH {i : Nat} {y : Str} {py : Pos} {elt tg iter : Expr} {scope : Scope} {own : List (Str × Nat)} {pos spos : Pos} {wi : TI} {g : TG} {te : TE} (hc : HotC X) (hN : X.N.Nodup) (hy : X.N[i]? = some y) (hyl : X.env.scope.names.lookup y = some .local)
    (hsw : swapsWith (.ListComp elt [⟨tg, iter, [], 0⟩] scope pos) (some (.Name y py)) spos.line X.env = pure true) (hi : PIH X tg iter wi) (ok : BlkOk X.N X.env.scope scope own)
    (hg : ∀ (s : Shared) (H : Hp) (C : Addr) (cl : List (Str × Addr)) (fp : List Addr) (q : Addr × Obj), Hot1 X.A q → L2.PG (pinX (X.blk s H scope (compEnvC scope cl C X.env) fp) q) tg g)
    (he : ∀ (s : Shared) (H : Hp) (C : Addr) (cl : List (Str × Addr)) (fp : List Addr) (q : Addr × Obj), Hot1 X.A q → PE (pinX (X.blk s H scope (compEnvC scope cl C X.env) fp) q) elt te) (hs : ∀ x, foldedSetIterable iter X.env x = pure x := by intro _; rfl) :
    L2.PS X (.Assign [.Name y py] (.ListComp elt [⟨tg, iter, [], 0⟩] scope pos) spos) (tAsg (tLc wi g tYes te (own.map (·.2))) (gName i)) where
  run pins s σ H D I h := by
    have h : tLc wi g tYes te (own.map (·.2)) σ H (fun x H1 => gName i x σ H1 D.nx) := h
    rw [exec_Assign_Name_used _ _ _ _ hsw]
    refine wpAny_bind (wpAny_standAt (wpAny_bind ?_))
    show wpAny _ X.A (do let _ ← comprehension (.ListComp elt [⟨tg, iter, [], 0⟩] scope pos) scope X.env (firstIterPos [⟨tg, iter, [], 0⟩] pos) (newList []) false (eval iter X.env) (some (assign (.Name y py) X.env))) _ _ s
    refine wpAny_bind (wpAny_mono (lc_hot (Qf := fun _ s' => SP X pins D .next s') hc hN I hi ok hg he hs h fun L C s' m H' J q hn f => ?_) (fun _ s' hq => wpAny_pure (wpAny_pure hq)) fun _ _ z => z)
    show wpAny _ _ (assign (.Name y py) X.env (.ref L)) _ _ _
    refine wpAny_assign_Name (store_ok2 (v := V.ref L) J hN hy (.inl hyl) rfl (fun s2 J2 ⟨a, sb, ha⟩ => ?_) (.inr hyl))
    have ne : C ≠ a := ha.elim (fun z => by rw [z]; exact f.2.1) fun z e => f.2.2.2.2.1 y a z e.symm
    exact ⟨m, hn.sameBut sb ne, fun h3 sb3 => ⟨_, H', J2.turned (t' := s2.toks) (fun b o hb e => (sb3.2 b hb).trans e) f.1 f.2.1 f.2.2.2.1 f.2.2.2.2.1 f.2.2.2.2.2, q⟩⟩
/-- o.m(), while an error is handled -/
theorem pe_meth0H {pl : Sem Bool} (he : PE X o ta) (c : Cls X.K C) (hm : Meth X.K C m f) (F : FnH X.prog X.w X.K X.mg X.base CX k f fd ps sp) (hr : RoomH k X.A) (hc : HotC X) (hb : Binds X.K fd ps []) (hx : ∀ σ, PassesAt CX X σ (E σ))
    (ht : eval (.Call (.Attribute o m apos) [] [] pos) X.env = (do
      let ov ← eval o X.env
      standAt apos.atName
      let (f, first) ← holding [ov] (getMethod ov m pl)
      callWith pos f first (backTo pos (starEach [] X.env)) (backToKw pos (keywordEach [] X.env))) := by rfl) :
    PE X (.Call (.Attribute o m apos) [] [] pos) (tMethS C m sp [] E ta tNil) where
  run pins s σ H Q I h := by
    refine PySem.W.methodCall_KW (pl := pl) (wpAny_mono (he.run pins s σ H _ I h) (fun u s1 ⟨x, H1, I1, rx, a, dx, fs, ex, ea, l, q⟩ => ?_) fun _ _ z => z) ht
    subst ex
    obtain rfl : u = Value.ref a := rx
    have go := run_fnH (us := [.ref a]) (vs := [.ref a]) F hr hc hb (hx σ) I1 (.cons rfl .nil) q
    exact getmeth_ok I1 ea c hm l (PySem.W.callWith_K0 (first := [.ref a]) I1.kIn hm.kp go)
end
end Nv
namespace L2
open PySem PySem.Spec PyProof.Rows L2H
theorem Fun.okH {P : Program} {w : World} {K : PySem.W.Frag} {mg : Str → Option Value} {base : Heap} {CX : CXT} {x qual : Str} {st : Stmt} {f : Addr} {fd : FuncData} {N ps : List Str} {k : Nat} {sp : Sp} (F : Fun K x qual st f fd) (S : FnScope N ps (defScope st)) (len : ∀ vs H Q E, sp vs H Q E → vs.length = ps.length)
    (body : ∀ (cdv : Value) (A : Around) (outer : List Env) (s : Shared) (H : Hp) (vs : List V) (Q : VK) (E : XK) (q : Addr × Obj), Hot1 A q → RoomH k (A.deeper (envOfC qual (defScope st) s.heap.objs.size f cdv)) → sp vs H Q E →
      ∃ t, PSs (cxH CX P w K mg base N qual (defScope st) f cdv A outer s H E q) (defBody st) t ∧ t { nx := fun _ H' => Q .non H', rt := Q } (start N vs) H) : FnH P w K mg base CX (k + 1) f fd ps sp := by
  obtain ⟨_, _, _, _, _, _, cdv, _, _, rfl, look, code⟩ := F.ex
  exact fn_ofH look code S len fun A outer s H vs Q E q hot hr => body cdv A outer s H vs Q E q hot hr
/-- the error's pin in a def's own context -/
theorem hot_cx {P : Program} {w : World} {K : PySem.W.Frag} {mg : Str → Option Value} {base : Heap} {CX : CXT} {N : List Str} {qual : Str} {scope : Scope} {f : Addr} {cd : Value} {A : Around} {outer : List Env} {s : Shared} {H : Hp} {E : XK} {q : Addr × Obj} (h : Hot1 A q) : HotC (cxH CX P w K mg base N qual scope f cd A outer s H E q) := ⟨q, h, List.mem_singleton.mpr rfl⟩
theorem passH {X : Cx} : ∀ σ : L2.St, PassesAt CX0 X σ (E0 : XK) := fun _ _ _ _ _ _ _ c => c.elim
theorem hu_ofH {A : Around} {k : Nat} (hr : RoomH k A) : A.units + 1 < cLine := by have := hr.un; omega
end L2

namespace K06
open PySem L2 Nv
/-! # the law's model: field 3 and four pages -/
def keys6 : List Key := ([0, 1, 2, 3, 4] : List Int).map Sum.inl
structure Md6 (F : Hp) (c : List (Key × V)) (k0 : Int) (Kp : Int → List Int) : Prop where
  ks : c.map (·.1) = keys6
  v0 : valV c (.inl 0) = some (.int k0)
  vn : ∀ n : Int, 1 ≤ n → n ≤ 4 → ∃ p, valV c (.inl n) = some (.ref p) ∧ F p = some (.lst ((Kp n).map V.int))
section
variable {F F' H H' : Hp} {c : List (Key × V)} {k0 v : Int} {Kp : Int → List Int} {n : Int} {p md : Addr} {xs : List Int}
theorem putK_keys {c : List (Key × V)} {k : Key} {x y : V} (h : valV c k = some x) : (putK c k y).map (·.1) = c.map (·.1) := by
  unfold putK
  rw [valV_any, h, if_pos (show (some x).isSome = true from rfl), List.map_map]
  refine List.map_congr_left fun kv _ => ?_
  show (if kv.1 = k then (kv.1, y) else kv).1 = kv.1
  split <;> rfl
theorem Md6.ext (D : Md6 F c k0 Kp) (s : Same F F') : Md6 F' c k0 Kp := ⟨D.ks, D.v0, fun n a b => let ⟨p, h1, h2⟩ := D.vn n a b; ⟨p, h1, s _ _ h2⟩⟩
theorem Md6.set0 (D : Md6 F c k0 Kp) : Md6 F (putK c (.inl 0) (.int v)) v Kp :=
  ⟨by rw [putK_keys D.v0]; exact D.ks, by rw [valV_put, if_pos rfl], fun n a b => by
    rw [valV_put, if_neg (fun z => by have := Sum.inl.inj z; omega)]
    exact D.vn n a b⟩
theorem Md6.setN (D : Md6 F c k0 Kp) (a : 1 ≤ n) (b : n ≤ 4) (hp : F p = some (.lst (xs.map V.int))) : Md6 F (putK c (.inl n) (.ref p)) k0 (fun j => if j = n then xs else Kp j) := by
  obtain ⟨p0, e0, _⟩ := D.vn n a b
  refine ⟨by rw [putK_keys e0]; exact D.ks, by rw [valV_put, if_neg (fun z => by have := Sum.inl.inj z; omega)]; exact D.v0, fun j x y => ?_⟩
  rw [valV_put]
  by_cases e : j = n
  · rw [if_pos (by rw [e]), if_pos e]
    exact ⟨p, rfl, hp⟩
  · rw [if_neg (fun z => e (Sum.inl.inj z)), if_neg e]
    exact D.vn j x y
theorem Md6.len (D : Md6 F c k0 Kp) : c.length = 5 := by
  have := congrArg List.length D.ks
  rw [List.length_map] at this
  exact this
theorem valV_mem : ∀ {c : List (Key × V)}, (c.map (·.1)).Nodup → ∀ {kv : Key × V}, kv ∈ c → valV c kv.1 = some kv.2
  | a :: r, h, kv, hm => by
    have h2 := List.nodup_cons.mp h
    rcases List.mem_cons.mp hm with e | hm
    · rw [e]; exact valV_pos rfl
    · rw [valV_neg (fun z => h2.1 (by show a.1 ∈ _; rw [z]; exact List.mem_map_of_mem hm))]
      exact valV_mem h2.2 hm
theorem Md6.ne (K : Frag) (D : Md6 F c k0 Kp) (D' : Md6 F' c' k0 Kp') (hk : ∀ n : Int, 1 ≤ n → n ≤ 4 → Kp n = Kp' n) (s : Same F H) (s' : Same F' H) : ∀ kv ∈ c, ∃ u, valV c' kv.1 = some u ∧ EqV K H 2 kv.2 u := fun kv hm => by
  have nd : (c.map (·.1)).Nodup := by rw [D.ks]; decide
  have e := valV_mem nd hm
  have hk1 : kv.1 ∈ keys6 := by rw [← D.ks]; exact List.mem_map_of_mem hm
  obtain ⟨n, hn, e1⟩ := List.mem_map.mp hk1
  rw [← e1] at e ⊢
  by_cases h0 : n = 0
  · subst h0
    rw [D.v0] at e
    refine ⟨_, D'.v0, ?_⟩
    rw [← Option.some.inj e]
    exact eqV_int _
  · have hb : 1 ≤ n ∧ n ≤ 4 := by
      simp at hn
      omega
    obtain ⟨p, h1, h2⟩ := D.vn n hb.1 hb.2
    obtain ⟨p', h1', h2'⟩ := D'.vn n hb.1 hb.2
    rw [h1] at e
    refine ⟨_, h1', ?_⟩
    rw [← Option.some.inj e]
    rw [← hk n hb.1 hb.2] at h2'
    exact eqV_ints (SqL.of (s _ _ h2)) (SqL.of (s' _ _ h2'))
end
def rgMd (F : Hp) (md : Addr) (k0 : Int) (Kp : Int → List Int) : Rg := ⟨fun b => b = md, fun H => ∃ c, H md = some (.dK c) ∧ Md6 F c k0 Kp, fun _ _ ⟨c, e, D⟩ k => ⟨c, k _ _ rfl e, D⟩, fun _ b ⟨c, e, _⟩ h => ⟨.dK c, by rw [h]; exact e⟩⟩
theorem Ap.md6 {F F' H : Hp} {md : Addr} {k0 k0' : Int} {Kp Kp' : Int → List Int} {c : List (Key × V)} {rs : List Rg} (w : Ap (rgMd F md k0 Kp :: rs) H) (D : Md6 F' c k0' Kp') : Ap (rgMd F' md k0' Kp' :: rs) (upd H md (.dK c)) :=
  w.on ⟨fun b u n e => by rw [upd_ne n]; exact e, fun _ h => .inl h⟩ ⟨c, upd_same, D⟩
/-- one's own list is put among what stays -/
theorem Ap.give6 {F H : Hp} {md p : Addr} {o : HO} {k0 : Int} {Kp : Int → List Int} {rs : List Rg} (w : Ap (rgO p o :: rgMd F md k0 Kp :: rgF F :: rs) H) : Ap (rgMd (upd F p o) md k0 Kp :: rgF (upd F p o) :: rs) H ∧ Same F (upd F p o) := by
  have w2 : Ap (rgO p o :: rgF F :: rgMd F md k0 Kp :: rs) H := w.perm ((List.Perm.swap ..).cons _)
  obtain ⟨w3, hn⟩ := w2.give
  have sF := same_upd (o := o) hn
  exact ⟨(w3.swap).weak (fun b h => h) (fun ⟨c, e, D⟩ => ⟨c, e, D.ext sF⟩), sF⟩
theorem putL_keys (l : PL) (n : Int) (xs : List Int) : (putL l n xs).map (·.1) = if n ∈ l.map (·.1) then l.map (·.1) else l.map (·.1) ++ [n] := by
  unfold putL
  by_cases h : n ∈ l.map (·.1)
  · rw [if_pos h, if_pos]
    · rw [List.map_map]
      refine List.map_congr_left fun w _ => ?_
      show (if w.1 = n then (w.1, xs) else w).1 = w.1
      split <;> rfl
    · obtain ⟨w, hw, e⟩ := List.mem_map.mp h
      exact List.any_eq_true.mpr ⟨w, hw, decide_eq_true e⟩
  · rw [if_neg h, if_neg]
    · rw [List.map_append]
      rfl
    · intro z
      obtain ⟨w, hw, e⟩ := List.any_eq_true.mp z
      exact h (List.mem_map.mpr ⟨w, hw, of_decide_eq_true e⟩)
theorem data_ok {a b c : Int} (ha : 0 ≤ a ∧ a < 256) (hb : 0 ≤ b ∧ b < 256) (hc : 0 ≤ c ∧ c < 256) : (List.replicate 100 a ++ List.replicate 100 b ++ List.replicate 56 c).length = 256 ∧ Byt (List.replicate 100 a ++ List.replicate 100 b ++ List.replicate 56 c) := by
  refine ⟨by rw [List.length_append, List.length_append, List.length_replicate, List.length_replicate, List.length_replicate], fun x hx => ?_⟩
  rcases List.mem_append.mp hx with hx | hx
  · rcases List.mem_append.mp hx with hx | hx
    · rw [List.eq_of_mem_replicate hx]; exact ha
    · rw [List.eq_of_mem_replicate hx]; exact hb
  · rw [List.eq_of_mem_replicate hx]; exact hc
end K06
namespace K06
open PySem L2 Nv
theorem inV_ints (n : Int) (l : List Int) : inV (V.int n) (l.map V.int) = decide (n ∈ l) := by
  induction l with
  | nil => rfl
  | cons a r ih =>
    unfold inV at ih ⊢
    rw [List.map_cons, List.any_cons, ih]
    by_cases h : a = n
    · subst h
      simp [eqV]
    · have h' : ¬ n = a := fun z => h z.symm
      simp [eqV, h, h']
theorem flat_ints (l : List Int) : (l.map V.int).all flatV = true := List.all_eq_true.mpr fun x hx => by
  obtain ⟨i, _, rfl⟩ := List.mem_map.mp hx
  rfl
end K06
namespace Nv
open PySem L2
theorem Ap.z6 {z x a b c d : Rg} {rs : List Rg} {H : Hp} (w : Ap (z :: x :: a :: b :: c :: d :: rs) H) : Ap (z :: c :: d :: x :: a :: b :: rs) H := w.perm ((List.perm_append_comm_assoc [x, a, b] [c, d] rs).cons _)
end Nv
namespace Nv
open PySem L2
theorem InB.le {s : PS} {gs : List (List (Int × List Int))} {t t' : Nat} (I : InB s gs t) (h : t ≤ t') : InB s gs t' :=
  ⟨I.rd, I.cl, I.lg, I.st, I.wr, I.al, I.gok, Nat.le_trans I.gl h, I.nd, I.ns, I.dok, I.eq, by have := I.z1; omega, by have := I.z2; omega⟩
end Nv
namespace Nv
open PySem L2
theorem Ap.p1 {x a b m f : Rg} {rs : List Rg} {H : Hp} (w : Ap (x :: a :: b :: m :: f :: rs) H) : Ap (a :: b :: x :: f :: m :: rs) H :=
  w.perm ((List.perm_middle (l₁ := [a, b])).symm.trans (((List.Perm.swap ..).cons _).cons _ |>.cons _))
end Nv

namespace K06
open PySem L2 Nv
def top (i : Nat) : Stmt := PySem.Challenge.pw_nearvault_k06_whole_pagers_and_power.main.body.getD i (.Pass ⟨0, 0, 0, 0⟩)
abbrev s_wall : Stmt := top 0
abbrev s_log_after : Stmt := top 9
abbrev s_Device_init : Stmt := inClass (top 10) 0
abbrev s_Device_write_page : Stmt := inClass (top 10) 1
abbrev s_Device_sync_pages : Stmt := inClass (top 10) 2
abbrev s_Device_append : Stmt := inClass (top 10) 3
abbrev s_Device_clear : Stmt := inClass (top 10) 4
abbrev s_Device_sync_log : Stmt := inClass (top 10) 5
abbrev s_Device_page : Stmt := inClass (top 10) 6
abbrev s_Device_log : Stmt := inClass (top 10) 7
abbrev s_Device_limit : Stmt := inClass (top 10) 8
abbrev s_Device_crash : Stmt := inClass (top 10) 9
abbrev s_Device_steps : Stmt := inClass (top 10) 10
abbrev s_Device_pending : Stmt := inClass (top 10) 11
abbrev s_Device_take_step : Stmt := inClass (top 10) 12
abbrev s_Device_durable_page : Stmt := inClass (top 10) 13
abbrev s_Device_end_page_write : Stmt := inClass (top 10) 14
abbrev s_Device_end_log_steps : Stmt := inClass (top 10) 15
abbrev s_write_number : Stmt := top 13
abbrev s_read_number : Stmt := top 14
abbrev s_write_group : Stmt := top 17
abbrev s_read_groups : Stmt := top 18
abbrev s_group_end : Stmt := top 19
abbrev s_read_pairs : Stmt := top 20
abbrev s_Pager_init : Stmt := inClass (top 24) 0
abbrev s_Pager_read : Stmt := inClass (top 24) 1
abbrev s_Pager_write : Stmt := inClass (top 24) 2
abbrev s_Pager_allocate : Stmt := inClass (top 24) 3
abbrev s_Pager_release : Stmt := inClass (top 24) 4
abbrev s_Pager_field : Stmt := inClass (top 24) 5
abbrev s_Pager_set_field : Stmt := inClass (top 24) 6
abbrev s_Pager_commit : Stmt := inClass (top 24) 7
abbrev s_Pager_checkpoint : Stmt := inClass (top 24) 8
abbrev s_Pager_rollback : Stmt := inClass (top 24) 9
abbrev s_Pager_count_the_head : Stmt := inClass (top 24) 10
abbrev s_law_draw : Stmt := top 26
abbrev s_law_change : Stmt := top 27
abbrev s_law_shown : Stmt := top 28
abbrev s_law_crash : Stmt := top 29
abbrev s_law_opened : Stmt := top 30
abbrev s_law_group_holds : Stmt := top 31
abbrev s_law_round : Stmt := top 32
abbrev s_law : Stmt := top 33
theorem sc_wall : FnScope ["k"] ["k"] (defScope s_wall) := ⟨rfl, rfl, rfl, by decide +kernel, rfl, by decide +kernel, by decide +kernel⟩
theorem sc_log_after : FnScope ["log", "log_steps", "after", "step"] ["log", "log_steps"] (defScope s_log_after) := ⟨rfl, rfl, rfl, by decide +kernel, rfl, by decide +kernel, by decide +kernel⟩
theorem sc_Device_init : FnScope ["self"] ["self"] (defScope s_Device_init) := ⟨rfl, rfl, rfl, by decide +kernel, rfl, by decide +kernel, by decide +kernel⟩
theorem sc_Device_write_page : FnScope ["self", "number", "data"] ["self", "number", "data"] (defScope s_Device_write_page) := ⟨rfl, rfl, rfl, by decide +kernel, rfl, by decide +kernel, by decide +kernel⟩
theorem sc_Device_sync_pages : FnScope ["self", "number", "data"] ["self"] (defScope s_Device_sync_pages) := ⟨rfl, rfl, rfl, by decide +kernel, rfl, by decide +kernel, by decide +kernel⟩
theorem sc_Device_append : FnScope ["self", "data", "byte"] ["self", "data"] (defScope s_Device_append) := ⟨rfl, rfl, rfl, by decide +kernel, rfl, by decide +kernel, by decide +kernel⟩
theorem sc_Device_clear : FnScope ["self"] ["self"] (defScope s_Device_clear) := ⟨rfl, rfl, rfl, by decide +kernel, rfl, by decide +kernel, by decide +kernel⟩
theorem sc_Device_sync_log : FnScope ["self"] ["self"] (defScope s_Device_sync_log) := ⟨rfl, rfl, rfl, by decide +kernel, rfl, by decide +kernel, by decide +kernel⟩
theorem sc_Device_page : FnScope ["self", "number", "written", "data"] ["self", "number"] (defScope s_Device_page) := ⟨rfl, rfl, rfl, by decide +kernel, rfl, by decide +kernel, by decide +kernel⟩
theorem sc_Device_log : FnScope ["self"] ["self"] (defScope s_Device_log) := ⟨rfl, rfl, rfl, by decide +kernel, rfl, by decide +kernel, by decide +kernel⟩
theorem sc_Device_limit : FnScope ["self", "steps"] ["self", "steps"] (defScope s_Device_limit) := ⟨rfl, rfl, rfl, by decide +kernel, rfl, by decide +kernel, by decide +kernel⟩
theorem sc_Device_crash : FnScope ["self", "fates", "kept", "number", "data", "fate"] ["self", "fates", "kept"] (defScope s_Device_crash) := ⟨rfl, rfl, rfl, by decide +kernel, rfl, by decide +kernel, by decide +kernel⟩
theorem sc_Device_steps : FnScope ["self"] ["self"] (defScope s_Device_steps) := ⟨rfl, rfl, rfl, by decide +kernel, rfl, by decide +kernel, by decide +kernel⟩
theorem sc_Device_pending : FnScope ["self"] ["self"] (defScope s_Device_pending) := ⟨rfl, rfl, rfl, by decide +kernel, rfl, by decide +kernel, by decide +kernel⟩
theorem sc_Device_take_step : FnScope ["self"] ["self"] (defScope s_Device_take_step) := ⟨rfl, rfl, rfl, by decide +kernel, rfl, by decide +kernel, by decide +kernel⟩
theorem sc_Device_durable_page : FnScope ["self", "number"] ["self", "number"] (defScope s_Device_durable_page) := ⟨rfl, rfl, rfl, by decide +kernel, rfl, by decide +kernel, by decide +kernel⟩
theorem sc_Device_end_page_write : FnScope ["self", "number", "data", "fate", "second_half"] ["self", "number", "data", "fate"] (defScope s_Device_end_page_write) := ⟨rfl, rfl, rfl, by decide +kernel, rfl, by decide +kernel, by decide +kernel⟩
theorem sc_Device_end_log_steps : FnScope ["self", "log_steps"] ["self", "log_steps"] (defScope s_Device_end_log_steps) := ⟨rfl, rfl, rfl, by decide +kernel, rfl, by decide +kernel, by decide +kernel⟩
theorem sc_write_number : FnScope ["width", "number", "k"] ["width", "number"] (defScope s_write_number) := ⟨rfl, rfl, rfl, by decide +kernel, rfl, by decide +kernel, by decide +kernel⟩
theorem sc_read_number : FnScope ["data", "place", "width", "number", "k"] ["data", "place", "width"] (defScope s_read_number) := ⟨rfl, rfl, rfl, by decide +kernel, rfl, by decide +kernel, by decide +kernel⟩
theorem sc_write_group : FnScope ["pairs", "data", "number", "content"] ["pairs"] (defScope s_write_group) := ⟨rfl, rfl, rfl, by decide +kernel, rfl, by decide +kernel, by decide +kernel⟩
theorem sc_read_groups : FnScope ["data", "groups", "place", "end"] ["data"] (defScope s_read_groups) := ⟨rfl, rfl, rfl, by decide +kernel, rfl, by decide +kernel, by decide +kernel⟩
theorem sc_group_end : FnScope ["data", "place", "pairs_place", "end"] ["data", "place"] (defScope s_group_end) := ⟨rfl, rfl, rfl, by decide +kernel, rfl, by decide +kernel, by decide +kernel⟩
theorem sc_read_pairs : FnScope ["data", "place", "end", "pairs", "at", "number"] ["data", "place", "end"] (defScope s_read_pairs) := ⟨rfl, rfl, rfl, by decide +kernel, rfl, by decide +kernel, by decide +kernel⟩
theorem sc_Pager_init : FnScope ["self", "device", "logged", "group", "number", "content"] ["self", "device"] (defScope s_Pager_init) := ⟨rfl, rfl, rfl, by decide +kernel, rfl, by decide +kernel, by decide +kernel⟩
theorem sc_Pager_read : FnScope ["self", "number"] ["self", "number"] (defScope s_Pager_read) := ⟨rfl, rfl, rfl, by decide +kernel, rfl, by decide +kernel, by decide +kernel⟩
theorem sc_Pager_write : FnScope ["self", "number", "data"] ["self", "number", "data"] (defScope s_Pager_write) := ⟨rfl, rfl, rfl, by decide +kernel, rfl, by decide +kernel, by decide +kernel⟩
theorem sc_Pager_allocate : FnScope ["self"] ["self"] (defScope s_Pager_allocate) := ⟨rfl, rfl, rfl, by decide +kernel, rfl, by decide +kernel, by decide +kernel⟩
theorem sc_Pager_release : FnScope ["self", "number"] ["self", "number"] (defScope s_Pager_release) := ⟨rfl, rfl, rfl, by decide +kernel, rfl, by decide +kernel, by decide +kernel⟩
theorem sc_Pager_field : FnScope ["self", "k"] ["self", "k"] (defScope s_Pager_field) := ⟨rfl, rfl, rfl, by decide +kernel, rfl, by decide +kernel, by decide +kernel⟩
theorem sc_Pager_set_field : FnScope ["self", "k", "number", "place", "head"] ["self", "k", "number"] (defScope s_Pager_set_field) := ⟨rfl, rfl, rfl, by decide +kernel, rfl, by decide +kernel, by decide +kernel⟩
theorem sc_Pager_commit : FnScope ["self", "pairs", "number"] ["self"] (defScope s_Pager_commit) := ⟨rfl, rfl, rfl, by decide +kernel, rfl, by decide +kernel, by decide +kernel⟩
theorem sc_Pager_checkpoint : FnScope ["self", "number"] ["self"] (defScope s_Pager_checkpoint) := ⟨rfl, rfl, rfl, by decide +kernel, rfl, by decide +kernel, by decide +kernel⟩
theorem sc_Pager_rollback : FnScope ["self"] ["self"] (defScope s_Pager_rollback) := ⟨rfl, rfl, rfl, by decide +kernel, rfl, by decide +kernel, by decide +kernel⟩
theorem sc_Pager_count_the_head : FnScope ["self"] ["self"] (defScope s_Pager_count_the_head) := ⟨rfl, rfl, rfl, by decide +kernel, rfl, by decide +kernel, by decide +kernel⟩
theorem sc_law_draw : FnScope ["state", "script", "size", "cell", "mixed", "digit"] ["state", "script", "size"] (defScope s_law_draw) := ⟨rfl, rfl, rfl, by decide +kernel, rfl, by decide +kernel, by decide +kernel⟩
theorem sc_law_change : FnScope ["state", "script", "pager", "model", "turn", "numbers", "k", "number", "data"] ["state", "script", "pager", "model", "turn"] (defScope s_law_change) := ⟨rfl, rfl, rfl, by decide +kernel, rfl, by decide +kernel, by decide +kernel⟩
theorem sc_law_shown : FnScope ["pager", "model", "number"] ["pager"] (defScope s_law_shown) := ⟨rfl, rfl, rfl, by decide +kernel, rfl, by decide +kernel, by decide +kernel⟩
theorem sc_law_crash : FnScope ["state", "script", "device", "writes", "steps", "fates", "kept", "k"] ["state", "script", "device"] (defScope s_law_crash) := ⟨rfl, rfl, rfl, by decide +kernel, rfl, by decide +kernel, by decide +kernel⟩
theorem sc_law_opened : FnScope ["state", "script", "device", "turn", "power", "start", "pager"] ["state", "script", "device"] (defScope s_law_opened) := ⟨rfl, rfl, rfl, by decide +kernel, rfl, by decide +kernel, by decide +kernel⟩
theorem sc_law_group_holds : FnScope ["device", "pager", "length", "numbers", "groups", "pair"] ["device", "pager", "length", "numbers"] (defScope s_law_group_holds) := ⟨rfl, rfl, rfl, by decide +kernel, rfl, by decide +kernel, by decide +kernel⟩
theorem sc_law_round : FnScope ["state", "script", "device", "pager", "model", "turn", "numbers", "length"] ["state", "script", "device", "pager", "model", "turn"] (defScope s_law_round) := ⟨rfl, rfl, rfl, by decide +kernel, rfl, by decide +kernel, by decide +kernel⟩
theorem sc_law : FnScope ["script", "state", "device", "pager", "kept", "turn", "power", "start", "model", "pages", "word", "used", "steps"] ["script"] (defScope s_law) := ⟨rfl, rfl, rfl, by decide +kernel, rfl, by decide +kernel, by decide +kernel⟩
structure Txt (K : PySem.W.Frag) (mg : Str → Option Value) where
  f_wall : Addr
  fd_wall : FuncData
  F_wall : Fun K "_wall" "_wall" s_wall f_wall fd_wall
  b_wall : Binds K fd_wall ["k"] []
  g_wall : mg "_wall" = some (.ref f_wall)
  f_log_after : Addr
  fd_log_after : FuncData
  F_log_after : Fun K "log_after" "log_after" s_log_after f_log_after fd_log_after
  b_log_after : Binds K fd_log_after ["log", "log_steps"] []
  g_log_after : mg "log_after" = some (.ref f_log_after)
  f_Device_init : Addr
  fd_Device_init : FuncData
  F_Device_init : Fun K "__init__" "Device.__init__" s_Device_init f_Device_init fd_Device_init
  b_Device_init : Binds K fd_Device_init ["self"] []
  f_Device_write_page : Addr
  fd_Device_write_page : FuncData
  F_Device_write_page : Fun K "write_page" "Device.write_page" s_Device_write_page f_Device_write_page fd_Device_write_page
  b_Device_write_page : Binds K fd_Device_write_page ["self", "number", "data"] []
  f_Device_sync_pages : Addr
  fd_Device_sync_pages : FuncData
  F_Device_sync_pages : Fun K "sync_pages" "Device.sync_pages" s_Device_sync_pages f_Device_sync_pages fd_Device_sync_pages
  b_Device_sync_pages : Binds K fd_Device_sync_pages ["self"] []
  f_Device_append : Addr
  fd_Device_append : FuncData
  F_Device_append : Fun K "append" "Device.append" s_Device_append f_Device_append fd_Device_append
  b_Device_append : Binds K fd_Device_append ["self", "data"] []
  f_Device_clear : Addr
  fd_Device_clear : FuncData
  F_Device_clear : Fun K "clear" "Device.clear" s_Device_clear f_Device_clear fd_Device_clear
  b_Device_clear : Binds K fd_Device_clear ["self"] []
  f_Device_sync_log : Addr
  fd_Device_sync_log : FuncData
  F_Device_sync_log : Fun K "sync_log" "Device.sync_log" s_Device_sync_log f_Device_sync_log fd_Device_sync_log
  b_Device_sync_log : Binds K fd_Device_sync_log ["self"] []
  f_Device_page : Addr
  fd_Device_page : FuncData
  F_Device_page : Fun K "page" "Device.page" s_Device_page f_Device_page fd_Device_page
  b_Device_page : Binds K fd_Device_page ["self", "number"] []
  f_Device_log : Addr
  fd_Device_log : FuncData
  F_Device_log : Fun K "log" "Device.log" s_Device_log f_Device_log fd_Device_log
  b_Device_log : Binds K fd_Device_log ["self"] []
  f_Device_limit : Addr
  fd_Device_limit : FuncData
  F_Device_limit : Fun K "limit" "Device.limit" s_Device_limit f_Device_limit fd_Device_limit
  b_Device_limit : Binds K fd_Device_limit ["self", "steps"] []
  f_Device_crash : Addr
  fd_Device_crash : FuncData
  F_Device_crash : Fun K "crash" "Device.crash" s_Device_crash f_Device_crash fd_Device_crash
  b_Device_crash : Binds K fd_Device_crash ["self", "fates", "kept"] []
  f_Device_steps : Addr
  fd_Device_steps : FuncData
  F_Device_steps : Fun K "steps" "Device.steps" s_Device_steps f_Device_steps fd_Device_steps
  b_Device_steps : Binds K fd_Device_steps ["self"] []
  f_Device_pending : Addr
  fd_Device_pending : FuncData
  F_Device_pending : Fun K "pending" "Device.pending" s_Device_pending f_Device_pending fd_Device_pending
  b_Device_pending : Binds K fd_Device_pending ["self"] []
  f_Device_take_step : Addr
  fd_Device_take_step : FuncData
  F_Device_take_step : Fun K "_take_step" "Device._take_step" s_Device_take_step f_Device_take_step fd_Device_take_step
  b_Device_take_step : Binds K fd_Device_take_step ["self"] []
  f_Device_durable_page : Addr
  fd_Device_durable_page : FuncData
  F_Device_durable_page : Fun K "_durable_page" "Device._durable_page" s_Device_durable_page f_Device_durable_page fd_Device_durable_page
  b_Device_durable_page : Binds K fd_Device_durable_page ["self", "number"] []
  f_Device_end_page_write : Addr
  fd_Device_end_page_write : FuncData
  F_Device_end_page_write : Fun K "_end_page_write" "Device._end_page_write" s_Device_end_page_write f_Device_end_page_write fd_Device_end_page_write
  b_Device_end_page_write : Binds K fd_Device_end_page_write ["self", "number", "data", "fate"] []
  f_Device_end_log_steps : Addr
  fd_Device_end_log_steps : FuncData
  F_Device_end_log_steps : Fun K "_end_log_steps" "Device._end_log_steps" s_Device_end_log_steps f_Device_end_log_steps fd_Device_end_log_steps
  b_Device_end_log_steps : Binds K fd_Device_end_log_steps ["self", "log_steps"] []
  f_write_number : Addr
  fd_write_number : FuncData
  F_write_number : Fun K "write_number" "write_number" s_write_number f_write_number fd_write_number
  b_write_number : Binds K fd_write_number ["width", "number"] []
  g_write_number : mg "write_number" = some (.ref f_write_number)
  f_read_number : Addr
  fd_read_number : FuncData
  F_read_number : Fun K "read_number" "read_number" s_read_number f_read_number fd_read_number
  b_read_number : Binds K fd_read_number ["data", "place", "width"] []
  g_read_number : mg "read_number" = some (.ref f_read_number)
  f_write_group : Addr
  fd_write_group : FuncData
  F_write_group : Fun K "write_group" "write_group" s_write_group f_write_group fd_write_group
  b_write_group : Binds K fd_write_group ["pairs"] []
  g_write_group : mg "write_group" = some (.ref f_write_group)
  f_read_groups : Addr
  fd_read_groups : FuncData
  F_read_groups : Fun K "read_groups" "read_groups" s_read_groups f_read_groups fd_read_groups
  b_read_groups : Binds K fd_read_groups ["data"] []
  g_read_groups : mg "read_groups" = some (.ref f_read_groups)
  f_group_end : Addr
  fd_group_end : FuncData
  F_group_end : Fun K "group_end" "group_end" s_group_end f_group_end fd_group_end
  b_group_end : Binds K fd_group_end ["data", "place"] []
  g_group_end : mg "group_end" = some (.ref f_group_end)
  f_read_pairs : Addr
  fd_read_pairs : FuncData
  F_read_pairs : Fun K "read_pairs" "read_pairs" s_read_pairs f_read_pairs fd_read_pairs
  b_read_pairs : Binds K fd_read_pairs ["data", "place", "end"] []
  g_read_pairs : mg "read_pairs" = some (.ref f_read_pairs)
  f_Pager_init : Addr
  fd_Pager_init : FuncData
  F_Pager_init : Fun K "__init__" "Pager.__init__" s_Pager_init f_Pager_init fd_Pager_init
  b_Pager_init : Binds K fd_Pager_init ["self", "device"] []
  f_Pager_read : Addr
  fd_Pager_read : FuncData
  F_Pager_read : Fun K "read" "Pager.read" s_Pager_read f_Pager_read fd_Pager_read
  b_Pager_read : Binds K fd_Pager_read ["self", "number"] []
  f_Pager_write : Addr
  fd_Pager_write : FuncData
  F_Pager_write : Fun K "write" "Pager.write" s_Pager_write f_Pager_write fd_Pager_write
  b_Pager_write : Binds K fd_Pager_write ["self", "number", "data"] []
  f_Pager_allocate : Addr
  fd_Pager_allocate : FuncData
  F_Pager_allocate : Fun K "allocate" "Pager.allocate" s_Pager_allocate f_Pager_allocate fd_Pager_allocate
  b_Pager_allocate : Binds K fd_Pager_allocate ["self"] []
  f_Pager_release : Addr
  fd_Pager_release : FuncData
  F_Pager_release : Fun K "release" "Pager.release" s_Pager_release f_Pager_release fd_Pager_release
  b_Pager_release : Binds K fd_Pager_release ["self", "number"] []
  f_Pager_field : Addr
  fd_Pager_field : FuncData
  F_Pager_field : Fun K "field" "Pager.field" s_Pager_field f_Pager_field fd_Pager_field
  b_Pager_field : Binds K fd_Pager_field ["self", "k"] []
  f_Pager_set_field : Addr
  fd_Pager_set_field : FuncData
  F_Pager_set_field : Fun K "set_field" "Pager.set_field" s_Pager_set_field f_Pager_set_field fd_Pager_set_field
  b_Pager_set_field : Binds K fd_Pager_set_field ["self", "k", "number"] []
  f_Pager_commit : Addr
  fd_Pager_commit : FuncData
  F_Pager_commit : Fun K "commit" "Pager.commit" s_Pager_commit f_Pager_commit fd_Pager_commit
  b_Pager_commit : Binds K fd_Pager_commit ["self"] []
  f_Pager_checkpoint : Addr
  fd_Pager_checkpoint : FuncData
  F_Pager_checkpoint : Fun K "checkpoint" "Pager.checkpoint" s_Pager_checkpoint f_Pager_checkpoint fd_Pager_checkpoint
  b_Pager_checkpoint : Binds K fd_Pager_checkpoint ["self"] []
  f_Pager_rollback : Addr
  fd_Pager_rollback : FuncData
  F_Pager_rollback : Fun K "rollback" "Pager.rollback" s_Pager_rollback f_Pager_rollback fd_Pager_rollback
  b_Pager_rollback : Binds K fd_Pager_rollback ["self"] []
  f_Pager_count_the_head : Addr
  fd_Pager_count_the_head : FuncData
  F_Pager_count_the_head : Fun K "_count_the_head" "Pager._count_the_head" s_Pager_count_the_head f_Pager_count_the_head fd_Pager_count_the_head
  b_Pager_count_the_head : Binds K fd_Pager_count_the_head ["self"] []
  f_law_draw : Addr
  fd_law_draw : FuncData
  F_law_draw : Fun K "_law_draw" "_law_draw" s_law_draw f_law_draw fd_law_draw
  b_law_draw : Binds K fd_law_draw ["state", "script", "size"] []
  g_law_draw : mg "_law_draw" = some (.ref f_law_draw)
  f_law_change : Addr
  fd_law_change : FuncData
  F_law_change : Fun K "_law_change" "_law_change" s_law_change f_law_change fd_law_change
  b_law_change : Binds K fd_law_change ["state", "script", "pager", "model", "turn"] []
  g_law_change : mg "_law_change" = some (.ref f_law_change)
  f_law_shown : Addr
  fd_law_shown : FuncData
  F_law_shown : Fun K "_law_shown" "_law_shown" s_law_shown f_law_shown fd_law_shown
  b_law_shown : Binds K fd_law_shown ["pager"] []
  g_law_shown : mg "_law_shown" = some (.ref f_law_shown)
  f_law_crash : Addr
  fd_law_crash : FuncData
  F_law_crash : Fun K "_law_crash" "_law_crash" s_law_crash f_law_crash fd_law_crash
  b_law_crash : Binds K fd_law_crash ["state", "script", "device"] []
  g_law_crash : mg "_law_crash" = some (.ref f_law_crash)
  f_law_opened : Addr
  fd_law_opened : FuncData
  F_law_opened : Fun K "_law_opened" "_law_opened" s_law_opened f_law_opened fd_law_opened
  b_law_opened : Binds K fd_law_opened ["state", "script", "device"] []
  g_law_opened : mg "_law_opened" = some (.ref f_law_opened)
  f_law_group_holds : Addr
  fd_law_group_holds : FuncData
  F_law_group_holds : Fun K "_law_group_holds" "_law_group_holds" s_law_group_holds f_law_group_holds fd_law_group_holds
  b_law_group_holds : Binds K fd_law_group_holds ["device", "pager", "length", "numbers"] []
  g_law_group_holds : mg "_law_group_holds" = some (.ref f_law_group_holds)
  f_law_round : Addr
  fd_law_round : FuncData
  F_law_round : Fun K "_law_round" "_law_round" s_law_round f_law_round fd_law_round
  b_law_round : Binds K fd_law_round ["state", "script", "device", "pager", "model", "turn"] []
  g_law_round : mg "_law_round" = some (.ref f_law_round)
  f_law : Addr
  fd_law : FuncData
  F_law : Fun K "law" "law" s_law f_law fd_law
  b_law : Binds K fd_law ["script"] []
  g_law : mg "law" = some (.ref f_law)
  C_VaultError : Addr
  g_VaultError : mg "VaultError" = some (.ref C_VaultError)
  x_VaultError : PySem.W.excIn K C_VaultError [.type "ValueError", .type "Exception", .type "BaseException", .type "object"] "ValueError.__new__" = true
  k_VaultError : PySem.W.keepIn K (.ref C_VaultError) = true
  xb_VaultError : PySem.W.subIn K (.ref C_VaultError) (.type "BaseException") = some true
  xt_VaultError : PySem.W.typeIn K (.ref C_VaultError) = some (.type "type")
  xi_VaultError : PySem.W.isClsIn K C_VaultError = true
  xs_VaultError : PySem.W.subIn K (.ref C_VaultError) (.ref C_VaultError) = some true
  C_PowerCut : Addr
  g_PowerCut : mg "PowerCut" = some (.ref C_PowerCut)
  x_PowerCut : PySem.W.excIn K C_PowerCut [.type "ValueError", .type "Exception", .type "BaseException", .type "object"] "ValueError.__new__" = true
  k_PowerCut : PySem.W.keepIn K (.ref C_PowerCut) = true
  xb_PowerCut : PySem.W.subIn K (.ref C_PowerCut) (.type "BaseException") = some true
  xt_PowerCut : PySem.W.typeIn K (.ref C_PowerCut) = some (.type "type")
  xi_PowerCut : PySem.W.isClsIn K C_PowerCut = true
  xga_PowerCut : PySem.W.findIn K (.ref C_PowerCut) "__getattribute__" = some (some (.builtin "BaseException.__getattribute__"))
  xgt_PowerCut : PySem.W.findIn K (.ref C_PowerCut) "__getattr__" = some none
  xhd_PowerCut : PySem.W.hasDictIn K C_PowerCut = true
  xcl_PowerCut : PySem.W.findIn K (.ref C_PowerCut) "__class__" = some (some (.builtin "object.__class__"))
  xn_PowerCut : PySem.W.specialIn K (.builtin "object.__class__") "__get__" = some (some (.builtin "getset_descriptor.__get__"))
  xta_PowerCut : PySem.W.takesIn K (.builtin "object.__class__") = some true
  xm_PowerCut : PySem.W.mroIn K C_PowerCut (.type "object") = some true
  xv_PowerCut : PySem.W.subIn K (.ref C_PowerCut) (.type "ValueError") = some true
  xs_PowerCut : PySem.W.subIn K (.ref C_PowerCut) (.ref C_PowerCut) = some true
  xs_PowerCut_VaultError : PySem.W.subIn K (.ref C_PowerCut) (.ref C_VaultError) = some true
  C_Device : Addr
  g_Device : mg "Device" = some (.ref C_Device)
  cl_Device : Cls K C_Device
  mk_Device : Mk K C_Device f_Device_init
  m_Device_write_page : Meth K C_Device "write_page" f_Device_write_page
  m_Device_sync_pages : Meth K C_Device "sync_pages" f_Device_sync_pages
  m_Device_append : Meth K C_Device "append" f_Device_append
  m_Device_clear : Meth K C_Device "clear" f_Device_clear
  m_Device_sync_log : Meth K C_Device "sync_log" f_Device_sync_log
  m_Device_page : Meth K C_Device "page" f_Device_page
  m_Device_log : Meth K C_Device "log" f_Device_log
  m_Device_limit : Meth K C_Device "limit" f_Device_limit
  m_Device_crash : Meth K C_Device "crash" f_Device_crash
  m_Device_steps : Meth K C_Device "steps" f_Device_steps
  m_Device_pending : Meth K C_Device "pending" f_Device_pending
  m_Device_take_step : Meth K C_Device "_take_step" f_Device_take_step
  m_Device_durable_page : Meth K C_Device "_durable_page" f_Device_durable_page
  m_Device_end_page_write : Meth K C_Device "_end_page_write" f_Device_end_page_write
  m_Device_end_log_steps : Meth K C_Device "_end_log_steps" f_Device_end_log_steps
  n_Device__durable_pages : NoAttr K C_Device "_durable_pages"
  n_Device__page_writes : NoAttr K C_Device "_page_writes"
  n_Device__durable_log : NoAttr K C_Device "_durable_log"
  n_Device__log_steps : NoAttr K C_Device "_log_steps"
  n_Device__steps_performed : NoAttr K C_Device "_steps_performed"
  n_Device__steps_allowed : NoAttr K C_Device "_steps_allowed"
  C_Pager : Addr
  g_Pager : mg "Pager" = some (.ref C_Pager)
  cl_Pager : Cls K C_Pager
  mk_Pager : Mk K C_Pager f_Pager_init
  m_Pager_read : Meth K C_Pager "read" f_Pager_read
  m_Pager_write : Meth K C_Pager "write" f_Pager_write
  m_Pager_allocate : Meth K C_Pager "allocate" f_Pager_allocate
  m_Pager_release : Meth K C_Pager "release" f_Pager_release
  m_Pager_field : Meth K C_Pager "field" f_Pager_field
  m_Pager_set_field : Meth K C_Pager "set_field" f_Pager_set_field
  m_Pager_commit : Meth K C_Pager "commit" f_Pager_commit
  m_Pager_checkpoint : Meth K C_Pager "checkpoint" f_Pager_checkpoint
  m_Pager_rollback : Meth K C_Pager "rollback" f_Pager_rollback
  m_Pager_count_the_head : Meth K C_Pager "_count_the_head" f_Pager_count_the_head
  n_Pager__device : NoAttr K C_Pager "_device"
  n_Pager__dirty : NoAttr K C_Pager "_dirty"
  n_Pager__committed_since_checkpoint : NoAttr K C_Pager "_committed_since_checkpoint"
  z_list : mg "list" = none
  z_range : mg "range" = none
  z_sorted : mg "sorted" = none
  z_all : mg "all" = none
  z_len : mg "len" = none
  z_reversed : mg "reversed" = none
  z_zip : mg "zip" = none
  z_int : mg "int" = none
  z_dict : mg "dict" = none
  z_max : mg "max" = none
  t_PAGE_SIZE : Tok
  g_PAGE_SIZE : mg "PAGE_SIZE" = some (.int 256 t_PAGE_SIZE)
  t_HALF_PAGE : Tok
  g_HALF_PAGE : mg "HALF_PAGE" = some (.int 128 t_HALF_PAGE)
  t_TAKES_EFFECT : Tok
  g_TAKES_EFFECT : mg "TAKES_EFFECT" = some (.int 1 t_TAKES_EFFECT)
  t_FIRST_HALF_TAKES_EFFECT : Tok
  g_FIRST_HALF_TAKES_EFFECT : mg "FIRST_HALF_TAKES_EFFECT" = some (.int 2 t_FIRST_HALF_TAKES_EFFECT)
  t_NUMBER_WIDTH : Tok
  g_NUMBER_WIDTH : mg "NUMBER_WIDTH" = some (.int 4 t_NUMBER_WIDTH)
  t_PAIR_SIZE : Tok
  g_PAIR_SIZE : mg "PAIR_SIZE" = some (.int 260 t_PAIR_SIZE)
  t_HEAD : Tok
  g_HEAD : mg "HEAD" = some (.int 0 t_HEAD)
  t_PAGE_COUNT : Tok
  g_PAGE_COUNT : mg "PAGE_COUNT" = some (.int 6 t_PAGE_COUNT)

end K06


namespace K06
open PySem L2 Nv RZ
local macro_rules | `(tactic| walk_at "hp") => `(tactic| first
  | assumption
  | exact upd_same
  | exact (upd_ne (by assumption)).trans (by first | assumption | exact upd_same | exact (upd_ne (by assumption)).trans (by first | assumption | exact upd_same))
  | exact (upd_ne (Ne.symm (by assumption))).trans (by first | assumption | exact upd_same))
local macro_rules | `(tactic| walk_at "cond") => `(tactic| first
  | (change (0 : Int) < _; first | decide | omega)
  | exact Or.inr ⟨by decide, by decide⟩
  | exact Or.inl ⟨by decide, by decide⟩
  | exact Or.inr ⟨by omega, by omega⟩
  | exact Or.inl ⟨by omega, by omega⟩
  | exact ⟨by decide, by decide, by decide⟩
  | exact wide_div (by first | decide | omega) (show _ < 2 ^ 64 by first | decide | omega) (by decide) (by decide)
  | (change (0 : Int) ≤ _; first | decide | omega)
  | exact ⟨by decide, by decide⟩
  | exact ⟨by omega, by omega⟩)
local macro_rules | `(tactic| walk_at "val") => `(tactic| first
  | (with_reducible exact val_c)
  | ((with_reducible apply val_var); exact rfl)
  | ((with_reducible apply val_I0); walk_at "val"; walk_at "val")
  | ((with_reducible apply val_I); walk_at "val"; walk_at "val"; walk_at "cond")
  | ((with_reducible apply val_ixL); walk_at "val"; walk_at "val"; (first | exact SqL.of (by walk_at "hp") | assumption); exact rfl)
  | ((with_reducible apply val_len); walk_at "val"; first | exact Or.inl (SqL.of (by walk_at "hp")) | exact Or.inl (by assumption) | exact Or.inr (by assumption) | exact Or.inr (SqT.of (by walk_at "hp")))
  | ((with_reducible apply val_int1); walk_at "val")
  | ((with_reducible apply val_abs); walk_at "val")
  | ((with_reducible apply val_max2); walk_at "val"; walk_at "val")
  | ((with_reducible apply val_eq); walk_at "val"; walk_at "val"; exact rfl)
  | ((with_reducible apply val_ne); walk_at "val"; walk_at "val"; exact rfl)
  | ((with_reducible apply val_not); walk_at "val")
  | ((with_reducible apply val_U); walk_at "val"))
local macro_rules | `(tactic| walk_at "ans") => `(tactic| first
  | ((with_reducible apply ans_Eq); walk_at "val"; walk_at "val"; exact rfl)
  | ((with_reducible apply ans_Ne); walk_at "val"; walk_at "val"; exact rfl)
  | ((with_reducible apply ans_I0); walk_at "val"; walk_at "val"; exact rfl)
  | ((with_reducible refine ans_And ?_ (fun _ => ?_)); walk_at "ans"; walk_at "ans")
  | ((with_reducible refine ans_or2 ?_ (fun _ => ?_)); walk_at "ans"; walk_at "ans")
  | ((with_reducible refine ans_not ?_); walk_at "ans")
  | ((with_reducible apply ans_val); walk_at "val"))
local macro_rules | `(tactic| walk_at "nrm") => `(tactic| (try dsimp only [List.set_cons_zero, List.set_cons_succ]))
local macro_rules | `(tactic| walk_at "set") => `(tactic| first
  | ((with_reducible apply q_set); walk_at "val"; walk_at "nrm")
  | ((with_reducible apply s_set); walk_at "val"; walk_at "nrm"))
local macro_rules | `(tactic| walk_at "setL") => `(tactic| first
  | ((with_reducible apply q_setL); walk_at "val"; walk_at "val"; walk_at "val"; walk_at "hp"; exact rfl; walk_at "nrm")
  | ((with_reducible apply s_setL); walk_at "val"; walk_at "val"; walk_at "val"; walk_at "hp"; exact rfl; walk_at "nrm"))
local macro_rules | `(tactic| walk_at "ff") => `(tactic| (walk_at "nrm"; rw [if_neg (by decide)]; (try ((with_reducible refine st_next ?_); walk_at "nrm"))))
local macro_rules | `(tactic| walk_at "nok") => `(tactic| (refine ⟨_, rfl, rfl, _, rfl, ?_⟩; walk_at "nrm"; rw [if_neg (by decide)]))
local macro_rules | `(tactic| walk_at "yesk") => `(tactic| (refine ⟨_, rfl, rfl, _, rfl, ?_⟩; walk_at "nrm"; rw [if_pos (by decide)]))
local macro_rules | `(tactic| walk_at "no") => `(tactic| (walk_at "nrm"; rw [if_neg (by decide)]; walk_at "nrm"))
local macro_rules | `(tactic| walk_at "yes") => `(tactic| (walk_at "nrm"; rw [if_pos (by decide)]; walk_at "nrm"))
local macro_rules | `(tactic| walk_at "nos") => `(tactic| (walk_at "nrm"; repeat (rw [if_neg (by decide)]; walk_at "nrm"); (try ((with_reducible refine st_next ?_); walk_at "nrm"))))

section
variable {P : Program} {w : World} {K : PySem.W.Frag} {mg : Str → Option Value} {base : Heap}
theorem ok_law_draw (T : Txt K mg) : FnOk P w K mg base CX0 1 T.f_law_draw T.fd_law_draw ["state", "script", "size"] (spDraw K) := by
  refine T.F_law_draw.ok sc_law_draw (fun vs H Q E h => ?_) (fun cdv A outer s H vs Q E hr h => ?_)
  · obtain ⟨_, _, _, _, _, rfl, _⟩ := h
    rfl
  obtain ⟨st, sc, n, H0, ns, rfl, hn, hn2, D, q⟩ := h
  refine ⟨_, (Evl.pss_cut (ps_if (pt_cmpR op_eq (pe_ix ix_list (pv 0) pe_int (fun _ _ => rfl)) pe_int (nomark _))
        (pss_cons (ps_set (i := 3) sc_law_draw.nd rfl (by first | exact Or.inl rfl | exact Or.inr rfl) pe_int)
        (Evl.pss_cut (ps_if (pt_cmpR op_gt (pe_callB call_len_seq (by rfl) T.z_len (by decide +kernel) (pa_cons (pv 1) pa_nil)) pe_int (nomark _))
          (pss_one (ps_set (i := 3) sc_law_draw.nd rfl (by first | exact Or.inl rfl | exact Or.inr rfl) (pe_ix ix_list (pv 1) (pe_op op_mod (pe_ix ix_list (pv 0) pe_int (fun _ _ => rfl)) (pe_callB call_len_seq (by rfl) T.z_len (by decide +kernel) (pa_cons (pv 1) pa_nil))) (fun _ _ => rfl))))
          pss_nil)
        (Evl.pss_cut (ps_if (pt_cmpR op_lt (pv 3) pe_int (nomark _))
          (pss_one (ps_set (i := 3) sc_law_draw.nd rfl (by first | exact Or.inl rfl | exact Or.inr rfl) (pe_op op_sub pe_int (pe_op op_mul pe_int (pv 3)))))
          pss_nil)
        (pss_cons (ps_set (i := 4) sc_law_draw.nd rfl (by first | exact Or.inl rfl | exact Or.inr rfl) (pe_op op_mod (pe_callTy call_int1 (by rfl) T.z_int (by decide +kernel) (pa_cons (pe_op op_mul (pe_op op_add (pe_op op_add (pv 3) (pe_op op_mul (pe_ix ix_list (pv 0) pe_int (fun _ _ => rfl)) pe_int)) pe_int) pe_int) pa_nil)) pe_int))
        (pss_cons (ps_asg (pe_op op_mod (pe_callTy call_int1 (by rfl) T.z_int (by decide +kernel) (pa_cons (pe_op op_add (pe_op op_mul (pv 4) pe_int) (pe_op op_mul (pe_ix ix_list (pv 0) pe_int (fun _ _ => rfl)) pe_int)) pa_nil)) pe_int) (pg_sub (pv 0) pe_int set_list))
        (Evl.pss_cut (ps_if (PW.pt (pw_and (pt_cmpR op_ge (pv 3) (pe_op op_pow pe_int pe_int) (nomark _)) (pw_and1 (pt_cmpR op_lt (pe_ix ix_list (pv 0) pe_int (fun _ _ => rfl)) (pe_callB call_len_seq (by rfl) T.z_len (by decide +kernel) (pa_cons (pv 1) pa_nil)) (nomark _)))))
          (pss_one (ps_asg (pv 3) (pg_sub (pv 0) pe_int set_list)))
          pss_nil)
        (pss_one (ps_asg (pe_op op_add (pe_ix ix_list (pv 0) pe_int (fun _ _ => rfl)) pe_int) (pg_sub (pv 0) pe_int set_list)))))))))
        pss_nil)
      (pss_cons (ps_set (i := 5) sc_law_draw.nd rfl (by first | exact Or.inl rfl | exact Or.inr rfl) (pe_op op_mod (pe_callTy call_int1 (by rfl) T.z_int (by decide +kernel) (pa_cons (pe_ix ix_list (pv 0) pe_int (fun _ _ => rfl)) pa_nil)) (pv 2)))
      (pss_cons (ps_asg (pe_op op_fdivW (pe_ix ix_list (pv 0) pe_int (fun _ _ => rfl)) (pv 2)) (pg_sub (pv 0) pe_int set_list))
      (pss_one (ps_ret (pv 5)))))), ?_⟩
  (try dsimp only [cxOf])
  rw [show start ["state", "script", "size", "cell", "mixed", "digit"] [.ref st, .ref sc, .int n] = [some (.ref st), some (.ref sc), some (.int n), none, none, none] from rfl]
  obtain ⟨i, d, hi, hd, e⟩ := D.ex
  have hS := D.seq
  refine q_cut (fun σ' H' => ∃ (i d : Int) (c3 c4 : Option V), σ' = [some (.ref st), some (.ref sc), some (.int n), c3, c4, none] ∧ 0 ≤ i ∧ 0 ≤ d ∧ But st H H' ∧ Dr K H0 H' st sc ns ∧ H' st = some (.lst [.int i, .int d])) ?_ ?_
  · refine s_when (b := decide (V.int d = V.int 0)) (by walk_at "ans") (fun hb => ?_) (fun hb => ⟨i, d, none, none, rfl, hi, hd, But.refl _ _, D, e⟩)
    refine q_set (v := .int 0) (by walk_at "val") ?_
    walk_at "nrm"
    refine q_cut (fun σ' H' => H' = H ∧ ∃ c : Int, σ' = [some (.ref st), some (.ref sc), some (.int n), some (.int c), none, none]) ?_ ?_
    · refine s_when (b := decide ((0 : Int) < ((ns.map V.int).length : Nat))) (by walk_at "ans") (fun hb => ?_) (fun hb => ⟨rfl, 0, rfl⟩)
      have h0 : 0 < ns.length := by
        have h1 := of_decide_eq_true hb
        rw [List.length_map] at h1
        omega
      obtain ⟨c, hc⟩ := at_mod i h0
      refine s_set (v := .int c) ?_ ⟨rfl, _, rfl⟩
      refine val_ixL (xs := ns.map V.int) (i := i % (((ns.map V.int).length : Nat) : Int)) (val_var rfl) ?_ hS hc
      refine val_I (val_ixL (val_var rfl) val_c (SqL.of e) rfl) (val_len (val_var rfl) (.inl hS)) ?_
      show (0 : Int) < _
      rw [List.length_map]
      omega
    rintro σ' H' ⟨rfl, c, rfl⟩
    refine q_cut (fun σ' H'' => H'' = H' ∧ ∃ c : Int, 0 ≤ c ∧ σ' = [some (.ref st), some (.ref sc), some (.int n), some (.int c), none, none]) ?_ ?_
    · refine s_when (b := decide (c < 0)) (by walk_at "ans") (fun hb => ?_) (fun hb => ⟨rfl, c, by have := of_decide_eq_false hb; omega, rfl⟩)
      have hc := of_decide_eq_true hb
      refine s_set (v := .int (1 - 2 * c)) (by walk_at "val") ⟨rfl, _, by omega, rfl⟩
    rintro σ' H'' ⟨rfl, c, hc, rfl⟩
    walk_at "set"
    walk_at "setL"
    generalize hm : (_ : Int) % 4294967291 = m5
    have hm5 : 0 ≤ m5 := by rw [← hm]; exact Int.emod_nonneg _ (by decide)
    refine q_cut (fun σ' H' => ∃ d' : Int, 0 ≤ d' ∧ But st H'' H' ∧ H' st = some (.lst [.int i, .int d']) ∧ ∃ c4, σ' = [some (.ref st), some (.ref sc), some (.int n), some (.int c), c4, none]) ?_ ?_
    · have e2 : (upd H'' st (.lst [V.int i, V.int m5])) st = some (.lst [.int i, .int m5]) := upd_same
      have hS2 : SqL K (upd H'' st (.lst [V.int i, V.int m5])) sc (ns.map V.int) := (D.put hi hm5).seq
      refine s_when (b := decide ((10 : Int) ^ (18 : Int).toNat ≤ c) && decide (i < ((ns.map V.int).length : Nat))) (by walk_at "ans") (fun hb => ?_) (fun hb => ⟨m5, hm5, But.upd, upd_same, _, rfl⟩)
      walk_at "setL"
      exact ⟨c, hc, But.upd.trans But.upd, upd_same, _, rfl⟩
    rintro σ' H' ⟨d', hd', hB, e', c4, rfl⟩
    walk_at "setL"
    exact ⟨i + 1, d', _, _, rfl, by omega, hd', hB.trans But.upd, ⟨D.sq, fun b o h => by rw [upd_ne (ne_of_none h D.new), hB b (ne_of_none h D.new)]; exact D.same b o h, D.new, i + 1, d', by omega, hd', upd_same⟩, upd_same⟩
  · rintro σ' H' ⟨i, d, c3, c4, rfl, hi, hd, hB, D, e⟩
    refine q_set (by walk_at "val") ?_
    walk_at "nrm"
    refine q_setL (by walk_at "val") (by walk_at "val") (by walk_at "val") e (k := 1) rfl ?_
    refine s_ret (val_var rfl) ?_
    refine q _ _ (Int.emod_nonneg _ (by omega)) (Int.emod_lt_of_pos _ hn) (hB.trans But.upd) ?_
    exact D.put hi (Int.ediv_nonneg hd (by omega))

/-! ### the device's methods -/
def bnd (g : DG) (d : DS) : Nat := g.kvs.length + d.writes.length
def spTick (C CP : Addr) : Sp := fun vs H Q E => ∃ (dev : Addr) (g : DG) (d : DS), vs = [.ref dev] ∧ DevAt C H dev g d ∧ (d.tick = none → E (.ref CP) none H) ∧
  ∀ (d' : DS) (H' : Hp), d.tick = some d' → DevAt C H' dev g d' → (∀ b, b ≠ dev → H' b = H b) → Q .non H'
theorem ok_Device_take_step (T : Txt K mg) : FnOk P w K mg base (L2N.CX P w) 2 T.f_Device_take_step T.fd_Device_take_step ["self"] (spTick T.C_Device T.C_PowerCut) := by
  refine T.F_Device_take_step.okN sc_Device_take_step (fun vs H Q E h => ?_) (fun cdv A outer s H vs Q E hr h => ?_)
  · obtain ⟨_, _, _, rfl, _⟩ := h
    rfl
  obtain ⟨dev, g, d, rfl, D, kN, kS⟩ := h
  refine ⟨_, (pss_cons (ps_if (pt_cmpR op_notN (pe_fld (pv 0) rfl) pe_non (nomark _))
        (pss_cons (ps_if (pt_cmpR op_le (pe_fld (pv 0) rfl) pe_int (nomark _))
          (pss_one (L2N.ps_raise rfl (L2N.takes_of rfl rfl rfl rfl) (pmk_own0N PySem.F.excBase_ValueError T.x_PowerCut T.g_PowerCut T.k_PowerCut (raises_own T.xb_PowerCut T.xt_PowerCut) (by rfl))))
          pss_nil)
        (pss_one (ps_fldaug (pv 0) pe_int in_sub)))
        pss_nil)
      (pss_one (ps_fldaug (pv 0) pe_int in_add))), ?_⟩
  (try dsimp only [cxOf])
  rw [show start ["self"] [.ref dev] = [some (.ref dev)] from rfl]
  refine ⟨_, rfl, dev, T.C_Device, g.dx, devF g d, _, rfl, D.at_, T.cl_Device, T.n_Device__steps_allowed, lk_all, rfl, _, rfl, ?_⟩
  walk_at "nrm"
  cases ha : d.allowed with
  | none =>
    rw [if_neg (show ¬ (!decide (optV none = V.non)) = true by decide)]
    refine ⟨_, rfl, dev, T.C_Device, g.dx, devF g d, _, rfl, D.at_, T.cl_Device, T.n_Device__steps_performed, lk_done, _, _, rfl, rfl, g.dx, devF g d, D.at_, (by show 6 < 1000; decide), ?_⟩
    rw [put_done]
    exact kS { d with done := d.done + 1 } _ (by unfold DS.tick; rw [ha]) (D.num rfl rfl rfl rfl) fun b hb => upd_ne hb
  | some a =>
    rw [if_pos (show (!decide (optV (some a) = V.non)) = true from rfl)]
    refine ⟨_, rfl, dev, T.C_Device, g.dx, devF g d, V.int a, rfl, D.at_, T.cl_Device, T.n_Device__steps_allowed, (by rw [lk_all, ha]; rfl), a, 0, rfl, rfl, _, rfl, ?_⟩
    walk_at "nrm"
    by_cases h0 : a ≤ 0
    · rw [if_pos (decide_eq_true h0)]
      exact kN (by unfold DS.tick; rw [ha]; exact if_pos h0)
    · rw [if_neg (by rw [decide_eq_false h0]; exact Bool.false_ne_true)]
      refine ⟨_, rfl, dev, T.C_Device, g.dx, devF g d, V.int a, rfl, D.at_, T.cl_Device, T.n_Device__steps_allowed, (by rw [lk_all, ha]; rfl), a, 1, rfl, rfl, g.dx, devF g d, D.at_, (by show 6 < 1000; decide), ?_⟩
      rw [show putF "_steps_allowed" (V.int (a - 1)) (devF g d) = devF g { d with allowed := some (a - 1) } from put_all (a := some (a - 1))]
      have D1 : DevAt T.C_Device _ dev g { d with allowed := some (a - 1) } := D.num (d' := { d with allowed := some (a - 1) }) rfl rfl rfl rfl
      refine ⟨_, rfl, dev, T.C_Device, g.dx, devF g { d with allowed := some (a - 1) }, _, rfl, D1.at_, T.cl_Device, T.n_Device__steps_performed, lk_done, _, _, rfl, rfl, g.dx, devF g { d with allowed := some (a - 1) }, D1.at_, (by show 6 < 1000; decide), ?_⟩
      rw [put_done, upd_upd]
      exact kS { d with done := d.done + 1, allowed := some (a - 1) } _ (by unfold DS.tick; rw [ha]; exact if_neg h0) (D.num rfl rfl rfl rfl) fun b hb => upd_ne hb
theorem Fr_of {dev : Addr} {g : DG} {H H' : Hp} (h : ∀ b, b ≠ dev → H' b = H b) : Fr dev g H g H' := ⟨fun b o n e => by rw [h b (fun z => n (.inl z))]; exact e, fun _ h => .inl h⟩
theorem tick_same {d d' : DS} (h : d.tick = some d') : d'.pages = d.pages ∧ d'.writes = d.writes ∧ d'.log = d.log ∧ d'.steps = d.steps := by
  unfold DS.tick at h
  cases ha : d.allowed with
  | none =>
    rw [ha] at h
    cases h
    exact ⟨rfl, rfl, rfl, rfl⟩
  | some a =>
    rw [ha] at h
    by_cases h0 : a ≤ 0
    · have h : (if a ≤ 0 then none else some { d with done := d.done + 1, allowed := some (a - 1) }) = some d' := h
      rw [if_pos h0] at h
      cases h
    · have h : (if a ≤ 0 then none else some { d with done := d.done + 1, allowed := some (a - 1) }) = some d' := h
      rw [if_neg h0] at h
      cases h
      exact ⟨rfl, rfl, rfl, rfl⟩
def spAfter (K : Frag) : Sp := fun vs H Q _ => ∃ (a b : Addr) (l : List Int) (ss : List (Option Int)), vs = [.ref a, .ref b] ∧ SqL K H a (l.map V.int) ∧ SqL K H b (ss.map optV) ∧ l.length + ss.length ≤ 1000000 ∧
  ∀ (p : Addr) (H' : Hp), Same H H' → H p = none → H' p = some (.lst ((afterL l ss).map V.int)) → Q (.ref p) H'
theorem ok_log_after (T : Txt K mg) : FnOk P w K mg base CX0 1 T.f_log_after T.fd_log_after ["log", "log_steps"] (spAfter K) := by
  refine T.F_log_after.ok sc_log_after (fun vs H Q E h => ?_) (fun cdv A outer s H vs Q E hr h => ?_)
  · obtain ⟨_, _, _, _, rfl, _⟩ := h
    rfl
  obtain ⟨a, b, l, ss, rfl, hA, hB, hl, q⟩ := h
  refine ⟨_, (pss_cons (ps_set (i := 2) sc_log_after.nd rfl (by first | exact Or.inl rfl | exact Or.inr rfl) (pe_callTy call_list_of (by rfl) T.z_list (by decide +kernel) (pa_cons (pv 0) pa_nil)))
      (pss_cons (ps_for PassesOwn.never rfl (pi_list (pv 1)) (pg_name (i := 3) sc_log_after.nd rfl (by first | exact Or.inl rfl | exact Or.inr rfl))
        (pss_one (ps_if (pt_cmpR op_isN (pv 3) pe_non (nomark _))
          (pss_one (ps_set (i := 2) sc_log_after.nd rfl (by first | exact Or.inl rfl | exact Or.inr rfl) (pe_lst pa_nil)))
          (pss_one (ps_expr (pe_bm PySem.F.plainAttrs_list PySem.F.slot_list_append PySem.F.type_list_append mt_append (pv 2) (pa_cons (pv 3) pa_nil)))))))
      (pss_one (ps_ret (pv 2))))), ?_⟩
  (try dsimp only [cxOf])
  rw [show start ["log", "log_steps", "after", "step"] [.ref a, .ref b] = [some (.ref a), some (.ref b), none, none] from rfl]
  refine q_setg ?_
  refine ⟨_, rfl, a, _, rfl, .inl hA, fun p hp => ?_⟩
  walk_at "nrm"
  have s1 : Same H (upd H p (.lst (l.map V.int))) := same_upd hp
  refine ⟨_, rfl, b, rfl, ⟨_, s1.seq hB⟩, for_list (K := K) (a := b) (xs := ss.map optV) (fun i σ' H' => ∃ (p : Addr) (c : Option V), σ' = [some (.ref a), some (.ref b), some (.ref p), c] ∧ Same H H' ∧ H p = none ∧ H' p = some (.lst ((afterL l (ss.take i)).map V.int)))
    ⟨p, none, rfl, s1, hp, upd_same⟩ (fun i σ' H' _ ⟨_, _, _, s2, _⟩ => s2.seq hB) ?_ ?_⟩
  · rintro i x σ' H' hx ⟨p, c, rfl, s2, np, e⟩
    rw [List.getElem?_map] at hx
    obtain ⟨s, hs, rfl⟩ : ∃ s, ss[i]? = some s ∧ x = optV s := by
      cases e : ss[i]? with
      | none => rw [e] at hx; cases hx
      | some s => rw [e] at hx; exact ⟨s, rfl, (Option.some.inj hx).symm⟩
    have hi := (List.getElem?_eq_some_iff.mp hs).1
    refine ⟨_, rfl, rfl, _, rfl, ?_⟩
    walk_at "nrm"
    rw [take_more hs, afterL_snoc]
    cases s with
    | none =>
      rw [if_pos (show decide (optV none = V.non) = true by decide)]
      refine s_setg ?_
      refine ⟨Nat.zero_le _, fun p2 hp2 => ?_⟩
      exact ⟨p2, _, rfl, s2.trans (same_upd hp2), s2.free hp2, upd_same⟩
    | some z =>
      rw [if_neg (show ¬ decide (optV (some z) = V.non) = true from Bool.false_ne_true)]
      have h1 := afterL_len l (ss.take i)
      rw [List.length_take] at h1
      refine ⟨_, rfl, .inl ⟨rfl, _, SqL.of e⟩, _, rfl, p, _, _, rfl, rfl, e, ?_, p, _, rfl, ?_, np, ?_⟩
      · rw [List.length_map]
        exact Nat.lt_of_le_of_lt (show _ ≤ 1000000 by omega) (by decide)
      · exact fun b o hb => by
          rw [upd_ne (ne_of_none hb np)]
          exact s2 b o hb
      · rw [upd_same]
        show some (HO.lst ((afterL l (ss.take i)).map V.int ++ [V.int z])) = some (HO.lst ((afterL l (ss.take i) ++ [z]).map V.int))
        rw [List.map_append]
        rfl
  · rintro σ' H' ⟨p, c, rfl, s2, np, e⟩
    rw [List.length_map, List.take_length] at e
    exact s_ret (val_var rfl) (q p H' s2 np e)
def spLog (C : Addr) : Sp := fun vs H Q _ => ∃ (dev : Addr) (g : DG) (d : DS), vs = [.ref dev] ∧ DevAt C H dev g d ∧ d.log.length + d.steps.length ≤ 1000000 ∧ ∀ (p : Addr) (H' : Hp), Same H H' → H p = none → H' p = some (.lst (d.logNow.map V.int)) → Q (.ref p) H'
theorem ok_Device_log (T : Txt K mg) : FnOk P w K mg base CX0 2 T.f_Device_log T.fd_Device_log ["self"] (spLog T.C_Device) := by
  refine T.F_Device_log.ok sc_Device_log (fun vs H Q E h => ?_) (fun cdv A outer s H vs Q E hr h => ?_)
  · obtain ⟨_, _, _, rfl, _⟩ := h
    rfl
  obtain ⟨dev, g, d, rfl, D, hl, q⟩ := h
  refine ⟨_, (pss_one (ps_ret (pe_call (ok_log_after T) (hr.mono (by decide)) (by rfl) T.g_log_after T.F_log_after.kp T.b_log_after .nil pass0 (pa_cons (pe_fld (pv 0) rfl) (pa_cons (pe_fld (pv 0) rfl) pa_nil))))), ?_⟩
  (try dsimp only [cxOf])
  rw [show start ["self"] [.ref dev] = [some (.ref dev)] from rfl]
  refine ⟨_, rfl, dev, T.C_Device, g.dx, devF g d, _, rfl, D.at_, T.cl_Device, T.n_Device__durable_log, lk_dl, _, rfl, dev, T.C_Device, g.dx, devF g d, _, rfl, D.at_, T.cl_Device, T.n_Device__log_steps, lk_ls, ?_⟩
  exact ⟨g.dl, g.ls, d.log, d.steps, rfl, SqL.of D.dl, SqL.of D.ls, hl, q⟩

def spWrite (C CP : Addr) : Sp := fun vs H Q E => ∃ (dev : Addr) (g : DG) (d : DS) (n : Int) (a : Addr) (xs : List Int), vs = [.ref dev, .int n, .ref a] ∧ DevAt C H dev g d ∧ H a = some (.lst (xs.map V.int)) ∧ xs.length ≤ 1000 ∧ bnd g d ≤ 1000000 ∧ (d.tick = none → E (.ref CP) none H) ∧
  ∀ (d' : DS) (g' : DG) (H' : Hp), d.tick = some d' → DevAt C H' dev g' (d'.write n xs) → Fr dev g H g' H' → bnd g' (d'.write n xs) ≤ bnd g d + 1 → Q .non H'
theorem ok_Device_write_page (T : Txt K mg) : FnOk P w K mg base (L2N.CX P w) 3 T.f_Device_write_page T.fd_Device_write_page ["self", "number", "data"] (spWrite T.C_Device T.C_PowerCut) := by
  refine T.F_Device_write_page.okN sc_Device_write_page (fun vs H Q E h => ?_) (fun cdv A outer s H vs Q E hr h => ?_)
  · obtain ⟨_, _, _, _, _, _, rfl, _⟩ := h
    rfl
  obtain ⟨dev, g, d, n, a, xs, rfl, D, hA, hx, hb, kN, kS⟩ := h
  refine ⟨_, (pss_cons (ps_expr (pe_meth0 (pv 0) T.cl_Device T.m_Device_take_step (ok_Device_take_step T) (hr.mono (by decide)) T.b_Device_take_step .nil (L2N.passes_call (L2N.takes_of rfl rfl rfl rfl) (fun _ _ _ _ z => z))))
      (pss_one (ps_expr (pe_bm PySem.F.plainAttrs_list PySem.F.slot_list_append PySem.F.type_list_append mt_append (pe_fld (pv 0) rfl) (pa_cons (pe_tup (pa_cons (pv 1) (pa_cons (pe_callTy call_list_of (by rfl) T.z_list (by decide +kernel) (pa_cons (pv 2) pa_nil)) pa_nil))) pa_nil))))), ?_⟩
  (try dsimp only [cxOf])
  rw [show start ["self", "number", "data"] [.ref dev, .int n, .ref a] = [some (.ref dev), some (.int n), some (.ref a)] from rfl]
  refine ⟨_, rfl, dev, g.dx, devF g d, rfl, D.at_, lk_no (by decide +kernel), dev, g, d, rfl, D, kN, fun d' H1 ed D1 fr => ?_⟩
  obtain ⟨e1, e2, e3, e4⟩ := tick_same ed
  have hA1 : H1 a = some (.lst (xs.map V.int)) := by rw [fr a (ne_of hA D.at_ (fun z => nomatch z))]; exact hA
  refine ⟨_, rfl, dev, T.C_Device, g.dx, devF g d', _, rfl, D1.at_, T.cl_Device, T.n_Device__page_writes, lk_pw, .inl ⟨rfl, _, SqL.of D1.pw⟩, _, rfl, _, rfl, a, _, rfl, .inl (SqL.of hA1), fun l hl => ⟨by show 2 ≤ sizeLine; decide, fun t ht => ?_⟩⟩
  have D2 := D1.ext (o := .lst (xs.map V.int)) hl
  have D3 := D2.ext (o := .tup [.int n, .ref l]) ht
  have F3 : upd (upd g.F l (.lst (xs.map V.int))) t (.tup [.int n, .ref l]) l = some (.lst (xs.map V.int)) := by
    rw [upd_ne (ne_of_none (upd_same : upd H1 l (.lst (xs.map V.int)) l = _) ht)]
    exact upd_same
  have D4 := D3.wmore (n := n) (xs := xs) (v := .ref t) ⟨t, l, rfl, upd_same, F3, hx⟩
  have hlen : g.vs.length ≤ 1000000 := by
    have := D.wr.len
    unfold bnd at hb
    omega
  refine ⟨g.pw, g.vs, .ref t, rfl, rfl, D3.pw, Nat.lt_of_le_of_lt hlen (by decide), ?_⟩
  refine kS d' _ _ ed D4 ((((Fr_of fr).trans (Fr.ext hl)).trans (Fr.ext ht)).trans Fr.pw) ?_
  show g.kvs.length + (d'.writes ++ [(n, xs)]).length ≤ g.kvs.length + d.writes.length + 1
  rw [List.length_append, e2]
  exact Nat.le_refl _
def spSyncP (C CP : Addr) : Sp := fun vs H Q E => ∃ (dev : Addr) (g : DG) (d : DS), vs = [.ref dev] ∧ DevAt C H dev g d ∧ bnd g d ≤ 1000000 ∧ (d.tick = none → E (.ref CP) none H) ∧
  ∀ (d' : DS) (g' : DG) (H' : Hp), d.tick = some d' → DevAt C H' dev g' d'.syncP → Fr dev g H g' H' → bnd g' d'.syncP ≤ bnd g d → Q .non H'
theorem ok_Device_sync_pages (T : Txt K mg) : FnOk P w K mg base (L2N.CX P w) 3 T.f_Device_sync_pages T.fd_Device_sync_pages ["self"] (spSyncP T.C_Device T.C_PowerCut) := by
  refine T.F_Device_sync_pages.okN sc_Device_sync_pages (fun vs H Q E h => ?_) (fun cdv A outer s H vs Q E hr h => ?_)
  · obtain ⟨_, _, _, rfl, _⟩ := h
    rfl
  obtain ⟨dev, g, d, rfl, D, hb, kN, kS⟩ := h
  refine ⟨_, (pss_cons (ps_expr (pe_meth0 (pv 0) T.cl_Device T.m_Device_take_step (ok_Device_take_step T) (hr.mono (by decide)) T.b_Device_take_step .nil (L2N.passes_call (L2N.takes_of rfl rfl rfl rfl) (fun _ _ _ _ z => z))))
      (pss_cons (ps_for (passes_of rfl) rfl (pi_list (pe_fld (pv 0) rfl)) (pg_tup (by rfl) (pgs_cons (pg_name (i := 1) sc_Device_sync_pages.nd rfl (by first | exact Or.inl rfl | exact Or.inr rfl)) (pgs_cons (pg_name (i := 2) sc_Device_sync_pages.nd rfl (by first | exact Or.inl rfl | exact Or.inr rfl)) pgs_nil)))
        (pss_one (ps_dput (hu_of hr) (pe_fld (pv 0) rfl) (pv 1) (pv 2) rfl)))
      (pss_one (ps_fld (pv 0) (pe_lst pa_nil) rfl)))), ?_⟩
  (try dsimp only [cxOf])
  rw [show start ["self", "number", "data"] [.ref dev] = [some (.ref dev), none, none] from rfl]
  refine ⟨_, rfl, dev, g.dx, devF g d, rfl, D.at_, lk_no (by decide +kernel), dev, g, d, rfl, D, kN, fun d' H1 ed D1 fr => ?_⟩
  obtain ⟨e1, e2, e3, e4⟩ := tick_same ed
  refine ⟨_, rfl, dev, T.C_Device, g.dx, devF g d', _, rfl, D1.at_, T.cl_Device, T.n_Device__page_writes, lk_pw, g.pw, rfl, ⟨_, SqL.of D1.pw⟩, for_list (K := K) (a := g.pw) (xs := g.vs) (fun i σ' H' => ∃ (kvs : List (Key × V)) (c1 c2 : Option V), σ' = [some (.ref dev), c1, c2] ∧ DevAt T.C_Device H' dev { g with kvs := kvs } { d' with pages := putAll d'.pages (d'.writes.take i) } ∧ Fr dev g H { g with kvs := kvs } H' ∧ kvs.length ≤ g.kvs.length + i)
    ⟨g.kvs, none, none, rfl, D1, Fr_of fr, Nat.le_refl _⟩ (fun i σ' H' _ ⟨_, _, _, _, D2, _, _⟩ => SqL.of D2.pw) ?_ ?_⟩
  · rintro i v σ' H' hv ⟨kvs, c1, c2, rfl, D2, f2, hk⟩
    have hi := (List.getElem?_eq_some_iff.mp hv).1
    have hl := D1.wr.len
    have hw : d'.writes[i]? = some (d'.writes[i]'(by omega)) := List.getElem?_eq_getElem (by omega)
    generalize d'.writes[i]'(by omega) = ww at hw
    obtain ⟨t, p, rfl, et, ep, hp⟩ := D2.wr.each i v ww hv hw
    refine ⟨t, _, rfl, SqT.of (D2.sm _ _ et), rfl, _, _, rfl, _, _, rfl, rfl, ?_⟩
    refine ⟨_, rfl, _, rfl, dev, T.C_Device, g.dx, devF _ _, _, rfl, D2.at_, T.cl_Device, T.n_Device__durable_pages, lk_dp, _, rfl, g.dp, _, rfl, DPut.k (k := .inl ww.1) D2.dp ?_, ?_⟩
    · unfold bnd at hb
      rw [e2] at hl
      exact Nat.lt_of_le_of_lt (show _ ≤ 1000000 by show kvs.length ≤ _; omega) (by decide)
    · refine ⟨putK kvs (.inl ww.1) (.ref p), _, _, rfl, ?_, f2.trans Fr.dp, ?_⟩
      · have D3 := D2.put (n := ww.1) ep hp
        rw [take_more hw, putAll_snoc]
        exact D3
      · have := putK_le kvs (.inl ww.1) (.ref p)
        exact Nat.le_trans this (by omega)
  · rintro σ' H' ⟨kvs, c1, c2, rfl, D2, f2, hk⟩
    have hl := D1.wr.len
    rw [hl, List.take_length] at D2
    refine ⟨Nat.zero_le _, fun p hp => ?_⟩
    have s3 := same_upd (o := .lst []) hp
    refine ⟨_, rfl, dev, T.C_Device, g.dx, devF _ _, rfl, s3 _ _ D2.at_, T.cl_Device, T.n_Device__page_writes, (by show 6 < 1000; decide), ?_⟩
    rw [put_pw]
    refine kS d' _ _ ed (D2.noW hp) (f2.trans (Fr.noW hp)) ?_
    show kvs.length + 0 ≤ g.kvs.length + d.writes.length
    rw [hl, e2] at hk
    omega
def spAppend (C CP : Addr) : Sp := fun vs H Q E => ∃ (dev : Addr) (g : DG) (d : DS) (a : Addr) (xs : List Int), vs = [.ref dev, .ref a] ∧ DevAt C H dev g d ∧ H a = some (.lst (xs.map V.int)) ∧ ¬ own dev g a ∧ d.steps.length + xs.length ≤ 1000000 ∧
  ((d.appendAll xs).2 = false → ∀ H', DevAt C H' dev g (d.appendAll xs).1 → Fr dev g H g H' → E (.ref CP) none H') ∧
  ((d.appendAll xs).2 = true → ∀ H', DevAt C H' dev g (d.appendAll xs).1 → Fr dev g H g H' → Q .non H')
theorem appendAll_none {d : DS} {b : Int} {r : List Int} (h : d.tick = none) : d.appendAll (b :: r) = (d, false) := by
  rw [DS.appendAll, h]
theorem appendAll_some {d e : DS} {b : Int} {r : List Int} (h : d.tick = some e) : d.appendAll (b :: r) = (e.add (some b)).appendAll r := by
  rw [DS.appendAll, h]
theorem ok_Device_append (T : Txt K mg) : FnOk P w K mg base (L2N.CX P w) 3 T.f_Device_append T.fd_Device_append ["self", "data"] (spAppend T.C_Device T.C_PowerCut) := by
  refine T.F_Device_append.okN sc_Device_append (fun vs H Q E h => ?_) (fun cdv A outer s H vs Q E hr h => ?_)
  · obtain ⟨_, _, _, _, _, rfl, _⟩ := h
    rfl
  obtain ⟨dev, g, d, a, xs, rfl, D, hA, na, hx, kN, kS⟩ := h
  refine ⟨_, (pss_one (ps_for (passes_of rfl) rfl (pi_list (pv 1)) (pg_name (i := 2) sc_Device_append.nd rfl (by first | exact Or.inl rfl | exact Or.inr rfl))
        (pss_cons (ps_expr (pe_meth0 (pv 0) T.cl_Device T.m_Device_take_step (ok_Device_take_step T) (hr.mono (by decide)) T.b_Device_take_step .nil (L2N.passes_call (L2N.takes_of rfl rfl rfl rfl) (fun _ _ _ _ z => z))))
        (pss_one (ps_expr (pe_bm PySem.F.plainAttrs_list PySem.F.slot_list_append PySem.F.type_list_append mt_append (pe_fld (pv 0) rfl) (pa_cons (pv 2) pa_nil))))))), ?_⟩
  (try dsimp only [cxOf])
  rw [show start ["self", "data", "byte"] [.ref dev, .ref a] = [some (.ref dev), some (.ref a), none] from rfl]
  refine ⟨_, rfl, a, rfl, ⟨_, SqL.of hA⟩, for_list (K := K) (a := a) (xs := xs.map V.int) (fun i σ' H' => ∃ (d1 : DS) (c : Option V), σ' = [some (.ref dev), some (.ref a), c] ∧ DevAt T.C_Device H' dev g d1 ∧ Fr dev g H g H' ∧ d1.appendAll (xs.drop i) = d.appendAll xs ∧ d1.steps.length ≤ d.steps.length + i)
    ⟨d, none, rfl, D, Fr.refl _ _ _, rfl, Nat.le_refl _⟩ (fun i σ' H' _ ⟨_, _, _, _, f, _⟩ => SqL.of (f.keep _ _ na hA)) ?_ ?_⟩
  · rintro i v σ' H' hv ⟨d1, c, rfl, D1, f1, eq, hs⟩
    rw [List.getElem?_map] at hv
    obtain ⟨b, hb, rfl⟩ : ∃ b, xs[i]? = some b ∧ v = V.int b := by
      cases e : xs[i]? with
      | none => rw [e] at hv; cases hv
      | some s => rw [e] at hv; exact ⟨s, rfl, (Option.some.inj hv).symm⟩
    have hi := (List.getElem?_eq_some_iff.mp hb).1
    have hd : xs.drop i = b :: xs.drop (i + 1) := by
      rw [List.drop_eq_getElem_cons hi]
      congr 1
      rw [List.getElem?_eq_getElem hi] at hb
      exact Option.some.inj hb
    rw [hd] at eq
    refine ⟨_, rfl, dev, g.dx, devF g d1, rfl, D1.at_, lk_no (by decide +kernel), dev, g, d1, rfl, D1, fun e => ?_, fun d2 H2 ed D2 fr => ?_⟩
    · rw [appendAll_none e] at eq
      exact kN (by rw [← eq]) H' (by rw [← eq]; exact D1) f1
    · obtain ⟨e1, e2, e3, e4⟩ := tick_same ed
      rw [appendAll_some ed] at eq
      refine ⟨_, rfl, dev, T.C_Device, g.dx, devF g d2, _, rfl, D2.at_, T.cl_Device, T.n_Device__log_steps, lk_ls, .inl ⟨rfl, _, SqL.of D2.ls⟩, _, rfl, g.ls, _, _, rfl, rfl, D2.ls, ?_, ?_⟩
      · rw [List.length_map, e4]
        exact Nat.lt_of_le_of_lt (show _ ≤ 1000000 by omega) (by decide)
      · refine ⟨_, _, rfl, D2.step (some b), (f1.trans (Fr_of fr)).trans Fr.ls, eq, ?_⟩
        show (d2.steps ++ [some b]).length ≤ _
        rw [List.length_append, e4]
        show d1.steps.length + 1 ≤ _
        omega
  · rintro σ' H' ⟨d1, c, rfl, D1, f1, eq, hs⟩
    rw [List.length_map, List.drop_length] at eq
    have eq : (d1, true) = d.appendAll xs := eq
    exact kS (by rw [← eq]) H' (by rw [← eq]; exact D1) f1
def spClear (C CP : Addr) : Sp := fun vs H Q E => ∃ (dev : Addr) (g : DG) (d : DS), vs = [.ref dev] ∧ DevAt C H dev g d ∧ d.steps.length ≤ 1000000 ∧ (d.tick = none → E (.ref CP) none H) ∧
  ∀ (d' : DS) (H' : Hp), d.tick = some d' → DevAt C H' dev g (d'.add none) → Fr dev g H g H' → Q .non H'
theorem ok_Device_clear (T : Txt K mg) : FnOk P w K mg base (L2N.CX P w) 3 T.f_Device_clear T.fd_Device_clear ["self"] (spClear T.C_Device T.C_PowerCut) := by
  refine T.F_Device_clear.okN sc_Device_clear (fun vs H Q E h => ?_) (fun cdv A outer s H vs Q E hr h => ?_)
  · obtain ⟨_, _, _, rfl, _⟩ := h
    rfl
  obtain ⟨dev, g, d, rfl, D, hb, kN, kS⟩ := h
  refine ⟨_, (pss_cons (ps_expr (pe_meth0 (pv 0) T.cl_Device T.m_Device_take_step (ok_Device_take_step T) (hr.mono (by decide)) T.b_Device_take_step .nil (L2N.passes_call (L2N.takes_of rfl rfl rfl rfl) (fun _ _ _ _ z => z))))
      (pss_one (ps_expr (pe_bm PySem.F.plainAttrs_list PySem.F.slot_list_append PySem.F.type_list_append mt_append (pe_fld (pv 0) rfl) (pa_cons pe_non pa_nil))))), ?_⟩
  (try dsimp only [cxOf])
  rw [show start ["self"] [.ref dev] = [some (.ref dev)] from rfl]
  refine ⟨_, rfl, dev, g.dx, devF g d, rfl, D.at_, lk_no (by decide +kernel), dev, g, d, rfl, D, kN, fun d' H1 ed D1 fr => ?_⟩
  obtain ⟨e1, e2, e3, e4⟩ := tick_same ed
  refine ⟨_, rfl, dev, T.C_Device, g.dx, devF g d', _, rfl, D1.at_, T.cl_Device, T.n_Device__log_steps, lk_ls, .inl ⟨rfl, _, SqL.of D1.ls⟩, g.ls, _, _, rfl, rfl, D1.ls, ?_, ?_⟩
  · rw [List.length_map, e4]
    exact Nat.lt_of_le_of_lt hb (by decide)
  · exact kS d' _ ed (D1.step none) ((Fr_of fr).trans Fr.ls)
def spEndL (C : Addr) : Sp := fun vs H Q _ => ∃ (dev : Addr) (g : DG) (d : DS) (a : Addr) (ss : List (Option Int)), vs = [.ref dev, .ref a] ∧ DevAt C H dev g d ∧ H a = some (.lst (ss.map optV)) ∧ d.log.length + ss.length ≤ 1000000 ∧
  ∀ (g' : DG) (H' : Hp), DevAt C H' dev g' { d with log := afterL d.log ss, steps := [] } → Fr dev g H g' H' → g'.kvs = g.kvs → Q .non H'
theorem ok_Device_end_log_steps (T : Txt K mg) : FnOk P w K mg base CX0 2 T.f_Device_end_log_steps T.fd_Device_end_log_steps ["self", "log_steps"] (spEndL T.C_Device) := by
  refine T.F_Device_end_log_steps.ok sc_Device_end_log_steps (fun vs H Q E h => ?_) (fun cdv A outer s H vs Q E hr h => ?_)
  · obtain ⟨_, _, _, _, _, rfl, _⟩ := h
    rfl
  obtain ⟨dev, g, d, a, ss, rfl, D, hA, hb, q⟩ := h
  refine ⟨_, (pss_cons (ps_if (pt_cmpR op_in_seq pe_non (pv 1) (by rfl))
        (pss_one (ps_fld (pv 0) (pe_call (ok_log_after T) (hr.mono (by decide)) (by rfl) T.g_log_after T.F_log_after.kp T.b_log_after .nil pass0 (pa_cons (pe_fld (pv 0) rfl) (pa_cons (pv 1) pa_nil))) rfl))
        (pss_one (ps_expr (pe_bm PySem.F.plainAttrs_list PySem.F.slot_list_extend PySem.F.type_list_extend mt_extend (pe_fld (pv 0) rfl) (pa_cons (pv 1) pa_nil)))))
      (pss_one (ps_fld (pv 0) (pe_lst pa_nil) rfl))), ?_⟩
  (try dsimp only [cxOf])
  rw [show start ["self", "log_steps"] [.ref dev, .ref a] = [some (.ref dev), some (.ref a)] from rfl]
  have flat : (ss.map optV).all flatV = true := by
    rw [List.all_eq_true]
    intro y hy
    obtain ⟨s, _, rfl⟩ := List.mem_map.mp hy
    cases s <;> rfl
  refine ⟨_, rfl, a, _, rfl, .inl (SqL.of hA), rfl, flat, _, rfl, ?_⟩
  walk_at "nrm"
  by_cases hn : inV .non (ss.map optV) = true
  · rw [if_pos (show (if false = true then !inV .non (ss.map optV) else inV .non (ss.map optV)) = true from hn)]
    refine ⟨_, rfl, dev, T.C_Device, g.dx, devF g d, _, rfl, D.at_, T.cl_Device, T.n_Device__durable_log, lk_dl, _, rfl, ?_⟩
    refine ⟨g.dl, a, d.log, ss, rfl, SqL.of D.dl, SqL.of hA, hb, fun p H2 s2 np ep => ?_⟩
    have D2 := D.newL s2 np ep
    refine ⟨_, rfl, dev, T.C_Device, g.dx, devF _ _, rfl, s2 _ _ D.at_, T.cl_Device, T.n_Device__durable_log, (by show 6 < 1000; decide), ?_⟩
    rw [put_dl]
    refine ⟨Nat.zero_le _, fun l hl => ?_⟩
    have s4 := same_upd (o := .lst []) hl
    refine ⟨_, rfl, dev, T.C_Device, g.dx, devF _ _, rfl, s4 _ _ D2.at_, T.cl_Device, T.n_Device__log_steps, (by show 6 < 1000; decide), ?_⟩
    rw [put_ls]
    exact q _ _ (D2.noL hl) ((Fr.newL s2 np).trans (Fr.noL hl)) rfl
  · rw [if_neg (show ¬ (if false = true then !inV .non (ss.map optV) else inV .non (ss.map optV)) = true from hn)]
    have hx := afterL_bytes d.log ss (by simpa [inV] using hn)
    refine ⟨_, rfl, dev, T.C_Device, g.dx, devF g d, _, rfl, D.at_, T.cl_Device, T.n_Device__durable_log, lk_dl, .inl ⟨rfl, _, SqL.of D.dl⟩, _, rfl, g.dl, a, _, _, rfl, rfl, D.dl, hA, ?_, ?_⟩
    · rw [List.length_map, List.length_map]
      exact Nat.le_trans hb (by decide)
    rw [← hx]
    have D2 := D.extL (xs := afterL d.log ss)
    refine ⟨Nat.zero_le _, fun l hl => ?_⟩
    have s4 := same_upd (o := .lst []) hl
    refine ⟨_, rfl, dev, T.C_Device, g.dx, devF _ _, rfl, s4 _ _ D2.at_, T.cl_Device, T.n_Device__log_steps, (by show 6 < 1000; decide), ?_⟩
    rw [put_ls]
    exact q _ _ (D2.noL hl) (Fr.dl.trans (Fr.noL hl)) rfl
def spSyncL (C CP : Addr) : Sp := fun vs H Q E => ∃ (dev : Addr) (g : DG) (d : DS), vs = [.ref dev] ∧ DevAt C H dev g d ∧ d.log.length + d.steps.length ≤ 1000000 ∧ (d.tick = none → E (.ref CP) none H) ∧
  ∀ (d' : DS) (g' : DG) (H' : Hp), d.tick = some d' → DevAt C H' dev g' d'.syncL → Fr dev g H g' H' → g'.kvs = g.kvs → Q .non H'
theorem ok_Device_sync_log (T : Txt K mg) : FnOk P w K mg base (L2N.CX P w) 3 T.f_Device_sync_log T.fd_Device_sync_log ["self"] (spSyncL T.C_Device T.C_PowerCut) := by
  refine T.F_Device_sync_log.okN sc_Device_sync_log (fun vs H Q E h => ?_) (fun cdv A outer s H vs Q E hr h => ?_)
  · obtain ⟨_, _, _, rfl, _⟩ := h
    rfl
  obtain ⟨dev, g, d, rfl, D, hb, kN, kS⟩ := h
  refine ⟨_, (pss_cons (ps_expr (pe_meth0 (pv 0) T.cl_Device T.m_Device_take_step (ok_Device_take_step T) (hr.mono (by decide)) T.b_Device_take_step .nil (L2N.passes_call (L2N.takes_of rfl rfl rfl rfl) (fun _ _ _ _ z => z))))
      (pss_one (ps_expr (pe_meth (pv 0) T.cl_Device T.m_Device_end_log_steps (ok_Device_end_log_steps T) (hr.mono (by decide)) T.b_Device_end_log_steps .nil pass0 (pa_cons (pe_fld (pv 0) rfl) pa_nil))))), ?_⟩
  (try dsimp only [cxOf])
  rw [show start ["self"] [.ref dev] = [some (.ref dev)] from rfl]
  refine ⟨_, rfl, dev, g.dx, devF g d, rfl, D.at_, lk_no (by decide +kernel), dev, g, d, rfl, D, kN, fun d' H1 ed D1 fr => ?_⟩
  obtain ⟨e1, e2, e3, e4⟩ := tick_same ed
  refine ⟨_, rfl, dev, g.dx, devF g d', rfl, D1.at_, lk_no (by decide +kernel), _, rfl, dev, T.C_Device, g.dx, devF g d', _, rfl, D1.at_, T.cl_Device, T.n_Device__log_steps, lk_ls, ?_⟩
  exact ⟨dev, g, d', g.ls, d'.steps, rfl, D1, D1.ls, (by rw [e3, e4]; exact hb), fun g' H' D2 f2 ek => kS d' g' H' ed D2 ((Fr_of fr).trans f2) ek⟩

end
end K06


namespace K06
open PySem L2 Nv RZ
local macro_rules | `(tactic| walk_at "hp") => `(tactic| first
  | assumption
  | exact upd_same
  | exact (upd_ne (by assumption)).trans (by first | assumption | exact upd_same | exact (upd_ne (by assumption)).trans (by first | assumption | exact upd_same))
  | exact (upd_ne (Ne.symm (by assumption))).trans (by first | assumption | exact upd_same))
local macro_rules | `(tactic| walk_at "cond") => `(tactic| first
  | (change (0 : Int) < _; first | decide | omega)
  | exact Or.inr ⟨by decide, by decide⟩
  | exact Or.inl ⟨by decide, by decide⟩
  | exact Or.inr ⟨by omega, by omega⟩
  | exact Or.inl ⟨by omega, by omega⟩
  | exact ⟨by decide, by decide, by decide⟩
  | exact wide_div (by first | decide | omega) (show _ < 2 ^ 64 by first | decide | omega) (by decide) (by decide)
  | (change (0 : Int) ≤ _; first | decide | omega)
  | exact ⟨by decide, by decide⟩
  | exact ⟨by omega, by omega⟩)
local macro_rules | `(tactic| walk_at "val") => `(tactic| first
  | (with_reducible exact val_c)
  | ((with_reducible apply val_var); exact rfl)
  | ((with_reducible apply val_I0); walk_at "val"; walk_at "val")
  | ((with_reducible apply val_I); walk_at "val"; walk_at "val"; walk_at "cond")
  | ((with_reducible apply val_ixL); walk_at "val"; walk_at "val"; (first | exact SqL.of (by walk_at "hp") | assumption); exact rfl)
  | ((with_reducible apply val_len); walk_at "val"; first | exact Or.inl (SqL.of (by walk_at "hp")) | exact Or.inl (by assumption) | exact Or.inr (by assumption) | exact Or.inr (SqT.of (by walk_at "hp")))
  | ((with_reducible apply val_int1); walk_at "val")
  | ((with_reducible apply val_abs); walk_at "val")
  | ((with_reducible apply val_max2); walk_at "val"; walk_at "val")
  | ((with_reducible apply val_eq); walk_at "val"; walk_at "val"; exact rfl)
  | ((with_reducible apply val_ne); walk_at "val"; walk_at "val"; exact rfl)
  | ((with_reducible apply val_not); walk_at "val")
  | ((with_reducible apply val_U); walk_at "val"))
local macro_rules | `(tactic| walk_at "ans") => `(tactic| first
  | ((with_reducible apply ans_Eq); walk_at "val"; walk_at "val"; exact rfl)
  | ((with_reducible apply ans_Ne); walk_at "val"; walk_at "val"; exact rfl)
  | ((with_reducible apply ans_I0); walk_at "val"; walk_at "val"; exact rfl)
  | ((with_reducible refine ans_And ?_ (fun _ => ?_)); walk_at "ans"; walk_at "ans")
  | ((with_reducible refine ans_or2 ?_ (fun _ => ?_)); walk_at "ans"; walk_at "ans")
  | ((with_reducible refine ans_not ?_); walk_at "ans")
  | ((with_reducible apply ans_val); walk_at "val"))
local macro_rules | `(tactic| walk_at "nrm") => `(tactic| (try dsimp only [List.set_cons_zero, List.set_cons_succ]))
local macro_rules | `(tactic| walk_at "set") => `(tactic| first
  | ((with_reducible apply q_set); walk_at "val"; walk_at "nrm")
  | ((with_reducible apply s_set); walk_at "val"; walk_at "nrm"))
local macro_rules | `(tactic| walk_at "setL") => `(tactic| first
  | ((with_reducible apply q_setL); walk_at "val"; walk_at "val"; walk_at "val"; walk_at "hp"; exact rfl; walk_at "nrm")
  | ((with_reducible apply s_setL); walk_at "val"; walk_at "val"; walk_at "val"; walk_at "hp"; exact rfl; walk_at "nrm"))
local macro_rules | `(tactic| walk_at "ff") => `(tactic| (walk_at "nrm"; rw [if_neg (by decide)]; (try ((with_reducible refine st_next ?_); walk_at "nrm"))))
local macro_rules | `(tactic| walk_at "nok") => `(tactic| (refine ⟨_, rfl, rfl, _, rfl, ?_⟩; walk_at "nrm"; rw [if_neg (by decide)]))
local macro_rules | `(tactic| walk_at "yesk") => `(tactic| (refine ⟨_, rfl, rfl, _, rfl, ?_⟩; walk_at "nrm"; rw [if_pos (by decide)]))
local macro_rules | `(tactic| walk_at "no") => `(tactic| (walk_at "nrm"; rw [if_neg (by decide)]; walk_at "nrm"))
local macro_rules | `(tactic| walk_at "yes") => `(tactic| (walk_at "nrm"; rw [if_pos (by decide)]; walk_at "nrm"))
local macro_rules | `(tactic| walk_at "nos") => `(tactic| (walk_at "nrm"; repeat (rw [if_neg (by decide)]; walk_at "nrm"); (try ((with_reducible refine st_next ?_); walk_at "nrm"))))

section
variable {P : Program} {w : World} {K : PySem.W.Frag} {mg : Str → Option Value} {base : Heap}
def spDur (C : Addr) : Sp := fun vs H Q _ => ∃ (dev : Addr) (g : DG) (d : DS) (n : Int), vs = [.ref dev, .int n] ∧ DevAt C H dev g d ∧ ∀ (p : Addr) (H' : Hp), Same H H' → H p = none → H' p = some (.lst ((getP d.pages n).map V.int)) → Q (.ref p) H'
theorem zeros_rep : (List.replicate (256 : Int).toNat [V.int 0]).flatten = zeros.map V.int := by
  unfold zeros
  rw [List.map_replicate]
  decide +kernel
theorem ok_Device_durable_page (T : Txt K mg) : FnOk P w K mg base CX0 1 T.f_Device_durable_page T.fd_Device_durable_page ["self", "number"] (spDur T.C_Device) := by
  refine T.F_Device_durable_page.ok sc_Device_durable_page (fun vs H Q E h => ?_) (fun cdv A outer s H vs Q E hr h => ?_)
  · obtain ⟨_, _, _, _, rfl, _⟩ := h
    rfl
  obtain ⟨dev, g, d, n, rfl, D, q⟩ := h
  refine ⟨_, (pss_cons (ps_if (pt_cmp (pc_din (hu_of hr) (pv 1) (pe_fld (pv 0) rfl)))
        (pss_one (ps_ret (pe_callTy call_list_of (by rfl) T.z_list (by decide +kernel) (pa_cons (pe_dget (hu_of hr) (pe_fld (pv 0) rfl) (pv 1) (fun _ _ => rfl)) pa_nil))))
        pss_nil)
      (pss_one (ps_ret (pe_op op_rep (pe_lst (pa_cons pe_int pa_nil)) (pe_glob (v := .int 256) (by rfl) T.g_PAGE_SIZE ⟨_, rfl⟩))))), ?_⟩
  (try dsimp only [cxOf])
  rw [show start ["self", "number"] [.ref dev, .int n] = [some (.ref dev), some (.int n)] from rfl]
  refine ⟨_, rfl, _, rfl, dev, T.C_Device, g.dx, devF g d, _, rfl, D.at_, T.cl_Device, T.n_Device__durable_pages, lk_dp, g.dp, valV g.kvs (.inl n), rfl, DGet.k (k := .inl n) D.dp, _, rfl, ?_⟩
  walk_at "nrm"
  rcases D.pg n with ⟨e1, e2⟩ | ⟨p, xs, e1, e2, e3, e4⟩
  · rw [e2, if_neg (show ¬ (none : Option V).isSome = true from Bool.false_ne_true)]
    refine ⟨by show 1 ≤ sizeLine; decide, fun l hl => ?_⟩
    refine ⟨l, 256, [.int 0], rfl, rfl, upd_same, by decide, by decide, by show 256 ≤ sizeLine; decide, fun p hp => ?_⟩
    refine q p _ ((same_upd hl).trans (same_upd hp)) ((same_upd hl).free hp) ?_
    rw [upd_same, zeros_rep]
    unfold getP
    rw [e1]
    rfl
  · rw [e2, if_pos (show (some (V.ref p)).isSome = true from rfl)]
    refine ⟨_, rfl, dev, T.C_Device, g.dx, devF g d, _, rfl, D.at_, T.cl_Device, T.n_Device__durable_pages, lk_dp, _, rfl, g.dp, .ref p, rfl, by rw [← e2]; exact DGet.k (k := .inl n) D.dp, p, _, rfl, .inl (SqL.of (D.sm _ _ e3)), fun l hl => ?_⟩
    refine q l _ (same_upd hl) hl ?_
    unfold getP
    rw [upd_same, e1]
    rfl
def spPage (C : Addr) : Sp := fun vs H Q _ => ∃ (dev : Addr) (g : DG) (d : DS) (n : Int), vs = [.ref dev, .int n] ∧ DevAt C H dev g d ∧ ∀ (p : Addr) (H' : Hp), Same H H' → H p = none → H' p = some (.lst ((d.page n).map V.int)) → Q (.ref p) H'
theorem ok_Device_page (T : Txt K mg) : FnOk P w K mg base CX0 2 T.f_Device_page T.fd_Device_page ["self", "number"] (spPage T.C_Device) := by
  refine T.F_Device_page.ok sc_Device_page (fun vs H Q E h => ?_) (fun cdv A outer s H vs Q E hr h => ?_)
  · obtain ⟨_, _, _, _, rfl, _⟩ := h
    rfl
  obtain ⟨dev, g, d, n, rfl, D, q⟩ := h
  refine ⟨_, (pss_cons (ps_for PassesOwn.never rfl (pi_reversed (by rfl) T.z_reversed (pa_cons (pe_fld (pv 0) rfl) pa_nil)) (pg_tup (by rfl) (pgs_cons (pg_name (i := 2) sc_Device_page.nd rfl (by first | exact Or.inl rfl | exact Or.inr rfl)) (pgs_cons (pg_name (i := 3) sc_Device_page.nd rfl (by first | exact Or.inl rfl | exact Or.inr rfl)) pgs_nil)))
        (pss_one (ps_if (pt_cmpR op_eq (pv 2) (pv 1) (nomark _))
          (pss_one (ps_ret (pe_callTy call_list_of (by rfl) T.z_list (by decide +kernel) (pa_cons (pv 3) pa_nil))))
          pss_nil)))
      (pss_one (ps_ret (pe_meth (pv 0) T.cl_Device T.m_Device_durable_page (ok_Device_durable_page T) (hr.mono (by decide)) T.b_Device_durable_page .nil pass0 (pa_cons (pv 1) pa_nil))))), ?_⟩
  (try dsimp only [cxOf])
  rw [show start ["self", "number", "written", "data"] [.ref dev, .int n] = [some (.ref dev), some (.int n), none, none] from rfl]
  have hl := D.wr.len
  refine ⟨_, rfl, dev, T.C_Device, g.dx, devF g d, _, rfl, D.at_, T.cl_Device, T.n_Device__page_writes, lk_pw, g.pw, g.vs, rfl, SqL.of D.pw, RT.for_Itv (K := K) (a := g.pw) (xs := g.vs) (fun i σ' H' => (∃ c1 c2 : Option V, σ' = [some (.ref dev), some (.int n), c1, c2]) ∧ H' = H ∧ lastW (d.writes.take (g.vs.length - i)) n (d.pages n) = lastW d.writes n (d.pages n))
    ⟨⟨none, none, rfl⟩, rfl, by rw [hl, Nat.sub_zero, List.take_length]⟩ (fun i σ' H' ⟨_, e, _⟩ => by rw [e]; exact SqL.of D.pw) ?_ ?_⟩
  · rintro i v σ' H' hi hv ⟨⟨c1, c2, rfl⟩, rfl, eq⟩
    have hw : d.writes[g.vs.length - 1 - i]? = some (d.writes[g.vs.length - 1 - i]'(by omega)) := List.getElem?_eq_getElem (by omega)
    generalize d.writes[g.vs.length - 1 - i]'(by omega) = ww at hw
    obtain ⟨t, p, rfl, et, ep, hp⟩ := D.wr.each _ _ ww hv hw
    rw [show g.vs.length - i = g.vs.length - 1 - i + 1 by omega, take_more hw, lastW_snoc] at eq
    refine ⟨t, _, rfl, SqT.of (D.sm _ _ et), rfl, _, _, rfl, _, _, rfl, rfl, ?_⟩
    refine ⟨_, rfl, _, rfl, rfl, _, rfl, ?_⟩
    walk_at "nrm"
    by_cases hn : ww.1 = n
    · rw [if_pos (show decide (V.int ww.1 = V.int n) = true from decide_eq_true (congrArg V.int hn))]
      refine ⟨_, rfl, p, _, rfl, .inl (SqL.of (D.sm _ _ ep)), fun l hl' => q l _ (same_upd hl') hl' ?_⟩
      rw [if_pos hn] at eq
      unfold DS.page
      rw [upd_same, ← eq]
      rfl
    · rw [if_neg (show ¬ decide (V.int ww.1 = V.int n) = true from fun z => hn (V.int.inj (of_decide_eq_true z)))]
      rw [if_neg hn] at eq
      exact ⟨⟨_, _, rfl⟩, rfl, by rw [show g.vs.length - (i + 1) = g.vs.length - 1 - i by omega]; exact eq⟩
  · rintro σ' H' ⟨⟨c1, c2, rfl⟩, rfl, eq⟩
    rw [Nat.sub_self] at eq
    refine ⟨_, rfl, dev, g.dx, devF g d, rfl, D.at_, lk_no (by decide +kernel), _, rfl, dev, g, d, n, rfl, D, fun p H2 s2 np ep => q p H2 s2 np ?_⟩
    rw [ep]
    unfold DS.page getP
    rw [← eq]
    rfl
def spLimit (C : Addr) : Sp := fun vs H Q _ => ∃ (dev : Addr) (g : DG) (d : DS) (a : Option Int), vs = [.ref dev, optV a] ∧ DevAt C H dev g d ∧ ∀ H' : Hp, DevAt C H' dev g { d with allowed := a } → (∀ b, b ≠ dev → H' b = H b) → Q .non H'
theorem ok_Device_limit (T : Txt K mg) : FnOk P w K mg base CX0 1 T.f_Device_limit T.fd_Device_limit ["self", "steps"] (spLimit T.C_Device) := by
  refine T.F_Device_limit.ok sc_Device_limit (fun vs H Q E h => ?_) (fun cdv A outer s H vs Q E hr h => ?_)
  · obtain ⟨_, _, _, _, rfl, _⟩ := h
    rfl
  obtain ⟨dev, g, d, a, rfl, D, q⟩ := h
  refine ⟨_, (pss_one (ps_fld (pv 0) (pv 1) rfl)), ?_⟩
  (try dsimp only [cxOf])
  rw [show start ["self", "steps"] [.ref dev, optV a] = [some (.ref dev), some (optV a)] from rfl]
  refine ⟨_, rfl, _, rfl, dev, T.C_Device, g.dx, devF g d, rfl, D.at_, T.cl_Device, T.n_Device__steps_allowed, (by show 6 < 1000; decide), ?_⟩
  rw [put_all]
  exact q _ (D.num rfl rfl rfl rfl) fun b hb => upd_ne hb
def spSteps (C : Addr) : Sp := fun vs H Q _ => ∃ (dev : Addr) (g : DG) (d : DS), vs = [.ref dev] ∧ DevAt C H dev g d ∧ Q (.int d.done) H
theorem ok_Device_steps (T : Txt K mg) : FnOk P w K mg base CX0 1 T.f_Device_steps T.fd_Device_steps ["self"] (spSteps T.C_Device) := by
  refine T.F_Device_steps.ok sc_Device_steps (fun vs H Q E h => ?_) (fun cdv A outer s H vs Q E hr h => ?_)
  · obtain ⟨_, _, _, rfl, _⟩ := h
    rfl
  obtain ⟨dev, g, d, rfl, D, q⟩ := h
  refine ⟨_, (pss_one (ps_ret (pe_fld (pv 0) rfl))), ?_⟩
  (try dsimp only [cxOf])
  rw [show start ["self"] [.ref dev] = [some (.ref dev)] from rfl]
  exact ⟨_, rfl, dev, T.C_Device, g.dx, devF g d, _, rfl, D.at_, T.cl_Device, T.n_Device__steps_performed, lk_done, q⟩
def spPending (C : Addr) : Sp := fun vs H Q _ => ∃ (dev : Addr) (g : DG) (d : DS), vs = [.ref dev] ∧ DevAt C H dev g d ∧ ∀ p, H p = none → Q (.ref p) (upd H p (.tup [.int d.writes.length, .int d.steps.length]))
theorem ok_Device_pending (T : Txt K mg) : FnOk P w K mg base CX0 1 T.f_Device_pending T.fd_Device_pending ["self"] (spPending T.C_Device) := by
  refine T.F_Device_pending.ok sc_Device_pending (fun vs H Q E h => ?_) (fun cdv A outer s H vs Q E hr h => ?_)
  · obtain ⟨_, _, _, rfl, _⟩ := h
    rfl
  obtain ⟨dev, g, d, rfl, D, q⟩ := h
  refine ⟨_, (pss_one (ps_ret (pe_tup (pa_cons (pe_callB call_len_seq (by rfl) T.z_len (by decide +kernel) (pa_cons (pe_fld (pv 0) rfl) pa_nil)) (pa_cons (pe_callB call_len_seq (by rfl) T.z_len (by decide +kernel) (pa_cons (pe_fld (pv 0) rfl) pa_nil)) pa_nil))))), ?_⟩
  (try dsimp only [cxOf])
  rw [show start ["self"] [.ref dev] = [some (.ref dev)] from rfl]
  refine ⟨_, rfl, dev, T.C_Device, g.dx, devF g d, _, rfl, D.at_, T.cl_Device, T.n_Device__page_writes, lk_pw, g.pw, _, rfl, .inl (SqL.of D.pw), _, rfl, dev, T.C_Device, g.dx, devF g d, _, rfl, D.at_, T.cl_Device, T.n_Device__log_steps, lk_ls, g.ls, _, rfl, .inl (SqL.of D.ls), by show 2 ≤ sizeLine; decide, fun p hp => ?_⟩
  rw [D.wr.len, List.length_map]
  exact q p hp
def spEnd (C : Addr) : Sp := fun vs H Q _ => ∃ (dev : Addr) (g : DG) (d : DS) (n : Int) (p : Addr) (xs : List Int) (a : Int), vs = [.ref dev, .int n, .ref p, .int a] ∧ DevAt C H dev g d ∧ g.F p = some (.lst (xs.map V.int)) ∧ xs.length ≤ 1000 ∧ g.kvs.length ≤ 1000000 ∧
  ∀ (g' : DG) (H' : Hp), DevAt C H' dev g' { d with pages := endW d.pages (n, xs) a } → Fr dev g H g' H' → g'.pw = g.pw → g'.vs = g.vs → g'.ls = g.ls → g'.kvs.length ≤ g.kvs.length + 1 → Q .non H'
theorem getP_len {F : Hp} {kvs : List (Key × V)} {f : Int → Option (List Int)} (h : PgIn F kvs f) (n : Int) : (getP f n).length ≤ 1000 := by
  unfold getP
  rcases h n with ⟨e, _⟩ | ⟨_, xs, e, _, _, h⟩
  · rw [e]
    decide
  · rw [e]
    exact h
theorem ok_Device_end_page_write (T : Txt K mg) : FnOk P w K mg base CX0 2 T.f_Device_end_page_write T.fd_Device_end_page_write ["self", "number", "data", "fate"] (spEnd T.C_Device) := by
  refine T.F_Device_end_page_write.ok sc_Device_end_page_write (fun vs H Q E h => ?_) (fun cdv A outer s H vs Q E hr h => ?_)
  · obtain ⟨_, _, _, _, _, _, _, rfl, _⟩ := h
    rfl
  obtain ⟨dev, g, d, n, p, xs, a, rfl, D, ep, hx, hk, q⟩ := h
  refine ⟨_, (pss_one (ps_if (pt_cmpR op_eq (pv 3) (pe_glob (v := .int 1) (by rfl) T.g_TAKES_EFFECT ⟨_, rfl⟩) (nomark _))
        (pss_one (ps_dput (hu_of hr) (pe_fld (pv 0) rfl) (pv 1) (pv 2) rfl))
        (pss_one (ps_if (pt_cmpR op_eq (pv 3) (pe_glob (v := .int 2) (by rfl) T.g_FIRST_HALF_TAKES_EFFECT ⟨_, rfl⟩) (nomark _))
          (pss_cons (ps_set (i := 4) sc_Device_end_page_write.nd rfl (by first | exact Or.inl rfl | exact Or.inr rfl) (pe_slice sl_list (pe_meth (pv 0) T.cl_Device T.m_Device_durable_page (ok_Device_durable_page T) (hr.mono (by decide)) T.b_Device_durable_page .nil pass0 (pa_cons (pv 1) pa_nil)) (po_some (pe_glob (v := .int 128) (by rfl) T.g_HALF_PAGE ⟨_, rfl⟩)) po_none))
          (pss_one (ps_dput (hu_of hr) (pe_fld (pv 0) rfl) (pv 1) (pe_op op_cat (pe_slice sl_list (pv 2) po_none (po_some (pe_glob (v := .int 128) (by rfl) T.g_HALF_PAGE ⟨_, rfl⟩))) (pv 4)) rfl)))
          pss_nil)))), ?_⟩
  (try dsimp only [cxOf])
  rw [show start ["self", "number", "data", "fate", "second_half"] [.ref dev, .int n, .ref p, .int a] = [some (.ref dev), some (.int n), some (.ref p), some (.int a), none] from rfl]
  refine ⟨_, rfl, rfl, _, rfl, ?_⟩
  walk_at "nrm"
  by_cases h1 : a = 1
  · rw [if_pos (show decide (V.int a = V.int 1) = true from decide_eq_true (congrArg V.int h1))]
    refine ⟨_, rfl, _, rfl, dev, T.C_Device, g.dx, devF g d, _, rfl, D.at_, T.cl_Device, T.n_Device__durable_pages, lk_dp, _, rfl, g.dp, _, rfl, DPut.k (k := .inl n) D.dp (Nat.lt_of_le_of_lt hk (by decide)), ?_⟩
    refine q { g with kvs := putK g.kvs (.inl n) (.ref p) } _ ?_ Fr.dp rfl rfl rfl (putK_le g.kvs (.inl n) (.ref p))
    rw [show endW d.pages (n, xs) a = putP d.pages n xs from if_pos h1]
    exact D.put ep hx
  · rw [if_neg (show ¬ decide (V.int a = V.int 1) = true from fun z => h1 (V.int.inj (of_decide_eq_true z)))]
    refine ⟨_, rfl, rfl, _, rfl, ?_⟩
    walk_at "nrm"
    by_cases h2 : a = 2
    · rw [if_pos (show decide (V.int a = V.int 2) = true from decide_eq_true (congrArg V.int h2))]
      refine q_setg ?_
      refine ⟨_, rfl, dev, g.dx, devF g d, rfl, D.at_, lk_no (by decide +kernel), _, rfl, dev, g, d, n, rfl, D, fun p1 H1 s1 np1 ep1 => ?_⟩
      refine ⟨128, rfl, p1, _, rfl, SqL.of ep1, fun p2 np2 => ?_⟩
      walk_at "nrm"
      have D1 := D.same s1
      have D2 := D1.same (same_upd (o := .lst (cutV ((getP d.pages n).map V.int) (some 128) none)) np2)
      refine ⟨_, rfl, ⟨128, rfl, p, _, rfl, SqL.of (D2.sm _ _ ep), fun p3 np3 => ?_⟩⟩
      have D3 := D2.same (same_upd (o := .lst (cutV (xs.map V.int) none (some 128))) np3)
      have hg := getP_len D.pg n
      refine ⟨_, rfl, p3, p2, _, _, rfl, rfl, upd_same, same_upd np3 _ _ upd_same, ?_, fun p4 np4 => ?_⟩
      · rw [show (128 : Int) = ((128 : Nat) : Int) from rfl, cut_take, cut_drop, List.length_map, List.length_map, List.length_take, List.length_drop]
        exact Nat.le_of_lt (Nat.lt_of_le_of_lt (show _ ≤ 2000 by omega) (by decide))
      have D4 := D3.ext (o := .lst (cutV (xs.map V.int) none (some 128) ++ cutV ((getP d.pages n).map V.int) (some 128) none)) np4
      refine ⟨_, rfl, dev, T.C_Device, g.dx, devF _ d, _, rfl, D4.at_, T.cl_Device, T.n_Device__durable_pages, lk_dp, _, rfl, g.dp, _, rfl, DPut.k (k := .inl n) D4.dp (Nat.lt_of_le_of_lt hk (by decide)), ?_⟩
      have D5 := D4.put (n := n) (p := p4) (xs := xs.take 128 ++ (getP d.pages n).drop 128) (by
        show upd g.F p4 _ p4 = _
        rw [upd_same, show (128 : Int) = ((128 : Nat) : Int) from rfl, cut_take, cut_drop, ← List.map_append]) (by
        rw [List.length_append, List.length_take, List.length_drop]
        omega)
      refine q _ _ ?_ (((((Fr.same s1).trans (Fr.same (same_upd np2))).trans (Fr.same (same_upd np3))).trans (Fr.ext np4)).trans (Fr.dp (kvs := putK g.kvs (.inl n) (.ref p4)))) rfl rfl rfl (putK_le g.kvs (.inl n) (.ref p4))
      rw [show endW d.pages (n, xs) a = putP d.pages n (xs.take 128 ++ (getP d.pages n).drop 128) from (if_neg h1).trans (if_pos h2)]
      exact D5
    · rw [if_neg (show ¬ decide (V.int a = V.int 2) = true from fun z => h2 (V.int.inj (of_decide_eq_true z)))]
      refine q g _ ?_ (Fr.refl _ _ _) rfl rfl rfl (Nat.le_succ _)
      rw [show endW d.pages (n, xs) a = d.pages from (if_neg h1).trans (if_neg h2)]
      exact D

def spCrash (C : Addr) : Sp := fun vs H Q _ => ∃ (dev : Addr) (g : DG) (d : DS) (a : Addr) (fs : List Int) (k : Nat), vs = [.ref dev, .ref a, .int (k : Int)] ∧ DevAt C H dev g d ∧ H a = some (.lst (fs.map V.int)) ∧ ¬ own dev g a ∧ bnd g d ≤ 1000000 ∧ d.log.length + d.steps.length ≤ 1000000 ∧
  ∀ (g' : DG) (H' : Hp), DevAt C H' dev g' (d.crash fs k) → Fr dev g H g' H' → bnd g' (d.crash fs k) ≤ bnd g d → Q .non H'
theorem ok_Device_crash (T : Txt K mg) : FnOk P w K mg base CX0 3 T.f_Device_crash T.fd_Device_crash ["self", "fates", "kept"] (spCrash T.C_Device) := by
  refine T.F_Device_crash.ok sc_Device_crash (fun vs H Q E h => ?_) (fun cdv A outer s H vs Q E hr h => ?_)
  · obtain ⟨_, _, _, _, _, _, rfl, _⟩ := h
    rfl
  obtain ⟨dev, g, d, a, fs, k, rfl, D, hA, na, hb, hlog, q⟩ := h
  refine ⟨_, (pss_cons (ps_for PassesOwn.never rfl (pi_zipA (by rfl) T.z_zip (pa_cons (pe_fld (pv 0) rfl) (pa_cons (pv 1) pa_nil))) (pg_tup (by rfl) (pgs_cons (pg_tup (by rfl) (pgs_cons (pg_name (i := 3) sc_Device_crash.nd rfl (by first | exact Or.inl rfl | exact Or.inr rfl)) (pgs_cons (pg_name (i := 4) sc_Device_crash.nd rfl (by first | exact Or.inl rfl | exact Or.inr rfl)) pgs_nil))) (pgs_cons (pg_name (i := 5) sc_Device_crash.nd rfl (by first | exact Or.inl rfl | exact Or.inr rfl)) pgs_nil)))
        (pss_one (ps_expr (pe_meth (pv 0) T.cl_Device T.m_Device_end_page_write (ok_Device_end_page_write T) (hr.mono (by decide)) T.b_Device_end_page_write .nil pass0 (pa_cons (pv 3) (pa_cons (pv 4) (pa_cons (pv 5) pa_nil)))))))
      (pss_cons (ps_fld (pv 0) (pe_lst pa_nil) rfl)
      (pss_cons (ps_expr (pe_meth (pv 0) T.cl_Device T.m_Device_end_log_steps (ok_Device_end_log_steps T) (hr.mono (by decide)) T.b_Device_end_log_steps .nil pass0 (pa_cons (pe_slice sl_list (pe_fld (pv 0) rfl) po_none (po_some (pe_callB (call_max2 rfl) (by rfl) T.z_max (by decide +kernel) (pa_cons (pv 2) (pa_cons pe_int pa_nil))))) pa_nil)))
      (pss_one (ps_fld (pv 0) pe_non rfl))))), ?_⟩
  (try dsimp only [cxOf])
  rw [show start ["self", "fates", "kept", "number", "data", "fate"] [.ref dev, .ref a, .int (k : Int)] = [some (.ref dev), some (.ref a), some (.int (k : Int)), none, none, none] from rfl]
  have hl := D.wr.len
  refine ⟨_, rfl, dev, T.C_Device, g.dx, devF g d, _, rfl, D.at_, T.cl_Device, T.n_Device__page_writes, lk_pw, _, rfl, g.pw, a, _, _, rfl, .inl ⟨SqL.of D.pw, SqL.of hA, for_zipM (K := K) (a := g.pw) (b := a) (xs := g.vs) (ys := fs.map V.int)
    (fun i σ' H' => ∃ (g1 : DG) (c3 c4 c5 : Option V), σ' = [some (.ref dev), some (.ref a), some (.int (k : Int)), c3, c4, c5] ∧ DevAt T.C_Device H' dev g1 { d with pages := crashP d.pages (d.writes.take i) (fs.take i) } ∧ Fr dev g H g1 H' ∧ g1.pw = g.pw ∧ g1.vs = g.vs ∧ g1.ls = g.ls ∧ (i ≤ g.vs.length → g1.kvs.length ≤ g.kvs.length + i))
    ⟨g, none, none, none, rfl, D, Fr.refl _ _ _, rfl, rfl, rfl, fun _ => Nat.le_refl _⟩ (fun i σ' H' ⟨g1, _, _, _, _, D1, f1, e1, e2, _⟩ => ⟨by rw [← e1, ← e2]; exact SqL.of D1.pw, SqL.of (f1.keep _ _ na hA)⟩) ?_ ?_⟩⟩
  · rintro i x y t σ' H' hx hy ⟨g1, c3, c4, c5, rfl, D1, f1, e1, e2, e3, hk⟩ ht
    rw [List.getElem?_map] at hy
    obtain ⟨fa, hf, rfl⟩ : ∃ s, fs[i]? = some s ∧ y = V.int s := by
      cases e : fs[i]? with
      | none => rw [e] at hy; cases hy
      | some s => rw [e] at hy; exact ⟨s, rfl, (Option.some.inj hy).symm⟩
    have hi := (List.getElem?_eq_some_iff.mp hx).1
    have hw : d.writes[i]? = some (d.writes[i]'(by omega)) := List.getElem?_eq_getElem (by omega)
    generalize d.writes[i]'(by omega) = ww at hw
    obtain ⟨tt, p, rfl, et, ep, hp⟩ := D1.wr.each i x ww (by rw [e2]; exact hx) hw
    have st := same_upd (o := .tup [.ref tt, .int fa]) ht
    have D2 := D1.same st
    refine ⟨t, _, rfl, SqT.of upd_same, rfl, _, _, rfl, ⟨tt, _, rfl, SqT.of (D2.sm _ _ et), rfl, _, _, rfl, _, _, rfl, rfl, _, _, rfl, rfl, ?_⟩⟩
    have hk1 := hk (by omega)
    refine ⟨_, rfl, dev, g1.dx, devF g1 _, rfl, D2.at_, lk_no (by decide +kernel), _, rfl, _, rfl, _, rfl, dev, g1, _, ww.1, p, ww.2, fa, rfl, D2, ep, hp, ?_, fun g2 H2 D3 f2 k1 k2 k3 k4 => ?_⟩
    · unfold bnd at hb
      omega
    · refine ⟨g2, _, _, _, rfl, ?_, (f1.trans (Fr.same st)).trans f2, k1.trans e1, k2.trans e2, k3.trans e3, fun h => by omega⟩
      rw [crash_more hw hf]
      exact D3
  · rintro σ' H1 ⟨g1, c3, c4, c5, rfl, D1, f1, e1, e2, e3, hk⟩
    rw [List.length_map, hl, crash_min] at D1
    have hk1 := hk (Nat.min_le_left _ _)
    refine ⟨Nat.zero_le _, fun p hp => ?_⟩
    have s3 := same_upd (o := .lst []) hp
    refine ⟨_, rfl, dev, T.C_Device, g1.dx, devF _ _, rfl, s3 _ _ D1.at_, T.cl_Device, T.n_Device__page_writes, (by show 6 < 1000; decide), ?_⟩
    rw [put_pw]
    have D2 := D1.noW hp
    have f2 := f1.trans (Fr.noW (dev := dev) (o := .ins T.C_Device g1.dx (devF { g1 with pw := p } { d with pages := crashP d.pages d.writes fs })) hp (o' := .lst []))
    refine ⟨_, rfl, dev, _, devF _ _, rfl, D2.at_, lk_no (by decide +kernel), _, rfl, dev, T.C_Device, _, devF _ _, _, rfl, D2.at_, T.cl_Device, T.n_Device__log_steps, lk_ls, _, rfl, (k : Int), 0, rfl, ?_⟩
    rw [show (if (0 : Int) > (k : Int) then (0 : Int) else (k : Int)) = (k : Int) from if_neg (by omega)]
    refine ⟨_, rfl, g1.ls, _, rfl, SqL.of D2.ls, fun l hl2 => ?_⟩
    have s4 := same_upd (o := .lst (cutV (d.steps.map optV) none (some (k : Int)))) hl2
    have D3 := D2.same s4
    refine ⟨dev, { g1 with pw := p, vs := [] }, { d with pages := crashP d.pages d.writes fs, writes := [] }, l, d.steps.take k, rfl, D3, ?_, ?_, fun g5 H5 D5 f5 ek => ?_⟩
    · rw [← cut_take]
      exact upd_same
    · show d.log.length + _ ≤ _
      rw [List.length_take]
      omega
    refine ⟨_, rfl, dev, T.C_Device, _, devF _ _, rfl, D5.at_, T.cl_Device, T.n_Device__steps_allowed, (by show 6 < 1000; decide), ?_⟩
    rw [show V.non = optV none from rfl, put_all]
    refine q _ _ (D5.num (d' := d.crash fs k) rfl rfl rfl rfl) (((f2.trans (Fr.same s4)).trans f5).trans Fr.ins) ?_
    show g5.kvs.length + 0 ≤ g.kvs.length + d.writes.length
    rw [ek]
    show g1.kvs.length + 0 ≤ g.kvs.length + d.writes.length
    rw [hl] at hk1
    omega
theorem newF {dp pw dl ls : Addr} {g : DG} (h1 : g.dp = dp) (h2 : g.pw = pw) (h3 : g.dl = dl) (h4 : g.ls = ls) : putF "_steps_allowed" .non (putF "_steps_performed" (.int 0) (putF "_log_steps" (.ref ls) (putF "_durable_log" (.ref dl) (putF "_page_writes" (.ref pw) (putF "_durable_pages" (.ref dp) []))))) = devF g DS.new := by
  subst h1 h2 h3 h4
  have e1 : putF "_page_writes" (.ref g.pw) (putF "_durable_pages" (.ref g.dp) []) = ([("_durable_pages", V.ref g.dp), ("_page_writes", V.ref g.pw)] : List (Str × V)) := set_tl (by decide +kernel) rfl
  have e2 : putF "_durable_log" (.ref g.dl) ([("_durable_pages", V.ref g.dp), ("_page_writes", V.ref g.pw)] : List (Str × V)) = ([("_durable_pages", V.ref g.dp), ("_page_writes", V.ref g.pw), ("_durable_log", V.ref g.dl)] : List (Str × V)) := set_tl (by decide +kernel) (set_tl (by decide +kernel) rfl)
  have e3 : putF "_log_steps" (.ref g.ls) ([("_durable_pages", V.ref g.dp), ("_page_writes", V.ref g.pw), ("_durable_log", V.ref g.dl)] : List (Str × V)) = ([("_durable_pages", V.ref g.dp), ("_page_writes", V.ref g.pw), ("_durable_log", V.ref g.dl), ("_log_steps", V.ref g.ls)] : List (Str × V)) := set_tl (by decide +kernel) (set_tl (by decide +kernel) (set_tl (by decide +kernel) rfl))
  have e4 : putF "_steps_performed" (.int 0) ([("_durable_pages", V.ref g.dp), ("_page_writes", V.ref g.pw), ("_durable_log", V.ref g.dl), ("_log_steps", V.ref g.ls)] : List (Str × V)) = ([("_durable_pages", V.ref g.dp), ("_page_writes", V.ref g.pw), ("_durable_log", V.ref g.dl), ("_log_steps", V.ref g.ls), ("_steps_performed", V.int 0)] : List (Str × V)) := set_tl (by decide +kernel) (set_tl (by decide +kernel) (set_tl (by decide +kernel) (set_tl (by decide +kernel) rfl)))
  rw [e1, e2, e3, e4]
  exact set_tl (by decide +kernel) (set_tl (by decide +kernel) (set_tl (by decide +kernel) (set_tl (by decide +kernel) (set_tl (by decide +kernel) rfl))))
def spInit (C : Addr) : Sp := fun vs H Q _ => ∃ (p dx : Addr), vs = [.ref p] ∧ H p = some (.ins C dx []) ∧ ∀ (g' : DG) (H' : Hp), DevAt C H' p g' DS.new → (∀ b o, H b = some o → b ≠ p → H' b = some o) → (∀ b, own p g' b → b = p ∨ H b = none) → g'.kvs = [] → Q .non H'
theorem ok_Device_init (T : Txt K mg) : FnOk P w K mg base CX0 1 T.f_Device_init T.fd_Device_init ["self"] (spInit T.C_Device) := by
  refine T.F_Device_init.ok sc_Device_init (fun vs H Q E h => ?_) (fun cdv A outer s H vs Q E hr h => ?_)
  · obtain ⟨_, _, rfl, _⟩ := h
    rfl
  obtain ⟨p, dx, rfl, hp, q⟩ := h
  refine ⟨_, (pss_cons (ps_fld (pv 0) pe_dnewK rfl)
      (pss_cons (ps_fld (pv 0) (pe_lst pa_nil) rfl)
      (pss_cons (ps_fld (pv 0) (pe_lst pa_nil) rfl)
      (pss_cons (ps_fld (pv 0) (pe_lst pa_nil) rfl)
      (pss_cons (ps_fld (pv 0) pe_int rfl)
      (pss_one (ps_fld (pv 0) pe_non rfl))))))), ?_⟩
  (try dsimp only [cxOf])
  rw [show start ["self"] [.ref p] = [some (.ref p)] from rfl]
  have f : ∀ {b x : Addr} {o u : HO} {G : Hp}, G x = some u → upd G x o b = none → b ≠ x ∧ G b = none := fun {b x o u G} e h => by
    by_cases hb : b = x
    · rw [hb, upd_same] at h; cases h
    · exact ⟨hb, by rw [upd_ne hb] at h; exact h⟩
  have f' : ∀ {b x : Addr} {o : HO} {G : Hp}, upd G x o b = none → b ≠ x ∧ G b = none := fun {b x o G} h => by
    by_cases hb : b = x
    · rw [hb, upd_same] at h; cases h
    · exact ⟨hb, by rw [upd_ne hb] at h; exact h⟩
  intro dp n1
  have a1 : p ≠ dp := ne_of_none hp n1
  refine ⟨_, rfl, p, T.C_Device, dx, _, rfl, by rw [upd_ne a1]; exact hp, T.cl_Device, T.n_Device__durable_pages, (by show 0 < 1000; decide), ?_⟩
  refine ⟨Nat.zero_le _, fun pw n2 => ?_⟩
  obtain ⟨b1, m2⟩ := f' n2
  obtain ⟨b2, m2⟩ := f' m2
  refine ⟨_, rfl, p, T.C_Device, dx, _, rfl, by rw [upd_ne b1.symm, upd_same], T.cl_Device, T.n_Device__page_writes, (by show 1 < 1000; decide), ?_⟩
  refine ⟨Nat.zero_le _, fun dl n3 => ?_⟩
  obtain ⟨c1, m3⟩ := f' n3
  obtain ⟨c2, m3⟩ := f' m3
  obtain ⟨_, m3⟩ := f' m3
  obtain ⟨c3, m3⟩ := f' m3
  refine ⟨_, rfl, p, T.C_Device, dx, _, rfl, by rw [upd_ne c1.symm, upd_same], T.cl_Device, T.n_Device__durable_log, (by show 2 < 1000; decide), ?_⟩
  refine ⟨Nat.zero_le _, fun ls n4 => ?_⟩
  obtain ⟨d1, m4⟩ := f' n4
  obtain ⟨d2, m4⟩ := f' m4
  obtain ⟨_, m4⟩ := f' m4
  obtain ⟨d3, m4⟩ := f' m4
  obtain ⟨_, m4⟩ := f' m4
  obtain ⟨d4, m4⟩ := f' m4
  refine ⟨_, rfl, p, T.C_Device, dx, _, rfl, by rw [upd_ne d1.symm, upd_same], T.cl_Device, T.n_Device__log_steps, (by show 3 < 1000; decide), ?_⟩
  refine ⟨_, rfl, p, T.C_Device, dx, _, rfl, upd_same, T.cl_Device, T.n_Device__steps_performed, (by show 4 < 1000; decide), ?_⟩
  refine ⟨_, rfl, p, T.C_Device, dx, _, rfl, upd_same, T.cl_Device, T.n_Device__steps_allowed, (by show 5 < 1000; decide), ?_⟩
  have hF := newF (g := ⟨dx, dp, pw, ls, dl, fun _ => none, [], []⟩) (dp := dp) (pw := pw) (dl := dl) (ls := ls) rfl rfl rfl rfl
  refine q ⟨dx, dp, pw, ls, dl, fun _ => none, [], []⟩ _ ⟨by rw [upd_same, hF], ?_, fun _ => .inl ⟨rfl, rfl⟩, ?_, ⟨rfl, fun i v w a _ => by cases a⟩, ?_, ?_, fun b o e => (nomatch (show (none : Option HO) = some o from e)), rfl, rfl, rfl, rfl, rfl, fun z => d3 z.symm, c2, fun z => d2 z.symm⟩ (fun b o e hb => ?_) (fun b h => ?_) rfl
  · simp [upd, a1, a1.symm, b1, b1.symm, b2, b2.symm, c1, c1.symm, c2, c2.symm, c3, c3.symm, d1, d1.symm, d2, d2.symm, d3, d3.symm, d4, d4.symm, DS.new]
  · simp [upd, a1, a1.symm, b1, b1.symm, b2, b2.symm, c1, c1.symm, c2, c2.symm, c3, c3.symm, d1, d1.symm, d2, d2.symm, d3, d3.symm, d4, d4.symm, DS.new]
  · simp [upd, a1, a1.symm, b1, b1.symm, b2, b2.symm, c1, c1.symm, c2, c2.symm, c3, c3.symm, d1, d1.symm, d2, d2.symm, d3, d3.symm, d4, d4.symm, DS.new]
  · simp [upd, a1, a1.symm, b1, b1.symm, b2, b2.symm, c1, c1.symm, c2, c2.symm, c3, c3.symm, d1, d1.symm, d2, d2.symm, d3, d3.symm, d4, d4.symm, DS.new]
  · have k1 : b ≠ dp := ne_of_none e n1
    have k2 : b ≠ pw := ne_of_none e m2
    have k3 : b ≠ dl := ne_of_none e m3
    have k4 : b ≠ ls := ne_of_none e m4
    simp [upd, hb, k1, k2, k3, k4, e]
  · rcases h with h | h | h | (h | h) | ⟨o, e⟩
    · exact .inl h
    · rw [h]; exact .inr n1
    · rw [h]; exact .inr m2
    · rw [h]; exact .inr m4
    · rw [h]; exact .inr m3
    · cases e

end
end K06


namespace K06
open PySem L2 Nv RZ
local macro_rules | `(tactic| walk_at "hp") => `(tactic| first
  | assumption
  | exact upd_same
  | exact (upd_ne (by assumption)).trans (by first | assumption | exact upd_same | exact (upd_ne (by assumption)).trans (by first | assumption | exact upd_same))
  | exact (upd_ne (Ne.symm (by assumption))).trans (by first | assumption | exact upd_same))
local macro_rules | `(tactic| walk_at "cond") => `(tactic| first
  | (change (0 : Int) < _; first | decide | omega)
  | exact Or.inr ⟨by decide, by decide⟩
  | exact Or.inl ⟨by decide, by decide⟩
  | exact Or.inr ⟨by omega, by omega⟩
  | exact Or.inl ⟨by omega, by omega⟩
  | exact ⟨by decide, by decide, by decide⟩
  | exact wide_div (by first | decide | omega) (show _ < 2 ^ 64 by first | decide | omega) (by decide) (by decide)
  | (change (0 : Int) ≤ _; first | decide | omega)
  | exact ⟨by decide, by decide⟩
  | exact ⟨by omega, by omega⟩)
local macro_rules | `(tactic| walk_at "val") => `(tactic| first
  | (with_reducible exact val_c)
  | ((with_reducible apply val_var); exact rfl)
  | ((with_reducible apply val_I0); walk_at "val"; walk_at "val")
  | ((with_reducible apply val_I); walk_at "val"; walk_at "val"; walk_at "cond")
  | ((with_reducible apply val_ixL); walk_at "val"; walk_at "val"; (first | exact SqL.of (by walk_at "hp") | assumption); exact rfl)
  | ((with_reducible apply val_len); walk_at "val"; first | exact Or.inl (SqL.of (by walk_at "hp")) | exact Or.inl (by assumption) | exact Or.inr (by assumption) | exact Or.inr (SqT.of (by walk_at "hp")))
  | ((with_reducible apply val_int1); walk_at "val")
  | ((with_reducible apply val_abs); walk_at "val")
  | ((with_reducible apply val_max2); walk_at "val"; walk_at "val")
  | ((with_reducible apply val_eq); walk_at "val"; walk_at "val"; exact rfl)
  | ((with_reducible apply val_ne); walk_at "val"; walk_at "val"; exact rfl)
  | ((with_reducible apply val_not); walk_at "val")
  | ((with_reducible apply val_U); walk_at "val"))
local macro_rules | `(tactic| walk_at "ans") => `(tactic| first
  | ((with_reducible apply ans_Eq); walk_at "val"; walk_at "val"; exact rfl)
  | ((with_reducible apply ans_Ne); walk_at "val"; walk_at "val"; exact rfl)
  | ((with_reducible apply ans_I0); walk_at "val"; walk_at "val"; exact rfl)
  | ((with_reducible refine ans_And ?_ (fun _ => ?_)); walk_at "ans"; walk_at "ans")
  | ((with_reducible refine ans_or2 ?_ (fun _ => ?_)); walk_at "ans"; walk_at "ans")
  | ((with_reducible refine ans_not ?_); walk_at "ans")
  | ((with_reducible apply ans_val); walk_at "val"))
local macro_rules | `(tactic| walk_at "nrm") => `(tactic| (try dsimp only [List.set_cons_zero, List.set_cons_succ]))
local macro_rules | `(tactic| walk_at "set") => `(tactic| first
  | ((with_reducible apply q_set); walk_at "val"; walk_at "nrm")
  | ((with_reducible apply s_set); walk_at "val"; walk_at "nrm"))
local macro_rules | `(tactic| walk_at "setL") => `(tactic| first
  | ((with_reducible apply q_setL); walk_at "val"; walk_at "val"; walk_at "val"; walk_at "hp"; exact rfl; walk_at "nrm")
  | ((with_reducible apply s_setL); walk_at "val"; walk_at "val"; walk_at "val"; walk_at "hp"; exact rfl; walk_at "nrm"))
local macro_rules | `(tactic| walk_at "ff") => `(tactic| (walk_at "nrm"; rw [if_neg (by decide)]; (try ((with_reducible refine st_next ?_); walk_at "nrm"))))
local macro_rules | `(tactic| walk_at "nok") => `(tactic| (refine ⟨_, rfl, rfl, _, rfl, ?_⟩; walk_at "nrm"; rw [if_neg (by decide)]))
local macro_rules | `(tactic| walk_at "yesk") => `(tactic| (refine ⟨_, rfl, rfl, _, rfl, ?_⟩; walk_at "nrm"; rw [if_pos (by decide)]))
local macro_rules | `(tactic| walk_at "no") => `(tactic| (walk_at "nrm"; rw [if_neg (by decide)]; walk_at "nrm"))
local macro_rules | `(tactic| walk_at "yes") => `(tactic| (walk_at "nrm"; rw [if_pos (by decide)]; walk_at "nrm"))
local macro_rules | `(tactic| walk_at "nos") => `(tactic| (walk_at "nrm"; repeat (rw [if_neg (by decide)]; walk_at "nrm"); (try ((with_reducible refine st_next ?_); walk_at "nrm"))))

section
variable {P : Program} {w : World} {K : PySem.W.Frag} {mg : Str → Option Value} {base : Heap}
def spWN (K : Frag) : Sp := fun vs H Q _ => ∃ (wd : Nat) (n : Int), vs = [.int (wd : Int), .int n] ∧ wd ≤ 1000 ∧
  ∀ (p : Addr) (H' : Hp), Same H H' → H p = none → H' p = some (.lst ((nb wd n).map V.int)) → Q (.ref p) H'
theorem ok_write_number (T : Txt K mg) : FnOk P w K mg base CX0 1 T.f_write_number T.fd_write_number ["width", "number"] (spWN K) := by
  refine T.F_write_number.ok sc_write_number (fun vs H Q E h => ?_) (fun cdv A outer s H vs Q E hr h => ?_)
  · obtain ⟨_, _, rfl, _⟩ := h
    rfl
  obtain ⟨wd, n, rfl, hw, q⟩ := h
  refine ⟨_, (pss_one (ps_ret (pe_lc (own := [("k", 2)]) (g := gName 2) (by rfl) sc_write_number.nd (pi_revR (by rfl) T.z_reversed (prg_1 (by rfl) T.z_range (pv 0))) (blkOk_by (own := [("k", 2)]) (N := ["width", "number", "k"]) (sc := defScope s_write_number) (by decide +kernel)) (fun _ _ _ _ _ => pg_name (i := 2) sc_write_number.nd rfl (by first | exact Or.inl rfl | exact Or.inr rfl)) (fun _ _ _ _ _ => pts_nil) (fun _ _ _ _ _ => pe_op op_and (pe_op op_shr (pv 1) (pe_op op_mul pe_int (pv 2))) pe_int)))), ?_⟩
  (try dsimp only [cxOf])
  rw [show start ["width", "number", "k"] [.int (wd : Int), .int n] = [some (.int (wd : Int)), some (.int n), none] from rfl]
  refine ⟨_, rfl, (wd : Int), rfl, by omega, by omega, by omega, by omega, fun D hD => ?_⟩
  rw [show ((wd : Int) - 0).toNat = wd from by omega]
  refine lc_rangeC (lo := 0 + ((wd : Nat) : Int) - 1) (c := -1) (n := wd) (fun i H1 => Same H H1 ∧ H1 D = some (.lst ((wn wd n i).map V.int))) ⟨same_upd hD, upd_same⟩ ?_ ?_
  · rintro i H1 hi ⟨sm, e⟩
    rw [show (0 : Int) + ((wd : Nat) : Int) - 1 + (i : Int) * (-1) = ((wd - 1 - i : Nat) : Int) from by omega]
    refine ⟨rfl, g_yes ?_⟩
    have hv : Val (tOp (rI0 fun i j => V.int (Builtin.bitAnd i j)) (tOp (rI (fun x j => 0 ≤ j) fun i j => V.int (i / 2 ^ j.toNat)) (tVar 1) (tOp (rI CMul fun i j => V.int (i * j)) (tC (V.int 8)) (tVar 2))) (tC (V.int 255)))
        [some (V.int (wd : Int)), some (V.int n), some (.int ((wd - 1 - i : Nat) : Int))] H1 (.int ((n / 2 ^ (8 * (wd - 1 - i))) % 256)) := by
      have e1 : (n / 2 ^ (8 * (wd - 1 - i))) % 256 = Builtin.bitAnd (n / 2 ^ ((8 : Int) * ((wd - 1 - i : Nat) : Int)).toNat) 255 := by
        rw [PyProof.Rows.bitAnd_m8, show ((8 : Int) * ((wd - 1 - i : Nat) : Int)).toNat = 8 * (wd - 1 - i) from by omega]
      rw [e1]
      refine val_I0 (g := fun i j => V.int (Builtin.bitAnd i j)) (val_I (g := fun i j => V.int (i / 2 ^ j.toNat)) (val_var rfl) (val_I (g := fun i j => V.int (i * j)) val_c (val_var rfl) (.inl ⟨by decide, by decide⟩)) ?_) val_c
      show (0 : Int) ≤ 8 * ((wd - 1 - i : Nat) : Int)
      omega
    refine hv _ ?_
    refine ⟨_, e, by rw [List.length_map]; exact small1000 (by unfold wn; rw [List.length_map, List.length_range]; omega), fun b o hb => ?_, ?_⟩
    · rw [upd_ne (ne_of_none hb hD)]
      exact sm b o hb
    · rw [upd_same, wn_succ, List.map_append]
      rfl
  · rintro H1 ⟨sm, e⟩
    rw [wn_all] at e
    exact q D H1 sm hD e
def spRN (K : Frag) : Sp := fun vs H Q _ => ∃ (d : Addr) (xs : List Int) (pl wd : Nat), vs = [.ref d, .int (pl : Int), .int (wd : Int)] ∧ SqL K H d (xs.map V.int) ∧ pl + wd ≤ xs.length ∧ xs.length ≤ 1000000 ∧ Q (.int (nv ((xs.drop pl).take wd))) H
theorem ok_read_number (T : Txt K mg) : FnOk P w K mg base CX0 1 T.f_read_number T.fd_read_number ["data", "place", "width"] (spRN K) := by
  refine T.F_read_number.ok sc_read_number (fun vs H Q E h => ?_) (fun cdv A outer s H vs Q E hr h => ?_)
  · obtain ⟨_, _, _, _, rfl, _⟩ := h
    rfl
  obtain ⟨d, xs, pl, wd, rfl, hd, hl, hx, q⟩ := h
  refine ⟨_, (pss_cons (ps_set (i := 3) sc_read_number.nd rfl (by first | exact Or.inl rfl | exact Or.inr rfl) pe_int)
      (pss_cons (ps_for PassesOwn.never rfl (pi_range2 (by rfl) T.z_range (pa_cons (pv 1) (pa_cons (pe_op op_add (pv 1) (pv 2)) pa_nil))) (pg_name (i := 4) sc_read_number.nd rfl (by first | exact Or.inl rfl | exact Or.inr rfl))
        (pss_one (ps_set (i := 3) sc_read_number.nd rfl (by first | exact Or.inl rfl | exact Or.inr rfl) (pe_op op_add (pe_op op_mul (pv 3) pe_int) (pe_ix ix_list (pv 0) (pv 4) (fun _ _ => rfl))))))
      (pss_one (ps_ret (pv 3))))), ?_⟩
  (try dsimp only [cxOf])
  rw [show start ["data", "place", "width", "number", "k"] [.ref d, .int (pl : Int), .int (wd : Int)] = [some (.ref d), some (.int (pl : Int)), some (.int (wd : Int)), none, none] from rfl]
  walk_at "set"
  refine ⟨_, rfl, _, rfl, _, rfl, (pl : Int), (wd : Int), rfl, rfl, (pl : Int), (pl : Int) + (wd : Int), rfl, ⟨by omega, by omega, by omega, by omega⟩, ?_⟩
  rw [show ((pl : Int) + (wd : Int) - (pl : Int)).toNat = wd from by omega]
  refine for_range (lo := (pl : Int)) (n := wd) (fun i σ' H' => H' = H ∧ ∃ c4 : Option V, σ' = [some (.ref d), some (.int (pl : Int)), some (.int (wd : Int)), some (.int (nv ((xs.drop pl).take i))), c4]) ⟨rfl, none, rfl⟩ ?_ ?_
  · rintro i σ' H' hi ⟨rfl, c4, rfl⟩
    have h1 : pl + i < xs.length := by omega
    rw [show (pl : Int) + (i : Int) = ((pl + i : Nat) : Int) from by omega]
    refine s_set (v := .int (nv ((xs.drop pl).take i) * 256 + xs[pl + i])) ?_ ⟨rfl, some (.int ((pl + i : Nat) : Int)), ?_⟩
    · exact val_I0 (g := fun i j => V.int (i + j)) (val_I (g := fun i j => V.int (i * j)) (val_var rfl) val_c (.inr ⟨by decide, by decide⟩)) (val_ixL (val_var rfl) (val_var rfl) hd (at_map (List.getElem?_eq_getElem h1)))
    · rw [← nv_snoc, show (xs.drop pl).take i ++ [xs[pl + i]] = (xs.drop pl).take (i + 1) from by
        rw [List.take_add_one, List.getElem?_drop, List.getElem?_eq_getElem h1]
        rfl]
      rfl
  · rintro σ' H' ⟨rfl, c4, rfl⟩
    exact s_ret (val_var rfl) q

def spWG (K : Frag) : Sp := fun vs H Q _ => ∃ (a : Addr) (us : List V) (F : Hp) (ws : List (Int × List Int)), vs = [.ref a] ∧ SqL K H a us ∧ Same F H ∧ WrIn F us ws ∧ (∀ w ∈ ws, PairOk w) ∧ ws.length ≤ 1000 ∧
  ∀ (p : Addr) (H' : Hp), Same H H' → H p = none → H' p = some (.lst ((grpB ws).map V.int)) → Q (.ref p) H'
theorem ok_write_group (T : Txt K mg) : FnOk P w K mg base CX0 2 T.f_write_group T.fd_write_group ["pairs"] (spWG K) := by
  refine T.F_write_group.ok sc_write_group (fun vs H Q E h => ?_) (fun cdv A outer s H vs Q E hr h => ?_)
  · obtain ⟨_, _, _, _, rfl, _⟩ := h
    rfl
  obtain ⟨a, us, F, ws, rfl, ha, sF, hw, hok, hn, q⟩ := h
  refine ⟨_, (pss_cons (ps_set (i := 1) sc_write_group.nd rfl (by first | exact Or.inl rfl | exact Or.inr rfl) (pe_call (ok_write_number T) (hr.mono (by decide)) (by rfl) T.g_write_number T.F_write_number.kp T.b_write_number .nil pass0 (pa_cons (pe_glob (v := .int 4) (by rfl) T.g_NUMBER_WIDTH ⟨_, rfl⟩) (pa_cons (pe_callB call_len_seq (by rfl) T.z_len (by decide +kernel) (pa_cons (pv 0) pa_nil)) pa_nil))))
      (pss_cons (ps_for PassesOwn.never rfl (pi_list (pv 0)) (pg_tup (by rfl) (pgs_cons (pg_name (i := 2) sc_write_group.nd rfl (by first | exact Or.inl rfl | exact Or.inr rfl)) (pgs_cons (pg_name (i := 3) sc_write_group.nd rfl (by first | exact Or.inl rfl | exact Or.inr rfl)) pgs_nil)))
        (pss_cons (ps_expr (pe_bm PySem.F.plainAttrs_list PySem.F.slot_list_extend PySem.F.type_list_extend mt_extend (pv 1) (pa_cons (pe_call (ok_write_number T) (hr.mono (by decide)) (by rfl) T.g_write_number T.F_write_number.kp T.b_write_number .nil pass0 (pa_cons (pe_glob (v := .int 4) (by rfl) T.g_NUMBER_WIDTH ⟨_, rfl⟩) (pa_cons (pv 2) pa_nil))) pa_nil)))
        (pss_one (ps_expr (pe_bm PySem.F.plainAttrs_list PySem.F.slot_list_extend PySem.F.type_list_extend mt_extend (pv 1) (pa_cons (pv 3) pa_nil))))))
      (pss_one (ps_ret (pv 1))))), ?_⟩
  (try dsimp only [cxOf])
  rw [show start ["pairs", "data", "number", "content"] [.ref a] = [some (.ref a), none, none, none] from rfl]
  have hl := hw.len
  refine q_setg ?_
  refine ⟨_, rfl, a, us, rfl, .inl ha, 4, (us.length : Int), rfl, by decide, fun p H1 s1 np e1 => ?_⟩
  walk_at "nrm"
  rw [hl] at e1
  refine ⟨_, rfl, a, rfl, ⟨_, s1.seq ha⟩, for_list (K := K) (a := a) (xs := us) (fun i σ' H' => (∃ c2 c3 : Option V, σ' = [some (.ref a), some (.ref p), c2, c3]) ∧ Same H H' ∧ H' p = some (.lst ((nb 4 ws.length ++ (ws.take i).flatMap pairB).map V.int)))
    ⟨⟨none, none, rfl⟩, s1, by rw [e1]; simp⟩ (fun i σ' H' _ ⟨_, s2, _⟩ => s2.seq ha) ?_ ?_⟩
  · rintro i v σ' H2 hv ⟨⟨c2, c3, rfl⟩, s2, e2⟩
    have hi := (List.getElem?_eq_some_iff.mp hv).1
    have hwi : ws[i]? = some (ws[i]'(by omega)) := List.getElem?_eq_getElem (by omega)
    have hm : ws[i]'(by omega) ∈ ws := List.getElem_mem _
    generalize ws[i]'(by omega) = ww at hwi hm
    obtain ⟨t, c, rfl, et, ec, _⟩ := hw.each i v ww hv hwi
    have hwo := hok ww hm
    have hsub : ∀ w ∈ ws.take i, PairOk w := fun w hw => hok w (List.mem_of_mem_take hw)
    refine ⟨t, _, rfl, SqT.of (s2 _ _ (sF _ _ et)), rfl, _, _, rfl, _, _, rfl, rfl, ?_⟩
    refine ⟨_, rfl, .inl ⟨rfl, _, SqL.of e2⟩, _, rfl, 4, ww.1, rfl, by decide, fun p3 H3 s3 np3 e3 => ?_⟩
    have hz : (nb 4 ws.length ++ (ws.take i).flatMap pairB).length = 4 + 260 * i := by
      rw [List.length_append, nb_len, pairsB_len hsub, List.length_take]
      omega
    refine ⟨p, p3, _, _, rfl, rfl, s3 _ _ e2, e3, ?_, ?_⟩
    · rw [List.length_map, List.length_map, hz, nb_len]
      exact Nat.le_of_lt (Nat.lt_of_le_of_lt (show _ ≤ 1000000 by omega) (by decide))
    have npc : c ≠ p := fun z => by
      have := sF _ _ ec
      rw [z, np] at this
      cases this
    have ec3 : upd H3 p (.lst ((nb 4 ws.length ++ (ws.take i).flatMap pairB).map V.int ++ (nb 4 ww.1).map V.int)) c = some (.lst (ww.2.map V.int)) := by
      rw [upd_ne npc]
      exact s3 _ _ (s2 _ _ (sF _ _ ec))
    have ep3 : upd H3 p (.lst ((nb 4 ws.length ++ (ws.take i).flatMap pairB).map V.int ++ (nb 4 ww.1).map V.int)) p = some (.lst ((nb 4 ws.length ++ (ws.take i).flatMap pairB).map V.int ++ (nb 4 ww.1).map V.int)) := upd_same
    refine ⟨_, rfl, .inl ⟨rfl, _, SqL.of ep3⟩, _, rfl, p, c, _, _, rfl, rfl, ep3, ec3, ?_, ⟨_, _, rfl⟩, fun b o hb => ?_, ?_⟩
    · rw [List.length_append, List.length_map, List.length_map, List.length_map, hz, nb_len, hwo.2.2]
      exact Nat.le_of_lt (Nat.lt_of_le_of_lt (show _ ≤ 1000000 by omega) (by decide))
    · rw [upd_ne (ne_of_none hb np), upd_ne (ne_of_none hb np)]
      exact s3 _ _ (s2 _ _ hb)
    · rw [upd_same, take_more hwi, List.flatMap_append]
      simp only [List.flatMap_cons, List.flatMap_nil, List.append_nil, pairB, List.map_append, List.append_assoc]
  · rintro σ' H2 ⟨⟨c2, c3, rfl⟩, s2, e2⟩
    rw [hl, List.take_length] at e2
    exact s_ret (val_var rfl) (q p H2 s2 np e2)
def optE : Option Nat → V
  | none => .non
  | some e => .int (e : Int)
def spGE (K : Frag) : Sp := fun vs H Q _ => ∃ (d : Addr) (xs : List Int) (pl : Nat), vs = [.ref d, .int (pl : Int)] ∧ SqL K H d (xs.map V.int) ∧ (∀ x ∈ xs, 0 ≤ x) ∧ xs.length ≤ 1000000 ∧ pl ≤ 1000000 ∧ Q (optE (gEnd xs pl)) H
theorem ok_group_end (T : Txt K mg) : FnOk P w K mg base CX0 2 T.f_group_end T.fd_group_end ["data", "place"] (spGE K) := by
  refine T.F_group_end.ok sc_group_end (fun vs H Q E h => ?_) (fun cdv A outer s H vs Q E hr h => ?_)
  · obtain ⟨_, _, _, rfl, _⟩ := h
    rfl
  obtain ⟨d, xs, pl, rfl, hd, h0, hx, hp, q⟩ := h
  refine ⟨_, (pss_cons (ps_set (i := 2) sc_group_end.nd rfl (by first | exact Or.inl rfl | exact Or.inr rfl) (pe_op op_add (pv 1) (pe_glob (v := .int 4) (by rfl) T.g_NUMBER_WIDTH ⟨_, rfl⟩)))
      (pss_cons (ps_if (pt_cmpR op_gt (pv 2) (pe_callB call_len_seq (by rfl) T.z_len (by decide +kernel) (pa_cons (pv 0) pa_nil)) (nomark _))
        (pss_one (ps_ret pe_non))
        pss_nil)
      (pss_cons (ps_set (i := 3) sc_group_end.nd rfl (by first | exact Or.inl rfl | exact Or.inr rfl) (pe_op op_add (pv 2) (pe_op op_mul (pe_glob (v := .int 260) (by rfl) T.g_PAIR_SIZE ⟨_, rfl⟩) (pe_call (ok_read_number T) (hr.mono (by decide)) (by rfl) T.g_read_number T.F_read_number.kp T.b_read_number .nil pass0 (pa_cons (pv 0) (pa_cons (pv 1) (pa_cons (pe_glob (v := .int 4) (by rfl) T.g_NUMBER_WIDTH ⟨_, rfl⟩) pa_nil)))))))
      (pss_cons (ps_if (pt_cmpR op_gt (pv 3) (pe_callB call_len_seq (by rfl) T.z_len (by decide +kernel) (pa_cons (pv 0) pa_nil)) (nomark _))
        (pss_one (ps_ret pe_non))
        pss_nil)
      (pss_one (ps_ret (pv 3))))))), ?_⟩
  (try dsimp only [cxOf])
  rw [show start ["data", "place", "pairs_place", "end"] [.ref d, .int (pl : Int)] = [some (.ref d), some (.int (pl : Int)), none, none] from rfl]
  refine q_set (v := .int ((pl : Int) + 4)) (by walk_at "val") ?_
  walk_at "nrm"
  have hlen : ((xs.map V.int).length : Int) = (xs.length : Int) := by rw [List.length_map]
  refine q_when (b := decide ((pl : Int) + 4 > ((xs.map V.int).length : Nat))) (by walk_at "ans") (fun hb => ?_) (fun hb => ?_)
  · have hb := of_decide_eq_true hb
    refine s_ret (v := .non) val_c ?_
    have : gEnd xs pl = none := by unfold gEnd; exact if_pos (by omega)
    rw [this] at q
    exact q
  · have hb := of_decide_eq_false hb
    have hp4 : pl + 4 ≤ xs.length := by omega
    refine q_setg ?_
    refine ⟨_, rfl, _, rfl, _, rfl, d, xs, pl, 4, rfl, hd, by omega, hx, ?_⟩
    have hc : nv ((xs.drop pl).take 4) = (cnt xs pl : Int) := by
      unfold cnt
      exact (Int.toNat_of_nonneg (nv_pos _ fun x hx => h0 x (List.mem_of_mem_drop (List.mem_of_mem_take hx)))).symm
    rw [hc]
    refine ⟨260, (cnt xs pl : Int), rfl, rfl, .inl ⟨by decide, by decide⟩, (pl : Int) + 4, 260 * (cnt xs pl : Int), rfl, rfl, ?_⟩
    walk_at "nrm"
    refine q_when (b := decide ((pl : Int) + 4 + 260 * (cnt xs pl : Int) > ((xs.map V.int).length : Nat))) (by walk_at "ans") (fun hb => ?_) (fun hb => ?_)
    · have hb := of_decide_eq_true hb
      refine s_ret (v := .non) val_c ?_
      have : gEnd xs pl = none := by unfold gEnd; rw [if_neg (by omega)]; exact if_pos (by omega)
      rw [this] at q
      exact q
    · have hb := of_decide_eq_false hb
      refine s_ret (val_var rfl) ?_
      have : gEnd xs pl = some (pl + 4 + 260 * cnt xs pl) := by unfold gEnd; rw [if_neg (by omega)]; exact if_neg (by omega)
      rw [this] at q
      rw [show (pl : Int) + 4 + 260 * (cnt xs pl : Int) = ((pl + 4 + 260 * cnt xs pl : Nat) : Int) from by omega]
      exact q
def spRP (K : Frag) : Sp := fun vs H Q _ => ∃ (d : Addr) (xs : List Int) (pl n : Nat), vs = [.ref d, .int (pl : Int), .int ((pl + 260 * n : Nat) : Int)] ∧ SqL K H d (xs.map V.int) ∧ pl + 260 * n ≤ xs.length ∧ xs.length ≤ 1000000 ∧
  ∀ (p : Addr) (F : Hp) (ws : List V) (H' : Hp), NewIn H F H' → F p = some (.lst ws) → WrIn F ws (prs xs pl n) → Q (.ref p) H'
theorem ok_read_pairs (T : Txt K mg) : FnOk P w K mg base CX0 2 T.f_read_pairs T.fd_read_pairs ["data", "place", "end"] (spRP K) := by
  refine T.F_read_pairs.ok sc_read_pairs (fun vs H Q E h => ?_) (fun cdv A outer s H vs Q E hr h => ?_)
  · obtain ⟨_, _, _, _, rfl, _⟩ := h
    rfl
  obtain ⟨d, xs, pl, n, rfl, hd, hl, hx, q⟩ := h
  refine ⟨_, (pss_cons (ps_set (i := 3) sc_read_pairs.nd rfl (by first | exact Or.inl rfl | exact Or.inr rfl) (pe_lst pa_nil))
      (pss_cons (ps_for PassesOwn.never rfl (pi_range3 (by rfl) T.z_range (pa_cons (pv 1) (pa_cons (pv 2) (pa_cons (pe_glob (v := .int 260) (by rfl) T.g_PAIR_SIZE ⟨_, rfl⟩) pa_nil)))) (pg_name (i := 4) sc_read_pairs.nd rfl (by first | exact Or.inl rfl | exact Or.inr rfl))
        (pss_cons (ps_set (i := 5) sc_read_pairs.nd rfl (by first | exact Or.inl rfl | exact Or.inr rfl) (pe_call (ok_read_number T) (hr.mono (by decide)) (by rfl) T.g_read_number T.F_read_number.kp T.b_read_number .nil pass0 (pa_cons (pv 0) (pa_cons (pv 4) (pa_cons (pe_glob (v := .int 4) (by rfl) T.g_NUMBER_WIDTH ⟨_, rfl⟩) pa_nil)))))
        (pss_one (ps_expr (pe_bm PySem.F.plainAttrs_list PySem.F.slot_list_append PySem.F.type_list_append mt_append (pv 3) (pa_cons (pe_tup (pa_cons (pv 5) (pa_cons (pe_slice sl_list (pv 0) (po_some (pe_op op_add (pv 4) (pe_glob (v := .int 4) (by rfl) T.g_NUMBER_WIDTH ⟨_, rfl⟩))) (po_some (pe_op op_add (pv 4) (pe_glob (v := .int 260) (by rfl) T.g_PAIR_SIZE ⟨_, rfl⟩)))) pa_nil))) pa_nil))))))
      (pss_one (ps_ret (pv 3))))), ?_⟩
  (try dsimp only [cxOf])
  rw [show start ["data", "place", "end", "pairs", "at", "number"] [.ref d, .int (pl : Int), .int ((pl + 260 * n : Nat) : Int)] = [some (.ref d), some (.int (pl : Int)), some (.int ((pl + 260 * n : Nat) : Int)), none, none, none] from rfl]
  refine q_setg ?_
  refine ⟨Nat.zero_le _, fun l hl0 => ?_⟩
  walk_at "nrm"
  have N0 : NewIn H (fun _ => none) (upd H l (.lst [])) := .nil (same_upd hl0)
  refine ⟨_, rfl, _, rfl, (pl : Int), ((pl + 260 * n : Nat) : Int), 260, n, rfl, ?_, ?_⟩
  · have := rgC_up (i := (pl : Int)) (n := n) (c := 260) (by decide) (by decide) (by omega) (by omega) (by omega)
    rw [show ((pl + 260 * n : Nat) : Int) = (pl : Int) + ((260 : Nat) : Int) * (n : Int) from by omega]
    exact this
  refine for_rangeC (lo := (pl : Int)) (c := 260) (n := n) (fun i σ' H' => ∃ (F : Hp) (ws : List V) (c4 c5 : Option V), σ' = [some (.ref d), some (.int (pl : Int)), some (.int ((pl + 260 * n : Nat) : Int)), some (.ref l), c4, c5] ∧ NewIn H F H' ∧ F l = none ∧ H' l = some (.lst ws) ∧ WrIn F ws (prs xs pl i))
    ⟨_, [], none, none, rfl, N0, rfl, upd_same, ⟨rfl, fun i v w a _ => by cases a⟩⟩ ?_ ?_
  · rintro i σ' H1 hi ⟨F, ws, c4, c5, rfl, N, hF, el, W⟩
    rw [show (pl : Int) + (i : Int) * 260 = ((pl + 260 * i : Nat) : Int) from by omega]
    refine q_setg ?_
    refine ⟨_, rfl, _, rfl, d, xs, pl + 260 * i, 4, rfl, N.old.seq hd, by omega, hx, ?_⟩
    walk_at "nrm"
    refine ⟨_, rfl, .inl ⟨rfl, _, SqL.of el⟩, _, rfl, _, rfl, _, rfl, ((pl + 260 * i : Nat) : Int), 4, rfl, rfl, _, rfl, _, rfl, ((pl + 260 * i : Nat) : Int), 260, rfl, rfl, _, rfl, d, _, rfl, N.old.seq hd, fun c hc => ⟨by show 2 ≤ sizeLine; decide, fun t ht => ?_⟩⟩
    have ecut : cutV (xs.map V.int) (some (((pl + 260 * i : Nat) : Int) + 4)) (some (((pl + 260 * i : Nat) : Int) + 260)) = ((xs.drop (pl + 260 * i + 4)).take 256).map V.int := by
      have := cut_mid V.int xs (a := pl + 260 * i + 4) (b := pl + 260 * i + 260) (by omega) (by omega)
      rw [show pl + 260 * i + 260 - (pl + 260 * i + 4) = 256 from by omega] at this
      exact this
    rw [ecut] at ht ⊢
    have N1 := N.ext (o := .lst (((xs.drop (pl + 260 * i + 4)).take 256).map V.int)) hc
    have N2 := N1.ext (o := .tup [.int (nv ((xs.drop (pl + 260 * i)).take 4)), .ref c]) ht
    have lc : l ≠ c := ne_of_none el hc
    have el1 : upd H1 c (.lst (((xs.drop (pl + 260 * i + 4)).take 256).map V.int)) l = some (.lst ws) := by rw [upd_ne lc]; exact el
    have lt : l ≠ t := ne_of_none el1 ht
    have ct : c ≠ t := ne_of_none (upd_same : upd H1 c (.lst (((xs.drop (pl + 260 * i + 4)).take 256).map V.int)) c = _) ht
    have hwl : ws.length = i := by
      have := W.len
      unfold prs at this
      rw [List.length_map, List.length_range] at this
      exact this
    refine ⟨l, ws, _, rfl, rfl, by rw [upd_ne lt]; exact el1, Nat.lt_of_le_of_lt (show _ ≤ 1000000 by omega) (by decide), ?_⟩
    have cF : F c = none := N.sm.free hc
    have tF : upd F c (.lst (((xs.drop (pl + 260 * i + 4)).take 256).map V.int)) t = none := N1.sm.free ht
    refine ⟨_, ws ++ [.ref t], _, _, rfl, N2.put hl0 ?_, ?_, upd_same, ?_⟩
    · rw [upd_ne lt, upd_ne lc]; exact hF
    · rw [upd_ne lt, upd_ne lc]; exact hF
    · have e0 : prs xs pl (i + 1) = prs xs pl i ++ [(nv ((xs.drop (pl + 260 * i)).take 4), (xs.drop (pl + 260 * i + 4)).take 256)] := by
        unfold prs
        rw [List.range_succ, List.map_append]
        rfl
      rw [e0]
      refine wr_more (wrIn_ext ((same_upd cF).trans (same_upd tF)) W) ⟨t, c, rfl, upd_same, ?_, ?_⟩
      · rw [upd_ne ct]; exact upd_same
      · rw [List.length_take]; omega
  · rintro σ' H1 ⟨F, ws, c4, c5, rfl, N, hF, el, W⟩
    exact s_ret (val_var rfl) (q l _ ws H1 (N.frz hl0 el) upd_same (wrIn_ext (same_upd hF) W))
def spRG (K : Frag) : Sp := fun vs H Q _ => ∃ (d : Addr) (xs : List Int) (gs : List (List (Int × List Int))), vs = [.ref d] ∧ SqL K H d (xs.map V.int) ∧ (∀ x ∈ xs, 0 ≤ x) ∧ xs.length ≤ 1000000 ∧ Grps xs 0 gs ∧
  ∀ (p : Addr) (F : Hp) (us : List V) (H' : Hp), NewIn H F H' → F p = some (.lst us) → GsIn F us gs → Q (.ref p) H'
theorem optE_ne (e : Option Nat) : (!decide (optE e = V.non)) = e.isSome := by
  cases e with
  | none => rfl
  | some e => rfl
theorem ok_read_groups (T : Txt K mg) : FnOk P w K mg base CX0 3 T.f_read_groups T.fd_read_groups ["data"] (spRG K) := by
  refine T.F_read_groups.ok sc_read_groups (fun vs H Q E h => ?_) (fun cdv A outer s H vs Q E hr h => ?_)
  · obtain ⟨_, _, _, rfl, _⟩ := h
    rfl
  obtain ⟨d, xs, gs, rfl, hd, h0, hx, G, q⟩ := h
  refine ⟨_, (pss_cons (ps_set (i := 1) sc_read_groups.nd rfl (by first | exact Or.inl rfl | exact Or.inr rfl) (pe_lst pa_nil))
      (pss_cons (ps_set (i := 2) sc_read_groups.nd rfl (by first | exact Or.inl rfl | exact Or.inr rfl) pe_int)
      (pss_cons (ps_set (i := 3) sc_read_groups.nd rfl (by first | exact Or.inl rfl | exact Or.inr rfl) (pe_call (ok_group_end T) (hr.mono (by decide)) (by rfl) T.g_group_end T.F_group_end.kp T.b_group_end .nil pass0 (pa_cons (pv 0) (pa_cons (pv 2) pa_nil))))
      (pss_cons (ps_while PassesOwn.never (pt_cmpR op_notN (pv 3) pe_non (nomark _))
        (pss_cons (ps_expr (pe_bm PySem.F.plainAttrs_list PySem.F.slot_list_append PySem.F.type_list_append mt_append (pv 1) (pa_cons (pe_call (ok_read_pairs T) (hr.mono (by decide)) (by rfl) T.g_read_pairs T.F_read_pairs.kp T.b_read_pairs .nil pass0 (pa_cons (pv 0) (pa_cons (pe_op op_add (pv 2) (pe_glob (v := .int 4) (by rfl) T.g_NUMBER_WIDTH ⟨_, rfl⟩)) (pa_cons (pv 3) pa_nil)))) pa_nil)))
        (pss_cons (ps_set (i := 2) sc_read_groups.nd rfl (by first | exact Or.inl rfl | exact Or.inr rfl) (pv 3))
        (pss_one (ps_set (i := 3) sc_read_groups.nd rfl (by first | exact Or.inl rfl | exact Or.inr rfl) (pe_call (ok_group_end T) (hr.mono (by decide)) (by rfl) T.g_group_end T.F_group_end.kp T.b_group_end .nil pass0 (pa_cons (pv 0) (pa_cons (pv 2) pa_nil))))))))
      (pss_one (ps_ret (pv 1))))))), ?_⟩
  (try dsimp only [cxOf])
  rw [show start ["data", "groups", "place", "end"] [.ref d] = [some (.ref d), none, none, none] from rfl]
  refine q_setg ?_
  refine ⟨Nat.zero_le _, fun l hl0 => ?_⟩
  walk_at "nrm"
  have N0 : NewIn H (fun _ => none) (upd H l (.lst [])) := .nil (same_upd hl0)
  refine q_set (v := .int 0) (by walk_at "val") ?_
  walk_at "nrm"
  refine q_setg ?_
  refine ⟨_, rfl, _, rfl, d, xs, 0, rfl, N0.old.seq hd, h0, hx, by decide, ?_⟩
  walk_at "nrm"
  refine while_by (fun σ' H' => ∃ (pl : Nat) (F : Hp) (us : List V) (g1 g2 : List (List (Int × List Int))), σ' = [some (.ref d), some (.ref l), some (.int (pl : Int)), some (optE (gEnd xs pl))] ∧ pl ≤ 1000000 ∧ NewIn H F H' ∧ F l = none ∧ H' l = some (.lst us) ∧ GsIn F us g1 ∧ g1 ++ g2 = gs ∧ Grps xs pl g2 ∧ us.length ≤ pl)
    (fun σ' _ => match σ'[2]? with | some (some (V.int pl)) => 1000001 - pl.toNat | _ => 0) ⟨0, _, [], [], gs, rfl, by decide, N0, rfl, upd_same, ⟨rfl, fun i v w a _ => by cases a⟩, rfl, G, Nat.le_refl _⟩ ?_ ?_
  · rintro σ' H1 ⟨pl, F, us, g1, g2, rfl, hp, N, hF, el, GI, eg, G2, hu⟩
    refine ⟨_, rfl, rfl, _, rfl, ?_⟩
    rw [optE_ne]
    cases G2 with
    | nil he =>
      rw [he, if_neg (show ¬ (none : Option Nat).isSome = true from Bool.false_ne_true)]
      rw [List.append_nil] at eg
      subst eg
      exact s_ret (val_var rfl) (q l _ us H1 (N.frz hl0 el) upd_same (gsIn_ext (same_upd hF) GI))
    | @cons _ e gs' he G3 =>
      obtain ⟨e1, e2, e3⟩ := gEnd_le he
      rw [he, if_pos (show (some e).isSome = true from rfl)]
      refine ⟨_, rfl, .inl ⟨rfl, _, SqL.of el⟩, _, rfl, _, rfl, (pl : Int), 4, rfl, rfl, _, rfl, d, xs, pl + 4, cnt xs pl, ?_, N.old.seq hd, by omega, hx, fun p F2 ws H2 N2 ep W => ?_⟩
      · rw [e1]
        rfl
      have hpF : H1 p = none := N2.new _ _ ep
      have el2 : H2 l = some (.lst us) := N2.old _ _ el
      have lF2 : F2 l = none := by
        cases h : F2 l with
        | none => rfl
        | some o =>
          have := N2.new _ _ h
          rw [el] at this
          cases this
      -- both ghosts in one
      have hdis : ∀ b o, F2 b = some o → F b = none := fun b o h => N.sm.free (N2.new b o h)
      refine ⟨l, us, _, rfl, rfl, el2, Nat.lt_of_le_of_lt (show _ ≤ 1000000 by omega) (by decide), ?_⟩
      refine q_set (v := .int (e : Int)) (val_var rfl) ?_
      walk_at "nrm"
      refine s_setg ?_
      have sJ1 : Same F (joinF F F2) := joinF_left
      have sJ2 : Same F2 (joinF F F2) := joinF_right hdis
      have NJ : NewIn H (joinF F F2) (upd H2 l (.lst (us ++ [.ref p]))) := by
        refine NewIn.put ?_ hl0 ?_
        · exact NewIn.join N N2
        · unfold joinF; rw [hF]; exact lF2
      refine ⟨_, rfl, _, rfl, d, xs, e, rfl, NJ.old.seq hd, h0, hx, by omega, ?_⟩
      refine ⟨⟨e, joinF F F2, us ++ [.ref p], g1 ++ [prs xs (pl + 4) (cnt xs pl)], gs', rfl, by omega, NJ, by unfold joinF; rw [hF]; exact lF2, upd_same, gs_more (gsIn_ext sJ1 GI) (sJ2 _ _ ep) (wrIn_ext sJ2 W), by rw [List.append_assoc]; exact eg, G3, by rw [List.length_append]; show us.length + 1 ≤ e; omega⟩, ?_⟩
      show 1000001 - ((e : Int)).toNat < 1000001 - ((pl : Int)).toNat
      omega
  · rintro σ' H1 Q Q' hq ⟨v, hv, h⟩
    exact ⟨v, hv, h.1, h.2.imp fun k hk => ⟨hk.1, hq _ _ hk.2⟩⟩

end
end K06


namespace K06
open PySem L2 Nv RZ
local macro_rules | `(tactic| walk_at "hp") => `(tactic| first
  | assumption
  | exact upd_same
  | exact (upd_ne (by assumption)).trans (by first | assumption | exact upd_same | exact (upd_ne (by assumption)).trans (by first | assumption | exact upd_same))
  | exact (upd_ne (Ne.symm (by assumption))).trans (by first | assumption | exact upd_same))
local macro_rules | `(tactic| walk_at "cond") => `(tactic| first
  | (change (0 : Int) < _; first | decide | omega)
  | exact Or.inr ⟨by decide, by decide⟩
  | exact Or.inl ⟨by decide, by decide⟩
  | exact Or.inr ⟨by omega, by omega⟩
  | exact Or.inl ⟨by omega, by omega⟩
  | exact ⟨by decide, by decide, by decide⟩
  | exact wide_div (by first | decide | omega) (show _ < 2 ^ 64 by first | decide | omega) (by decide) (by decide)
  | (change (0 : Int) ≤ _; first | decide | omega)
  | exact ⟨by decide, by decide⟩
  | exact ⟨by omega, by omega⟩)
local macro_rules | `(tactic| walk_at "val") => `(tactic| first
  | (with_reducible exact val_c)
  | ((with_reducible apply val_var); exact rfl)
  | ((with_reducible apply val_I0); walk_at "val"; walk_at "val")
  | ((with_reducible apply val_I); walk_at "val"; walk_at "val"; walk_at "cond")
  | ((with_reducible apply val_ixL); walk_at "val"; walk_at "val"; (first | exact SqL.of (by walk_at "hp") | assumption); exact rfl)
  | ((with_reducible apply val_len); walk_at "val"; first | exact Or.inl (SqL.of (by walk_at "hp")) | exact Or.inl (by assumption) | exact Or.inr (by assumption) | exact Or.inr (SqT.of (by walk_at "hp")))
  | ((with_reducible apply val_int1); walk_at "val")
  | ((with_reducible apply val_abs); walk_at "val")
  | ((with_reducible apply val_max2); walk_at "val"; walk_at "val")
  | ((with_reducible apply val_eq); walk_at "val"; walk_at "val"; exact rfl)
  | ((with_reducible apply val_ne); walk_at "val"; walk_at "val"; exact rfl)
  | ((with_reducible apply val_not); walk_at "val")
  | ((with_reducible apply val_U); walk_at "val"))
local macro_rules | `(tactic| walk_at "ans") => `(tactic| first
  | ((with_reducible apply ans_Eq); walk_at "val"; walk_at "val"; exact rfl)
  | ((with_reducible apply ans_Ne); walk_at "val"; walk_at "val"; exact rfl)
  | ((with_reducible apply ans_I0); walk_at "val"; walk_at "val"; exact rfl)
  | ((with_reducible refine ans_And ?_ (fun _ => ?_)); walk_at "ans"; walk_at "ans")
  | ((with_reducible refine ans_or2 ?_ (fun _ => ?_)); walk_at "ans"; walk_at "ans")
  | ((with_reducible refine ans_not ?_); walk_at "ans")
  | ((with_reducible apply ans_val); walk_at "val"))
local macro_rules | `(tactic| walk_at "nrm") => `(tactic| (try dsimp only [List.set_cons_zero, List.set_cons_succ]))
local macro_rules | `(tactic| walk_at "set") => `(tactic| first
  | ((with_reducible apply q_set); walk_at "val"; walk_at "nrm")
  | ((with_reducible apply s_set); walk_at "val"; walk_at "nrm"))
local macro_rules | `(tactic| walk_at "setL") => `(tactic| first
  | ((with_reducible apply q_setL); walk_at "val"; walk_at "val"; walk_at "val"; walk_at "hp"; exact rfl; walk_at "nrm")
  | ((with_reducible apply s_setL); walk_at "val"; walk_at "val"; walk_at "val"; walk_at "hp"; exact rfl; walk_at "nrm"))
local macro_rules | `(tactic| walk_at "ff") => `(tactic| (walk_at "nrm"; rw [if_neg (by decide)]; (try ((with_reducible refine st_next ?_); walk_at "nrm"))))
local macro_rules | `(tactic| walk_at "nok") => `(tactic| (refine ⟨_, rfl, rfl, _, rfl, ?_⟩; walk_at "nrm"; rw [if_neg (by decide)]))
local macro_rules | `(tactic| walk_at "yesk") => `(tactic| (refine ⟨_, rfl, rfl, _, rfl, ?_⟩; walk_at "nrm"; rw [if_pos (by decide)]))
local macro_rules | `(tactic| walk_at "no") => `(tactic| (walk_at "nrm"; rw [if_neg (by decide)]; walk_at "nrm"))
local macro_rules | `(tactic| walk_at "yes") => `(tactic| (walk_at "nrm"; rw [if_pos (by decide)]; walk_at "nrm"))
local macro_rules | `(tactic| walk_at "nos") => `(tactic| (walk_at "nrm"; repeat (rw [if_neg (by decide)]; walk_at "nrm"); (try ((with_reducible refine st_next ?_); walk_at "nrm"))))

section
variable {P : Program} {w : World} {K : PySem.W.Frag} {mg : Str → Option Value} {base : Heap}
theorem repZ (n : Nat) : (List.replicate n [V.int 0]).flatten = (List.replicate n (0 : Int)).map V.int := by
  induction n with
  | zero => rfl
  | succ n ih => rw [List.replicate_succ, List.flatten_cons, ih, List.replicate_succ]; rfl
def spPad : Sp := fun vs H Q _ => ∃ (a : Addr) (xs : List Int), vs = [.ref a] ∧ H a = some (.lst (xs.map V.int)) ∧ xs.length ≤ 256 ∧ ∀ (p : Addr) (H' : Hp), Same H H' → H p = none → H' p = some (.lst ((padL xs).map V.int)) → Q (.ref p) H'
def spPR (CD CP : Addr) : Sp := fun vs H Q _ => ∃ (pg : Addr) (P : PG) (s : PS) (n : Int), vs = [.ref pg, .int n] ∧ PagAt CD CP H pg P s ∧ ∀ (p : Addr) (H' : Hp), Same H H' → H p = none → H' p = some (.lst ((s.read n).map V.int)) → Q (.ref p) H'
theorem ok_Pager_read (T : Txt K mg) : FnOk P w K mg base CX0 3 T.f_Pager_read T.fd_Pager_read ["self", "number"] (spPR T.C_Device T.C_Pager) := by
  refine T.F_Pager_read.ok sc_Pager_read (fun vs H Q E h => ?_) (fun cdv A outer s H vs Q E hr h => ?_)
  · obtain ⟨_, _, _, _, rfl, _⟩ := h
    rfl
  obtain ⟨pg, P, s, n, rfl, D, q⟩ := h
  refine ⟨_, (pss_cons (ps_if (pt_cmp (pc_din (hu_of hr) (pv 1) (pe_fld (pv 0) rfl)))
        (pss_one (ps_ret (pe_callTy call_list_of (by rfl) T.z_list (by decide +kernel) (pa_cons (pe_dget (hu_of hr) (pe_fld (pv 0) rfl) (pv 1) (fun _ _ => rfl)) pa_nil))))
        pss_nil)
      (pss_cons (ps_if (pt_cmp (pc_din (hu_of hr) (pv 1) (pe_fld (pv 0) rfl)))
        (pss_one (ps_ret (pe_callTy call_list_of (by rfl) T.z_list (by decide +kernel) (pa_cons (pe_dget (hu_of hr) (pe_fld (pv 0) rfl) (pv 1) (fun _ _ => rfl)) pa_nil))))
        pss_nil)
      (pss_one (ps_ret (pe_meth (pe_fld (pv 0) rfl) T.cl_Device T.m_Device_page (ok_Device_page T) (hr.mono (by decide)) T.b_Device_page .nil pass0 (pa_cons (pv 1) pa_nil)))))), ?_⟩
  (try dsimp only [cxOf])
  rw [show start ["self", "number"] [.ref pg, .int n] = [some (.ref pg), some (.int n)] from rfl]
  refine ⟨_, rfl, _, rfl, pg, T.C_Pager, P.px, pagF P, _, rfl, D.at_, T.cl_Pager, T.n_Pager__dirty, lkp_dd, P.dd, valV P.kd (.inl n), rfl, DGet.k (k := .inl n) D.dd, _, rfl, ?_⟩
  walk_at "nrm"
  rcases dcIn_get n D.di with ⟨e1, e2⟩ | ⟨p, xs, e1, e2, e3, e4⟩
  · rw [e1, if_neg (show ¬ (none : Option V).isSome = true from Bool.false_ne_true)]
    refine ⟨_, rfl, _, rfl, pg, T.C_Pager, P.px, pagF P, _, rfl, D.at_, T.cl_Pager, T.n_Pager__committed_since_checkpoint, lkp_cc, P.cc, valV P.kc (.inl n), rfl, DGet.k (k := .inl n) D.cc, _, rfl, ?_⟩
    walk_at "nrm"
    rcases dcIn_get n D.ci with ⟨c1, c2⟩ | ⟨p, xs, c1, c2, c3, c4⟩
    · rw [c1, if_neg (show ¬ (none : Option V).isSome = true from Bool.false_ne_true)]
      refine ⟨_, rfl, pg, T.C_Pager, P.px, pagF P, _, rfl, D.at_, T.cl_Pager, T.n_Pager__device, lkp_dev, P.dev, P.g.dx, devF P.g s.dev, rfl, D.dev.at_, lk_no (by decide +kernel), _, rfl, P.dev, P.g, s.dev, n, rfl, D.dev, fun p H' s1 np ep => q p H' s1 np ?_⟩
      rw [ep]
      unfold PS.read
      rw [e2, c2]
    · rw [c1, if_pos (show (some (V.ref p)).isSome = true from rfl)]
      refine ⟨_, rfl, pg, T.C_Pager, P.px, pagF P, _, rfl, D.at_, T.cl_Pager, T.n_Pager__committed_since_checkpoint, lkp_cc, _, rfl, P.cc, .ref p, rfl, by rw [← c1]; exact DGet.k (k := .inl n) D.cc, p, _, rfl, .inl (SqL.of (D.sm _ _ c3)), fun l hl => ?_⟩
      refine q l _ (same_upd hl) hl ?_
      unfold PS.read
      rw [upd_same, e2, c2]
  · rw [e1, if_pos (show (some (V.ref p)).isSome = true from rfl)]
    refine ⟨_, rfl, pg, T.C_Pager, P.px, pagF P, _, rfl, D.at_, T.cl_Pager, T.n_Pager__dirty, lkp_dd, _, rfl, P.dd, .ref p, rfl, by rw [← e1]; exact DGet.k (k := .inl n) D.dd, p, _, rfl, .inl (SqL.of (D.sm _ _ e3)), fun l hl => ?_⟩
    refine q l _ (same_upd hl) hl ?_
    unfold PS.read
    rw [upd_same, e2]
def spPW (CD CP : Addr) : Sp := fun vs H Q _ => ∃ (pg : Addr) (P : PG) (s : PS) (n : Int) (a : Addr) (xs : List Int), vs = [.ref pg, .int n, .ref a] ∧ PagAt CD CP H pg P s ∧ H a = some (.lst (xs.map V.int)) ∧ xs.length ≤ 1000 ∧ s.dirty.length ≤ 1000000 ∧
  ∀ (P' : PG) (H' : Hp), PagAt CD CP H' pg P' (s.write n xs) → Frm (ownP pg P) H (ownP pg P') H' → P'.dev = P.dev → P'.g = P.g → Q .non H'
theorem ok_Pager_write (T : Txt K mg) : FnOk P w K mg base CX0 1 T.f_Pager_write T.fd_Pager_write ["self", "number", "data"] (spPW T.C_Device T.C_Pager) := by
  refine T.F_Pager_write.ok sc_Pager_write (fun vs H Q E h => ?_) (fun cdv A outer s H vs Q E hr h => ?_)
  · obtain ⟨_, _, _, _, _, _, rfl, _⟩ := h
    rfl
  obtain ⟨pg, P, s, n, a, xs, rfl, D, hA, hx, hb, q⟩ := h
  refine ⟨_, (pss_one (ps_dput (hu_of hr) (pe_fld (pv 0) rfl) (pv 1) (pe_callTy call_list_of (by rfl) T.z_list (by decide +kernel) (pa_cons (pv 2) pa_nil)) rfl)), ?_⟩
  (try dsimp only [cxOf])
  rw [show start ["self", "number", "data"] [.ref pg, .int n, .ref a] = [some (.ref pg), some (.int n), some (.ref a)] from rfl]
  refine ⟨_, rfl, a, _, rfl, .inl (SqL.of hA), fun l hl => ?_⟩
  have D1 := D.ext (o := .lst (xs.map V.int)) hl
  refine ⟨_, rfl, pg, T.C_Pager, P.px, pagF _, _, rfl, D1.at_, T.cl_Pager, T.n_Pager__dirty, lkp_dd, _, rfl, P.dd, _, rfl, DPut.k (k := .inl n) D1.dd ?_, ?_⟩
  · show P.kd.length < sizeLine
    rw [dcIn_len D.di]
    exact Nat.lt_of_le_of_lt hb (by decide)
  · exact q _ _ (D1.put (n := n) (p := l) (xs := xs) upd_same hx) ((Frm.ext hl).trans Frm.dd) rfl rfl
def spPF (CD CP : Addr) : Sp := fun vs H Q _ => ∃ (pg : Addr) (P : PG) (s : PS) (k : Nat), vs = [.ref pg, .int (k : Int)] ∧ PagAt CD CP H pg P s ∧ k ≤ 7 ∧ (s.read 0).length = 256 ∧ ∀ H' : Hp, Same H H' → Q (.int (s.field k)) H'
theorem ok_Pager_field (T : Txt K mg) : FnOk P w K mg base CX0 4 T.f_Pager_field T.fd_Pager_field ["self", "k"] (spPF T.C_Device T.C_Pager) := by
  refine T.F_Pager_field.ok sc_Pager_field (fun vs H Q E h => ?_) (fun cdv A outer s H vs Q E hr h => ?_)
  · obtain ⟨_, _, _, _, rfl, _⟩ := h
    rfl
  obtain ⟨pg, P, s, k, rfl, D, hk, hl, q⟩ := h
  refine ⟨_, (pss_one (ps_ret (pe_call (ok_read_number T) (hr.mono (by decide)) (by rfl) T.g_read_number T.F_read_number.kp T.b_read_number .nil pass0 (pa_cons (pe_meth (pv 0) T.cl_Pager T.m_Pager_read (ok_Pager_read T) (hr.mono (by decide)) T.b_Pager_read .nil pass0 (pa_cons (pe_glob (v := .int 0) (by rfl) T.g_HEAD ⟨_, rfl⟩) pa_nil)) (pa_cons (pe_op op_mul (pe_glob (v := .int 4) (by rfl) T.g_NUMBER_WIDTH ⟨_, rfl⟩) (pv 1)) (pa_cons (pe_glob (v := .int 4) (by rfl) T.g_NUMBER_WIDTH ⟨_, rfl⟩) pa_nil)))))), ?_⟩
  (try dsimp only [cxOf])
  rw [show start ["self", "k"] [.ref pg, .int (k : Int)] = [some (.ref pg), some (.int (k : Int))] from rfl]
  refine ⟨_, rfl, pg, P.px, pagF P, rfl, D.at_, lkp_no (by decide +kernel), pg, P, s, 0, rfl, D, fun p H1 s1 np e1 => ?_⟩
  refine ⟨_, rfl, 4, (k : Int), rfl, rfl, .inl ⟨by decide, by decide⟩, p, s.read 0, 4 * k, 4, ?_, SqL.of e1, by omega, by omega, q H1 s1⟩
  rw [show ((4 * k : Nat) : Int) = 4 * (k : Int) from by omega]
  rfl
def spPS (CD CP : Addr) : Sp := fun vs H Q _ => ∃ (pg : Addr) (P : PG) (s : PS) (k : Nat) (v : Int), vs = [.ref pg, .int (k : Int), .int v] ∧ PagAt CD CP H pg P s ∧ k ≤ 7 ∧ (s.read 0).length = 256 ∧ s.dirty.length ≤ 1000000 ∧
  ∀ (P' : PG) (H' : Hp), PagAt CD CP H' pg P' (s.setField k v) → Frm (ownP pg P) H (ownP pg P') H' → P'.dev = P.dev → P'.g = P.g → Q .non H'
theorem ok_Pager_set_field (T : Txt K mg) : FnOk P w K mg base CX0 4 T.f_Pager_set_field T.fd_Pager_set_field ["self", "k", "number"] (spPS T.C_Device T.C_Pager) := by
  refine T.F_Pager_set_field.ok sc_Pager_set_field (fun vs H Q E h => ?_) (fun cdv A outer s H vs Q E hr h => ?_)
  · obtain ⟨_, _, _, _, _, rfl, _⟩ := h
    rfl
  obtain ⟨pg, P, s, k, v, rfl, D, hk, hl, hb, q⟩ := h
  refine ⟨_, (pss_cons (ps_set (i := 3) sc_Pager_set_field.nd rfl (by first | exact Or.inl rfl | exact Or.inr rfl) (pe_op op_mul (pe_glob (v := .int 4) (by rfl) T.g_NUMBER_WIDTH ⟨_, rfl⟩) (pv 1)))
      (pss_cons (ps_set (i := 4) sc_Pager_set_field.nd rfl (by first | exact Or.inl rfl | exact Or.inr rfl) (pe_meth (pv 0) T.cl_Pager T.m_Pager_read (ok_Pager_read T) (hr.mono (by decide)) T.b_Pager_read .nil pass0 (pa_cons (pe_glob (v := .int 0) (by rfl) T.g_HEAD ⟨_, rfl⟩) pa_nil)))
      (pss_cons (ps_asg (pe_call (ok_write_number T) (hr.mono (by decide)) (by rfl) T.g_write_number T.F_write_number.kp T.b_write_number .nil pass0 (pa_cons (pe_glob (v := .int 4) (by rfl) T.g_NUMBER_WIDTH ⟨_, rfl⟩) (pa_cons (pv 2) pa_nil))) (pg_subSl (pv 4) (pe_slc (pv 3) (pe_op op_add (pv 3) (pe_glob (v := .int 4) (by rfl) T.g_NUMBER_WIDTH ⟨_, rfl⟩))) set_slc))
      (pss_one (ps_expr (pe_meth (pv 0) T.cl_Pager T.m_Pager_write (ok_Pager_write T) (hr.mono (by decide)) T.b_Pager_write .nil pass0 (pa_cons (pe_glob (v := .int 0) (by rfl) T.g_HEAD ⟨_, rfl⟩) (pa_cons (pv 4) pa_nil)))))))), ?_⟩
  (try dsimp only [cxOf])
  rw [show start ["self", "k", "number", "place", "head"] [.ref pg, .int (k : Int), .int v] = [some (.ref pg), some (.int (k : Int)), some (.int v), none, none] from rfl]
  refine q_setg ?_
  refine ⟨_, rfl, 4, (k : Int), rfl, rfl, .inl ⟨by decide, by decide⟩, ?_⟩
  walk_at "nrm"
  refine q_setg ?_
  refine ⟨_, rfl, pg, P.px, pagF P, rfl, D.at_, lkp_no (by decide +kernel), pg, P, s, 0, rfl, D, fun h H1 s1 nh eh => ?_⟩
  walk_at "nrm"
  refine ⟨_, rfl, 4, v, rfl, by decide, fun b H2 s2 nb2 eb => ?_⟩
  have eh2 := s2 _ _ eh
  refine ⟨_, rfl, _, rfl, _, rfl, 4 * (k : Int), 4, rfl, rfl, _, _, rfl, rfl, fun sl hsl => ?_⟩
  have s3 := same_upd (o := slcHO sl (4 * (k : Int)) (4 * (k : Int) + 4)) hsl
  have hne : h ≠ b := fun z => by rw [z, nb2] at eh; cases eh
  refine ⟨h, sl, b, _, _, _, _, rfl, rfl, rfl, s3 _ _ eh2, upd_same, s3 _ _ eb, hne, by omega, by omega, ?_, ?_, ?_⟩
  · rw [List.length_map, hl]; omega
  · rw [List.length_map, List.length_map, hl, nb_len]
    decide
  have ecut : List.take (4 * (k : Int)).toNat ((s.read 0).map V.int) ++ (nb 4 v).map V.int ++ List.drop (4 * (k : Int) + 4).toNat ((s.read 0).map V.int) = (setF (s.read 0) k v).map V.int := by
    unfold setF
    rw [show (4 * (k : Int)).toNat = 4 * k from by omega, show (4 * (k : Int) + 4).toNat = 4 * k + 4 from by omega, List.map_append, List.map_append, List.map_take, List.map_drop]
  rw [ecut]
  have hH : H h = none := nh
  have s4 : Same H (upd (upd H2 sl (slcHO sl (4 * (k : Int)) (4 * (k : Int) + 4))) h (.lst ((setF (s.read 0) k v).map V.int))) := fun b o e => by
    rw [upd_ne (ne_of_none e hH)]
    exact s3 _ _ (s2 _ _ (s1 _ _ e))
  have eh4 : upd (upd H2 sl (slcHO sl (4 * (k : Int)) (4 * (k : Int) + 4))) h (.lst ((setF (s.read 0) k v).map V.int)) h = some (.lst ((setF (s.read 0) k v).map V.int)) := upd_same
  generalize upd (upd H2 sl (slcHO sl (4 * (k : Int)) (4 * (k : Int) + 4))) h (.lst ((setF (s.read 0) k v).map V.int)) = H4 at s4 eh4
  have D4 := D.same s4
  refine ⟨_, rfl, pg, P.px, pagF P, rfl, D4.at_, lkp_no (by decide +kernel), _, rfl, pg, P, s, 0, h, setF (s.read 0) k v, rfl, D4, eh4, by rw [setF_len hl hk]; decide, hb, fun P' H5 D5 f5 e1 e2 => ?_⟩
  exact q P' H5 D5 ((Frm.same s4).trans f5) e1 e2
theorem zeros_pad : padL [] = zeros := rfl
theorem read_all_write {s : PS} {n : Int} {xs : List Int} (h : ∀ j, (s.read j).length = 256) (hx : xs.length = 256) : ∀ j, ((s.write n xs).read j).length = 256 := fun j => by
  rw [read_write]
  split
  · exact hx
  · exact h j
theorem read_all_setF {s : PS} {k : Nat} {v : Int} (hk : k ≤ 7) (h : ∀ j, (s.read j).length = 256) : ∀ j, ((s.setField k v).read j).length = 256 := read_all_write h (setF_len (h 0) hk)
theorem setF_dirty (s : PS) (k : Nat) (v : Int) : (s.setField k v).dirty.length ≤ s.dirty.length + 1 := putL_le _ _ _
def spPA (CD CP : Addr) : Sp := fun vs H Q _ => ∃ (pg : Addr) (P : PG) (s : PS), vs = [.ref pg] ∧ PagAt CD CP H pg P s ∧ (∀ j, (s.read j).length = 256) ∧ s.dirty.length ≤ 900000 ∧
  ∀ (P' : PG) (H' : Hp), PagAt CD CP H' pg P' s.alloc → Frm (ownP pg P) H (ownP pg P') H' → P'.dev = P.dev → P'.g = P.g → Q (.int s.allocN) H'
def spPRl (CD CP : Addr) : Sp := fun vs H Q _ => ∃ (pg : Addr) (P : PG) (s : PS) (n : Int), vs = [.ref pg, .int n] ∧ PagAt CD CP H pg P s ∧ (∀ j, (s.read j).length = 256) ∧ s.dirty.length ≤ 900000 ∧
  ∀ (P' : PG) (H' : Hp), PagAt CD CP H' pg P' (s.release n) → Frm (ownP pg P) H (ownP pg P') H' → P'.dev = P.dev → P'.g = P.g → Q .non H'
def spPC (CD CP : Addr) : Sp := fun vs H Q _ => ∃ (pg : Addr) (P : PG) (s : PS), vs = [.ref pg] ∧ PagAt CD CP H pg P s ∧ (s.read 0).length = 256 ∧ s.dirty.length ≤ 900000 ∧
  ∀ (P' : PG) (H' : Hp), PagAt CD CP H' pg P' s.count → Frm (ownP pg P) H (ownP pg P') H' → P'.dev = P.dev → P'.g = P.g → Q .non H'
theorem ok_Pager_count_the_head (T : Txt K mg) : FnOk P w K mg base CX0 5 T.f_Pager_count_the_head T.fd_Pager_count_the_head ["self"] (spPC T.C_Device T.C_Pager) := by
  refine T.F_Pager_count_the_head.ok sc_Pager_count_the_head (fun vs H Q E h => ?_) (fun cdv A outer s H vs Q E hr h => ?_)
  · obtain ⟨_, _, _, rfl, _⟩ := h
    rfl
  obtain ⟨pg, P, s, rfl, D, hl, hb, q⟩ := h
  refine ⟨_, (pss_one (ps_if (pt_cmpR op_eq (pe_meth (pv 0) T.cl_Pager T.m_Pager_field (ok_Pager_field T) (hr.mono (by decide)) T.b_Pager_field .nil pass0 (pa_cons (pe_glob (v := .int 6) (by rfl) T.g_PAGE_COUNT ⟨_, rfl⟩) pa_nil)) pe_int (nomark _))
        (pss_one (ps_expr (pe_meth (pv 0) T.cl_Pager T.m_Pager_set_field (ok_Pager_set_field T) (hr.mono (by decide)) T.b_Pager_set_field .nil pass0 (pa_cons (pe_glob (v := .int 6) (by rfl) T.g_PAGE_COUNT ⟨_, rfl⟩) (pa_cons pe_int pa_nil)))))
        pss_nil)), ?_⟩
  (try dsimp only [cxOf])
  rw [show start ["self"] [.ref pg] = [some (.ref pg)] from rfl]
  refine ⟨_, rfl, pg, P.px, pagF P, rfl, D.at_, lkp_no (by decide +kernel), pg, P, s, 6, rfl, D, by decide, hl, fun H1 s1 => ?_⟩
  refine ⟨rfl, _, rfl, ?_⟩
  walk_at "nrm"
  have D1 := D.same s1
  by_cases h6 : s.field 6 = 0
  · rw [if_pos (show decide (V.int (s.field 6) = V.int 0) = true from decide_eq_true (congrArg V.int h6))]
    refine ⟨_, rfl, pg, P.px, pagF P, rfl, D1.at_, lkp_no (by decide +kernel), pg, P, s, 6, 1, rfl, D1, by decide, hl, by omega, fun P2 H2 D2 f2 e1 e2 => ?_⟩
    refine q P2 H2 ?_ ((Frm.same s1).trans f2) e1 e2
    rw [show s.count = s.setField 6 1 from if_pos h6]
    exact D2
  · rw [if_neg (show ¬ decide (V.int (s.field 6) = V.int 0) = true from fun z => h6 (V.int.inj (of_decide_eq_true z)))]
    refine q P H1 ?_ (Frm.same s1) rfl rfl
    rw [show s.count = s from if_neg h6]
    exact D1
def spPB (CD CP : Addr) : Sp := fun vs H Q _ => ∃ (pg : Addr) (P : PG) (s : PS), vs = [.ref pg] ∧ PagAt CD CP H pg P s ∧ (({ s with dirty := [] } : PS).read 0).length = 256 ∧
  ∀ (P' : PG) (H' : Hp), PagAt CD CP H' pg P' s.rollback → Frm (ownP pg P) H (ownP pg P') H' → P'.dev = P.dev → P'.g = P.g → Q .non H'
end
end K06


namespace K06
open PySem L2 Nv RZ
local macro_rules | `(tactic| walk_at "hp") => `(tactic| first
  | assumption
  | exact upd_same
  | exact (upd_ne (by assumption)).trans (by first | assumption | exact upd_same | exact (upd_ne (by assumption)).trans (by first | assumption | exact upd_same))
  | exact (upd_ne (Ne.symm (by assumption))).trans (by first | assumption | exact upd_same))
local macro_rules | `(tactic| walk_at "cond") => `(tactic| first
  | (change (0 : Int) < _; first | decide | omega)
  | exact Or.inr ⟨by decide, by decide⟩
  | exact Or.inl ⟨by decide, by decide⟩
  | exact Or.inr ⟨by omega, by omega⟩
  | exact Or.inl ⟨by omega, by omega⟩
  | exact ⟨by decide, by decide, by decide⟩
  | exact wide_div (by first | decide | omega) (show _ < 2 ^ 64 by first | decide | omega) (by decide) (by decide)
  | (change (0 : Int) ≤ _; first | decide | omega)
  | exact ⟨by decide, by decide⟩
  | exact ⟨by omega, by omega⟩)
local macro_rules | `(tactic| walk_at "val") => `(tactic| first
  | (with_reducible exact val_c)
  | ((with_reducible apply val_var); exact rfl)
  | ((with_reducible apply val_I0); walk_at "val"; walk_at "val")
  | ((with_reducible apply val_I); walk_at "val"; walk_at "val"; walk_at "cond")
  | ((with_reducible apply val_ixL); walk_at "val"; walk_at "val"; (first | exact SqL.of (by walk_at "hp") | assumption); exact rfl)
  | ((with_reducible apply val_len); walk_at "val"; first | exact Or.inl (SqL.of (by walk_at "hp")) | exact Or.inl (by assumption) | exact Or.inr (by assumption) | exact Or.inr (SqT.of (by walk_at "hp")))
  | ((with_reducible apply val_int1); walk_at "val")
  | ((with_reducible apply val_abs); walk_at "val")
  | ((with_reducible apply val_max2); walk_at "val"; walk_at "val")
  | ((with_reducible apply val_eq); walk_at "val"; walk_at "val"; exact rfl)
  | ((with_reducible apply val_ne); walk_at "val"; walk_at "val"; exact rfl)
  | ((with_reducible apply val_not); walk_at "val")
  | ((with_reducible apply val_U); walk_at "val"))
local macro_rules | `(tactic| walk_at "ans") => `(tactic| first
  | ((with_reducible apply ans_Eq); walk_at "val"; walk_at "val"; exact rfl)
  | ((with_reducible apply ans_Ne); walk_at "val"; walk_at "val"; exact rfl)
  | ((with_reducible apply ans_I0); walk_at "val"; walk_at "val"; exact rfl)
  | ((with_reducible refine ans_And ?_ (fun _ => ?_)); walk_at "ans"; walk_at "ans")
  | ((with_reducible refine ans_or2 ?_ (fun _ => ?_)); walk_at "ans"; walk_at "ans")
  | ((with_reducible refine ans_not ?_); walk_at "ans")
  | ((with_reducible apply ans_val); walk_at "val"))
local macro_rules | `(tactic| walk_at "nrm") => `(tactic| (try dsimp only [List.set_cons_zero, List.set_cons_succ]))
local macro_rules | `(tactic| walk_at "set") => `(tactic| first
  | ((with_reducible apply q_set); walk_at "val"; walk_at "nrm")
  | ((with_reducible apply s_set); walk_at "val"; walk_at "nrm"))
local macro_rules | `(tactic| walk_at "setL") => `(tactic| first
  | ((with_reducible apply q_setL); walk_at "val"; walk_at "val"; walk_at "val"; walk_at "hp"; exact rfl; walk_at "nrm")
  | ((with_reducible apply s_setL); walk_at "val"; walk_at "val"; walk_at "val"; walk_at "hp"; exact rfl; walk_at "nrm"))
local macro_rules | `(tactic| walk_at "ff") => `(tactic| (walk_at "nrm"; rw [if_neg (by decide)]; (try ((with_reducible refine st_next ?_); walk_at "nrm"))))
local macro_rules | `(tactic| walk_at "nok") => `(tactic| (refine ⟨_, rfl, rfl, _, rfl, ?_⟩; walk_at "nrm"; rw [if_neg (by decide)]))
local macro_rules | `(tactic| walk_at "yesk") => `(tactic| (refine ⟨_, rfl, rfl, _, rfl, ?_⟩; walk_at "nrm"; rw [if_pos (by decide)]))
local macro_rules | `(tactic| walk_at "no") => `(tactic| (walk_at "nrm"; rw [if_neg (by decide)]; walk_at "nrm"))
local macro_rules | `(tactic| walk_at "yes") => `(tactic| (walk_at "nrm"; rw [if_pos (by decide)]; walk_at "nrm"))
local macro_rules | `(tactic| walk_at "nos") => `(tactic| (walk_at "nrm"; repeat (rw [if_neg (by decide)]; walk_at "nrm"); (try ((with_reducible refine st_next ?_); walk_at "nrm"))))

section
variable {P : Program} {w : World} {K : PySem.W.Frag} {mg : Str → Option Value} {base : Heap}
theorem fld_of {CD CP pg : Addr} {H : Hp} {P : PG} {s : PS} (D : PagAt CD CP H pg P s) : H pg = some (.ins CP P.px (pagF P)) := D.at_
def cmE (CD CPW : Addr) (pg : Addr) (P : PG) (s : PS) (H : Hp) (E : XK) : Prop := (commitD (srtL s.dirty) s.dev).2 = false → ∀ (g' : DG) (H' : Hp), DevAt CD H' P.dev g' (commitD (srtL s.dirty) s.dev).1 → Frm (ownP pg P) H (own P.dev g') H' → bnd g' (commitD (srtL s.dirty) s.dev).1 ≤ bnd P.g s.dev → E (.ref CPW) none H'
def spPCm (CD CP CPW : Addr) : Sp := fun vs H Q E => ∃ (pg : Addr) (P : PG) (s : PS), vs = [.ref pg] ∧ PagAt CD CP H pg P s ∧ NoDup s.dirty ∧ (∀ w ∈ s.dirty, PairOk w) ∧ s.dirty.length < 64 ∧ s.since.length ≤ 900000 ∧ s.dev.log.length + s.dev.steps.length ≤ 900000 ∧
  (s.dirty ≠ [] → cmE CD CPW pg P s H E) ∧
  ((s.dirty = [] ∨ (commitD (srtL s.dirty) s.dev).2 = true) → ∀ (P' : PG) (H' : Hp), PagAt CD CP H' pg P' s.commit → Frm (ownP pg P) H (ownP pg P') H' → P'.dev = P.dev → bnd P'.g s.commit.dev ≤ bnd P.g s.dev → Q .non H')
theorem same_put {J H : Hp} {p : Addr} {o : HO} (s : Same J H) (n : J p = none) : Same J (upd H p o) := fun b u e => by
  rw [upd_ne (ne_of_none e n)]
  exact s b u e
theorem ok_Pager_commit (T : Txt K mg) : FnOk P w K mg base (L2N.CX P w) 5 T.f_Pager_commit T.fd_Pager_commit ["self"] (spPCm T.C_Device T.C_Pager T.C_PowerCut) := by
  refine T.F_Pager_commit.okN sc_Pager_commit (fun vs H Q E h => ?_) (fun cdv A outer s H vs Q E hr h => ?_)
  · obtain ⟨_, _, _, rfl, _⟩ := h
    rfl
  obtain ⟨pg, P, s, rfl, D, hnd, hok, h64, hsn, hlg, kE, kQ⟩ := h
  refine ⟨_, (pss_cons (ps_if (pt_not (pt_truth (pe_fld (pv 0) rfl) (by intro _; rfl)))
        (pss_one (ps_retN))
        pss_nil)
      (pss_cons (ps_setLc (i := 1) (own := [("number", 2)]) (g := gName 2) (by rfl) sc_Pager_commit.nd rfl rfl (sw_true rfl rfl rfl (by decide +kernel)) (pi_list (pe_callB (call_sortedDI rfl) (by rfl) T.z_sorted (by decide +kernel) (pa_cons (pe_fld (pv 0) rfl) pa_nil))) (blkOk_by (own := [("number", 2)]) (N := ["self", "pairs", "number"]) (sc := defScope s_Pager_commit) (by decide +kernel)) (fun _ _ _ _ _ => pg_name (i := 2) sc_Pager_commit.nd rfl (by first | exact Or.inl rfl | exact Or.inr rfl)) (fun _ _ _ _ _ => pts_nil) (fun _ _ _ _ _ => pe_tup (pa_cons (pv 2) (pa_cons (pe_dget (hu_of hr) (pe_fldK (K := K) rfl (pv 0) rfl) (pv 2) (fun _ _ => rfl)) pa_nil))))
      (pss_cons (ps_expr (pe_meth (pe_fld (pv 0) rfl) T.cl_Device T.m_Device_append (ok_Device_append T) (hr.mono (by decide)) T.b_Device_append .nil (L2N.passes_call (L2N.takes_of rfl rfl rfl rfl) (fun _ _ _ _ z => z)) (pa_cons (pe_call (ok_write_group T) (hr.mono (by decide)) (by rfl) T.g_write_group T.F_write_group.kp T.b_write_group .nil pass0 (pa_cons (pv 1) pa_nil)) pa_nil)))
      (pss_cons (ps_expr (pe_meth0 (pe_fld (pv 0) rfl) T.cl_Device T.m_Device_sync_log (ok_Device_sync_log T) (hr.mono (by decide)) T.b_Device_sync_log .nil (L2N.passes_call (L2N.takes_of rfl rfl rfl rfl) (fun _ _ _ _ z => z))))
      (pss_cons (ps_expr (pe_dupd (pe_fld (pv 0) rfl) (pe_fld (pv 0) rfl) ⟨by rfl, by rfl, by rfl, by rfl⟩))
      (pss_one (ps_fld (pv 0) pe_dnewK rfl))))))), ?_⟩
  (try dsimp only [cxOf])
  rw [show start ["self", "pairs", "number"] [.ref pg] = [some (.ref pg), none, none] from rfl]
  refine ⟨_, rfl, pg, T.C_Pager, P.px, pagF P, _, rfl, D.at_, T.cl_Pager, T.n_Pager__dirty, lkp_dd, _, .inr (.inr ⟨P.kd, D.dd, rfl⟩), ?_⟩
  walk_at "nrm"
  have hkl := dcIn_len D.di
  by_cases he : s.dirty = []
  · have hk : P.kd = [] := List.length_eq_zero_iff.mp (by rw [hkl, he]; rfl)
    rw [hk, if_pos (show (!(!([] : List (Key × V)).isEmpty)) = true from rfl)]
    refine kQ (.inl he) P H ?_ (Frm.refl _ _) rfl ?_
    · rw [show s.commit = s from if_pos he]
      exact D
    · rw [show s.commit = s from if_pos he]
      exact Nat.le_refl _
  have hk : P.kd.isEmpty = false := by
    cases h : P.kd with
    | nil => rw [h] at hkl; exact absurd (List.length_eq_zero_iff.mp hkl.symm) he
    | cons a r => rfl
  rw [hk, if_neg (show ¬ (!(!false)) = true from Bool.false_ne_true)]
  have kE := kE he
  have hco : s.commit = s.committed := if_neg he
  walk_at "nrm"
  refine st_next ?_
  walk_at "nrm"
  refine q_setg ?_
  refine ⟨_, rfl, pg, T.C_Pager, P.px, pagF P, _, rfl, D.at_, T.cl_Pager, T.n_Pager__dirty, lkp_dd, P.dd, P.kd, s.dirty.map (·.1), rfl, .inl D.dd, dcIn_keys D.di, by rw [List.length_map]; exact h64, fun ys p hperm hsort hp => ?_⟩
  have hys : ys = PySem.W.sortI (s.dirty.map (·.1)) := PySem.W.eq_sortI hperm hsort
  have hsl := srtL_len s.dirty
  have hyl : ys.length = s.dirty.length := by rw [hperm.length_eq, List.length_map]
  have s1 := same_upd (o := .lst (ys.map V.int)) hp
  have ep1 : upd H p (.lst (ys.map V.int)) p = some (.lst (ys.map V.int)) := upd_same
  have pF : P.F p = none := D.sm.free hp
  have sJ0 : Same (upd P.F p (.lst (ys.map V.int))) (upd H p (.lst (ys.map V.int))) := fun b o e => by
    by_cases hb : b = p
    · subst hb; rw [upd_same] at e ⊢; exact e
    · rw [upd_ne hb] at e ⊢; exact D.sm b o e
  refine ⟨p, rfl, ⟨_, SqL.of ep1⟩, fun l hl => ?_⟩
  have plne : p ≠ l := ne_of_none ep1 hl
  have lH : H l = none := by rw [upd_ne plne.symm] at hl; exact hl
  have sl := same_upd (o := .lst []) hl
  refine lc_list (K := K) (a := p) (xs := ys.map V.int) (fun i H' => ∃ (J : Hp) (us : List V), Same J H' ∧ Same P.F J ∧ J l = none ∧ J p = some (.lst (ys.map V.int)) ∧ Same H H' ∧ H' l = some (.lst us) ∧ WrIn J us ((srtL s.dirty).take i))
    ⟨_, [], sJ0.trans sl, same_upd pF, by rw [upd_ne plne.symm]; exact D.sm.free lH, upd_same, s1.trans sl, upd_same, ⟨rfl, fun i v w a _ => by cases a⟩⟩ (fun i H' _ ⟨_, _, a, _, _, b, _⟩ => SqL.of (a _ _ b)) ?_ ?_
  · rintro i x H' hx ⟨J, us, sJ, sP, Jl, Jp, sH, el, W⟩
    rw [List.getElem?_map] at hx
    obtain ⟨n, hn, rfl⟩ : ∃ n, ys[i]? = some n ∧ x = V.int n := by
      cases e : ys[i]? with
      | none => rw [e] at hx; cases hx
      | some n => rw [e] at hx; exact ⟨n, rfl, (Option.some.inj hx).symm⟩
    have hi := (List.getElem?_eq_some_iff.mp hn).1
    have hsi : (srtL s.dirty)[i]? = some (n, (getL s.dirty n).getD []) := by
      unfold srtL
      rw [List.getElem?_map, ← hys, hn]
      rfl
    have hmem : (n, (getL s.dirty n).getD []) ∈ s.dirty := (srtL_mem hnd).mp (List.mem_of_getElem? hsi)
    have hgl := getL_of_mem hnd hmem
    have D' := D.same sH
    rcases dcIn_get n D.di with ⟨_, e2⟩ | ⟨c, xs, e1, e2, e3, e4⟩
    · have hgl : getL s.dirty n = _ := hgl
      rw [e2] at hgl; cases hgl
    rw [e2] at hsi
    refine ⟨rfl, g_yes ?_⟩
    refine ⟨_, rfl, _, rfl, pg, T.C_Pager, P.px, pagF P, _, rfl, D'.at_, T.cl_Pager, T.n_Pager__dirty, lkp_dd, _, rfl, P.dd, .ref c, rfl, by rw [← e1]; exact DGet.k (k := .inl n) D'.dd, by show 2 ≤ sizeLine; decide, fun t ht => ?_⟩
    have lt : l ≠ t := ne_of_none el ht
    have st := same_upd (o := .tup [.int n, .ref c]) ht
    have tJ : J t = none := sJ.free ht
    have hul : us.length ≤ 64 := by
      have := W.len
      rw [List.length_take] at this
      omega
    refine ⟨us, st _ _ el, Nat.lt_of_le_of_lt hul (by decide), upd J t (.tup [.int n, .ref c]), us ++ [.ref t], ?_, sP.trans (same_upd tJ), by rw [upd_ne lt]; exact Jl, by rw [upd_ne (fun z => by rw [z, tJ] at Jp; cases Jp)]; exact Jp, ?_, upd_same, ?_⟩
    · refine same_put (fun b o e => ?_) (by rw [upd_ne lt]; exact Jl)
      by_cases hb : b = t
      · subst hb; rw [upd_same] at e ⊢; exact e
      · rw [upd_ne hb] at e ⊢; exact sJ b o e
    · refine same_put (sH.trans st) lH
    · rw [take_more hsi]
      exact wr_more (wrIn_ext (same_upd tJ) W) ⟨t, c, rfl, upd_same, by rw [upd_ne (fun z => by rw [z] at e3; have := sP _ _ e3; rw [tJ] at this; cases this)]; exact sP _ _ e3, e4⟩
  rintro H2 ⟨J, us, sJ, sP, Jl, Jp, sH, el, W⟩
  rw [List.length_map, hyl, ← hsl, List.take_length] at W
  walk_at "nrm"
  have D2 := D.same sH
  have hsok : ∀ w ∈ srtL s.dirty, PairOk w := fun w hw => hok w ((srtL_mem hnd).mp hw)
  have hgl := grpB_len hsok
  refine ⟨_, rfl, pg, T.C_Pager, P.px, pagF P, _, rfl, D2.at_, T.cl_Pager, T.n_Pager__device, lkp_dev, P.dev, P.g.dx, devF P.g s.dev, rfl, D2.dev.at_, lk_no (by decide +kernel), _, rfl, l, us, J, srtL s.dirty, rfl, SqL.of el, sJ, W, hsok, by omega, fun b H3 s3 nb3 eb => ?_⟩
  have D3 := D2.same s3
  refine ⟨P.dev, P.g, s.dev, b, grpB (srtL s.dirty), rfl, D3.dev, eb, fun k => D2.dev.not_own nb3 k, by omega, fun hf H4 D4 f4 => ?_, fun ht H4 D4 f4 => ?_⟩
  · have hc : commitD (srtL s.dirty) s.dev = s.dev.appendAll (grpB (srtL s.dirty)) := andD_no (a := appD _) hf
    refine kE (by rw [hc]; exact hf) P.g H4 (by rw [hc]; exact D4) (((Frm.same (sH.trans s3)).trans (Frm.dev (pg := pg) f4)).to fun b k => .inr (.inr (.inr (.inr k)))) ?_
    rw [hc]
    unfold bnd
    rw [(appendAll_rest _ _).1]
    exact Nat.le_refl _
  obtain ⟨a1, a2, a3, a4⟩ := appendAll_rest (grpB (srtL s.dirty)) s.dev
  have D5 := D3.devStep D4 f4
  have F5 : Frm (ownP pg P) H (ownP pg P) H4 := (Frm.same (sH.trans s3)).trans (Frm.dev (pg := pg) f4)
  have hc : commitD (srtL s.dirty) s.dev = tickD DS.syncL (s.dev.appendAll (grpB (srtL s.dirty))).1 := andD_ok (a := appD _) ht
  refine ⟨_, rfl, pg, T.C_Pager, P.px, pagF P, _, rfl, D5.at_, T.cl_Pager, T.n_Pager__device, lkp_dev, P.dev, P.g.dx, devF P.g _, rfl, D5.dev.at_, lk_no (by decide +kernel), P.dev, P.g, _, rfl, D5.dev, by show (s.dev.appendAll (grpB (srtL s.dirty))).1.log.length + (s.dev.appendAll (grpB (srtL s.dirty))).1.steps.length ≤ _; rw [a3]; omega, fun hn => ?_, fun d' g' H6 ed D6 f6 hk6 => ?_⟩
  · rw [tickD_none hn] at hc
    refine kE (by rw [hc]) P.g H4 (by rw [hc]; exact D5.dev) (F5.to fun b k => .inr (.inr (.inr (.inr k)))) ?_
    rw [hc]
    unfold bnd
    rw [a1]
    exact Nat.le_refl _
  rw [tickD_some ed] at hc
  obtain ⟨e1, e2, e3, e4⟩ := tick_same ed
  have D7 := D5.devStep D6 f6
  have F7 := F5.trans (Frm.dev (pg := pg) f6)
  refine ⟨_, rfl, pg, T.C_Pager, P.px, pagF _, _, rfl, D7.at_, T.cl_Pager, T.n_Pager__committed_since_checkpoint, lkp_cc, P.cc, rfl, .inl ⟨P.kc, .inl D7.cc⟩, _, rfl, pg, T.C_Pager, P.px, pagF _, _, rfl, D7.at_, T.cl_Pager, T.n_Pager__dirty, lkp_dd, P.dd, P.kc, P.kd, rfl, D7.cc, .inl D7.dd, D7.ne.symm, ?_, ?_⟩
  · rw [hkl, dcIn_len D.ci]
    exact Nat.le_of_lt (Nat.lt_of_le_of_lt (show _ ≤ 1000000 by omega) (by decide))
  have D8 := D7.cput (dcIn_merge D7.ci D7.di)
  have F8 := F7.trans (Frm.cc (pg := pg) (kc := mergeK P.kc P.kd) (o := .dK (mergeK P.kc P.kd)))
  intro q hq
  have s9 := same_upd (o := .dK []) hq
  refine ⟨_, rfl, pg, T.C_Pager, P.px, pagF _, rfl, s9 _ _ D8.at_, T.cl_Pager, T.n_Pager__dirty, (by show 3 < 1000; decide), ?_⟩
  rw [putp_dd]
  have D9 := D8.noD hq
  have hst : s.commit = { dev := d'.syncL, dirty := [], since := mergeL s.since s.dirty } := by
    rw [hco]
    unfold PS.committed
    rw [hc]
  refine kQ (.inr (by rw [hc])) _ _ (by rw [hst]; exact D9) (F8.trans (Frm.noD hq)) rfl ?_
  rw [hst]
  show g'.kvs.length + d'.syncL.writes.length ≤ P.g.kvs.length + s.dev.writes.length
  rw [hk6, show d'.syncL.writes = d'.writes from rfl, e2, a1]
  exact Nat.le_refl _
def ckE (CD CPW : Addr) (pg : Addr) (P : PG) (s : PS) (H : Hp) (E : XK) : Prop := (checkD (srtL s.since) s.dev).2 = false → ∀ (g' : DG) (H' : Hp), DevAt CD H' P.dev g' (checkD (srtL s.since) s.dev).1 → Frm (ownP pg P) H (own P.dev g') H' → bnd g' (checkD (srtL s.since) s.dev).1 ≤ bnd P.g s.dev + s.since.length → E (.ref CPW) none H'
def spPCk (CD CP CPW : Addr) : Sp := fun vs H Q E => ∃ (pg : Addr) (P : PG) (s : PS), vs = [.ref pg] ∧ PagAt CD CP H pg P s ∧ NoDup s.since ∧ s.since.length < 64 ∧ bnd P.g s.dev ≤ 900000 ∧ s.dev.log.length + s.dev.steps.length ≤ 900000 ∧
  ckE CD CPW pg P s H E ∧
  ((checkD (srtL s.since) s.dev).2 = true → ∀ (P' : PG) (H' : Hp), PagAt CD CP H' pg P' s.checked → Frm (ownP pg P) H (ownP pg P') H' → P'.dev = P.dev → bnd P'.g s.checked.dev ≤ bnd P.g s.dev + s.since.length → Q .non H')
theorem writesD_none {w : Int × List Int} {r : PL} {d : DS} (h : d.tick = none) : writesD (w :: r) d = (d, false) := by
  have := tickD_none (f := fun d : DS => d.write w.1 w.2) h
  show andD _ _ d = _
  rw [andD_no (by rw [this]), this]
theorem writesD_some {w : Int × List Int} {r : PL} {d e : DS} (h : d.tick = some e) : writesD (w :: r) d = writesD r (e.write w.1 w.2) := by
  have := tickD_some (f := fun d : DS => d.write w.1 w.2) h
  show andD _ _ d = _
  rw [andD_ok (by rw [this]), this]
theorem ok_Pager_checkpoint (T : Txt K mg) : FnOk P w K mg base (L2N.CX P w) 5 T.f_Pager_checkpoint T.fd_Pager_checkpoint ["self"] (spPCk T.C_Device T.C_Pager T.C_PowerCut) := by
  refine T.F_Pager_checkpoint.okN sc_Pager_checkpoint (fun vs H Q E h => ?_) (fun cdv A outer s H vs Q E hr h => ?_)
  · obtain ⟨_, _, _, rfl, _⟩ := h
    rfl
  obtain ⟨pg, P, s, rfl, D, hnd, h64, hbd, hlg, kE, kQ⟩ := h
  refine ⟨_, (pss_cons (ps_for (passes_of rfl) rfl (pi_list (pe_callB (call_sortedDI rfl) (by rfl) T.z_sorted (by decide +kernel) (pa_cons (pe_fld (pv 0) rfl) pa_nil))) (pg_name (i := 1) sc_Pager_checkpoint.nd rfl (by first | exact Or.inl rfl | exact Or.inr rfl))
        (pss_one (ps_expr (pe_meth (pe_fld (pv 0) rfl) T.cl_Device T.m_Device_write_page (ok_Device_write_page T) (hr.mono (by decide)) T.b_Device_write_page .nil (L2N.passes_call (L2N.takes_of rfl rfl rfl rfl) (fun _ _ _ _ z => z)) (pa_cons (pv 1) (pa_cons (pe_dget (hu_of hr) (pe_fld (pv 0) rfl) (pv 1) (fun _ _ => rfl)) pa_nil))))))
      (pss_cons (ps_expr (pe_meth0 (pe_fld (pv 0) rfl) T.cl_Device T.m_Device_sync_pages (ok_Device_sync_pages T) (hr.mono (by decide)) T.b_Device_sync_pages .nil (L2N.passes_call (L2N.takes_of rfl rfl rfl rfl) (fun _ _ _ _ z => z))))
      (pss_cons (ps_expr (pe_meth0 (pe_fld (pv 0) rfl) T.cl_Device T.m_Device_clear (ok_Device_clear T) (hr.mono (by decide)) T.b_Device_clear .nil (L2N.passes_call (L2N.takes_of rfl rfl rfl rfl) (fun _ _ _ _ z => z))))
      (pss_cons (ps_expr (pe_meth0 (pe_fld (pv 0) rfl) T.cl_Device T.m_Device_sync_log (ok_Device_sync_log T) (hr.mono (by decide)) T.b_Device_sync_log .nil (L2N.passes_call (L2N.takes_of rfl rfl rfl rfl) (fun _ _ _ _ z => z))))
      (pss_one (ps_fld (pv 0) pe_dnewK rfl)))))), ?_⟩
  (try dsimp only [cxOf])
  rw [show start ["self", "number"] [.ref pg] = [some (.ref pg), none] from rfl]
  refine ⟨_, rfl, pg, T.C_Pager, P.px, pagF P, _, rfl, D.at_, T.cl_Pager, T.n_Pager__committed_since_checkpoint, lkp_cc, P.cc, P.kc, s.since.map (·.1), rfl, .inl D.cc, dcIn_keys D.ci, by rw [List.length_map]; exact h64, fun ys p hperm hsort hp => ?_⟩
  have hys : ys = PySem.W.sortI (s.since.map (·.1)) := PySem.W.eq_sortI hperm hsort
  have hsl := srtL_len s.since
  have hyl : ys.length = s.since.length := by rw [hperm.length_eq, List.length_map]
  have s1 := same_upd (o := .lst (ys.map V.int)) hp
  have ep1 : upd H p (.lst (ys.map V.int)) p = some (.lst (ys.map V.int)) := upd_same
  have D1 := D.same s1
  refine ⟨p, rfl, ⟨_, SqL.of ep1⟩, for_list (K := K) (a := p) (xs := ys.map V.int) (fun i σ' H' => ∃ (g1 : DG) (d1 : DS) (c1 : Option V), σ' = [some (.ref pg), c1] ∧ PagAt T.C_Device T.C_Pager H' pg { P with g := g1 } { s with dev := d1 } ∧ Frm (ownP pg P) H (ownP pg { P with g := g1 }) H' ∧ H' p = some (.lst (ys.map V.int)) ∧ ¬ own P.dev g1 p ∧
      writesD ((srtL s.since).drop i) d1 = writesD (srtL s.since) s.dev ∧ bnd g1 d1 ≤ bnd P.g s.dev + i ∧ d1.log = s.dev.log ∧ d1.steps = s.dev.steps)
    ⟨P.g, s.dev, none, rfl, D1, Frm.same s1, ep1, D.dev.not_own hp, rfl, Nat.le_refl _, rfl, rfl⟩ (fun i σ' H' _ ⟨_, _, _, _, _, _, e, _⟩ => SqL.of e) ?_ ?_⟩
  · rintro i x σ' H' hx ⟨g1, d1, c1, rfl, D2, F2, ep, np, hw, hb, hl1, hl2⟩
    rw [List.getElem?_map] at hx
    obtain ⟨n, hn, rfl⟩ : ∃ n, ys[i]? = some n ∧ x = V.int n := by
      cases e : ys[i]? with
      | none => rw [e] at hx; cases hx
      | some n => rw [e] at hx; exact ⟨n, rfl, (Option.some.inj hx).symm⟩
    have hi := (List.getElem?_eq_some_iff.mp hn).1
    have hsi : (srtL s.since)[i]? = some (n, (getL s.since n).getD []) := by
      unfold srtL
      rw [List.getElem?_map, ← hys, hn]
      rfl
    have hmem : (n, (getL s.since n).getD []) ∈ s.since := (srtL_mem hnd).mp (List.mem_of_getElem? hsi)
    have hgl := getL_of_mem hnd hmem
    rcases dcIn_get n D.ci with ⟨_, e2⟩ | ⟨c, xs, e1, e2, e3, e4⟩
    · have hgl : getL s.since n = _ := hgl
      rw [e2] at hgl; cases hgl
    rw [e2] at hsi
    have hsi : (srtL s.since)[i]? = some (n, xs) := hsi
    have hdr : (srtL s.since).drop i = (n, xs) :: (srtL s.since).drop (i + 1) := by
      have hi2 : i < (srtL s.since).length := by omega
      rw [List.drop_eq_getElem_cons hi2]
      congr 1
      rw [List.getElem?_eq_getElem hi2] at hsi
      exact Option.some.inj hsi
    rw [hdr] at hw
    refine ⟨_, rfl, pg, T.C_Pager, P.px, pagF _, _, rfl, D2.at_, T.cl_Pager, T.n_Pager__device, lkp_dev, P.dev, g1.dx, devF g1 d1, rfl, D2.dev.at_, lk_no (by decide +kernel), _, rfl, _, rfl, pg, T.C_Pager, P.px, pagF _, _, rfl, D2.at_, T.cl_Pager, T.n_Pager__committed_since_checkpoint, lkp_cc, _, rfl, P.cc, .ref c, rfl, by rw [← e1]; exact DGet.k (k := .inl n) D2.cc, ?_⟩
    refine ⟨P.dev, g1, d1, n, c, xs, rfl, D2.dev, D2.sm _ _ e3, e4, by omega, fun hn => ?_, fun d' g' H3 ed D3 f3 hb3 => ?_⟩
    · rw [writesD_none hn] at hw
      have hc : checkD (srtL s.since) s.dev = (d1, false) := by
        show andD _ _ _ = _
        rw [andD_no (by rw [← hw]), ← hw]
      refine kE (by rw [hc]) g1 H' (by rw [hc]; exact D2.dev) (F2.to fun b k => .inr (.inr (.inr (.inr k)))) ?_
      rw [hc]
      show bnd g1 d1 ≤ _
      omega
    · rw [writesD_some ed] at hw
      obtain ⟨t1, t2, t3, t4⟩ := tick_same ed
      refine ⟨g', d'.write n xs, _, rfl, D2.devStep D3 f3, F2.trans (Frm.dev (pg := pg) (P := { P with g := g1 }) f3), f3.keep _ _ np ep, fun k => ?_, hw, by omega, t3.trans hl1, t4.trans hl2⟩
      rcases f3.grow _ k with k | k
      · exact np k
      · rw [ep] at k; cases k
  rintro σ' H2 ⟨g1, d1, c1, rfl, D2, F2, ep, np, hw, hb, hl1, hl2⟩
  rw [List.length_map, hyl, ← hsl, List.drop_length] at hw
  rw [List.length_map, hyl] at hb
  have hc : checkD (srtL s.since) s.dev = syncsD d1 := by
    show andD _ _ _ = _
    rw [andD_ok (by rw [← hw]; rfl), ← hw]
    rfl
  walk_at "nrm"
  refine ⟨_, rfl, pg, T.C_Pager, P.px, pagF _, _, rfl, D2.at_, T.cl_Pager, T.n_Pager__device, lkp_dev, P.dev, g1.dx, devF g1 d1, rfl, D2.dev.at_, lk_no (by decide +kernel), P.dev, g1, d1, rfl, D2.dev, by omega, fun hn => ?_, fun d3 g3 H3 ed D3 f3 hb3 => ?_⟩
  · have hs : syncsD d1 = (d1, false) := by
      have := tickD_none (f := DS.syncP) hn
      show andD _ _ _ = _
      rw [andD_no (by rw [this]), this]
    rw [hs] at hc
    refine kE (by rw [hc]) g1 H2 (by rw [hc]; exact D2.dev) (F2.to fun b k => .inr (.inr (.inr (.inr k)))) ?_
    rw [hc]
    exact hb
  obtain ⟨t1, t2, t3, t4⟩ := tick_same ed
  have hs1 : syncsD d1 = andD (tickD fun d => d.add none) (tickD DS.syncL) d3.syncP := by
    have := tickD_some (f := DS.syncP) ed
    show andD _ _ _ = _
    rw [andD_ok (by rw [this]), this]
  rw [hs1] at hc
  have D4 := D2.devStep D3 f3
  have F4 := F2.trans (Frm.dev (pg := pg) (P := { P with g := g1 }) f3)
  have hl3 : d3.syncP.log = s.dev.log := t3.trans hl1
  have hl4 : d3.syncP.steps = s.dev.steps := t4.trans hl2
  refine ⟨_, rfl, pg, T.C_Pager, P.px, pagF _, _, rfl, D4.at_, T.cl_Pager, T.n_Pager__device, lkp_dev, P.dev, g3.dx, devF g3 _, rfl, D4.dev.at_, lk_no (by decide +kernel), P.dev, g3, _, rfl, D4.dev, by show d3.syncP.steps.length ≤ _; rw [hl4]; omega, fun hn => ?_, fun d5 H5 ed5 D5 f5 => ?_⟩
  · have hs : andD (tickD fun d => d.add none) (tickD DS.syncL) d3.syncP = (d3.syncP, false) := by
      have := tickD_none (f := fun d : DS => d.add none) hn
      rw [andD_no (by rw [this]), this]
    rw [hs] at hc
    refine kE (by rw [hc]) g3 H3 (by rw [hc]; exact D4.dev) (F4.to fun b k => .inr (.inr (.inr (.inr k)))) ?_
    rw [hc]
    show bnd g3 d3.syncP ≤ _
    omega
  obtain ⟨u1, u2, u3, u4⟩ := tick_same ed5
  have hs2 : andD (tickD fun d => d.add none) (tickD DS.syncL) d3.syncP = tickD DS.syncL (d5.add none) := by
    have := tickD_some (f := fun d : DS => d.add none) ed5
    rw [andD_ok (by rw [this]), this]
  rw [hs2] at hc
  have D6 := D4.devStep D5 f5
  have F6 := F4.trans (Frm.dev (pg := pg) (P := { P with g := g3 }) f5)
  have hb5 : bnd g3 (d5.add none) = bnd g3 d3.syncP := by
    show g3.kvs.length + d5.writes.length = g3.kvs.length + d3.syncP.writes.length
    rw [u2]
  refine ⟨_, rfl, pg, T.C_Pager, P.px, pagF _, _, rfl, D6.at_, T.cl_Pager, T.n_Pager__device, lkp_dev, P.dev, g3.dx, devF g3 _, rfl, D6.dev.at_, lk_no (by decide +kernel), P.dev, g3, _, rfl, D6.dev, ?_, fun hn => ?_, fun d7 g7 H7 ed7 D7 f7 hk7 => ?_⟩
  · show d5.log.length + (d5.steps ++ [none]).length ≤ _
    rw [List.length_append, u3, u4, hl3, hl4]
    show _ + (_ + 1) ≤ _
    omega
  · rw [tickD_none hn] at hc
    refine kE (by rw [hc]) g3 H5 (by rw [hc]; exact D6.dev) (F6.to fun b k => .inr (.inr (.inr (.inr k)))) ?_
    rw [hc]
    show bnd g3 (d5.add none) ≤ _
    omega
  rw [tickD_some ed7] at hc
  obtain ⟨v1, v2, v3, v4⟩ := tick_same ed7
  have D8 := D6.devStep D7 f7
  have F8 := F6.trans (Frm.dev (pg := pg) (P := { P with g := g3 }) f7)
  intro q hq
  have s9 := same_upd (o := .dK []) hq
  refine ⟨_, rfl, pg, T.C_Pager, P.px, pagF _, rfl, s9 _ _ D8.at_, T.cl_Pager, T.n_Pager__committed_since_checkpoint, (by show 3 < 1000; decide), ?_⟩
  rw [putp_cc]
  have D9 := D8.noC hq
  have hst : s.checked = { dev := d7.syncL, dirty := s.dirty, since := [] } := by
    unfold PS.checked
    rw [hc]
  refine kQ (by rw [hc]) _ _ (by rw [hst]; exact D9) (F8.trans (Frm.noC hq)) rfl ?_
  rw [hst]
  show g7.kvs.length + d7.syncL.writes.length ≤ _
  rw [hk7, show d7.syncL.writes = d7.writes from rfl, v2]
  show bnd g3 (d5.add none) ≤ _
  omega
def iniE (CD CPW : Addr) (pg dev : Addr) (g : DG) (d : DS) (gs : List (List (Int × List Int))) (H : Hp) (E : XK) : Prop := (checkD (srtL (PS.opening d gs).since) d).2 = false → ∀ (g' : DG) (H' : Hp), DevAt CD H' dev g' (checkD (srtL (PS.opening d gs).since) d).1 → Frm (fun b => b = pg ∨ own dev g b) H (own dev g') H' → bnd g' (checkD (srtL (PS.opening d gs).since) d).1 ≤ bnd g d + (PS.opening d gs).since.length → E (.ref CPW) none H'
def spPIn (CD CP CPW : Addr) : Sp := fun vs H Q E => ∃ (pg px dev : Addr) (g : DG) (d : DS) (gs : List (List (Int × List Int))), vs = [.ref pg, .ref dev] ∧ H pg = some (.ins CP px []) ∧ DevAt CD H dev g d ∧ ¬ own dev g pg ∧ (∀ x ∈ d.logNow, 0 ≤ x) ∧ d.log.length + d.steps.length ≤ 900000 ∧ Grps d.logNow 0 gs ∧ bnd g d ≤ 900000 ∧
  (PS.opening d gs).since.length < 64 ∧ ((d.logNow = [] ∨ (checkD (srtL (PS.opening d gs).since) d).2 = true) → ((if d.logNow = [] then PS.opening d gs else (PS.opening d gs).checked).read 0).length = 256) ∧
  (d.logNow ≠ [] → iniE CD CPW pg dev g d gs H E) ∧
  ((d.logNow = [] ∨ (checkD (srtL (PS.opening d gs).since) d).2 = true) → ∀ (P' : PG) (H' : Hp), PagAt CD CP H' pg P' (PS.opened d gs) → Frm (fun b => b = pg ∨ own dev g b) H (ownP pg P') H' → P'.dev = dev → bnd P'.g (PS.opened d gs).dev ≤ bnd g d + (PS.opening d gs).since.length → Q .non H')
theorem noDup_fold : ∀ (gs : List (List (Int × List Int))) (l : PL), NoDup l → NoDup (gs.foldl (fun l g => mergeL l g) l)
  | [], _, h => h
  | g :: r, l, h => noDup_fold r (mergeL l g) (noDup_merge g l h)
theorem fold_len : ∀ (gs : List (List (Int × List Int))) (l : PL), l.length ≤ (gs.foldl (fun l g => mergeL l g) l).length := by
  have h1 : ∀ (l : PL) n xs, l.length ≤ (putL l n xs).length := fun l n xs => by
    unfold putL
    split
    · rw [List.length_map]; exact Nat.le_refl _
    · rw [List.length_append]; omega
  have h2 : ∀ (m l : PL), l.length ≤ (mergeL l m).length := by
    intro m
    induction m with
    | nil => exact fun l => Nat.le_refl _
    | cons w r ih => exact fun l => Nat.le_trans (h1 l w.1 w.2) (ih _)
  intro gs
  induction gs with
  | nil => exact fun l => Nat.le_refl _
  | cons g r ih => exact fun l => Nat.le_trans (h2 g l) (ih _)
theorem merge_len2 : ∀ (m l : PL), l.length ≤ (mergeL l m).length := by
  intro m
  induction m with
  | nil => exact fun l => Nat.le_refl _
  | cons w r ih =>
    intro l
    refine Nat.le_trans ?_ (ih (putL l w.1 w.2))
    unfold putL
    split
    · rw [List.length_map]; exact Nat.le_refl _
    · rw [List.length_append]; omega
theorem count_dev (s : PS) : s.count.dev = s.dev := by
  unfold PS.count
  split <;> rfl
theorem newPF {px dd cc dev : Addr} {P : PG} (h1 : P.dd = dd) (h2 : P.cc = cc) (h3 : P.dev = dev) : putF "_committed_since_checkpoint" (.ref cc) (putF "_dirty" (.ref dd) (putF "_device" (.ref dev) [])) = pagF P := by
  subst h1 h2 h3
  have e1 : putF "_dirty" (.ref P.dd) (putF "_device" (.ref P.dev) []) = ([("_device", V.ref P.dev), ("_dirty", V.ref P.dd)] : List (Str × V)) := set_tl (by decide +kernel) rfl
  rw [e1]
  exact set_tl (by decide +kernel) (set_tl (by decide +kernel) rfl)
theorem ok_Pager_init (T : Txt K mg) : FnOk P w K mg base (L2N.CX P w) 6 T.f_Pager_init T.fd_Pager_init ["self", "device"] (spPIn T.C_Device T.C_Pager T.C_PowerCut) := by
  refine T.F_Pager_init.okN sc_Pager_init (fun vs H Q E h => ?_) (fun cdv A outer s H vs Q E hr h => ?_)
  · obtain ⟨_, _, _, _, _, _, rfl, _⟩ := h
    rfl
  obtain ⟨pg, px, dev, g, d, gs, rfl, hpg, D, nop, hpos, hlg, G, hbd, h64, hrd, kE, kQ⟩ := h
  refine ⟨_, (pss_cons (ps_fld (pv 0) (pv 1) rfl)
      (pss_cons (ps_fld (pv 0) pe_dnewK rfl)
      (pss_cons (ps_fld (pv 0) pe_dnewK rfl)
      (pss_cons (ps_set (i := 2) sc_Pager_init.nd rfl (by first | exact Or.inl rfl | exact Or.inr rfl) (pe_meth0 (pv 1) T.cl_Device T.m_Device_log (ok_Device_log T) (hr.mono (by decide)) T.b_Device_log .nil pass0))
      (pss_cons (ps_for (passes_of rfl) rfl (pi_list (pe_call (ok_read_groups T) (hr.mono (by decide)) (by rfl) T.g_read_groups T.F_read_groups.kp T.b_read_groups .nil pass0 (pa_cons (pv 2) pa_nil))) (pg_name (i := 3) sc_Pager_init.nd rfl (by first | exact Or.inl rfl | exact Or.inr rfl))
        (pss_one (ps_for (passes_of rfl) rfl (pi_list (pv 3)) (pg_tup (by rfl) (pgs_cons (pg_name (i := 4) sc_Pager_init.nd rfl (by first | exact Or.inl rfl | exact Or.inr rfl)) (pgs_cons (pg_name (i := 5) sc_Pager_init.nd rfl (by first | exact Or.inl rfl | exact Or.inr rfl)) pgs_nil)))
          (pss_one (ps_dput (hu_of hr) (pe_fld (pv 0) rfl) (pv 4) (pv 5) rfl)))))
      (pss_cons (ps_if (pt_truth (pv 2) (by intro _; rfl))
        (pss_one (ps_expr (pe_meth0 (pv 0) T.cl_Pager T.m_Pager_checkpoint (ok_Pager_checkpoint T) (hr.mono (by decide)) T.b_Pager_checkpoint .nil (L2N.passes_call (L2N.takes_of rfl rfl rfl rfl) (fun _ _ _ _ z => z)))))
        pss_nil)
      (pss_one (ps_expr (pe_meth0 (pv 0) T.cl_Pager T.m_Pager_count_the_head (ok_Pager_count_the_head T) (hr.mono (by decide)) T.b_Pager_count_the_head .nil pass0))))))))), ?_⟩
  (try dsimp only [cxOf])
  rw [show start ["self", "device", "logged", "group", "number", "content"] [.ref pg, .ref dev] = [some (.ref pg), some (.ref dev), none, none, none, none] from rfl]
  refine ⟨_, rfl, _, rfl, pg, T.C_Pager, px, _, rfl, hpg, T.cl_Pager, T.n_Pager__device, (by show 0 < 1000; decide), ?_⟩
  generalize hH1 : upd H pg (.ins T.C_Pager px (putF "_device" (.ref dev) [])) = H1
  have k1 : ∀ b, b ≠ pg → H1 b = H b := fun b hb => by rw [← hH1, upd_ne hb]
  have e1 : H1 pg = some (.ins T.C_Pager px (putF "_device" (.ref dev) [])) := by rw [← hH1, upd_same]
  intro dd hdd
  have n1 : pg ≠ dd := ne_of_none e1 hdd
  have ddH : H dd = none := by rw [← k1 _ n1.symm]; exact hdd
  refine ⟨_, rfl, pg, T.C_Pager, px, _, rfl, by rw [upd_ne n1]; exact e1, T.cl_Pager, T.n_Pager__dirty, (by show 1 < 1000; decide), ?_⟩
  intro cc hcc
  have n2 : cc ≠ pg := fun z => by rw [z, upd_same] at hcc; cases hcc
  have n3 : cc ≠ dd := fun z => by rw [z, upd_ne n1.symm, upd_same] at hcc; cases hcc
  have ccH : H cc = none := by rw [upd_ne n2, upd_ne n3] at hcc; rw [← k1 _ n2]; exact hcc
  refine ⟨_, rfl, pg, T.C_Pager, px, _, rfl, by rw [upd_ne n2.symm, upd_same], T.cl_Pager, T.n_Pager__committed_since_checkpoint, (by show 2 < 1000; decide), ?_⟩
  rw [newPF (px := px) (P := ⟨px, dd, cc, [], [], fun _ => none, dev, g⟩) rfl rfl rfl]
  generalize hH2 : upd (upd (upd (upd H1 dd (.dK [])) pg (.ins T.C_Pager px (putF "_dirty" (.ref dd) (putF "_device" (.ref dev) [])))) cc (.dK [])) pg (.ins T.C_Pager px (pagF ⟨px, dd, cc, [], [], fun _ => none, dev, g⟩)) = H2
  have e2 : H2 pg = some (.ins T.C_Pager px (pagF ⟨px, dd, cc, [], [], fun _ => none, dev, g⟩)) := by rw [← hH2, upd_same]
  have e3 : H2 dd = some (.dK []) := by rw [← hH2, upd_ne n1.symm, upd_ne n3.symm, upd_ne n1.symm, upd_same]
  have e4 : H2 cc = some (.dK []) := by rw [← hH2, upd_ne n2, upd_same]
  have k2 : ∀ b o, b ≠ pg → H b = some o → H2 b = some o := fun b o hb e => by
    rw [← hH2, upd_ne hb, upd_ne (ne_of_none e ccH), upd_ne hb, upd_ne (ne_of_none e ddH), k1 b hb]
    exact e
  have D2 : DevAt T.C_Device H2 dev g d := D.kp fun b o k e => k2 b o (fun z => nop (by rw [← z]; exact k)) e
  have ndd : ¬ own dev g dd := D.not_own ddH
  have ncc : ¬ own dev g cc := D.not_own ccH
  -- the log
  walk_at "nrm"
  refine q_setg ?_
  refine ⟨_, rfl, dev, g.dx, devF g d, rfl, D2.at_, lk_no (by decide +kernel), dev, g, d, rfl, D2, by omega, fun lg H3 s3 nlg elg => ?_⟩
  walk_at "nrm"
  have hll : d.logNow.length ≤ 900000 := Nat.le_trans (afterL_len _ _) hlg
  refine ⟨_, rfl, lg, d.logNow, gs, rfl, SqL.of elg, hpos, by omega, G, fun p F us H4 N4 ep GI => ?_⟩
  have s24 : Same H2 H4 := s3.trans N4.old
  have nF : ∀ b o, F b = some o → H2 b = none := fun b o e => s3.free (N4.new b o e)
  have F0 : ∀ b o, H2 b = some o → F b = none := fun b o e => by
    cases h : F b with
    | none => rfl
    | some u => rw [nF b u h] at e; cases e
  have P4 : PagAt T.C_Device T.C_Pager H4 pg ⟨px, dd, cc, [], [], F, dev, g⟩ ⟨d, [], []⟩ := PagAt.new (D2.same s24) N4.sm (s24 _ _ e2) (s24 _ _ e3) (s24 _ _ e4) (F0 _ _ e2) (F0 _ _ e3) (F0 _ _ e4) n3.symm nop ndd ncc (fun b o e k => by
    obtain ⟨u, e'⟩ := D2.has k
    rw [nF b o e] at e'
    cases e')
  -- the frame, up to here and further: new things are the pager's own
  have hfree : ∀ b o, F b = some o → H b = none := fun b o e => by
    cases h : H b with
    | none => rfl
    | some u =>
      by_cases hb : b = pg
      · rw [hb, F0 _ _ e2] at e; cases e
      · have := k2 b u hb h
        rw [nF b o e] at this
        cases this
  have f4 : Frm (fun b => b = pg ∨ own dev g b) H (ownP pg ⟨px, dd, cc, [], [], F, dev, g⟩) H4 := ⟨fun b o n e => s24 _ _ (k2 b o (fun z => n (.inl z)) e), fun b k => by
    rcases k with k | k | k | ⟨o, k⟩ | k
    · exact .inl (.inl k)
    · rw [k]; exact .inr ddH
    · rw [k]; exact .inr ccH
    · exact .inr (hfree b o k)
    · exact .inl (.inr k)⟩
  refine ⟨p, rfl, ⟨_, SqL.of (N4.sm _ _ ep)⟩, for_list (K := K) (a := p) (xs := us) (fun i σ' H' => ∃ (kc : List (Key × V)) (c3 c4 c5 : Option V), σ' = [some (.ref pg), some (.ref dev), some (.ref lg), c3, c4, c5] ∧ PagAt T.C_Device T.C_Pager H' pg ⟨px, dd, cc, [], kc, F, dev, g⟩ ⟨d, [], (gs.take i).foldl (fun l g => mergeL l g) []⟩ ∧ Frm (fun b => b = pg ∨ own dev g b) H (ownP pg ⟨px, dd, cc, [], kc, F, dev, g⟩) H' ∧ H' lg = some (.lst (d.logNow.map V.int)))
    ⟨[], none, none, none, rfl, P4, f4, N4.old _ _ elg⟩ (fun i σ' H' _ ⟨_, _, _, _, _, PA, _⟩ => SqL.of (PA.sm _ _ ep)) ?_ ?_⟩
  · rintro i v σ' H5 hv ⟨kc, c3, c4, c5, rfl, PA, f5, el5⟩
    have hi := (List.getElem?_eq_some_iff.mp hv).1
    have hgl := GI.len
    have hgi : gs[i]? = some (gs[i]'(by omega)) := List.getElem?_eq_getElem (by omega)
    generalize gs[i]'(by omega) = gr at hgi
    obtain ⟨a, ws, rfl, ea, W⟩ := GI.each i v gr hv hgi
    have hwl := W.len
    refine ⟨_, rfl, a, rfl, ⟨_, SqL.of (PA.sm _ _ ea)⟩, for_list (K := K) (a := a) (xs := ws) (fun j σ' H' => ∃ (kc : List (Key × V)) (c4 c5 : Option V), σ' = [some (.ref pg), some (.ref dev), some (.ref lg), some (.ref a), c4, c5] ∧ PagAt T.C_Device T.C_Pager H' pg ⟨px, dd, cc, [], kc, F, dev, g⟩ ⟨d, [], mergeL ((gs.take i).foldl (fun l g => mergeL l g) []) (gr.take j)⟩ ∧ Frm (fun b => b = pg ∨ own dev g b) H (ownP pg ⟨px, dd, cc, [], kc, F, dev, g⟩) H' ∧ H' lg = some (.lst (d.logNow.map V.int)))
      ⟨kc, c4, c5, rfl, PA, f5, el5⟩ (fun i σ' H' _ ⟨_, _, _, _, PA, _⟩ => SqL.of (PA.sm _ _ ea)) ?_ ?_⟩
    · rintro j v σ' H6 hv ⟨kc, c4, c5, rfl, PA, f6, el6⟩
      have hj := (List.getElem?_eq_some_iff.mp hv).1
      have hwi : gr[j]? = some (gr[j]'(by omega)) := List.getElem?_eq_getElem (by omega)
      generalize gr[j]'(by omega) = ww at hwi
      obtain ⟨t, c, rfl, et, ec, hx⟩ := W.each j v ww hv hwi
      refine ⟨t, _, rfl, SqT.of (PA.sm _ _ et), rfl, _, _, rfl, _, _, rfl, rfl, ?_⟩
      -- the number of pages is small all the way
      have hsmall : (mergeL ((gs.take i).foldl (fun l g => mergeL l g) []) (gr.take j)).length < 64 := by
        refine Nat.lt_of_le_of_lt ?_ h64
        have h1 : mergeL ((gs.take i).foldl (fun l g => mergeL l g) []) gr = (gs.take (i + 1)).foldl (fun l g => mergeL l g) [] := by
          rw [take_more hgi, List.foldl_append]
          rfl
        have h2 : mergeL (mergeL ((gs.take i).foldl (fun l g => mergeL l g) []) (gr.take j)) (gr.drop j) = mergeL ((gs.take i).foldl (fun l g => mergeL l g) []) gr := by
          show (gr.drop j).foldl _ ((gr.take j).foldl _ _) = gr.foldl _ _
          rw [← List.foldl_append, List.take_append_drop]
        have h3 := merge_len2 (gr.drop j) (mergeL ((gs.take i).foldl (fun l g => mergeL l g) []) (gr.take j))
        rw [h2, h1] at h3
        refine Nat.le_trans h3 ?_
        have h4 := fold_len (gs.drop (i + 1)) ((gs.take (i + 1)).foldl (fun l g => mergeL l g) [])
        rw [← List.foldl_append, List.take_append_drop] at h4
        exact h4
      refine ⟨_, rfl, _, rfl, pg, T.C_Pager, px, pagF _, _, rfl, PA.at_, T.cl_Pager, T.n_Pager__committed_since_checkpoint, lkp_cc, _, rfl, cc, _, rfl, DPut.k (k := .inl ww.1) PA.cc ?_, ?_⟩
      · have := dcIn_len PA.ci
        show kc.length < sizeLine
        rw [show kc.length = _ from this]
        exact Nat.lt_of_le_of_lt (Nat.le_of_lt hsmall) (by decide)
      have PB := PA.cput (dcIn_put (n := ww.1) PA.ci (show F c = some (.lst (ww.2.map V.int)) from ec) hx)
      refine ⟨_, _, _, rfl, ?_, f6.trans (Frm.cc (pg := pg) (kc := putK kc (.inl ww.1) (.ref c)) (P := ⟨px, dd, cc, [], kc, F, dev, g⟩)), ?_⟩
      · rw [take_more hwi]
        have : mergeL ((gs.take i).foldl (fun l g => mergeL l g) []) (gr.take j ++ [ww]) = putL (mergeL ((gs.take i).foldl (fun l g => mergeL l g) []) (gr.take j)) ww.1 ww.2 := by
          show (gr.take j ++ [ww]).foldl _ _ = _
          rw [List.foldl_append]
          rfl
        rw [this]
        exact PB
      · show upd H6 cc _ lg = _
        rw [upd_ne (ne_of el6 PA.cc (fun z => nomatch z))]
        exact el6
    · rintro σ' H6 ⟨kc, c4, c5, rfl, PA, f6, el6⟩
      refine ⟨kc, _, _, _, rfl, ?_, f6, el6⟩
      rw [hwl, List.take_length] at PA
      rw [take_more hgi, List.foldl_append]
      exact PA
  rintro σ' H5 ⟨kc, c3, c4, c5, rfl, PA, f5, el5⟩
  rw [GI.len, List.take_length] at PA
  have PA : PagAt T.C_Device T.C_Pager H5 pg ⟨px, dd, cc, [], kc, F, dev, g⟩ (PS.opening d gs) := PA
  walk_at "nrm"
  have hnd : NoDup (PS.opening d gs).since := noDup_fold gs [] List.nodup_nil
  have hfin : ∀ (P6 : PG) (s6 : PS) (H6 : Hp), PagAt T.C_Device T.C_Pager H6 pg P6 s6 → Frm (fun b => b = pg ∨ own dev g b) H (ownP pg P6) H6 → P6.dev = dev → s6 = (if d.logNow = [] then PS.opening d gs else (PS.opening d gs).checked) → bnd P6.g s6.dev ≤ bnd g d + (PS.opening d gs).since.length → (d.logNow = [] ∨ (checkD (srtL (PS.opening d gs).since) d).2 = true) →
      spPC T.C_Device T.C_Pager [.ref pg] H6 (fun v H' => Q .non H') E := fun P6 s6 H6 D6 F6 e6 h6 hb6 hor => by
    refine ⟨pg, P6, s6, rfl, D6, by rw [h6]; exact hrd hor, ?_, fun P7 H7 D7 f7 e7 g7 => ?_⟩
    · rw [h6]
      split <;> exact Nat.zero_le _
    · refine kQ hor P7 H7 (by unfold PS.opened; rw [← h6]; exact D7) (F6.trans f7) (e7.trans e6) ?_
      unfold PS.opened
      rw [← h6, count_dev, g7]
      exact hb6
  refine ⟨_, rfl, _, .inl ⟨_, SqL.of el5, rfl⟩, ?_⟩
  walk_at "nrm"
  by_cases hlog : d.logNow = []
  · rw [hlog, if_neg (show ¬ (!(([] : List Int).map V.int).isEmpty) = true from Bool.false_ne_true)]
    refine ⟨_, rfl, pg, px, pagF _, rfl, PA.at_, lkp_no (by decide +kernel), hfin _ _ H5 PA f5 rfl (by rw [if_pos hlog]) (Nat.le_add_right _ _) (.inl hlog)⟩
  · have hne : (d.logNow.map V.int).isEmpty = false := by
      cases h : d.logNow with
      | nil => exact absurd h hlog
      | cons a r => rfl
    rw [hne, if_pos (show (!false) = true from rfl)]
    have kE := kE hlog
    refine ⟨_, rfl, pg, px, pagF _, rfl, PA.at_, lkp_no (by decide +kernel), pg, _, _, rfl, PA, hnd, h64, hbd, hlg, fun hf g' H6 D6 f6 hb6 => ?_, fun ht P6 H6 D6 f6 e6 hb6 => ?_⟩
    · exact kE hf g' H6 D6 (f5.trans f6) hb6
    · exact ⟨_, rfl, pg, P6.px, pagF P6, rfl, D6.at_, lkp_no (by decide +kernel), hfin P6 _ H6 D6 (f5.trans f6) e6 (by rw [if_neg hlog]) hb6 (.inr ht)⟩

end
end K06


namespace K06
open PySem L2 Nv RZ
local macro_rules | `(tactic| walk_at "hp") => `(tactic| first
  | assumption
  | exact upd_same
  | exact (upd_ne (by assumption)).trans (by first | assumption | exact upd_same | exact (upd_ne (by assumption)).trans (by first | assumption | exact upd_same))
  | exact (upd_ne (Ne.symm (by assumption))).trans (by first | assumption | exact upd_same))
local macro_rules | `(tactic| walk_at "cond") => `(tactic| first
  | (change (0 : Int) < _; first | decide | omega)
  | exact Or.inr ⟨by decide, by decide⟩
  | exact Or.inl ⟨by decide, by decide⟩
  | exact Or.inr ⟨by omega, by omega⟩
  | exact Or.inl ⟨by omega, by omega⟩
  | exact ⟨by decide, by decide, by decide⟩
  | exact wide_div (by first | decide | omega) (show _ < 2 ^ 64 by first | decide | omega) (by decide) (by decide)
  | (change (0 : Int) ≤ _; first | decide | omega)
  | exact ⟨by decide, by decide⟩
  | exact ⟨by omega, by omega⟩)
local macro_rules | `(tactic| walk_at "val") => `(tactic| first
  | (with_reducible exact val_c)
  | ((with_reducible apply val_var); exact rfl)
  | ((with_reducible apply val_I0); walk_at "val"; walk_at "val")
  | ((with_reducible apply val_I); walk_at "val"; walk_at "val"; walk_at "cond")
  | ((with_reducible apply val_ixL); walk_at "val"; walk_at "val"; (first | exact SqL.of (by walk_at "hp") | assumption); exact rfl)
  | ((with_reducible apply val_len); walk_at "val"; first | exact Or.inl (SqL.of (by walk_at "hp")) | exact Or.inl (by assumption) | exact Or.inr (by assumption) | exact Or.inr (SqT.of (by walk_at "hp")))
  | ((with_reducible apply val_int1); walk_at "val")
  | ((with_reducible apply val_abs); walk_at "val")
  | ((with_reducible apply val_max2); walk_at "val"; walk_at "val")
  | ((with_reducible apply val_eq); walk_at "val"; walk_at "val"; exact rfl)
  | ((with_reducible apply val_ne); walk_at "val"; walk_at "val"; exact rfl)
  | ((with_reducible apply val_not); walk_at "val")
  | ((with_reducible apply val_U); walk_at "val"))
local macro_rules | `(tactic| walk_at "ans") => `(tactic| first
  | ((with_reducible apply ans_Eq); walk_at "val"; walk_at "val"; exact rfl)
  | ((with_reducible apply ans_Ne); walk_at "val"; walk_at "val"; exact rfl)
  | ((with_reducible apply ans_I0); walk_at "val"; walk_at "val"; exact rfl)
  | ((with_reducible refine ans_And ?_ (fun _ => ?_)); walk_at "ans"; walk_at "ans")
  | ((with_reducible refine ans_or2 ?_ (fun _ => ?_)); walk_at "ans"; walk_at "ans")
  | ((with_reducible refine ans_not ?_); walk_at "ans")
  | ((with_reducible apply ans_val); walk_at "val"))
local macro_rules | `(tactic| walk_at "nrm") => `(tactic| (try dsimp only [List.set_cons_zero, List.set_cons_succ]))
local macro_rules | `(tactic| walk_at "set") => `(tactic| first
  | ((with_reducible apply q_set); walk_at "val"; walk_at "nrm")
  | ((with_reducible apply s_set); walk_at "val"; walk_at "nrm"))
local macro_rules | `(tactic| walk_at "setL") => `(tactic| first
  | ((with_reducible apply q_setL); walk_at "val"; walk_at "val"; walk_at "val"; walk_at "hp"; exact rfl; walk_at "nrm")
  | ((with_reducible apply s_setL); walk_at "val"; walk_at "val"; walk_at "val"; walk_at "hp"; exact rfl; walk_at "nrm"))
local macro_rules | `(tactic| walk_at "ff") => `(tactic| (walk_at "nrm"; rw [if_neg (by decide)]; (try ((with_reducible refine st_next ?_); walk_at "nrm"))))
local macro_rules | `(tactic| walk_at "nok") => `(tactic| (refine ⟨_, rfl, rfl, _, rfl, ?_⟩; walk_at "nrm"; rw [if_neg (by decide)]))
local macro_rules | `(tactic| walk_at "yesk") => `(tactic| (refine ⟨_, rfl, rfl, _, rfl, ?_⟩; walk_at "nrm"; rw [if_pos (by decide)]))
local macro_rules | `(tactic| walk_at "no") => `(tactic| (walk_at "nrm"; rw [if_neg (by decide)]; walk_at "nrm"))
local macro_rules | `(tactic| walk_at "yes") => `(tactic| (walk_at "nrm"; rw [if_pos (by decide)]; walk_at "nrm"))
local macro_rules | `(tactic| walk_at "nos") => `(tactic| (walk_at "nrm"; repeat (rw [if_neg (by decide)]; walk_at "nrm"); (try ((with_reducible refine st_next ?_); walk_at "nrm"))))

section
variable {P : Program} {w : World} {K : PySem.W.Frag} {mg : Str → Option Value} {base : Heap}
theorem repA (n : Nat) (a : Int) : (List.replicate n [V.int a]).flatten = (List.replicate n a).map V.int := by
  induction n with
  | zero => rfl
  | succ n ih => rw [List.replicate_succ, List.flatten_cons, ih, List.replicate_succ]; rfl
def spCh (K : Frag) (CD CP : Addr) : Sp := fun vs H Q _ => ∃ (st sc : Addr) (H0 : Hp) (ns : List Int) (pg : Addr) (P : PG) (s : PS) (F : Hp) (md : Addr) (k0 : Int) (Kp : Int → List Int) (turn : Int) (gs : GL) (t : Nat) (rs : List Rg),
  vs = [.ref st, .ref sc, .ref pg, .ref md, .int turn] ∧ Ap (rgDr K H0 st sc ns :: rgPg CD CP pg P s :: rgMd F md k0 Kp :: rgF F :: rs) H ∧ InB (s.lim none) gs t ∧ Kp6 k0 Kp s.read ∧ (s.dirty.map (·.1) = [] ∨ s.dirty.map (·.1) = [0]) ∧ t ≤ 26 ∧ 0 ≤ turn ∧ turn ≤ 100 ∧
  ∀ (P' : PG) (s' : PS) (F' : Hp) (k0' : Int) (Kp' : Int → List Int) (q : Addr) (H' : Hp), Ap (rgO q (.lst (((srtL s'.dirty).map (·.1)).map V.int)) :: rgDr K H0 st sc ns :: rgPg CD CP pg P' s' :: rgMd F' md k0' Kp' :: rgF F' :: rs) H' → InB (s'.lim none) gs (t + 4) → Kp6 k0' Kp' s'.read → s'.dirty ≠ [] → s'.dev = s.dev → s'.since = s.since → P'.dev = P.dev → P'.g = P.g → Same F F' → Q (.ref q) H'
theorem ok_law_change (T : Txt K mg) : FnOk P w K mg base CX0 6 T.f_law_change T.fd_law_change ["state", "script", "pager", "model", "turn"] (spCh K T.C_Device T.C_Pager) := by
  refine T.F_law_change.ok sc_law_change (fun vs H Q E h => ?_) (fun cdv A outer s H vs Q E hr h => ?_)
  · obtain ⟨_, _, _, _, _, _, _, _, _, _, _, _, _, _, _, rfl, _⟩ := h
    rfl
  obtain ⟨st, sc, H0, ns, pg, P, s, F, md, k0, Kp, turn, gs, t, rs, rfl, W, I, hK, hd0, ht, h0, h1, q⟩ := h
  refine ⟨_, (pss_cons (ps_expr (pe_meth (pv 2) T.cl_Pager T.m_Pager_set_field (ok_Pager_set_field T) (hr.mono (by decide)) T.b_Pager_set_field .nil pass0 (pa_cons pe_int (pa_cons (pe_op op_add (pv 4) pe_int) pa_nil))))
      (pss_cons (ps_dput (hu_of hr) (pv 3) pe_int (pe_op op_add (pv 4) pe_int) rfl)
      (pss_cons (ps_set (i := 5) sc_law_change.nd rfl (by first | exact Or.inl rfl | exact Or.inr rfl) (pe_lst (pa_cons pe_int pa_nil)))
      (pss_cons (ps_for PassesOwn.never rfl (pi_range1 (by rfl) T.z_range (pa_cons (pe_op op_add pe_int (pe_call (ok_law_draw T) (hr.mono (by decide)) (by rfl) T.g_law_draw T.F_law_draw.kp T.b_law_draw .nil pass0 (pa_cons (pv 0) (pa_cons (pv 1) (pa_cons pe_int pa_nil))))) pa_nil)) (pg_name (i := 6) sc_law_change.nd rfl (by first | exact Or.inl rfl | exact Or.inr rfl))
        (pss_cons (ps_set (i := 7) sc_law_change.nd rfl (by first | exact Or.inl rfl | exact Or.inr rfl) (pe_op op_add pe_int (pe_call (ok_law_draw T) (hr.mono (by decide)) (by rfl) T.g_law_draw T.F_law_draw.kp T.b_law_draw .nil pass0 (pa_cons (pv 0) (pa_cons (pv 1) (pa_cons pe_int pa_nil))))))
        (pss_cons (ps_set (i := 8) sc_law_change.nd rfl (by first | exact Or.inl rfl | exact Or.inr rfl) (pe_op op_cat (pe_op op_cat (pe_op op_rep (pe_lst (pa_cons (pe_op op_add (pv 4) pe_int) pa_nil)) pe_int) (pe_op op_rep (pe_lst (pa_cons (pe_call (ok_law_draw T) (hr.mono (by decide)) (by rfl) T.g_law_draw T.F_law_draw.kp T.b_law_draw .nil pass0 (pa_cons (pv 0) (pa_cons (pv 1) (pa_cons pe_int pa_nil)))) pa_nil)) pe_int)) (pe_op op_rep (pe_lst (pa_cons (pe_call (ok_law_draw T) (hr.mono (by decide)) (by rfl) T.g_law_draw T.F_law_draw.kp T.b_law_draw .nil pass0 (pa_cons (pv 0) (pa_cons (pv 1) (pa_cons pe_int pa_nil)))) pa_nil)) pe_int)))
        (pss_cons (ps_expr (pe_meth (pv 2) T.cl_Pager T.m_Pager_write (ok_Pager_write T) (hr.mono (by decide)) T.b_Pager_write .nil pass0 (pa_cons (pv 7) (pa_cons (pv 8) pa_nil))))
        (pss_cons (ps_dput (hu_of hr) (pv 3) (pv 7) (pv 8) rfl)
        (pss_one (ps_if (pt_cmpR op_notIn_seq (pv 7) (pv 5) (by rfl))
          (pss_one (ps_expr (pe_bm PySem.F.plainAttrs_list PySem.F.slot_list_append PySem.F.type_list_append mt_append (pv 5) (pa_cons (pv 7) pa_nil))))
          pss_nil)))))))
      (pss_one (ps_ret (pe_callB cr_sortedI (by rfl) T.z_sorted (by decide +kernel) (pa_cons (pv 5) pa_nil)))))))), ?_⟩
  (try dsimp only [cxOf])
  rw [show start ["state", "script", "pager", "model", "turn", "numbers", "k", "number", "data"] [.ref st, .ref sc, .ref pg, .ref md, .int turn] = [some (.ref st), some (.ref sc), some (.ref pg), some (.ref md), some (.int turn), none, none, none, none] from rfl]
  have z1 := I.z1
  have z1 : s.dirty.length + s.since.length ≤ 2 * t + 1 := z1
  have D : PagAt T.C_Device T.C_Pager H pg P s := W.tl.hd
  refine ⟨_, rfl, pg, P.px, pagF P, rfl, D.at_, lkp_no (by decide +kernel), _, rfl, turn, 1, rfl, rfl, pg, P, s, 3, turn + 1, rfl, D, by decide, (I.rd 0).1, by omega, fun P1 H1 D1 f1 g1 g1' => ?_⟩
  walk_at "nrm"
  have W1 := W.on2 (r' := rgPg T.C_Device T.C_Pager pg P1 (s.setField 3 (turn + 1))) f1 D1
  have I1 : InB ((s.setField 3 (turn + 1)).lim none) gs (t + 1) := I.setF (k := 3) (v := turn + 1) (by decide)
  have hK1 : Kp6 (turn + 1) Kp (s.setField 3 (turn + 1)).read := (hK.set (v := turn + 1) I.rd (by omega) (by omega)).congr fun n => read_setField s 3 (turn + 1) n
  have hd1 : (s.setField 3 (turn + 1)).dirty.map (·.1) = [0] := by
    show (putL s.dirty 0 _).map (·.1) = [0]
    rw [putL_keys]
    rcases hd0 with e | e <;> rw [e] <;> rfl
  obtain ⟨c, ec, Dc⟩ := W1.tl.tl.hd
  refine ⟨_, rfl, turn, 1, rfl, rfl, _, rfl, md, _, rfl, DPut.k (k := .inl 0) ec (by rw [Dc.len]; decide), ?_⟩
  have W2 := (Ap.md6 W1.x22 (Dc.set0 (v := turn + 1))).x22
  generalize upd H1 md (.dK (putK c (.inl 0) (.int (turn + 1)))) = H2 at W2
  clear W W1 D D1 f1 ec Dc c
  walk_at "nrm"
  refine q_setg ?_
  refine ⟨by show 1 ≤ sizeLine; decide, fun l hl => ?_⟩
  walk_at "nrm"
  have W3 := W2.new (o := .lst (([0] : List Int).map V.int)) hl
  refine ⟨_, rfl, _, rfl, st, sc, 3, H0, ns, rfl, by decide, by decide, W3.tl.hd, fun r H3 r0 r3 hB3 D3 => ?_⟩
  have W4 := W3.on2 (r' := rgDr K H0 st sc ns) (Frm.draw hB3) D3
  refine ⟨1, r, rfl, rfl, 1 + r, rfl, by omega, by omega, ?_⟩
  refine for_range (lo := 0) (n := (1 + r).toNat) (fun i σ' H' => ∃ (P' : Nv.PG) (s' : Nv.PS) (F' : Hp) (Kp' : Int → List Int) (nums : List Int) (c6 c7 c8 : Option V), σ' = [some (.ref st), some (.ref sc), some (.ref pg), some (.ref md), some (.int turn), some (.ref l), c6, c7, c8] ∧
      Ap (rgO l (.lst (nums.map V.int)) :: rgDr K H0 st sc ns :: rgPg T.C_Device T.C_Pager pg P' s' :: rgMd F' md (turn + 1) Kp' :: rgF F' :: rs) H' ∧ InB (s'.lim none) gs (t + 1 + i) ∧ Kp6 (turn + 1) Kp' s'.read ∧ s'.dirty.map (·.1) = nums ∧ s'.dirty ≠ [] ∧ s'.dev = s.dev ∧ s'.since = s.since ∧ P'.dev = P.dev ∧ P'.g = P.g ∧ Same F F' ∧ nums.length ≤ 1 + i)
    ⟨P1, s.setField 3 (turn + 1), F, Kp, [0], none, none, none, rfl, W4, I1, hK1, hd1, (fun z => by rw [z] at hd1; cases hd1), rfl, rfl, g1, g1', Same.refl _, Nat.le_refl _⟩ ?_ ?_
  · rintro i σ' H' hi ⟨P', s', F', Kp', nums, c6, c7, c8, rfl, W, I', hK', hnm, hne, e1, e2, e3, e4, sF, hlen⟩
    have hi3 : i < 3 := by omega
    have z1 : s'.dirty.length + s'.since.length ≤ 2 * (t + 1 + i) + 1 := I'.z1
    refine q_setg ?_
    refine ⟨_, rfl, _, rfl, st, sc, 4, H0, ns, rfl, by decide, by decide, W.tl.hd, fun a H5 a0 a4 hB5 D5 => ?_⟩
    have W := W.on2 (r' := rgDr K H0 st sc ns) (Frm.draw hB5) D5
    refine ⟨1, a, rfl, rfl, ?_⟩
    walk_at "nrm"
    have hn1 : 1 ≤ 1 + a := by omega
    have hn4 : 1 + a ≤ 4 := by omega
    generalize 1 + a = n at hn1 hn4
    refine q_setg ?_
    refine ⟨_, rfl, turn, 1, rfl, rfl, by show 1 ≤ sizeLine; decide, fun l1 hl1 => ?_⟩
    refine ⟨l1, 100, [.int (turn + 1)], rfl, rfl, upd_same, by decide, by decide, by show 100 ≤ sizeLine; decide, fun p1 hp1 => ?_⟩
    rw [repA]
    have W := (W.same (same_upd (o := .lst [V.int (turn + 1)]) hl1)).new (o := .lst ((List.replicate (100 : Int).toNat (turn + 1)).map V.int)) hp1
    refine ⟨_, rfl, _, rfl, st, sc, 256, H0, ns, rfl, by decide, by decide, W.tl.tl.hd, fun b H6 b0 b1 hB6 D6 => ?_⟩
    have W := W.on3 (r' := rgDr K H0 st sc ns) (Frm.draw hB6) D6
    refine ⟨by show 1 ≤ sizeLine; decide, fun l2 hl2 => ?_⟩
    refine ⟨l2, 100, [.int b], rfl, rfl, upd_same, by decide, by decide, by show 100 ≤ sizeLine; decide, fun p2 hp2 => ?_⟩
    rw [repA]
    have W := (W.same (same_upd (o := .lst [V.int b]) hl2)).new (o := .lst ((List.replicate (100 : Int).toNat b).map V.int)) hp2
    refine ⟨p1, p2, _, _, rfl, rfl, W.tl.obj, W.obj, ?_, fun d1 hd1 => ?_⟩
    · rw [List.length_map, List.length_map, List.length_replicate, List.length_replicate]
      show 200 ≤ sizeLine
      decide
    rw [← List.map_append]
    have W := W.tl.tl.new (o := .lst ((List.replicate (100 : Int).toNat (turn + 1) ++ List.replicate (100 : Int).toNat b).map V.int)) hd1
    refine ⟨_, rfl, _, rfl, st, sc, 256, H0, ns, rfl, by decide, by decide, W.tl.tl.hd, fun b2 H7 b20 b21 hB7 D7 => ?_⟩
    have W := W.on3 (r' := rgDr K H0 st sc ns) (Frm.draw hB7) D7
    refine ⟨by show 1 ≤ sizeLine; decide, fun l3 hl3 => ?_⟩
    refine ⟨l3, 56, [.int b2], rfl, rfl, upd_same, by decide, by decide, by show 56 ≤ sizeLine; decide, fun p3 hp3 => ?_⟩
    rw [repA]
    have W := (W.same (same_upd (o := .lst [V.int b2]) hl3)).new (o := .lst ((List.replicate (56 : Int).toNat b2).map V.int)) hp3
    refine ⟨d1, p3, _, _, rfl, rfl, W.tl.obj, W.obj, ?_, fun d hd => ?_⟩
    · rw [List.length_map, List.length_map, List.length_append, List.length_replicate, List.length_replicate, List.length_replicate]
      show 256 ≤ sizeLine
      decide
    rw [← List.map_append]
    obtain ⟨hxl, hxb⟩ := data_ok (a := turn + 1) (b := b) (c := b2) ⟨by omega, by omega⟩ ⟨b0, b1⟩ ⟨b20, b21⟩
    have W := W.tl.tl.new (o := .lst ((List.replicate (100 : Int).toNat (turn + 1) ++ List.replicate (100 : Int).toNat b ++ List.replicate (56 : Int).toNat b2).map V.int)) hd
    rw [show (100 : Int).toNat = 100 from rfl, show (56 : Int).toNat = 56 from rfl] at W ⊢
    generalize List.replicate 100 (turn + 1) ++ List.replicate 100 b ++ List.replicate 56 b2 = xs at W hxl hxb ⊢
    walk_at "nrm"
    have D8 : PagAt T.C_Device T.C_Pager _ pg P' s' := W.tl.tl.tl.hd
    refine ⟨_, rfl, pg, P'.px, pagF P', rfl, D8.at_, lkp_no (by decide +kernel), _, rfl, _, rfl, pg, P', s', n, d, xs, rfl, D8, W.obj, by omega, by omega, fun P9 H9 D9 f9 g9 g9' => ?_⟩
    have W := W.on4 (r' := rgPg T.C_Device T.C_Pager pg P9 (s'.write n xs)) f9 D9
    walk_at "nrm"
    obtain ⟨W, sF2⟩ := Ap.give6 W.z6
    obtain ⟨c, ec, Dc⟩ := W.hd
    have hdF : upd F' d (.lst (xs.map V.int)) d = some (.lst (xs.map V.int)) := upd_same
    refine ⟨_, rfl, _, rfl, _, rfl, md, _, rfl, DPut.k (k := .inl n) ec (by rw [Dc.len]; decide), ?_⟩
    have W := (Ap.md6 W (Dc.setN hn1 hn4 hdF)).y32
    generalize upd H9 md (.dK (putK c (.inl n) (.ref d))) = H10 at W
    have I9 : InB ((s'.write n xs).lim none) gs (t + 1 + (i + 1)) := I'.write (n := n) (xs := xs) (by omega) (by omega) hxl hxb
    have hK9 : Kp6 (turn + 1) (fun j => if j = n then xs else Kp' j) (s'.write n xs).read := (hK'.put hn1 xs).congr fun j => read_put s' n xs j
    have hkeys : (s'.write n xs).dirty.map (·.1) = if n ∈ nums then nums else nums ++ [n] := by
      show (putL s'.dirty n xs).map (·.1) = _
      rw [putL_keys, hnm]
    have hne9 : (s'.write n xs).dirty ≠ [] := fun z => by
      rw [z] at hkeys
      have hh := congrArg List.length hkeys
      have h0 : nums.length ≠ 0 := fun z => hne (List.length_eq_zero_iff.mp (by rw [← hnm, List.length_map] at z; exact z))
      split at hh
      · exact h0 hh.symm
      · rw [List.length_append] at hh; simp at hh
    walk_at "nrm"
    refine ⟨_, rfl, _, rfl, l, _, rfl, .inl (SqL.of W.obj), rfl, flat_ints nums, _, rfl, ?_⟩
    walk_at "nrm"
    rw [inV_ints]
    by_cases hin : n ∈ nums
    · rw [decide_eq_true hin]
      walk_at "nrm"
      rw [if_neg (show ¬ (if true = true then !true else true) = true by decide)]
      refine st_next ?_
      rw [if_pos hin] at hkeys
      exact ⟨P9, s'.write n xs, _, _, nums, _, _, _, rfl, W, I9, hK9, hkeys, hne9, e1, e2, g9.trans e3, g9'.trans e4, sF.trans sF2, by omega⟩
    · rw [decide_eq_false hin]
      walk_at "nrm"
      rw [if_pos (show (if true = true then !false else false) = true by decide)]
      rw [if_neg hin] at hkeys
      refine ⟨_, rfl, .inl ⟨rfl, _, SqL.of W.obj⟩, _, rfl, l, _, _, rfl, rfl, W.obj, ?_, ?_⟩
      · rw [List.length_map]
        exact Nat.lt_of_le_of_lt (show _ ≤ 1000000 by omega) (by decide)
      rw [show nums.map V.int ++ [V.int n] = (nums ++ [n]).map V.int by rw [List.map_append]; rfl]
      exact ⟨P9, s'.write n xs, _, _, nums ++ [n], _, _, _, rfl, W.set, I9, hK9, hkeys, hne9, e1, e2, g9.trans e3, g9'.trans e4, sF.trans sF2, by rw [List.length_append]; simp; omega⟩
  · rintro σ' H' ⟨P', s', F', Kp', nums, c6, c7, c8, rfl, W, I', hK', hnm, hne, e1, e2, e3, e4, sF, hlen⟩
    walk_at "nrm"
    refine s_retg ?_
    refine ⟨_, rfl, l, nums, rfl, SqL.of W.obj, fun ys p hperm hsort hp => ?_⟩
    have hys : ys = (srtL s'.dirty).map (·.1) := by rw [srtL_keys, hnm]; exact PySem.W.eq_sortI hperm hsort
    have W5 := W.tl.new (o := .lst (ys.map V.int)) hp
    rw [hys] at W5 ⊢
    exact q P' s' F' (turn + 1) Kp' p _ W5 (I'.le (by omega)) hK' hne e1 e2 e3 e4 sF
def spSh (CD CP : Addr) : Sp := fun vs H Q _ => ∃ (pg : Addr) (P : PG) (s : PS), vs = [.ref pg] ∧ PagAt CD CP H pg P s ∧ (∀ n, (s.read n).length = 256) ∧
  ∀ (p : Addr) (F : Hp) (c : List (Key × V)) (k0 : Int) (Kp : Int → List Int) (H' : Hp), Same H H' → Same F H' → H p = none → H' p = some (.dK c) → Md6 F c k0 Kp → k0 = s.field 3 → (∀ n : Int, 1 ≤ n → n ≤ 4 → Kp n = s.read n) → Q (.ref p) H'
theorem ok_law_shown (T : Txt K mg) : FnOk P w K mg base CX0 5 T.f_law_shown T.fd_law_shown ["pager"] (spSh T.C_Device T.C_Pager) := by
  refine T.F_law_shown.ok sc_law_shown (fun vs H Q E h => ?_) (fun cdv A outer s H vs Q E hr h => ?_)
  · obtain ⟨_, _, _, rfl, _⟩ := h
    rfl
  obtain ⟨pg, P, s, rfl, D, hl, q⟩ := h
  refine ⟨_, (pss_cons (ps_set (i := 1) sc_law_shown.nd rfl (by first | exact Or.inl rfl | exact Or.inr rfl) (pe_disp (pps_cons pe_int (pe_meth (pv 0) T.cl_Pager T.m_Pager_field (ok_Pager_field T) (hr.mono (by decide)) T.b_Pager_field .nil pass0 (pa_cons pe_int pa_nil)) pps_nil) (by rfl) (by rfl) (fun z => by cases z) (by decide)))
      (pss_cons (ps_for PassesOwn.never rfl (pi_range2 (by rfl) T.z_range (pa_cons pe_int (pa_cons pe_int pa_nil))) (pg_name (i := 2) sc_law_shown.nd rfl (by first | exact Or.inl rfl | exact Or.inr rfl))
        (pss_one (ps_dput (hu_of hr) (pv 1) (pv 2) (pe_meth (pv 0) T.cl_Pager T.m_Pager_read (ok_Pager_read T) (hr.mono (by decide)) T.b_Pager_read .nil pass0 (pa_cons (pv 2) pa_nil)) rfl)))
      (pss_one (ps_ret (pv 1))))), ?_⟩
  (try dsimp only [cxOf])
  rw [show start ["pager", "model", "number"] [.ref pg] = [some (.ref pg), none, none] from rfl]
  refine q_setg ?_
  intro p hp
  have s1 := same_upd (o := .dK []) hp
  have D1 := D.same s1
  refine ⟨_, rfl, pg, P.px, pagF P, rfl, D1.at_, lkp_no (by decide +kernel), pg, P, s, 3, rfl, D1, by decide, hl 0, fun H2 s2 => ?_⟩
  refine ⟨s2 _ _ upd_same, [(.inl 0, .int (s.field 3))], rfl, (show 1 ≤ 15 by decide), ?_⟩
  walk_at "nrm"
  have e0 : mergeK [] [((Sum.inl 0 : Key), V.int (s.field 3))] = [((Sum.inl 0 : Key), V.int (s.field 3))] := rfl
  rw [e0]
  have sH : Same H (upd H2 p (.dK [((Sum.inl 0 : Key), V.int (s.field 3))])) := same_put (s1.trans s2) hp
  have e2 : upd H2 p (.dK [((Sum.inl 0 : Key), V.int (s.field 3))]) p = some (.dK [((Sum.inl 0 : Key), V.int (s.field 3))]) := upd_same
  generalize upd H2 p (.dK [((Sum.inl 0 : Key), V.int (s.field 3))]) = H3 at sH e2
  refine ⟨1, 5, rfl, ⟨by omega, by omega, by omega, by omega⟩, ?_⟩
  refine for_range (lo := 1) (n := 4) (fun i σ' H' => ∃ (c : List (Key × V)) (F0 : Hp) (c2 : Option V), σ' = [some (.ref pg), some (.ref p), c2] ∧ Same H H' ∧ Same F0 H' ∧ F0 p = none ∧ H' p = some (.dK c) ∧ c.map (·.1) = (List.range (i + 1)).map (fun j : Nat => (Sum.inl (j : Int) : Key)) ∧ valV c (.inl 0) = some (.int (s.field 3)) ∧
      ∀ n : Int, 1 ≤ n → n ≤ i → ∃ q, valV c (.inl n) = some (.ref q) ∧ F0 q = some (.lst ((s.read n).map V.int)))
    ⟨_, fun _ => none, none, rfl, sH, fun _ _ e => (by cases e), rfl, e2, rfl, rfl, fun n a b => by omega⟩ ?_ ?_
  · rintro i σ' H' hi ⟨c, F0, c2, rfl, sH', sF, fp, ec, ek, v0, vn⟩
    have D' := D.same sH'
    refine ⟨_, rfl, pg, P.px, pagF P, rfl, D'.at_, lkp_no (by decide +kernel), _, rfl, pg, P, s, 1 + (i : Int), rfl, D', fun r H4 s4 nr er => ?_⟩
    have hcl : c.length = i + 1 := by
      have := congrArg List.length ek
      rw [List.length_map, List.length_map, List.length_range] at this
      exact this
    have hrp : r ≠ p := fun z => by rw [z, ec] at nr; cases nr
    have hno : valV c (.inl (1 + (i : Int))) = none := by
      cases e : valV c (.inl (1 + (i : Int))) with
      | none => rfl
      | some x =>
        have := valV_in e
        rw [ek] at this
        obtain ⟨j, hj, e3⟩ := List.mem_map.mp this
        have := Sum.inl.inj e3
        have := List.mem_range.mp hj
        omega
    refine ⟨_, rfl, _, rfl, p, _, rfl, DPut.k (k := .inl (1 + (i : Int))) (s4 _ _ ec) (by rw [hcl]; exact Nat.lt_of_le_of_lt (show _ ≤ 1000000 by omega) (by decide)), ?_⟩
    refine ⟨_, upd F0 r (.lst ((s.read (1 + (i : Int))).map V.int)), _, rfl, same_put (sH'.trans s4) hp, ?_, by rw [upd_ne hrp.symm]; exact fp, upd_same, ?_, ?_, fun n a b => ?_⟩
    · intro b u e
      by_cases hb : b = r
      · subst hb
        rw [upd_same] at e
        rw [upd_ne hrp, er, ← e]
      · rw [upd_ne hb] at e
        rw [upd_ne (ne_of_none e fp)]
        exact s4 _ _ (sF _ _ e)
    · rw [putK_new _ hno, List.map_append, ek, List.range_succ (n := i + 1), List.map_append (f := fun j : Nat => (Sum.inl (j : Int) : Key))]
      show _ ++ [(Sum.inl (1 + (i : Int)) : Key)] = _ ++ [(Sum.inl ((i + 1 : Nat) : Int) : Key)]
      rw [show (1 + (i : Int)) = ((i + 1 : Nat) : Int) from by omega]
    · rw [valV_put, if_neg (fun z => by have := Sum.inl.inj z; omega)]
      exact v0
    · rw [valV_put]
      by_cases e : n = 1 + (i : Int)
      · rw [if_pos (by rw [e]), e]
        exact ⟨r, rfl, upd_same⟩
      · rw [if_neg (fun z => e (Sum.inl.inj z))]
        obtain ⟨q0, h1, h2⟩ := vn n a (by omega)
        have hF0r : F0 r = none := sF.free nr
        exact ⟨q0, h1, by rw [upd_ne (ne_of_none h2 hF0r)]; exact h2⟩
  · rintro σ' H' ⟨c, F0, c2, rfl, sH', sF, fp, ec, ek, v0, vn⟩
    walk_at "nrm"
    refine s_ret (val_var rfl) ?_
    exact q p F0 c (s.field 3) s.read H' sH' sF hp ec ⟨ek, v0, fun n a b => vn n a b⟩ rfl fun n _ _ => rfl
end
end K06


namespace K06
open PySem L2 Nv RZ
local macro_rules | `(tactic| walk_at "hp") => `(tactic| first
  | assumption
  | exact upd_same
  | exact (upd_ne (by assumption)).trans (by first | assumption | exact upd_same | exact (upd_ne (by assumption)).trans (by first | assumption | exact upd_same))
  | exact (upd_ne (Ne.symm (by assumption))).trans (by first | assumption | exact upd_same))
local macro_rules | `(tactic| walk_at "cond") => `(tactic| first
  | (change (0 : Int) < _; first | decide | omega)
  | exact Or.inr ⟨by decide, by decide⟩
  | exact Or.inl ⟨by decide, by decide⟩
  | exact Or.inr ⟨by omega, by omega⟩
  | exact Or.inl ⟨by omega, by omega⟩
  | exact ⟨by decide, by decide, by decide⟩
  | exact wide_div (by first | decide | omega) (show _ < 2 ^ 64 by first | decide | omega) (by decide) (by decide)
  | (change (0 : Int) ≤ _; first | decide | omega)
  | exact ⟨by decide, by decide⟩
  | exact ⟨by omega, by omega⟩)
local macro_rules | `(tactic| walk_at "val") => `(tactic| first
  | (with_reducible exact val_c)
  | ((with_reducible apply val_var); exact rfl)
  | ((with_reducible apply val_I0); walk_at "val"; walk_at "val")
  | ((with_reducible apply val_I); walk_at "val"; walk_at "val"; walk_at "cond")
  | ((with_reducible apply val_ixL); walk_at "val"; walk_at "val"; (first | exact SqL.of (by walk_at "hp") | assumption); exact rfl)
  | ((with_reducible apply val_len); walk_at "val"; first | exact Or.inl (SqL.of (by walk_at "hp")) | exact Or.inl (by assumption) | exact Or.inr (by assumption) | exact Or.inr (SqT.of (by walk_at "hp")))
  | ((with_reducible apply val_int1); walk_at "val")
  | ((with_reducible apply val_abs); walk_at "val")
  | ((with_reducible apply val_max2); walk_at "val"; walk_at "val")
  | ((with_reducible apply val_eq); walk_at "val"; walk_at "val"; exact rfl)
  | ((with_reducible apply val_ne); walk_at "val"; walk_at "val"; exact rfl)
  | ((with_reducible apply val_not); walk_at "val")
  | ((with_reducible apply val_U); walk_at "val"))
local macro_rules | `(tactic| walk_at "ans") => `(tactic| first
  | ((with_reducible apply ans_Eq); walk_at "val"; walk_at "val"; exact rfl)
  | ((with_reducible apply ans_Ne); walk_at "val"; walk_at "val"; exact rfl)
  | ((with_reducible apply ans_I0); walk_at "val"; walk_at "val"; exact rfl)
  | ((with_reducible refine ans_And ?_ (fun _ => ?_)); walk_at "ans"; walk_at "ans")
  | ((with_reducible refine ans_or2 ?_ (fun _ => ?_)); walk_at "ans"; walk_at "ans")
  | ((with_reducible refine ans_not ?_); walk_at "ans")
  | ((with_reducible apply ans_val); walk_at "val"))
local macro_rules | `(tactic| walk_at "nrm") => `(tactic| (try dsimp only [List.set_cons_zero, List.set_cons_succ]))
local macro_rules | `(tactic| walk_at "set") => `(tactic| first
  | ((with_reducible apply q_set); walk_at "val"; walk_at "nrm")
  | ((with_reducible apply s_set); walk_at "val"; walk_at "nrm"))
local macro_rules | `(tactic| walk_at "setL") => `(tactic| first
  | ((with_reducible apply q_setL); walk_at "val"; walk_at "val"; walk_at "val"; walk_at "hp"; exact rfl; walk_at "nrm")
  | ((with_reducible apply s_setL); walk_at "val"; walk_at "val"; walk_at "val"; walk_at "hp"; exact rfl; walk_at "nrm"))
local macro_rules | `(tactic| walk_at "ff") => `(tactic| (walk_at "nrm"; rw [if_neg (by decide)]; (try ((with_reducible refine st_next ?_); walk_at "nrm"))))
local macro_rules | `(tactic| walk_at "nok") => `(tactic| (refine ⟨_, rfl, rfl, _, rfl, ?_⟩; walk_at "nrm"; rw [if_neg (by decide)]))
local macro_rules | `(tactic| walk_at "yesk") => `(tactic| (refine ⟨_, rfl, rfl, _, rfl, ?_⟩; walk_at "nrm"; rw [if_pos (by decide)]))
local macro_rules | `(tactic| walk_at "no") => `(tactic| (walk_at "nrm"; rw [if_neg (by decide)]; walk_at "nrm"))
local macro_rules | `(tactic| walk_at "yes") => `(tactic| (walk_at "nrm"; rw [if_pos (by decide)]; walk_at "nrm"))
local macro_rules | `(tactic| walk_at "nos") => `(tactic| (walk_at "nrm"; repeat (rw [if_neg (by decide)]; walk_at "nrm"); (try ((with_reducible refine st_next ?_); walk_at "nrm"))))

section
variable {P : Program} {w : World} {K : PySem.W.Frag} {mg : Str → Option Value} {base : Heap}
def spGh (K : Frag) (CD CP : Addr) : Sp := fun vs H Q _ => ∃ (pg : Addr) (P : PG) (s : PS) (l0 : List Int) (nl : Addr) (g : List (Int × List Int)), vs = [.ref P.dev, .ref pg, .int (l0.length : Int), .ref nl] ∧ PagAt CD CP H pg P s ∧ H nl = some (.lst ((g.map (·.1)).map V.int)) ∧ s.dev.logNow = l0 ++ grpB g ∧
  (∀ w ∈ g, PairOk w ∧ Byt w.2 ∧ s.read w.1 = w.2) ∧ g.length < 64 ∧ s.dev.log.length + s.dev.steps.length ≤ 900000 ∧ ∀ H' : Hp, Same H H' → Q (.bl true) H'
theorem ok_law_group_holds (T : Txt K mg) : FnOk P w K mg base CX0 5 T.f_law_group_holds T.fd_law_group_holds ["device", "pager", "length", "numbers"] (spGh K T.C_Device T.C_Pager) := by
  refine T.F_law_group_holds.ok sc_law_group_holds (fun vs H Q E h => ?_) (fun cdv A outer s H vs Q E hr h => ?_)
  · obtain ⟨_, _, _, _, _, _, rfl, _⟩ := h
    rfl
  obtain ⟨pg, P, s, l0, nl, g, rfl, D, enl, hlog, hg, h64, hlg, q⟩ := h
  refine ⟨_, (pss_cons (ps_set (i := 4) sc_law_group_holds.nd rfl (by first | exact Or.inl rfl | exact Or.inr rfl) (pe_call (ok_read_groups T) (hr.mono (by decide)) (by rfl) T.g_read_groups T.F_read_groups.kp T.b_read_groups .nil pass0 (pa_cons (pe_slice sl_list (pe_meth0 (pv 0) T.cl_Device T.m_Device_log (ok_Device_log T) (hr.mono (by decide)) T.b_Device_log .nil pass0) (po_some (pv 2)) po_none) pa_nil)))
      (pss_cons (ps_if (PW.pt (pw_or (pt_cmpR op_ne (pe_callB call_len_seq (by rfl) T.z_len (by decide +kernel) (pa_cons (pv 4) pa_nil)) pe_int (nomark _)) (pw_or1 (pt_cmpR (op_neD hr.units) (pe_lc (own := [("pair", 5)]) (g := gName 5) (by rfl) sc_law_group_holds.nd (pi_list (pe_ix ix_list (pv 4) pe_int (fun _ _ => rfl))) (blkOk_by (own := [("pair", 5)]) (N := ["device", "pager", "length", "numbers", "groups", "pair"]) (sc := defScope s_law_group_holds) (by decide +kernel)) (fun _ _ _ _ _ => pg_name (i := 5) sc_law_group_holds.nd rfl (by first | exact Or.inl rfl | exact Or.inr rfl)) (fun _ _ _ _ _ => pts_nil) (fun _ _ _ _ _ => pe_ix (r := rIxT K) ix_tup (pv 5) pe_int (fun _ _ => rfl))) (pv 3) (nomark _)))))
        (pss_one (ps_ret pe_bl))
        pss_nil)
      (pss_one (ps_ret (pe_callB (cr_all rfl) (by rfl) T.z_all (by decide +kernel) (pa_cons (pe_lc (own := [("pair", 5)]) (g := gName 5) (by rfl) sc_law_group_holds.nd (pi_list (pe_ix ix_list (pv 4) pe_int (fun _ _ => rfl))) (blkOk_by (own := [("pair", 5)]) (N := ["device", "pager", "length", "numbers", "groups", "pair"]) (sc := defScope s_law_group_holds) (by decide +kernel)) (fun _ _ _ _ _ => pg_name (i := 5) sc_law_group_holds.nd rfl (by first | exact Or.inl rfl | exact Or.inr rfl)) (fun _ _ _ _ _ => pts_nil) (fun _ _ _ _ _ => pe_cmpR (r := rEqD K) (op_eqD hr.units) (pe_ix (r := rIxT K) ix_tup (pv 5) pe_int (fun _ _ => rfl)) (pe_meth (pv 1) T.cl_Pager T.m_Pager_read (ok_Pager_read T) (hr.mono (by decide)) T.b_Pager_read .nil pass0 (pa_cons (pe_ix (r := rIxT K) ix_tup (pv 5) pe_int (fun _ _ => rfl)) pa_nil)) (nomark _))) pa_nil)))))), ?_⟩
  (try dsimp only [cxOf])
  rw [show start ["device", "pager", "length", "numbers", "groups", "pair"] [.ref P.dev, .ref pg, .int (l0.length : Int), .ref nl] = [some (.ref P.dev), some (.ref pg), some (.int (l0.length : Int)), some (.ref nl), none, none] from rfl]
  refine q_setg ?_
  refine ⟨_, rfl, P.dev, P.g.dx, devF P.g s.dev, rfl, D.dev.at_, lk_no (by decide +kernel), P.dev, P.g, s.dev, rfl, D.dev, by omega, fun p1 H1 s1 np1 ep1 => ?_⟩
  refine ⟨_, rfl, _, rfl, p1, _, rfl, SqL.of ep1, fun p2 hp2 => ?_⟩
  rw [cut_drop, hlog, drop_pre _ _ _ rfl]
  have hok : ∀ w ∈ g, PairOk w := fun w hw => (hg w hw).1
  have hgl := grpB_len hok
  have G0 : Grps (grpB g) 0 [g] := by
    have := grps_of (gs := [g]) (fun x hx => by rw [List.mem_singleton.mp hx]; exact ⟨hok, by omega⟩) [] [] gEnd_nil
    rw [List.append_nil, List.nil_append] at this
    unfold logB at this
    simpa using this
  refine ⟨p2, grpB g, [g], rfl, SqL.of upd_same, fun x hx => (byt_grpB (fun w hw => ⟨(hg w hw).1, (hg w hw).2.1⟩) x hx).1, by omega, G0, fun p3 F us H3 N eF G => ?_⟩
  have s2 := s1.trans ((same_upd (o := .lst ((grpB g).map V.int)) hp2).trans N.old)
  obtain ⟨v, rfl⟩ : ∃ v, us = [v] := by
    have := G.len
    match us, this with
    | [v], _ => exact ⟨v, rfl⟩
  obtain ⟨a, ws, rfl, ea, Wr⟩ := G.each 0 v g rfl rfl
  have sF : Same F H3 := N.sm
  walk_at "nrm"
  have hwl := Wr.len
  have one : ∀ (i : Nat) (v : V), ws[i]? = some v → ∃ (t c : Addr) (w : Int × List Int), g[i]? = some w ∧ v = .ref t ∧ F t = some (.tup [.int w.1, .ref c]) ∧ F c = some (.lst (w.2.map V.int)) ∧ w ∈ g := fun i v hv => by
    have hi : i < g.length := by rw [← hwl]; exact (List.getElem?_eq_some_iff.mp hv).1
    have hw : g[i]? = some g[i] := List.getElem?_eq_getElem hi
    obtain ⟨t, c, e1, e2, e3, _⟩ := Wr.each i v g[i] hv hw
    exact ⟨t, c, g[i], hw, e1, e2, e3, List.getElem_mem hi⟩
  refine ⟨_, rfl, p3, _, rfl, .inl (SqL.of (sF _ _ eF)), rfl, _, rfl, ?_⟩
  rw [decide_eq_true (show V.int ((([V.ref a] : List V).length : Nat) : Int) = V.int 1 from rfl)]
  walk_at "nos"
  refine ⟨_, rfl, p3, _, 0, _, rfl, rfl, SqL.of (sF _ _ eF), rfl, ?_⟩
  refine ⟨a, rfl, ⟨_, SqL.of (sF _ _ ea)⟩, fun l hl => ?_⟩
  refine lc_list (K := K) (a := a) (xs := ws) (fun i H' => Same H3 H' ∧ H' l = some (.lst (((g.take i).map (·.1)).map V.int))) ⟨same_upd hl, upd_same⟩ (fun i H' _ ⟨b, _⟩ => SqL.of (b _ _ (sF _ _ ea))) ?_ ?_
  · rintro i v H' hv ⟨sH, el⟩
    obtain ⟨t, c, w, hw, rfl, e1, e2, _⟩ := one i v hv
    refine ⟨rfl, g_yes ?_⟩
    refine ⟨_, rfl, t, _, 0, _, rfl, rfl, SqT.of (sH _ _ (sF _ _ e1)), rfl, ?_⟩
    refine ⟨_, el, ?_, same_put sH hl, ?_⟩
    · rw [List.length_map, List.length_map]
      exact Nat.lt_of_le_of_lt (show _ ≤ 64 by rw [List.length_take]; omega) (by decide)
    · rw [upd_same, take_more hw, List.map_append, List.map_append]
      rfl
  rintro H4 ⟨sH, el⟩
  rw [hwl, List.take_length] at el
  have s4 := s2.trans sH
  refine ⟨_, rfl, neL_ints (SqL.of el) (SqL.of (s4 _ _ enl)) ?_⟩
  rw [decide_eq_true rfl]
  refine ⟨_, rfl, ?_⟩
  walk_at "nos"
  refine s_retg ?_
  refine ⟨_, rfl, p3, _, 0, _, rfl, rfl, SqL.of (sH _ _ (sF _ _ eF)), rfl, ?_⟩
  refine ⟨a, rfl, ⟨_, SqL.of (sH _ _ (sF _ _ ea))⟩, fun l2 hl2 => ?_⟩
  refine lc_list (K := K) (a := a) (xs := ws) (fun i H' => Same H4 H' ∧ H' l2 = some (.lst ((List.replicate i true).map V.bl))) ⟨same_upd hl2, upd_same⟩ (fun i H' _ ⟨b, _⟩ => SqL.of (b _ _ (sH _ _ (sF _ _ ea)))) ?_ ?_
  · rintro i v H' hv ⟨sH', el2⟩
    obtain ⟨t, c, w, hw, rfl, e1, e2, hm⟩ := one i v hv
    have sA := sH.trans sH'
    have D' := D.same (s4.trans sH')
    refine ⟨rfl, g_yes ?_⟩
    refine ⟨_, rfl, t, _, 1, _, rfl, rfl, SqT.of (sA _ _ (sF _ _ e1)), rfl, ?_⟩
    refine ⟨_, rfl, pg, P.px, pagF P, rfl, D'.at_, lkp_no (by decide +kernel), ?_⟩
    refine ⟨_, rfl, t, _, 0, _, rfl, rfl, SqT.of (sA _ _ (sF _ _ e1)), rfl, ?_⟩
    refine ⟨pg, P, s, w.1, rfl, D', fun p5 H5 s5 np5 ep5 => ?_⟩
    rw [(hg w hm).2.2] at ep5
    refine eqL_ints (SqL.of (s5 _ _ (sA _ _ (sF _ _ e2)))) (SqL.of ep5) ?_
    rw [decide_eq_true rfl]
    have hi : i < g.length := (List.getElem?_eq_some_iff.mp hw).1
    refine ⟨_, s5 _ _ el2, ?_, same_put (sH'.trans s5) hl2, ?_⟩
    · rw [List.length_map, List.length_replicate]
      exact Nat.lt_of_le_of_lt (show _ ≤ 64 by omega) (by decide)
    · rw [upd_same, List.replicate_succ', List.map_append]
      rfl
  rintro H6 ⟨sH6, el6⟩
  refine ⟨l2, _, rfl, SqL.of el6, ?_⟩
  rw [show (List.replicate ws.length true).all id = true from List.all_eq_true.mpr fun x hx => List.eq_of_mem_replicate hx]
  exact q H6 (s4.trans sH6)
end
end K06


namespace K06
open PySem L2 Nv RZ
local macro_rules | `(tactic| walk_at "hp") => `(tactic| first
  | assumption
  | exact upd_same
  | exact (upd_ne (by assumption)).trans (by first | assumption | exact upd_same | exact (upd_ne (by assumption)).trans (by first | assumption | exact upd_same))
  | exact (upd_ne (Ne.symm (by assumption))).trans (by first | assumption | exact upd_same))
local macro_rules | `(tactic| walk_at "cond") => `(tactic| first
  | (change (0 : Int) < _; first | decide | omega)
  | exact Or.inr ⟨by decide, by decide⟩
  | exact Or.inl ⟨by decide, by decide⟩
  | exact Or.inr ⟨by omega, by omega⟩
  | exact Or.inl ⟨by omega, by omega⟩
  | exact ⟨by decide, by decide, by decide⟩
  | exact wide_div (by first | decide | omega) (show _ < 2 ^ 64 by first | decide | omega) (by decide) (by decide)
  | (change (0 : Int) ≤ _; first | decide | omega)
  | exact ⟨by decide, by decide⟩
  | exact ⟨by omega, by omega⟩)
local macro_rules | `(tactic| walk_at "val") => `(tactic| first
  | (with_reducible exact val_c)
  | ((with_reducible apply val_var); exact rfl)
  | ((with_reducible apply val_I0); walk_at "val"; walk_at "val")
  | ((with_reducible apply val_I); walk_at "val"; walk_at "val"; walk_at "cond")
  | ((with_reducible apply val_ixL); walk_at "val"; walk_at "val"; (first | exact SqL.of (by walk_at "hp") | assumption); exact rfl)
  | ((with_reducible apply val_len); walk_at "val"; first | exact Or.inl (SqL.of (by walk_at "hp")) | exact Or.inl (by assumption) | exact Or.inr (by assumption) | exact Or.inr (SqT.of (by walk_at "hp")))
  | ((with_reducible apply val_int1); walk_at "val")
  | ((with_reducible apply val_abs); walk_at "val")
  | ((with_reducible apply val_max2); walk_at "val"; walk_at "val")
  | ((with_reducible apply val_eq); walk_at "val"; walk_at "val"; exact rfl)
  | ((with_reducible apply val_ne); walk_at "val"; walk_at "val"; exact rfl)
  | ((with_reducible apply val_not); walk_at "val")
  | ((with_reducible apply val_U); walk_at "val"))
local macro_rules | `(tactic| walk_at "ans") => `(tactic| first
  | ((with_reducible apply ans_Eq); walk_at "val"; walk_at "val"; exact rfl)
  | ((with_reducible apply ans_Ne); walk_at "val"; walk_at "val"; exact rfl)
  | ((with_reducible apply ans_I0); walk_at "val"; walk_at "val"; exact rfl)
  | ((with_reducible refine ans_And ?_ (fun _ => ?_)); walk_at "ans"; walk_at "ans")
  | ((with_reducible refine ans_or2 ?_ (fun _ => ?_)); walk_at "ans"; walk_at "ans")
  | ((with_reducible refine ans_not ?_); walk_at "ans")
  | ((with_reducible apply ans_val); walk_at "val"))
local macro_rules | `(tactic| walk_at "nrm") => `(tactic| (try dsimp only [List.set_cons_zero, List.set_cons_succ]))
local macro_rules | `(tactic| walk_at "set") => `(tactic| first
  | ((with_reducible apply q_set); walk_at "val"; walk_at "nrm")
  | ((with_reducible apply s_set); walk_at "val"; walk_at "nrm"))
local macro_rules | `(tactic| walk_at "setL") => `(tactic| first
  | ((with_reducible apply q_setL); walk_at "val"; walk_at "val"; walk_at "val"; walk_at "hp"; exact rfl; walk_at "nrm")
  | ((with_reducible apply s_setL); walk_at "val"; walk_at "val"; walk_at "val"; walk_at "hp"; exact rfl; walk_at "nrm"))
local macro_rules | `(tactic| walk_at "ff") => `(tactic| (walk_at "nrm"; rw [if_neg (by decide)]; (try ((with_reducible refine st_next ?_); walk_at "nrm"))))
local macro_rules | `(tactic| walk_at "nok") => `(tactic| (refine ⟨_, rfl, rfl, _, rfl, ?_⟩; walk_at "nrm"; rw [if_neg (by decide)]))
local macro_rules | `(tactic| walk_at "yesk") => `(tactic| (refine ⟨_, rfl, rfl, _, rfl, ?_⟩; walk_at "nrm"; rw [if_pos (by decide)]))
local macro_rules | `(tactic| walk_at "no") => `(tactic| (walk_at "nrm"; rw [if_neg (by decide)]; walk_at "nrm"))
local macro_rules | `(tactic| walk_at "yes") => `(tactic| (walk_at "nrm"; rw [if_pos (by decide)]; walk_at "nrm"))
local macro_rules | `(tactic| walk_at "nos") => `(tactic| (walk_at "nrm"; repeat (rw [if_neg (by decide)]; walk_at "nrm"); (try ((with_reducible refine st_next ?_); walk_at "nrm"))))

section
variable {P : Program} {w : World} {K : PySem.W.Frag} {mg : Str → Option Value} {base : Heap}
theorem exm_PC (T : Txt K mg) : PySem.W.exmOne K (.ref T.C_PowerCut) (.ref T.C_PowerCut) = some true := PySem.W.exm_ref T.xb_PowerCut T.xhd_PowerCut T.xt_PowerCut T.xs_PowerCut
def spRd (K : Frag) (CD CP : Addr) : Sp := fun vs H Q _ => ∃ (st sc : Addr) (H0 : Hp) (ns : List Int) (pg : Addr) (P : PG) (s : PS) (F : Hp) (md : Addr) (k0 : Int) (Kp : Int → List Int) (turn : Int) (gs : GL) (t : Nat) (c : Int) (rs : List Rg),
  vs = [.ref st, .ref sc, .ref P.dev, .ref pg, .ref md, .int turn] ∧ Ap (rgDr K H0 st sc ns :: rgPg CD CP pg P s :: rgMd F md k0 Kp :: rgF F :: rs) H ∧ InB (s.lim none) gs t ∧ Kp6 k0 Kp s.read ∧ (s.dirty.map (·.1) = [] ∨ s.dirty.map (·.1) = [0]) ∧ t ≤ 25 ∧ 0 ≤ turn ∧ turn ≤ 100 ∧ bnd P.g s.dev ≤ 800000 ∧ Lim s.dev c ∧
  (∀ (s1 : PS) (F' : Hp) (k1 : Int) (Kp1 : Int → List Int) (g' : DG) (tp : Addr) (H' : Hp), Ap (rgO tp (.tup [.int ((s1.dirty.length : Nat) : Int), .str "cut"]) :: rgDr K H0 st sc ns :: rgDv CD P.dev g' (commitD (srtL s1.dirty) s1.dev).1 :: rgMd F' md k1 Kp1 :: rgF F' :: rs) H' → (commitD (srtL s1.dirty) s1.dev).2 = false → InB (s1.lim none) gs (t + 4) → Kp6 k1 Kp1 s1.read → s1.dirty ≠ [] → s1.dev = s.dev → s1.since = s.since → bnd g' (commitD (srtL s1.dirty) s1.dev).1 ≤ bnd P.g s.dev → Same F F' → Q (.ref tp) H') ∧
  (∀ (s2 : PS) (F' : Hp) (k1 : Int) (Kp1 : Int → List Int) (g' : DG) (tp : Addr) (m : Nat) (gs2 : GL) (H' : Hp), Ap (rgO tp (.tup [.int (m : Int), .str "late"]) :: rgDr K H0 st sc ns :: rgDv CD P.dev g' (checkD (srtL s2.since) s2.dev).1 :: rgMd F' md k1 Kp1 :: rgF F' :: rs) H' → (checkD (srtL s2.since) s2.dev).2 = false → InB (s2.lim none) gs2 (t + 5) → s2.dirty = [] → Kp6 k1 Kp1 s2.read → Lim s2.dev c → s2.dev.done = s.dev.done + 5 + 260 * (m : Int) → (s.dev.allowed ≠ none) → bnd g' (checkD (srtL s2.since) s2.dev).1 ≤ bnd P.g s.dev + 63 → Same F F' → Q (.ref tp) H') ∧
  (∀ (s3 : PS) (F' : Hp) (k1 : Int) (Kp1 : Int → List Int) (P' : PG) (tp : Addr) (m : Nat) (gs2 : GL) (H' : Hp), Ap (rgO tp (.tup [.int (m : Int), .str "stands"]) :: rgDr K H0 st sc ns :: rgPg CD CP pg P' s3 :: rgMd F' md k1 Kp1 :: rgF F' :: rs) H' → InB (s3.lim none) gs2 (t + 5) → s3.dirty = [] → Kp6 k1 Kp1 s3.read → Lim s3.dev c → s.dev.done + 5 + 260 * (m : Int) ≤ s3.dev.done → (s.dev.allowed ≠ none → s3.dev.allowed ≠ none) → P'.dev = P.dev → bnd P'.g s3.dev ≤ bnd P.g s.dev + 63 → Same F F' → Q (.ref tp) H')
theorem ok_law_round (T : Txt K mg) : FnOk P w K mg base CX0 7 T.f_law_round T.fd_law_round ["state", "script", "device", "pager", "model", "turn"] (spRd K T.C_Device T.C_Pager) := by
  refine T.F_law_round.ok sc_law_round (fun vs H Q E h => ?_) (fun cdv A outer s H vs Q E hr h => ?_)
  · obtain ⟨_, _, _, _, _, _, _, _, _, _, _, _, _, _, _, _, rfl, _⟩ := h
    rfl
  obtain ⟨st, sc, H0, ns, pg, P, s, F, md, k0, Kp, turn, gs, t, c, rs, rfl, W, I, hK, hd0, ht, h0, h1, hbd, hL, q1, q2, q3⟩ := h
  refine ⟨_, (pss_cons (ps_set (i := 6) sc_law_round.nd rfl (by first | exact Or.inl rfl | exact Or.inr rfl) (pe_call (ok_law_change T) (hr.mono (by decide)) (by rfl) T.g_law_change T.F_law_change.kp T.b_law_change .nil pass0 (pa_cons (pv 0) (pa_cons (pv 1) (pa_cons (pv 3) (pa_cons (pv 4) (pa_cons (pv 5) pa_nil)))))))
      (pss_cons (ps_set (i := 7) sc_law_round.nd rfl (by first | exact Or.inl rfl | exact Or.inr rfl) (pe_callB call_len_seq (by rfl) T.z_len (by decide +kernel) (pa_cons (pe_meth0 (pv 2) T.cl_Device T.m_Device_log (ok_Device_log T) (hr.mono (by decide)) T.b_Device_log .nil pass0) pa_nil)))
      (pss_cons (L2H.ps_try_onlyX (Wout := fun _ _ _ _ => False) rfl rfl ⟨by rfl, by decide, Or.inl T.g_PowerCut⟩ (fun _ => PassesOwnAt.never) takes0 (fun W pn xe tk _ hp => pss_one (ps_expr (pe_meth0S (pv 3) T.cl_Pager T.m_Pager_commit (ok_Pager_commit T) (hr.mono (by decide)) T.b_Pager_commit .nil (fun σ => L2N.passAt tk σ)))) (fun a oe cls d pn hz hf _ hot => pss_one (ps_ret (pe_tup (pa_cons (pe_lenK (K := K) rfl (by rfl) T.z_len (pv 6)) (pa_cons pe_str pa_nil))))))
      (pss_cons (ps_if (pt_not (pt_val (pe_call (ok_law_group_holds T) (hr.mono (by decide)) (by rfl) T.g_law_group_holds T.F_law_group_holds.kp T.b_law_group_holds .nil pass0 (pa_cons (pv 2) (pa_cons (pv 3) (pa_cons (pv 7) (pa_cons (pv 6) pa_nil)))))))
        (pss_one (ps_ret (pe_tup (pa_cons (pe_callB call_len_seq (by rfl) T.z_len (by decide +kernel) (pa_cons (pv 6) pa_nil)) (pa_cons pe_str pa_nil)))))
        pss_nil)
      (pss_cons (L2H.ps_try_onlyX (Wout := fun _ _ _ _ => False) rfl rfl ⟨by rfl, by decide, Or.inl T.g_PowerCut⟩ (fun _ => PassesOwnAt.never) takes0 (fun W pn xe tk _ hp => pss_one (ps_if (pt_cmpR op_eq (pe_call (ok_law_draw T) (hr.mono (by decide)) (by rfl) T.g_law_draw T.F_law_draw.kp T.b_law_draw .nil pass0 (pa_cons (pv 0) (pa_cons (pv 1) (pa_cons pe_int pa_nil)))) pe_int (nomark _)) (pss_one (ps_expr (pe_meth0S (pv 3) T.cl_Pager T.m_Pager_checkpoint (ok_Pager_checkpoint T) (hr.mono (by decide)) T.b_Pager_checkpoint .nil (fun σ => L2N.passAt tk σ)))) pss_nil)) (fun a oe cls d pn hz hf _ hot => pss_one (ps_ret (pe_tup (pa_cons (pe_lenK (K := K) rfl (by rfl) T.z_len (pv 6)) (pa_cons pe_str pa_nil))))))
      (pss_one (ps_ret (pe_tup (pa_cons (pe_callB call_len_seq (by rfl) T.z_len (by decide +kernel) (pa_cons (pv 6) pa_nil)) (pa_cons pe_str pa_nil)))))))))), ?_⟩
  (try dsimp only [cxOf])
  rw [show start ["state", "script", "device", "pager", "model", "turn", "numbers", "length"] [.ref st, .ref sc, .ref P.dev, .ref pg, .ref md, .int turn] = [some (.ref st), some (.ref sc), some (.ref P.dev), some (.ref pg), some (.ref md), some (.int turn), none, none] from rfl]
  refine q_setg ?_
  refine ⟨_, rfl, _, rfl, _, rfl, _, rfl, _, rfl, st, sc, H0, ns, pg, P, s, F, md, k0, Kp, turn, gs, t, rs, rfl, W, I, hK, hd0, by omega, h0, h1, fun P1 s1 F1 k1 Kp1 nl H1 W1 I1 hK1 hne e1 e2 g1 g2 sF => ?_⟩
  walk_at "nrm"
  have D1 : PagAt T.C_Device T.C_Pager H1 pg P1 s1 := W1.tl.tl.hd
  rw [← g1]
  have hll := I1.loglen (by omega)
  have hll : s1.dev.log.length + s1.dev.steps.length ≤ 620000 := hll
  refine q_setg ?_
  refine ⟨_, rfl, P1.dev, P1.g.dx, devF P1.g s1.dev, rfl, D1.dev.at_, lk_no (by decide +kernel), P1.dev, P1.g, s1.dev, rfl, D1.dev, by omega, fun p2 H2 s2 np2 ep2 => ?_⟩
  refine ⟨p2, _, rfl, .inl (SqL.of ep2), ?_⟩
  rw [List.length_map]
  walk_at "nrm"
  have W2 := W1.same s2
  have D2 : PagAt T.C_Device T.C_Pager H2 pg P1 s1 := W2.tl.tl.hd
  have z := inB_len I1 (by omega)
  have z : gs.length ≤ 31 ∧ (foldG gs).length ≤ 63 ∧ s1.dirty.length ≤ 63 ∧ s1.since.length ≤ 63 := z
  refine ⟨_, rfl, pg, P1.px, pagF P1, rfl, D2.at_, lkp_no (by decide +kernel), ?_⟩
  refine ⟨pg, P1, s1, rfl, D2, I1.nd, fun w hw => (I1.dok w hw).1, by omega, by omega, by omega, fun _ hf g' H3 D3 f3 b3 => ?_, fun hok P3 H3 D3 f3 g3 b3 => ?_⟩
  · refine ⟨true, exm_PC T, fun _ a na => ?_, fun z => by cases z⟩
    have W3 := W2.on3 (r' := rgDv T.C_Device P1.dev g' (commitD (srtL s1.dirty) s1.dev).1) f3 D3
    refine ⟨_, rfl, nl, _, rfl, .inl (SqL.of W3.obj), ?_⟩
    rw [List.length_map, List.length_map, srtL_len]
    refine ⟨by show 2 ≤ sizeLine; decide, fun tp htp => ?_⟩
    have W4 := W3.tl.new (o := .tup [.int ((s1.dirty.length : Nat) : Int), .str "cut"]) htp
    rw [g1] at W4
    exact q1 s1 F1 k1 Kp1 g' tp _ W4 hf I1 hK1 hne e1 e2 (Nat.le_trans b3 (Nat.le_of_eq (by rw [g2, e1]))) sF
  have hc := hok.resolve_left hne
  have hcl := commit_lim hne hc
  have hlen := srtL_len s1.dirty
  have I3 := I1.commit (by omega)
  rw [← hcl, show grpsB (s1.lim none) gs = gs ++ [srtL s1.dirty] from if_neg hne] at I3
  have hrd : ∀ n, s1.commit.read n = s1.read n := fun n => by
    have e : (s1.commit.lim none).read n = (s1.lim none).read n := by rw [hcl]; exact commit_read I1.nd I1.al I1.st n
    exact e
  have hK3 : Kp6 k1 Kp1 s1.commit.read := hK1.congr hrd
  have hd3 := commit_dirty s1
  have hok2 : ∀ w ∈ srtL s1.dirty, PairOk w ∧ Byt w.2 := fun w hw => I1.dok w ((srtL_mem I1.nd).mp hw)
  obtain ⟨hL3, hu3⟩ := commit_used (s := s1) (c := c) I1.st hne (fun w hw => (hok2 w hw).1) hc (by rw [e1]; exact hL)
  have hl1 : s1.dev.logNow = logB gs := I1.logNow
  have hl3 : s1.commit.dev.logNow = s1.dev.logNow ++ grpB (srtL s1.dirty) := by
    have e : s1.commit.dev.logNow = logB (gs ++ [srtL s1.dirty]) := I3.logNow
    rw [e, hl1]
    unfold logB
    rw [List.flatMap_append]
    simp
  have hll3 : s1.commit.dev.log.length + s1.commit.dev.steps.length ≤ 620000 := I3.loglen (by omega)
  have W3 := W2.on3 (r' := rgPg T.C_Device T.C_Pager pg P3 s1.commit) f3 D3
  have hbe : bnd P1.g s1.dev = bnd P.g s.dev := by rw [g2, e1]
  walk_at "nrm"
  have key : ∀ n x, (n, x) ∈ srtL s1.dirty → s1.commit.read n = x := fun n x h => by
    rw [hrd]
    have e : getL s1.dirty n = some x := getL_of_mem I1.nd ((srtL_mem (l := s1.dirty) I1.nd).mp h)
    unfold PS.read
    rw [e]
  have D3' : PagAt T.C_Device T.C_Pager H3 pg P3 s1.commit := W3.tl.tl.hd
  refine ⟨_, rfl, _, rfl, _, rfl, _, rfl, pg, P3, s1.commit, s1.dev.logNow, nl, srtL s1.dirty, by rw [g3]; rfl, D3', W3.obj, hl3, fun w hw => ⟨(hok2 w hw).1, (hok2 w hw).2, key w.1 w.2 hw⟩, by omega, by omega, fun H4 s4 => ?_⟩
  have W4 := W3.same s4
  walk_at "nos"
  refine ⟨true, rfl, ?_⟩
  rw [if_neg (show ¬ (!true) = true by decide)]
  refine st_next ?_
  walk_at "nrm"
  have hst : s.dev.allowed ≠ none → s1.commit.dev.allowed ≠ none := fun h => by
    rw [← e1] at h
    have := (tk_commit (srtL s1.dirty)).stay s1.dev h
    rw [show s1.commit = s1.committed from if_neg hne]
    exact this
  have hst2 : s1.commit.dev.allowed ≠ none → s.dev.allowed ≠ none := fun h h' => by
    rw [← e1] at h'
    have := ((tk_commit (srtL s1.dirty)).non s1.dev h').1
    rw [show s1.commit = s1.committed from if_neg hne] at h
    exact h this
  have z3 := inB_len I3 (by omega)
  have z3 : (gs ++ [srtL s1.dirty]).length ≤ 31 ∧ (foldG (gs ++ [srtL s1.dirty])).length ≤ 63 ∧ s1.commit.dirty.length ≤ 63 ∧ s1.commit.since.length ≤ 63 := z3
  have hu : s1.commit.dev.done = s.dev.done + 5 + 260 * (s1.dirty.length : Int) := by rw [hu3, e1]
  refine ⟨_, rfl, _, rfl, st, sc, 2, H0, ns, rfl, by decide, by decide, W4.tl.hd, fun r H5 r0 r2 hB5 D5 => ?_⟩
  have W5 := W4.on2 (r' := rgDr K H0 st sc ns) (Frm.draw hB5) D5
  refine ⟨rfl, _, rfl, ?_⟩
  walk_at "nrm"
  by_cases c1 : r = 1
  · rw [if_pos (show decide (V.int r = V.int 1) = true from decide_eq_true (congrArg V.int c1))]
    have D6 : PagAt T.C_Device T.C_Pager H5 pg P3 s1.commit := W5.tl.tl.hd
    refine ⟨_, rfl, pg, P3.px, pagF P3, rfl, D6.at_, lkp_no (by decide +kernel), ?_⟩
    refine ⟨pg, P3, s1.commit, rfl, D6, I3.ns, by omega, by omega, by omega, fun hf g' H7 D7 f7 b7 => ?_, fun hck P7 H7 D7 f7 g7 b7 => ?_⟩
    · refine ⟨true, exm_PC T, fun _ a na => ?_, fun z => by cases z⟩
      have W7 := W5.on3 (r' := rgDv T.C_Device P3.dev g' (checkD (srtL s1.commit.since) s1.commit.dev).1) f7 D7
      refine ⟨_, rfl, nl, _, rfl, .inl (SqL.of W7.obj), ?_⟩
      rw [List.length_map, List.length_map, srtL_len]
      refine ⟨by show 2 ≤ sizeLine; decide, fun tp htp => ?_⟩
      have W8 := W7.tl.new (o := .tup [.int ((s1.dirty.length : Nat) : Int), .str "late"]) htp
      rw [g3.trans g1] at W8
      have hal : s1.commit.dev.allowed ≠ none := (check_cutU hL3 hf).2.1
      exact q2 s1.commit F1 k1 Kp1 g' tp s1.dirty.length _ _ W8 hf (I3.le (by omega)) hd3 hK3 hL3 hu (hst2 hal) (by omega) sF
    · have W7 := W5.on3 (r' := rgPg T.C_Device T.C_Pager pg P7 s1.commit.checked) f7 D7
      walk_at "nrm"
      refine s_retg ?_
      refine ⟨_, rfl, nl, _, rfl, .inl (SqL.of W7.obj), ?_⟩
      rw [List.length_map, List.length_map, srtL_len]
      refine ⟨by show 2 ≤ sizeLine; decide, fun tp htp => ?_⟩
      have W8 := W7.tl.new (o := .tup [.int ((s1.dirty.length : Nat) : Int), .str "stands"]) htp
      have hcl2 := checked_lim hck
      have I8 := I3.checked hd3
      rw [← hcl2] at I8
      have hK8 : Kp6 k1 Kp1 s1.commit.checked.read := hK3.congr fun n => by
        have e : (s1.commit.checked.lim none).read n = (s1.commit.lim none).read n := by rw [hcl2]; exact checked_read I3.ns I3.al I3.wr n
        exact e
      refine q3 s1.commit.checked F1 k1 Kp1 P7 tp s1.dirty.length [] _ W8 (I8.le (by omega)) hd3 hK8 ((tk_check _).lim _ _ hL3) ?_ (fun h => (tk_check _).stay _ (hst h)) (g7.trans (g3.trans g1)) (by omega) sF
      rw [← hu]
      exact (tk_check (srtL s1.commit.since)).up s1.commit.dev
  · rw [if_neg (show ¬ decide (V.int r = V.int 1) = true from fun z => c1 (V.int.inj (of_decide_eq_true z)))]
    refine st_next ?_
    walk_at "nrm"
    refine s_retg ?_
    refine ⟨_, rfl, nl, _, rfl, .inl (SqL.of W5.obj), ?_⟩
    rw [List.length_map, List.length_map, srtL_len]
    refine ⟨by show 2 ≤ sizeLine; decide, fun tp htp => ?_⟩
    have W8 := W5.tl.new (o := .tup [.int ((s1.dirty.length : Nat) : Int), .str "stands"]) htp
    exact q3 s1.commit F1 k1 Kp1 P3 tp s1.dirty.length _ _ W8 (I3.le (by omega)) hd3 hK3 hL3 (Int.le_of_eq hu.symm) hst (g3.trans g1) (by omega) sF
end
end K06


namespace K06
open PySem L2 Nv RZ
local macro_rules | `(tactic| walk_at "hp") => `(tactic| first
  | assumption
  | exact upd_same
  | exact (upd_ne (by assumption)).trans (by first | assumption | exact upd_same | exact (upd_ne (by assumption)).trans (by first | assumption | exact upd_same))
  | exact (upd_ne (Ne.symm (by assumption))).trans (by first | assumption | exact upd_same))
local macro_rules | `(tactic| walk_at "cond") => `(tactic| first
  | (change (0 : Int) < _; first | decide | omega)
  | exact Or.inr ⟨by decide, by decide⟩
  | exact Or.inl ⟨by decide, by decide⟩
  | exact Or.inr ⟨by omega, by omega⟩
  | exact Or.inl ⟨by omega, by omega⟩
  | exact ⟨by decide, by decide, by decide⟩
  | exact wide_div (by first | decide | omega) (show _ < 2 ^ 64 by first | decide | omega) (by decide) (by decide)
  | (change (0 : Int) ≤ _; first | decide | omega)
  | exact ⟨by decide, by decide⟩
  | exact ⟨by omega, by omega⟩)
local macro_rules | `(tactic| walk_at "val") => `(tactic| first
  | (with_reducible exact val_c)
  | ((with_reducible apply val_var); exact rfl)
  | ((with_reducible apply val_I0); walk_at "val"; walk_at "val")
  | ((with_reducible apply val_I); walk_at "val"; walk_at "val"; walk_at "cond")
  | ((with_reducible apply val_ixL); walk_at "val"; walk_at "val"; (first | exact SqL.of (by walk_at "hp") | assumption); exact rfl)
  | ((with_reducible apply val_len); walk_at "val"; first | exact Or.inl (SqL.of (by walk_at "hp")) | exact Or.inl (by assumption) | exact Or.inr (by assumption) | exact Or.inr (SqT.of (by walk_at "hp")))
  | ((with_reducible apply val_int1); walk_at "val")
  | ((with_reducible apply val_abs); walk_at "val")
  | ((with_reducible apply val_max2); walk_at "val"; walk_at "val")
  | ((with_reducible apply val_eq); walk_at "val"; walk_at "val"; exact rfl)
  | ((with_reducible apply val_ne); walk_at "val"; walk_at "val"; exact rfl)
  | ((with_reducible apply val_not); walk_at "val")
  | ((with_reducible apply val_U); walk_at "val"))
local macro_rules | `(tactic| walk_at "ans") => `(tactic| first
  | ((with_reducible apply ans_Eq); walk_at "val"; walk_at "val"; exact rfl)
  | ((with_reducible apply ans_Ne); walk_at "val"; walk_at "val"; exact rfl)
  | ((with_reducible apply ans_I0); walk_at "val"; walk_at "val"; exact rfl)
  | ((with_reducible refine ans_And ?_ (fun _ => ?_)); walk_at "ans"; walk_at "ans")
  | ((with_reducible refine ans_or2 ?_ (fun _ => ?_)); walk_at "ans"; walk_at "ans")
  | ((with_reducible refine ans_not ?_); walk_at "ans")
  | ((with_reducible apply ans_val); walk_at "val"))
local macro_rules | `(tactic| walk_at "nrm") => `(tactic| (try dsimp only [List.set_cons_zero, List.set_cons_succ]))
local macro_rules | `(tactic| walk_at "set") => `(tactic| first
  | ((with_reducible apply q_set); walk_at "val"; walk_at "nrm")
  | ((with_reducible apply s_set); walk_at "val"; walk_at "nrm"))
local macro_rules | `(tactic| walk_at "setL") => `(tactic| first
  | ((with_reducible apply q_setL); walk_at "val"; walk_at "val"; walk_at "val"; walk_at "hp"; exact rfl; walk_at "nrm")
  | ((with_reducible apply s_setL); walk_at "val"; walk_at "val"; walk_at "val"; walk_at "hp"; exact rfl; walk_at "nrm"))
local macro_rules | `(tactic| walk_at "ff") => `(tactic| (walk_at "nrm"; rw [if_neg (by decide)]; (try ((with_reducible refine st_next ?_); walk_at "nrm"))))
local macro_rules | `(tactic| walk_at "nok") => `(tactic| (refine ⟨_, rfl, rfl, _, rfl, ?_⟩; walk_at "nrm"; rw [if_neg (by decide)]))
local macro_rules | `(tactic| walk_at "yesk") => `(tactic| (refine ⟨_, rfl, rfl, _, rfl, ?_⟩; walk_at "nrm"; rw [if_pos (by decide)]))
local macro_rules | `(tactic| walk_at "no") => `(tactic| (walk_at "nrm"; rw [if_neg (by decide)]; walk_at "nrm"))
local macro_rules | `(tactic| walk_at "yes") => `(tactic| (walk_at "nrm"; rw [if_pos (by decide)]; walk_at "nrm"))
local macro_rules | `(tactic| walk_at "nos") => `(tactic| (walk_at "nrm"; repeat (rw [if_neg (by decide)]; walk_at "nrm"); (try ((with_reducible refine st_next ?_); walk_at "nrm"))))

section
variable {P : Program} {w : World} {K : PySem.W.Frag} {mg : Str → Option Value} {base : Heap}
def spCr (K : Frag) (CD : Addr) : Sp := fun vs H Q _ => ∃ (st sc : Addr) (H0 : Hp) (ns : List Int) (dev : Addr) (g : DG) (d : DS) (rs : List Rg), vs = [.ref st, .ref sc, .ref dev] ∧ Ap (rgDr K H0 st sc ns :: rgDv CD dev g d :: rs) H ∧ d.writes.length ≤ 1000 ∧ d.steps.length ≤ 100000 ∧ bnd g d ≤ 900000 ∧ d.log.length + d.steps.length ≤ 900000 ∧
  ∀ (fs : List Int) (k : Nat) (g' : DG) (H' : Hp), Ap (rgDr K H0 st sc ns :: rgDv CD dev g' (d.crash fs k) :: rs) H' → k ≤ d.steps.length → bnd g' (d.crash fs k) ≤ bnd g d → Q (.int (k : Int)) H'
theorem ok_law_crash (T : Txt K mg) : FnOk P w K mg base CX0 4 T.f_law_crash T.fd_law_crash ["state", "script", "device"] (spCr K T.C_Device) := by
  refine T.F_law_crash.ok sc_law_crash (fun vs H Q E h => ?_) (fun cdv A outer s H vs Q E hr h => ?_)
  · obtain ⟨_, _, _, _, _, _, _, _, rfl, _⟩ := h
    rfl
  obtain ⟨st, sc, H0, ns, dev, g, d, rs, rfl, W, hw, hs, hbd, hlg, q⟩ := h
  refine ⟨_, (pss_cons (ps_asg (pe_meth0 (pv 2) T.cl_Device T.m_Device_pending (ok_Device_pending T) (hr.mono (by decide)) T.b_Device_pending .nil pass0) (pg_tup (by rfl) (pgs_cons (pg_name (i := 3) sc_law_crash.nd rfl (by first | exact Or.inl rfl | exact Or.inr rfl)) (pgs_cons (pg_name (i := 4) sc_law_crash.nd rfl (by first | exact Or.inl rfl | exact Or.inr rfl)) pgs_nil))))
      (pss_cons (ps_setLc (i := 5) (own := [("k", 7)]) (g := gName 7) (by rfl) sc_law_crash.nd rfl rfl (sw_true rfl rfl rfl (by decide +kernel)) (pi_range1 (by rfl) T.z_range (pa_cons (pv 3) pa_nil)) (blkOk_by (own := [("k", 7)]) (N := ["state", "script", "device", "writes", "steps", "fates", "kept", "k"]) (sc := defScope s_law_crash) (by decide +kernel)) (fun _ _ _ _ _ => pg_name (i := 7) sc_law_crash.nd rfl (by first | exact Or.inl rfl | exact Or.inr rfl)) (fun _ _ _ _ _ => pts_nil) (fun _ _ _ _ _ => pe_call (ok_law_draw T) (hr.mono (by decide)) (by rfl) T.g_law_draw T.F_law_draw.kp T.b_law_draw .nil pass0 (pa_cons (pv 0) (pa_cons (pv 1) (pa_cons pe_int pa_nil)))))
      (pss_cons (ps_set (i := 6) sc_law_crash.nd rfl (by first | exact Or.inl rfl | exact Or.inr rfl) (pe_ix ix_list (pe_lst (pa_cons pe_int (pa_cons (pv 4) (pa_cons (pe_call (ok_law_draw T) (hr.mono (by decide)) (by rfl) T.g_law_draw T.F_law_draw.kp T.b_law_draw .nil pass0 (pa_cons (pv 0) (pa_cons (pv 1) (pa_cons (pe_op op_add (pv 4) pe_int) pa_nil)))) pa_nil)))) (pe_call (ok_law_draw T) (hr.mono (by decide)) (by rfl) T.g_law_draw T.F_law_draw.kp T.b_law_draw .nil pass0 (pa_cons (pv 0) (pa_cons (pv 1) (pa_cons pe_int pa_nil)))) (fun _ _ => rfl)))
      (pss_cons (ps_expr (pe_meth (pv 2) T.cl_Device T.m_Device_crash (ok_Device_crash T) (hr.mono (by decide)) T.b_Device_crash .nil pass0 (pa_cons (pv 5) (pa_cons (pv 6) pa_nil))))
      (pss_one (ps_ret (pv 6))))))), ?_⟩
  (try dsimp only [cxOf])
  rw [show start ["state", "script", "device", "writes", "steps", "fates", "kept", "k"] [.ref st, .ref sc, .ref dev] = [some (.ref st), some (.ref sc), some (.ref dev), none, none, none, none, none] from rfl]
  have D : DevAt T.C_Device H dev g d := W.tl.hd
  refine ⟨_, rfl, dev, g.dx, devF g d, rfl, D.at_, lk_no (by decide +kernel), dev, g, d, rfl, D, fun p1 n1 => ?_⟩
  have W1 := W.new (o := .tup [.int d.writes.length, .int d.steps.length]) n1
  refine ⟨p1, _, rfl, SqT.of W1.obj, rfl, ?_⟩
  refine ⟨_, _, rfl, _, _, rfl, rfl, ?_⟩
  walk_at "nrm"
  refine q_setg ?_
  refine ⟨_, rfl, ((d.writes.length : Nat) : Int), rfl, by omega, by omega, fun fa hfa => ?_⟩
  rw [Int.toNat_natCast]
  refine lc_range (lo := 0) (n := d.writes.length) (fun i H' => ∃ fs : List Int, Ap (rgO fa (.lst (fs.map V.int)) :: rgDr K H0 st sc ns :: rgDv T.C_Device dev g d :: rs) H' ∧ fs.length = i) ⟨[], W1.tl.new hfa, rfl⟩ ?_ ?_
  · rintro i H' hi ⟨fs, W', hl⟩
    refine ⟨rfl, g_yes ?_⟩
    refine ⟨_, rfl, _, rfl, st, sc, 3, H0, ns, rfl, by decide, by decide, W'.tl.hd, fun r H2 r0 r3 hB D2 => ?_⟩
    have W2 := W'.on2 (r' := rgDr K H0 st sc ns) (Frm.draw hB) D2
    refine ⟨_, W2.obj, ?_, fs ++ [r], ?_, by rw [List.length_append, hl]; rfl⟩
    · rw [List.length_map, hl]
      exact Nat.lt_of_le_of_lt (show _ ≤ 1000000 by omega) (by decide)
    · rw [show fs.map V.int ++ [V.int r] = (fs ++ [r]).map V.int by rw [List.map_append]; rfl]
      exact W2.set
  rintro H2 ⟨fs, W2, hfl⟩
  walk_at "nrm"
  refine q_setg ?_
  refine ⟨_, rfl, _, rfl, _, rfl, _, rfl, ((d.steps.length : Nat) : Int), 1, rfl, rfl, st, sc, ((d.steps.length : Nat) : Int) + 1, H0, ns, rfl, by omega, by omega, W2.tl.hd, fun r H3 r0 r3 hB3 D3 => ?_⟩
  have W3 := W2.on2 (r' := rgDr K H0 st sc ns) (Frm.draw hB3) D3
  refine ⟨by show 3 ≤ sizeLine; decide, fun l hl => ?_⟩
  have W4 := W3.new (o := .lst [.int 0, .int ((d.steps.length : Nat) : Int), .int r]) hl
  refine ⟨_, rfl, _, rfl, st, sc, 3, H0, ns, rfl, by decide, by decide, W4.tl.tl.hd, fun j H5 j0 j3 hB5 D5 => ?_⟩
  have W5 := W4.on3 (r' := rgDr K H0 st sc ns) (Frm.draw hB5) D5
  obtain ⟨k, hk, hat⟩ : ∃ k : Nat, k ≤ d.steps.length ∧ atI [V.int 0, V.int ((d.steps.length : Nat) : Int), V.int r] j = some (.int (k : Int)) := by
    have c : j = 0 ∨ j = 1 ∨ j = 2 := by omega
    rcases c with rfl | rfl | rfl
    · exact ⟨0, Nat.zero_le _, rfl⟩
    · exact ⟨d.steps.length, Nat.le_refl _, rfl⟩
    · obtain ⟨n, rfl⟩ := Int.eq_ofNat_of_zero_le r0
      exact ⟨n, by omega, rfl⟩
  refine ⟨l, _, j, _, rfl, rfl, SqL.of W5.obj, hat, ?_⟩
  have W6 := W5.tl
  walk_at "nrm"
  have D6 : DevAt T.C_Device H5 dev g d := W6.tl.tl.hd
  have nfa : ¬ own dev g fa := fun h => (List.pairwise_cons.mp W6.apart).1 (rgDv T.C_Device dev g d) (by simp) fa rfl h
  refine ⟨_, rfl, dev, g.dx, devF g d, rfl, D6.at_, lk_no (by decide +kernel), _, rfl, _, rfl, dev, g, d, fa, fs, k, rfl, D6, W6.obj, nfa, by omega, by omega, fun g' H7 D7 f7 b7 => ?_⟩
  have W7 := W6.on3 (r' := rgDv T.C_Device dev g' (d.crash fs k)) f7.frm D7
  walk_at "nrm"
  exact s_ret (val_var rfl) (q fs k g' H7 W7.tl hk b7)
end
end K06


namespace K06
open PySem L2 Nv RZ
local macro_rules | `(tactic| walk_at "hp") => `(tactic| first
  | assumption
  | exact upd_same
  | exact (upd_ne (by assumption)).trans (by first | assumption | exact upd_same | exact (upd_ne (by assumption)).trans (by first | assumption | exact upd_same))
  | exact (upd_ne (Ne.symm (by assumption))).trans (by first | assumption | exact upd_same))
local macro_rules | `(tactic| walk_at "cond") => `(tactic| first
  | (change (0 : Int) < _; first | decide | omega)
  | exact Or.inr ⟨by decide, by decide⟩
  | exact Or.inl ⟨by decide, by decide⟩
  | exact Or.inr ⟨by omega, by omega⟩
  | exact Or.inl ⟨by omega, by omega⟩
  | exact ⟨by decide, by decide, by decide⟩
  | exact wide_div (by first | decide | omega) (show _ < 2 ^ 64 by first | decide | omega) (by decide) (by decide)
  | (change (0 : Int) ≤ _; first | decide | omega)
  | exact ⟨by decide, by decide⟩
  | exact ⟨by omega, by omega⟩)
local macro_rules | `(tactic| walk_at "val") => `(tactic| first
  | (with_reducible exact val_c)
  | ((with_reducible apply val_var); exact rfl)
  | ((with_reducible apply val_I0); walk_at "val"; walk_at "val")
  | ((with_reducible apply val_I); walk_at "val"; walk_at "val"; walk_at "cond")
  | ((with_reducible apply val_ixL); walk_at "val"; walk_at "val"; (first | exact SqL.of (by walk_at "hp") | assumption); exact rfl)
  | ((with_reducible apply val_len); walk_at "val"; first | exact Or.inl (SqL.of (by walk_at "hp")) | exact Or.inl (by assumption) | exact Or.inr (by assumption) | exact Or.inr (SqT.of (by walk_at "hp")))
  | ((with_reducible apply val_int1); walk_at "val")
  | ((with_reducible apply val_abs); walk_at "val")
  | ((with_reducible apply val_max2); walk_at "val"; walk_at "val")
  | ((with_reducible apply val_eq); walk_at "val"; walk_at "val"; exact rfl)
  | ((with_reducible apply val_ne); walk_at "val"; walk_at "val"; exact rfl)
  | ((with_reducible apply val_not); walk_at "val")
  | ((with_reducible apply val_U); walk_at "val"))
local macro_rules | `(tactic| walk_at "ans") => `(tactic| first
  | ((with_reducible apply ans_Eq); walk_at "val"; walk_at "val"; exact rfl)
  | ((with_reducible apply ans_Ne); walk_at "val"; walk_at "val"; exact rfl)
  | ((with_reducible apply ans_I0); walk_at "val"; walk_at "val"; exact rfl)
  | ((with_reducible refine ans_And ?_ (fun _ => ?_)); walk_at "ans"; walk_at "ans")
  | ((with_reducible refine ans_or2 ?_ (fun _ => ?_)); walk_at "ans"; walk_at "ans")
  | ((with_reducible refine ans_not ?_); walk_at "ans")
  | ((with_reducible apply ans_val); walk_at "val"))
local macro_rules | `(tactic| walk_at "nrm") => `(tactic| (try dsimp only [List.set_cons_zero, List.set_cons_succ]))
local macro_rules | `(tactic| walk_at "set") => `(tactic| first
  | ((with_reducible apply q_set); walk_at "val"; walk_at "nrm")
  | ((with_reducible apply s_set); walk_at "val"; walk_at "nrm"))
local macro_rules | `(tactic| walk_at "setL") => `(tactic| first
  | ((with_reducible apply q_setL); walk_at "val"; walk_at "val"; walk_at "val"; walk_at "hp"; exact rfl; walk_at "nrm")
  | ((with_reducible apply s_setL); walk_at "val"; walk_at "val"; walk_at "val"; walk_at "hp"; exact rfl; walk_at "nrm"))
local macro_rules | `(tactic| walk_at "ff") => `(tactic| (walk_at "nrm"; rw [if_neg (by decide)]; (try ((with_reducible refine st_next ?_); walk_at "nrm"))))
local macro_rules | `(tactic| walk_at "nok") => `(tactic| (refine ⟨_, rfl, rfl, _, rfl, ?_⟩; walk_at "nrm"; rw [if_neg (by decide)]))
local macro_rules | `(tactic| walk_at "yesk") => `(tactic| (refine ⟨_, rfl, rfl, _, rfl, ?_⟩; walk_at "nrm"; rw [if_pos (by decide)]))
local macro_rules | `(tactic| walk_at "no") => `(tactic| (walk_at "nrm"; rw [if_neg (by decide)]; walk_at "nrm"))
local macro_rules | `(tactic| walk_at "yes") => `(tactic| (walk_at "nrm"; rw [if_pos (by decide)]; walk_at "nrm"))
local macro_rules | `(tactic| walk_at "nos") => `(tactic| (walk_at "nrm"; repeat (rw [if_neg (by decide)]; walk_at "nrm"); (try ((with_reducible refine st_next ?_); walk_at "nrm"))))

section
variable {P : Program} {w : World} {K : PySem.W.Frag} {mg : Str → Option Value} {base : Heap}
theorem okh_Device_durable_page (T : Txt K mg) : L2H.FnH P w K mg base CX0 1 T.f_Device_durable_page T.fd_Device_durable_page ["self", "number"] (spDur T.C_Device) := by
  refine T.F_Device_durable_page.okH sc_Device_durable_page (fun vs H Q E h => ?_) (fun cdv A outer s H vs Q E q0 hq0 hr h => ?_)
  · obtain ⟨_, _, _, _, rfl, _⟩ := h
    rfl
  have hot := hot_cx (CX := CX0) (P := P) (w := w) (K := K) (mg := mg) (base := base) (N := ["self", "number"]) (qual := "Device._durable_page") (scope := defScope s_Device_durable_page) (f := T.f_Device_durable_page) (cd := cdv) (outer := outer) (s := s) (H := H) (E := E) hq0
  obtain ⟨dev, g, d, n, rfl, D, q⟩ := h
  refine ⟨_, (pss_cons (ps_if (pt_cmp (pc_din (hu_ofH hr) (pv 1) (pe_fld (pv 0) rfl)))
        (pss_one (ps_ret (pe_callTy call_list_of (by rfl) T.z_list (by decide +kernel) (pa_cons (pe_dget (hu_ofH hr) (pe_fld (pv 0) rfl) (pv 1) (fun _ _ => rfl)) pa_nil))))
        pss_nil)
      (pss_one (ps_ret (pe_op op_rep (pe_lst (pa_cons pe_int pa_nil)) (pe_glob (v := .int 256) (by rfl) T.g_PAGE_SIZE ⟨_, rfl⟩))))), ?_⟩
  (try dsimp only [cxOf])
  rw [show start ["self", "number"] [.ref dev, .int n] = [some (.ref dev), some (.int n)] from rfl]
  refine ⟨_, rfl, _, rfl, dev, T.C_Device, g.dx, devF g d, _, rfl, D.at_, T.cl_Device, T.n_Device__durable_pages, lk_dp, g.dp, valV g.kvs (.inl n), rfl, DGet.k (k := .inl n) D.dp, _, rfl, ?_⟩
  walk_at "nrm"
  rcases D.pg n with ⟨e1, e2⟩ | ⟨p, xs, e1, e2, e3, e4⟩
  · rw [e2, if_neg (show ¬ (none : Option V).isSome = true from Bool.false_ne_true)]
    refine ⟨by show 1 ≤ sizeLine; decide, fun l hl => ?_⟩
    refine ⟨l, 256, [.int 0], rfl, rfl, upd_same, by decide, by decide, by show 256 ≤ sizeLine; decide, fun p hp => ?_⟩
    refine q p _ ((same_upd hl).trans (same_upd hp)) ((same_upd hl).free hp) ?_
    rw [upd_same, zeros_rep]
    unfold getP
    rw [e1]
    rfl
  · rw [e2, if_pos (show (some (V.ref p)).isSome = true from rfl)]
    refine ⟨_, rfl, dev, T.C_Device, g.dx, devF g d, _, rfl, D.at_, T.cl_Device, T.n_Device__durable_pages, lk_dp, _, rfl, g.dp, .ref p, rfl, by rw [← e2]; exact DGet.k (k := .inl n) D.dp, p, _, rfl, .inl (SqL.of (D.sm _ _ e3)), fun l hl => ?_⟩
    refine q l _ (same_upd hl) hl ?_
    unfold getP
    rw [upd_same, e1]
    rfl
theorem okh_Device_steps (T : Txt K mg) : L2H.FnH P w K mg base CX0 1 T.f_Device_steps T.fd_Device_steps ["self"] (spSteps T.C_Device) := by
  refine T.F_Device_steps.okH sc_Device_steps (fun vs H Q E h => ?_) (fun cdv A outer s H vs Q E q0 hq0 hr h => ?_)
  · obtain ⟨_, _, _, rfl, _⟩ := h
    rfl
  have hot := hot_cx (CX := CX0) (P := P) (w := w) (K := K) (mg := mg) (base := base) (N := ["self"]) (qual := "Device.steps") (scope := defScope s_Device_steps) (f := T.f_Device_steps) (cd := cdv) (outer := outer) (s := s) (H := H) (E := E) hq0
  obtain ⟨dev, g, d, rfl, D, q⟩ := h
  refine ⟨_, (pss_one (ps_ret (pe_fld (pv 0) rfl))), ?_⟩
  (try dsimp only [cxOf])
  rw [show start ["self"] [.ref dev] = [some (.ref dev)] from rfl]
  exact ⟨_, rfl, dev, T.C_Device, g.dx, devF g d, _, rfl, D.at_, T.cl_Device, T.n_Device__steps_performed, lk_done, q⟩
theorem okh_Device_pending (T : Txt K mg) : L2H.FnH P w K mg base CX0 1 T.f_Device_pending T.fd_Device_pending ["self"] (spPending T.C_Device) := by
  refine T.F_Device_pending.okH sc_Device_pending (fun vs H Q E h => ?_) (fun cdv A outer s H vs Q E q0 hq0 hr h => ?_)
  · obtain ⟨_, _, _, rfl, _⟩ := h
    rfl
  have hot := hot_cx (CX := CX0) (P := P) (w := w) (K := K) (mg := mg) (base := base) (N := ["self"]) (qual := "Device.pending") (scope := defScope s_Device_pending) (f := T.f_Device_pending) (cd := cdv) (outer := outer) (s := s) (H := H) (E := E) hq0
  obtain ⟨dev, g, d, rfl, D, q⟩ := h
  refine ⟨_, (pss_one (ps_ret (pe_tup (pa_cons (pe_callB call_len_seq (by rfl) T.z_len (by decide +kernel) (pa_cons (pe_fld (pv 0) rfl) pa_nil)) (pa_cons (pe_callB call_len_seq (by rfl) T.z_len (by decide +kernel) (pa_cons (pe_fld (pv 0) rfl) pa_nil)) pa_nil))))), ?_⟩
  (try dsimp only [cxOf])
  rw [show start ["self"] [.ref dev] = [some (.ref dev)] from rfl]
  refine ⟨_, rfl, dev, T.C_Device, g.dx, devF g d, _, rfl, D.at_, T.cl_Device, T.n_Device__page_writes, lk_pw, g.pw, _, rfl, .inl (SqL.of D.pw), _, rfl, dev, T.C_Device, g.dx, devF g d, _, rfl, D.at_, T.cl_Device, T.n_Device__log_steps, lk_ls, g.ls, _, rfl, .inl (SqL.of D.ls), by show 2 ≤ sizeLine; decide, fun p hp => ?_⟩
  rw [D.wr.len, List.length_map]
  exact q p hp
theorem okh_Device_end_page_write (T : Txt K mg) : L2H.FnH P w K mg base CX0 2 T.f_Device_end_page_write T.fd_Device_end_page_write ["self", "number", "data", "fate"] (spEnd T.C_Device) := by
  refine T.F_Device_end_page_write.okH sc_Device_end_page_write (fun vs H Q E h => ?_) (fun cdv A outer s H vs Q E q0 hq0 hr h => ?_)
  · obtain ⟨_, _, _, _, _, _, _, rfl, _⟩ := h
    rfl
  have hot := hot_cx (CX := CX0) (P := P) (w := w) (K := K) (mg := mg) (base := base) (N := ["self", "number", "data", "fate", "second_half"]) (qual := "Device._end_page_write") (scope := defScope s_Device_end_page_write) (f := T.f_Device_end_page_write) (cd := cdv) (outer := outer) (s := s) (H := H) (E := E) hq0
  obtain ⟨dev, g, d, n, p, xs, a, rfl, D, ep, hx, hk, q⟩ := h
  refine ⟨_, (pss_one (ps_if (pt_cmpR op_eq (pv 3) (pe_glob (v := .int 1) (by rfl) T.g_TAKES_EFFECT ⟨_, rfl⟩) (nomark _))
        (pss_one (ps_dput (hu_ofH hr) (pe_fld (pv 0) rfl) (pv 1) (pv 2) rfl))
        (pss_one (ps_if (pt_cmpR op_eq (pv 3) (pe_glob (v := .int 2) (by rfl) T.g_FIRST_HALF_TAKES_EFFECT ⟨_, rfl⟩) (nomark _))
          (pss_cons (ps_set (i := 4) sc_Device_end_page_write.nd rfl (by first | exact Or.inl rfl | exact Or.inr rfl) (pe_slice sl_list (L2H.pe_methH (pv 0) T.cl_Device T.m_Device_durable_page (okh_Device_durable_page T) (hr.mono (by decide)) hot T.b_Device_durable_page passH (pa_cons (pv 1) pa_nil)) (po_some (pe_glob (v := .int 128) (by rfl) T.g_HALF_PAGE ⟨_, rfl⟩)) po_none))
          (pss_one (ps_dput (hu_ofH hr) (pe_fld (pv 0) rfl) (pv 1) (pe_op op_cat (pe_slice sl_list (pv 2) po_none (po_some (pe_glob (v := .int 128) (by rfl) T.g_HALF_PAGE ⟨_, rfl⟩))) (pv 4)) rfl)))
          pss_nil)))), ?_⟩
  (try dsimp only [cxOf])
  rw [show start ["self", "number", "data", "fate", "second_half"] [.ref dev, .int n, .ref p, .int a] = [some (.ref dev), some (.int n), some (.ref p), some (.int a), none] from rfl]
  refine ⟨_, rfl, rfl, _, rfl, ?_⟩
  walk_at "nrm"
  by_cases h1 : a = 1
  · rw [if_pos (show decide (V.int a = V.int 1) = true from decide_eq_true (congrArg V.int h1))]
    refine ⟨_, rfl, _, rfl, dev, T.C_Device, g.dx, devF g d, _, rfl, D.at_, T.cl_Device, T.n_Device__durable_pages, lk_dp, _, rfl, g.dp, _, rfl, DPut.k (k := .inl n) D.dp (Nat.lt_of_le_of_lt hk (by decide)), ?_⟩
    refine q { g with kvs := putK g.kvs (.inl n) (.ref p) } _ ?_ Fr.dp rfl rfl rfl (putK_le g.kvs (.inl n) (.ref p))
    rw [show endW d.pages (n, xs) a = putP d.pages n xs from if_pos h1]
    exact D.put ep hx
  · rw [if_neg (show ¬ decide (V.int a = V.int 1) = true from fun z => h1 (V.int.inj (of_decide_eq_true z)))]
    refine ⟨_, rfl, rfl, _, rfl, ?_⟩
    walk_at "nrm"
    by_cases h2 : a = 2
    · rw [if_pos (show decide (V.int a = V.int 2) = true from decide_eq_true (congrArg V.int h2))]
      refine q_setg ?_
      refine ⟨_, rfl, dev, g.dx, devF g d, rfl, D.at_, lk_no (by decide +kernel), _, rfl, dev, g, d, n, rfl, D, fun p1 H1 s1 np1 ep1 => ?_⟩
      refine ⟨128, rfl, p1, _, rfl, SqL.of ep1, fun p2 np2 => ?_⟩
      walk_at "nrm"
      have D1 := D.same s1
      have D2 := D1.same (same_upd (o := .lst (cutV ((getP d.pages n).map V.int) (some 128) none)) np2)
      refine ⟨_, rfl, ⟨128, rfl, p, _, rfl, SqL.of (D2.sm _ _ ep), fun p3 np3 => ?_⟩⟩
      have D3 := D2.same (same_upd (o := .lst (cutV (xs.map V.int) none (some 128))) np3)
      have hg := getP_len D.pg n
      refine ⟨_, rfl, p3, p2, _, _, rfl, rfl, upd_same, same_upd np3 _ _ upd_same, ?_, fun p4 np4 => ?_⟩
      · rw [show (128 : Int) = ((128 : Nat) : Int) from rfl, cut_take, cut_drop, List.length_map, List.length_map, List.length_take, List.length_drop]
        exact Nat.le_of_lt (Nat.lt_of_le_of_lt (show _ ≤ 2000 by omega) (by decide))
      have D4 := D3.ext (o := .lst (cutV (xs.map V.int) none (some 128) ++ cutV ((getP d.pages n).map V.int) (some 128) none)) np4
      refine ⟨_, rfl, dev, T.C_Device, g.dx, devF _ d, _, rfl, D4.at_, T.cl_Device, T.n_Device__durable_pages, lk_dp, _, rfl, g.dp, _, rfl, DPut.k (k := .inl n) D4.dp (Nat.lt_of_le_of_lt hk (by decide)), ?_⟩
      have D5 := D4.put (n := n) (p := p4) (xs := xs.take 128 ++ (getP d.pages n).drop 128) (by
        show upd g.F p4 _ p4 = _
        rw [upd_same, show (128 : Int) = ((128 : Nat) : Int) from rfl, cut_take, cut_drop, ← List.map_append]) (by
        rw [List.length_append, List.length_take, List.length_drop]
        omega)
      refine q _ _ ?_ (((((Fr.same s1).trans (Fr.same (same_upd np2))).trans (Fr.same (same_upd np3))).trans (Fr.ext np4)).trans (Fr.dp (kvs := putK g.kvs (.inl n) (.ref p4)))) rfl rfl rfl (putK_le g.kvs (.inl n) (.ref p4))
      rw [show endW d.pages (n, xs) a = putP d.pages n (xs.take 128 ++ (getP d.pages n).drop 128) from (if_neg h1).trans (if_pos h2)]
      exact D5
    · rw [if_neg (show ¬ decide (V.int a = V.int 2) = true from fun z => h2 (V.int.inj (of_decide_eq_true z)))]
      refine q g _ ?_ (Fr.refl _ _ _) rfl rfl rfl (Nat.le_succ _)
      rw [show endW d.pages (n, xs) a = d.pages from (if_neg h1).trans (if_neg h2)]
      exact D

theorem okh_log_after (T : Txt K mg) : L2H.FnH P w K mg base CX0 1 T.f_log_after T.fd_log_after ["log", "log_steps"] (spAfter K) := by
  refine T.F_log_after.okH sc_log_after (fun vs H Q E h => ?_) (fun cdv A outer s H vs Q E q0 hq0 hr h => ?_)
  · obtain ⟨_, _, _, _, rfl, _⟩ := h
    rfl
  have hot := hot_cx (CX := CX0) (P := P) (w := w) (K := K) (mg := mg) (base := base) (N := ["log", "log_steps", "after", "step"]) (qual := "log_after") (scope := defScope s_log_after) (f := T.f_log_after) (cd := cdv) (outer := outer) (s := s) (H := H) (E := E) hq0
  obtain ⟨a, b, l, ss, rfl, hA, hB, hl, q⟩ := h
  refine ⟨_, (pss_cons (ps_set (i := 2) sc_log_after.nd rfl (by first | exact Or.inl rfl | exact Or.inr rfl) (pe_callTy call_list_of (by rfl) T.z_list (by decide +kernel) (pa_cons (pv 0) pa_nil)))
      (pss_cons (L2H.ps_forH (passes_of rfl) hot (pi_listH (pv 1)) (pg_name (i := 3) sc_log_after.nd rfl (by first | exact Or.inl rfl | exact Or.inr rfl))
        (pss_one (ps_if (pt_cmpR op_isN (pv 3) pe_non (nomark _))
          (pss_one (ps_set (i := 2) sc_log_after.nd rfl (by first | exact Or.inl rfl | exact Or.inr rfl) (pe_lst pa_nil)))
          (pss_one (ps_expr (pe_bm PySem.F.plainAttrs_list PySem.F.slot_list_append PySem.F.type_list_append mt_append (pv 2) (pa_cons (pv 3) pa_nil)))))))
      (pss_one (ps_ret (pv 2))))), ?_⟩
  (try dsimp only [cxOf])
  rw [show start ["log", "log_steps", "after", "step"] [.ref a, .ref b] = [some (.ref a), some (.ref b), none, none] from rfl]
  refine q_setg ?_
  refine ⟨_, rfl, a, _, rfl, .inl hA, fun p hp => ?_⟩
  walk_at "nrm"
  have s1 : Same H (upd H p (.lst (l.map V.int))) := same_upd hp
  refine ⟨_, rfl, b, rfl, ⟨_, s1.seq hB⟩, for_list (K := K) (a := b) (xs := ss.map optV) (fun i σ' H' => ∃ (p : Addr) (c : Option V), σ' = [some (.ref a), some (.ref b), some (.ref p), c] ∧ Same H H' ∧ H p = none ∧ H' p = some (.lst ((afterL l (ss.take i)).map V.int)))
    ⟨p, none, rfl, s1, hp, upd_same⟩ (fun i σ' H' _ ⟨_, _, _, s2, _⟩ => s2.seq hB) ?_ ?_⟩
  · rintro i x σ' H' hx ⟨p, c, rfl, s2, np, e⟩
    rw [List.getElem?_map] at hx
    obtain ⟨s, hs, rfl⟩ : ∃ s, ss[i]? = some s ∧ x = optV s := by
      cases e : ss[i]? with
      | none => rw [e] at hx; cases hx
      | some s => rw [e] at hx; exact ⟨s, rfl, (Option.some.inj hx).symm⟩
    have hi := (List.getElem?_eq_some_iff.mp hs).1
    refine ⟨_, rfl, rfl, _, rfl, ?_⟩
    walk_at "nrm"
    rw [take_more hs, afterL_snoc]
    cases s with
    | none =>
      rw [if_pos (show decide (optV none = V.non) = true by decide)]
      refine s_setg ?_
      refine ⟨Nat.zero_le _, fun p2 hp2 => ?_⟩
      exact ⟨p2, _, rfl, s2.trans (same_upd hp2), s2.free hp2, upd_same⟩
    | some z =>
      rw [if_neg (show ¬ decide (optV (some z) = V.non) = true from Bool.false_ne_true)]
      have h1 := afterL_len l (ss.take i)
      rw [List.length_take] at h1
      refine ⟨_, rfl, .inl ⟨rfl, _, SqL.of e⟩, _, rfl, p, _, _, rfl, rfl, e, ?_, p, _, rfl, ?_, np, ?_⟩
      · rw [List.length_map]
        exact Nat.lt_of_le_of_lt (show _ ≤ 1000000 by omega) (by decide)
      · exact fun b o hb => by
          rw [upd_ne (ne_of_none hb np)]
          exact s2 b o hb
      · rw [upd_same]
        show some (HO.lst ((afterL l (ss.take i)).map V.int ++ [V.int z])) = some (HO.lst ((afterL l (ss.take i) ++ [z]).map V.int))
        rw [List.map_append]
        rfl
  · rintro σ' H' ⟨p, c, rfl, s2, np, e⟩
    rw [List.length_map, List.take_length] at e
    exact s_ret (val_var rfl) (q p H' s2 np e)
theorem okh_Device_end_log_steps (T : Txt K mg) : L2H.FnH P w K mg base CX0 2 T.f_Device_end_log_steps T.fd_Device_end_log_steps ["self", "log_steps"] (spEndL T.C_Device) := by
  refine T.F_Device_end_log_steps.okH sc_Device_end_log_steps (fun vs H Q E h => ?_) (fun cdv A outer s H vs Q E q0 hq0 hr h => ?_)
  · obtain ⟨_, _, _, _, _, rfl, _⟩ := h
    rfl
  have hot := hot_cx (CX := CX0) (P := P) (w := w) (K := K) (mg := mg) (base := base) (N := ["self", "log_steps"]) (qual := "Device._end_log_steps") (scope := defScope s_Device_end_log_steps) (f := T.f_Device_end_log_steps) (cd := cdv) (outer := outer) (s := s) (H := H) (E := E) hq0
  obtain ⟨dev, g, d, a, ss, rfl, D, hA, hb, q⟩ := h
  refine ⟨_, (pss_cons (ps_if (pt_cmpR op_in_seq pe_non (pv 1) (by rfl))
        (pss_one (ps_fld (pv 0) (L2H.pe_callH (okh_log_after T) (hr.mono (by decide)) hot (by rfl) T.g_log_after T.F_log_after.kp T.b_log_after passH (pa_cons (pe_fld (pv 0) rfl) (pa_cons (pv 1) pa_nil))) rfl))
        (pss_one (ps_expr (pe_bm PySem.F.plainAttrs_list PySem.F.slot_list_extend PySem.F.type_list_extend mt_extend (pe_fld (pv 0) rfl) (pa_cons (pv 1) pa_nil)))))
      (pss_one (ps_fld (pv 0) (pe_lst pa_nil) rfl))), ?_⟩
  (try dsimp only [cxOf])
  rw [show start ["self", "log_steps"] [.ref dev, .ref a] = [some (.ref dev), some (.ref a)] from rfl]
  have flat : (ss.map optV).all flatV = true := by
    rw [List.all_eq_true]
    intro y hy
    obtain ⟨s, _, rfl⟩ := List.mem_map.mp hy
    cases s <;> rfl
  refine ⟨_, rfl, a, _, rfl, .inl (SqL.of hA), rfl, flat, _, rfl, ?_⟩
  walk_at "nrm"
  by_cases hn : inV .non (ss.map optV) = true
  · rw [if_pos (show (if false = true then !inV .non (ss.map optV) else inV .non (ss.map optV)) = true from hn)]
    refine ⟨_, rfl, dev, T.C_Device, g.dx, devF g d, _, rfl, D.at_, T.cl_Device, T.n_Device__durable_log, lk_dl, _, rfl, ?_⟩
    refine ⟨g.dl, a, d.log, ss, rfl, SqL.of D.dl, SqL.of hA, hb, fun p H2 s2 np ep => ?_⟩
    have D2 := D.newL s2 np ep
    refine ⟨_, rfl, dev, T.C_Device, g.dx, devF _ _, rfl, s2 _ _ D.at_, T.cl_Device, T.n_Device__durable_log, (by show 6 < 1000; decide), ?_⟩
    rw [put_dl]
    refine ⟨Nat.zero_le _, fun l hl => ?_⟩
    have s4 := same_upd (o := .lst []) hl
    refine ⟨_, rfl, dev, T.C_Device, g.dx, devF _ _, rfl, s4 _ _ D2.at_, T.cl_Device, T.n_Device__log_steps, (by show 6 < 1000; decide), ?_⟩
    rw [put_ls]
    exact q _ _ (D2.noL hl) ((Fr.newL s2 np).trans (Fr.noL hl)) rfl
  · rw [if_neg (show ¬ (if false = true then !inV .non (ss.map optV) else inV .non (ss.map optV)) = true from hn)]
    have hx := afterL_bytes d.log ss (by simpa [inV] using hn)
    refine ⟨_, rfl, dev, T.C_Device, g.dx, devF g d, _, rfl, D.at_, T.cl_Device, T.n_Device__durable_log, lk_dl, .inl ⟨rfl, _, SqL.of D.dl⟩, _, rfl, g.dl, a, _, _, rfl, rfl, D.dl, hA, ?_, ?_⟩
    · rw [List.length_map, List.length_map]
      exact Nat.le_trans hb (by decide)
    rw [← hx]
    have D2 := D.extL (xs := afterL d.log ss)
    refine ⟨Nat.zero_le _, fun l hl => ?_⟩
    have s4 := same_upd (o := .lst []) hl
    refine ⟨_, rfl, dev, T.C_Device, g.dx, devF _ _, rfl, s4 _ _ D2.at_, T.cl_Device, T.n_Device__log_steps, (by show 6 < 1000; decide), ?_⟩
    rw [put_ls]
    exact q _ _ (D2.noL hl) (Fr.dl.trans (Fr.noL hl)) rfl
theorem okh_law_draw (T : Txt K mg) : L2H.FnH P w K mg base CX0 1 T.f_law_draw T.fd_law_draw ["state", "script", "size"] (spDraw K) := by
  refine T.F_law_draw.okH sc_law_draw (fun vs H Q E h => ?_) (fun cdv A outer s H vs Q E q0 hq0 hr h => ?_)
  · obtain ⟨_, _, _, _, _, rfl, _⟩ := h
    rfl
  have hot := hot_cx (CX := CX0) (P := P) (w := w) (K := K) (mg := mg) (base := base) (N := ["state", "script", "size", "cell", "mixed", "digit"]) (qual := "_law_draw") (scope := defScope s_law_draw) (f := T.f_law_draw) (cd := cdv) (outer := outer) (s := s) (H := H) (E := E) hq0
  obtain ⟨st, sc, n, H0, ns, rfl, hn, hn2, D, q⟩ := h
  refine ⟨_, (Evl.pss_cut (ps_if (pt_cmpR op_eq (pe_ix ix_list (pv 0) pe_int (fun _ _ => rfl)) pe_int (nomark _))
        (pss_cons (ps_set (i := 3) sc_law_draw.nd rfl (by first | exact Or.inl rfl | exact Or.inr rfl) pe_int)
        (Evl.pss_cut (ps_if (pt_cmpR op_gt (pe_callB call_len_seq (by rfl) T.z_len (by decide +kernel) (pa_cons (pv 1) pa_nil)) pe_int (nomark _))
          (pss_one (ps_set (i := 3) sc_law_draw.nd rfl (by first | exact Or.inl rfl | exact Or.inr rfl) (pe_ix ix_list (pv 1) (pe_op op_mod (pe_ix ix_list (pv 0) pe_int (fun _ _ => rfl)) (pe_callB call_len_seq (by rfl) T.z_len (by decide +kernel) (pa_cons (pv 1) pa_nil))) (fun _ _ => rfl))))
          pss_nil)
        (Evl.pss_cut (ps_if (pt_cmpR op_lt (pv 3) pe_int (nomark _))
          (pss_one (ps_set (i := 3) sc_law_draw.nd rfl (by first | exact Or.inl rfl | exact Or.inr rfl) (pe_op op_sub pe_int (pe_op op_mul pe_int (pv 3)))))
          pss_nil)
        (pss_cons (ps_set (i := 4) sc_law_draw.nd rfl (by first | exact Or.inl rfl | exact Or.inr rfl) (pe_op op_mod (pe_callTy call_int1 (by rfl) T.z_int (by decide +kernel) (pa_cons (pe_op op_mul (pe_op op_add (pe_op op_add (pv 3) (pe_op op_mul (pe_ix ix_list (pv 0) pe_int (fun _ _ => rfl)) pe_int)) pe_int) pe_int) pa_nil)) pe_int))
        (pss_cons (ps_asg (pe_op op_mod (pe_callTy call_int1 (by rfl) T.z_int (by decide +kernel) (pa_cons (pe_op op_add (pe_op op_mul (pv 4) pe_int) (pe_op op_mul (pe_ix ix_list (pv 0) pe_int (fun _ _ => rfl)) pe_int)) pa_nil)) pe_int) (pg_sub (pv 0) pe_int set_list))
        (Evl.pss_cut (ps_if (PW.pt (pw_and (pt_cmpR op_ge (pv 3) (pe_op op_pow pe_int pe_int) (nomark _)) (pw_and1 (pt_cmpR op_lt (pe_ix ix_list (pv 0) pe_int (fun _ _ => rfl)) (pe_callB call_len_seq (by rfl) T.z_len (by decide +kernel) (pa_cons (pv 1) pa_nil)) (nomark _)))))
          (pss_one (ps_asg (pv 3) (pg_sub (pv 0) pe_int set_list)))
          pss_nil)
        (pss_one (ps_asg (pe_op op_add (pe_ix ix_list (pv 0) pe_int (fun _ _ => rfl)) pe_int) (pg_sub (pv 0) pe_int set_list)))))))))
        pss_nil)
      (pss_cons (ps_set (i := 5) sc_law_draw.nd rfl (by first | exact Or.inl rfl | exact Or.inr rfl) (pe_op op_mod (pe_callTy call_int1 (by rfl) T.z_int (by decide +kernel) (pa_cons (pe_ix ix_list (pv 0) pe_int (fun _ _ => rfl)) pa_nil)) (pv 2)))
      (pss_cons (ps_asg (pe_op op_fdivW (pe_ix ix_list (pv 0) pe_int (fun _ _ => rfl)) (pv 2)) (pg_sub (pv 0) pe_int set_list))
      (pss_one (ps_ret (pv 5)))))), ?_⟩
  (try dsimp only [cxOf])
  rw [show start ["state", "script", "size", "cell", "mixed", "digit"] [.ref st, .ref sc, .int n] = [some (.ref st), some (.ref sc), some (.int n), none, none, none] from rfl]
  obtain ⟨i, d, hi, hd, e⟩ := D.ex
  have hS := D.seq
  refine q_cut (fun σ' H' => ∃ (i d : Int) (c3 c4 : Option V), σ' = [some (.ref st), some (.ref sc), some (.int n), c3, c4, none] ∧ 0 ≤ i ∧ 0 ≤ d ∧ But st H H' ∧ Dr K H0 H' st sc ns ∧ H' st = some (.lst [.int i, .int d])) ?_ ?_
  · refine s_when (b := decide (V.int d = V.int 0)) (by walk_at "ans") (fun hb => ?_) (fun hb => ⟨i, d, none, none, rfl, hi, hd, But.refl _ _, D, e⟩)
    refine q_set (v := .int 0) (by walk_at "val") ?_
    walk_at "nrm"
    refine q_cut (fun σ' H' => H' = H ∧ ∃ c : Int, σ' = [some (.ref st), some (.ref sc), some (.int n), some (.int c), none, none]) ?_ ?_
    · refine s_when (b := decide ((0 : Int) < ((ns.map V.int).length : Nat))) (by walk_at "ans") (fun hb => ?_) (fun hb => ⟨rfl, 0, rfl⟩)
      have h0 : 0 < ns.length := by
        have h1 := of_decide_eq_true hb
        rw [List.length_map] at h1
        omega
      obtain ⟨c, hc⟩ := at_mod i h0
      refine s_set (v := .int c) ?_ ⟨rfl, _, rfl⟩
      refine val_ixL (xs := ns.map V.int) (i := i % (((ns.map V.int).length : Nat) : Int)) (val_var rfl) ?_ hS hc
      refine val_I (val_ixL (val_var rfl) val_c (SqL.of e) rfl) (val_len (val_var rfl) (.inl hS)) ?_
      show (0 : Int) < _
      rw [List.length_map]
      omega
    rintro σ' H' ⟨rfl, c, rfl⟩
    refine q_cut (fun σ' H'' => H'' = H' ∧ ∃ c : Int, 0 ≤ c ∧ σ' = [some (.ref st), some (.ref sc), some (.int n), some (.int c), none, none]) ?_ ?_
    · refine s_when (b := decide (c < 0)) (by walk_at "ans") (fun hb => ?_) (fun hb => ⟨rfl, c, by have := of_decide_eq_false hb; omega, rfl⟩)
      have hc := of_decide_eq_true hb
      refine s_set (v := .int (1 - 2 * c)) (by walk_at "val") ⟨rfl, _, by omega, rfl⟩
    rintro σ' H'' ⟨rfl, c, hc, rfl⟩
    walk_at "set"
    walk_at "setL"
    generalize hm : (_ : Int) % 4294967291 = m5
    have hm5 : 0 ≤ m5 := by rw [← hm]; exact Int.emod_nonneg _ (by decide)
    refine q_cut (fun σ' H' => ∃ d' : Int, 0 ≤ d' ∧ But st H'' H' ∧ H' st = some (.lst [.int i, .int d']) ∧ ∃ c4, σ' = [some (.ref st), some (.ref sc), some (.int n), some (.int c), c4, none]) ?_ ?_
    · have e2 : (upd H'' st (.lst [V.int i, V.int m5])) st = some (.lst [.int i, .int m5]) := upd_same
      have hS2 : SqL K (upd H'' st (.lst [V.int i, V.int m5])) sc (ns.map V.int) := (D.put hi hm5).seq
      refine s_when (b := decide ((10 : Int) ^ (18 : Int).toNat ≤ c) && decide (i < ((ns.map V.int).length : Nat))) (by walk_at "ans") (fun hb => ?_) (fun hb => ⟨m5, hm5, But.upd, upd_same, _, rfl⟩)
      walk_at "setL"
      exact ⟨c, hc, But.upd.trans But.upd, upd_same, _, rfl⟩
    rintro σ' H' ⟨d', hd', hB, e', c4, rfl⟩
    walk_at "setL"
    exact ⟨i + 1, d', _, _, rfl, by omega, hd', hB.trans But.upd, ⟨D.sq, fun b o h => by rw [upd_ne (ne_of_none h D.new), hB b (ne_of_none h D.new)]; exact D.same b o h, D.new, i + 1, d', by omega, hd', upd_same⟩, upd_same⟩
  · rintro σ' H' ⟨i, d, c3, c4, rfl, hi, hd, hB, D, e⟩
    refine q_set (by walk_at "val") ?_
    walk_at "nrm"
    refine q_setL (by walk_at "val") (by walk_at "val") (by walk_at "val") e (k := 1) rfl ?_
    refine s_ret (val_var rfl) ?_
    refine q _ _ (Int.emod_nonneg _ (by omega)) (Int.emod_lt_of_pos _ hn) (hB.trans But.upd) ?_
    exact D.put hi (Int.ediv_nonneg hd (by omega))

theorem okh_Device_crash (T : Txt K mg) : L2H.FnH P w K mg base CX0 3 T.f_Device_crash T.fd_Device_crash ["self", "fates", "kept"] (spCrash T.C_Device) := by
  refine T.F_Device_crash.okH sc_Device_crash (fun vs H Q E h => ?_) (fun cdv A outer s H vs Q E q0 hq0 hr h => ?_)
  · obtain ⟨_, _, _, _, _, _, rfl, _⟩ := h
    rfl
  have hot := hot_cx (CX := CX0) (P := P) (w := w) (K := K) (mg := mg) (base := base) (N := ["self", "fates", "kept", "number", "data", "fate"]) (qual := "Device.crash") (scope := defScope s_Device_crash) (f := T.f_Device_crash) (cd := cdv) (outer := outer) (s := s) (H := H) (E := E) hq0
  obtain ⟨dev, g, d, a, fs, k, rfl, D, hA, na, hb, hlog, q⟩ := h
  refine ⟨_, (pss_cons (L2H.ps_forH (passes_of rfl) hot (pi_zipH (by rfl) T.z_zip (pa_cons (pe_fld (pv 0) rfl) (pa_cons (pv 1) pa_nil))) (pg_tupH hot (pgs_cons (pg_tupH hot (pgs_cons (pg_name (i := 3) sc_Device_crash.nd rfl (by first | exact Or.inl rfl | exact Or.inr rfl)) (pgs_cons (pg_name (i := 4) sc_Device_crash.nd rfl (by first | exact Or.inl rfl | exact Or.inr rfl)) pgs_nil))) (pgs_cons (pg_name (i := 5) sc_Device_crash.nd rfl (by first | exact Or.inl rfl | exact Or.inr rfl)) pgs_nil)))
        (pss_one (ps_expr (L2H.pe_methH (pv 0) T.cl_Device T.m_Device_end_page_write (okh_Device_end_page_write T) (hr.mono (by decide)) hot T.b_Device_end_page_write passH (pa_cons (pv 3) (pa_cons (pv 4) (pa_cons (pv 5) pa_nil)))))))
      (pss_cons (ps_fld (pv 0) (pe_lst pa_nil) rfl)
      (pss_cons (ps_expr (L2H.pe_methH (pv 0) T.cl_Device T.m_Device_end_log_steps (okh_Device_end_log_steps T) (hr.mono (by decide)) hot T.b_Device_end_log_steps passH (pa_cons (pe_slice sl_list (pe_fld (pv 0) rfl) po_none (po_some (pe_callB (call_max2H hot) (by rfl) T.z_max (by decide +kernel) (pa_cons (pv 2) (pa_cons pe_int pa_nil))))) pa_nil)))
      (pss_one (ps_fld (pv 0) pe_non rfl))))), ?_⟩
  (try dsimp only [cxOf])
  rw [show start ["self", "fates", "kept", "number", "data", "fate"] [.ref dev, .ref a, .int (k : Int)] = [some (.ref dev), some (.ref a), some (.int (k : Int)), none, none, none] from rfl]
  have hl := D.wr.len
  refine ⟨_, rfl, dev, T.C_Device, g.dx, devF g d, _, rfl, D.at_, T.cl_Device, T.n_Device__page_writes, lk_pw, _, rfl, g.pw, a, _, _, rfl, .inl ⟨SqL.of D.pw, SqL.of hA, for_zipM (K := K) (a := g.pw) (b := a) (xs := g.vs) (ys := fs.map V.int)
    (fun i σ' H' => ∃ (g1 : DG) (c3 c4 c5 : Option V), σ' = [some (.ref dev), some (.ref a), some (.int (k : Int)), c3, c4, c5] ∧ DevAt T.C_Device H' dev g1 { d with pages := crashP d.pages (d.writes.take i) (fs.take i) } ∧ Fr dev g H g1 H' ∧ g1.pw = g.pw ∧ g1.vs = g.vs ∧ g1.ls = g.ls ∧ (i ≤ g.vs.length → g1.kvs.length ≤ g.kvs.length + i))
    ⟨g, none, none, none, rfl, D, Fr.refl _ _ _, rfl, rfl, rfl, fun _ => Nat.le_refl _⟩ (fun i σ' H' ⟨g1, _, _, _, _, D1, f1, e1, e2, _⟩ => ⟨by rw [← e1, ← e2]; exact SqL.of D1.pw, SqL.of (f1.keep _ _ na hA)⟩) ?_ ?_⟩⟩
  · rintro i x y t σ' H' hx hy ⟨g1, c3, c4, c5, rfl, D1, f1, e1, e2, e3, hk⟩ ht
    rw [List.getElem?_map] at hy
    obtain ⟨fa, hf, rfl⟩ : ∃ s, fs[i]? = some s ∧ y = V.int s := by
      cases e : fs[i]? with
      | none => rw [e] at hy; cases hy
      | some s => rw [e] at hy; exact ⟨s, rfl, (Option.some.inj hy).symm⟩
    have hi := (List.getElem?_eq_some_iff.mp hx).1
    have hw : d.writes[i]? = some (d.writes[i]'(by omega)) := List.getElem?_eq_getElem (by omega)
    generalize d.writes[i]'(by omega) = ww at hw
    obtain ⟨tt, p, rfl, et, ep, hp⟩ := D1.wr.each i x ww (by rw [e2]; exact hx) hw
    have st := same_upd (o := .tup [.ref tt, .int fa]) ht
    have D2 := D1.same st
    refine ⟨t, _, rfl, SqT.of upd_same, rfl, _, _, rfl, ⟨tt, _, rfl, SqT.of (D2.sm _ _ et), rfl, _, _, rfl, _, _, rfl, rfl, _, _, rfl, rfl, ?_⟩⟩
    have hk1 := hk (by omega)
    refine ⟨_, rfl, dev, g1.dx, devF g1 _, rfl, D2.at_, lk_no (by decide +kernel), _, rfl, _, rfl, _, rfl, dev, g1, _, ww.1, p, ww.2, fa, rfl, D2, ep, hp, ?_, fun g2 H2 D3 f2 k1 k2 k3 k4 => ?_⟩
    · unfold bnd at hb
      omega
    · refine ⟨g2, _, _, _, rfl, ?_, (f1.trans (Fr.same st)).trans f2, k1.trans e1, k2.trans e2, k3.trans e3, fun h => by omega⟩
      rw [crash_more hw hf]
      exact D3
  · rintro σ' H1 ⟨g1, c3, c4, c5, rfl, D1, f1, e1, e2, e3, hk⟩
    rw [List.length_map, hl, crash_min] at D1
    have hk1 := hk (Nat.min_le_left _ _)
    refine ⟨Nat.zero_le _, fun p hp => ?_⟩
    have s3 := same_upd (o := .lst []) hp
    refine ⟨_, rfl, dev, T.C_Device, g1.dx, devF _ _, rfl, s3 _ _ D1.at_, T.cl_Device, T.n_Device__page_writes, (by show 6 < 1000; decide), ?_⟩
    rw [put_pw]
    have D2 := D1.noW hp
    have f2 := f1.trans (Fr.noW (dev := dev) (o := .ins T.C_Device g1.dx (devF { g1 with pw := p } { d with pages := crashP d.pages d.writes fs })) hp (o' := .lst []))
    refine ⟨_, rfl, dev, _, devF _ _, rfl, D2.at_, lk_no (by decide +kernel), _, rfl, dev, T.C_Device, _, devF _ _, _, rfl, D2.at_, T.cl_Device, T.n_Device__log_steps, lk_ls, _, rfl, (k : Int), 0, rfl, ?_⟩
    rw [show (if (0 : Int) > (k : Int) then (0 : Int) else (k : Int)) = (k : Int) from if_neg (by omega)]
    refine ⟨_, rfl, g1.ls, _, rfl, SqL.of D2.ls, fun l hl2 => ?_⟩
    have s4 := same_upd (o := .lst (cutV (d.steps.map optV) none (some (k : Int)))) hl2
    have D3 := D2.same s4
    refine ⟨dev, { g1 with pw := p, vs := [] }, { d with pages := crashP d.pages d.writes fs, writes := [] }, l, d.steps.take k, rfl, D3, ?_, ?_, fun g5 H5 D5 f5 ek => ?_⟩
    · rw [← cut_take]
      exact upd_same
    · show d.log.length + _ ≤ _
      rw [List.length_take]
      omega
    refine ⟨_, rfl, dev, T.C_Device, _, devF _ _, rfl, D5.at_, T.cl_Device, T.n_Device__steps_allowed, (by show 6 < 1000; decide), ?_⟩
    rw [show V.non = optV none from rfl, put_all]
    refine q _ _ (D5.num (d' := d.crash fs k) rfl rfl rfl rfl) (((f2.trans (Fr.same s4)).trans f5).trans Fr.ins) ?_
    show g5.kvs.length + 0 ≤ g.kvs.length + d.writes.length
    rw [ek]
    show g1.kvs.length + 0 ≤ g.kvs.length + d.writes.length
    rw [hl] at hk1
    omega
theorem okh_law_crash (T : Txt K mg) : L2H.FnH P w K mg base CX0 4 T.f_law_crash T.fd_law_crash ["state", "script", "device"] (spCr K T.C_Device) := by
  refine T.F_law_crash.okH sc_law_crash (fun vs H Q E h => ?_) (fun cdv A outer s H vs Q E q0 hq0 hr h => ?_)
  · obtain ⟨_, _, _, _, _, _, _, _, rfl, _⟩ := h
    rfl
  have hot := hot_cx (CX := CX0) (P := P) (w := w) (K := K) (mg := mg) (base := base) (N := ["state", "script", "device", "writes", "steps", "fates", "kept", "k"]) (qual := "_law_crash") (scope := defScope s_law_crash) (f := T.f_law_crash) (cd := cdv) (outer := outer) (s := s) (H := H) (E := E) hq0
  obtain ⟨st, sc, H0, ns, dev, g, d, rs, rfl, W, hw, hs, hbd, hlg, q⟩ := h
  refine ⟨_, (pss_cons (ps_asg (pe_meth0H (pv 2) T.cl_Device T.m_Device_pending (okh_Device_pending T) (hr.mono (by decide)) hot T.b_Device_pending passH) (pg_tupH hot (pgs_cons (pg_name (i := 3) sc_law_crash.nd rfl (by first | exact Or.inl rfl | exact Or.inr rfl)) (pgs_cons (pg_name (i := 4) sc_law_crash.nd rfl (by first | exact Or.inl rfl | exact Or.inr rfl)) pgs_nil))))
      (pss_cons (ps_setLcH (i := 5) (own := [("k", 7)]) (g := gName 7) hot sc_law_crash.nd rfl rfl (sw_true rfl rfl rfl (by decide +kernel)) (L2H.pi_range1H (by rfl) T.z_range (pa_cons (pv 3) pa_nil)) (blkOk_by (own := [("k", 7)]) (N := ["state", "script", "device", "writes", "steps", "fates", "kept", "k"]) (sc := defScope s_law_crash) (by decide +kernel)) (fun _ _ _ _ _ q1 hq1 => pg_name (i := 7) sc_law_crash.nd rfl (by first | exact Or.inl rfl | exact Or.inr rfl)) (fun _ _ _ _ _ q1 hq1 => L2H.pe_callH (okh_law_draw T) (hr.mono (by decide)) (hot_pin hq1) (by rfl) T.g_law_draw T.F_law_draw.kp T.b_law_draw passH (pa_cons (pv 0) (pa_cons (pv 1) (pa_cons pe_int pa_nil)))))
      (pss_cons (ps_set (i := 6) sc_law_crash.nd rfl (by first | exact Or.inl rfl | exact Or.inr rfl) (pe_ix ix_list (pe_lst (pa_cons pe_int (pa_cons (pv 4) (pa_cons (L2H.pe_callH (okh_law_draw T) (hr.mono (by decide)) hot (by rfl) T.g_law_draw T.F_law_draw.kp T.b_law_draw passH (pa_cons (pv 0) (pa_cons (pv 1) (pa_cons (pe_op op_add (pv 4) pe_int) pa_nil)))) pa_nil)))) (L2H.pe_callH (okh_law_draw T) (hr.mono (by decide)) hot (by rfl) T.g_law_draw T.F_law_draw.kp T.b_law_draw passH (pa_cons (pv 0) (pa_cons (pv 1) (pa_cons pe_int pa_nil)))) (fun _ _ => rfl)))
      (pss_cons (ps_expr (L2H.pe_methH (pv 2) T.cl_Device T.m_Device_crash (okh_Device_crash T) (hr.mono (by decide)) hot T.b_Device_crash passH (pa_cons (pv 5) (pa_cons (pv 6) pa_nil))))
      (pss_one (ps_ret (pv 6))))))), ?_⟩
  (try dsimp only [cxOf])
  rw [show start ["state", "script", "device", "writes", "steps", "fates", "kept", "k"] [.ref st, .ref sc, .ref dev] = [some (.ref st), some (.ref sc), some (.ref dev), none, none, none, none, none] from rfl]
  have D : DevAt T.C_Device H dev g d := W.tl.hd
  refine ⟨_, rfl, dev, g.dx, devF g d, rfl, D.at_, lk_no (by decide +kernel), dev, g, d, rfl, D, fun p1 n1 => ?_⟩
  have W1 := W.new (o := .tup [.int d.writes.length, .int d.steps.length]) n1
  refine ⟨p1, _, rfl, SqT.of W1.obj, rfl, ?_⟩
  refine ⟨_, _, rfl, _, _, rfl, rfl, ?_⟩
  walk_at "nrm"
  refine q_setg ?_
  refine ⟨_, rfl, ((d.writes.length : Nat) : Int), rfl, by omega, by omega, fun fa hfa => ?_⟩
  rw [Int.toNat_natCast]
  refine lc_range (lo := 0) (n := d.writes.length) (fun i H' => ∃ fs : List Int, Ap (rgO fa (.lst (fs.map V.int)) :: rgDr K H0 st sc ns :: rgDv T.C_Device dev g d :: rs) H' ∧ fs.length = i) ⟨[], W1.tl.new hfa, rfl⟩ ?_ ?_
  · rintro i H' hi ⟨fs, W', hl⟩
    refine ⟨rfl, g_yes ?_⟩
    refine ⟨_, rfl, _, rfl, st, sc, 3, H0, ns, rfl, by decide, by decide, W'.tl.hd, fun r H2 r0 r3 hB D2 => ?_⟩
    have W2 := W'.on2 (r' := rgDr K H0 st sc ns) (Frm.draw hB) D2
    refine ⟨_, W2.obj, ?_, fs ++ [r], ?_, by rw [List.length_append, hl]; rfl⟩
    · rw [List.length_map, hl]
      exact Nat.lt_of_le_of_lt (show _ ≤ 1000000 by omega) (by decide)
    · rw [show fs.map V.int ++ [V.int r] = (fs ++ [r]).map V.int by rw [List.map_append]; rfl]
      exact W2.set
  rintro H2 ⟨fs, W2, hfl⟩
  walk_at "nrm"
  refine q_setg ?_
  refine ⟨_, rfl, _, rfl, _, rfl, _, rfl, ((d.steps.length : Nat) : Int), 1, rfl, rfl, st, sc, ((d.steps.length : Nat) : Int) + 1, H0, ns, rfl, by omega, by omega, W2.tl.hd, fun r H3 r0 r3 hB3 D3 => ?_⟩
  have W3 := W2.on2 (r' := rgDr K H0 st sc ns) (Frm.draw hB3) D3
  refine ⟨by show 3 ≤ sizeLine; decide, fun l hl => ?_⟩
  have W4 := W3.new (o := .lst [.int 0, .int ((d.steps.length : Nat) : Int), .int r]) hl
  refine ⟨_, rfl, _, rfl, st, sc, 3, H0, ns, rfl, by decide, by decide, W4.tl.tl.hd, fun j H5 j0 j3 hB5 D5 => ?_⟩
  have W5 := W4.on3 (r' := rgDr K H0 st sc ns) (Frm.draw hB5) D5
  obtain ⟨k, hk, hat⟩ : ∃ k : Nat, k ≤ d.steps.length ∧ atI [V.int 0, V.int ((d.steps.length : Nat) : Int), V.int r] j = some (.int (k : Int)) := by
    have c : j = 0 ∨ j = 1 ∨ j = 2 := by omega
    rcases c with rfl | rfl | rfl
    · exact ⟨0, Nat.zero_le _, rfl⟩
    · exact ⟨d.steps.length, Nat.le_refl _, rfl⟩
    · obtain ⟨n, rfl⟩ := Int.eq_ofNat_of_zero_le r0
      exact ⟨n, by omega, rfl⟩
  refine ⟨l, _, j, _, rfl, rfl, SqL.of W5.obj, hat, ?_⟩
  have W6 := W5.tl
  walk_at "nrm"
  have D6 : DevAt T.C_Device H5 dev g d := W6.tl.tl.hd
  have nfa : ¬ own dev g fa := fun h => (List.pairwise_cons.mp W6.apart).1 (rgDv T.C_Device dev g d) (by simp) fa rfl h
  refine ⟨_, rfl, dev, g.dx, devF g d, rfl, D6.at_, lk_no (by decide +kernel), _, rfl, _, rfl, dev, g, d, fa, fs, k, rfl, D6, W6.obj, nfa, by omega, by omega, fun g' H7 D7 f7 b7 => ?_⟩
  have W7 := W6.on3 (r' := rgDv T.C_Device dev g' (d.crash fs k)) f7.frm D7
  walk_at "nrm"
  exact s_ret (val_var rfl) (q fs k g' H7 W7.tl hk b7)
end
end K06


namespace K06
open PySem L2 Nv RZ
local macro_rules | `(tactic| walk_at "hp") => `(tactic| first
  | assumption
  | exact upd_same
  | exact (upd_ne (by assumption)).trans (by first | assumption | exact upd_same | exact (upd_ne (by assumption)).trans (by first | assumption | exact upd_same))
  | exact (upd_ne (Ne.symm (by assumption))).trans (by first | assumption | exact upd_same))
local macro_rules | `(tactic| walk_at "cond") => `(tactic| first
  | (change (0 : Int) < _; first | decide | omega)
  | exact Or.inr ⟨by decide, by decide⟩
  | exact Or.inl ⟨by decide, by decide⟩
  | exact Or.inr ⟨by omega, by omega⟩
  | exact Or.inl ⟨by omega, by omega⟩
  | exact ⟨by decide, by decide, by decide⟩
  | exact wide_div (by first | decide | omega) (show _ < 2 ^ 64 by first | decide | omega) (by decide) (by decide)
  | (change (0 : Int) ≤ _; first | decide | omega)
  | exact ⟨by decide, by decide⟩
  | exact ⟨by omega, by omega⟩)
local macro_rules | `(tactic| walk_at "val") => `(tactic| first
  | (with_reducible exact val_c)
  | ((with_reducible apply val_var); exact rfl)
  | ((with_reducible apply val_I0); walk_at "val"; walk_at "val")
  | ((with_reducible apply val_I); walk_at "val"; walk_at "val"; walk_at "cond")
  | ((with_reducible apply val_ixL); walk_at "val"; walk_at "val"; (first | exact SqL.of (by walk_at "hp") | assumption); exact rfl)
  | ((with_reducible apply val_len); walk_at "val"; first | exact Or.inl (SqL.of (by walk_at "hp")) | exact Or.inl (by assumption) | exact Or.inr (by assumption) | exact Or.inr (SqT.of (by walk_at "hp")))
  | ((with_reducible apply val_int1); walk_at "val")
  | ((with_reducible apply val_abs); walk_at "val")
  | ((with_reducible apply val_max2); walk_at "val"; walk_at "val")
  | ((with_reducible apply val_eq); walk_at "val"; walk_at "val"; exact rfl)
  | ((with_reducible apply val_ne); walk_at "val"; walk_at "val"; exact rfl)
  | ((with_reducible apply val_not); walk_at "val")
  | ((with_reducible apply val_U); walk_at "val"))
local macro_rules | `(tactic| walk_at "ans") => `(tactic| first
  | ((with_reducible apply ans_Eq); walk_at "val"; walk_at "val"; exact rfl)
  | ((with_reducible apply ans_Ne); walk_at "val"; walk_at "val"; exact rfl)
  | ((with_reducible apply ans_I0); walk_at "val"; walk_at "val"; exact rfl)
  | ((with_reducible refine ans_And ?_ (fun _ => ?_)); walk_at "ans"; walk_at "ans")
  | ((with_reducible refine ans_or2 ?_ (fun _ => ?_)); walk_at "ans"; walk_at "ans")
  | ((with_reducible refine ans_not ?_); walk_at "ans")
  | ((with_reducible apply ans_val); walk_at "val"))
local macro_rules | `(tactic| walk_at "nrm") => `(tactic| (try dsimp only [List.set_cons_zero, List.set_cons_succ]))
local macro_rules | `(tactic| walk_at "set") => `(tactic| first
  | ((with_reducible apply q_set); walk_at "val"; walk_at "nrm")
  | ((with_reducible apply s_set); walk_at "val"; walk_at "nrm"))
local macro_rules | `(tactic| walk_at "setL") => `(tactic| first
  | ((with_reducible apply q_setL); walk_at "val"; walk_at "val"; walk_at "val"; walk_at "hp"; exact rfl; walk_at "nrm")
  | ((with_reducible apply s_setL); walk_at "val"; walk_at "val"; walk_at "val"; walk_at "hp"; exact rfl; walk_at "nrm"))
local macro_rules | `(tactic| walk_at "ff") => `(tactic| (walk_at "nrm"; rw [if_neg (by decide)]; (try ((with_reducible refine st_next ?_); walk_at "nrm"))))
local macro_rules | `(tactic| walk_at "nok") => `(tactic| (refine ⟨_, rfl, rfl, _, rfl, ?_⟩; walk_at "nrm"; rw [if_neg (by decide)]))
local macro_rules | `(tactic| walk_at "yesk") => `(tactic| (refine ⟨_, rfl, rfl, _, rfl, ?_⟩; walk_at "nrm"; rw [if_pos (by decide)]))
local macro_rules | `(tactic| walk_at "no") => `(tactic| (walk_at "nrm"; rw [if_neg (by decide)]; walk_at "nrm"))
local macro_rules | `(tactic| walk_at "yes") => `(tactic| (walk_at "nrm"; rw [if_pos (by decide)]; walk_at "nrm"))
local macro_rules | `(tactic| walk_at "nos") => `(tactic| (walk_at "nrm"; repeat (rw [if_neg (by decide)]; walk_at "nrm"); (try ((with_reducible refine st_next ?_); walk_at "nrm"))))

section
variable {P : Program} {w : World} {K : PySem.W.Frag} {mg : Str → Option Value} {base : Heap}
def spOp (K : Frag) (CD CP : Addr) : Sp := fun vs H Q _ => ∃ (st sc : Addr) (H0 : Hp) (ns : List Int) (dev : Addr) (g : DG) (d : DS) (C : Int → List Int) (rs : List Rg), vs = [.ref st, .ref sc, .ref dev] ∧ Ap (rgDr K H0 st sc ns :: rgDv CD dev g d :: rs) H ∧ Dv d C ∧ Pgs C ∧ bnd g d ≤ 700000 ∧
  ∀ (pg : Addr) (P' : PG) (s' : PS) (H' : Hp), Ap (rgDr K H0 st sc ns :: rgPg CD CP pg P' s' :: rs) H' → InB s' [] 0 → (∀ (k0 : Int) (Kp : Int → List Int), Kp6 k0 Kp C → Kp6 k0 Kp s'.read) → (∀ n, s'.cs.read n = C n) → (s'.dirty.map (·.1) = [] ∨ s'.dirty.map (·.1) = [0]) → P'.dev = dev → bnd P'.g s'.dev ≤ bnd g d + 200 → Q (.ref pg) H'
theorem ok_law_opened (T : Txt K mg) : FnOk P w K mg base CX0 8 T.f_law_opened T.fd_law_opened ["state", "script", "device"] (spOp K T.C_Device T.C_Pager) := by
  refine T.F_law_opened.ok sc_law_opened (fun vs H Q E h => ?_) (fun cdv A outer s H vs Q E hr h => ?_)
  · obtain ⟨_, _, _, _, _, _, _, _, _, rfl, _⟩ := h
    rfl
  obtain ⟨st, sc, H0, ns, dev, g, d, C, rs, rfl, W, VD, PC, hb, q⟩ := h
  refine ⟨_, (pss_cons (ps_for PassesOwn.never rfl (pi_range1 (by rfl) T.z_range (pa_cons pe_int pa_nil)) (pg_name (i := 3) sc_law_opened.nd rfl (by first | exact Or.inl rfl | exact Or.inr rfl))
        (pss_one (ps_if (pt_cmpR op_eq (pe_call (ok_law_draw T) (hr.mono (by decide)) (by rfl) T.g_law_draw T.F_law_draw.kp T.b_law_draw .nil pass0 (pa_cons (pv 0) (pa_cons (pv 1) (pa_cons pe_int pa_nil)))) pe_int (nomark _))
          (pss_cons (ps_set (i := 4) sc_law_opened.nd rfl (by first | exact Or.inl rfl | exact Or.inr rfl) (pe_call (ok_law_draw T) (hr.mono (by decide)) (by rfl) T.g_law_draw T.F_law_draw.kp T.b_law_draw .nil pass0 (pa_cons (pv 0) (pa_cons (pv 1) (pa_cons pe_int pa_nil)))))
          (pss_cons (ps_expr (pe_meth (pv 2) T.cl_Device T.m_Device_limit (ok_Device_limit T) (hr.mono (by decide)) T.b_Device_limit .nil pass0 (pa_cons (pv 4) pa_nil)))
          (pss_cons (ps_set (i := 5) sc_law_opened.nd rfl (by first | exact Or.inl rfl | exact Or.inr rfl) (pe_meth0 (pv 2) T.cl_Device T.m_Device_steps (ok_Device_steps T) (hr.mono (by decide)) T.b_Device_steps .nil pass0))
          (pss_cons (L2H.ps_try_onlyX (Wout := fun _ _ _ _ => False) rfl rfl ⟨by rfl, by decide, Or.inl T.g_PowerCut⟩ (fun _ => PassesOwnAt.never) takes0 (fun W pn xe tk _ hp => pss_one (ps_expr (pe_makeS T.mk_Pager (ok_Pager_init T) (hr.mono (by decide)) (by rfl) T.g_Pager T.b_Pager_init .nil (fun σ => L2N.passAt tk σ) (pa_cons (pv 2) pa_nil)))) (fun a oe cls d pn hz hf _ hot => pss_cons (ps_if (pt_cmpR op_ne (pe_op op_sub (pe_meth0H (pv 2) T.cl_Device T.m_Device_steps (okh_Device_steps T) (L2H.RoomH.mono (k := 7) ⟨hr.dp, hr.un⟩ (by decide)) hot T.b_Device_steps passH) (pv 5)) (pv 4) (nomark _)) (pss_one (ps_ret pe_non)) pss_nil) (pss_one (ps_expr (L2H.pe_callH (okh_law_crash T) (L2H.RoomH.mono (k := 7) ⟨hr.dp, hr.un⟩ (by decide)) hot (by rfl) T.g_law_crash T.F_law_crash.kp T.b_law_crash passH (pa_cons (pv 0) (pa_cons (pv 1) (pa_cons (pv 2) pa_nil))))))))
          (pss_one (ps_expr (pe_meth (pv 2) T.cl_Device T.m_Device_limit (ok_Device_limit T) (hr.mono (by decide)) T.b_Device_limit .nil pass0 (pa_cons pe_non pa_nil))))))))
          pss_nil)))
      (pss_cons (ps_set (i := 6) sc_law_opened.nd rfl (by first | exact Or.inl rfl | exact Or.inr rfl) (pe_make T.mk_Pager (ok_Pager_init T) (hr.mono (by decide)) (by rfl) T.g_Pager T.b_Pager_init .nil passNoN (pa_cons (pv 2) pa_nil)))
      (pss_cons (ps_if (PW.pt (pw_or (pt_cmpR (op_neD hr.units) (pe_meth0 (pv 2) T.cl_Device T.m_Device_log (ok_Device_log T) (hr.mono (by decide)) T.b_Device_log .nil pass0) (pe_lst pa_nil) (nomark _)) (pw_or1 (pt_cmpR (op_neD hr.units) (pe_meth0 (pv 2) T.cl_Device T.m_Device_pending (ok_Device_pending T) (hr.mono (by decide)) T.b_Device_pending .nil pass0) (pe_tup (pa_cons pe_int (pa_cons pe_int pa_nil))) (nomark _)))))
        (pss_one (ps_ret pe_non))
        pss_nil)
      (pss_one (ps_ret (pv 6)))))), ?_⟩
  (try dsimp only [cxOf])
  rw [show start ["state", "script", "device", "turn", "power", "start", "pager"] [.ref st, .ref sc, .ref dev] = [some (.ref st), some (.ref sc), some (.ref dev), none, none, none, none] from rfl]
  refine ⟨2, rfl, by omega, by omega, ?_⟩
  refine for_range (lo := 0) (n := 2) (fun i σ' H' => ∃ (g' : DG) (d' : DS) (c3 c4 c5 : Option V), σ' = [some (.ref st), some (.ref sc), some (.ref dev), c3, c4, c5, none] ∧ Ap (rgDr K H0 st sc ns :: rgDv T.C_Device dev g' d' :: rs) H' ∧ Dv d' C ∧ bnd g' d' ≤ bnd g d + 63 * i)
    ⟨g, d, none, none, none, rfl, W, VD, Nat.le_refl _⟩ ?_ ?_
  · rintro i σ' H1 hi ⟨g1, d1, c3, c4, c5, rfl, W, VD, hb1⟩
    refine ⟨_, rfl, _, rfl, st, sc, 2, H0, ns, rfl, by decide, by decide, W.hd, fun r H2 r0 r2 hB2 D2 => ?_⟩
    have W2 := W.on (r' := rgDr K H0 st sc ns) (Frm.draw hB2) D2
    refine ⟨rfl, _, rfl, ?_⟩
    walk_at "nrm"
    by_cases cr : r = 1
    · rw [if_pos (show decide (V.int r = V.int 1) = true from decide_eq_true (congrArg V.int cr))]
      refine q_setg ?_
      refine ⟨_, rfl, _, rfl, st, sc, 9, H0, ns, rfl, by decide, by decide, W2.hd, fun p H3 p0 p9 hB3 D3 => ?_⟩
      have W3 := W2.on (r' := rgDr K H0 st sc ns) (Frm.draw hB3) D3
      walk_at "nrm"
      have DD : DevAt T.C_Device H3 dev g1 d1 := W3.tl.hd
      refine ⟨_, rfl, dev, g1.dx, devF g1 d1, rfl, DD.at_, lk_no (by decide +kernel), _, rfl, dev, g1, d1, some p, rfl, DD, fun H4 D4 h4 => ?_⟩
      have f4 : Nv.Fr dev g1 H3 g1 H4 := ⟨fun b o n e => by rw [h4 b (fun z => n (.inl z))]; exact e, fun _ h => .inl h⟩
      have W4 := W3.on2 (r' := rgDv T.C_Device dev g1 (d1.lim (some p))) f4.frm D4
      walk_at "nrm"
      refine q_setg ?_
      refine ⟨_, rfl, dev, g1.dx, devF g1 (d1.lim (some p)), rfl, D4.at_, lk_no (by decide +kernel), dev, g1, d1.lim (some p), rfl, D4, ?_⟩
      walk_at "nrm"
      refine ⟨_, rfl, ?_⟩
      intro pg px np nx2 ne2
      have s5 : Same H4 (upd (upd H4 px (.own pg)) pg (.ins T.C_Pager px [])) := (same_upd nx2).trans (same_upd (by rw [upd_ne ne2.symm]; exact np))
      have WI := W4.swap.ini (pg := pg) (o := .ins T.C_Pager px []) s5 np upd_same
      obtain ⟨gs, R, l1, l2⟩ := VD.rc
      have hln : d1.logNow = d1.log := Rec.now VD.st
      have hll := R.len
      have hst := VD.st
      refine ⟨pg, px, dev, g1, d1.lim (some p), gs, rfl, upd_same, WI.hd.2, fun h => D4.not_own np h, by show ∀ x ∈ d1.logNow, 0 ≤ x; rw [hln]; exact R.pos, by show d1.log.length + d1.steps.length ≤ 900000; rw [hst]; show _ + 0 ≤ _; omega, by show Grps d1.logNow 0 gs; rw [hln]; exact R.grps, by show bnd g1 d1 ≤ 900000; omega, by show (foldG gs).length < 64; omega, fun hok => ?_, fun hne hf g5 H6 D6 f6 b6 => ?_, fun hok P6 H6 D6 f6 e6 b6 => ⟨rfl, ?_⟩⟩
      · have hfr : ∀ n, (foundB (d1.lim (some p)) gs).read n = C n := fun n => by
          obtain ⟨x1, _, _, R2⟩ := rec_opened (d := d1.lim (some p)) R VD.wr VD.st hok
          rw [show (PS.opened (d1.lim (some p)) gs).dev = (foundB (d1.lim (some p)) gs).dev from countB_dev _] at x1 R2
          have hsi : (foundB (d1.lim (some p)) gs).since = [] := by
            unfold foundB
            split
            · rename_i hz
              have hz : d1.logNow = [] := hz
              rw [hln] at hz
              have R' := R
              rw [hz] at R'
              rw [rec_lnil R']
              rfl
            · rfl
          unfold PS.read
          rw [foundB_dirty, hsi]
          show (foundB (d1.lim (some p)) gs).dev.page n = _
          rw [page_nil x1]
          exact R2.vw n
        show ((foundB (d1.lim (some p)) gs).read 0).length = 256
        rw [hfr]
        exact (PC 0).1
      · have hLim : Lim (d1.lim (some p)) (d1.done + p) := fun a h => by
          have h : some p = some a := h
          cases h
          exact ⟨p0, rfl⟩
        have hdn := ((tk_check (srtL (PS.opening (d1.lim (some p)) gs).since)).cut _ _ hLim hf).1
        have hV := fun fs k => dv_open_cut (a := some p) VD R l1 l2 hf fs k
        have hbs : (checkD (srtL (PS.opening (d1.lim (some p)) gs).since) (d1.lim (some p))).1.writes.length ≤ 1000 ∧ (checkD (srtL (PS.opening (d1.lim (some p)) gs).since) (d1.lim (some p))).1.steps.length ≤ 1 ∧ (checkD (srtL (PS.opening (d1.lim (some p)) gs).since) (d1.lim (some p))).1.log.length ≤ 640000 := by
          have hsl := srtL_len (foldG gs)
          rcases check_cut (d := d1.lim (some p)) VD.wr VD.st hf with ⟨k, x1, _, x3, x4⟩ | ⟨x1, _, x3, x4⟩
          · rw [x1, x3, x4]
            refine ⟨?_, by decide, by show d1.log.length ≤ _; omega⟩
            rw [List.length_take]
            show min k (srtL (foldG gs)).length ≤ 1000
            omega
          · rw [x1, x3]
            refine ⟨by decide, ?_, by show d1.log.length ≤ _; omega⟩
            rcases x4 with x4 | x4 <;> rw [x4] <;> decide
        have b6 : bnd g5 (checkD (srtL (PS.opening (d1.lim (some p)) gs).since) (d1.lim (some p))).1 ≤ bnd g1 d1 + (foldG gs).length := b6
        have W7 := (WI.on (r' := rgDv T.C_Device dev g5 (checkD (srtL (PS.opening (d1.lim (some p)) gs).since) (d1.lim (some p))).1) f6 D6).swap
        obtain ⟨hw, hs, hl⟩ := hbs
        have hV : ∀ (fs : List Int) (k : Nat), Dv ((checkD (srtL (PS.opening (d1.lim (some p)) gs).since) (d1.lim (some p))).1.crash fs k) C := hV
        generalize (checkD (srtL (PS.opening (d1.lim (some p)) gs).since) (d1.lim (some p))).1 = dc at W7 hw hs hl hdn hV b6 D6
        refine ⟨true, exm_PC T, fun _ a na => ?_, fun z => by cases z⟩
        refine ⟨_, rfl, dev, g5.dx, devF g5 dc, rfl, D6.at_, lk_no (by decide +kernel), dev, g5, dc, rfl, D6, ?_⟩
        refine ⟨_, rfl, dc.done, d1.done, rfl, rfl, _, rfl, rfl, _, rfl, ?_⟩
        have hdp : dc.done - d1.done = p := by omega
        walk_at "nrm"
        rw [if_neg (show ¬ (!decide (V.int (dc.done - d1.done) = V.int p)) = true by rw [hdp, decide_eq_true rfl]; exact Bool.false_ne_true)]
        refine st_next ?_
        walk_at "nrm"
        refine ⟨_, rfl, _, rfl, _, rfl, st, sc, H0, ns, dev, g5, dc, rs, rfl, W7, hw, by omega, by omega, by omega, fun fs k gL HL WL hk b7 => ?_⟩
        have hV := hV fs k
        obtain ⟨dL, hdL⟩ : ∃ dL, dc.crash fs k = dL := ⟨_, rfl⟩
        rw [hdL] at WL hV b7
        walk_at "nrm"
        have DL : DevAt T.C_Device HL dev gL dL := WL.tl.hd
        refine ⟨_, rfl, dev, gL.dx, devF gL dL, rfl, DL.at_, lk_no (by decide +kernel), dev, gL, dL, none, rfl, DL, fun H9 D9 h9 => ?_⟩
        have f9 : Nv.Fr dev gL HL gL H9 := ⟨fun b o n e => by rw [h9 b (fun z => n (.inl z))]; exact e, fun _ h => .inl h⟩
        have W9 := WL.on2 (r' := rgDv T.C_Device dev gL (dL.lim none)) f9.frm D9
        have e9 : dL.lim none = dL := by
          have := hV.al
          obtain ⟨_, _, _, _, _, al⟩ := dL
          obtain rfl : al = none := this
          rfl
        rw [e9] at W9
        exact ⟨gL, dL, _, _, _, rfl, W9, hV, by omega⟩
      · have hV := dv_open_ok (a := some p) VD R hok
        have WP := (WI.on (r' := rgPg T.C_Device T.C_Pager pg P6 (PS.opened (d1.lim (some p)) gs)) f6 D6)
        have WL := (WP.weak (r' := rgDv T.C_Device P6.dev P6.g (PS.opened (d1.lim (some p)) gs).dev) (fun b h => .inr (.inr (.inr (.inr h)))) (fun D => D.dev)).swap
        rw [e6] at WL
        have b6 : bnd P6.g (PS.opened (d1.lim (some p)) gs).dev ≤ bnd g1 d1 + (foldG gs).length := b6
        obtain ⟨gL, hgL⟩ : ∃ gL, P6.g = gL := ⟨_, rfl⟩
        obtain ⟨dL, hdL⟩ : ∃ dL, (PS.opened (d1.lim (some p)) gs).dev = dL := ⟨_, rfl⟩
        obtain ⟨HL, hHL⟩ : ∃ HL, H6 = HL := ⟨_, rfl⟩
        rw [hgL, hdL] at WL b6
        rw [hdL] at hV
        rw [hHL] at WL
        subst hHL
        walk_at "nrm"
        have DL : DevAt T.C_Device H6 dev gL dL := WL.tl.hd
        refine ⟨_, rfl, dev, gL.dx, devF gL dL, rfl, DL.at_, lk_no (by decide +kernel), dev, gL, dL, none, rfl, DL, fun H9 D9 h9 => ?_⟩
        have f9 : Nv.Fr dev gL H6 gL H9 := ⟨fun b o n e => by rw [h9 b (fun z => n (.inl z))]; exact e, fun _ h => .inl h⟩
        have W9 := WL.on2 (r' := rgDv T.C_Device dev gL (dL.lim none)) f9.frm D9
        exact ⟨gL, dL.lim none, _, _, _, rfl, W9, hV, by show bnd gL dL ≤ _; omega⟩
    · rw [if_neg (show ¬ decide (V.int r = V.int 1) = true from fun z => cr (V.int.inj (of_decide_eq_true z)))]
      refine st_next ?_
      exact ⟨g1, d1, _, c4, c5, rfl, W2, VD, by omega⟩
  · rintro σ' H1 ⟨g1, d1, c3, c4, c5, rfl, W, VD, hb1⟩
    walk_at "nrm"
    refine q_setg ?_
    refine ⟨_, rfl, ?_⟩
    intro pg px np nx2 ne2
    have DD : DevAt T.C_Device H1 dev g1 d1 := W.tl.hd
    have s3 : Same H1 (upd (upd H1 px (.own pg)) pg (.ins T.C_Pager px [])) := (same_upd nx2).trans (same_upd (by rw [upd_ne ne2.symm]; exact np))
    have WI := W.swap.ini (pg := pg) (o := .ins T.C_Pager px []) s3 np upd_same
    obtain ⟨gs, R, l1, l2⟩ := VD.rc
    have hln : d1.logNow = d1.log := Rec.now VD.st
    have hll := R.len
    have hst := VD.st
    obtain ⟨I, hv, _⟩ := rec_open R PC VD.wr VD.st VD.al 0
    refine ⟨pg, px, dev, g1, d1, gs, rfl, upd_same, WI.hd.2, fun h => DD.not_own np h, by rw [hln]; exact R.pos, by rw [hst]; show _ + 0 ≤ _; omega, by rw [hln]; exact R.grps, by omega, by show (foldG gs).length < 64; omega, fun _ => ?_, fun _ hf => ?_, fun _ P3 H3 D3 f3 e3 b3 => ⟨rfl, ?_⟩⟩
    · show ((foundB d1 gs).read 0).length = 256
      rw [foundB_read (pgs_congr PC (open_view R VD.wr)) VD.al VD.wr, open_view R VD.wr]
      exact (PC 0).1
    · rw [checkD_free VD.al] at hf
      cases hf
    have W3 := (WI.on (r' := rgPg T.C_Device T.C_Pager pg P3 (PS.opened d1 gs)) f3 D3).swap
    have b3 : bnd P3.g (PS.opened d1 gs).dev ≤ bnd g1 d1 + (foldG gs).length := b3
    have hkp : ∀ (k0 : Int) (Kp : Int → List Int), Kp6 k0 Kp C → Kp6 k0 Kp (PS.opened d1 gs).read := fun k0 Kp x => (dv_open VD PC R 0 x).2.1
    obtain ⟨lg3, st3, wr3⟩ : (PS.opened d1 gs).dev.log = [] ∧ (PS.opened d1 gs).dev.steps = [] ∧ (PS.opened d1 gs).dev.writes = [] := ⟨I.lg, I.st, I.wr⟩
    have hks : (PS.opened d1 gs).dirty.map (·.1) = [] ∨ (PS.opened d1 gs).dirty.map (·.1) = [0] := by
      have x : Kp6 (fl C 3) C C := ⟨rfl, fun _ _ _ => rfl⟩
      rw [(dv_open VD PC R 0 x).2.2.2.1]
      split
      · exact .inl rfl
      · exact .inr rfl
    rw [← e3]
    generalize PS.opened d1 gs = s5 at W3 I hv b3 hkp lg3 st3 wr3 hks
    walk_at "nrm"
    have D5 : PagAt T.C_Device T.C_Pager H3 pg P3 s5 := W3.tl.hd
    refine ⟨_, rfl, P3.dev, P3.g.dx, devF P3.g s5.dev, rfl, D5.dev.at_, lk_no (by decide +kernel), P3.dev, P3.g, s5.dev, rfl, D5.dev, by rw [lg3, st3]; decide, fun p6 H6 s6 np6 ep6 => ?_⟩
    rw [show s5.dev.logNow = [] by unfold DS.logNow; rw [lg3, st3]; rfl] at ep6
    refine ⟨Nat.zero_le _, fun l7 hl7 => ?_⟩
    have s7 := same_upd (o := .lst ([] : List V)) hl7
    refine neL_ints (xs := []) (ys := []) (SqL.of (s7 _ _ ep6)) (SqL.of upd_same) ⟨_, rfl, ?_⟩
    rw [decide_eq_true rfl]
    walk_at "nos"
    have W7 := (W3.same s6).same s7
    generalize upd H6 l7 (.lst []) = H7 at W7
    have D7 : PagAt T.C_Device T.C_Pager H7 pg P3 s5 := W7.tl.hd
    refine ⟨_, rfl, P3.dev, P3.g.dx, devF P3.g s5.dev, rfl, D7.dev.at_, lk_no (by decide +kernel), P3.dev, P3.g, s5.dev, rfl, D7.dev, fun p24 n24 => ?_⟩
    rw [wr3, st3]
    have s24 := same_upd (o := .tup [V.int ((([] : PL).length : Nat) : Int), V.int ((([] : List (Option Int)).length : Nat) : Int)]) n24
    refine ⟨by show 2 ≤ sizeLine; decide, fun t25 n25 => ?_⟩
    have s25 := same_upd (o := .tup [V.int 0, V.int 0]) n25
    refine neT_ints (xs := [0, 0]) (ys := [0, 0]) (SqT.of (s25 _ _ upd_same)) (SqT.of upd_same) ⟨_, rfl, ?_⟩
    rw [decide_eq_true rfl]
    walk_at "nos"
    have W8 := (W7.same s24).same s25
    walk_at "nrm"
    exact s_ret (val_var rfl) (q pg P3 s5 _ W8 I hkp hv hks e3 (by omega))
end
end K06


namespace K06
open PySem L2 Nv RZ
local macro_rules | `(tactic| walk_at "hp") => `(tactic| first
  | assumption
  | exact upd_same
  | exact (upd_ne (by assumption)).trans (by first | assumption | exact upd_same | exact (upd_ne (by assumption)).trans (by first | assumption | exact upd_same))
  | exact (upd_ne (Ne.symm (by assumption))).trans (by first | assumption | exact upd_same))
local macro_rules | `(tactic| walk_at "cond") => `(tactic| first
  | (change (0 : Int) < _; first | decide | omega)
  | exact Or.inr ⟨by decide, by decide⟩
  | exact Or.inl ⟨by decide, by decide⟩
  | exact Or.inr ⟨by omega, by omega⟩
  | exact Or.inl ⟨by omega, by omega⟩
  | exact ⟨by decide, by decide, by decide⟩
  | exact wide_div (by first | decide | omega) (show _ < 2 ^ 64 by first | decide | omega) (by decide) (by decide)
  | (change (0 : Int) ≤ _; first | decide | omega)
  | exact ⟨by decide, by decide⟩
  | exact ⟨by omega, by omega⟩)
local macro_rules | `(tactic| walk_at "val") => `(tactic| first
  | (with_reducible exact val_c)
  | ((with_reducible apply val_var); exact rfl)
  | ((with_reducible apply val_I0); walk_at "val"; walk_at "val")
  | ((with_reducible apply val_I); walk_at "val"; walk_at "val"; walk_at "cond")
  | ((with_reducible apply val_ixL); walk_at "val"; walk_at "val"; (first | exact SqL.of (by walk_at "hp") | assumption); exact rfl)
  | ((with_reducible apply val_len); walk_at "val"; first | exact Or.inl (SqL.of (by walk_at "hp")) | exact Or.inl (by assumption) | exact Or.inr (by assumption) | exact Or.inr (SqT.of (by walk_at "hp")))
  | ((with_reducible apply val_int1); walk_at "val")
  | ((with_reducible apply val_abs); walk_at "val")
  | ((with_reducible apply val_max2); walk_at "val"; walk_at "val")
  | ((with_reducible apply val_eq); walk_at "val"; walk_at "val"; exact rfl)
  | ((with_reducible apply val_ne); walk_at "val"; walk_at "val"; exact rfl)
  | ((with_reducible apply val_not); walk_at "val")
  | ((with_reducible apply val_U); walk_at "val"))
local macro_rules | `(tactic| walk_at "ans") => `(tactic| first
  | ((with_reducible apply ans_Eq); walk_at "val"; walk_at "val"; exact rfl)
  | ((with_reducible apply ans_Ne); walk_at "val"; walk_at "val"; exact rfl)
  | ((with_reducible apply ans_I0); walk_at "val"; walk_at "val"; exact rfl)
  | ((with_reducible refine ans_And ?_ (fun _ => ?_)); walk_at "ans"; walk_at "ans")
  | ((with_reducible refine ans_or2 ?_ (fun _ => ?_)); walk_at "ans"; walk_at "ans")
  | ((with_reducible refine ans_not ?_); walk_at "ans")
  | ((with_reducible apply ans_val); walk_at "val"))
local macro_rules | `(tactic| walk_at "nrm") => `(tactic| (try dsimp only [List.set_cons_zero, List.set_cons_succ]))
local macro_rules | `(tactic| walk_at "set") => `(tactic| first
  | ((with_reducible apply q_set); walk_at "val"; walk_at "nrm")
  | ((with_reducible apply s_set); walk_at "val"; walk_at "nrm"))
local macro_rules | `(tactic| walk_at "setL") => `(tactic| first
  | ((with_reducible apply q_setL); walk_at "val"; walk_at "val"; walk_at "val"; walk_at "hp"; exact rfl; walk_at "nrm")
  | ((with_reducible apply s_setL); walk_at "val"; walk_at "val"; walk_at "val"; walk_at "hp"; exact rfl; walk_at "nrm"))
local macro_rules | `(tactic| walk_at "ff") => `(tactic| (walk_at "nrm"; rw [if_neg (by decide)]; (try ((with_reducible refine st_next ?_); walk_at "nrm"))))
local macro_rules | `(tactic| walk_at "nok") => `(tactic| (refine ⟨_, rfl, rfl, _, rfl, ?_⟩; walk_at "nrm"; rw [if_neg (by decide)]))
local macro_rules | `(tactic| walk_at "yesk") => `(tactic| (refine ⟨_, rfl, rfl, _, rfl, ?_⟩; walk_at "nrm"; rw [if_pos (by decide)]))
local macro_rules | `(tactic| walk_at "no") => `(tactic| (walk_at "nrm"; rw [if_neg (by decide)]; walk_at "nrm"))
local macro_rules | `(tactic| walk_at "yes") => `(tactic| (walk_at "nrm"; rw [if_pos (by decide)]; walk_at "nrm"))
local macro_rules | `(tactic| walk_at "nos") => `(tactic| (walk_at "nrm"; repeat (rw [if_neg (by decide)]; walk_at "nrm"); (try ((with_reducible refine st_next ?_); walk_at "nrm"))))

section
variable {P : Program} {w : World} {K : PySem.W.Frag} {mg : Str → Option Value} {base : Heap}
def sp_law (K : PySem.W.Frag) : Sp := fun vs H Q _ => ∃ (a : Addr) (ns : List Int), vs = [.ref a] ∧ SqL K H a (ns.map V.int) ∧ ns.length ≤ 63 ∧ ∀ H', Q (.bl true) H'
structure LS (s : PS) (k0 : Int) (Kp : Int → List Int) (gs : GL) (t : Nat) : Prop where
  inb : InB s gs t
  rd : Kp6 k0 Kp s.read
  cl : Kp6 k0 Kp s.cs.read
  ks : s.dirty.map (·.1) = [] ∨ s.dirty.map (·.1) = [0]
def LI (K : Frag) (CD CP : Addr) (H0 : Hp) (st sc : Addr) (ns : List Int) (dev : Addr) (i : Nat) (σ' : L2.St) (H' : Hp) : Prop :=
  ∃ (pg : Addr) (P : PG) (s : PS) (F : Hp) (md : Addr) (k0 : Int) (Kp : Int → List Int) (gs : GL) (t : Nat) (c5 c6 c7 c8 c9 c10 c11 c12 : Option V) (rs : List Rg), σ' = [some (.ref sc), some (.ref st), some (.ref dev), some (.ref pg), some (.ref md), c5, c6, c7, c8, c9, c10, c11, c12] ∧
    Ap (rgDr K H0 st sc ns :: rgPg CD CP pg P s :: rgMd F md k0 Kp :: rgF F :: rs) H' ∧ LS s k0 Kp gs t ∧ t ≤ 5 * i ∧ P.dev = dev ∧ bnd P.g s.dev ≤ 1000 * i
/-- behind the fall of power, if there was one -/
def MB (K : Frag) (CD CP : Addr) (H0 : Hp) (st sc : Addr) (ns : List Int) (dev : Addr) (i : Nat) (σ' : L2.St) (H' : Hp) : Prop :=
  ∃ (pg : Addr) (P : PG) (s : PS) (F : Hp) (md : Addr) (k0 : Int) (Kp : Int → List Int) (gs : GL) (t : Nat) (c5 c6 c7 c8 c9 c10 c11 c12 : Option V) (rs : List Rg), σ' = [some (.ref sc), some (.ref st), some (.ref dev), some (.ref pg), some (.ref md), c5, c6, c7, c8, c9, c10, c11, c12] ∧
    Ap (rgDr K H0 st sc ns :: rgPg CD CP pg P s :: rgMd F md k0 Kp :: rgF F :: rs) H' ∧ LS (s.lim none) k0 Kp gs t ∧ t ≤ 5 * (i + 1) ∧ P.dev = dev ∧ bnd P.g s.dev ≤ 1000 * i + 500
/-- behind the crash -/
def MC (K : Frag) (CD : Addr) (H0 : Hp) (st sc : Addr) (ns : List Int) (dev : Addr) (i : Nat) (σ' : L2.St) (H' : Hp) : Prop :=
  ∃ (c3 : Option V) (g : DG) (d : DS) (C : Int → List Int) (F : Hp) (md : Addr) (k0 : Int) (Kp : Int → List Int) (c5 c6 c7 c8 c9 c10 c11 c12 : Option V) (rs : List Rg), σ' = [some (.ref sc), some (.ref st), some (.ref dev), c3, some (.ref md), c5, c6, c7, c8, c9, c10, c11, c12] ∧
    Ap (rgDr K H0 st sc ns :: rgDv CD dev g d :: rgMd F md k0 Kp :: rgF F :: rs) H' ∧ Dv d C ∧ Pgs C ∧ Kp6 k0 Kp C ∧ bnd g d ≤ 1000 * i + 200
theorem ok_law (T : Txt K mg) : FnOk P w K mg base CX0 9 T.f_law T.fd_law ["script"] (sp_law K) := by
  refine T.F_law.ok sc_law (fun vs H Q E h => ?_) (fun cdv A outer s H vs Q E hr h => ?_)
  · obtain ⟨_, _, rfl, _⟩ := h
    rfl
  obtain ⟨sc, ns, rfl, hS, hlen, q⟩ := h
  refine ⟨_, (pss_cons (ps_set (i := 1) sc_law.nd rfl (by first | exact Or.inl rfl | exact Or.inr rfl) (pe_lst (pa_cons pe_int (pa_cons pe_int pa_nil))))
      (pss_cons (ps_set (i := 2) sc_law.nd rfl (by first | exact Or.inl rfl | exact Or.inr rfl) (pe_make0 T.mk_Device (ok_Device_init T) (hr.mono (by decide)) (by rfl) T.g_Device T.b_Device_init .nil pass0))
      (pss_cons (ps_set (i := 3) sc_law.nd rfl (by first | exact Or.inl rfl | exact Or.inr rfl) (pe_make T.mk_Pager (ok_Pager_init T) (hr.mono (by decide)) (by rfl) T.g_Pager T.b_Pager_init .nil passNoN (pa_cons (pv 2) pa_nil)))
      (pss_cons (ps_set (i := 4) sc_law.nd rfl (by first | exact Or.inl rfl | exact Or.inr rfl) (pe_disp (pps_cons pe_int pe_int (pps_cons pe_int (pe_op op_rep (pe_lst (pa_cons pe_int pa_nil)) pe_int) (pps_cons pe_int (pe_op op_rep (pe_lst (pa_cons pe_int pa_nil)) pe_int) (pps_cons pe_int (pe_op op_rep (pe_lst (pa_cons pe_int pa_nil)) pe_int) (pps_cons pe_int (pe_op op_rep (pe_lst (pa_cons pe_int pa_nil)) pe_int) pps_nil))))) (by rfl) (by rfl) (fun z => by cases z) (by decide)))
      (pss_cons (ps_for PassesOwn.never rfl (pi_range1 (by rfl) T.z_range (pa_cons (pe_call (ok_law_draw T) (hr.mono (by decide)) (by rfl) T.g_law_draw T.F_law_draw.kp T.b_law_draw .nil pass0 (pa_cons (pv 1) (pa_cons (pv 0) (pa_cons pe_int pa_nil)))) pa_nil)) (pg_name (i := 5) sc_law.nd rfl (by first | exact Or.inl rfl | exact Or.inr rfl))
        (pss_cons (ps_set (i := 6) sc_law.nd rfl (by first | exact Or.inl rfl | exact Or.inr rfl) (pe_ix ix_list (pe_lst (pa_cons pe_non (pa_cons (pe_call (ok_law_draw T) (hr.mono (by decide)) (by rfl) T.g_law_draw T.F_law_draw.kp T.b_law_draw .nil pass0 (pa_cons (pv 1) (pa_cons (pv 0) (pa_cons pe_int pa_nil)))) (pa_cons (pe_call (ok_law_draw T) (hr.mono (by decide)) (by rfl) T.g_law_draw T.F_law_draw.kp T.b_law_draw .nil pass0 (pa_cons (pv 1) (pa_cons (pv 0) (pa_cons pe_int pa_nil)))) pa_nil)))) (pe_call (ok_law_draw T) (hr.mono (by decide)) (by rfl) T.g_law_draw T.F_law_draw.kp T.b_law_draw .nil pass0 (pa_cons (pv 1) (pa_cons (pv 0) (pa_cons pe_int pa_nil)))) (fun _ _ => rfl)))
        (pss_cons (ps_expr (pe_meth (pv 2) T.cl_Device T.m_Device_limit (ok_Device_limit T) (hr.mono (by decide)) T.b_Device_limit .nil pass0 (pa_cons (pv 6) pa_nil)))
        (pss_cons (ps_set (i := 7) sc_law.nd rfl (by first | exact Or.inl rfl | exact Or.inr rfl) (pe_meth0 (pv 2) T.cl_Device T.m_Device_steps (ok_Device_steps T) (hr.mono (by decide)) T.b_Device_steps .nil pass0))
        (pss_cons (ps_set (i := 8) sc_law.nd rfl (by first | exact Or.inl rfl | exact Or.inr rfl) (pe_callTy call_dictD (by rfl) T.z_dict (by decide +kernel) (pa_cons (pv 4) pa_nil)))
        (pss_cons (ps_asg (pe_call (ok_law_round T) (hr.mono (by decide)) (by rfl) T.g_law_round T.F_law_round.kp T.b_law_round .nil pass0 (pa_cons (pv 1) (pa_cons (pv 0) (pa_cons (pv 2) (pa_cons (pv 3) (pa_cons (pv 8) (pa_cons (pv 5) pa_nil))))))) (pg_tup (by rfl) (pgs_cons (pg_name (i := 9) sc_law.nd rfl (by first | exact Or.inl rfl | exact Or.inr rfl)) (pgs_cons (pg_name (i := 10) sc_law.nd rfl (by first | exact Or.inl rfl | exact Or.inr rfl)) pgs_nil))))
        (pss_cons (ps_set (i := 11) sc_law.nd rfl (by first | exact Or.inl rfl | exact Or.inr rfl) (pe_op op_sub (pe_meth0 (pv 2) T.cl_Device T.m_Device_steps (ok_Device_steps T) (hr.mono (by decide)) T.b_Device_steps .nil pass0) (pv 7)))
        (pss_cons (ps_if (PW.pt (pw_or (pt_cmpR op_eq (pv 10) pe_str (nomark _)) (pw_or1 (PW.pt (pw_and (pt_cmpR op_in_seq (pv 10) (pe_tup (pa_cons pe_str (pa_cons pe_str pa_nil))) (by rfl)) (pw_and1 (PW.pt (pw_or (pt_cmpR op_isN (pv 6) pe_non (nomark _)) (pw_or1 (pt_cmpR op_ne (pv 11) (pv 6) (nomark _)))))))))))
          (pss_one (ps_ret pe_bl))
          pss_nil)
        (pss_cons (ps_if (PW.pt (pw_or (PW.pt (pw_and (pt_cmpR op_ne (pv 10) pe_str (nomark _)) (pw_and1 (pt_cmpR op_lt (pv 11) (pe_op op_add pe_int (pe_op op_mul pe_int (pv 9))) (nomark _))))) (pw_or1 (PW.pt (pw_and (pt_cmpR op_notN (pv 6) pe_non (nomark _)) (pw_and1 (pt_cmpR op_gt (pv 11) (pv 6) (nomark _))))))))
          (pss_one (ps_ret pe_bl))
          pss_nil)
        (pss_cons (ps_if (pt_cmpR op_ne (pv 10) pe_str (nomark _))
          (pss_one (ps_set (i := 4) sc_law.nd rfl (by first | exact Or.inl rfl | exact Or.inr rfl) (pv 8)))
          pss_nil)
        (Evl.pss_cut (ps_if (PW.pt (pw_or (pt_cmpR op_ne (pv 10) pe_str (nomark _)) (pw_or1 (pt_cmpR op_eq (pe_call (ok_law_draw T) (hr.mono (by decide)) (by rfl) T.g_law_draw T.F_law_draw.kp T.b_law_draw .nil pass0 (pa_cons (pv 1) (pa_cons (pv 0) (pa_cons pe_int pa_nil)))) pe_int (nomark _)))))
          (pss_cons (ps_set (i := 12) sc_law.nd rfl (by first | exact Or.inl rfl | exact Or.inr rfl) (pe_call (ok_law_crash T) (hr.mono (by decide)) (by rfl) T.g_law_crash T.F_law_crash.kp T.b_law_crash .nil pass0 (pa_cons (pv 1) (pa_cons (pv 0) (pa_cons (pv 2) pa_nil)))))
          (Evl.pss_cut (ps_if (PW.pt (pw_and (pt_cmpR op_eq (pv 10) pe_str (nomark _)) (pw_and1 (pt_cmpR op_ge (pv 12) (pe_op op_add pe_int (pe_op op_mul pe_int (pv 9))) (nomark _)))))
            (pss_one (ps_set (i := 4) sc_law.nd rfl (by first | exact Or.inl rfl | exact Or.inr rfl) (pv 8)))
            pss_nil)
          (pss_cons (ps_set (i := 3) sc_law.nd rfl (by first | exact Or.inl rfl | exact Or.inr rfl) (pe_call (ok_law_opened T) (hr.mono (by decide)) (by rfl) T.g_law_opened T.F_law_opened.kp T.b_law_opened .nil pass0 (pa_cons (pv 1) (pa_cons (pv 0) (pa_cons (pv 2) pa_nil)))))
          (pss_one (ps_if (PW.pt (pw_or (pt_cmpR op_isN (pv 3) pe_non (nomark _)) (pw_or1 (pt_cmpR (op_neV hr.units) (pe_call (ok_law_shown T) (hr.mono (by decide)) (by rfl) T.g_law_shown T.F_law_shown.kp T.b_law_shown .nil pass0 (pa_cons (pv 3) pa_nil)) (pv 4) (nomark _)))))
            (pss_one (ps_ret pe_bl))
            pss_nil)))))
          pss_nil)
        (pss_cons (ps_expr (pe_meth (pv 2) T.cl_Device T.m_Device_limit (ok_Device_limit T) (hr.mono (by decide)) T.b_Device_limit .nil pass0 (pa_cons pe_non pa_nil)))
        (pss_cons (ps_if (pt_cmpR (op_neV hr.units) (pe_call (ok_law_shown T) (hr.mono (by decide)) (by rfl) T.g_law_shown T.F_law_shown.kp T.b_law_shown .nil pass0 (pa_cons (pv 3) pa_nil)) (pv 4) (nomark _))
          (pss_one (ps_ret pe_bl))
          pss_nil)
        (pss_one (ps_if (pt_cmpR op_eq (pe_call (ok_law_draw T) (hr.mono (by decide)) (by rfl) T.g_law_draw T.F_law_draw.kp T.b_law_draw .nil pass0 (pa_cons (pv 1) (pa_cons (pv 0) (pa_cons pe_int pa_nil)))) pe_int (nomark _))
          (pss_cons (ps_set (i := 3) sc_law.nd rfl (by first | exact Or.inl rfl | exact Or.inr rfl) (pe_make T.mk_Pager (ok_Pager_init T) (hr.mono (by decide)) (by rfl) T.g_Pager T.b_Pager_init .nil passNoN (pa_cons (pv 2) pa_nil)))
          (pss_one (ps_if (PW.pt (pw_or (pt_cmpR (op_neD hr.units) (pe_meth0 (pv 2) T.cl_Device T.m_Device_log (ok_Device_log T) (hr.mono (by decide)) T.b_Device_log .nil pass0) (pe_lst pa_nil) (nomark _)) (pw_or (pt_cmpR (op_neD hr.units) (pe_meth0 (pv 2) T.cl_Device T.m_Device_pending (ok_Device_pending T) (hr.mono (by decide)) T.b_Device_pending .nil pass0) (pe_tup (pa_cons pe_int (pa_cons pe_int pa_nil))) (nomark _)) (pw_or1 (pt_cmpR (op_neV hr.units) (pe_call (ok_law_shown T) (hr.mono (by decide)) (by rfl) T.g_law_shown T.F_law_shown.kp T.b_law_shown .nil pass0 (pa_cons (pv 3) pa_nil)) (pv 4) (nomark _))))))
            (pss_one (ps_ret pe_bl))
            pss_nil)))
          pss_nil)))))))))))))))
      (pss_one (ps_ret pe_bl))))))), ?_⟩
  (try dsimp only [cxOf])
  rw [show start ["script", "state", "device", "pager", "kept", "turn", "power", "start", "model", "pages", "word", "used", "steps"] [.ref sc] = [some (.ref sc), none, none, none, none, none, none, none, none, none, none, none, none] from rfl]
  refine q_setg ?_
  refine ⟨by show 2 ≤ sizeLine; decide, fun st hst => ?_⟩
  walk_at "nrm"
  have D0 : Dr K H (upd H st (.lst [.int 0, .int 0])) st sc ns := ⟨hS, same_upd hst, hst, 0, 0, Int.le_refl _, Int.le_refl _, upd_same⟩
  generalize upd H st (.lst [.int 0, .int 0]) = H0 at D0
  have W0 : Ap [rgDr K H st sc ns] H0 := .one D0
  refine q_setg ?_
  intro dev dx nd nx ne
  have s0 : Same H0 (upd (upd H0 dx (.own dev)) dev (.ins T.C_Device dx [])) := (same_upd nx).trans (same_upd (by rw [upd_ne ne.symm]; exact nd))
  refine ⟨dev, dx, rfl, upd_same, fun g H1 D1 k1 o1 hk1 => ⟨rfl, ?_⟩⟩
  walk_at "nrm"
  have s1 : Same H0 H1 := fun b o e => k1 b o (s0 b o e) (ne_of_none e nd)
  have n0 : ∀ b, own dev g b → H0 b = none := fun b h => by
    rcases o1 b h with z | z
    · rw [z]; exact nd
    · exact s0.free z
  have W1 : Ap [rgDv T.C_Device dev g DS.new, rgDr K H st sc ns] H1 := W0.add s1 n0 D1
  refine q_setg ?_
  refine ⟨_, rfl, ?_⟩
  intro pg px np nx2 ne2
  have s2 : Same H1 (upd (upd H1 px (.own pg)) pg (.ins T.C_Pager px [])) := (same_upd nx2).trans (same_upd (by rw [upd_ne ne2.symm]; exact np))
  have W2 := W1.ini (pg := pg) (o := .ins T.C_Pager px []) s2 np upd_same
  have hb0 : bnd g DS.new = 0 := by
    unfold bnd
    rw [hk1]
    rfl
  refine ⟨pg, px, dev, g, DS.new, [], rfl, upd_same, W2.hd.2, fun h => D1.not_own np h, (fun x h => by cases h), by decide, .nil (gEnd_nil []), by rw [hb0]; decide, by decide, fun _ => by decide, fun h => absurd rfl h, fun _ P3 H3 D3 f3 e3 b3 => ⟨rfl, ?_⟩⟩
  walk_at "nrm"
  have W3 : Ap [rgPg T.C_Device T.C_Pager pg P3 (PS.opened DS.new []), rgDr K H st sc ns] H3 := W2.on f3 D3
  rw [hb0] at b3
  have b3 : bnd P3.g (PS.opened DS.new []).dev ≤ 0 := b3
  refine q_setg ?_
  intro md hmd
  have W4 : Ap [rgF (fun _ => none), rgO md (.dK []), rgPg T.C_Device T.C_Pager pg P3 (PS.opened DS.new []), rgDr K H st sc ns] (upd H3 md (.dK [])) := (W3.new (o := .dK []) hmd).add (Same.refl _) (fun b ⟨o, h⟩ => by cases h) (fun _ _ e => by cases e)
  refine ⟨by show 1 ≤ sizeLine; decide, fun l1 hl1 => ?_⟩
  refine ⟨l1, 256, [.int 0], rfl, rfl, upd_same, by decide, by decide, by show 256 ≤ sizeLine; decide, fun z1 hz1 => ?_⟩
  rw [show (List.replicate (256 : Int).toNat [V.int 0]).flatten = zeros.map V.int from zeros_rep]
  have W4 := (W4.same (same_upd (o := .lst [V.int 0]) hl1)).frz (o := .lst (zeros.map V.int)) hz1
  refine ⟨by show 1 ≤ sizeLine; decide, fun l2 hl2 => ?_⟩
  refine ⟨l2, 256, [.int 0], rfl, rfl, upd_same, by decide, by decide, by show 256 ≤ sizeLine; decide, fun z2 hz2 => ?_⟩
  rw [show (List.replicate (256 : Int).toNat [V.int 0]).flatten = zeros.map V.int from zeros_rep]
  have W5 := (W4.same (same_upd (o := .lst [V.int 0]) hl2)).frz (o := .lst (zeros.map V.int)) hz2
  refine ⟨by show 1 ≤ sizeLine; decide, fun l3 hl3 => ?_⟩
  refine ⟨l3, 256, [.int 0], rfl, rfl, upd_same, by decide, by decide, by show 256 ≤ sizeLine; decide, fun z3 hz3 => ?_⟩
  rw [show (List.replicate (256 : Int).toNat [V.int 0]).flatten = zeros.map V.int from zeros_rep]
  have W6 := (W5.same (same_upd (o := .lst [V.int 0]) hl3)).frz (o := .lst (zeros.map V.int)) hz3
  refine ⟨by show 1 ≤ sizeLine; decide, fun l4 hl4 => ?_⟩
  refine ⟨l4, 256, [.int 0], rfl, rfl, upd_same, by decide, by decide, by show 256 ≤ sizeLine; decide, fun z4 hz4 => ?_⟩
  rw [show (List.replicate (256 : Int).toNat [V.int 0]).flatten = zeros.map V.int from zeros_rep]
  have W7 := (W6.same (same_upd (o := .lst [V.int 0]) hl4)).frz (o := .lst (zeros.map V.int)) hz4
  refine ⟨W7.tl.hd, [(.inl 0, .int 0), (.inl 1, .ref z1), (.inl 2, .ref z2), (.inl 3, .ref z3), (.inl 4, .ref z4)], rfl, (show 5 ≤ 15 by decide), ?_⟩
  have e5 : mergeK [] [((Sum.inl 0 : Key), V.int 0), (.inl 1, .ref z1), (.inl 2, .ref z2), (.inl 3, .ref z3), (.inl 4, .ref z4)] = [((Sum.inl 0 : Key), V.int 0), (.inl 1, .ref z1), (.inl 2, .ref z2), (.inl 3, .ref z3), (.inl 4, .ref z4)] := rfl
  rw [e5]
  obtain ⟨F, hF, g1, g2, g3, g4⟩ : ∃ F : Hp, upd (upd (upd (upd (fun _ => none) z1 (.lst (zeros.map V.int))) z2 (.lst (zeros.map V.int))) z3 (.lst (zeros.map V.int))) z4 (.lst (zeros.map V.int)) = F ∧ F z1 = some (.lst (zeros.map V.int)) ∧ F z2 = some (.lst (zeros.map V.int)) ∧ F z3 = some (.lst (zeros.map V.int)) ∧ F z4 = some (.lst (zeros.map V.int)) := by
    have any : ∀ (G : Hp) (a b : Addr), G a = some (.lst (zeros.map V.int)) → upd G b (.lst (zeros.map V.int)) a = some (.lst (zeros.map V.int)) := fun G a b h => by
      by_cases e : a = b
      · rw [e]; exact upd_same
      · rw [upd_ne e]; exact h
    exact ⟨_, rfl, any _ _ _ (any _ _ _ (any _ _ _ upd_same)), any _ _ _ (any _ _ _ upd_same), any _ _ _ upd_same, upd_same⟩
  rw [hF] at W7
  have M0 : Md6 F [((Sum.inl 0 : Key), V.int 0), (.inl 1, .ref z1), (.inl 2, .ref z2), (.inl 3, .ref z3), (.inl 4, .ref z4)] 0 (fun _ => zeros) := by
    refine ⟨rfl, rfl, fun n a b => ?_⟩
    have c : n = 1 ∨ n = 2 ∨ n = 3 ∨ n = 4 := by omega
    rcases c with rfl | rfl | rfl | rfl
    · exact ⟨z1, rfl, g1⟩
    · exact ⟨z2, rfl, g2⟩
    · exact ⟨z3, rfl, g3⟩
    · exact ⟨z4, rfl, g4⟩
  have W8 := (W7.swap.set (o' := .dK [((Sum.inl 0 : Key), V.int 0), (.inl 1, .ref z1), (.inl 2, .ref z2), (.inl 3, .ref z3), (.inl 4, .ref z4)])).weak (r' := rgMd F md 0 (fun _ => zeros)) (fun b h => h) (fun e => ⟨_, e, M0⟩)
  have W9 := W8.x22.swap
  clear W4 W5 W6 W7 W8
  generalize upd _ md (.dK [((Sum.inl 0 : Key), V.int 0), (.inl 1, .ref z1), (.inl 2, .ref z2), (.inl 3, .ref z3), (.inl 4, .ref z4)]) = H9 at W9 ⊢
  walk_at "nrm"
  refine ⟨_, rfl, _, rfl, st, sc, 7, H, ns, rfl, by decide, by decide, W9.hd, fun r HA r0 r7 hBA DA => ?_⟩
  have WA := W9.on (r' := rgDr K H st sc ns) (Frm.draw hBA) DA
  refine ⟨r, rfl, by omega, by omega, ?_⟩
  have I0 : InB (PS.opened DS.new []) [] 0 := inB_new
  have V0 : Dv DS.new (fun _ => zeros) := ⟨rfl, rfl, rfl, [], rec_nil fun _ => rfl, by decide, by decide⟩
  have PC0 : Pgs fun _ => zeros := fun n => ⟨rfl, byt_zeros⟩
  have K0 : Kp6 0 (fun _ => zeros) fun _ => zeros := ⟨by decide, fun _ _ _ => rfl⟩
  obtain ⟨_, k2, k3, k4, _⟩ := dv_open (C := fun _ => zeros) V0 PC0 (rec_nil (p := DS.new.pages) fun _ => rfl) 0 K0
  have k4' : (PS.opened DS.new []).dirty.map (·.1) = [] ∨ (PS.opened DS.new []).dirty.map (·.1) = [0] := by
    rw [k4]
    split
    · exact .inl rfl
    · exact .inr rfl
  refine for_range (lo := 0) (n := r.toNat) (fun i σ' H' => LI K T.C_Device T.C_Pager H st sc ns dev i σ' H')
    ⟨pg, P3, _, F, md, 0, fun _ => zeros, [], 0, none, none, none, none, none, none, none, none, [], rfl, WA, ⟨I0, k2, K0.congr k3, k4'⟩, by omega, e3, by omega⟩ ?_ ?_
  · rintro i σ' HB hi ⟨pg, P, s, F, md, k0, Kp, gs, t, c5, c6, c7, c8, c9, c10, c11, c12, rs, rfl, W, L, ht, rfl, hb⟩
    have hi6 : i ≤ 5 := by omega
    refine q_setg ?_
    refine ⟨_, rfl, _, rfl, st, sc, 2000, H, ns, rfl, by decide, by decide, W.hd, fun a1 HC a10 a11 hB1 Da1 => ?_⟩
    have W := W.on (r' := rgDr K H st sc ns) (Frm.draw hB1) Da1
    refine ⟨_, rfl, _, rfl, st, sc, 12, H, ns, rfl, by decide, by decide, W.hd, fun a2 HD a20 a21 hB2 Da2 => ?_⟩
    have W := W.on (r' := rgDr K H st sc ns) (Frm.draw hB2) Da2
    refine ⟨by show 3 ≤ sizeLine; decide, fun l hl => ?_⟩
    have W := W.new (o := .lst [.non, .int a1, .int a2]) hl
    refine ⟨_, rfl, _, rfl, st, sc, 3, H, ns, rfl, by decide, by decide, W.tl.hd, fun j HE j0 j3 hB3 Da3 => ?_⟩
    have W := W.on2 (r' := rgDr K H st sc ns) (Frm.draw hB3) Da3
    obtain ⟨power, hp, hat⟩ : ∃ power : Option Int, (∀ a, power = some a → 0 ≤ a) ∧ atI [V.non, V.int a1, V.int a2] j = some (optV power) := by
      have c : j = 0 ∨ j = 1 ∨ j = 2 := by omega
      rcases c with rfl | rfl | rfl
      · exact ⟨none, fun a h => (by cases h), rfl⟩
      · exact ⟨some a1, fun a h => (by cases h; exact a10), rfl⟩
      · exact ⟨some a2, fun a h => (by cases h; exact a20), rfl⟩
    refine ⟨l, _, j, _, rfl, rfl, SqL.of W.obj, hat, ?_⟩
    have W := W.tl
    walk_at "nrm"
    have D : PagAt T.C_Device T.C_Pager HE pg P s := W.tl.hd
    refine ⟨_, rfl, P.dev, P.g.dx, devF P.g s.dev, rfl, D.dev.at_, lk_no (by decide +kernel), _, rfl, P.dev, P.g, s.dev, power, rfl, D.dev, fun HF DF hF => ?_⟩
    have fF : Nv.Fr P.dev P.g HE P.g HF := ⟨fun b o n e => by rw [hF b (fun z => n (.inl z))]; exact e, fun _ h => .inl h⟩
    have DP := D.devStep (d' := s.dev.lim power) DF fF
    have W := W.on2 (r' := rgPg T.C_Device T.C_Pager pg P (s.lim power)) (Frm.dev (pg := pg) fF) DP
    walk_at "nrm"
    refine q_setg ?_
    have D : PagAt T.C_Device T.C_Pager HF pg P (s.lim power) := W.tl.hd
    refine ⟨_, rfl, P.dev, P.g.dx, devF P.g (s.lim power).dev, rfl, D.dev.at_, lk_no (by decide +kernel), P.dev, P.g, (s.lim power).dev, rfl, D.dev, ?_⟩
    walk_at "nrm"
    refine q_setg ?_
    obtain ⟨c, ec, Dc⟩ := W.tl.tl.hd
    refine ⟨_, rfl, md, c, rfl, .inl ec, fun md2 hmd2 => ?_⟩
    have W := (W.add (r := rgMd F md2 k0 Kp) (same_upd (o := .dK c) hmd2) (fun b h => by rw [show b = md2 from h]; exact hmd2) ⟨c, upd_same, Dc⟩).p1
    generalize upd HF md2 (.dK c) = HG at W
    walk_at "nrm"
    have hIl : InB ((s.lim power).lim none) gs t := by rw [lim_lim, lim_none L.inb.al]; exact L.inb
    have hLim : Lim (s.lim power).dev (s.dev.done + power.getD 0) := fun a h => by
      have h : power = some a := h
      subst h
      exact ⟨hp a rfl, rfl⟩
    have hbl : bnd P.g (s.lim power).dev = bnd P.g s.dev := rfl
    refine ⟨_, rfl, _, rfl, _, rfl, _, rfl, _, rfl, _, rfl, st, sc, H, ns, pg, P, s.lim power, F, md2, k0, Kp, 0 + (i : Int), gs, t, s.dev.done + power.getD 0, _, rfl, W, hIl, L.rd, L.ks, by omega, by omega, by omega, by omega, hLim, ?_, ?_, ?_⟩
    · intro s1 F' k1 Kp1 g' tp HH W1 hcut I1 hK1 hne e1 e2 hb1 sF
      refine ⟨tp, _, rfl, SqT.of W1.obj, rfl, ?_⟩
      refine ⟨_, _, rfl, _, _, rfl, rfl, ?_⟩
      have W1 := W1.tl
      obtain ⟨hdn, hal⟩ := commit_cutU (s := s1) (c := s.dev.done + power.getD 0) (by rw [e1]; exact hLim) hcut
      rw [e1] at hal
      obtain ⟨pw, rfl⟩ : ∃ pw, power = some pw := by
        cases power with
        | none => exact absurd rfl hal
        | some a => exact ⟨a, rfl⟩
      have hkey := fun fs k hk => dv_cut (k := k) I1 (by omega) hne hcut fs hk
      have hwl : (commitD (srtL s1.dirty) s1.dev).1.writes.length ≤ 1000 := by
        obtain ⟨_, _, _, _, h, _⟩ := commit_cut (d := s1.dev) I1.st hcut
        rw [h, show s1.dev.writes = [] from I1.wr]
        decide
      have hl1 := inB_len I1 (by omega)
      have hl1 : gs.length ≤ 31 ∧ (foldG gs).length ≤ 63 ∧ s1.dirty.length ≤ 63 ∧ s1.since.length ≤ 63 := hl1
      have hgl : (grpB (srtL s1.dirty)).length = 4 + 260 * s1.dirty.length := by
        rw [grpB_len fun w hw => (I1.dok w ((srtL_mem (l := s1.dirty) I1.nd).mp hw)).1, srtL_len]
      have hsl : (commitD (srtL s1.dirty) s1.dev).1.steps.length ≤ 4 + 260 * s1.dirty.length := by
        obtain ⟨k, h, h2, _⟩ := commit_cut (d := s1.dev) I1.st hcut
        rw [h2, List.length_map, List.length_take]
        omega
      have hll : (commitD (srtL s1.dirty) s1.dev).1.log.length ≤ 620000 := by
        obtain ⟨_, _, _, _, _, h⟩ := commit_cut (d := s1.dev) I1.st hcut
        have := I1.loglen (by omega)
        rw [h]
        have : s1.dev.log.length + s1.dev.steps.length ≤ 620000 := this
        omega
      generalize (commitD (srtL s1.dirty) s1.dev).1 = d at W1 hdn hkey hwl hsl hll hb1
      have DD : DevAt T.C_Device HH P.dev g' d := W1.tl.hd
      walk_at "nrm"
      refine q_setg ?_
      refine ⟨_, rfl, P.dev, g'.dx, devF g' d, rfl, DD.at_, lk_no (by decide +kernel), P.dev, g', d, rfl, DD, ?_⟩
      refine ⟨_, rfl, d.done, s.dev.done, rfl, rfl, ?_⟩
      have hus : d.done - s.dev.done = pw := by
        rw [hdn]
        show s.dev.done + pw - s.dev.done = pw
        omega
      walk_at "nrm"
      rw [hus]
      walk_at "nrm"
      refine ⟨_, rfl, rfl, _, rfl, ?_⟩
      walk_at "no"
      refine ⟨_, rfl, by show 2 ≤ sizeLine; decide, fun tq htq => ?_⟩
      have W2 := W1.same (same_upd (o := .tup [.str "cut", .str "late"]) htq)
      refine ⟨tq, _, rfl, .inr (SqT.of upd_same), rfl, rfl, _, rfl, ?_⟩
      walk_at "nrm"
      rw [if_pos (by decide +kernel)]
      refine ⟨_, rfl, rfl, _, rfl, ?_⟩
      walk_at "nrm"
      rw [if_neg (show ¬ decide (optV (some pw) = V.non) = true from fun z => by cases of_decide_eq_true z)]
      refine ⟨_, rfl, _, rfl, rfl, _, rfl, ?_⟩
      rw [show (!decide (V.int pw = optV (some pw))) = false by rw [decide_eq_true (show V.int pw = optV (some pw) from rfl)]; rfl]
      walk_at "nrm"
      rw [if_neg Bool.false_ne_true]
      refine st_next ?_
      walk_at "nrm"
      refine ⟨_, rfl, rfl, _, rfl, ?_⟩
      walk_at "nrm"
      rw [show (!decide (V.str (Str.ofString "cut") = V.str (Str.ofString "cut"))) = false by rw [decide_eq_true rfl]; rfl]
      walk_at "nrm"
      rw [if_neg Bool.false_ne_true]
      walk_at "nrm"
      rw [if_neg Bool.false_ne_true]
      refine ⟨_, rfl, rfl, _, rfl, ?_⟩
      walk_at "nrm"
      rw [if_pos (show (!decide (optV (some pw) = V.non)) = true by rw [decide_eq_false (fun z => by cases z)]; rfl)]
      refine ⟨_, rfl, _, rfl, pw, pw, rfl, rfl, _, rfl, ?_⟩
      walk_at "nrm"
      rw [if_neg (show ¬ decide (pw < pw) = true from fun z => absurd (of_decide_eq_true z) (Int.lt_irrefl _))]
      refine st_next ?_
      walk_at "nrm"
      refine ⟨_, rfl, rfl, _, rfl, ?_⟩
      walk_at "nrm"
      rw [show (!decide (V.str (Str.ofString "cut") = V.str (Str.ofString "cut"))) = false by rw [decide_eq_true rfl]; rfl]
      rw [if_neg Bool.false_ne_true]
      refine st_next ?_
      walk_at "nrm"
      refine q_cut (fun σ' H' => MB K T.C_Device T.C_Pager H st sc ns P.dev i σ' H') ?_ ?_
      · refine ⟨_, rfl, rfl, _, rfl, ?_⟩
        walk_at "nrm"
        rw [if_pos (by decide +kernel)]
        walk_at "nrm"
        rw [if_pos rfl]
        refine q_setg ?_
        refine ⟨_, rfl, _, rfl, _, rfl, st, sc, H, ns, P.dev, g', d, _, rfl, W2, hwl, by omega, by omega, by omega, fun fs k g2 HI WI hk hb2 => ?_⟩
        walk_at "nrm"
        have hcs : s1.cs.read = s.cs.read := funext fun n => by
          show (match getL s1.since n with | some xs => xs | none => s1.dev.page n) = _
          rw [e1, e2]
          rfl
        obtain ⟨hv1, hv2⟩ := hkey fs k hk
        refine q_cut (fun σ' H' => MC K T.C_Device H st sc ns P.dev i σ' H') ?_ ?_
        · refine ⟨_, rfl, rfl, _, rfl, ?_⟩
          walk_at "nrm"
          rw [if_pos (by decide +kernel)]
          refine ⟨_, rfl, _, rfl, 260, _, rfl, rfl, .inl ⟨by decide, by decide⟩, 4, _, rfl, rfl, _, _, rfl, rfl, _, rfl, ?_⟩
          walk_at "nrm"
          by_cases hk4 : (4 : Int) + 260 * ((s1.dirty.length : Nat) : Int) ≤ (k : Int)
          · rw [if_pos (decide_eq_true hk4)]
            refine ⟨_, rfl, ?_⟩
            exact ⟨_, g2, _, s1.read, F', md2, k1, Kp1, _, _, _, _, _, _, _, _, _, rfl, WI, hv2 (by omega), I1.rd, hK1, by omega⟩
          · rw [if_neg (fun z => hk4 (of_decide_eq_true z))]
            refine st_next ?_
            have WJ := (WI.perm (rs' := _ :: _ :: _ :: _ :: _ :: _) ((((List.Perm.swap ..).trans ((List.Perm.swap ..).cons _)).trans (List.Perm.swap ..)).cons _ |>.cons _))
            obtain ⟨ck, eck, Dk⟩ := WJ.tl.tl.hd
            have WK := WJ.on3 (r' := rgMd F' md k0 Kp) ⟨fun _ _ _ e => e, fun _ h => .inl h⟩ ⟨ck, eck, Dk.ext sF⟩
            exact ⟨_, g2, _, s1.cs.read, F', md, k0, Kp, _, _, _, _, _, _, _, _, _, rfl, WK, hv1 (by omega), I1.cl, by rw [hcs]; exact L.cl, by omega⟩
        · skip
          rintro σ' HX ⟨c3, g, d, C, F, md, k0, Kp, c5, c6, c7, c8, c9, c10, c11, c12, rs, rfl, W, VD, PC, hK, hb⟩
          refine q_setg ?_
          refine ⟨_, rfl, _, rfl, _, rfl, st, sc, H, ns, P.dev, g, d, C, _, rfl, W, VD, PC, by omega, fun pg P' s' HY W' I' hkr hcr hks eP hb' => ?_⟩
          walk_at "nrm"
          have hK' := hkr k0 Kp hK
          have D' : PagAt T.C_Device T.C_Pager HY pg P' s' := W'.tl.hd
          refine ⟨_, rfl, rfl, _, rfl, ?_⟩
          walk_at "nrm"
          rw [if_neg (show ¬ decide (V.ref pg = V.non) = true from fun z => by cases of_decide_eq_true z)]
          refine ⟨_, rfl, pg, P', s', rfl, D', fun n => (I'.rd n).1, fun p F2 c2 k2 Kp2 HZ sZ sF2 np ep Dm ek eKp => ?_⟩
          have WZ := W'.same sZ
          obtain ⟨ck, eck, Dk⟩ := WZ.tl.tl.hd
          have ek' : k2 = k0 := by rw [ek]; exact hK'.f3
          subst ek'
          refine ⟨_, rfl, p, md, c2, ck, rfl, rfl, ep, eck, by rw [Dm.len, Dk.len], Dm.ne K Dk (fun n a b => by rw [eKp n a b]; exact hK'.pg n a b) sF2 WZ.tl.tl.tl.hd, _, rfl, ?_⟩
          walk_at "nrm"
          rw [if_neg Bool.false_ne_true]
          refine st_next ?_
          exact ⟨pg, P', s', F, md, k2, Kp, [], 0, c5, c6, c7, c8, c9, c10, c11, c12, rs, rfl, WZ, ⟨by rw [lim_none I'.al]; exact I', hK', hK.congr hcr, hks⟩, by omega, eP, by omega⟩
      · skip
        rintro σ' HX ⟨pg, P2, s, F, md, k0, Kp, gs, t, c5, c6, c7, c8, c9, c10, c11, c12, rs, rfl, W, L, ht, eP, hb⟩
        have D : PagAt T.C_Device T.C_Pager HX pg P2 s := W.tl.hd
        rw [← eP]
        walk_at "nrm"
        refine ⟨_, rfl, P2.dev, P2.g.dx, devF P2.g s.dev, rfl, D.dev.at_, lk_no (by decide +kernel), P2.dev, P2.g, s.dev, none, rfl, D.dev, fun HF DF hF => ?_⟩
        have fF : Nv.Fr P2.dev P2.g HX P2.g HF := ⟨fun b o n e => by rw [hF b (fun z => n (.inl z))]; exact e, fun _ h => .inl h⟩
        have DP := D.devStep (d' := s.dev.lim none) DF fF
        have W := W.on2 (r' := rgPg T.C_Device T.C_Pager pg P2 (s.lim none)) (Frm.dev (pg := pg) fF) DP
        have hb : bnd P2.g (s.lim none).dev ≤ 1000 * i + 500 := hb
        generalize s.lim none = s at W L hb
        walk_at "nrm"
        have D' : PagAt T.C_Device T.C_Pager HF pg P2 s := W.tl.hd
        refine ⟨_, rfl, pg, P2, s, rfl, D', fun n => (L.inb.rd n).1, fun p F2 c2 k2 Kp2 HZ sZ sF2 np ep Dm ek eKp => ?_⟩
        have WZ := W.same sZ
        obtain ⟨ck, eck, Dk⟩ := WZ.tl.tl.hd
        have ek' : k2 = k0 := by rw [ek]; exact L.rd.f3
        subst ek'
        refine ⟨_, rfl, p, md, c2, ck, rfl, rfl, ep, eck, by rw [Dm.len, Dk.len], Dm.ne K Dk (fun n a b => by rw [eKp n a b]; exact L.rd.pg n a b) sF2 WZ.tl.tl.tl.hd, _, rfl, ?_⟩
        walk_at "nrm"
        rw [if_neg Bool.false_ne_true]
        refine st_next ?_
        walk_at "nrm"
        refine ⟨_, rfl, _, rfl, st, sc, 2, H, ns, rfl, by decide, by decide, WZ.hd, fun u HU u0 u2 hBU DU => ?_⟩
        have WU := WZ.on (r' := rgDr K H st sc ns) (Frm.draw hBU) DU
        refine ⟨rfl, _, rfl, ?_⟩
        walk_at "nrm"
        by_cases cu : u = 1
        · rw [if_pos (show decide (V.int u = V.int 1) = true from decide_eq_true (congrArg V.int cu))]
          refine q_setg ?_
          refine ⟨_, rfl, ?_⟩
          intro pg2 px np nx2 ne2
          have s3 : Same HU (upd (upd HU px (.own pg2)) pg2 (.ins T.C_Pager px [])) := (same_upd nx2).trans (same_upd (by rw [upd_ne ne2.symm]; exact np))
          have DU2 : PagAt T.C_Device T.C_Pager HU pg P2 s := WU.tl.hd
          have WD := (WU.swap.weak (r' := rgDv T.C_Device P2.dev P2.g s.dev) (fun b h => .inr (.inr (.inr (.inr h)))) (fun D => D.dev))
          have WI := WD.ini (pg := pg2) (o := .ins T.C_Pager px []) s3 np upd_same
          have I := L.inb
          have hz := inB_len I (by omega)
          have hll := I.loglen (by omega)
          refine ⟨pg2, px, P2.dev, P2.g, s.dev, gs, rfl, upd_same, WI.hd.2, fun h => DU2.dev.not_own np h, I.pos, by omega, I.grps, by omega, ?_, ?_, fun _ hf => ?_, fun _ P3 H3 D3 f3 e3 b3 => ⟨rfl, ?_⟩⟩
          · show (foldG gs).length < 64
            omega
          · intro _; show ((foundB s.dev gs).read 0).length = 256
            rw [I.found_read]
            exact (I.cl 0).1
          · rw [checkD_free I.al] at hf
            cases hf
          have W3 := (WI.on (r' := rgPg T.C_Device T.C_Pager pg2 P3 (PS.opened s.dev gs)) f3 D3).swap
          obtain ⟨I3, k3, v3, ks3, lg3, st3, wr3⟩ := dv_open (dv_of I (by omega)) I.cl (rec_of I) 0 L.cl
          have b3 : bnd P3.g (PS.opened s.dev gs).dev ≤ bnd P2.g s.dev + (foldG gs).length := b3
          have ks3' : (PS.opened s.dev gs).dirty.map (·.1) = [] ∨ (PS.opened s.dev gs).dirty.map (·.1) = [0] := by
            rw [ks3]
            split
            · exact .inl rfl
            · exact .inr rfl
          have hcl3 := L.cl.congr v3
          rw [← e3]
          clear ks3 v3
          generalize PS.opened s.dev gs = s5 at W3 I3 k3 lg3 st3 wr3 b3 ks3' hcl3
          walk_at "nrm"
          have D5 : PagAt T.C_Device T.C_Pager H3 pg2 P3 s5 := W3.tl.hd
          refine ⟨_, rfl, P3.dev, P3.g.dx, devF P3.g s5.dev, rfl, D5.dev.at_, lk_no (by decide +kernel), P3.dev, P3.g, s5.dev, rfl, D5.dev, by rw [lg3, st3]; decide, fun p6 H6 s6 np6 ep6 => ?_⟩
          rw [show s5.dev.logNow = [] by unfold DS.logNow; rw [lg3, st3]; rfl] at ep6
          refine ⟨Nat.zero_le _, fun l7 hl7 => ?_⟩
          have s7 := same_upd (o := .lst ([] : List V)) hl7
          refine neL_ints (xs := []) (ys := []) (SqL.of (s7 _ _ ep6)) (SqL.of upd_same) ⟨_, rfl, ?_⟩
          rw [decide_eq_true rfl]
          walk_at "nos"
          have W7 := (W3.same s6).same s7
          generalize upd H6 l7 (.lst []) = H7 at W7
          have D7 : PagAt T.C_Device T.C_Pager H7 pg2 P3 s5 := W7.tl.hd
          refine ⟨_, rfl, P3.dev, P3.g.dx, devF P3.g s5.dev, rfl, D7.dev.at_, lk_no (by decide +kernel), P3.dev, P3.g, s5.dev, rfl, D7.dev, fun p24 n24 => ?_⟩
          rw [wr3, st3]
          have s24 := same_upd (o := .tup [V.int ((([] : PL).length : Nat) : Int), V.int ((([] : List (Option Int)).length : Nat) : Int)]) n24
          refine ⟨by show 2 ≤ sizeLine; decide, fun t25 n25 => ?_⟩
          have s25 := same_upd (o := .tup [V.int 0, V.int 0]) n25
          refine neT_ints (xs := [0, 0]) (ys := [0, 0]) (SqT.of (s25 _ _ upd_same)) (SqT.of upd_same) ⟨_, rfl, ?_⟩
          rw [decide_eq_true rfl]
          walk_at "nos"
          have W8 := (W7.same s24).same s25
          have D8 : PagAt T.C_Device T.C_Pager _ pg2 P3 s5 := W8.tl.hd
          refine ⟨_, rfl, pg2, P3, s5, rfl, D8, fun n => (I3.rd n).1, fun p9 F9 c9' k9 Kp9 H9 s9 sF9 np9 ep9 Dm9 ek9 eKp9 => ?_⟩
          have W9 := W8.same s9
          obtain ⟨cm, ecm, Dkm⟩ := W9.tl.tl.hd
          have ek9' : k9 = k2 := by rw [ek9]; exact k3.f3
          subst ek9'
          refine ⟨_, rfl, p9, md, c9', cm, rfl, rfl, ep9, ecm, by rw [Dm9.len, Dkm.len], Dm9.ne K Dkm (fun n a b => by rw [eKp9 n a b]; exact k3.pg n a b) sF9 W9.tl.tl.tl.hd, _, rfl, ?_⟩
          walk_at "nrm"
          rw [if_neg Bool.false_ne_true]
          refine st_next ?_
          exact ⟨pg2, P3, s5, F, md, k9, Kp, [], 0, c5, c6, c7, c8, c9, c10, c11, c12, rs, rfl, W9, ⟨I3, k3, hcl3, ks3'⟩, by omega, rfl, by omega⟩
        · rw [if_neg (show ¬ decide (V.int u = V.int 1) = true from fun z => cu (V.int.inj (of_decide_eq_true z)))]
          refine st_next ?_
          exact ⟨pg, P2, s, F, md, k2, Kp, gs, t, c5, c6, c7, c8, c9, c10, c11, c12, rs, rfl, WU, L, ht, rfl, by omega⟩
    · intro s2 F' k1 Kp1 g' tp m gs2 HH W1 hcut I1 hd1 hK1 hL1 hdn hal hb1 sF
      refine ⟨tp, _, rfl, SqT.of W1.obj, rfl, ?_⟩
      refine ⟨_, _, rfl, _, _, rfl, rfl, ?_⟩
      have W1 := W1.tl
      obtain ⟨hdn2, hal2, hup⟩ := check_cutU (s := s2) hL1 hcut
      obtain ⟨pw, rfl⟩ : ∃ pw, power = some pw := by
        cases power with
        | none => exact absurd rfl hal
        | some a => exact ⟨a, rfl⟩
      have hkey := fun fs k => dv_late I1 (by omega) hcut fs k
      have hcs : s2.cs.read = s2.read := funext fun n => by
        unfold PS.read PS.cs
        rw [hd1]
      have hl1 := inB_len I1 (by omega)
      have hl1 : gs2.length ≤ 31 ∧ (foldG gs2).length ≤ 63 ∧ s2.dirty.length ≤ 63 ∧ s2.since.length ≤ 63 := hl1
      have hll0 : s2.dev.log.length + s2.dev.steps.length ≤ 620000 := I1.loglen (by omega)
      have hbounds : (checkD (srtL s2.since) s2.dev).1.writes.length ≤ 1000 ∧ (checkD (srtL s2.since) s2.dev).1.steps.length ≤ 1 ∧ (checkD (srtL s2.since) s2.dev).1.log.length ≤ 620000 := by
        have hsl := srtL_len s2.since
        rcases check_cut (d := s2.dev) I1.wr I1.st hcut with ⟨k, x1, _, x3, x4⟩ | ⟨x1, _, x3, x4⟩
        · rw [x1, x3, x4, List.length_take]
          refine ⟨by omega, by decide, by omega⟩
        · rw [x1, x3]
          refine ⟨by decide, ?_, by omega⟩
          rcases x4 with x4 | x4 <;> rw [x4] <;> decide
      obtain ⟨hwl, hsl, hll⟩ := hbounds
      generalize (checkD (srtL s2.since) s2.dev).1 = d at W1 hdn2 hup hkey hwl hsl hll hb1
      have DD : DevAt T.C_Device HH P.dev g' d := W1.tl.hd
      walk_at "nrm"
      refine q_setg ?_
      refine ⟨_, rfl, P.dev, g'.dx, devF g' d, rfl, DD.at_, lk_no (by decide +kernel), P.dev, g', d, rfl, DD, ?_⟩
      refine ⟨_, rfl, d.done, s.dev.done, rfl, rfl, ?_⟩
      have hus : d.done - s.dev.done = pw := by
        rw [hdn2]
        show s.dev.done + pw - s.dev.done = pw
        omega
      have hdn : s2.dev.done = s.dev.done + 5 + 260 * (m : Int) := hdn
      have hge : ¬ pw < 5 + 260 * (m : Int) := by omega
      walk_at "nrm"
      rw [hus]
      walk_at "nrm"
      refine ⟨_, rfl, rfl, _, rfl, ?_⟩
      walk_at "no"
      refine ⟨_, rfl, by show 2 ≤ sizeLine; decide, fun tq htq => ?_⟩
      have W2 := W1.same (same_upd (o := .tup [.str "cut", .str "late"]) htq)
      refine ⟨tq, _, rfl, .inr (SqT.of upd_same), rfl, rfl, _, rfl, ?_⟩
      walk_at "nrm"
      rw [if_pos (by decide +kernel)]
      refine ⟨_, rfl, rfl, _, rfl, ?_⟩
      walk_at "nrm"
      rw [if_neg (show ¬ decide (optV (some pw) = V.non) = true from fun z => by cases of_decide_eq_true z)]
      refine ⟨_, rfl, _, rfl, rfl, _, rfl, ?_⟩
      rw [show (!decide (V.int pw = optV (some pw))) = false by rw [decide_eq_true (show V.int pw = optV (some pw) from rfl)]; rfl]
      walk_at "nrm"
      rw [if_neg Bool.false_ne_true]
      refine st_next ?_
      walk_at "nrm"
      refine ⟨_, rfl, rfl, _, rfl, ?_⟩
      walk_at "nrm"
      rw [if_pos (by decide +kernel)]
      refine ⟨_, rfl, _, rfl, 260, _, rfl, rfl, .inl ⟨by decide, by decide⟩, 5, _, rfl, rfl, _, _, rfl, rfl, _, rfl, ?_⟩
      walk_at "nrm"
      rw [if_neg (show ¬ decide (pw < 5 + 260 * ((m : Nat) : Int)) = true from fun z => hge (of_decide_eq_true z))]
      refine ⟨_, rfl, rfl, _, rfl, ?_⟩
      walk_at "nrm"
      rw [if_pos (show (!decide (optV (some pw) = V.non)) = true by rw [decide_eq_false (fun z => by cases z)]; rfl)]
      refine ⟨_, rfl, _, rfl, pw, pw, rfl, rfl, _, rfl, ?_⟩
      walk_at "nrm"
      rw [if_neg (show ¬ decide (pw < pw) = true from fun z => absurd (of_decide_eq_true z) (Int.lt_irrefl _))]
      refine st_next ?_
      walk_at "nrm"
      refine ⟨_, rfl, rfl, _, rfl, ?_⟩
      walk_at "nrm"
      rw [if_pos (by decide +kernel)]
      refine ⟨_, rfl, ?_⟩
      walk_at "nrm"
      refine q_cut (fun σ' H' => MB K T.C_Device T.C_Pager H st sc ns P.dev i σ' H') ?_ ?_
      · refine ⟨_, rfl, rfl, _, rfl, ?_⟩
        walk_at "nrm"
        rw [if_pos (by decide +kernel)]
        walk_at "nrm"
        rw [if_pos rfl]
        refine q_setg ?_
        refine ⟨_, rfl, _, rfl, _, rfl, st, sc, H, ns, P.dev, g', d, _, rfl, W2, hwl, by omega, by omega, by omega, fun fs k g2 HI WI hk hb2 => ?_⟩
        walk_at "nrm"
        refine q_cut (fun σ' H' => MC K T.C_Device H st sc ns P.dev i σ' H') ?_ ?_
        · refine ⟨_, rfl, rfl, _, rfl, ?_⟩
          walk_at "nrm"
          rw [if_neg (by decide +kernel)]
          rw [if_neg Bool.false_ne_true]
          refine st_next ?_
          exact ⟨_, g2, _, s2.cs.read, F', md2, k1, Kp1, _, _, _, _, _, _, _, _, _, rfl, WI, hkey fs k, I1.cl, by rw [hcs]; exact hK1, by omega⟩
        · skip
          rintro σ' HX ⟨c3, g, d, C, F, md, k0, Kp, c5, c6, c7, c8, c9, c10, c11, c12, rs, rfl, W, VD, PC, hK, hb⟩
          refine q_setg ?_
          refine ⟨_, rfl, _, rfl, _, rfl, st, sc, H, ns, P.dev, g, d, C, _, rfl, W, VD, PC, by omega, fun pg P' s' HY W' I' hkr hcr hks eP hb' => ?_⟩
          walk_at "nrm"
          have hK' := hkr k0 Kp hK
          have D' : PagAt T.C_Device T.C_Pager HY pg P' s' := W'.tl.hd
          refine ⟨_, rfl, rfl, _, rfl, ?_⟩
          walk_at "nrm"
          rw [if_neg (show ¬ decide (V.ref pg = V.non) = true from fun z => by cases of_decide_eq_true z)]
          refine ⟨_, rfl, pg, P', s', rfl, D', fun n => (I'.rd n).1, fun p F2 c2 k2 Kp2 HZ sZ sF2 np ep Dm ek eKp => ?_⟩
          have WZ := W'.same sZ
          obtain ⟨ck, eck, Dk⟩ := WZ.tl.tl.hd
          have ek' : k2 = k0 := by rw [ek]; exact hK'.f3
          subst ek'
          refine ⟨_, rfl, p, md, c2, ck, rfl, rfl, ep, eck, by rw [Dm.len, Dk.len], Dm.ne K Dk (fun n a b => by rw [eKp n a b]; exact hK'.pg n a b) sF2 WZ.tl.tl.tl.hd, _, rfl, ?_⟩
          walk_at "nrm"
          rw [if_neg Bool.false_ne_true]
          refine st_next ?_
          exact ⟨pg, P', s', F, md, k2, Kp, [], 0, c5, c6, c7, c8, c9, c10, c11, c12, rs, rfl, WZ, ⟨by rw [lim_none I'.al]; exact I', hK', hK.congr hcr, hks⟩, by omega, eP, by omega⟩
      · skip
        rintro σ' HX ⟨pg, P2, s, F, md, k0, Kp, gs, t, c5, c6, c7, c8, c9, c10, c11, c12, rs, rfl, W, L, ht, eP, hb⟩
        have D : PagAt T.C_Device T.C_Pager HX pg P2 s := W.tl.hd
        rw [← eP]
        walk_at "nrm"
        refine ⟨_, rfl, P2.dev, P2.g.dx, devF P2.g s.dev, rfl, D.dev.at_, lk_no (by decide +kernel), P2.dev, P2.g, s.dev, none, rfl, D.dev, fun HF DF hF => ?_⟩
        have fF : Nv.Fr P2.dev P2.g HX P2.g HF := ⟨fun b o n e => by rw [hF b (fun z => n (.inl z))]; exact e, fun _ h => .inl h⟩
        have DP := D.devStep (d' := s.dev.lim none) DF fF
        have W := W.on2 (r' := rgPg T.C_Device T.C_Pager pg P2 (s.lim none)) (Frm.dev (pg := pg) fF) DP
        have hb : bnd P2.g (s.lim none).dev ≤ 1000 * i + 500 := hb
        generalize s.lim none = s at W L hb
        walk_at "nrm"
        have D' : PagAt T.C_Device T.C_Pager HF pg P2 s := W.tl.hd
        refine ⟨_, rfl, pg, P2, s, rfl, D', fun n => (L.inb.rd n).1, fun p F2 c2 k2 Kp2 HZ sZ sF2 np ep Dm ek eKp => ?_⟩
        have WZ := W.same sZ
        obtain ⟨ck, eck, Dk⟩ := WZ.tl.tl.hd
        have ek' : k2 = k0 := by rw [ek]; exact L.rd.f3
        subst ek'
        refine ⟨_, rfl, p, md, c2, ck, rfl, rfl, ep, eck, by rw [Dm.len, Dk.len], Dm.ne K Dk (fun n a b => by rw [eKp n a b]; exact L.rd.pg n a b) sF2 WZ.tl.tl.tl.hd, _, rfl, ?_⟩
        walk_at "nrm"
        rw [if_neg Bool.false_ne_true]
        refine st_next ?_
        walk_at "nrm"
        refine ⟨_, rfl, _, rfl, st, sc, 2, H, ns, rfl, by decide, by decide, WZ.hd, fun u HU u0 u2 hBU DU => ?_⟩
        have WU := WZ.on (r' := rgDr K H st sc ns) (Frm.draw hBU) DU
        refine ⟨rfl, _, rfl, ?_⟩
        walk_at "nrm"
        by_cases cu : u = 1
        · rw [if_pos (show decide (V.int u = V.int 1) = true from decide_eq_true (congrArg V.int cu))]
          refine q_setg ?_
          refine ⟨_, rfl, ?_⟩
          intro pg2 px np nx2 ne2
          have s3 : Same HU (upd (upd HU px (.own pg2)) pg2 (.ins T.C_Pager px [])) := (same_upd nx2).trans (same_upd (by rw [upd_ne ne2.symm]; exact np))
          have DU2 : PagAt T.C_Device T.C_Pager HU pg P2 s := WU.tl.hd
          have WD := (WU.swap.weak (r' := rgDv T.C_Device P2.dev P2.g s.dev) (fun b h => .inr (.inr (.inr (.inr h)))) (fun D => D.dev))
          have WI := WD.ini (pg := pg2) (o := .ins T.C_Pager px []) s3 np upd_same
          have I := L.inb
          have hz := inB_len I (by omega)
          have hll := I.loglen (by omega)
          refine ⟨pg2, px, P2.dev, P2.g, s.dev, gs, rfl, upd_same, WI.hd.2, fun h => DU2.dev.not_own np h, I.pos, by omega, I.grps, by omega, ?_, ?_, fun _ hf => ?_, fun _ P3 H3 D3 f3 e3 b3 => ⟨rfl, ?_⟩⟩
          · show (foldG gs).length < 64
            omega
          · intro _; show ((foundB s.dev gs).read 0).length = 256
            rw [I.found_read]
            exact (I.cl 0).1
          · rw [checkD_free I.al] at hf
            cases hf
          have W3 := (WI.on (r' := rgPg T.C_Device T.C_Pager pg2 P3 (PS.opened s.dev gs)) f3 D3).swap
          obtain ⟨I3, k3, v3, ks3, lg3, st3, wr3⟩ := dv_open (dv_of I (by omega)) I.cl (rec_of I) 0 L.cl
          have b3 : bnd P3.g (PS.opened s.dev gs).dev ≤ bnd P2.g s.dev + (foldG gs).length := b3
          have ks3' : (PS.opened s.dev gs).dirty.map (·.1) = [] ∨ (PS.opened s.dev gs).dirty.map (·.1) = [0] := by
            rw [ks3]
            split
            · exact .inl rfl
            · exact .inr rfl
          have hcl3 := L.cl.congr v3
          rw [← e3]
          clear ks3 v3
          generalize PS.opened s.dev gs = s5 at W3 I3 k3 lg3 st3 wr3 b3 ks3' hcl3
          walk_at "nrm"
          have D5 : PagAt T.C_Device T.C_Pager H3 pg2 P3 s5 := W3.tl.hd
          refine ⟨_, rfl, P3.dev, P3.g.dx, devF P3.g s5.dev, rfl, D5.dev.at_, lk_no (by decide +kernel), P3.dev, P3.g, s5.dev, rfl, D5.dev, by rw [lg3, st3]; decide, fun p6 H6 s6 np6 ep6 => ?_⟩
          rw [show s5.dev.logNow = [] by unfold DS.logNow; rw [lg3, st3]; rfl] at ep6
          refine ⟨Nat.zero_le _, fun l7 hl7 => ?_⟩
          have s7 := same_upd (o := .lst ([] : List V)) hl7
          refine neL_ints (xs := []) (ys := []) (SqL.of (s7 _ _ ep6)) (SqL.of upd_same) ⟨_, rfl, ?_⟩
          rw [decide_eq_true rfl]
          walk_at "nos"
          have W7 := (W3.same s6).same s7
          generalize upd H6 l7 (.lst []) = H7 at W7
          have D7 : PagAt T.C_Device T.C_Pager H7 pg2 P3 s5 := W7.tl.hd
          refine ⟨_, rfl, P3.dev, P3.g.dx, devF P3.g s5.dev, rfl, D7.dev.at_, lk_no (by decide +kernel), P3.dev, P3.g, s5.dev, rfl, D7.dev, fun p24 n24 => ?_⟩
          rw [wr3, st3]
          have s24 := same_upd (o := .tup [V.int ((([] : PL).length : Nat) : Int), V.int ((([] : List (Option Int)).length : Nat) : Int)]) n24
          refine ⟨by show 2 ≤ sizeLine; decide, fun t25 n25 => ?_⟩
          have s25 := same_upd (o := .tup [V.int 0, V.int 0]) n25
          refine neT_ints (xs := [0, 0]) (ys := [0, 0]) (SqT.of (s25 _ _ upd_same)) (SqT.of upd_same) ⟨_, rfl, ?_⟩
          rw [decide_eq_true rfl]
          walk_at "nos"
          have W8 := (W7.same s24).same s25
          have D8 : PagAt T.C_Device T.C_Pager _ pg2 P3 s5 := W8.tl.hd
          refine ⟨_, rfl, pg2, P3, s5, rfl, D8, fun n => (I3.rd n).1, fun p9 F9 c9' k9 Kp9 H9 s9 sF9 np9 ep9 Dm9 ek9 eKp9 => ?_⟩
          have W9 := W8.same s9
          obtain ⟨cm, ecm, Dkm⟩ := W9.tl.tl.hd
          have ek9' : k9 = k2 := by rw [ek9]; exact k3.f3
          subst ek9'
          refine ⟨_, rfl, p9, md, c9', cm, rfl, rfl, ep9, ecm, by rw [Dm9.len, Dkm.len], Dm9.ne K Dkm (fun n a b => by rw [eKp9 n a b]; exact k3.pg n a b) sF9 W9.tl.tl.tl.hd, _, rfl, ?_⟩
          walk_at "nrm"
          rw [if_neg Bool.false_ne_true]
          refine st_next ?_
          exact ⟨pg2, P3, s5, F, md, k9, Kp, [], 0, c5, c6, c7, c8, c9, c10, c11, c12, rs, rfl, W9, ⟨I3, k3, hcl3, ks3'⟩, by omega, rfl, by omega⟩
        · rw [if_neg (show ¬ decide (V.int u = V.int 1) = true from fun z => cu (V.int.inj (of_decide_eq_true z)))]
          refine st_next ?_
          exact ⟨pg, P2, s, F, md, k2, Kp, gs, t, c5, c6, c7, c8, c9, c10, c11, c12, rs, rfl, WU, L, ht, rfl, by omega⟩
    · intro s3 F' k1 Kp1 P' tp m gs2 HH W1 I1 hd1 hK1 hL1 hdn hst e1 hb1 sF
      refine ⟨tp, _, rfl, SqT.of W1.obj, rfl, ?_⟩
      refine ⟨_, _, rfl, _, _, rfl, rfl, ?_⟩
      have W1 := W1.tl
      have hcs : s3.cs.read = s3.read := funext fun n => by
        unfold PS.read PS.cs
        rw [hd1]
      have hll0 : s3.dev.log.length + s3.dev.steps.length ≤ 620000 := I1.loglen (by omega)
      have DD : PagAt T.C_Device T.C_Pager HH pg P' s3 := W1.tl.hd
      rw [← e1]
      walk_at "nrm"
      refine q_setg ?_
      refine ⟨_, rfl, P'.dev, P'.g.dx, devF P'.g s3.dev, rfl, DD.dev.at_, lk_no (by decide +kernel), P'.dev, P'.g, s3.dev, rfl, DD.dev, ?_⟩
      refine ⟨_, rfl, s3.dev.done, s.dev.done, rfl, rfl, ?_⟩
      obtain ⟨us, hus⟩ : ∃ us, s3.dev.done - s.dev.done = us := ⟨_, rfl⟩
      have hdn : s.dev.done + 5 + 260 * (m : Int) ≤ s3.dev.done := hdn
      have hge : ¬ us < 5 + 260 * (m : Int) := by omega
      walk_at "nrm"
      rw [hus]
      walk_at "nrm"
      refine ⟨_, rfl, rfl, _, rfl, ?_⟩
      walk_at "no"
      refine ⟨_, rfl, by show 2 ≤ sizeLine; decide, fun tq htq => ?_⟩
      have W2 := W1.same (same_upd (o := .tup [.str "cut", .str "late"]) htq)
      refine ⟨tq, _, rfl, .inr (SqT.of upd_same), rfl, rfl, _, rfl, ?_⟩
      walk_at "nrm"
      rw [if_neg (by decide +kernel)]
      rw [if_neg Bool.false_ne_true]
      refine st_next ?_
      walk_at "nrm"
      refine ⟨_, rfl, rfl, _, rfl, ?_⟩
      walk_at "nrm"
      rw [if_pos (by decide +kernel)]
      refine ⟨_, rfl, _, rfl, 260, _, rfl, rfl, .inl ⟨by decide, by decide⟩, 5, _, rfl, rfl, _, _, rfl, rfl, _, rfl, ?_⟩
      walk_at "nrm"
      rw [if_neg (show ¬ decide (us < 5 + 260 * ((m : Nat) : Int)) = true from fun z => hge (of_decide_eq_true z))]
      refine ⟨_, rfl, rfl, _, rfl, ?_⟩
      walk_at "nrm"
      have conv : ∀ (σ : L2.St) (HX : Hp) (F : Bool → Hp → Prop), σ[11]? = some (some (.int us)) → σ[6]? = some (some (optV power)) → F false HX → (if (!decide (optV power = V.non)) = true then tTest (tOp (rI0 fun i j => V.bl (decide (j < i))) (tVar 11) (tVar 6)) σ HX F else F false HX) := by
        intro σ HX F h11 h6 hF
        cases power with
        | none =>
          rw [if_neg (show ¬ (!decide (optV none = V.non)) = true by decide)]
          exact hF
        | some pw =>
          rw [if_pos (show (!decide (optV (some pw) = V.non)) = true by rw [decide_eq_false (fun z => by cases z)]; rfl)]
          refine ⟨_, h11, _, h6, us, pw, rfl, rfl, _, rfl, ?_⟩
          have hle : s3.dev.done ≤ s.dev.done + (some pw).getD 0 := lim_le hL1 (hst (fun z => by cases z))
          have hle : s3.dev.done ≤ s.dev.done + pw := hle
          rw [decide_eq_false (show ¬ pw < us by omega)]
          exact hF
      refine conv _ _ _ rfl rfl ?_
      walk_at "nrm"
      rw [if_neg Bool.false_ne_true]
      refine st_next ?_
      walk_at "nrm"
      refine ⟨_, rfl, rfl, _, rfl, ?_⟩
      walk_at "nrm"
      rw [if_pos (by decide +kernel)]
      refine ⟨_, rfl, ?_⟩
      walk_at "nrm"
      refine q_cut (fun σ' H' => MB K T.C_Device T.C_Pager H st sc ns P'.dev i σ' H') ?_ ?_
      · refine ⟨_, rfl, rfl, _, rfl, ?_⟩
        walk_at "nrm"
        rw [show (!decide (V.str (Str.ofString "stands") = V.str (Str.ofString "stands"))) = false by rw [decide_eq_true rfl]; rfl]
        rw [if_neg Bool.false_ne_true]
        refine ⟨_, rfl, _, rfl, st, sc, 4, H, ns, rfl, by decide, by decide, W2.hd, fun u HU u0 u4 hBU DU => ?_⟩
        have WU := W2.on (r' := rgDr K H st sc ns) (Frm.draw hBU) DU
        refine ⟨rfl, _, rfl, ?_⟩
        walk_at "nrm"
        by_cases cu : u = 1
        · rw [if_pos (show decide (V.int u = V.int 1) = true from decide_eq_true (congrArg V.int cu))]
          have WD := (WU.swap.weak (r' := rgDv T.C_Device P'.dev P'.g s3.dev) (fun b h => .inr (.inr (.inr (.inr h)))) (fun D => D.dev)).swap
          have hw0 : s3.dev.writes = [] := I1.wr
          have hs0 : s3.dev.steps = [] := I1.st
          refine q_setg ?_
          refine ⟨_, rfl, _, rfl, _, rfl, st, sc, H, ns, P'.dev, P'.g, s3.dev, _, rfl, WD, by rw [hw0]; decide, by rw [hs0]; decide, by omega, by omega, fun fs k g2 HI WI hk hb2 => ?_⟩
          walk_at "nrm"
          refine q_cut (fun σ' H' => MC K T.C_Device H st sc ns P'.dev i σ' H') ?_ ?_
          · refine ⟨_, rfl, rfl, _, rfl, ?_⟩
            walk_at "nrm"
            rw [if_neg (by decide +kernel)]
            rw [if_neg Bool.false_ne_true]
            refine st_next ?_
            exact ⟨_, g2, _, s3.cs.read, F', md2, k1, Kp1, _, _, _, _, _, _, _, _, _, rfl, WI, dv_stands I1 (by omega) fs k, I1.cl, by rw [hcs]; exact hK1, by omega⟩
          · skip
            rintro σ' HX ⟨c3, g, d, C, F, md, k0, Kp, c5, c6, c7, c8, c9, c10, c11, c12, rs, rfl, W, VD, PC, hK, hb⟩
            refine q_setg ?_
            refine ⟨_, rfl, _, rfl, _, rfl, st, sc, H, ns, P'.dev, g, d, C, _, rfl, W, VD, PC, by omega, fun pg P' s' HY W' I' hkr hcr hks eP hb' => ?_⟩
            walk_at "nrm"
            have hK' := hkr k0 Kp hK
            have D' : PagAt T.C_Device T.C_Pager HY pg P' s' := W'.tl.hd
            refine ⟨_, rfl, rfl, _, rfl, ?_⟩
            walk_at "nrm"
            rw [if_neg (show ¬ decide (V.ref pg = V.non) = true from fun z => by cases of_decide_eq_true z)]
            refine ⟨_, rfl, pg, P', s', rfl, D', fun n => (I'.rd n).1, fun p F2 c2 k2 Kp2 HZ sZ sF2 np ep Dm ek eKp => ?_⟩
            have WZ := W'.same sZ
            obtain ⟨ck, eck, Dk⟩ := WZ.tl.tl.hd
            have ek' : k2 = k0 := by rw [ek]; exact hK'.f3
            subst ek'
            refine ⟨_, rfl, p, md, c2, ck, rfl, rfl, ep, eck, by rw [Dm.len, Dk.len], Dm.ne K Dk (fun n a b => by rw [eKp n a b]; exact hK'.pg n a b) sF2 WZ.tl.tl.tl.hd, _, rfl, ?_⟩
            walk_at "nrm"
            rw [if_neg Bool.false_ne_true]
            refine st_next ?_
            exact ⟨pg, P', s', F, md, k2, Kp, [], 0, c5, c6, c7, c8, c9, c10, c11, c12, rs, rfl, WZ, ⟨by rw [lim_none I'.al]; exact I', hK', hK.congr hcr, hks⟩, by omega, eP, by omega⟩
        · rw [if_neg (show ¬ decide (V.int u = V.int 1) = true from fun z => cu (V.int.inj (of_decide_eq_true z)))]
          refine st_next ?_
          exact ⟨pg, P', s3, F', md2, k1, Kp1, gs2, t + 5, _, _, _, _, _, _, _, _, _, rfl, WU, ⟨I1, hK1, (by rw [show (s3.lim none).cs.read = s3.cs.read from rfl, hcs]; exact hK1), .inl (by rw [show (s3.lim none).dirty = s3.dirty from rfl, hd1]; rfl)⟩, by omega, rfl, by omega⟩
      · skip
        rintro σ' HX ⟨pg, P2, s, F, md, k0, Kp, gs, t, c5, c6, c7, c8, c9, c10, c11, c12, rs, rfl, W, L, ht, eP, hb⟩
        have D : PagAt T.C_Device T.C_Pager HX pg P2 s := W.tl.hd
        rw [← eP]
        walk_at "nrm"
        refine ⟨_, rfl, P2.dev, P2.g.dx, devF P2.g s.dev, rfl, D.dev.at_, lk_no (by decide +kernel), P2.dev, P2.g, s.dev, none, rfl, D.dev, fun HF DF hF => ?_⟩
        have fF : Nv.Fr P2.dev P2.g HX P2.g HF := ⟨fun b o n e => by rw [hF b (fun z => n (.inl z))]; exact e, fun _ h => .inl h⟩
        have DP := D.devStep (d' := s.dev.lim none) DF fF
        have W := W.on2 (r' := rgPg T.C_Device T.C_Pager pg P2 (s.lim none)) (Frm.dev (pg := pg) fF) DP
        have hb : bnd P2.g (s.lim none).dev ≤ 1000 * i + 500 := hb
        generalize s.lim none = s at W L hb
        walk_at "nrm"
        have D' : PagAt T.C_Device T.C_Pager HF pg P2 s := W.tl.hd
        refine ⟨_, rfl, pg, P2, s, rfl, D', fun n => (L.inb.rd n).1, fun p F2 c2 k2 Kp2 HZ sZ sF2 np ep Dm ek eKp => ?_⟩
        have WZ := W.same sZ
        obtain ⟨ck, eck, Dk⟩ := WZ.tl.tl.hd
        have ek' : k2 = k0 := by rw [ek]; exact L.rd.f3
        subst ek'
        refine ⟨_, rfl, p, md, c2, ck, rfl, rfl, ep, eck, by rw [Dm.len, Dk.len], Dm.ne K Dk (fun n a b => by rw [eKp n a b]; exact L.rd.pg n a b) sF2 WZ.tl.tl.tl.hd, _, rfl, ?_⟩
        walk_at "nrm"
        rw [if_neg Bool.false_ne_true]
        refine st_next ?_
        walk_at "nrm"
        refine ⟨_, rfl, _, rfl, st, sc, 2, H, ns, rfl, by decide, by decide, WZ.hd, fun u HU u0 u2 hBU DU => ?_⟩
        have WU := WZ.on (r' := rgDr K H st sc ns) (Frm.draw hBU) DU
        refine ⟨rfl, _, rfl, ?_⟩
        walk_at "nrm"
        by_cases cu : u = 1
        · rw [if_pos (show decide (V.int u = V.int 1) = true from decide_eq_true (congrArg V.int cu))]
          refine q_setg ?_
          refine ⟨_, rfl, ?_⟩
          intro pg2 px np nx2 ne2
          have s3 : Same HU (upd (upd HU px (.own pg2)) pg2 (.ins T.C_Pager px [])) := (same_upd nx2).trans (same_upd (by rw [upd_ne ne2.symm]; exact np))
          have DU2 : PagAt T.C_Device T.C_Pager HU pg P2 s := WU.tl.hd
          have WD := (WU.swap.weak (r' := rgDv T.C_Device P2.dev P2.g s.dev) (fun b h => .inr (.inr (.inr (.inr h)))) (fun D => D.dev))
          have WI := WD.ini (pg := pg2) (o := .ins T.C_Pager px []) s3 np upd_same
          have I := L.inb
          have hz := inB_len I (by omega)
          have hll := I.loglen (by omega)
          refine ⟨pg2, px, P2.dev, P2.g, s.dev, gs, rfl, upd_same, WI.hd.2, fun h => DU2.dev.not_own np h, I.pos, by omega, I.grps, by omega, ?_, ?_, fun _ hf => ?_, fun _ P3 H3 D3 f3 e3 b3 => ⟨rfl, ?_⟩⟩
          · show (foldG gs).length < 64
            omega
          · intro _; show ((foundB s.dev gs).read 0).length = 256
            rw [I.found_read]
            exact (I.cl 0).1
          · rw [checkD_free I.al] at hf
            cases hf
          have W3 := (WI.on (r' := rgPg T.C_Device T.C_Pager pg2 P3 (PS.opened s.dev gs)) f3 D3).swap
          obtain ⟨I3, k3, v3, ks3, lg3, st3, wr3⟩ := dv_open (dv_of I (by omega)) I.cl (rec_of I) 0 L.cl
          have b3 : bnd P3.g (PS.opened s.dev gs).dev ≤ bnd P2.g s.dev + (foldG gs).length := b3
          have ks3' : (PS.opened s.dev gs).dirty.map (·.1) = [] ∨ (PS.opened s.dev gs).dirty.map (·.1) = [0] := by
            rw [ks3]
            split
            · exact .inl rfl
            · exact .inr rfl
          have hcl3 := L.cl.congr v3
          rw [← e3]
          clear ks3 v3
          generalize PS.opened s.dev gs = s5 at W3 I3 k3 lg3 st3 wr3 b3 ks3' hcl3
          walk_at "nrm"
          have D5 : PagAt T.C_Device T.C_Pager H3 pg2 P3 s5 := W3.tl.hd
          refine ⟨_, rfl, P3.dev, P3.g.dx, devF P3.g s5.dev, rfl, D5.dev.at_, lk_no (by decide +kernel), P3.dev, P3.g, s5.dev, rfl, D5.dev, by rw [lg3, st3]; decide, fun p6 H6 s6 np6 ep6 => ?_⟩
          rw [show s5.dev.logNow = [] by unfold DS.logNow; rw [lg3, st3]; rfl] at ep6
          refine ⟨Nat.zero_le _, fun l7 hl7 => ?_⟩
          have s7 := same_upd (o := .lst ([] : List V)) hl7
          refine neL_ints (xs := []) (ys := []) (SqL.of (s7 _ _ ep6)) (SqL.of upd_same) ⟨_, rfl, ?_⟩
          rw [decide_eq_true rfl]
          walk_at "nos"
          have W7 := (W3.same s6).same s7
          generalize upd H6 l7 (.lst []) = H7 at W7
          have D7 : PagAt T.C_Device T.C_Pager H7 pg2 P3 s5 := W7.tl.hd
          refine ⟨_, rfl, P3.dev, P3.g.dx, devF P3.g s5.dev, rfl, D7.dev.at_, lk_no (by decide +kernel), P3.dev, P3.g, s5.dev, rfl, D7.dev, fun p24 n24 => ?_⟩
          rw [wr3, st3]
          have s24 := same_upd (o := .tup [V.int ((([] : PL).length : Nat) : Int), V.int ((([] : List (Option Int)).length : Nat) : Int)]) n24
          refine ⟨by show 2 ≤ sizeLine; decide, fun t25 n25 => ?_⟩
          have s25 := same_upd (o := .tup [V.int 0, V.int 0]) n25
          refine neT_ints (xs := [0, 0]) (ys := [0, 0]) (SqT.of (s25 _ _ upd_same)) (SqT.of upd_same) ⟨_, rfl, ?_⟩
          rw [decide_eq_true rfl]
          walk_at "nos"
          have W8 := (W7.same s24).same s25
          have D8 : PagAt T.C_Device T.C_Pager _ pg2 P3 s5 := W8.tl.hd
          refine ⟨_, rfl, pg2, P3, s5, rfl, D8, fun n => (I3.rd n).1, fun p9 F9 c9' k9 Kp9 H9 s9 sF9 np9 ep9 Dm9 ek9 eKp9 => ?_⟩
          have W9 := W8.same s9
          obtain ⟨cm, ecm, Dkm⟩ := W9.tl.tl.hd
          have ek9' : k9 = k2 := by rw [ek9]; exact k3.f3
          subst ek9'
          refine ⟨_, rfl, p9, md, c9', cm, rfl, rfl, ep9, ecm, by rw [Dm9.len, Dkm.len], Dm9.ne K Dkm (fun n a b => by rw [eKp9 n a b]; exact k3.pg n a b) sF9 W9.tl.tl.tl.hd, _, rfl, ?_⟩
          walk_at "nrm"
          rw [if_neg Bool.false_ne_true]
          refine st_next ?_
          exact ⟨pg2, P3, s5, F, md, k9, Kp, [], 0, c5, c6, c7, c8, c9, c10, c11, c12, rs, rfl, W9, ⟨I3, k3, hcl3, ks3'⟩, by omega, rfl, by omega⟩
        · rw [if_neg (show ¬ decide (V.int u = V.int 1) = true from fun z => cu (V.int.inj (of_decide_eq_true z)))]
          refine st_next ?_
          exact ⟨pg, P2, s, F, md, k2, Kp, gs, t, c5, c6, c7, c8, c9, c10, c11, c12, rs, rfl, WU, L, ht, rfl, by omega⟩
  · rintro σ' HB ⟨pg, P, s, F, md, k0, Kp, gs, t, c5, c6, c7, c8, c9, c10, c11, c12, rs, rfl, W, L, ht, rfl, hb⟩
    walk_at "nrm"
    exact s_ret val_c (q HB)
end
end K06


namespace K06
open PySem L2 Nv
theorem all_mk {K : PySem.W.Frag} {h : Heap} {mg : Str → Option Value} (X : K.In h) (G : h.Ns mainGlobals mg)
    {f0 : Addr} {od0 an0 : Option Addr} {sl0 : Array (Option Value)} {oc0 kV0 dc0 pm0 cd0 ct0 : Value} {f1 : Addr} {od1 an1 : Option Addr} {sl1 : Array (Option Value)} {oc1 kV1 dc1 pm1 cd1 ct1 : Value} {f2 : Addr} {od2 an2 : Option Addr} {sl2 : Array (Option Value)} {oc2 kV2 dc2 pm2 cd2 ct2 : Value} {f3 : Addr} {od3 an3 : Option Addr} {sl3 : Array (Option Value)} {oc3 kV3 dc3 pm3 cd3 ct3 : Value} {f4 : Addr} {od4 an4 : Option Addr} {sl4 : Array (Option Value)} {oc4 kV4 dc4 pm4 cd4 ct4 : Value} {f5 : Addr} {od5 an5 : Option Addr} {sl5 : Array (Option Value)} {oc5 kV5 dc5 pm5 cd5 ct5 : Value} {f6 : Addr} {od6 an6 : Option Addr} {sl6 : Array (Option Value)} {oc6 kV6 dc6 pm6 cd6 ct6 : Value} {f7 : Addr} {od7 an7 : Option Addr} {sl7 : Array (Option Value)} {oc7 kV7 dc7 pm7 cd7 ct7 : Value} {f8 : Addr} {od8 an8 : Option Addr} {sl8 : Array (Option Value)} {oc8 kV8 dc8 pm8 cd8 ct8 : Value} {f9 : Addr} {od9 an9 : Option Addr} {sl9 : Array (Option Value)} {oc9 kV9 dc9 pm9 cd9 ct9 : Value} {f10 : Addr} {od10 an10 : Option Addr} {sl10 : Array (Option Value)} {oc10 kV10 dc10 pm10 cd10 ct10 : Value} {f11 : Addr} {od11 an11 : Option Addr} {sl11 : Array (Option Value)} {oc11 kV11 dc11 pm11 cd11 ct11 : Value} {f12 : Addr} {od12 an12 : Option Addr} {sl12 : Array (Option Value)} {oc12 kV12 dc12 pm12 cd12 ct12 : Value} {f13 : Addr} {od13 an13 : Option Addr} {sl13 : Array (Option Value)} {oc13 kV13 dc13 pm13 cd13 ct13 : Value} {f14 : Addr} {od14 an14 : Option Addr} {sl14 : Array (Option Value)} {oc14 kV14 dc14 pm14 cd14 ct14 : Value} {f15 : Addr} {od15 an15 : Option Addr} {sl15 : Array (Option Value)} {oc15 kV15 dc15 pm15 cd15 ct15 : Value} {f16 : Addr} {od16 an16 : Option Addr} {sl16 : Array (Option Value)} {oc16 kV16 dc16 pm16 cd16 ct16 : Value} {f17 : Addr} {od17 an17 : Option Addr} {sl17 : Array (Option Value)} {oc17 kV17 dc17 pm17 cd17 ct17 : Value} {f18 : Addr} {od18 an18 : Option Addr} {sl18 : Array (Option Value)} {oc18 kV18 dc18 pm18 cd18 ct18 : Value} {f19 : Addr} {od19 an19 : Option Addr} {sl19 : Array (Option Value)} {oc19 kV19 dc19 pm19 cd19 ct19 : Value} {f20 : Addr} {od20 an20 : Option Addr} {sl20 : Array (Option Value)} {oc20 kV20 dc20 pm20 cd20 ct20 : Value} {f21 : Addr} {od21 an21 : Option Addr} {sl21 : Array (Option Value)} {oc21 kV21 dc21 pm21 cd21 ct21 : Value} {f22 : Addr} {od22 an22 : Option Addr} {sl22 : Array (Option Value)} {oc22 kV22 dc22 pm22 cd22 ct22 : Value} {f23 : Addr} {od23 an23 : Option Addr} {sl23 : Array (Option Value)} {oc23 kV23 dc23 pm23 cd23 ct23 : Value} {f24 : Addr} {od24 an24 : Option Addr} {sl24 : Array (Option Value)} {oc24 kV24 dc24 pm24 cd24 ct24 : Value} {f25 : Addr} {od25 an25 : Option Addr} {sl25 : Array (Option Value)} {oc25 kV25 dc25 pm25 cd25 ct25 : Value} {f26 : Addr} {od26 an26 : Option Addr} {sl26 : Array (Option Value)} {oc26 kV26 dc26 pm26 cd26 ct26 : Value} {f27 : Addr} {od27 an27 : Option Addr} {sl27 : Array (Option Value)} {oc27 kV27 dc27 pm27 cd27 ct27 : Value} {f28 : Addr} {od28 an28 : Option Addr} {sl28 : Array (Option Value)} {oc28 kV28 dc28 pm28 cd28 ct28 : Value} {f29 : Addr} {od29 an29 : Option Addr} {sl29 : Array (Option Value)} {oc29 kV29 dc29 pm29 cd29 ct29 : Value} {f30 : Addr} {od30 an30 : Option Addr} {sl30 : Array (Option Value)} {oc30 kV30 dc30 pm30 cd30 ct30 : Value} {f31 : Addr} {od31 an31 : Option Addr} {sl31 : Array (Option Value)} {oc31 kV31 dc31 pm31 cd31 ct31 : Value} {f32 : Addr} {od32 an32 : Option Addr} {sl32 : Array (Option Value)} {oc32 kV32 dc32 pm32 cd32 ct32 : Value} {f33 : Addr} {od33 an33 : Option Addr} {sl33 : Array (Option Value)} {oc33 kV33 dc33 pm33 cd33 ct33 : Value} {f34 : Addr} {od34 an34 : Option Addr} {sl34 : Array (Option Value)} {oc34 kV34 dc34 pm34 cd34 ct34 : Value} {f35 : Addr} {od35 an35 : Option Addr} {sl35 : Array (Option Value)} {oc35 kV35 dc35 pm35 cd35 ct35 : Value} {f36 : Addr} {od36 an36 : Option Addr} {sl36 : Array (Option Value)} {oc36 kV36 dc36 pm36 cd36 ct36 : Value} {f37 : Addr} {od37 an37 : Option Addr} {sl37 : Array (Option Value)} {oc37 kV37 dc37 pm37 cd37 ct37 : Value} {f38 : Addr} {od38 an38 : Option Addr} {sl38 : Array (Option Value)} {oc38 kV38 dc38 pm38 cd38 ct38 : Value} {f39 : Addr} {od39 an39 : Option Addr} {sl39 : Array (Option Value)} {oc39 kV39 dc39 pm39 cd39 ct39 : Value} {f40 : Addr} {od40 an40 : Option Addr} {sl40 : Array (Option Value)} {oc40 kV40 dc40 pm40 cd40 ct40 : Value} {f41 : Addr} {od41 an41 : Option Addr} {sl41 : Array (Option Value)} {oc41 kV41 dc41 pm41 cd41 ct41 : Value} {f42 : Addr} {od42 an42 : Option Addr} {sl42 : Array (Option Value)} {oc42 kV42 dc42 pm42 cd42 ct42 : Value} {C_VaultError : Addr} {C_PowerCut : Addr} {C_Device : Addr} {C_Pager : Addr} {tPAGE_SIZE : Tok} {tHALF_PAGE : Tok} {tTAKES_EFFECT : Tok} {tFIRST_HALF_TAKES_EFFECT : Tok} {tNUMBER_WIDTH : Tok} {tPAIR_SIZE : Tok} {tHEAD : Tok} {tPAGE_COUNT : Tok}
    (aC_Pager : PySem.W.nsIn K mainGlobals "Pager" = some (some (.ref C_Pager)))
    (aC_Device : PySem.W.nsIn K mainGlobals "Device" = some (some (.ref C_Device)))
    (aC_PowerCut : PySem.W.nsIn K mainGlobals "PowerCut" = some (some (.ref C_PowerCut)))
    (aC_VaultError : PySem.W.nsIn K mainGlobals "VaultError" = some (some (.ref C_VaultError)))
    (a0 : PySem.W.nsIn K mainGlobals "_wall" = some (some (.ref f0)))
    (l0 : K.lookup f0 = some ⟨oc0, od0, .func (PySem.W.fnOf "_wall" "_wall" (defArgs s_wall) (defBody s_wall) (defScope s_wall) .none kV0 dc0 pm0 an0 cd0 ct0), sl0⟩)
    (c0 : PySem.W.codeIn K cd0 "_wall" = true)
    (k0 : PySem.W.keepIn K (.ref f0) = true)
    (a1 : PySem.W.nsIn K mainGlobals "log_after" = some (some (.ref f1)))
    (l1 : K.lookup f1 = some ⟨oc1, od1, .func (PySem.W.fnOf "log_after" "log_after" (defArgs s_log_after) (defBody s_log_after) (defScope s_log_after) .none kV1 dc1 pm1 an1 cd1 ct1), sl1⟩)
    (c1 : PySem.W.codeIn K cd1 "log_after" = true)
    (k1 : PySem.W.keepIn K (.ref f1) = true)
    (a2 : PySem.W.findIn K (.ref C_Device) "__init__" = some (some (.ref f2)))
    (i2 : PySem.W.isFn K (.ref f2) = true)
    (l2 : K.lookup f2 = some ⟨oc2, od2, .func (PySem.W.fnOf "__init__" "Device.__init__" (defArgs s_Device_init) (defBody s_Device_init) (defScope s_Device_init) .none kV2 dc2 pm2 an2 cd2 ct2), sl2⟩)
    (c2 : PySem.W.codeIn K cd2 "Device.__init__" = true)
    (k2 : PySem.W.keepIn K (.ref f2) = true)
    (a3 : PySem.W.findIn K (.ref C_Device) "write_page" = some (some (.ref f3)))
    (i3 : PySem.W.isFn K (.ref f3) = true)
    (l3 : K.lookup f3 = some ⟨oc3, od3, .func (PySem.W.fnOf "write_page" "Device.write_page" (defArgs s_Device_write_page) (defBody s_Device_write_page) (defScope s_Device_write_page) .none kV3 dc3 pm3 an3 cd3 ct3), sl3⟩)
    (c3 : PySem.W.codeIn K cd3 "Device.write_page" = true)
    (k3 : PySem.W.keepIn K (.ref f3) = true)
    (a4 : PySem.W.findIn K (.ref C_Device) "sync_pages" = some (some (.ref f4)))
    (i4 : PySem.W.isFn K (.ref f4) = true)
    (l4 : K.lookup f4 = some ⟨oc4, od4, .func (PySem.W.fnOf "sync_pages" "Device.sync_pages" (defArgs s_Device_sync_pages) (defBody s_Device_sync_pages) (defScope s_Device_sync_pages) .none kV4 dc4 pm4 an4 cd4 ct4), sl4⟩)
    (c4 : PySem.W.codeIn K cd4 "Device.sync_pages" = true)
    (k4 : PySem.W.keepIn K (.ref f4) = true)
    (a5 : PySem.W.findIn K (.ref C_Device) "append" = some (some (.ref f5)))
    (i5 : PySem.W.isFn K (.ref f5) = true)
    (l5 : K.lookup f5 = some ⟨oc5, od5, .func (PySem.W.fnOf "append" "Device.append" (defArgs s_Device_append) (defBody s_Device_append) (defScope s_Device_append) .none kV5 dc5 pm5 an5 cd5 ct5), sl5⟩)
    (c5 : PySem.W.codeIn K cd5 "Device.append" = true)
    (k5 : PySem.W.keepIn K (.ref f5) = true)
    (a6 : PySem.W.findIn K (.ref C_Device) "clear" = some (some (.ref f6)))
    (i6 : PySem.W.isFn K (.ref f6) = true)
    (l6 : K.lookup f6 = some ⟨oc6, od6, .func (PySem.W.fnOf "clear" "Device.clear" (defArgs s_Device_clear) (defBody s_Device_clear) (defScope s_Device_clear) .none kV6 dc6 pm6 an6 cd6 ct6), sl6⟩)
    (c6 : PySem.W.codeIn K cd6 "Device.clear" = true)
    (k6 : PySem.W.keepIn K (.ref f6) = true)
    (a7 : PySem.W.findIn K (.ref C_Device) "sync_log" = some (some (.ref f7)))
    (i7 : PySem.W.isFn K (.ref f7) = true)
    (l7 : K.lookup f7 = some ⟨oc7, od7, .func (PySem.W.fnOf "sync_log" "Device.sync_log" (defArgs s_Device_sync_log) (defBody s_Device_sync_log) (defScope s_Device_sync_log) .none kV7 dc7 pm7 an7 cd7 ct7), sl7⟩)
    (c7 : PySem.W.codeIn K cd7 "Device.sync_log" = true)
    (k7 : PySem.W.keepIn K (.ref f7) = true)
    (a8 : PySem.W.findIn K (.ref C_Device) "page" = some (some (.ref f8)))
    (i8 : PySem.W.isFn K (.ref f8) = true)
    (l8 : K.lookup f8 = some ⟨oc8, od8, .func (PySem.W.fnOf "page" "Device.page" (defArgs s_Device_page) (defBody s_Device_page) (defScope s_Device_page) .none kV8 dc8 pm8 an8 cd8 ct8), sl8⟩)
    (c8 : PySem.W.codeIn K cd8 "Device.page" = true)
    (k8 : PySem.W.keepIn K (.ref f8) = true)
    (a9 : PySem.W.findIn K (.ref C_Device) "log" = some (some (.ref f9)))
    (i9 : PySem.W.isFn K (.ref f9) = true)
    (l9 : K.lookup f9 = some ⟨oc9, od9, .func (PySem.W.fnOf "log" "Device.log" (defArgs s_Device_log) (defBody s_Device_log) (defScope s_Device_log) .none kV9 dc9 pm9 an9 cd9 ct9), sl9⟩)
    (c9 : PySem.W.codeIn K cd9 "Device.log" = true)
    (k9 : PySem.W.keepIn K (.ref f9) = true)
    (a10 : PySem.W.findIn K (.ref C_Device) "limit" = some (some (.ref f10)))
    (i10 : PySem.W.isFn K (.ref f10) = true)
    (l10 : K.lookup f10 = some ⟨oc10, od10, .func (PySem.W.fnOf "limit" "Device.limit" (defArgs s_Device_limit) (defBody s_Device_limit) (defScope s_Device_limit) .none kV10 dc10 pm10 an10 cd10 ct10), sl10⟩)
    (c10 : PySem.W.codeIn K cd10 "Device.limit" = true)
    (k10 : PySem.W.keepIn K (.ref f10) = true)
    (a11 : PySem.W.findIn K (.ref C_Device) "crash" = some (some (.ref f11)))
    (i11 : PySem.W.isFn K (.ref f11) = true)
    (l11 : K.lookup f11 = some ⟨oc11, od11, .func (PySem.W.fnOf "crash" "Device.crash" (defArgs s_Device_crash) (defBody s_Device_crash) (defScope s_Device_crash) .none kV11 dc11 pm11 an11 cd11 ct11), sl11⟩)
    (c11 : PySem.W.codeIn K cd11 "Device.crash" = true)
    (k11 : PySem.W.keepIn K (.ref f11) = true)
    (a12 : PySem.W.findIn K (.ref C_Device) "steps" = some (some (.ref f12)))
    (i12 : PySem.W.isFn K (.ref f12) = true)
    (l12 : K.lookup f12 = some ⟨oc12, od12, .func (PySem.W.fnOf "steps" "Device.steps" (defArgs s_Device_steps) (defBody s_Device_steps) (defScope s_Device_steps) .none kV12 dc12 pm12 an12 cd12 ct12), sl12⟩)
    (c12 : PySem.W.codeIn K cd12 "Device.steps" = true)
    (k12 : PySem.W.keepIn K (.ref f12) = true)
    (a13 : PySem.W.findIn K (.ref C_Device) "pending" = some (some (.ref f13)))
    (i13 : PySem.W.isFn K (.ref f13) = true)
    (l13 : K.lookup f13 = some ⟨oc13, od13, .func (PySem.W.fnOf "pending" "Device.pending" (defArgs s_Device_pending) (defBody s_Device_pending) (defScope s_Device_pending) .none kV13 dc13 pm13 an13 cd13 ct13), sl13⟩)
    (c13 : PySem.W.codeIn K cd13 "Device.pending" = true)
    (k13 : PySem.W.keepIn K (.ref f13) = true)
    (a14 : PySem.W.findIn K (.ref C_Device) "_take_step" = some (some (.ref f14)))
    (i14 : PySem.W.isFn K (.ref f14) = true)
    (l14 : K.lookup f14 = some ⟨oc14, od14, .func (PySem.W.fnOf "_take_step" "Device._take_step" (defArgs s_Device_take_step) (defBody s_Device_take_step) (defScope s_Device_take_step) .none kV14 dc14 pm14 an14 cd14 ct14), sl14⟩)
    (c14 : PySem.W.codeIn K cd14 "Device._take_step" = true)
    (k14 : PySem.W.keepIn K (.ref f14) = true)
    (a15 : PySem.W.findIn K (.ref C_Device) "_durable_page" = some (some (.ref f15)))
    (i15 : PySem.W.isFn K (.ref f15) = true)
    (l15 : K.lookup f15 = some ⟨oc15, od15, .func (PySem.W.fnOf "_durable_page" "Device._durable_page" (defArgs s_Device_durable_page) (defBody s_Device_durable_page) (defScope s_Device_durable_page) .none kV15 dc15 pm15 an15 cd15 ct15), sl15⟩)
    (c15 : PySem.W.codeIn K cd15 "Device._durable_page" = true)
    (k15 : PySem.W.keepIn K (.ref f15) = true)
    (a16 : PySem.W.findIn K (.ref C_Device) "_end_page_write" = some (some (.ref f16)))
    (i16 : PySem.W.isFn K (.ref f16) = true)
    (l16 : K.lookup f16 = some ⟨oc16, od16, .func (PySem.W.fnOf "_end_page_write" "Device._end_page_write" (defArgs s_Device_end_page_write) (defBody s_Device_end_page_write) (defScope s_Device_end_page_write) .none kV16 dc16 pm16 an16 cd16 ct16), sl16⟩)
    (c16 : PySem.W.codeIn K cd16 "Device._end_page_write" = true)
    (k16 : PySem.W.keepIn K (.ref f16) = true)
    (a17 : PySem.W.findIn K (.ref C_Device) "_end_log_steps" = some (some (.ref f17)))
    (i17 : PySem.W.isFn K (.ref f17) = true)
    (l17 : K.lookup f17 = some ⟨oc17, od17, .func (PySem.W.fnOf "_end_log_steps" "Device._end_log_steps" (defArgs s_Device_end_log_steps) (defBody s_Device_end_log_steps) (defScope s_Device_end_log_steps) .none kV17 dc17 pm17 an17 cd17 ct17), sl17⟩)
    (c17 : PySem.W.codeIn K cd17 "Device._end_log_steps" = true)
    (k17 : PySem.W.keepIn K (.ref f17) = true)
    (a18 : PySem.W.nsIn K mainGlobals "write_number" = some (some (.ref f18)))
    (l18 : K.lookup f18 = some ⟨oc18, od18, .func (PySem.W.fnOf "write_number" "write_number" (defArgs s_write_number) (defBody s_write_number) (defScope s_write_number) .none kV18 dc18 pm18 an18 cd18 ct18), sl18⟩)
    (c18 : PySem.W.codeIn K cd18 "write_number" = true)
    (k18 : PySem.W.keepIn K (.ref f18) = true)
    (a19 : PySem.W.nsIn K mainGlobals "read_number" = some (some (.ref f19)))
    (l19 : K.lookup f19 = some ⟨oc19, od19, .func (PySem.W.fnOf "read_number" "read_number" (defArgs s_read_number) (defBody s_read_number) (defScope s_read_number) .none kV19 dc19 pm19 an19 cd19 ct19), sl19⟩)
    (c19 : PySem.W.codeIn K cd19 "read_number" = true)
    (k19 : PySem.W.keepIn K (.ref f19) = true)
    (a20 : PySem.W.nsIn K mainGlobals "write_group" = some (some (.ref f20)))
    (l20 : K.lookup f20 = some ⟨oc20, od20, .func (PySem.W.fnOf "write_group" "write_group" (defArgs s_write_group) (defBody s_write_group) (defScope s_write_group) .none kV20 dc20 pm20 an20 cd20 ct20), sl20⟩)
    (c20 : PySem.W.codeIn K cd20 "write_group" = true)
    (k20 : PySem.W.keepIn K (.ref f20) = true)
    (a21 : PySem.W.nsIn K mainGlobals "read_groups" = some (some (.ref f21)))
    (l21 : K.lookup f21 = some ⟨oc21, od21, .func (PySem.W.fnOf "read_groups" "read_groups" (defArgs s_read_groups) (defBody s_read_groups) (defScope s_read_groups) .none kV21 dc21 pm21 an21 cd21 ct21), sl21⟩)
    (c21 : PySem.W.codeIn K cd21 "read_groups" = true)
    (k21 : PySem.W.keepIn K (.ref f21) = true)
    (a22 : PySem.W.nsIn K mainGlobals "group_end" = some (some (.ref f22)))
    (l22 : K.lookup f22 = some ⟨oc22, od22, .func (PySem.W.fnOf "group_end" "group_end" (defArgs s_group_end) (defBody s_group_end) (defScope s_group_end) .none kV22 dc22 pm22 an22 cd22 ct22), sl22⟩)
    (c22 : PySem.W.codeIn K cd22 "group_end" = true)
    (k22 : PySem.W.keepIn K (.ref f22) = true)
    (a23 : PySem.W.nsIn K mainGlobals "read_pairs" = some (some (.ref f23)))
    (l23 : K.lookup f23 = some ⟨oc23, od23, .func (PySem.W.fnOf "read_pairs" "read_pairs" (defArgs s_read_pairs) (defBody s_read_pairs) (defScope s_read_pairs) .none kV23 dc23 pm23 an23 cd23 ct23), sl23⟩)
    (c23 : PySem.W.codeIn K cd23 "read_pairs" = true)
    (k23 : PySem.W.keepIn K (.ref f23) = true)
    (a24 : PySem.W.findIn K (.ref C_Pager) "__init__" = some (some (.ref f24)))
    (i24 : PySem.W.isFn K (.ref f24) = true)
    (l24 : K.lookup f24 = some ⟨oc24, od24, .func (PySem.W.fnOf "__init__" "Pager.__init__" (defArgs s_Pager_init) (defBody s_Pager_init) (defScope s_Pager_init) .none kV24 dc24 pm24 an24 cd24 ct24), sl24⟩)
    (c24 : PySem.W.codeIn K cd24 "Pager.__init__" = true)
    (k24 : PySem.W.keepIn K (.ref f24) = true)
    (a25 : PySem.W.findIn K (.ref C_Pager) "read" = some (some (.ref f25)))
    (i25 : PySem.W.isFn K (.ref f25) = true)
    (l25 : K.lookup f25 = some ⟨oc25, od25, .func (PySem.W.fnOf "read" "Pager.read" (defArgs s_Pager_read) (defBody s_Pager_read) (defScope s_Pager_read) .none kV25 dc25 pm25 an25 cd25 ct25), sl25⟩)
    (c25 : PySem.W.codeIn K cd25 "Pager.read" = true)
    (k25 : PySem.W.keepIn K (.ref f25) = true)
    (a26 : PySem.W.findIn K (.ref C_Pager) "write" = some (some (.ref f26)))
    (i26 : PySem.W.isFn K (.ref f26) = true)
    (l26 : K.lookup f26 = some ⟨oc26, od26, .func (PySem.W.fnOf "write" "Pager.write" (defArgs s_Pager_write) (defBody s_Pager_write) (defScope s_Pager_write) .none kV26 dc26 pm26 an26 cd26 ct26), sl26⟩)
    (c26 : PySem.W.codeIn K cd26 "Pager.write" = true)
    (k26 : PySem.W.keepIn K (.ref f26) = true)
    (a27 : PySem.W.findIn K (.ref C_Pager) "allocate" = some (some (.ref f27)))
    (i27 : PySem.W.isFn K (.ref f27) = true)
    (l27 : K.lookup f27 = some ⟨oc27, od27, .func (PySem.W.fnOf "allocate" "Pager.allocate" (defArgs s_Pager_allocate) (defBody s_Pager_allocate) (defScope s_Pager_allocate) .none kV27 dc27 pm27 an27 cd27 ct27), sl27⟩)
    (c27 : PySem.W.codeIn K cd27 "Pager.allocate" = true)
    (k27 : PySem.W.keepIn K (.ref f27) = true)
    (a28 : PySem.W.findIn K (.ref C_Pager) "release" = some (some (.ref f28)))
    (i28 : PySem.W.isFn K (.ref f28) = true)
    (l28 : K.lookup f28 = some ⟨oc28, od28, .func (PySem.W.fnOf "release" "Pager.release" (defArgs s_Pager_release) (defBody s_Pager_release) (defScope s_Pager_release) .none kV28 dc28 pm28 an28 cd28 ct28), sl28⟩)
    (c28 : PySem.W.codeIn K cd28 "Pager.release" = true)
    (k28 : PySem.W.keepIn K (.ref f28) = true)
    (a29 : PySem.W.findIn K (.ref C_Pager) "field" = some (some (.ref f29)))
    (i29 : PySem.W.isFn K (.ref f29) = true)
    (l29 : K.lookup f29 = some ⟨oc29, od29, .func (PySem.W.fnOf "field" "Pager.field" (defArgs s_Pager_field) (defBody s_Pager_field) (defScope s_Pager_field) .none kV29 dc29 pm29 an29 cd29 ct29), sl29⟩)
    (c29 : PySem.W.codeIn K cd29 "Pager.field" = true)
    (k29 : PySem.W.keepIn K (.ref f29) = true)
    (a30 : PySem.W.findIn K (.ref C_Pager) "set_field" = some (some (.ref f30)))
    (i30 : PySem.W.isFn K (.ref f30) = true)
    (l30 : K.lookup f30 = some ⟨oc30, od30, .func (PySem.W.fnOf "set_field" "Pager.set_field" (defArgs s_Pager_set_field) (defBody s_Pager_set_field) (defScope s_Pager_set_field) .none kV30 dc30 pm30 an30 cd30 ct30), sl30⟩)
    (c30 : PySem.W.codeIn K cd30 "Pager.set_field" = true)
    (k30 : PySem.W.keepIn K (.ref f30) = true)
    (a31 : PySem.W.findIn K (.ref C_Pager) "commit" = some (some (.ref f31)))
    (i31 : PySem.W.isFn K (.ref f31) = true)
    (l31 : K.lookup f31 = some ⟨oc31, od31, .func (PySem.W.fnOf "commit" "Pager.commit" (defArgs s_Pager_commit) (defBody s_Pager_commit) (defScope s_Pager_commit) .none kV31 dc31 pm31 an31 cd31 ct31), sl31⟩)
    (c31 : PySem.W.codeIn K cd31 "Pager.commit" = true)
    (k31 : PySem.W.keepIn K (.ref f31) = true)
    (a32 : PySem.W.findIn K (.ref C_Pager) "checkpoint" = some (some (.ref f32)))
    (i32 : PySem.W.isFn K (.ref f32) = true)
    (l32 : K.lookup f32 = some ⟨oc32, od32, .func (PySem.W.fnOf "checkpoint" "Pager.checkpoint" (defArgs s_Pager_checkpoint) (defBody s_Pager_checkpoint) (defScope s_Pager_checkpoint) .none kV32 dc32 pm32 an32 cd32 ct32), sl32⟩)
    (c32 : PySem.W.codeIn K cd32 "Pager.checkpoint" = true)
    (k32 : PySem.W.keepIn K (.ref f32) = true)
    (a33 : PySem.W.findIn K (.ref C_Pager) "rollback" = some (some (.ref f33)))
    (i33 : PySem.W.isFn K (.ref f33) = true)
    (l33 : K.lookup f33 = some ⟨oc33, od33, .func (PySem.W.fnOf "rollback" "Pager.rollback" (defArgs s_Pager_rollback) (defBody s_Pager_rollback) (defScope s_Pager_rollback) .none kV33 dc33 pm33 an33 cd33 ct33), sl33⟩)
    (c33 : PySem.W.codeIn K cd33 "Pager.rollback" = true)
    (k33 : PySem.W.keepIn K (.ref f33) = true)
    (a34 : PySem.W.findIn K (.ref C_Pager) "_count_the_head" = some (some (.ref f34)))
    (i34 : PySem.W.isFn K (.ref f34) = true)
    (l34 : K.lookup f34 = some ⟨oc34, od34, .func (PySem.W.fnOf "_count_the_head" "Pager._count_the_head" (defArgs s_Pager_count_the_head) (defBody s_Pager_count_the_head) (defScope s_Pager_count_the_head) .none kV34 dc34 pm34 an34 cd34 ct34), sl34⟩)
    (c34 : PySem.W.codeIn K cd34 "Pager._count_the_head" = true)
    (k34 : PySem.W.keepIn K (.ref f34) = true)
    (a35 : PySem.W.nsIn K mainGlobals "_law_draw" = some (some (.ref f35)))
    (l35 : K.lookup f35 = some ⟨oc35, od35, .func (PySem.W.fnOf "_law_draw" "_law_draw" (defArgs s_law_draw) (defBody s_law_draw) (defScope s_law_draw) .none kV35 dc35 pm35 an35 cd35 ct35), sl35⟩)
    (c35 : PySem.W.codeIn K cd35 "_law_draw" = true)
    (k35 : PySem.W.keepIn K (.ref f35) = true)
    (a36 : PySem.W.nsIn K mainGlobals "_law_change" = some (some (.ref f36)))
    (l36 : K.lookup f36 = some ⟨oc36, od36, .func (PySem.W.fnOf "_law_change" "_law_change" (defArgs s_law_change) (defBody s_law_change) (defScope s_law_change) .none kV36 dc36 pm36 an36 cd36 ct36), sl36⟩)
    (c36 : PySem.W.codeIn K cd36 "_law_change" = true)
    (k36 : PySem.W.keepIn K (.ref f36) = true)
    (a37 : PySem.W.nsIn K mainGlobals "_law_shown" = some (some (.ref f37)))
    (l37 : K.lookup f37 = some ⟨oc37, od37, .func (PySem.W.fnOf "_law_shown" "_law_shown" (defArgs s_law_shown) (defBody s_law_shown) (defScope s_law_shown) .none kV37 dc37 pm37 an37 cd37 ct37), sl37⟩)
    (c37 : PySem.W.codeIn K cd37 "_law_shown" = true)
    (k37 : PySem.W.keepIn K (.ref f37) = true)
    (a38 : PySem.W.nsIn K mainGlobals "_law_crash" = some (some (.ref f38)))
    (l38 : K.lookup f38 = some ⟨oc38, od38, .func (PySem.W.fnOf "_law_crash" "_law_crash" (defArgs s_law_crash) (defBody s_law_crash) (defScope s_law_crash) .none kV38 dc38 pm38 an38 cd38 ct38), sl38⟩)
    (c38 : PySem.W.codeIn K cd38 "_law_crash" = true)
    (k38 : PySem.W.keepIn K (.ref f38) = true)
    (a39 : PySem.W.nsIn K mainGlobals "_law_opened" = some (some (.ref f39)))
    (l39 : K.lookup f39 = some ⟨oc39, od39, .func (PySem.W.fnOf "_law_opened" "_law_opened" (defArgs s_law_opened) (defBody s_law_opened) (defScope s_law_opened) .none kV39 dc39 pm39 an39 cd39 ct39), sl39⟩)
    (c39 : PySem.W.codeIn K cd39 "_law_opened" = true)
    (k39 : PySem.W.keepIn K (.ref f39) = true)
    (a40 : PySem.W.nsIn K mainGlobals "_law_group_holds" = some (some (.ref f40)))
    (l40 : K.lookup f40 = some ⟨oc40, od40, .func (PySem.W.fnOf "_law_group_holds" "_law_group_holds" (defArgs s_law_group_holds) (defBody s_law_group_holds) (defScope s_law_group_holds) .none kV40 dc40 pm40 an40 cd40 ct40), sl40⟩)
    (c40 : PySem.W.codeIn K cd40 "_law_group_holds" = true)
    (k40 : PySem.W.keepIn K (.ref f40) = true)
    (a41 : PySem.W.nsIn K mainGlobals "_law_round" = some (some (.ref f41)))
    (l41 : K.lookup f41 = some ⟨oc41, od41, .func (PySem.W.fnOf "_law_round" "_law_round" (defArgs s_law_round) (defBody s_law_round) (defScope s_law_round) .none kV41 dc41 pm41 an41 cd41 ct41), sl41⟩)
    (c41 : PySem.W.codeIn K cd41 "_law_round" = true)
    (k41 : PySem.W.keepIn K (.ref f41) = true)
    (a42 : PySem.W.nsIn K mainGlobals "law" = some (some (.ref f42)))
    (l42 : K.lookup f42 = some ⟨oc42, od42, .func (PySem.W.fnOf "law" "law" (defArgs s_law) (defBody s_law) (defScope s_law) .none kV42 dc42 pm42 an42 cd42 ct42), sl42⟩)
    (c42 : PySem.W.codeIn K cd42 "law" = true)
    (k42 : PySem.W.keepIn K (.ref f42) = true)
    (x_VaultError : PySem.W.excIn K C_VaultError [.type "ValueError", .type "Exception", .type "BaseException", .type "object"] "ValueError.__new__" = true)
    (k_VaultError : PySem.W.keepIn K (.ref C_VaultError) = true)
    (xb_VaultError : PySem.W.subIn K (.ref C_VaultError) (.type "BaseException") = some true)
    (xt_VaultError : PySem.W.typeIn K (.ref C_VaultError) = some (.type "type"))
    (xi_VaultError : PySem.W.isClsIn K C_VaultError = true)
    (xs_VaultError : PySem.W.subIn K (.ref C_VaultError) (.ref C_VaultError) = some true)
    (x_PowerCut : PySem.W.excIn K C_PowerCut [.type "ValueError", .type "Exception", .type "BaseException", .type "object"] "ValueError.__new__" = true)
    (k_PowerCut : PySem.W.keepIn K (.ref C_PowerCut) = true)
    (xb_PowerCut : PySem.W.subIn K (.ref C_PowerCut) (.type "BaseException") = some true)
    (xt_PowerCut : PySem.W.typeIn K (.ref C_PowerCut) = some (.type "type"))
    (xi_PowerCut : PySem.W.isClsIn K C_PowerCut = true)
    (xga_PowerCut : PySem.W.findIn K (.ref C_PowerCut) "__getattribute__" = some (some (.builtin "BaseException.__getattribute__")))
    (xgt_PowerCut : PySem.W.findIn K (.ref C_PowerCut) "__getattr__" = some none)
    (xhd_PowerCut : PySem.W.hasDictIn K C_PowerCut = true)
    (xcl_PowerCut : PySem.W.findIn K (.ref C_PowerCut) "__class__" = some (some (.builtin "object.__class__")))
    (xn_PowerCut : PySem.W.specialIn K (.builtin "object.__class__") "__get__" = some (some (.builtin "getset_descriptor.__get__")))
    (xta_PowerCut : PySem.W.takesIn K (.builtin "object.__class__") = some true)
    (xm_PowerCut : PySem.W.mroIn K C_PowerCut (.type "object") = some true)
    (xv_PowerCut : PySem.W.subIn K (.ref C_PowerCut) (.type "ValueError") = some true)
    (xs_PowerCut : PySem.W.subIn K (.ref C_PowerCut) (.ref C_PowerCut) = some true)
    (xs_PowerCut_VaultError : PySem.W.subIn K (.ref C_PowerCut) (.ref C_VaultError) = some true)
    (pg_Device : PySem.W.plainGet K C_Device Str.empty = true)
    (hd_Device : PySem.W.hasDictIn K C_Device = true)
    (po_Device : PySem.W.plainOver K C_Device = true)
    (sa_Device : PySem.W.findIn K (.ref C_Device) "__setattr__" = some (some (.builtin "object.__setattr__")))
    (mk_Device : PySem.W.makesIn K C_Device = true)
    (kc_Device : PySem.W.keepIn K (.ref C_Device) = true)
    (n_Device__durable_pages : PySem.W.findIn K (.ref C_Device) "_durable_pages" = some none)
    (n_Device__page_writes : PySem.W.findIn K (.ref C_Device) "_page_writes" = some none)
    (n_Device__durable_log : PySem.W.findIn K (.ref C_Device) "_durable_log" = some none)
    (n_Device__log_steps : PySem.W.findIn K (.ref C_Device) "_log_steps" = some none)
    (n_Device__steps_performed : PySem.W.findIn K (.ref C_Device) "_steps_performed" = some none)
    (n_Device__steps_allowed : PySem.W.findIn K (.ref C_Device) "_steps_allowed" = some none)
    (pg_Pager : PySem.W.plainGet K C_Pager Str.empty = true)
    (hd_Pager : PySem.W.hasDictIn K C_Pager = true)
    (po_Pager : PySem.W.plainOver K C_Pager = true)
    (sa_Pager : PySem.W.findIn K (.ref C_Pager) "__setattr__" = some (some (.builtin "object.__setattr__")))
    (mk_Pager : PySem.W.makesIn K C_Pager = true)
    (kc_Pager : PySem.W.keepIn K (.ref C_Pager) = true)
    (n_Pager__device : PySem.W.findIn K (.ref C_Pager) "_device" = some none)
    (n_Pager__dirty : PySem.W.findIn K (.ref C_Pager) "_dirty" = some none)
    (n_Pager__committed_since_checkpoint : PySem.W.findIn K (.ref C_Pager) "_committed_since_checkpoint" = some none)
    (z_list : PySem.W.nsIn K mainGlobals "list" = some none)
    (z_range : PySem.W.nsIn K mainGlobals "range" = some none)
    (z_sorted : PySem.W.nsIn K mainGlobals "sorted" = some none)
    (z_all : PySem.W.nsIn K mainGlobals "all" = some none)
    (z_len : PySem.W.nsIn K mainGlobals "len" = some none)
    (z_reversed : PySem.W.nsIn K mainGlobals "reversed" = some none)
    (z_zip : PySem.W.nsIn K mainGlobals "zip" = some none)
    (z_int : PySem.W.nsIn K mainGlobals "int" = some none)
    (z_dict : PySem.W.nsIn K mainGlobals "dict" = some none)
    (z_max : PySem.W.nsIn K mainGlobals "max" = some none)
    (aPAGE_SIZE : PySem.W.nsIn K mainGlobals "PAGE_SIZE" = some (some (.int 256 tPAGE_SIZE)))
    (aHALF_PAGE : PySem.W.nsIn K mainGlobals "HALF_PAGE" = some (some (.int 128 tHALF_PAGE)))
    (aTAKES_EFFECT : PySem.W.nsIn K mainGlobals "TAKES_EFFECT" = some (some (.int 1 tTAKES_EFFECT)))
    (aFIRST_HALF_TAKES_EFFECT : PySem.W.nsIn K mainGlobals "FIRST_HALF_TAKES_EFFECT" = some (some (.int 2 tFIRST_HALF_TAKES_EFFECT)))
    (aNUMBER_WIDTH : PySem.W.nsIn K mainGlobals "NUMBER_WIDTH" = some (some (.int 4 tNUMBER_WIDTH)))
    (aPAIR_SIZE : PySem.W.nsIn K mainGlobals "PAIR_SIZE" = some (some (.int 260 tPAIR_SIZE)))
    (aHEAD : PySem.W.nsIn K mainGlobals "HEAD" = some (some (.int 0 tHEAD)))
    (aPAGE_COUNT : PySem.W.nsIn K mainGlobals "PAGE_COUNT" = some (some (.int 6 tPAGE_COUNT)))
    : ∃ T : Txt K mg, T.f_law = f42 ∧ T.fd_law = PySem.W.fnOf "law" "law" (defArgs s_law) (defBody s_law) (defScope s_law) .none kV42 dc42 pm42 an42 cd42 ct42 := by
  have F0 := fun_mk (st := s_wall) l0 c0 k0
  have b0 := F0.binds (ps := ["k"]) fun _ _ _ _ _ _ us hl => match us, hl with | [_], _ => rfl
  have F1 := fun_mk (st := s_log_after) l1 c1 k1
  have b1 := F1.binds (ps := ["log", "log_steps"]) fun _ _ _ _ _ _ us hl => match us, hl with | [_, _], _ => rfl
  have F2 := fun_mk (st := s_Device_init) l2 c2 k2
  have b2 := F2.binds (ps := ["self"]) fun _ _ _ _ _ _ us hl => match us, hl with | [_], _ => rfl
  have F3 := fun_mk (st := s_Device_write_page) l3 c3 k3
  have b3 := F3.binds (ps := ["self", "number", "data"]) fun _ _ _ _ _ _ us hl => match us, hl with | [_, _, _], _ => rfl
  have F4 := fun_mk (st := s_Device_sync_pages) l4 c4 k4
  have b4 := F4.binds (ps := ["self"]) fun _ _ _ _ _ _ us hl => match us, hl with | [_], _ => rfl
  have F5 := fun_mk (st := s_Device_append) l5 c5 k5
  have b5 := F5.binds (ps := ["self", "data"]) fun _ _ _ _ _ _ us hl => match us, hl with | [_, _], _ => rfl
  have F6 := fun_mk (st := s_Device_clear) l6 c6 k6
  have b6 := F6.binds (ps := ["self"]) fun _ _ _ _ _ _ us hl => match us, hl with | [_], _ => rfl
  have F7 := fun_mk (st := s_Device_sync_log) l7 c7 k7
  have b7 := F7.binds (ps := ["self"]) fun _ _ _ _ _ _ us hl => match us, hl with | [_], _ => rfl
  have F8 := fun_mk (st := s_Device_page) l8 c8 k8
  have b8 := F8.binds (ps := ["self", "number"]) fun _ _ _ _ _ _ us hl => match us, hl with | [_, _], _ => rfl
  have F9 := fun_mk (st := s_Device_log) l9 c9 k9
  have b9 := F9.binds (ps := ["self"]) fun _ _ _ _ _ _ us hl => match us, hl with | [_], _ => rfl
  have F10 := fun_mk (st := s_Device_limit) l10 c10 k10
  have b10 := F10.binds (ps := ["self", "steps"]) fun _ _ _ _ _ _ us hl => match us, hl with | [_, _], _ => rfl
  have F11 := fun_mk (st := s_Device_crash) l11 c11 k11
  have b11 := F11.binds (ps := ["self", "fates", "kept"]) fun _ _ _ _ _ _ us hl => match us, hl with | [_, _, _], _ => rfl
  have F12 := fun_mk (st := s_Device_steps) l12 c12 k12
  have b12 := F12.binds (ps := ["self"]) fun _ _ _ _ _ _ us hl => match us, hl with | [_], _ => rfl
  have F13 := fun_mk (st := s_Device_pending) l13 c13 k13
  have b13 := F13.binds (ps := ["self"]) fun _ _ _ _ _ _ us hl => match us, hl with | [_], _ => rfl
  have F14 := fun_mk (st := s_Device_take_step) l14 c14 k14
  have b14 := F14.binds (ps := ["self"]) fun _ _ _ _ _ _ us hl => match us, hl with | [_], _ => rfl
  have F15 := fun_mk (st := s_Device_durable_page) l15 c15 k15
  have b15 := F15.binds (ps := ["self", "number"]) fun _ _ _ _ _ _ us hl => match us, hl with | [_, _], _ => rfl
  have F16 := fun_mk (st := s_Device_end_page_write) l16 c16 k16
  have b16 := F16.binds (ps := ["self", "number", "data", "fate"]) fun _ _ _ _ _ _ us hl => match us, hl with | [_, _, _, _], _ => rfl
  have F17 := fun_mk (st := s_Device_end_log_steps) l17 c17 k17
  have b17 := F17.binds (ps := ["self", "log_steps"]) fun _ _ _ _ _ _ us hl => match us, hl with | [_, _], _ => rfl
  have F18 := fun_mk (st := s_write_number) l18 c18 k18
  have b18 := F18.binds (ps := ["width", "number"]) fun _ _ _ _ _ _ us hl => match us, hl with | [_, _], _ => rfl
  have F19 := fun_mk (st := s_read_number) l19 c19 k19
  have b19 := F19.binds (ps := ["data", "place", "width"]) fun _ _ _ _ _ _ us hl => match us, hl with | [_, _, _], _ => rfl
  have F20 := fun_mk (st := s_write_group) l20 c20 k20
  have b20 := F20.binds (ps := ["pairs"]) fun _ _ _ _ _ _ us hl => match us, hl with | [_], _ => rfl
  have F21 := fun_mk (st := s_read_groups) l21 c21 k21
  have b21 := F21.binds (ps := ["data"]) fun _ _ _ _ _ _ us hl => match us, hl with | [_], _ => rfl
  have F22 := fun_mk (st := s_group_end) l22 c22 k22
  have b22 := F22.binds (ps := ["data", "place"]) fun _ _ _ _ _ _ us hl => match us, hl with | [_, _], _ => rfl
  have F23 := fun_mk (st := s_read_pairs) l23 c23 k23
  have b23 := F23.binds (ps := ["data", "place", "end"]) fun _ _ _ _ _ _ us hl => match us, hl with | [_, _, _], _ => rfl
  have F24 := fun_mk (st := s_Pager_init) l24 c24 k24
  have b24 := F24.binds (ps := ["self", "device"]) fun _ _ _ _ _ _ us hl => match us, hl with | [_, _], _ => rfl
  have F25 := fun_mk (st := s_Pager_read) l25 c25 k25
  have b25 := F25.binds (ps := ["self", "number"]) fun _ _ _ _ _ _ us hl => match us, hl with | [_, _], _ => rfl
  have F26 := fun_mk (st := s_Pager_write) l26 c26 k26
  have b26 := F26.binds (ps := ["self", "number", "data"]) fun _ _ _ _ _ _ us hl => match us, hl with | [_, _, _], _ => rfl
  have F27 := fun_mk (st := s_Pager_allocate) l27 c27 k27
  have b27 := F27.binds (ps := ["self"]) fun _ _ _ _ _ _ us hl => match us, hl with | [_], _ => rfl
  have F28 := fun_mk (st := s_Pager_release) l28 c28 k28
  have b28 := F28.binds (ps := ["self", "number"]) fun _ _ _ _ _ _ us hl => match us, hl with | [_, _], _ => rfl
  have F29 := fun_mk (st := s_Pager_field) l29 c29 k29
  have b29 := F29.binds (ps := ["self", "k"]) fun _ _ _ _ _ _ us hl => match us, hl with | [_, _], _ => rfl
  have F30 := fun_mk (st := s_Pager_set_field) l30 c30 k30
  have b30 := F30.binds (ps := ["self", "k", "number"]) fun _ _ _ _ _ _ us hl => match us, hl with | [_, _, _], _ => rfl
  have F31 := fun_mk (st := s_Pager_commit) l31 c31 k31
  have b31 := F31.binds (ps := ["self"]) fun _ _ _ _ _ _ us hl => match us, hl with | [_], _ => rfl
  have F32 := fun_mk (st := s_Pager_checkpoint) l32 c32 k32
  have b32 := F32.binds (ps := ["self"]) fun _ _ _ _ _ _ us hl => match us, hl with | [_], _ => rfl
  have F33 := fun_mk (st := s_Pager_rollback) l33 c33 k33
  have b33 := F33.binds (ps := ["self"]) fun _ _ _ _ _ _ us hl => match us, hl with | [_], _ => rfl
  have F34 := fun_mk (st := s_Pager_count_the_head) l34 c34 k34
  have b34 := F34.binds (ps := ["self"]) fun _ _ _ _ _ _ us hl => match us, hl with | [_], _ => rfl
  have F35 := fun_mk (st := s_law_draw) l35 c35 k35
  have b35 := F35.binds (ps := ["state", "script", "size"]) fun _ _ _ _ _ _ us hl => match us, hl with | [_, _, _], _ => rfl
  have F36 := fun_mk (st := s_law_change) l36 c36 k36
  have b36 := F36.binds (ps := ["state", "script", "pager", "model", "turn"]) fun _ _ _ _ _ _ us hl => match us, hl with | [_, _, _, _, _], _ => rfl
  have F37 := fun_mk (st := s_law_shown) l37 c37 k37
  have b37 := F37.binds (ps := ["pager"]) fun _ _ _ _ _ _ us hl => match us, hl with | [_], _ => rfl
  have F38 := fun_mk (st := s_law_crash) l38 c38 k38
  have b38 := F38.binds (ps := ["state", "script", "device"]) fun _ _ _ _ _ _ us hl => match us, hl with | [_, _, _], _ => rfl
  have F39 := fun_mk (st := s_law_opened) l39 c39 k39
  have b39 := F39.binds (ps := ["state", "script", "device"]) fun _ _ _ _ _ _ us hl => match us, hl with | [_, _, _], _ => rfl
  have F40 := fun_mk (st := s_law_group_holds) l40 c40 k40
  have b40 := F40.binds (ps := ["device", "pager", "length", "numbers"]) fun _ _ _ _ _ _ us hl => match us, hl with | [_, _, _, _], _ => rfl
  have F41 := fun_mk (st := s_law_round) l41 c41 k41
  have b41 := F41.binds (ps := ["state", "script", "device", "pager", "model", "turn"]) fun _ _ _ _ _ _ us hl => match us, hl with | [_, _, _, _, _, _], _ => rfl
  have F42 := fun_mk (st := s_law) l42 c42 k42
  have b42 := F42.binds (ps := ["script"]) fun _ _ _ _ _ _ us hl => match us, hl with | [_], _ => rfl
  exact ⟨{
    f_wall := f0
    fd_wall := _
    F_wall := F0
    b_wall := b0
    g_wall := PySem.W.mg_of X G a0
    f_log_after := f1
    fd_log_after := _
    F_log_after := F1
    b_log_after := b1
    g_log_after := PySem.W.mg_of X G a1
    f_Device_init := f2
    fd_Device_init := _
    F_Device_init := F2
    b_Device_init := b2
    f_Device_write_page := f3
    fd_Device_write_page := _
    F_Device_write_page := F3
    b_Device_write_page := b3
    f_Device_sync_pages := f4
    fd_Device_sync_pages := _
    F_Device_sync_pages := F4
    b_Device_sync_pages := b4
    f_Device_append := f5
    fd_Device_append := _
    F_Device_append := F5
    b_Device_append := b5
    f_Device_clear := f6
    fd_Device_clear := _
    F_Device_clear := F6
    b_Device_clear := b6
    f_Device_sync_log := f7
    fd_Device_sync_log := _
    F_Device_sync_log := F7
    b_Device_sync_log := b7
    f_Device_page := f8
    fd_Device_page := _
    F_Device_page := F8
    b_Device_page := b8
    f_Device_log := f9
    fd_Device_log := _
    F_Device_log := F9
    b_Device_log := b9
    f_Device_limit := f10
    fd_Device_limit := _
    F_Device_limit := F10
    b_Device_limit := b10
    f_Device_crash := f11
    fd_Device_crash := _
    F_Device_crash := F11
    b_Device_crash := b11
    f_Device_steps := f12
    fd_Device_steps := _
    F_Device_steps := F12
    b_Device_steps := b12
    f_Device_pending := f13
    fd_Device_pending := _
    F_Device_pending := F13
    b_Device_pending := b13
    f_Device_take_step := f14
    fd_Device_take_step := _
    F_Device_take_step := F14
    b_Device_take_step := b14
    f_Device_durable_page := f15
    fd_Device_durable_page := _
    F_Device_durable_page := F15
    b_Device_durable_page := b15
    f_Device_end_page_write := f16
    fd_Device_end_page_write := _
    F_Device_end_page_write := F16
    b_Device_end_page_write := b16
    f_Device_end_log_steps := f17
    fd_Device_end_log_steps := _
    F_Device_end_log_steps := F17
    b_Device_end_log_steps := b17
    f_write_number := f18
    fd_write_number := _
    F_write_number := F18
    b_write_number := b18
    g_write_number := PySem.W.mg_of X G a18
    f_read_number := f19
    fd_read_number := _
    F_read_number := F19
    b_read_number := b19
    g_read_number := PySem.W.mg_of X G a19
    f_write_group := f20
    fd_write_group := _
    F_write_group := F20
    b_write_group := b20
    g_write_group := PySem.W.mg_of X G a20
    f_read_groups := f21
    fd_read_groups := _
    F_read_groups := F21
    b_read_groups := b21
    g_read_groups := PySem.W.mg_of X G a21
    f_group_end := f22
    fd_group_end := _
    F_group_end := F22
    b_group_end := b22
    g_group_end := PySem.W.mg_of X G a22
    f_read_pairs := f23
    fd_read_pairs := _
    F_read_pairs := F23
    b_read_pairs := b23
    g_read_pairs := PySem.W.mg_of X G a23
    f_Pager_init := f24
    fd_Pager_init := _
    F_Pager_init := F24
    b_Pager_init := b24
    f_Pager_read := f25
    fd_Pager_read := _
    F_Pager_read := F25
    b_Pager_read := b25
    f_Pager_write := f26
    fd_Pager_write := _
    F_Pager_write := F26
    b_Pager_write := b26
    f_Pager_allocate := f27
    fd_Pager_allocate := _
    F_Pager_allocate := F27
    b_Pager_allocate := b27
    f_Pager_release := f28
    fd_Pager_release := _
    F_Pager_release := F28
    b_Pager_release := b28
    f_Pager_field := f29
    fd_Pager_field := _
    F_Pager_field := F29
    b_Pager_field := b29
    f_Pager_set_field := f30
    fd_Pager_set_field := _
    F_Pager_set_field := F30
    b_Pager_set_field := b30
    f_Pager_commit := f31
    fd_Pager_commit := _
    F_Pager_commit := F31
    b_Pager_commit := b31
    f_Pager_checkpoint := f32
    fd_Pager_checkpoint := _
    F_Pager_checkpoint := F32
    b_Pager_checkpoint := b32
    f_Pager_rollback := f33
    fd_Pager_rollback := _
    F_Pager_rollback := F33
    b_Pager_rollback := b33
    f_Pager_count_the_head := f34
    fd_Pager_count_the_head := _
    F_Pager_count_the_head := F34
    b_Pager_count_the_head := b34
    f_law_draw := f35
    fd_law_draw := _
    F_law_draw := F35
    b_law_draw := b35
    g_law_draw := PySem.W.mg_of X G a35
    f_law_change := f36
    fd_law_change := _
    F_law_change := F36
    b_law_change := b36
    g_law_change := PySem.W.mg_of X G a36
    f_law_shown := f37
    fd_law_shown := _
    F_law_shown := F37
    b_law_shown := b37
    g_law_shown := PySem.W.mg_of X G a37
    f_law_crash := f38
    fd_law_crash := _
    F_law_crash := F38
    b_law_crash := b38
    g_law_crash := PySem.W.mg_of X G a38
    f_law_opened := f39
    fd_law_opened := _
    F_law_opened := F39
    b_law_opened := b39
    g_law_opened := PySem.W.mg_of X G a39
    f_law_group_holds := f40
    fd_law_group_holds := _
    F_law_group_holds := F40
    b_law_group_holds := b40
    g_law_group_holds := PySem.W.mg_of X G a40
    f_law_round := f41
    fd_law_round := _
    F_law_round := F41
    b_law_round := b41
    g_law_round := PySem.W.mg_of X G a41
    f_law := f42
    fd_law := _
    F_law := F42
    b_law := b42
    g_law := PySem.W.mg_of X G a42
    C_VaultError := C_VaultError
    g_VaultError := PySem.W.mg_of X G aC_VaultError
    x_VaultError := x_VaultError
    k_VaultError := k_VaultError
    xb_VaultError := xb_VaultError
    xt_VaultError := xt_VaultError
    xi_VaultError := xi_VaultError
    xs_VaultError := xs_VaultError
    C_PowerCut := C_PowerCut
    g_PowerCut := PySem.W.mg_of X G aC_PowerCut
    x_PowerCut := x_PowerCut
    k_PowerCut := k_PowerCut
    xb_PowerCut := xb_PowerCut
    xt_PowerCut := xt_PowerCut
    xi_PowerCut := xi_PowerCut
    xga_PowerCut := xga_PowerCut
    xgt_PowerCut := xgt_PowerCut
    xhd_PowerCut := xhd_PowerCut
    xcl_PowerCut := xcl_PowerCut
    xn_PowerCut := xn_PowerCut
    xta_PowerCut := xta_PowerCut
    xm_PowerCut := xm_PowerCut
    xv_PowerCut := xv_PowerCut
    xs_PowerCut := xs_PowerCut
    xs_PowerCut_VaultError := xs_PowerCut_VaultError
    C_Device := C_Device
    g_Device := PySem.W.mg_of X G aC_Device
    cl_Device := ⟨pg_Device, hd_Device, po_Device, sa_Device⟩
    mk_Device := ⟨mk_Device, a2, i2, kc_Device⟩
    m_Device_write_page := ⟨a3, i3, k3⟩
    m_Device_sync_pages := ⟨a4, i4, k4⟩
    m_Device_append := ⟨a5, i5, k5⟩
    m_Device_clear := ⟨a6, i6, k6⟩
    m_Device_sync_log := ⟨a7, i7, k7⟩
    m_Device_page := ⟨a8, i8, k8⟩
    m_Device_log := ⟨a9, i9, k9⟩
    m_Device_limit := ⟨a10, i10, k10⟩
    m_Device_crash := ⟨a11, i11, k11⟩
    m_Device_steps := ⟨a12, i12, k12⟩
    m_Device_pending := ⟨a13, i13, k13⟩
    m_Device_take_step := ⟨a14, i14, k14⟩
    m_Device_durable_page := ⟨a15, i15, k15⟩
    m_Device_end_page_write := ⟨a16, i16, k16⟩
    m_Device_end_log_steps := ⟨a17, i17, k17⟩
    n_Device__durable_pages := n_Device__durable_pages
    n_Device__page_writes := n_Device__page_writes
    n_Device__durable_log := n_Device__durable_log
    n_Device__log_steps := n_Device__log_steps
    n_Device__steps_performed := n_Device__steps_performed
    n_Device__steps_allowed := n_Device__steps_allowed
    C_Pager := C_Pager
    g_Pager := PySem.W.mg_of X G aC_Pager
    cl_Pager := ⟨pg_Pager, hd_Pager, po_Pager, sa_Pager⟩
    mk_Pager := ⟨mk_Pager, a24, i24, kc_Pager⟩
    m_Pager_read := ⟨a25, i25, k25⟩
    m_Pager_write := ⟨a26, i26, k26⟩
    m_Pager_allocate := ⟨a27, i27, k27⟩
    m_Pager_release := ⟨a28, i28, k28⟩
    m_Pager_field := ⟨a29, i29, k29⟩
    m_Pager_set_field := ⟨a30, i30, k30⟩
    m_Pager_commit := ⟨a31, i31, k31⟩
    m_Pager_checkpoint := ⟨a32, i32, k32⟩
    m_Pager_rollback := ⟨a33, i33, k33⟩
    m_Pager_count_the_head := ⟨a34, i34, k34⟩
    n_Pager__device := n_Pager__device
    n_Pager__dirty := n_Pager__dirty
    n_Pager__committed_since_checkpoint := n_Pager__committed_since_checkpoint
    z_list := PySem.W.mg_none_of X G z_list
    z_range := PySem.W.mg_none_of X G z_range
    z_sorted := PySem.W.mg_none_of X G z_sorted
    z_all := PySem.W.mg_none_of X G z_all
    z_len := PySem.W.mg_none_of X G z_len
    z_reversed := PySem.W.mg_none_of X G z_reversed
    z_zip := PySem.W.mg_none_of X G z_zip
    z_int := PySem.W.mg_none_of X G z_int
    z_dict := PySem.W.mg_none_of X G z_dict
    z_max := PySem.W.mg_none_of X G z_max
    t_PAGE_SIZE := tPAGE_SIZE
    g_PAGE_SIZE := PySem.W.mg_of X G aPAGE_SIZE
    t_HALF_PAGE := tHALF_PAGE
    g_HALF_PAGE := PySem.W.mg_of X G aHALF_PAGE
    t_TAKES_EFFECT := tTAKES_EFFECT
    g_TAKES_EFFECT := PySem.W.mg_of X G aTAKES_EFFECT
    t_FIRST_HALF_TAKES_EFFECT := tFIRST_HALF_TAKES_EFFECT
    g_FIRST_HALF_TAKES_EFFECT := PySem.W.mg_of X G aFIRST_HALF_TAKES_EFFECT
    t_NUMBER_WIDTH := tNUMBER_WIDTH
    g_NUMBER_WIDTH := PySem.W.mg_of X G aNUMBER_WIDTH
    t_PAIR_SIZE := tPAIR_SIZE
    g_PAIR_SIZE := PySem.W.mg_of X G aPAIR_SIZE
    t_HEAD := tHEAD
    g_HEAD := PySem.W.mg_of X G aHEAD
    t_PAGE_COUNT := tPAGE_COUNT
    g_PAGE_COUNT := PySem.W.mg_of X G aPAGE_COUNT }, rfl, rfl⟩
theorem walk {l : PySem.W.OpenLaw} {q : Program} {loose : List Str} {XP : (Str → Option Value) → Heap → Prop} {YP : World → Heap → Prop} {d : DefRec} {K : Params → PySem.W.Frag} (hn : l.most = some 63) (hdf : d.params.defaults = []) (hdn : d.name = "law")
    (hY : ∀ (w : World) (h : Heap), YP w h → (K w.params).In h)
    (F : ∀ (w : World) (mg : Str → Option Value) (h : Heap), (K w.params).In h → h.Ns mainGlobals mg → ∃ T : Txt (K w.params) mg, ∀ (s : Shared) (u : Value), BindsTo s T.fd_law ⟨[u], []⟩ [("script", u)]) :
    PySem.W.WalkO q loose XP YP l.row.toRowW d [] (fun f vs => PySem.call f vs) := by
  refine L2.walk_of (n := 63) (k := 20) (x := "script") (CX := fun _ => CX0) (sp := fun w => sp_law (K w.params)) hn (by decide) hdf ⟨rfl, by decide, by decide⟩ hY (fun w mg fa h KX G hmg => ?_) (fun w H a ns hl hO hS => ?_) fun _ _ _ _ _ z => z
  · obtain ⟨T, hT⟩ := F w mg h KX G
    rw [hdn] at hmg
    have e := T.g_law.symm.trans hmg
    cases e
    exact ⟨T.fd_law, hT, fun base _ _ => (ok_law T).mono (by decide)⟩
  · exact ⟨a, ns, rfl, hS, hl, fun _ => rfl⟩

end K06
open PySem PySem.W PyProof.Rows
set_option maxRecDepth 100000 in
set_option maxHeartbeats 0 in
theorem PySem.Challenge.cw_nearvault_k06_whole_pagers_and_power_holds : PySem.Challenge.rw_nearvault_k06_whole_pagers_and_power.Holds := by
  w_on; o_law; k_head; (case hw => w_witness2)
  k_fill
  refine K06.walk (l := PySem.Challenge.rw_nearvault_k06_whole_pagers_and_power) rfl rfl rfl (fun w h Y => PySem.W.kIn_of Y) ?F
  case F =>
    intro w mg h KX G
    refine' Exists.imp (fun T hT s u => ?bind) (K06.all_mk KX G ?aC_Pager ?aC_Device ?aC_PowerCut ?aC_VaultError ?a0 ?l0 ?c0 ?k0 ?a1 ?l1 ?c1 ?k1 ?a2 ?i2 ?l2 ?c2 ?k2 ?a3 ?i3 ?l3 ?c3 ?k3 ?a4 ?i4 ?l4 ?c4 ?k4 ?a5 ?i5 ?l5 ?c5 ?k5 ?a6 ?i6 ?l6 ?c6 ?k6 ?a7 ?i7 ?l7 ?c7 ?k7 ?a8 ?i8 ?l8 ?c8 ?k8 ?a9 ?i9 ?l9 ?c9 ?k9 ?a10 ?i10 ?l10 ?c10 ?k10 ?a11 ?i11 ?l11 ?c11 ?k11 ?a12 ?i12 ?l12 ?c12 ?k12 ?a13 ?i13 ?l13 ?c13 ?k13 ?a14 ?i14 ?l14 ?c14 ?k14 ?a15 ?i15 ?l15 ?c15 ?k15 ?a16 ?i16 ?l16 ?c16 ?k16 ?a17 ?i17 ?l17 ?c17 ?k17 ?a18 ?l18 ?c18 ?k18 ?a19 ?l19 ?c19 ?k19 ?a20 ?l20 ?c20 ?k20 ?a21 ?l21 ?c21 ?k21 ?a22 ?l22 ?c22 ?k22 ?a23 ?l23 ?c23 ?k23 ?a24 ?i24 ?l24 ?c24 ?k24 ?a25 ?i25 ?l25 ?c25 ?k25 ?a26 ?i26 ?l26 ?c26 ?k26 ?a27 ?i27 ?l27 ?c27 ?k27 ?a28 ?i28 ?l28 ?c28 ?k28 ?a29 ?i29 ?l29 ?c29 ?k29 ?a30 ?i30 ?l30 ?c30 ?k30 ?a31 ?i31 ?l31 ?c31 ?k31 ?a32 ?i32 ?l32 ?c32 ?k32 ?a33 ?i33 ?l33 ?c33 ?k33 ?a34 ?i34 ?l34 ?c34 ?k34 ?a35 ?l35 ?c35 ?k35 ?a36 ?l36 ?c36 ?k36 ?a37 ?l37 ?c37 ?k37 ?a38 ?l38 ?c38 ?k38 ?a39 ?l39 ?c39 ?k39 ?a40 ?l40 ?c40 ?k40 ?a41 ?l41 ?c41 ?k41 ?a42 ?l42 ?c42 ?k42 ?x_VaultError ?k_VaultError ?xb_VaultError ?xt_VaultError ?xi_VaultError ?xs_VaultError ?x_PowerCut ?k_PowerCut ?xb_PowerCut ?xt_PowerCut ?xi_PowerCut ?xga_PowerCut ?xgt_PowerCut ?xhd_PowerCut ?xcl_PowerCut ?xn_PowerCut ?xta_PowerCut ?xm_PowerCut ?xv_PowerCut ?xs_PowerCut ?xs_PowerCut_VaultError ?pg_Device ?hd_Device ?po_Device ?sa_Device ?mk_Device ?kc_Device ?n_Device__durable_pages ?n_Device__page_writes ?n_Device__durable_log ?n_Device__log_steps ?n_Device__steps_performed ?n_Device__steps_allowed ?pg_Pager ?hd_Pager ?po_Pager ?sa_Pager ?mk_Pager ?kc_Pager ?n_Pager__device ?n_Pager__dirty ?n_Pager__committed_since_checkpoint ?z_list ?z_range ?z_sorted ?z_all ?z_len ?z_reversed ?z_zip ?z_int ?z_dict ?z_max ?aPAGE_SIZE ?aHALF_PAGE ?aTAKES_EFFECT ?aFIRST_HALF_TAKES_EFFECT ?aNUMBER_WIDTH ?aPAIR_SIZE ?aHEAD ?aPAGE_COUNT)
    (case aC_Pager => k_is)
    (case aC_Device => k_is)
    (case aC_PowerCut => k_is)
    (case aC_VaultError => k_is)
    (case a0 => k_is)
    (case l0 => k_is)
    (case c0 => k_is)
    (case k0 => k_is)
    (case a1 => k_is)
    (case l1 => k_is)
    (case c1 => k_is)
    (case k1 => k_is)
    (case a2 => k_is)
    (case i2 => k_is)
    (case l2 => k_is)
    (case c2 => k_is)
    (case k2 => k_is)
    (case a3 => k_is)
    (case i3 => k_is)
    (case l3 => k_is)
    (case c3 => k_is)
    (case k3 => k_is)
    (case a4 => k_is)
    (case i4 => k_is)
    (case l4 => k_is)
    (case c4 => k_is)
    (case k4 => k_is)
    (case a5 => k_is)
    (case i5 => k_is)
    (case l5 => k_is)
    (case c5 => k_is)
    (case k5 => k_is)
    (case a6 => k_is)
    (case i6 => k_is)
    (case l6 => k_is)
    (case c6 => k_is)
    (case k6 => k_is)
    (case a7 => k_is)
    (case i7 => k_is)
    (case l7 => k_is)
    (case c7 => k_is)
    (case k7 => k_is)
    (case a8 => k_is)
    (case i8 => k_is)
    (case l8 => k_is)
    (case c8 => k_is)
    (case k8 => k_is)
    (case a9 => k_is)
    (case i9 => k_is)
    (case l9 => k_is)
    (case c9 => k_is)
    (case k9 => k_is)
    (case a10 => k_is)
    (case i10 => k_is)
    (case l10 => k_is)
    (case c10 => k_is)
    (case k10 => k_is)
    (case a11 => k_is)
    (case i11 => k_is)
    (case l11 => k_is)
    (case c11 => k_is)
    (case k11 => k_is)
    (case a12 => k_is)
    (case i12 => k_is)
    (case l12 => k_is)
    (case c12 => k_is)
    (case k12 => k_is)
    (case a13 => k_is)
    (case i13 => k_is)
    (case l13 => k_is)
    (case c13 => k_is)
    (case k13 => k_is)
    (case a14 => k_is)
    (case i14 => k_is)
    (case l14 => k_is)
    (case c14 => k_is)
    (case k14 => k_is)
    (case a15 => k_is)
    (case i15 => k_is)
    (case l15 => k_is)
    (case c15 => k_is)
    (case k15 => k_is)
    (case a16 => k_is)
    (case i16 => k_is)
    (case l16 => k_is)
    (case c16 => k_is)
    (case k16 => k_is)
    (case a17 => k_is)
    (case i17 => k_is)
    (case l17 => k_is)
    (case c17 => k_is)
    (case k17 => k_is)
    (case a18 => k_is)
    (case l18 => k_is)
    (case c18 => k_is)
    (case k18 => k_is)
    (case a19 => k_is)
    (case l19 => k_is)
    (case c19 => k_is)
    (case k19 => k_is)
    (case a20 => k_is)
    (case l20 => k_is)
    (case c20 => k_is)
    (case k20 => k_is)
    (case a21 => k_is)
    (case l21 => k_is)
    (case c21 => k_is)
    (case k21 => k_is)
    (case a22 => k_is)
    (case l22 => k_is)
    (case c22 => k_is)
    (case k22 => k_is)
    (case a23 => k_is)
    (case l23 => k_is)
    (case c23 => k_is)
    (case k23 => k_is)
    (case a24 => k_is)
    (case i24 => k_is)
    (case l24 => k_is)
    (case c24 => k_is)
    (case k24 => k_is)
    (case a25 => k_is)
    (case i25 => k_is)
    (case l25 => k_is)
    (case c25 => k_is)
    (case k25 => k_is)
    (case a26 => k_is)
    (case i26 => k_is)
    (case l26 => k_is)
    (case c26 => k_is)
    (case k26 => k_is)
    (case a27 => k_is)
    (case i27 => k_is)
    (case l27 => k_is)
    (case c27 => k_is)
    (case k27 => k_is)
    (case a28 => k_is)
    (case i28 => k_is)
    (case l28 => k_is)
    (case c28 => k_is)
    (case k28 => k_is)
    (case a29 => k_is)
    (case i29 => k_is)
    (case l29 => k_is)
    (case c29 => k_is)
    (case k29 => k_is)
    (case a30 => k_is)
    (case i30 => k_is)
    (case l30 => k_is)
    (case c30 => k_is)
    (case k30 => k_is)
    (case a31 => k_is)
    (case i31 => k_is)
    (case l31 => k_is)
    (case c31 => k_is)
    (case k31 => k_is)
    (case a32 => k_is)
    (case i32 => k_is)
    (case l32 => k_is)
    (case c32 => k_is)
    (case k32 => k_is)
    (case a33 => k_is)
    (case i33 => k_is)
    (case l33 => k_is)
    (case c33 => k_is)
    (case k33 => k_is)
    (case a34 => k_is)
    (case i34 => k_is)
    (case l34 => k_is)
    (case c34 => k_is)
    (case k34 => k_is)
    (case a35 => k_is)
    (case l35 => k_is)
    (case c35 => k_is)
    (case k35 => k_is)
    (case a36 => k_is)
    (case l36 => k_is)
    (case c36 => k_is)
    (case k36 => k_is)
    (case a37 => k_is)
    (case l37 => k_is)
    (case c37 => k_is)
    (case k37 => k_is)
    (case a38 => k_is)
    (case l38 => k_is)
    (case c38 => k_is)
    (case k38 => k_is)
    (case a39 => k_is)
    (case l39 => k_is)
    (case c39 => k_is)
    (case k39 => k_is)
    (case a40 => k_is)
    (case l40 => k_is)
    (case c40 => k_is)
    (case k40 => k_is)
    (case a41 => k_is)
    (case l41 => k_is)
    (case c41 => k_is)
    (case k41 => k_is)
    (case a42 => k_is)
    (case l42 => k_is)
    (case c42 => k_is)
    (case k42 => k_is)
    (case x_VaultError => first | k_exc | k_is)
    (case k_VaultError => k_is)
    (case xb_VaultError => k_is)
    (case xt_VaultError => k_is)
    (case xi_VaultError => k_is)
    (case xs_VaultError => k_is)
    (case x_PowerCut => first | k_exc | k_is)
    (case k_PowerCut => k_is)
    (case xb_PowerCut => k_is)
    (case xt_PowerCut => k_is)
    (case xi_PowerCut => k_is)
    (case xga_PowerCut => k_is)
    (case xgt_PowerCut => k_is)
    (case xhd_PowerCut => k_is)
    (case xcl_PowerCut => k_is)
    (case xn_PowerCut => k_is)
    (case xta_PowerCut => k_is)
    (case xm_PowerCut => k_is)
    (case xv_PowerCut => k_is)
    (case xs_PowerCut => k_is)
    (case xs_PowerCut_VaultError => k_is)
    (case pg_Device => k_is)
    (case hd_Device => k_is)
    (case po_Device => k_is)
    (case sa_Device => k_is)
    (case mk_Device => k_is)
    (case kc_Device => k_is)
    (case n_Device__durable_pages => k_is)
    (case n_Device__page_writes => k_is)
    (case n_Device__durable_log => k_is)
    (case n_Device__log_steps => k_is)
    (case n_Device__steps_performed => k_is)
    (case n_Device__steps_allowed => k_is)
    (case pg_Pager => k_is)
    (case hd_Pager => k_is)
    (case po_Pager => k_is)
    (case sa_Pager => k_is)
    (case mk_Pager => k_is)
    (case kc_Pager => k_is)
    (case n_Pager__device => k_is)
    (case n_Pager__dirty => k_is)
    (case n_Pager__committed_since_checkpoint => k_is)
    (case z_list => k_is)
    (case z_range => k_is)
    (case z_sorted => k_is)
    (case z_all => k_is)
    (case z_len => k_is)
    (case z_reversed => k_is)
    (case z_zip => k_is)
    (case z_int => k_is)
    (case z_dict => k_is)
    (case z_max => k_is)
    (case aPAGE_SIZE => k_is)
    (case aHALF_PAGE => k_is)
    (case aTAKES_EFFECT => k_is)
    (case aFIRST_HALF_TAKES_EFFECT => k_is)
    (case aNUMBER_WIDTH => k_is)
    (case aPAIR_SIZE => k_is)
    (case aHEAD => k_is)
    (case aPAGE_COUNT => k_is)
    (case bind => obtain ⟨_, e⟩ := hT; rw [e]; exact .of_eq rfl)
#print axioms PySem.Challenge.cw_nearvault_k06_whole_pagers_and_power_holds



