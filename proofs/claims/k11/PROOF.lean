import PyProof.Rows.All
import Wide.All
import OpenK.AllK
import Wide.FinOn
import HandS.ForMost
import HandS.ForExc
import HandS.Wide
import HandS.WideBits
import HandS.IsInst
import HandS.ExcIs
import HandS.CallSlots
import HandS.Defaults
import HandS.StrMore
import HandS.Style
import HandS.Flow
import HandS.Walk
import HandS.Replace
import HandS.Codes
import HandS.Zip
import PySem.Challenge.RW_stufflists_k11_fractions_made
set_option Elab.async false
set_option linter.all false
set_option maxRecDepth 100000
namespace G
open PySem PySem.Spec PyProof.Rows L2
/-! ### numbers -/
def CDivG (_ j : Int) : Prop := j ≠ 0 ∧ j.natAbs.log2 < 9000
theorem op_fdivG {X : Cx} : OpR X (binaryOp .FloorDiv) (rI CDivG fun i j => .int (i.fdiv j)) := opI fun _ _ _ _ _ _ _ hc q => floordiv_int hc.1 q (.inl (PyProof.noPylong_of_log2 hc.2))
theorem CDivG.of {i j : Int} {b : Nat} (h : j ≠ 0) (hb : j.natAbs < 2 ^ b) (h0 : 0 < b) (h9 : b ≤ 9000) : CDivG i j := ⟨h, Nat.lt_of_lt_of_le (PySem.Flt.log2_lt_of h0 hb) h9⟩
def gc (a b : Int) : Nat := Nat.gcd a.natAbs b.natAbs
def ms (a b : Int) : Int := if b < 0 then -(gc a b : Int) else (gc a b : Int)
def low1 (a b : Int) : Int := a.fdiv (ms a b)
def low2 (a b : Int) : Int := b.fdiv (ms a b)
def isFr (a b : Int) : Bool := decide (0 < b) && decide (gc a b = 1)
theorem gc_pos {a b : Int} (h : b ≠ 0) : 0 < gc a b := Nat.gcd_pos_of_pos_right _ (by omega)
theorem ms_ne {a b : Int} (h : b ≠ 0) : ms a b ≠ 0 := by
  have := gc_pos (a := a) h
  unfold ms
  split <;> omega
theorem gc_dvd1 (a b : Int) : (gc a b : Int) ∣ a := Int.ofNat_dvd_left.mpr (Nat.gcd_dvd_left _ _)
theorem gc_dvd2 (a b : Int) : (gc a b : Int) ∣ b := Int.ofNat_dvd_left.mpr (Nat.gcd_dvd_right _ _)
theorem ms_dvd1 (a b : Int) : ms a b ∣ a := by
  unfold ms
  split
  · exact Int.neg_dvd.mpr (gc_dvd1 a b)
  · exact gc_dvd1 a b
theorem ms_dvd2 (a b : Int) : ms a b ∣ b := by
  unfold ms
  split
  · exact Int.neg_dvd.mpr (gc_dvd2 a b)
  · exact gc_dvd2 a b
theorem low1_mul (a b : Int) : ms a b * low1 a b = a := by
  unfold low1
  rw [Int.fdiv_eq_ediv_of_dvd (ms_dvd1 a b)]
  exact Int.mul_ediv_cancel' (ms_dvd1 a b)
theorem low2_mul (a b : Int) : ms a b * low2 a b = b := by
  unfold low2
  rw [Int.fdiv_eq_ediv_of_dvd (ms_dvd2 a b)]
  exact Int.mul_ediv_cancel' (ms_dvd2 a b)
theorem ms_natAbs (a b : Int) : (ms a b).natAbs = gc a b := by
  unfold ms
  split <;> omega
theorem low_cross (a b : Int) (h : b ≠ 0) : low1 a b * b = low2 a b * a := by
  have e1 := low1_mul a b
  have e2 := low2_mul a b
  have : low1 a b * (ms a b * low2 a b) = low2 a b * (ms a b * low1 a b) := by
    rw [← Int.mul_assoc, ← Int.mul_assoc, Int.mul_comm (low1 a b) (ms a b), Int.mul_comm (low2 a b) (ms a b), Int.mul_assoc, Int.mul_assoc, Int.mul_comm (low1 a b)]
  rw [e1, e2] at this
  exact this
theorem low2_pos {a b : Int} (h : b ≠ 0) : 0 < low2 a b := by
  have e2 := low2_mul a b
  have g := gc_pos (a := a) h
  by_cases hb : b < 0
  · have em : ms a b = -(gc a b : Int) := if_pos hb
    rw [em] at e2
    by_cases hz : 0 < low2 a b
    · exact hz
    · have h1 : 0 ≤ (gc a b : Int) * -(low2 a b) := Int.mul_nonneg (by omega) (by omega)
      rw [Int.mul_neg] at h1
      rw [Int.neg_mul] at e2
      omega
  · have em : ms a b = (gc a b : Int) := if_neg hb
    rw [em] at e2
    by_cases hz : 0 < low2 a b
    · exact hz
    · have h1 : 0 ≤ (gc a b : Int) * -(low2 a b) := Int.mul_nonneg (by omega) (by omega)
      rw [Int.mul_neg] at h1
      omega
theorem low1_abs (a b : Int) : gc a b * (low1 a b).natAbs = a.natAbs := by
  have e := congrArg Int.natAbs (low1_mul a b)
  rw [Int.natAbs_mul, ms_natAbs] at e
  exact e
theorem low2_abs (a b : Int) : gc a b * (low2 a b).natAbs = b.natAbs := by
  have e := congrArg Int.natAbs (low2_mul a b)
  rw [Int.natAbs_mul, ms_natAbs] at e
  exact e
theorem low_gc {a b : Int} (h : b ≠ 0) : gc (low1 a b) (low2 a b) = 1 := by
  have g := gc_pos (a := a) h
  have e1 := low1_abs a b
  have e2 := low2_abs a b
  have f1 : (low1 a b).natAbs = a.natAbs / gc a b := by
    rw [← e1, Nat.mul_div_cancel_left _ g]
  have f2 : (low2 a b).natAbs = b.natAbs / gc a b := by
    rw [← e2, Nat.mul_div_cancel_left _ g]
  show Nat.gcd (low1 a b).natAbs (low2 a b).natAbs = 1
  rw [f1, f2]
  exact Nat.gcd_div_gcd_div_gcd_of_pos_right (by omega)
theorem low1_le {a b : Int} (h : b ≠ 0) : (low1 a b).natAbs ≤ a.natAbs := by
  have g := gc_pos (a := a) h
  have e1 := low1_abs a b
  calc (low1 a b).natAbs ≤ gc a b * (low1 a b).natAbs := Nat.le_mul_of_pos_left _ g
    _ = a.natAbs := e1
theorem low2_le {a b : Int} (h : b ≠ 0) : (low2 a b).natAbs ≤ b.natAbs := by
  have g := gc_pos (a := a) h
  have e1 := low2_abs a b
  calc (low2 a b).natAbs ≤ gc a b * (low2 a b).natAbs := Nat.le_mul_of_pos_left _ g
    _ = b.natAbs := e1
theorem low_fr {a b : Int} (h : b ≠ 0) : isFr (low1 a b) (low2 a b) = true := by
  unfold isFr
  rw [decide_eq_true (low2_pos h), decide_eq_true (low_gc h)]
  rfl
/-- of a fraction the lowest terms are itself -/
theorem low_self {a b : Int} (hb : 0 < b) : (low1 a b = a ∧ low2 a b = b) ↔ gc a b = 1 := by
  have e1 := low1_mul a b
  have e2 := low2_mul a b
  have em : ms a b = (gc a b : Int) := if_neg (by omega)
  rw [em] at e1 e2
  constructor
  · rintro ⟨_, h2⟩
    rw [h2] at e2
    have : ((gc a b : Int) - 1) * b = 0 := by
      rw [Int.sub_mul, e2]
      omega
    rcases Int.mul_eq_zero.mp this with h | h
    · omega
    · omega
  · intro h
    rw [h] at e1 e2
    omega
theorem gc_step {x y : Int} (hx : 0 ≤ x) (hy : 0 < y) : gc y (x % y) = gc x y := by
  have h1 : (x % y).natAbs = x.natAbs % y.natAbs := Int.natAbs_emod_of_nonneg hx y
  unfold gc
  rw [h1, Nat.gcd_comm x.natAbs y.natAbs, Nat.gcd_rec y.natAbs x.natAbs, Nat.gcd_comm]
/-! ### heaps -/
theorem same_upd {H : Hp} {p : Addr} {o : HO} (h : H p = none) : Same H (upd H p o) := fun b x e => by
  rw [upd_ne (ne_of_none e h)]
  exact e
def Keep (p : Addr) (H H' : Hp) : Prop := ∀ b o, b ≠ p → H b = some o → H' b = some o
def Pot (H : Hp) (p : Addr) : Prop := ∃ a b : Int, H p = some (.lst [.int a, .int b]) ∧ 0 ≤ a ∧ 0 ≤ b ∧ b < 2147483647
theorem Keep.refl {p : Addr} {H : Hp} : Keep p H H := fun _ _ _ h => h
theorem Keep.trans {p : Addr} {H H1 H2 : Hp} (a : Keep p H H1) (b : Keep p H1 H2) : Keep p H H2 := fun c o n h => b c o n (a c o n h)
theorem same_keep {p : Addr} {H H1 : Hp} (a : Same H H1) : Keep p H H1 := fun c o _ h => a c o h
theorem Pot.same {p : Addr} {H H1 : Hp} (h : Pot H p) (a : Same H H1) : Pot H1 p := by
  obtain ⟨x, y, e, r⟩ := h
  exact ⟨x, y, a _ _ e, r⟩
theorem Pot.ne {p q : Addr} {H : Hp} (h : Pot H p) (n : H q = none) : p ≠ q := by
  obtain ⟨x, y, e, r⟩ := h
  exact ne_of_none e n
theorem keep_upd {p : Addr} {H : Hp} {o : HO} : Keep p H (upd H p o) := fun b x n e => by
  rw [upd_ne n]
  exact e
/-- a new thing behind draws is none that was -/
theorem Keep.free {p q : Addr} {H H' : Hp} (k : Keep p H H') (h : Pot H' p) (n : H' q = none) : H q = none := by
  cases e : H q with
  | none => rfl
  | some o =>
    by_cases z : q = p
    · subst z
      obtain ⟨_, _, f, _⟩ := h
      rw [f] at n
      cases n
    · rw [k q o z e] at n
      cases n
/-! ### things whose kind is known -/
inductive Kd (H : Hp) : V → Prop where
  | non : Kd H .non
  | bl (b : Bool) : Kd H (.bl b)
  | int (i : Int) : Kd H (.int i)
  | str (x : Str) : Kd H (.str x)
  | lst {a : Addr} {xs : List V} : H a = some (.lst xs) → Kd H (.ref a)
  | tup {a : Addr} {xs : List V} : H a = some (.tup xs) → (∀ x ∈ xs, Kd H x) → Kd H (.ref a)
  | dK {a : Addr} {kvs : List (Key × V)} : H a = some (.dK kvs) → Kd H (.ref a)
theorem Kd.same {H H' : Hp} {x : V} (k : Kd H x) (s : Same H H') : Kd H' x := by
  induction k with
  | non => exact .non
  | bl b => exact .bl b
  | int i => exact .int i
  | str x => exact .str x
  | lst e => exact .lst (s _ _ e)
  | tup e _ ih => exact .tup (s _ _ e) ih
  | dK e => exact .dK (s _ _ e)
def tyN (H : Hp) : V → String
  | .non => "NoneType"
  | .bl _ => "bool"
  | .int _ => "int"
  | .str _ => "str"
  | .ref a => match H a with
    | some (.lst _) => "list"
    | some (.tup _) => "tuple"
    | _ => "dict"
  | _ => "dict"
theorem tyN_lst {H : Hp} {a : Addr} {xs : List V} (e : H a = some (.lst xs)) : tyN H (.ref a) = "list" := by simp only [tyN, e]
theorem tyN_tup {H : Hp} {a : Addr} {xs : List V} (e : H a = some (.tup xs)) : tyN H (.ref a) = "tuple" := by simp only [tyN, e]
theorem tyN_dK {H : Hp} {a : Addr} {kvs : List (Key × V)} (e : H a = some (.dK kvs)) : tyN H (.ref a) = "dict" := by simp only [tyN, e]
theorem Kd.ty {K : PySem.W.Frag} {H : Hp} {x : V} (k : Kd H x) : TyX K H x (.type (tyN H x)) := by
  cases k with
  | non => exact .base .non
  | bl b => exact .base (.bl b)
  | int i => exact .base (.int i)
  | str z => exact .base (.str z)
  | lst e =>
    rw [tyN_lst e]
    exact .base (.lst e)
  | tup e _ =>
    rw [tyN_tup e]
    exact .base (.tup e)
  | dK e =>
    rw [tyN_dK e]
    exact .base (.dK e)
theorem Kd.tyN_mem {H : Hp} {x : V} (k : Kd H x) : tyN H x ∈ ["NoneType", "bool", "int", "str", "list", "tuple", "dict"] := by
  cases k with
  | non => exact .head _
  | bl b => exact .tail _ (.head _)
  | int i => exact .tail _ (.tail _ (.head _))
  | str z => exact .tail _ (.tail _ (.tail _ (.head _)))
  | lst e =>
    rw [tyN_lst e]
    decide
  | tup e _ =>
    rw [tyN_tup e]
    decide
  | dK e =>
    rw [tyN_dK e]
    decide
def sub (t n : String) : Bool := t == n || (t == "bool" && n == "int")
theorem kit7 {t n : String} (ht : t ∈ ["NoneType", "bool", "int", "str", "list", "tuple", "dict"]) (hn : n ∈ ["bool", "int", "str", "tuple", "list", "dict"]) : kitB t n = some (sub t n) := by
  simp only [List.mem_cons, List.not_mem_nil, or_false] at ht hn
  rcases ht with rfl | rfl | rfl | rfl | rfl | rfl | rfl <;> rcases hn with rfl | rfl | rfl | rfl | rfl | rfl <;> decide +kernel
/-- isinstance(x, n) of such a thing -/
theorem isi {K : PySem.W.Frag} {H : Hp} {x : V} {n : String} {Q : VK} (k : Kd H x) (hn : n ∈ ["bool", "int", "str", "tuple", "list", "dict"]) (q : Q (.bl (sub (tyN H x) n)) H) : rIsi K [x, .ty n] H Q :=
  ⟨x, .ty n, _, _, _, rfl, .ty n, k.ty, kit_ty (kit7 k.tyN_mem hn), q⟩
/-- whether it is a fraction -/
def frB (H : Hp) : V → Bool
  | .ref a => match H a with
    | some (.tup [.int i, .int j]) => isFr i j
    | _ => false
  | _ => false
end G
set_option Elab.async false
set_option linter.all false
set_option maxRecDepth 100000
set_option maxHeartbeats 1000000
namespace G
open PySem PySem.Spec PyProof.Rows L2
/-! ### t[::-1], t a tuple of two -/
section
variable {prog : Program} {w : World} {A : Around} {E : Value → Shared → Prop} {s : Shared}
theorem rev_applied {sl : Addr} {vl vu vs : Value} {Q : Int × Int × Nat → Shared → Prop} (hs : s.heap.IsSliceOf sl vl vu vs) (pl : IsPart vl none) (pu : IsPart vu none) (pt : IsPart vs (some (-1))) (h : Q (1, -1, 2) s) : wpAny (model prog w) A (Builtin.Slice.sliceApplied (.ref sl) (pure (2 : Int))) Q E s := by
  obtain ⟨o, ho, _, hd⟩ := id hs
  unfold Builtin.Slice.sliceApplied Builtin.Slice.sliceFields
  refine wpAny_bind (wpAny_bind (wpAny_field ho hd (x := vl) rfl (wpAny_bind (wpAny_field ho hd (x := vu) rfl (wpAny_bind (wpAny_field ho hd (x := vs) rfl (wpAny_pure (wpAny_bind (HT.slicePart_ pt ?_)))))))))
  show wpAny _ _ (if ((-1 : Int) == 0) = true then _ else _) _ _ s
  rw [if_neg (by decide)]
  exact wpAny_bind (HT.slicePart_ pl (wpAny_bind (HT.slicePart_ pu (wpAny_bind (wpAny_pure (wpAny_pure h))))))
theorem getItem_rev2 {t sl : Addr} {x y vl vu vs : Value} {Q : Value → Shared → Prop} (ht : IsTup s.heap t #[x, y]) (hs : s.heap.IsSliceOf sl vl vu vs) (pl : IsPart vl none) (pu : IsPart vu none) (pt : IsPart vs (some (-1)))
    (h : Q (.ref s.heap.objs.size) { s with heap := s.heap.push { cls := .type "tuple", data := .seq #[y, x] } }) : wpAny (model prog w) A (getItem (.ref t) (.ref sl)) Q E s := by
  have fit : sizeOk (.seq #[y, x]) := by show 2 ≤ sizeLine; decide
  obtain ⟨o, ho, hc, hd⟩ := id hs
  have hT : s.TypeIs (.ref sl) "slice" := ⟨o, ho, hc⟩
  unfold getItem
  first | (with_reducible refine wpAny_holding ?_) | skip
  first | refine wpAny_bind (wpAny_pure ?_) | skip
  refine wpAny_bind (wpAny_sequenceKey ht.typeIs (by decide) (wpAny_bind (wpAny_callSpecial?_slot (name := Str.ofString "__getitem__") ht.typeIs PyProof.Rows.slot_tuple_getitem (wpAny_call_entry PyProof.Rows.slot_tuple_getitem ht.typeIs entry_tuple_getitem ?_ (args_tuple_getitem _ _)))))
  show wpAny _ _ (Builtin.Tuple.tupleItemsOf (.ref t) >>= _) _ _ s
  refine wpAny_bind (tupleItemsOf_ ht (wpAny_bind (wpAny_typeOf hT ?_)))
  rw [if_pos (by decide)]
  refine wpAny_bind (rev_applied hs pl pu pt ?_)
  show wpAny _ _ (if ((1 : Int) == 0 && (-1 : Int) == 1 && (2 : Nat) == 2) = true then _ else _) _ _ s
  rw [if_neg (by decide)]
  first
    | exact wpAny_bind (m := Builtin.Tuple.tupleExact #[y, x]) (wpAny_newObj_type (wpAny_pure ⟨_, rfl, wpAny_pure h⟩) fit)
    | exact wpAny_bind (m := Builtin.Tuple.tupleExact #[y, x]) (wpAny_newObj_type (wpAny_bind (wpAny_pure (wpAny_pure ⟨_, rfl, wpAny_pure h⟩))) fit)
    | exact wpAny_bind (wpAny_bind (m := Builtin.Tuple.tupleExact #[y, x]) (wpAny_newObj_type (wpAny_pure (wpAny_pure ⟨_, rfl, wpAny_pure h⟩)) fit))
    | exact wpAny_bind (wpAny_bind (m := Builtin.Tuple.tupleExact #[y, x]) (wpAny_newObj_type (wpAny_pure ⟨_, rfl, wpAny_pure h⟩) fit))
end
def tRevT (K : PySem.W.Frag) (te : TE) : TE := fun σ H Q => te σ H fun x H1 => ∃ a u v, x = .ref a ∧ SqT K H1 a [u, v] ∧ ∀ p, H1 p = none → Q (.ref p) (upd H1 p (.tup [v, u]))
theorem pe_revT {X : Cx} {e : Expr} {te : TE} {k : Nat} {p1 p2 p3 pos : Pos} (he : PE X e te) : PE X (.Subscript e (.Slice none none (some (.UnaryOp .USub (.Constant (.int 1) k p1) p2)) p3) pos) (tRevT X.K te) := by
  refine ⟨fun pins s σ H Q I h => Subscript_ (thn (he.run pins s σ H _ I h) fun v s1 ⟨x, H1, I1, r1, q1⟩ => ?_)⟩
  obtain ⟨a, y, z, rfl, hx, q⟩ := q1
  cases r1
  have ht : PO X (some (.UnaryOp .USub (.Constant (.int 1) k p1) p2)) (tPart (tUn (rU fun i => .int (-i)) (tC (.int 1)))) := po_some (pe_un un_neg pe_int)
  refine wpAny_Slice (thn (po_none.run pins s1 σ H1 (fun o H2 => o = none ∧ H2 = H1) I1 ⟨rfl, rfl⟩) fun vl s2 ⟨l, H2, I2, pl, el, e2⟩ => ?_)
  subst el e2
  refine thn (po_none.run pins s2 σ H2 (fun o H3 => o = none ∧ H3 = H2) I2 ⟨rfl, rfl⟩) fun vu s3 ⟨u, H3, I3, pu, eu, e3⟩ => ?_
  subst eu e3
  refine thn (ht.run pins s3 σ H3 (fun o H4 => o = some (-1) ∧ H4 = H3) I3 ⟨1, rfl, -1, rfl, rfl, rfl⟩) fun vs s4 ⟨o, H4, I4, pt, eo, e4⟩ => ?_
  subst eo e4
  have J : Inv X pins σ H4 { s4 with heap := s4.heap.push { cls := .type "slice", data := .fields #[vl, vu, vs] } } := I4.kept (t' := s4.toks) fun b ob e => Heap.get?_push_of_some _ e
  obtain ⟨its, r, hT, hz⟩ := J.tuple hx
  cases r with
  | cons ra r =>
    cases r with
    | cons rb r =>
      cases r
      show wpAny (model X.prog X.w) X.A (subscriptTail e (.Slice none none (some (.UnaryOp .USub (.Constant (.int 1) k p1) p2)) p3) (.ref a) (.ref s4.heap.objs.size)) _ _ _
      refine tail_any (ops := [.ref a, .ref s4.heap.objs.size]) hT.typeIs PyProof.Rows.slot_tuple_getitem.lookup (getItem_rev2 hT (Heap.IsSliceOf.new _ vl vu vs) pl pu pt ?_) (by with_unfolding_all rfl)
      refine ⟨.ref _, _, J.laid (t' := s4.toks) (o := .tup [z, y]) (fun b ob e => Heap.get?_push_of_some _ e) (Nat.le_refl _) ?_, rfl, q _ (J.hok.fresh (Nat.le_refl _))⟩
      exact ⟨by show 2 ≤ sizeLine; decide, _, .cons rb (.cons ra .nil), IsTup.new _ _⟩
end G
set_option Elab.async false
set_option linter.all false
set_option maxRecDepth 100000
namespace G
open PySem PySem.Spec PyProof.Rows L2
def topS (i : Nat) : Stmt := PySem.Challenge.pw_stufflists_k11_fractions_made.main.body.getD i (.Pass ⟨0, 0, 0, 0⟩)
abbrev sMeas : Stmt := topS 5
theorem scMeas : FnScope ["one", "other"] ["one", "other"] (defScope sMeas) := ⟨rfl, rfl, rfl, by decide +kernel, rfl, by decide +kernel, by decide +kernel⟩
section
variable {P : Program} {w : World} {K : PySem.W.Frag} {mg : Str → Option Value} {base : Heap}
def spMeas : Sp := fun vs H Q _ => ∃ a b : Int, vs = [.int a, .int b] ∧ 0 ≤ a ∧ 0 ≤ b ∧ Q (.int (gc a b)) H
theorem ok_meas {f : Addr} {fd : FuncData} (F : Fun K "common_measure" "common_measure" sMeas f fd) : FnOk P w K mg base CX0 1 f fd ["one", "other"] spMeas := by
  refine F.ok scMeas (fun vs H Q E h => ?_) (fun cdv A outer s H vs Q E hr h => ?_)
  · obtain ⟨a, b, rfl, _⟩ := h
    rfl
  · obtain ⟨a, b, rfl, ha, hb, q⟩ := h
    refine ⟨_, pss_cons (ps_while PassesOwn.never (pt_cmpR op_gt (pv 1) pe_int (nomark _))
        (pss_one (ps_par (i := 0) (j := 1) (by rfl) scMeas.nd rfl rfl (by decide) rfl rfl (pa_cons (pv 1) (pa_cons (pe_op op_mod (pv 0) (pv 1)) pa_nil)) (by rfl))))
      (pss_one (ps_ret (pv 0))), ?_⟩
    refine ⟨fun m σ H' => ∃ x y : Int, σ = [some (.int x), some (.int y)] ∧ 0 ≤ x ∧ 0 ≤ y ∧ gc x y = gc a b ∧ m = y.toNat ∧ H' = H, ⟨_, a, b, rfl, ha, hb, rfl, rfl, rfl⟩, ?_⟩
    rintro m σ H' ⟨x, y, rfl, hx, hy, hg, rfl, rfl⟩
    refine ⟨_, rfl, y, 0, rfl, rfl, _, rfl, ite2 (fun e => ?_) (fun e => ?_)⟩
    · have e0 : 0 < y := of_decide_eq_true e
      refine ⟨fun σ' H2 => ∃ x' y' : Int, σ' = [some (.int x'), some (.int y')] ∧ 0 ≤ x' ∧ 0 ≤ y' ∧ gc x' y' = gc a b ∧ y' < y ∧ H2 = H', fun σ' H2 hN => ?_, ?_⟩
      · obtain ⟨x', y', h1, h2, h3, h4, h5, h6⟩ := hN
        exact ⟨_, by omega, x', y', h1, h2, h3, h4, rfl, h6⟩
      · refine ⟨_, rfl, _, rfl, _, rfl, x, y, rfl, rfl, e0, _, _, rfl, y, x % y, rfl, hy, Int.emod_nonneg _ (by omega), (gc_step hx e0).trans hg, Int.emod_lt_of_pos _ e0, rfl⟩
    · have e0 : ¬ 0 < y := fun z => e (decide_eq_true z)
      have e1 : y = 0 := by omega
      subst e1
      refine ⟨_, rfl, ?_⟩
      have : (x : Int) = (gc a b : Int) := by
        rw [← hg]
        unfold gc
        rw [Int.natAbs_zero, Nat.gcd_zero_right]
        omega
      rw [this]
      exact q
/-! ### fraction, where the bottom is not 0 -/
abbrev sFrac : Stmt := topS 6
theorem scFrac : FnScope ["top", "bottom", "measure"] ["top", "bottom"] (defScope sFrac) := ⟨rfl, rfl, rfl, by decide +kernel, rfl, by decide +kernel, by decide +kernel⟩
theorem abs_nn (a : Int) : 0 ≤ (if a < 0 then -a else a) := by split <;> omega
theorem gc_abs (a b : Int) : gc (if a < 0 then -a else a) (if b < 0 then -b else b) = gc a b := by
  unfold gc
  have h : ∀ x : Int, (if x < 0 then -x else x).natAbs = x.natAbs := fun x => by split <;> omega
  rw [h, h]
theorem gc_lt {a b : Int} {n : Nat} (h : b ≠ 0) (hb : b.natAbs < n) : gc a b < n := Nat.lt_of_le_of_lt (Nat.le_of_dvd (by omega) (Nat.gcd_dvd_right _ _)) hb
def spFrac : Sp := fun vs H Q _ => ∃ a b : Int, vs = [.int a, .int b] ∧ b ≠ 0 ∧ b.natAbs < 2 ^ 8000 ∧ ∀ p, H p = none → Q (.ref p) (upd H p (.tup [.int (low1 a b), .int (low2 a b)]))
theorem ok_frac {f fM : Addr} {fd fdM : FuncData} (F : Fun K "fraction" "fraction" sFrac f fd) (FM : Fun K "common_measure" "common_measure" sMeas fM fdM) (bM : Binds K fdM ["one", "other"] []) (gM : mg "common_measure" = some (.ref fM)) (mA : mg "abs" = none) :
    FnOk P w K mg base CX0 2 f fd ["top", "bottom"] spFrac := by
  have GM : FnOk P w K mg base CX0 1 fM fdM ["one", "other"] spMeas := ok_meas FM
  refine F.ok scFrac (fun vs H Q E h => ?_) (fun cdv A outer s H vs Q E hr h => ?_)
  · obtain ⟨a, b, rfl, _⟩ := h
    rfl
  · obtain ⟨a, b, rfl, hb, hz, q⟩ := h
    refine ⟨_, pss_cons (ps_if (pt_cmpR op_eq (pv 1) pe_int (nomark _)) (pss_one ps_never) pss_nil)
      (pss_cons (ps_set (i := 2) scFrac.nd rfl (.inl rfl) (pe_call GM hr (by rfl) gM FM.kp bM .nil pass0 (pa_cons (pe_callB call_abs (by rfl) mA (by decide +kernel) (pa_cons (pv 0) pa_nil)) (pa_cons (pe_callB call_abs (by rfl) mA (by decide +kernel) (pa_cons (pv 1) pa_nil)) pa_nil))))
      (pss_cons (ps_if (pt_cmpR op_lt (pv 1) pe_int (nomark _)) (pss_one (ps_set (i := 2) scFrac.nd rfl (.inl rfl) (pe_un un_neg (pv 2)))) pss_nil)
      (pss_one (ps_ret (pe_tup (pa_cons (pe_op op_fdivG (pv 0) (pv 2)) (pa_cons (pe_op op_fdivG (pv 1) (pv 2)) pa_nil))))))), ?_⟩
    refine ⟨_, rfl, rfl, _, rfl, ite2 (fun e => ?_) (fun _ => ?_)⟩
    · exact absurd (V.int.inj (of_decide_eq_true e)) hb
    refine ⟨_, rfl, a, rfl, _, rfl, b, rfl, _, _, rfl, abs_nn a, abs_nn b, ?_⟩
    rw [gc_abs]
    have fin : ∀ m : Int, m = ms a b → (tRet (tTup (tCons (tOp (rI CDivG fun i j => .int (i.fdiv j)) (tVar 0) (tVar 2)) (tCons (tOp (rI CDivG fun i j => .int (i.fdiv j)) (tVar 1) (tVar 2)) tNil)))) { nx := fun _ H' => Q .non H', rt := Q } [some (.int a), some (.int b), some (.int m)] H := by
      rintro m rfl
      have hd : ∀ i, CDivG i (ms a b) := fun i => CDivG.of (b := 8000) (ms_ne hb) (by rw [ms_natAbs]; exact gc_lt hb hz) (by decide) (by decide)
      exact ⟨_, rfl, _, rfl, a, _, rfl, rfl, hd a, _, rfl, _, rfl, b, _, rfl, rfl, hd b, by show 2 ≤ sizeLine; decide, fun p np => q p np⟩
    refine ⟨_, rfl, b, 0, rfl, rfl, _, rfl, ite2 (fun e => ?_) (fun e => ?_)⟩
    · have e0 : b < 0 := of_decide_eq_true e
      refine ⟨_, rfl, _, rfl, ?_⟩
      exact fin _ (if_pos e0).symm
    · have e0 : ¬ b < 0 := fun z => e (decide_eq_true z)
      exact fin _ (if_neg e0).symm
/-! ### is_whole -/
abbrev sWhole : Stmt := topS 4
theorem scWhole : FnScope ["thing"] ["thing"] (defScope sWhole) := ⟨rfl, rfl, rfl, by decide +kernel, rfl, by decide +kernel, by decide +kernel⟩
def isW : V → Bool
  | .int _ => true
  | _ => false
def spWhole : Sp := fun vs H Q _ => ∃ x : V, vs = [x] ∧ Kd H x ∧ Q (.bl (isW x)) H
theorem ok_whole {f : Addr} {fd : FuncData} (F : Fun K "is_whole" "is_whole" sWhole f fd) (mI : mg "isinstance" = none) (mInt : mg "int" = none) (mB : mg "bool" = none) : FnOk P w K mg base CX0 1 f fd ["thing"] spWhole := by
  refine F.ok scWhole (fun vs H Q E h => ?_) (fun cdv A outer s H vs Q E hr h => ?_)
  · obtain ⟨x, rfl, _⟩ := h
    rfl
  · obtain ⟨x, rfl, k, q⟩ := h
    refine ⟨_, pss_one (ps_ret (pe_and (pe_callB call_isi (by rfl) mI (by decide +kernel) (pa_cons (pv 0) (pa_cons (pe_bltn (v := .ty "int") (by rfl) mInt (by decide +kernel) rfl) pa_nil)))
      (pe_one (pe_not (pe_callB call_isi (by rfl) mI (by decide +kernel) (pa_cons (pv 0) (pa_cons (pe_bltn (v := .ty "bool") (by rfl) mB (by decide +kernel) rfl) pa_nil))))))), ?_⟩
    refine ⟨x, rfl, x, .ty "int", _, _, _, rfl, .ty _, k.ty, kit_ty (kit7 k.tyN_mem (by decide)), _, rfl, ite2 (fun e => ?_) (fun e => ?_)⟩
    · refine ⟨x, rfl, x, .ty "bool", _, _, _, rfl, .ty _, k.ty, kit_ty (kit7 k.tyN_mem (by decide)), _, rfl, ?_⟩
      have : (!sub (tyN H x) "bool") = isW x := by
        cases k with
        | non => cases e
        | bl b => rfl
        | int i => rfl
        | str z => cases e
        | lst h =>
          rw [tyN_lst h] at e
          cases e
        | tup h _ =>
          rw [tyN_tup h] at e
          cases e
        | dK h =>
          rw [tyN_dK h] at e
          cases e
      rw [this]
      exact q
    · have : false = isW x := by
        cases k with
        | int i => exact absurd rfl e
        | _ => rfl
      rw [this]
      exact q
end
theorem Kd.cases_tup {H : Hp} {x : V} (k : Kd H x) : (∃ t, (∀ K, TyX K H x (.type t)) ∧ kitB t "tuple" = some false ∧ frB H x = false) ∨ (∃ a xs, x = .ref a ∧ H a = some (.tup xs) ∧ ∀ y ∈ xs, Kd H y) := by
  cases k with
  | non => exact .inl ⟨_, fun K => .base .non, by decide +kernel, rfl⟩
  | bl b => exact .inl ⟨_, fun K => .base (.bl b), by decide +kernel, rfl⟩
  | int i => exact .inl ⟨_, fun K => .base (.int i), by decide +kernel, rfl⟩
  | str z => exact .inl ⟨_, fun K => .base (.str z), by decide +kernel, rfl⟩
  | lst e => exact .inl ⟨_, fun K => .base (.lst e), by decide +kernel, by simp only [frB, e]⟩
  | dK e => exact .inl ⟨_, fun K => .base (.dK e), by decide +kernel, by simp only [frB, e]⟩
  | tup e h => exact .inr ⟨_, _, rfl, e, h⟩
theorem two_of {xs : List V} (h : xs.length = 2) : ∃ u v, xs = [u, v] := by
  match xs, h with
  | [u, v], _ => exact ⟨u, v, rfl⟩
theorem frB_len {H : Hp} {a : Addr} {xs : List V} (e : H a = some (.tup xs)) (h : xs.length ≠ 2) : frB H (.ref a) = false := by
  simp only [frB, e]
  split
  · rename_i z
    injection z with z
    injection z with z
    subst z
    exact absurd rfl h
  · rfl
theorem frB_ints {H : Hp} {a : Addr} {i j : Int} (e : H a = some (.tup [.int i, .int j])) : frB H (.ref a) = isFr i j := by simp only [frB, e]
theorem frB_no {H : Hp} {a : Addr} {u v : V} (e : H a = some (.tup [u, v])) (h : isW u = false ∨ isW v = false) : frB H (.ref a) = false := by
  simp only [frB, e]
  split
  · rename_i z
    injection z with z
    injection z with z
    injection z with z1 z2
    injection z2 with z2 z3
    subst z1 z2
    rcases h with h | h <;> cases h
  · rfl
theorem isW_int {u : V} (h : isW u = true) : ∃ i, u = .int i := by
  cases u with
  | int i => exact ⟨i, rfl⟩
  | _ => cases h
section
variable {P : Program} {w : World} {K : PySem.W.Frag} {mg : Str → Option Value} {base : Heap}
/-! ### is_fraction -/
abbrev sIsF : Stmt := topS 7
theorem scIsF : FnScope ["thing", "top", "bottom"] ["thing"] (defScope sIsF) := ⟨rfl, rfl, rfl, by decide +kernel, rfl, by decide +kernel, by decide +kernel⟩
def spIsF : Sp := fun vs H Q _ => ∃ x : V, vs = [x] ∧ Kd H x ∧ Q (.bl (frB H x)) H
theorem ok_isF {f fM fW : Addr} {fd fdM fdW : FuncData} (F : Fun K "is_fraction" "is_fraction" sIsF f fd) (FM : Fun K "common_measure" "common_measure" sMeas fM fdM) (bM : Binds K fdM ["one", "other"] []) (gM : mg "common_measure" = some (.ref fM))
    (FW : Fun K "is_whole" "is_whole" sWhole fW fdW) (bW : Binds K fdW ["thing"] []) (gW : mg "is_whole" = some (.ref fW))
    (mA : mg "abs" = none) (mI : mg "isinstance" = none) (mInt : mg "int" = none) (mB : mg "bool" = none) (mT : mg "tuple" = none) (mL : mg "len" = none) :
    FnOk P w K mg base CX0 2 f fd ["thing"] spIsF := by
  have GM : FnOk P w K mg base CX0 1 fM fdM ["one", "other"] spMeas := ok_meas FM
  have GW : FnOk P w K mg base CX0 1 fW fdW ["thing"] spWhole := ok_whole FW mI mInt mB
  refine F.ok scIsF (fun vs H Q E h => ?_) (fun cdv A outer s H vs Q E hr h => ?_)
  · obtain ⟨x, rfl, _⟩ := h
    rfl
  · obtain ⟨x, rfl, k, q⟩ := h
    refine ⟨_, pss_cons (ps_if (PW.pt (pw_or (pt_not (pt_val (pe_callB call_isi (by rfl) mI (by decide +kernel) (pa_cons (pv 0) (pa_cons (pe_bltn (v := .ty "tuple") (by rfl) mT (by decide +kernel) rfl) pa_nil)))))
          (pw_or1 (pt_cmpR op_ne (pe_callB call_len_seq (by rfl) mL PySem.boot_len (pa_cons (pv 0) pa_nil)) pe_int (nomark _))))) (pss_one (ps_ret pe_bl)) pss_nil)
      (pss_cons (ps_asg (pv 0) (pg_tup (by rfl) (pgs_cons (pg_name (i := 1) scIsF.nd rfl (.inl rfl)) (pgs_cons (pg_name (i := 2) scIsF.nd rfl (.inl rfl)) pgs_nil))))
      (pss_cons (ps_if (PW.pt (pw_or (pt_not (pt_val (pe_call GW hr (by rfl) gW FW.kp bW .nil pass0 (pa_cons (pv 1) pa_nil)))) (pw_or (pt_not (pt_val (pe_call GW hr (by rfl) gW FW.kp bW .nil pass0 (pa_cons (pv 2) pa_nil)))) (pw_or1 (pt_cmpR op_le (pv 2) pe_int (nomark _))))))
        (pss_one (ps_ret pe_bl)) pss_nil)
      (pss_one (ps_ret (pe_cmpR op_eq (pe_call GM hr (by rfl) gM FM.kp bM .nil pass0 (pa_cons (pe_callB call_abs (by rfl) mA (by decide +kernel) (pa_cons (pv 1) pa_nil)) (pa_cons (pv 2) pa_nil))) pe_int (nomark _)))))), ?_⟩
    rcases k.cases_tup with ⟨t, ty, kt, ef⟩ | ⟨a, xs, rfl, e, hk⟩
    · rw [ef] at q
      exact ⟨x, rfl, x, .ty "tuple", _, _, _, rfl, .ty _, ty K, kit_ty kt, _, rfl, iteT (iteT q)⟩
    · refine ⟨.ref a, rfl, _, .ty "tuple", _, _, _, rfl, .ty _, .base (.tup e), kit_ty (b := "tuple") (r := true) (by decide +kernel), _, rfl, iteF ?_⟩
      refine ⟨.ref a, rfl, a, xs, rfl, .inr (SqT.of e), rfl, _, rfl, ?_⟩
      by_cases hl : xs.length = 2
      · obtain ⟨u, v, rfl⟩ := two_of hl
        refine iteF ?_
        refine ⟨.ref a, rfl, a, [u, v], rfl, SqT.of e, rfl, u, [v], rfl, v, [], rfl, rfl, ?_⟩
        have ku : Kd H u := hk u (.head _)
        have kv : Kd H v := hk v (.tail _ (.head _))
        refine ⟨u, rfl, u, rfl, ku, _, rfl, ?_⟩
        cases wu : isW u with
        | false =>
          rw [frB_no e (.inl wu)] at q
          exact iteT (iteT q)
        | true =>
          refine iteF ?_
          refine ⟨v, rfl, v, rfl, kv, _, rfl, ?_⟩
          cases wv : isW v with
          | false =>
            rw [frB_no e (.inr wv)] at q
            exact iteT (iteT q)
          | true =>
            refine iteF ?_
            obtain ⟨i, rfl⟩ := isW_int wu
            obtain ⟨j, rfl⟩ := isW_int wv
            rw [frB_ints e] at q
            refine ⟨_, rfl, j, 0, rfl, rfl, _, rfl, ite2 (fun z => ?_) (fun z => ?_)⟩
            · have z0 : j ≤ 0 := of_decide_eq_true z
              have : isFr i j = false := by
                unfold isFr
                rw [decide_eq_false (by omega)]
                rfl
              rw [this] at q
              exact q
            · have z0 : ¬ j ≤ 0 := fun y => z (decide_eq_true y)
              refine ⟨_, rfl, i, rfl, _, rfl, _, _, rfl, abs_nn i, by omega, rfl, ?_⟩
              have : gc (if i < 0 then -i else i) j = gc i j := by
                have h2 := gc_abs i j
                rw [if_neg (show ¬ j < 0 by omega)] at h2
                exact h2
              rw [this]
              have : decide (V.int (gc i j : Nat) = V.int 1) = isFr i j := by
                unfold isFr
                rw [decide_eq_true (show 0 < j by omega), Bool.true_and]
                refine decide_eq_decide.mpr ⟨fun y => ?_, fun y => ?_⟩
                · have := V.int.inj y
                  omega
                · rw [y]
                  rfl
              rw [this]
              exact q
      · rw [frB_len e hl] at q
        have : (!decide (V.int (xs.length : Int) = V.int 2)) = true := by
          rw [decide_eq_false (fun y => hl (by have := V.int.inj y; omega))]
          rfl
        rw [this]
        exact iteT q
end
end G
set_option Elab.async false
set_option linter.all false
set_option maxRecDepth 100000
namespace G
open PySem PySem.Spec PyProof.Rows L2
theorem ten7 : ((10 : Int) ^ (7 : Int).toNat) = 10000000 := by decide +kernel
theorem ten18 : ((10 : Int) ^ (18 : Int).toNat) = 1000000000000000000 := by decide +kernel
theorem ten20 : ((10 : Int) ^ (20 : Int).toNat) = 100000000000000000000 := by decide +kernel
section
variable {P : Program} {w : World} {K : PySem.W.Frag} {mg : Str → Option Value} {base : Heap}
/-! ### _law_pot -/
abbrev sPot : Stmt := topS 11
theorem scPot : FnScope ["_law_script", "_law_k", "_law_cell"] ["_law_script", "_law_k"] (defScope sPot) := ⟨rfl, rfl, rfl, by decide +kernel, rfl, by decide +kernel, by decide +kernel⟩
def spPot (K : PySem.W.Frag) : Sp := fun vs H Q _ => ∃ (a : Addr) (ns : List Int) (k : Nat), vs = [.ref a, .int k] ∧ SqL K H a (ns.map V.int) ∧ k < 64 ∧ ∀ H' p, Same H H' → H p = none → Pot H' p → Q (.ref p) H'
theorem pot_mk {H : Hp} {p : Addr} (np : H p = none) (c k : Int) : Pot (upd H p (.lst [.int (if c - 10 ^ (18 : Int).toNat > 0 then c - 10 ^ (18 : Int).toNat else 0), .int ((c % 2147483629 * 48271 + 7919 * k + 11) % 2147483647)])) p := by
  refine ⟨_, _, upd_same, ?_, Int.emod_nonneg _ (by decide), Int.emod_lt_of_pos _ (by decide)⟩
  split <;> omega
theorem ok_pot {f : Addr} {fd : FuncData} (F : Fun K "_law_pot" "_law_pot" sPot f fd) (mL : mg "len" = none) (mM : mg "max" = none) : FnOk P w K mg base CX0 1 f fd ["_law_script", "_law_k"] (spPot K) := by
  refine F.ok scPot (fun vs H Q E h => ?_) (fun cdv A outer s H vs Q E hr h => ?_)
  · obtain ⟨a, ns, k, rfl, _⟩ := h
    rfl
  · obtain ⟨a, ns, k, rfl, hS, hk, q⟩ := h
    refine ⟨_, pss_cons (ps_set (i := 2) scPot.nd rfl (.inl rfl) pe_int)
      (pss_cons (ps_if (pt_cmpR op_lt (pv 1) (pe_callB call_len_seq (by rfl) mL PySem.boot_len (pa_cons (pv 0) pa_nil)) (nomark _))
        (pss_one (ps_set (i := 2) scPot.nd rfl (.inl rfl) (pe_ix ix_list (pv 0) (pv 1) (fun _ _ => rfl)))) pss_nil)
      (pss_one (ps_ret (pe_lst (pa_cons (pe_callB (call_max2 rfl) (by rfl) mM (by decide +kernel) (pa_cons pe_int (pa_cons (pe_op op_sub (pv 2) (pe_op op_pow pe_int pe_int)) pa_nil)))
        (pa_cons (pe_op op_mod (pe_op op_add (pe_op op_add (pe_op op_mul (pe_op op_mod (pv 2) pe_int) pe_int) (pe_op op_mul pe_int (pv 1))) pe_int) pe_int) pa_nil)))))), ?_⟩
    have fin : ∀ c : Int, (tRet (tLst (tCons (tCB (fun xs H Q => ∃ i j, xs = [.int i, .int j] ∧ Q (.int (if j > i then j else i)) H) (tCons (tC (.int 0)) (tCons (tOp (rI0 fun i j => .int (i - j)) (tVar 2) (tOp (rI CPow fun i j => .int (i ^ j.toNat)) (tC (.int 10)) (tC (.int 18)))) tNil)))
        (tCons (tOp (rI (fun _ j => 0 < j) fun i j => .int (i % j)) (tOp (rI0 fun i j => .int (i + j)) (tOp (rI0 fun i j => .int (i + j)) (tOp (rI CMul fun i j => .int (i * j)) (tOp (rI (fun _ j => 0 < j) fun i j => .int (i % j)) (tVar 2) (tC (.int 2147483629))) (tC (.int 48271))) (tOp (rI CMul fun i j => .int (i * j)) (tC (.int 7919)) (tVar 1))) (tC (.int 11))) (tC (.int 2147483647))) tNil)))) { nx := fun _ H' => Q .non H', rt := Q } [some (.ref a), some (.int k), some (.int c)] H := by
      intro c
      refine ⟨_, rfl, 10, 18, rfl, rfl, ⟨by decide, by decide, by decide⟩, c, _, rfl, rfl, 0, _, rfl, ?_⟩
      refine ⟨_, rfl, c, 2147483629, rfl, rfl, (show (0 : Int) < 2147483629 by decide), _, 48271, rfl, rfl, .inr ⟨by decide, by decide⟩, _, rfl, 7919, k, rfl, rfl, .inl ⟨by decide, by decide⟩, _, _, rfl, rfl, _, 11, rfl, rfl, _, 2147483647, rfl, rfl, (show (0 : Int) < 2147483647 by decide), ?_⟩
      refine ⟨by show 2 ≤ sizeLine; decide, fun p np => q _ p (same_upd np) np ?_⟩
      exact pot_mk np c k
    refine ⟨_, rfl, .ref a, rfl, a, _, rfl, .inl hS, _, _, rfl, rfl, _, rfl, ite2 (fun e => ?_) (fun e => ?_)⟩
    · have e0 : (k : Int) < ((ns.map V.int).length : Nat) := of_decide_eq_true e
      rw [List.length_map] at e0
      have e1 : k < ns.length := by omega
      have g : (ns.map V.int)[k]? = some (.int ns[k]) := by
        rw [List.getElem?_map, List.getElem?_eq_getElem e1]
        rfl
      refine ⟨.ref a, rfl, _, rfl, a, _, _, _, rfl, rfl, hS, atI_nat g, ?_⟩
      exact fin _
    · exact fin _
/-! ### _law_take -/
abbrev sTake : Stmt := topS 12
theorem scTake : FnScope ["_law_pot_here", "_law_many", "_law_digit"] ["_law_pot_here", "_law_many"] (defScope sTake) := ⟨rfl, rfl, rfl, by decide +kernel, rfl, by decide +kernel, by decide +kernel⟩
def spTake : Sp := fun vs H Q _ => ∃ (p : Addr) (m : Int), vs = [.ref p, .int m] ∧ Pot H p ∧ 0 < m ∧ m < 1073741824 ∧ ∀ H' d, Keep p H H' → Pot H' p → 0 ≤ d → d < m → Q (.int d) H'
theorem keep_new {p t : Addr} {H : Hp} {o u : HO} (n : H t = none) : Keep p H (upd (upd H t o) p u) := fun b x nb e => by
  rw [upd_ne nb, upd_ne (ne_of_none e n)]
  exact e
theorem ok_take {f : Addr} {fd : FuncData} (F : Fun K "_law_take" "_law_take" sTake f fd) (mD : mg "divmod" = none) : FnOk P w K mg base CX0 1 f fd ["_law_pot_here", "_law_many"] spTake := by
  refine F.ok scTake (fun vs H Q E h => ?_) (fun cdv A outer s H vs Q E hr h => ?_)
  · obtain ⟨p, m, rfl, _⟩ := h
    rfl
  · obtain ⟨p, m, rfl, ⟨a, b, ep, ha, hb, hb2⟩, hm, hm2, q⟩ := h
    refine ⟨_, pss_cons (ps_if (pt_cmpR op_gt (pe_ix ix_list (pv 0) pe_int (fun _ _ => rfl)) pe_int (nomark _))
        (pss_cons (ps_asg (pe_callB call_divmod (by rfl) mD (by decide +kernel) (pa_cons (pe_ix ix_list (pv 0) pe_int (fun _ _ => rfl)) (pa_cons (pv 1) pa_nil)))
            (pg_tup (by rfl) (pgs_cons (pg_sub (pv 0) pe_int set_list) (pgs_cons (pg_name (i := 2) scTake.nd rfl (.inl rfl)) pgs_nil))))
          (pss_one (ps_ret (pv 2)))) pss_nil)
      (pss_cons (ps_asg (pe_op op_mod (pe_op op_add (pe_op op_mul (pe_ix ix_list (pv 0) pe_int (fun _ _ => rfl)) pe_int) pe_int) pe_int) (pg_sub (pv 0) pe_int set_list))
      (pss_one (ps_ret (pe_op op_mod (pe_op op_fdiv (pe_op op_mod (pe_op op_mul (pe_ix ix_list (pv 0) pe_int (fun _ _ => rfl)) (pe_ix ix_list (pv 0) pe_int (fun _ _ => rfl))) pe_int) pe_int) (pv 1))))), ?_⟩
    refine ⟨.ref p, rfl, p, _, 0, .int a, rfl, rfl, SqL.of ep, atI_nat (j := 0) rfl, a, 0, rfl, rfl, _, rfl, ite2 (fun e => ?_) (fun e => ?_)⟩
    · refine ⟨.ref p, rfl, p, _, 0, .int a, rfl, rfl, SqL.of ep, atI_nat (j := 0) rfl, _, rfl, a, m, rfl, ⟨hm, hm2⟩, fun t nt => ?_⟩
      have npt : p ≠ t := ne_of_none ep nt
      refine ⟨t, _, rfl, SqT.of upd_same, rfl, _, _, rfl, ?_⟩
      refine ⟨.ref p, rfl, p, [.int a, .int b], 0, 0, rfl, rfl, (upd_ne npt).trans ep, rfl, ?_⟩
      refine ⟨_, _, rfl, rfl, _, rfl, ?_⟩
      refine q _ _ (keep_new nt) ⟨a / m, b, upd_same, Int.ediv_nonneg ha (by omega), hb, hb2⟩ (Int.emod_nonneg _ (by omega)) (Int.emod_lt_of_pos _ hm)
    · refine ⟨.ref p, rfl, p, _, 1, .int b, rfl, rfl, SqL.of ep, atI_nat (j := 1) rfl, b, 39373, rfl, rfl, .inr ⟨by decide, by decide⟩, _, 7919, rfl, rfl, _, 2147483629, rfl, rfl, (show (0 : Int) < 2147483629 by decide), ?_⟩
      refine ⟨.ref p, rfl, p, _, 1, 1, rfl, rfl, ep, rfl, ?_⟩
      have h1 : 0 ≤ (b * 39373 + 7919) % 2147483629 := Int.emod_nonneg _ (by decide)
      have h2 : (b * 39373 + 7919) % 2147483629 < 2147483629 := Int.emod_lt_of_pos _ (by decide)
      refine ⟨.ref p, rfl, p, _, 1, _, rfl, rfl, SqL.of upd_same, atI_nat (j := 1) rfl, .ref p, rfl, p, _, 1, _, rfl, rfl, SqL.of upd_same, atI_nat (j := 1) rfl, (b * 39373 + 7919) % 2147483629, (b * 39373 + 7919) % 2147483629, rfl, rfl, .inl ⟨by omega, by omega⟩, _, 2147483563, rfl, rfl, (show (0 : Int) < 2147483563 by decide), _, 11, rfl, rfl, ⟨by decide, by decide⟩, _, rfl, _, m, rfl, rfl, hm, ?_⟩
      exact q _ _ keep_upd ⟨a, (b * 39373 + 7919) % 2147483629, upd_same, ha, h1, by omega⟩ (Int.emod_nonneg _ (by omega)) (Int.emod_lt_of_pos _ hm)
/-! ### _law_below -/
abbrev sBelow : Stmt := topS 13
theorem scBelow : FnScope ["_law_pot_here", "_law_many", "_law_found", "_law_k"] ["_law_pot_here", "_law_many"] (defScope sBelow) := ⟨rfl, rfl, rfl, by decide +kernel, rfl, by decide +kernel, by decide +kernel⟩
def spBelow : Sp := fun vs H Q _ => ∃ (p : Addr) (m : Int), vs = [.ref p, .int m] ∧ Pot H p ∧ 0 < m ∧ ∀ H' d, Keep p H H' → Pot H' p → 0 ≤ d → d < m → Q (.int d) H'
theorem ok_below {f fT : Addr} {fd fdT : FuncData} (F : Fun K "_law_below" "_law_below" sBelow f fd) (FT : Fun K "_law_take" "_law_take" sTake fT fdT) (bT : Binds K fdT ["_law_pot_here", "_law_many"] []) (gT : mg "_law_take" = some (.ref fT)) (mD : mg "divmod" = none) (mR : mg "range" = none) :
    FnOk P w K mg base CX0 2 f fd ["_law_pot_here", "_law_many"] spBelow := by
  have GT : FnOk P w K mg base CX0 1 fT fdT ["_law_pot_here", "_law_many"] spTake := ok_take FT mD
  refine F.ok scBelow (fun vs H Q E h => ?_) (fun cdv A outer s H vs Q E hr h => ?_)
  · obtain ⟨p, m, rfl, _⟩ := h
    rfl
  · obtain ⟨p, m, rfl, hp, hm, q⟩ := h
    refine ⟨_, pss_cons (ps_set (i := 2) scBelow.nd rfl (.inl rfl) pe_int)
      (pss_cons (ps_for PassesOwn.never rfl (pi_range1 (by rfl) mR (pa_cons pe_int pa_nil)) (pg_name (i := 3) scBelow.nd rfl (.inl rfl))
        (pss_one (ps_set (i := 2) scBelow.nd rfl (.inl rfl) (pe_op op_add (pe_op op_mul (pv 2) (pe_op op_pow pe_int pe_int)) (pe_call GT hr (by rfl) gT FT.kp bT .nil pass0 (pa_cons (pv 0) (pa_cons (pe_op op_pow pe_int pe_int) pa_nil)))))))
      (pss_one (ps_ret (pe_op op_mod (pv 2) (pv 1))))), ?_⟩
    refine ⟨3, rfl, by decide, by decide, for_range (n := 3) (fun i σ H' => ∃ (g : Int) (y : Option V), σ = [some (.ref p), some (.int m), some (.int g), y] ∧ Keep p H H' ∧ Pot H' p) ⟨0, none, rfl, .refl, hp⟩ ?_ ?_⟩
    · rintro i σ H' hi ⟨g, y, rfl, kp, hp'⟩
      refine ⟨_, rfl, 10, 7, rfl, rfl, ⟨by decide, by decide, by decide⟩, g, _, rfl, rfl, .inr ⟨by rw [ten7]; decide, by rw [ten7]; decide⟩, _, rfl, 10, 7, rfl, rfl, ⟨by decide, by decide, by decide⟩, ?_⟩
      refine ⟨p, _, rfl, hp', by rw [ten7]; decide, by rw [ten7]; decide, fun H2 d k2 p2 _ _ => ?_⟩
      exact ⟨_, _, rfl, rfl, _, _, rfl, kp.trans k2, p2⟩
    · rintro σ H' ⟨g, y, rfl, kp, hp'⟩
      exact ⟨_, rfl, _, rfl, g, m, rfl, rfl, hm, q _ _ kp hp' (Int.emod_nonneg _ (by omega)) (Int.emod_lt_of_pos _ hm)⟩
end
end G
set_option Elab.async false
set_option linter.all false
set_option maxRecDepth 100000
namespace G
open PySem PySem.Spec PyProof.Rows L2
section
variable {P : Program} {w : World} {K : PySem.W.Frag} {mg : Str → Option Value} {base : Heap}
/-! ### _law_lowest -/
abbrev sLow : Stmt := topS 14
theorem scLow : FnScope ["_law_up", "_law_down", "_law_first", "_law_other"] ["_law_up", "_law_down"] (defScope sLow) := ⟨rfl, rfl, rfl, by decide +kernel, rfl, by decide +kernel, by decide +kernel⟩
theorem ok_low {f : Addr} {fd : FuncData} (F : Fun K "_law_lowest" "_law_lowest" sLow f fd) (mA : mg "abs" = none) : FnOk P w K mg base CX0 1 f fd ["_law_up", "_law_down"] spFrac := by
  refine F.ok scLow (fun vs H Q E h => ?_) (fun cdv A outer s H vs Q E hr h => ?_)
  · obtain ⟨a, b, rfl, _⟩ := h
    rfl
  · obtain ⟨a, b, rfl, hb, hz, q⟩ := h
    refine ⟨_, pss_cons (ps_par (i := 2) (j := 3) (by rfl) scLow.nd rfl rfl (by decide) rfl rfl (pa_cons (pe_callB call_abs (by rfl) mA (by decide +kernel) (pa_cons (pv 0) pa_nil)) (pa_cons (pe_callB call_abs (by rfl) mA (by decide +kernel) (pa_cons (pv 1) pa_nil)) pa_nil)) (by rfl))
      (pss_cons (ps_while PassesOwn.never (pt_cmpR op_gt (pv 3) pe_int (nomark _))
        (pss_one (ps_par (i := 2) (j := 3) (by rfl) scLow.nd rfl rfl (by decide) rfl rfl (pa_cons (pv 3) (pa_cons (pe_op op_mod (pv 2) (pv 3)) pa_nil)) (by rfl))))
      (pss_cons (ps_if (pt_cmpR op_lt (pv 1) pe_int (nomark _)) (pss_one (ps_set (i := 2) scLow.nd rfl (.inl rfl) (pe_un un_neg (pv 2)))) pss_nil)
      (pss_one (ps_ret (pe_tup (pa_cons (pe_op op_fdivG (pv 0) (pv 2)) (pa_cons (pe_op op_fdivG (pv 1) (pv 2)) pa_nil))))))), ?_⟩
    refine ⟨_, rfl, a, rfl, _, rfl, b, rfl, _, _, rfl, ?_⟩
    refine ⟨fun m σ H' => ∃ x y : Int, σ = [some (.int a), some (.int b), some (.int x), some (.int y)] ∧ 0 ≤ x ∧ 0 ≤ y ∧ gc x y = gc a b ∧ m = y.toNat ∧ H' = H, ⟨_, _, _, rfl, abs_nn a, abs_nn b, gc_abs a b, rfl, rfl⟩, ?_⟩
    rintro m σ H' ⟨x, y, rfl, hx, hy, hg, rfl, rfl⟩
    refine ⟨_, rfl, y, 0, rfl, rfl, _, rfl, ite2 (fun e => ?_) (fun e => ?_)⟩
    · have e0 : 0 < y := of_decide_eq_true e
      refine ⟨fun σ' H2 => ∃ x' y' : Int, σ' = [some (.int a), some (.int b), some (.int x'), some (.int y')] ∧ 0 ≤ x' ∧ 0 ≤ y' ∧ gc x' y' = gc a b ∧ y' < y ∧ H2 = H', fun σ' H2 hN => ?_, ?_⟩
      · obtain ⟨x', y', h1, h2, h3, h4, h5, h6⟩ := hN
        exact ⟨_, by omega, x', y', h1, h2, h3, h4, rfl, h6⟩
      · refine ⟨_, rfl, _, rfl, _, rfl, x, y, rfl, rfl, e0, _, _, rfl, y, x % y, rfl, hy, Int.emod_nonneg _ (by omega), (gc_step hx e0).trans hg, Int.emod_lt_of_pos _ e0, rfl⟩
    · have e0 : ¬ 0 < y := fun z => e (decide_eq_true z)
      have e1 : y = 0 := by omega
      subst e1
      have hxe : x = (gc a b : Int) := by
        rw [← hg]
        unfold gc
        rw [Int.natAbs_zero, Nat.gcd_zero_right]
        omega
      subst hxe
      have fin : ∀ m : Int, m = ms a b → (tRet (tTup (tCons (tOp (rI CDivG fun i j => .int (i.fdiv j)) (tVar 0) (tVar 2)) (tCons (tOp (rI CDivG fun i j => .int (i.fdiv j)) (tVar 1) (tVar 2)) tNil)))) { nx := fun _ H' => Q .non H', rt := Q } [some (.int a), some (.int b), some (.int m), some (.int 0)] H' := by
        rintro m rfl
        have hd : ∀ i, CDivG i (ms a b) := fun i => CDivG.of (b := 8000) (ms_ne hb) (by rw [ms_natAbs]; exact gc_lt hb hz) (by decide) (by decide)
        exact ⟨_, rfl, _, rfl, a, _, rfl, rfl, hd a, _, rfl, _, rfl, b, _, rfl, rfl, hd b, by show 2 ≤ sizeLine; decide, fun p np => q p np⟩
      refine ⟨_, rfl, b, 0, rfl, rfl, _, rfl, ite2 (fun e => ?_) (fun e => ?_)⟩
      · have e0 : b < 0 := of_decide_eq_true e
        refine ⟨_, rfl, _, rfl, ?_⟩
        exact fin _ (if_pos e0).symm
      · have e0 : ¬ b < 0 := fun z => e (decide_eq_true z)
        exact fin _ (if_neg e0).symm
end
/-! ### _law_is_fraction -/
theorem eqv_two (a b c d : Int) : PyData.eqv (.tuple [.int a, .int b]) (.tuple [.int c, .int d]) = (a == c && b == d) := by
  simp [PyData.eqv, PyData.eqvAll]
theorem isFr_low {i j : Int} (hj : 0 < j) : (low1 i j == i && low2 i j == j) = isFr i j := by
  unfold isFr
  rw [decide_eq_true hj, Bool.true_and]
  by_cases h : gc i j = 1
  · obtain ⟨h1, h2⟩ := (low_self hj).mpr h
    rw [h1, h2, decide_eq_true h, beq_self_eq_true, beq_self_eq_true]
    rfl
  · rw [decide_eq_false h]
    refine Bool.eq_false_iff.mpr fun z => h ((low_self hj).mp ?_)
    rw [Bool.and_eq_true] at z
    exact ⟨eq_of_beq z.1, eq_of_beq z.2⟩
theorem same_app {H H' H2 : Hp} {D : Addr} {o : HO} (s : Same H H') (n : H D = none) (h : Same H' H2) : Same H (upd H2 D o) := fun b u e => by
  rw [upd_ne (ne_of_none e n)]
  exact h b u (s b u e)
def Bd (H : Hp) (x : V) : Prop := ∀ a i j, x = .ref a → H a = some (.tup [.int i, .int j]) → j.natAbs < 2 ^ 8000
theorem frB_same {H H' : Hp} {a : Addr} {xs : List V} (e : H a = some (.tup xs)) (s : Same H H') : frB H' (.ref a) = frB H (.ref a) := by
  simp only [frB, e, s _ _ e]
section
variable {P : Program} {w : World} {K : PySem.W.Frag} {mg : Str → Option Value} {base : Heap}
abbrev sLF : Stmt := topS 15
abbrev nLF : List Str := ["_law_what", "_law_number_here"]
theorem scLF : FnScope nLF ["_law_what"] (defScope sLF) := ⟨rfl, rfl, rfl, by decide +kernel, rfl, by decide +kernel, by decide +kernel⟩
def spLF : Sp := fun vs H Q _ => ∃ x : V, vs = [x] ∧ Kd H x ∧ Bd H x ∧ ∀ H', Same H H' → Q (.bl (frB H x)) H'
theorem ok_LF {f fL : Addr} {fd fdL : FuncData} (F : Fun K "_law_is_fraction" "_law_is_fraction" sLF f fd) (FL : Fun K "_law_lowest" "_law_lowest" sLow fL fdL) (bL : Binds K fdL ["_law_up", "_law_down"] []) (gL : mg "_law_lowest" = some (.ref fL))
    (mA : mg "abs" = none) (mI : mg "isinstance" = none) (mInt : mg "int" = none) (mB : mg "bool" = none) (mT : mg "tuple" = none) (mL : mg "len" = none) (mAny : mg "any" = none) :
    FnOk P w K mg base CX0 2 f fd ["_law_what"] spLF := by
  have GL : FnOk P w K mg base CX0 1 fL fdL ["_law_up", "_law_down"] spFrac := ok_low FL mA
  refine F.ok scLF (fun vs H Q E h => ?_) (fun cdv A outer s H vs Q E hr h => ?_)
  · obtain ⟨x, rfl, _⟩ := h
    rfl
  · obtain ⟨x, rfl, k, hbd, q⟩ := h
    refine ⟨_, pss_cons (ps_if (PW.pt (pw_or (pt_not (pt_val (pe_callB call_isi (by rfl) mI (by decide +kernel) (pa_cons (pv 0) (pa_cons (pe_bltn (v := .ty "tuple") (by rfl) mT (by decide +kernel) rfl) pa_nil)))))
          (pw_or1 (pt_cmpR op_ne (pe_callB call_len_seq (by rfl) mL PySem.boot_len (pa_cons (pv 0) pa_nil)) pe_int (nomark _))))) (pss_one (ps_ret pe_bl)) pss_nil)
      (pss_cons (ps_if (pt_val (pe_callB (cr_any rfl) (by rfl) mAny (by decide +kernel) (pa_cons (pe_lc (own := [("_law_number_here", 1)]) (g := gName 1) (tt := tYes) (te := tOrV (tCB (rIsi K) (tCons (tVar 1) (tCons (tC (.ty "bool")) tNil))) (tNotV (tCB (rIsi K) (tCons (tVar 1) (tCons (tC (.ty "int")) tNil))))) (by rfl) scLF.nd (pi_tup (pv 0)) (blkOk_by (own := [("_law_number_here", 1)]) (N := nLF) (sc := defScope sLF) (by decide +kernel))
            (fun _ _ _ _ _ => pg_name (i := 1) scLF.nd rfl (.inl rfl)) (fun _ _ _ _ _ => pts_nil)
            (fun _ _ _ _ _ => pe_or (pe_callB call_isi (by rfl) mI (by decide +kernel) (pa_cons (pv 1) (pa_cons (pe_bltn (v := .ty "bool") (by rfl) mB (by decide +kernel) rfl) pa_nil)))
              (pe_one (pe_not (pe_callB call_isi (by rfl) mI (by decide +kernel) (pa_cons (pv 1) (pa_cons (pe_bltn (v := .ty "int") (by rfl) mInt (by decide +kernel) rfl) pa_nil))))))) pa_nil))) (pss_one (ps_ret pe_bl)) pss_nil)
      (pss_one (ps_ret (pe_and (pe_cmpR op_gt (pe_ix ix_tup (pv 0) pe_int (fun _ _ => rfl)) pe_int (nomark _))
        (pe_one (pe_cmpR (op_eqD hr.units) (pe_call GL hr (by rfl) gL FL.kp bL .nil pass0 (pa_cons (pe_ix ix_tup (pv 0) pe_int (fun _ _ => rfl)) (pa_cons (pe_ix ix_tup (pv 0) pe_int (fun _ _ => rfl)) pa_nil))) (pv 0) (nomark _))))))), ?_⟩
    rcases k.cases_tup with ⟨t, ty, kt, ef⟩ | ⟨a, xs, rfl, e, hk⟩
    · have q := q _ (.refl _)
      rw [ef] at q
      exact ⟨x, rfl, x, .ty "tuple", _, _, _, rfl, .ty _, ty K, kit_ty kt, _, rfl, iteT (iteT q)⟩
    · refine ⟨.ref a, rfl, _, .ty "tuple", _, _, _, rfl, .ty _, .base (.tup e), kit_ty (b := "tuple") (r := true) (by decide +kernel), _, rfl, iteF ?_⟩
      refine ⟨.ref a, rfl, a, xs, rfl, .inr (SqT.of e), rfl, _, rfl, ?_⟩
      by_cases hl : xs.length = 2
      · obtain ⟨u, v, rfl⟩ := two_of hl
        refine iteF ?_
        refine ⟨.ref a, rfl, a, rfl, ⟨_, SqT.of e⟩, fun D nD => ?_⟩
        refine lc_tup (K := K) (a := a) (xs := [u, v]) (fun i H' => Same H H' ∧ H' D = some (.lst (([u, v].take i).map fun x => .bl (!isW x)))) ⟨same_upd nD, upd_same⟩ (fun i H' _ hP => SqT.of (hP.1 _ _ e)) ?_ ?_
        · rintro i y H' hy ⟨sm, eD⟩
          have ky : Kd H' y := (hk y (List.mem_of_getElem? hy)).same sm
          refine ⟨rfl, ?_⟩
          have tk : ([u, v].take (i + 1)).map (fun x => V.bl (!isW x)) = ([u, v].take i).map (fun x => V.bl (!isW x)) ++ [.bl (!isW y)] := by
            rw [List.take_add_one, hy, List.map_append]
            rfl
          have sz : (([u, v].take i).map (fun x => V.bl (!isW x))).length < sizeLine := Nat.lt_of_le_of_lt (by rw [List.length_map, List.length_take]; exact Nat.min_le_right _ _) (show 2 < sizeLine by decide)
          refine ⟨y, rfl, y, .ty "bool", _, _, _, rfl, .ty _, ky.ty, kit_ty (kit7 ky.tyN_mem (by decide)), _, rfl, ite2 (fun z => ?_) (fun z => ?_)⟩
          · refine ⟨_, eD, sz, same_app sm nD (Same.refl _), ?_⟩
            have ew : isW y = false := by
              cases ky with
              | int i => cases z
              | _ => rfl
            rw [upd_same, tk, ew]
            rfl
          · refine ⟨y, rfl, y, .ty "int", _, _, _, rfl, .ty _, ky.ty, kit_ty (kit7 ky.tyN_mem (by decide)), _, rfl, _, eD, sz, same_app sm nD (Same.refl _), ?_⟩
            have ew : sub (tyN H' y) "int" = isW y := by
              cases ky with
              | bl b => exact absurd rfl z
              | lst h => rw [tyN_lst h]; rfl
              | tup h _ => rw [tyN_tup h]; rfl
              | dK h => rw [tyN_dK h]; rfl
              | _ => rfl
            rw [upd_same, tk, ew]
        · rintro H' ⟨sm, eD⟩
          refine ⟨D, [!isW u, !isW v], rfl, SqL.of eD, _, rfl, ?_⟩
          cases wu : isW u with
          | false =>
            have q := q H' sm
            rw [frB_no e (.inl wu)] at q
            exact iteT q
          | true =>
            cases wv : isW v with
            | false =>
              have q := q H' sm
              rw [frB_no e (.inr wv)] at q
              exact iteT q
            | true =>
              refine iteF ?_
              obtain ⟨i, rfl⟩ := isW_int wu
              obtain ⟨j, rfl⟩ := isW_int wv
              have e' := sm _ _ e
              refine ⟨.ref a, rfl, a, _, 1, .int j, rfl, rfl, SqT.of e', atI_nat (j := 1) rfl, j, 0, rfl, rfl, _, rfl, ite2 (fun z => ?_) (fun z => ?_)⟩
              · have z0 : 0 < j := of_decide_eq_true z
                refine ⟨.ref a, rfl, a, _, 0, .int i, rfl, rfl, SqT.of e', atI_nat (j := 0) rfl, .ref a, rfl, a, _, 1, .int j, rfl, rfl, SqT.of e', atI_nat (j := 1) rfl, i, j, rfl, by omega, hbd a i j rfl e, fun p np => ?_⟩
                have s2 := same_upd (o := .tup [.int (low1 i j), .int (low2 i j)]) np
                refine ⟨.ref a, rfl, _, _, .tup (SqT.of upd_same) (.cons (.int _) (.cons (.int _) .nil)), .tup (SqT.of (s2 _ _ e')) (.cons (.int _) (.cons (.int _) .nil)), rfl, rfl, ?_⟩
                rw [eqv_two, isFr_low z0, ← frB_ints e]
                exact q _ (sm.trans s2)
              · have z0 : ¬ 0 < j := fun y => z (decide_eq_true y)
                have : isFr i j = false := by
                  unfold isFr
                  rw [decide_eq_false z0]
                  rfl
                have q := q H' sm
                rw [frB_ints e, this] at q
                exact q
      · have q := q _ (.refl _)
        rw [frB_len e hl] at q
        have : (!decide (V.int (xs.length : Int) = V.int 2)) = true := by
          rw [decide_eq_false (fun y => hl (by have := V.int.inj y; omega))]
          rfl
        rw [this]
        exact iteT q
end
end G
set_option Elab.async false
set_option linter.all false
set_option maxRecDepth 100000
namespace G
open PySem PySem.Spec PyProof.Rows L2
/-! ### calls with keywords alone -/
def tCallN0 (m : Nat) (sp : Sp) (gV : List V → List V → List V) (E : XK) (tk : TA) : TE := fun σ H Q => tk σ H fun zs H2 => zs.length = m ∧ sp (gV [] zs) H2 Q E
theorem pe_callN0 {X : Cx} {CX : CXT} {k : Nat} {f : Addr} {fd : FuncData} {ps ks : List Str} {sp : Sp} {E : XK} {x : Str} {p pos : Pos} {kws : List Keyword} {tk : TA} {g : List Value → List Value → List Value} {gV : List V → List V → List V}
    (F : FnOk X.prog X.w X.K X.mg X.base CX k f fd ps sp) (hr : Room k X.A) (hg : Gl X x) (hm : X.mg x = some (.ref f)) (hk : PySem.W.keepIn X.K (.ref f) = true) (hb : KBn X.K fd ps 0 ks g gV) (hx : Passes CX X E) (hkw : PK X kws tk)
    (hall : (backToKw pos (keywordEach kws X.env)).all (·.1.isSome) = true := by rfl) (hks : (backToKw pos (keywordEach kws X.env)).filterMap (·.1) = ks := by rfl) (hdb : (x == ("__debug__" : Str)) = false := by decide)
    (hpl : ((backTo pos (starEach [] X.env)).any (·.1) || (backToKw pos (keywordEach kws X.env)).any (·.1.isNone)) = false := by rfl) : PE X (.Call (.Name x p) [] kws pos) (tCallN0 ks.length sp gV E tk) :=
  ⟨fun pins s σ H Q I h => wpAny_Call_Name_kw (ld_glob I hg hm (PySem.W.callWith_KW0 (first := []) (h₀ := X.base) I.ok.mod.kin hk hall (thn (hkw.run pos pins s σ H _ I h) fun ws s2 ⟨zs, H2, I2, rz, l2, q2⟩ => ⟨I2.kIn, by
    rw [hks]; exact run_fnN F hr hb hx I2 .nil rz rfl l2 q2⟩) hpl) hdb)⟩
/-- a block whose reading says what it leans on -/
theorem pss_given {X : Cx} {b : List Stmt} {t : TS} {p : Prop} (h : p → PSs X b t) : PSs X b (fun D σ H => p ∧ t D σ H) := ⟨fun pins s σ H D I hq => (h hq.1).run pins s σ H D I hq.2⟩
/-- two values by their names, in the other order -/
def swp {α : Type} : List α → List α → List α := fun _ ws => ws.reverse
theorem swp_rel {vs : List V} {us : List Value} {zs : List V} {ws : List Value} (_ : Vals vs us) (h : Vals zs ws) : Vals (swp vs zs) (swp us ws) := by
  show Vals zs.reverse ws.reverse
  induction h with
  | nil => exact .nil
  | cons r t ih =>
    rw [List.reverse_cons, List.reverse_cons]
    exact Vals.append ih (.cons r .nil)
def one1 {α : Type} : List α → List α → List α := fun _ ws => ws
theorem one1_rel {vs : List V} {us : List Value} {zs : List V} {ws : List Value} (_ : Vals vs us) (h : Vals zs ws) : Vals (one1 vs zs) (one1 us ws) := h
section
variable {P : Program} {w : World} {K : PySem.W.Frag} {mg : Str → Option Value} {base : Heap}
theorem kb_frac {f : Addr} {fd : FuncData} (F : Fun K "fraction" "fraction" sFrac f fd) : KBn K fd ["top", "bottom"] 0 ["bottom", "top"] swp swp := by
  obtain ⟨c0, d0, k0, dc, pm, an, cv, ct, sl, rfl, lk, hc⟩ := F.ex
  exact ⟨fun s us ws X l1 l2 => match us, ws, l1, l2 with | [], [_, _], _, _ => .of_eq rfl, swp_rel⟩
/-! ### _law_number -/
abbrev sNum : Stmt := topS 16
theorem scNum : FnScope ["_law_pot_here", "_law_number_here"] ["_law_pot_here"] (defScope sNum) := ⟨rfl, rfl, rfl, by decide +kernel, rfl, by decide +kernel, by decide +kernel⟩
def spNum : Sp := fun vs H Q _ => ∃ p : Addr, vs = [.ref p] ∧ Pot H p ∧ ∀ H' n, Keep p H H' → Pot H' p → n.natAbs < 100000000000000000000 → Q (.int n) H'
theorem pot_upd {H : Hp} {p t : Addr} {o : HO} (h : Pot H p) (n : H t = none) : Pot (upd H t o) p := h.same (same_upd n)
theorem three {d : Int} (h0 : 0 ≤ d) (h3 : d < 3) : d = 0 ∨ d = 1 ∨ d = 2 := by omega
theorem ok_num {f fT fB : Addr} {fd fdT fdB : FuncData} (F : Fun K "_law_number" "_law_number" sNum f fd) (FT : Fun K "_law_take" "_law_take" sTake fT fdT) (bT : Binds K fdT ["_law_pot_here", "_law_many"] []) (gT : mg "_law_take" = some (.ref fT))
    (FB : Fun K "_law_below" "_law_below" sBelow fB fdB) (bB : Binds K fdB ["_law_pot_here", "_law_many"] []) (gB : mg "_law_below" = some (.ref fB)) (mD : mg "divmod" = none) (mR : mg "range" = none) :
    FnOk P w K mg base CX0 3 f fd ["_law_pot_here"] spNum := by
  have GT : FnOk P w K mg base CX0 1 fT fdT ["_law_pot_here", "_law_many"] spTake := ok_take FT mD
  have GB : FnOk P w K mg base CX0 2 fB fdB ["_law_pot_here", "_law_many"] spBelow := ok_below FB FT bT gT mD mR
  refine F.ok scNum (fun vs H Q E h => ?_) (fun cdv A outer s H vs Q E hr h => ?_)
  · obtain ⟨p, rfl, _⟩ := h
    rfl
  · obtain ⟨p, rfl, hp, q⟩ := h
    have hr1 := hr.mono (show 1 ≤ 2 by decide)
    refine ⟨_, pss_cons (ps_set (i := 1) scNum.nd rfl (.inl rfl) (pe_ix ix_list (pe_lst (pa_cons (pe_call GT hr1 (by rfl) gT FT.kp bT .nil pass0 (pa_cons (pv 0) (pa_cons pe_int pa_nil)))
        (pa_cons (pe_call GT hr1 (by rfl) gT FT.kp bT .nil pass0 (pa_cons (pv 0) (pa_cons pe_int pa_nil))) (pa_cons (pe_call GB hr (by rfl) gB FB.kp bB .nil pass0 (pa_cons (pv 0) (pa_cons (pe_op op_pow pe_int pe_int) pa_nil))) pa_nil))))
        (pe_call GT hr1 (by rfl) gT FT.kp bT .nil pass0 (pa_cons (pv 0) (pa_cons pe_int pa_nil))) (fun _ _ => rfl)))
      (pss_one (ps_ret (pe_op op_mul (pv 1) (pe_op op_sub pe_int (pe_op op_mul pe_int (pe_call GT hr1 (by rfl) gT FT.kp bT .nil pass0 (pa_cons (pv 0) (pa_cons pe_int pa_nil)))))))), ?_⟩
    refine ⟨.ref p, rfl, p, 7, rfl, hp, by decide, by decide, fun H1 d1 k1 p1 l1 u1 => ?_⟩
    refine ⟨.ref p, rfl, p, 60, rfl, p1, by decide, by decide, fun H2 d2 k2 p2 l2 u2 => ?_⟩
    refine ⟨.ref p, rfl, 10, 20, rfl, rfl, ⟨by decide, by decide, by decide⟩, p, _, rfl, p2, by rw [ten20]; decide, fun H3 d3 k3 p3 l3 u3 => ?_⟩
    rw [ten20] at u3
    refine ⟨by show 3 ≤ sizeLine; decide, fun t nt => ?_⟩
    refine ⟨.ref p, rfl, p, 3, rfl, pot_upd p3 nt, by decide, by decide, fun H4 d4 k4 p4 l4 u4 => ?_⟩
    have ntp : t ≠ p := fun z => p3.ne nt z.symm
    have et : H4 t = some (.lst [.int d1, .int d2, .int d3]) := k4 _ _ ntp upd_same
    have kk : Keep p H H4 := ((k1.trans k2).trans k3).trans ((same_keep (same_upd nt)).trans k4)
    obtain ⟨n, en, bn⟩ : ∃ n : Int, atI [V.int d1, .int d2, .int d3] d4 = some (.int n) ∧ n.natAbs < 100000000000000000000 := by
      rcases three l4 u4 with rfl | rfl | rfl
      · exact ⟨d1, atI_nat (j := 0) rfl, by omega⟩
      · exact ⟨d2, atI_nat (j := 1) rfl, by omega⟩
      · exact ⟨d3, atI_nat (j := 2) rfl, by omega⟩
    refine ⟨t, _, d4, _, rfl, rfl, SqL.of et, en, ?_⟩
    refine ⟨.int n, rfl, .ref p, rfl, p, 2, rfl, p4, by decide, by decide, fun H5 d5 k5 p5 l5 u5 => ?_⟩
    refine ⟨2, d5, rfl, rfl, .inl ⟨by decide, by decide⟩, 1, _, rfl, rfl, n, _, rfl, rfl, .inr ⟨by omega, by omega⟩, ?_⟩
    refine q _ _ (kk.trans k5) p5 ?_
    have : d5 = 0 ∨ d5 = 1 := by omega
    rcases this with rfl | rfl
    · show (n * (1 - 2 * 0)).natAbs < _
      rw [show (1 - 2 * 0 : Int) = 1 by decide, Int.mul_one]
      exact bn
    · show (n * (1 - 2 * 1)).natAbs < _
      rw [show (1 - 2 * 1 : Int) = -1 by decide, Int.mul_neg, Int.mul_one, Int.natAbs_neg]
      exact bn
/-! ### _law_same -/
abbrev sSame : Stmt := topS 18
theorem scSame : FnScope ["_law_found", "_law_due"] ["_law_found", "_law_due"] (defScope sSame) := ⟨rfl, rfl, rfl, by decide +kernel, rfl, by decide +kernel, by decide +kernel⟩
theorem kd_two {H : Hp} {a : Addr} {i j : Int} (e : H a = some (.tup [.int i, .int j])) : Kd H (.ref a) := .tup e fun x hx => by
  rcases List.mem_cons.mp hx with rfl | hx
  · exact .int i
  · rcases List.mem_cons.mp hx with rfl | hx
    · exact .int j
    · cases hx
theorem bd_two {H : Hp} {a : Addr} {i j : Int} (e : H a = some (.tup [.int i, .int j])) (h : j.natAbs < 2 ^ 8000) : Bd H (.ref a) := fun a' i' j' ea e' => by
  cases ea
  rw [e] at e'
  injection e' with e'
  injection e' with e'
  injection e' with _ e'
  injection e' with e' _
  injection e' with e'
  rw [← e']
  exact h
def spSame : Sp := fun vs H Q _ => ∃ (a b : Addr) (i j : Int), vs = [.ref a, .ref b] ∧ H a = some (.tup [.int i, .int j]) ∧ H b = some (.tup [.int i, .int j]) ∧ isFr i j = true ∧ j.natAbs < 2 ^ 8000 ∧ ∀ H', Same H H' → Q (.bl true) H'
theorem ok_same {f fF fL : Addr} {fd fdF fdL : FuncData} (F : Fun K "_law_same" "_law_same" sSame f fd) (FF : Fun K "_law_is_fraction" "_law_is_fraction" sLF fF fdF) (bF : Binds K fdF ["_law_what"] []) (gF : mg "_law_is_fraction" = some (.ref fF))
    (GF : FnOk P w K mg base CX0 2 fF fdF ["_law_what"] spLF) : FnOk P w K mg base CX0 3 f fd ["_law_found", "_law_due"] spSame := by
  refine F.ok scSame (fun vs H Q E h => ?_) (fun cdv A outer s H vs Q E hr h => ?_)
  · obtain ⟨a, b, i, j, rfl, _⟩ := h
    rfl
  · obtain ⟨a, b, i, j, rfl, ea, eb, hf, hj, q⟩ := h
    refine ⟨_, pss_one (ps_ret (pe_and (pe_call GF hr (by rfl) gF FF.kp bF .nil pass0 (pa_cons (pv 0) pa_nil)) (pe_one (pe_cmpR (op_eqD hr.units) (pv 0) (pv 1) (nomark _))))), ?_⟩
    refine ⟨.ref a, rfl, .ref a, rfl, kd_two ea, bd_two ea hj, fun H' sm => ?_⟩
    refine ⟨_, rfl, ?_⟩
    rw [frB_ints ea, hf]
    refine iteT ?_
    refine ⟨.ref a, rfl, .ref b, rfl, _, _, .tup (SqT.of (sm _ _ ea)) (.cons (.int _) (.cons (.int _) .nil)), .tup (SqT.of (sm _ _ eb)) (.cons (.int _) (.cons (.int _) .nil)), rfl, rfl, ?_⟩
    rw [eqv_two, beq_self_eq_true, beq_self_eq_true]
    exact q _ sm
/-! ### fraction by 0 -/
structure ExT (K : PySem.W.Frag) (mg : Str → Option Value) (C S : Addr) : Prop where
  xP : PySem.W.excIn K C [.type "ValueError", .type "Exception", .type "BaseException", .type "object"] "ValueError.__new__" = true
  gP : mg "NoFraction" = some (.ref C)
  kP : PySem.W.keepIn K (.ref C) = true
  bP : PySem.W.subIn K (.ref C) (.type "BaseException") = some true
  tP : PySem.W.typeIn K (.ref C) = some (.type "type")
  te : PySem.W.exmOne K (.ref C) (.ref C) = some true
  ec : ExcC K C
  gS : mg "StuffError" = some (.ref S)
  k1 : PySem.W.kitOne K (.ref C) (.ref S) = some true
  k2 : PySem.W.kitOne K (.ref C) (.type "ValueError") = some true
def spFracX (C : Addr) : Sp := fun vs H _ E => ∃ a : Int, vs = [.int a, .int 0] ∧ E (.ref C) none H
theorem ok_fracX {f C S : Addr} {fd : FuncData} (F : Fun K "fraction" "fraction" sFrac f fd) (T : ExT K mg C S) : FnOk P w K mg base (L2.CX P w) 2 f fd ["top", "bottom"] (spFracX C) := by
  refine F.okX scFrac (fun vs H Q E h => ?_) (fun cdv A outer s H vs Q E hr h => ?_)
  · obtain ⟨a, rfl, _⟩ := h
    rfl
  · obtain ⟨a, rfl, q⟩ := h
    refine ⟨_, pss_cons (ps_if (pt_cmpR op_eq (pv 1) pe_int (nomark _)) (pss_one (ps_raise rfl (takes_of rfl rfl rfl rfl) (pmk_own PySem.F.excBase_ValueError T.xP T.gP T.kP (raises_own T.bP T.tP) rfl))) pss_nil) pss_never, ?_⟩
    refine ⟨_, rfl, rfl, _, rfl, ite2 (fun _ => q) (fun e => absurd (decide_eq_true rfl) e)⟩
end
end G
set_option Elab.async false
set_option linter.all false
set_option maxRecDepth 100000
namespace G
open PySem PySem.Spec PyProof.Rows L2
/-! ### displays of written things -/
def Od (H : Hp) (x : V) : Prop := Kd H x ∧ Bd H x
theorem Od.same {H H' : Hp} {x : V} (h : Od H x) (s : Same H H') : Od H' x := by
  refine ⟨h.1.same s, fun a i j ea e => ?_⟩
  subst ea
  have hb := h.2 a i j rfl
  have hk := h.1
  cases hk with
  | lst q => rw [s _ _ q] at e; cases e
  | tup q _ =>
    rw [s _ _ q] at e
    exact hb (q.trans e)
  | dK q => rw [s _ _ q] at e; cases e
def Sm (x : V) : Prop := ∀ i, x = .int i → i.natAbs < 2 ^ 8000
def OkE (t : TE) : Prop := ∀ σ H Q, (∀ H' x, Same H H' → Od H' x → Sm x → Q x H') → t σ H Q
def OkA (n : Nat) (t : TA) : Prop := ∀ σ H Q, (∀ H' xs, Same H H' → xs.length = n → (∀ x ∈ xs, Od H' x ∧ Sm x) → Q xs H') → t σ H Q
theorem okA_nil : OkA 0 tNil := fun σ H Q q => q H [] (.refl _) rfl (fun x hx => by cases hx)
theorem okA_cons {te : TE} {tr : TA} {n : Nat} (a : OkE te) (b : OkA n tr) : OkA (n + 1) (tCons te tr) := fun σ H Q q =>
  a σ H _ fun H1 x s1 o1 m1 => b σ H1 _ fun H2 xs s2 l2 h2 => q H2 (x :: xs) (s1.trans s2) (by rw [List.length_cons, l2]) fun y hy => by
    rcases List.mem_cons.mp hy with rfl | hy
    · exact ⟨o1.same s2, m1⟩
    · exact h2 y hy
theorem bd_flat {H : Hp} {x : V} (h : ∀ a, x ≠ .ref a) : Bd H x := fun a _ _ e _ => absurd e (h a)
theorem okE_non : OkE (tC .non) := fun σ H Q q => q H _ (.refl _) ⟨.non, bd_flat (by intro a z; cases z)⟩ (by intro i z; cases z)
theorem okE_bl {b : Bool} : OkE (tC (.bl b)) := fun σ H Q q => q H _ (.refl _) ⟨.bl b, bd_flat (by intro a z; cases z)⟩ (by intro i z; cases z)
theorem okE_str {b : Str} : OkE (tC (.str b)) := fun σ H Q q => q H _ (.refl _) ⟨.str b, bd_flat (by intro a z; cases z)⟩ (by intro i z; cases z)
theorem okE_int {i : Int} (h : i.natAbs < 2 ^ 8000) : OkE (tC (.int i)) := fun σ H Q q => q H _ (.refl _) ⟨.int i, bd_flat (by intro a z; cases z)⟩ (by intro j z; cases z; exact h)
theorem okE_neg {i : Int} (h : i.natAbs < 2 ^ 8000) : OkE (tUn (rU fun i => .int (-i)) (tC (.int i))) := fun σ H Q q => ⟨i, rfl, q H _ (.refl _) ⟨.int (-i), bd_flat (by intro a z; cases z)⟩ (by intro j z; cases z; rw [Int.natAbs_neg]; exact h)⟩
theorem okE_tup {t : TA} {n : Nat} (a : OkA n t) (hn : n ≤ 1000) : OkE (tTup t) := fun σ H Q q => a σ H _ fun H1 xs s1 l1 h1 => by
  refine ⟨Nat.le_of_lt (small1000 (by omega)), fun p np => ?_⟩
  have s2 := same_upd (o := .tup xs) np
  refine q _ _ (s1.trans s2) ⟨.tup upd_same fun x hx => (h1 x hx).1.1.same s2, fun a i j ea e => ?_⟩ (by intro j z; cases z)
  cases ea
  rw [upd_same] at e
  injection e with e
  injection e with e
  exact (h1 (.int j) (by rw [e]; exact .tail _ (.head _))).2 j rfl
theorem okE_lst {t : TA} {n : Nat} (a : OkA n t) (hn : n ≤ 1000) : OkE (tLst t) := fun σ H Q q => a σ H _ fun H1 xs s1 l1 h1 => by
  refine ⟨Nat.le_of_lt (small1000 (by omega)), fun p np => ?_⟩
  have s2 := same_upd (o := .lst xs) np
  refine q _ _ (s1.trans s2) ⟨.lst upd_same, fun a i j ea e => ?_⟩ (by intro j z; cases z)
  cases ea
  rw [upd_same] at e
  cases e
theorem okE_dct : OkE tDNewK := fun σ H Q q p np => by
  refine q _ _ (same_upd np) ⟨.dK upd_same, fun a i j ea e => ?_⟩ (by intro j z; cases z)
  cases ea
  rw [upd_same] at e
  cases e
theorem seqLst {t : TA} {n i : Nat} {u : TS} {D : Ends} {σ : L2.St} {H : Hp} (a : OkA n t) (hn : n ≤ 1000) (h : ∀ H' xs p, Same H H' → xs.length = n → (∀ x ∈ xs, Od H' x) → H' p = some (.lst xs) → H p = none → u D (σ.set i (some (.ref p))) H') : tSeq (tAsg (tLst t) (gName i)) u D σ H :=
  a σ H _ fun H1 xs s1 l1 h1 => ⟨Nat.le_of_lt (small1000 (by omega)), fun p np => h _ xs p (s1.trans (same_upd np)) l1 (fun x hx => (h1 x hx).1.same (same_upd np)) upd_same (s1.free np)⟩
theorem seqCat {t : TA} {n i j : Nat} {u : TS} {D : Ends} {σ : L2.St} {H : Hp} {b : Addr} {ys : List V} (a : OkA n t) (hn : n ≤ 500) (hj : σ[j]? = some (some (.ref b))) (eb : H b = some (.lst ys)) (hy : ys.length ≤ 500)
    (h : ∀ H' zs c, Same H H' → zs.length = n → (∀ x ∈ zs, Od H' x) → H' c = some (.lst (ys ++ zs)) → H c = none → u D (σ.set i (some (.ref c))) H') : tSeq (tAsg (tOp rCat (tVar j) (tLst t)) (gName i)) u D σ H :=
  ⟨.ref b, hj, a σ H _ fun H1 zs s1 l1 h1 => ⟨Nat.le_of_lt (small1000 (by omega)), fun p np =>
    ⟨b, p, ys, zs, rfl, rfl, (same_upd np) _ _ (s1 _ _ eb), upd_same, Nat.le_of_lt (small1000 (by omega)), fun c nc =>
      h _ zs c ((s1.trans (same_upd np)).trans (same_upd nc)) l1 (fun x hx => ((h1 x hx).1.same (same_upd np)).same (same_upd nc)) upd_same ((s1.trans (same_upd np)).free nc)⟩⟩⟩
section
variable {P : Program} {w : World} {K : PySem.W.Frag} {mg : Str → Option Value} {base : Heap}
/-! ### _law_odd -/
abbrev sOdd : Stmt := topS 17
theorem scOdd : FnScope ["_law_pot_here", "_law_some"] ["_law_pot_here"] (defScope sOdd) := ⟨rfl, rfl, rfl, by decide +kernel, rfl, by decide +kernel, by decide +kernel⟩
def spOdd : Sp := fun vs H Q _ => ∃ p : Addr, vs = [.ref p] ∧ Pot H p ∧ ∀ H' x, Keep p H H' → Pot H' p → Od H' x → Q x H'
theorem Od.keep {p : Addr} {H H' : Hp} {x : V} (h : Od H x) (k : Keep p H H') (hp : Pot H p) (hp' : Pot H' p) : Od H' x := by
  obtain ⟨u, v, e, _⟩ := hp
  obtain ⟨u', v', e', _⟩ := hp'
  have go : ∀ {x : V}, Kd H x → Kd H' x := by
    intro x kx
    induction kx with
    | non => exact .non
    | bl b => exact .bl b
    | int i => exact .int i
    | str z => exact .str z
    | @lst a xs q =>
      by_cases ha : a = p
      · rw [ha]; exact .lst e'
      · exact .lst (k _ _ ha q)
    | @tup a xs q _ ih =>
      have ha : a ≠ p := fun z => by rw [z, e] at q; cases q
      exact .tup (k _ _ ha q) ih
    | @dK a kvs q =>
      have ha : a ≠ p := fun z => by rw [z, e] at q; cases q
      exact .dK (k _ _ ha q)
  refine ⟨go h.1, fun a i j ea ee => ?_⟩
  subst ea
  have hb := h.2 a i j rfl
  have ha : a ≠ p := fun z => by rw [z, e'] at ee; cases ee
  have hk := h.1
  cases hk with
  | lst q => rw [k _ _ ha q] at ee; cases ee
  | tup q _ =>
    rw [k _ _ ha q] at ee
    exact hb (q.trans ee)
  | dK q => rw [k _ _ ha q] at ee; cases ee
theorem at_mem {xs : List V} {d : Int} (h0 : 0 ≤ d) (h1 : d < xs.length) : ∃ x ∈ xs, atI xs d = some x := by
  obtain ⟨n, rfl⟩ : ∃ n : Nat, d = n := ⟨d.toNat, by omega⟩
  have hn : n < xs.length := by omega
  exact ⟨xs[n], List.getElem_mem hn, atI_nat (List.getElem?_eq_getElem hn)⟩
theorem ok_odd {f fT : Addr} {fd fdT : FuncData} (F : Fun K "_law_odd" "_law_odd" sOdd f fd) (FT : Fun K "_law_take" "_law_take" sTake fT fdT) (bT : Binds K fdT ["_law_pot_here", "_law_many"] []) (gT : mg "_law_take" = some (.ref fT)) (mD : mg "divmod" = none) (mL : mg "len" = none) :
    FnOk P w K mg base CX0 2 f fd ["_law_pot_here"] spOdd := by
  have GT : FnOk P w K mg base CX0 1 fT fdT ["_law_pot_here", "_law_many"] spTake := ok_take FT mD
  refine F.ok scOdd (fun vs H Q E h => ?_) (fun cdv A outer s H vs Q E hr h => ?_)
  · obtain ⟨p, rfl, _⟩ := h
    rfl
  · obtain ⟨p, rfl, hp, q⟩ := h
    refine ⟨_, pss_cons (ps_set (i := 1) scOdd.nd rfl (.inl rfl) (pe_lst (pa_cons pe_non (pa_cons pe_bl (pa_cons pe_int (pa_cons pe_str (pa_cons pe_str (pa_cons (pe_tup pa_nil) (pa_cons (pe_tup (pa_cons pe_int pa_nil)) (pa_cons (pe_tup (pa_cons pe_int (pa_cons pe_int (pa_cons pe_int pa_nil))))
          (pa_cons (pe_lst (pa_cons pe_int (pa_cons pe_int pa_nil))) (pa_cons (pe_tup (pa_cons pe_bl (pa_cons pe_int pa_nil))) (pa_cons (pe_tup (pa_cons pe_int (pa_cons pe_bl pa_nil))) (pa_cons (pe_tup (pa_cons pe_int (pa_cons pe_bl pa_nil)))
          (pa_cons (pe_tup (pa_cons pe_int (pa_cons pe_str pa_nil))) (pa_cons (pe_tup (pa_cons pe_str (pa_cons pe_int pa_nil))) pa_nil))))))))))))))))
      (pss_cons (ps_set (i := 1) scOdd.nd rfl (.inl rfl) (pe_op op_cat (pv 1) (pe_lst (pa_cons (pe_tup (pa_cons (pe_tup (pa_cons pe_int (pa_cons pe_int pa_nil))) (pa_cons pe_int pa_nil)))
          (pa_cons (pe_tup (pa_cons pe_int (pa_cons pe_int pa_nil))) (pa_cons (pe_tup (pa_cons pe_int (pa_cons pe_int pa_nil))) (pa_cons (pe_tup (pa_cons pe_int (pa_cons pe_int pa_nil))) (pa_cons (pe_tup (pa_cons pe_int (pa_cons pe_int pa_nil))) (pa_cons (pe_tup (pa_cons pe_int (pa_cons pe_int pa_nil)))
          (pa_cons (pe_tup (pa_cons (pe_un un_neg pe_int) (pa_cons (pe_un un_neg pe_int) pa_nil))) (pa_cons (pe_tup (pa_cons pe_int (pa_cons (pe_un un_neg pe_int) pa_nil))) (pa_cons (pe_tup (pa_cons (pe_un un_neg pe_int) (pa_cons pe_int pa_nil)))
          (pa_cons (pe_tup (pa_cons pe_non (pa_cons pe_int pa_nil))) (pa_cons pe_dnewK pa_nil))))))))))))))
      (pss_cons (ps_set (i := 1) scOdd.nd rfl (.inl rfl) (pe_op op_cat (pv 1) (pe_lst (pa_cons (pe_tup (pa_cons pe_int (pa_cons pe_int pa_nil))) (pa_cons (pe_tup (pa_cons pe_int (pa_cons pe_int pa_nil))) (pa_cons (pe_tup (pa_cons (pe_un un_neg pe_int) (pa_cons pe_int pa_nil))) pa_nil))))))
      (pss_one (ps_ret (pe_ix ix_list (pv 1) (pe_call GT hr (by rfl) gT FT.kp bT .nil pass0 (pa_cons (pv 0) (pa_cons (pe_callB call_len_seq (by rfl) mL PySem.boot_len (pa_cons (pv 1) pa_nil)) pa_nil))) (fun _ _ => rfl)))))), ?_⟩
    have two : ∀ {a b : TE}, OkE a → OkE b → OkE (tTup (tCons a (tCons b tNil))) := fun ha hb => okE_tup (okA_cons ha (okA_cons hb okA_nil)) (by decide)
    have big : ∀ k : Nat, k < 10 → k < 2 ^ 8000 := fun k hk => Nat.lt_of_lt_of_le hk (Nat.le_trans (show 10 ≤ 2 ^ 4 by decide) (Nat.pow_le_pow_right (by decide) (by decide)))
    have n : ∀ k : Nat, k < 10 → OkE (tC (.int (k : Nat))) := fun k hk => okE_int (big k hk)
    have m : ∀ k : Nat, k < 10 → OkE (tUn (rU fun i => .int (-i)) (tC (.int (k : Nat)))) := fun k hk => okE_neg (big k hk)
    have n0 := n 0 (by decide); have n1 := n 1 (by decide); have n2 := n 2 (by decide); have n3 := n 3 (by decide); have n4 := n 4 (by decide); have n6 := n 6 (by decide); have n7 := n 7 (by decide)
    have m1 := m 1 (by decide); have m2 := m 2 (by decide); have m4 := m 4 (by decide); have m7 := m 7 (by decide)
    refine seqLst (n := 14) (okA_cons okE_non (okA_cons okE_bl (okA_cons n7 (okA_cons okE_str (okA_cons okE_str (okA_cons (okE_tup okA_nil (by decide)) (okA_cons (okE_tup (okA_cons n1 okA_nil) (by decide)) (okA_cons (okE_tup (okA_cons n1 (okA_cons n2 (okA_cons n3 okA_nil))) (by decide))
      (okA_cons (okE_lst (okA_cons n1 (okA_cons n2 okA_nil)) (by decide)) (okA_cons (two okE_bl n2) (okA_cons (two n1 okE_bl) (okA_cons (two n0 okE_bl) (okA_cons (two n1 okE_str) (okA_cons (two okE_str n2) okA_nil)))))))))))))) (by decide) fun H1 xs a s1 l1 h1 ea _ => ?_
    refine seqCat (n := 11) (okA_cons (two (two n1 n2) n1) (okA_cons (two n0 n0) (okA_cons (two n1 n0) (okA_cons (two n0 n1) (okA_cons (two n0 n2) (okA_cons (two n2 n4) (okA_cons (two m2 m4) (okA_cons (two n1 m2) (okA_cons (two m1 n2) (okA_cons (two okE_non n1) (okA_cons okE_dct okA_nil))))))))))) (by decide) rfl ea (by omega) fun H2 ys b s2 l2 h2 eb _ => ?_
    refine seqCat (n := 3) (okA_cons (two n6 n3) (okA_cons (two n7 n1) (okA_cons (two m7 n1) okA_nil))) (by decide) rfl eb (by rw [List.length_append]; omega) fun H3 zs c s3 l3 h3 ec nc => ?_
    have sm := (s1.trans s2).trans s3
    have ln : (xs ++ ys ++ zs).length = 28 := by
      rw [List.length_append, List.length_append]
      omega
    refine ⟨.ref c, rfl, .ref p, rfl, .ref c, rfl, c, _, rfl, .inl (SqL.of ec), p, _, rfl, hp.same sm, by rw [ln]; decide, by rw [ln]; decide, fun H4 i k4 p4 li ui => ?_⟩
    have nep : c ≠ p := fun z => (hp.same (s1.trans s2)).ne nc z.symm
    obtain ⟨x, hx, ex⟩ := at_mem (xs := xs ++ ys ++ zs) li ui
    refine ⟨c, _, i, x, rfl, rfl, SqL.of (k4 _ _ nep ec), ex, ?_⟩
    refine q _ _ ((same_keep sm).trans k4) p4 (Od.keep ?_ k4 (hp.same sm) p4)
    rcases List.mem_append.mp hx with hx | hx
    · rcases List.mem_append.mp hx with hx | hx
      · exact (h1 x hx).same (s2.trans s3)
      · exact (h2 x hx).same s3
    · exact h3 x hx
end
end G
set_option Elab.async false
set_option linter.all false
set_option maxRecDepth 100000
set_option maxHeartbeats 1000000
namespace G
open PySem PySem.Spec PyProof.Rows L2
section
variable {P : Program} {w : World} {K : PySem.W.Frag} {mg : Str → Option Value} {base : Heap}
/-! ### _law_made_right -/
abbrev sMade : Stmt := topS 19
theorem scMade : FnScope ["_law_up", "_law_down", "_law_found", "e"] ["_law_up", "_law_down"] (defScope sMade) := ⟨rfl, rfl, rfl, by decide +kernel, rfl, by decide +kernel, by decide +kernel⟩
def spMade : Sp := fun vs H Q _ => ∃ a b : Int, vs = [.int a, .int b] ∧ b.natAbs < 2 ^ 8000 ∧ ∀ H', Same H H' → Q (.bl true) H'
theorem ok_made {f fR fS fL C S : Addr} {fd fdR fdS fdL : FuncData} (F : Fun K "_law_made_right" "_law_made_right" sMade f fd)
    (FR : Fun K "fraction" "fraction" sFrac fR fdR) (bR : Binds K fdR ["top", "bottom"] []) (gR : mg "fraction" = some (.ref fR)) (GR : FnOk P w K mg base CX0 2 fR fdR ["top", "bottom"] spFrac)
    (FS : Fun K "_law_same" "_law_same" sSame fS fdS) (bS : Binds K fdS ["_law_found", "_law_due"] []) (gS : mg "_law_same" = some (.ref fS)) (GS : FnOk P w K mg base CX0 3 fS fdS ["_law_found", "_law_due"] spSame)
    (FL : Fun K "_law_lowest" "_law_lowest" sLow fL fdL) (bL : Binds K fdL ["_law_up", "_law_down"] []) (gL : mg "_law_lowest" = some (.ref fL)) (GL : FnOk P w K mg base CX0 1 fL fdL ["_law_up", "_law_down"] spFrac)
    (T : ExT K mg C S) (mI : mg "isinstance" = none) (mV : mg "ValueError" = none) : FnOk P w K mg base CX0 4 f fd ["_law_up", "_law_down"] spMade := by
  have GX : FnOk P w K mg base (L2.CX P w) 2 fR fdR ["top", "bottom"] (spFracX C) := ok_fracX FR T
  refine F.ok scMade (fun vs H Q E h => ?_) (fun cdv A outer s H vs Q E hr h => ?_)
  · obtain ⟨a, b, rfl, _⟩ := h
    rfl
  · obtain ⟨a, b, rfl, hz, q⟩ := h
    have hr2 := hr.mono (show 2 ≤ 3 by decide)
    have hr1 := hr.mono (show 1 ≤ 3 by decide)
    by_cases hb : b = 0
    · subst hb
      refine ⟨_, pss_cons (ps_try_as (i := 3) (tb := fun W => tSeq (tAsg (tCallS (spFracX C) (WE W) (tCons (tVar 0) (tCons (tVar 1) tNil))) (gName 2)) tNever)
          (ts := fun a cls d => fun D σ H => (cls = .ref C ∧ d = none) ∧ tRet (tAndV (tOp rEq (tVar 1) (tC (.int 0))) (tAndV (tCB (rIsE K C a) (tCons (tVar 3) (tCons (tC (.ref S)) tNil))) (tCB (rIsE K C a) (tCons (tVar 3) (tCons (tC (.ty "ValueError")) tNil))))) D σ H)
          (Wout := fun _ _ _ _ => False) rfl rfl scMade.nd rfl rfl ⟨rfl, by decide, .inl T.gP⟩ takes0
          (fun W pn xe tk _ => pss_cons (ps_set (i := 2) scMade.nd rfl (.inl rfl) (by exact (pe_callS GX hr2 rfl gR FR.kp bR (fun σ => passAt tk σ) (by exact (pa_cons (pv 0) (pa_cons (pv 1) pa_nil)))))) pss_never)
          (fun a oe cls d pn hz hf => pss_given fun hp => by
            obtain ⟨rfl, rfl⟩ := hp
            exact pss_one (ps_ret (pe_and (pe_cmpR op_eq (pv 1) pe_int (nomark _)) (pe_and (pe_callB (call_isE T.ec hz hf) (by rfl) mI (by decide +kernel) (pa_cons (pv 3) (pa_cons (pe_glob (v := .ref S) (by rfl) T.gS rfl) pa_nil)))
              (pe_one (pe_callB (call_isE T.ec hz hf) (by rfl) mI (by decide +kernel) (pa_cons (pv 3) (pa_cons (pe_bltn (v := .ty "ValueError") (by rfl) mV (by decide +kernel) rfl) pa_nil)))))))) ) pss_never, ?_⟩
      refine ⟨_, rfl, _, rfl, a, rfl, true, T.te, fun _ a0 na => ⟨⟨rfl, rfl⟩, ?_⟩, fun z => nomatch z⟩
      refine ⟨_, rfl, rfl, _, rfl, iteT ?_⟩
      refine ⟨_, rfl, _, .ref S, _, rfl, fun u hu => hu, T.k1, _, rfl, iteT ?_⟩
      exact ⟨_, rfl, _, .type "ValueError", _, rfl, fun u hu => hu, T.k2, q _ (.refl _)⟩
    · refine ⟨_, pss_cons (ps_try_thru0 (pss_cons (ps_set (i := 2) scMade.nd rfl (.inl rfl) (pe_call GR hr2 (by rfl) gR FR.kp bR .nil pass0 (pa_cons (pv 0) (pa_cons (pv 1) pa_nil))))
          (pss_one (ps_if (pt_cmpR (op_neD hr.units) (pe_callN0 GR hr2 (by rfl) gR FR.kp (kb_frac FR) pass0 (pk_cons (pv 1) (pk_cons (pv 0) pk_nil))) (pv 2) (nomark _)) (pss_one (ps_ret pe_bl)) pss_nil))))
        (pss_one (ps_ret (pe_and (pe_cmpR op_ne (pv 1) pe_int (nomark _)) (pe_one (pe_call GS hr (by rfl) gS FS.kp bS .nil pass0 (pa_cons (pv 2) (pa_cons (pe_call GL hr1 (by rfl) gL FL.kp bL .nil pass0 (pa_cons (pv 0) (pa_cons (pv 1) pa_nil))) pa_nil))))))), ?_⟩
      refine ⟨_, rfl, _, rfl, a, b, rfl, hb, hz, fun p np => ?_⟩
      have s1 := same_upd (o := .tup [.int (low1 a b), .int (low2 a b)]) np
      refine ⟨_, rfl, _, rfl, rfl, a, b, rfl, hb, hz, fun p2 np2 => ?_⟩
      have s2 := same_upd (o := .tup [.int (low1 a b), .int (low2 a b)]) np2
      have e1 : (upd (upd H p (.tup [.int (low1 a b), .int (low2 a b)])) p2 (.tup [.int (low1 a b), .int (low2 a b)])) p = some (.tup [.int (low1 a b), .int (low2 a b)]) := s2 _ _ upd_same
      refine ⟨_, rfl, _, _, .tup (SqT.of upd_same) (.cons (.int _) (.cons (.int _) .nil)), .tup (SqT.of e1) (.cons (.int _) (.cons (.int _) .nil)), rfl, rfl, _, rfl, ?_⟩
      rw [eqv_two, beq_self_eq_true, beq_self_eq_true]
      refine iteF ?_
      refine ⟨_, rfl, rfl, _, rfl, ?_⟩
      rw [decide_eq_false (show ¬ (V.int b = V.int 0) from fun z => hb (V.int.inj z))]
      refine iteT ?_
      refine ⟨_, rfl, _, rfl, _, rfl, a, b, rfl, hb, hz, fun p3 np3 => ?_⟩
      have s3 := same_upd (o := .tup [.int (low1 a b), .int (low2 a b)]) np3
      refine ⟨p, p3, low1 a b, low2 a b, rfl, s3 _ _ e1, upd_same, low_fr hb, Nat.lt_of_le_of_lt (low2_le hb) hz, fun H' sm => q _ (((s1.trans s2).trans s3).trans sm)⟩
end
end G
set_option Elab.async false
set_option linter.all false
set_option maxRecDepth 100000
set_option maxHeartbeats 1000000
namespace G
open PySem PySem.Spec PyProof.Rows L2 TL
/-! ### texts of numbers -/
def Tn (n : Nat) : Str := Str.ofString (toString ((n : Nat) : Int))
theorem tl_Tn (n : Nat) : tl (Tn n) = numL n := tl_num n
abbrev big : Nat := 100000000000000000000
theorem numL_20 {n : Nat} (h : n < big) : (numL n).length ≤ 20 := numL_len (by decide) (Nat.lt_of_lt_of_le h (by decide))
theorem Tn_len {n : Nat} (h : n < big) : (Tn n).length ≤ 20 := by
  rw [len_tl, tl_Tn]
  exact numL_20 h
theorem log_20 {n : Nat} (h : n < big) : ((n : Nat) : Int).natAbs.log2 < 1920 := by
  refine PySem.Flt.log2_lt_of (by decide) ?_
  rw [Int.natAbs_natCast]
  exact Nat.lt_of_lt_of_le h (Nat.le_trans (show big ≤ 2 ^ 100 by decide) (Nat.pow_le_pow_right (by decide) (by decide)))
theorem join_one (y x : Str) : Txt.join y [x] = x := by
  rw [join_eq]
  rfl
def sg (i : Int) : Str := if i < 0 then "-" else ""
def bl (j : Int) : Str := if j = 1 then "" else "/" ++ Tn j.natAbs
def fT (i j : Int) : Str := (sg i ++ Tn i.natAbs) ++ bl j
theorem sg_len (i : Int) : (sg i).length ≤ 1 := by
  unfold sg
  split <;> decide +kernel
theorem app_len (x y : Str) : (x ++ y).length = x.length + y.length := by
  rw [len_tl, len_tl, len_tl, tl_append, List.length_append]
theorem bl_len {j : Int} (h : j.natAbs < big) : (bl j).length ≤ 21 := by
  unfold bl
  split
  · decide +kernel
  · rw [app_len]
    have h1 := Tn_len h
    have h2 : (Str.ofString "/").length = 1 := by decide +kernel
    omega
theorem line_ok {n : Nat} (h : n ≤ 100) : n ≤ sizeLine := Nat.le_trans h (by decide)
section
variable {P : Program} {w : World} {K : PySem.W.Frag} {mg : Str → Option Value} {base : Heap}
/-! ### figures -/
abbrev sFig : Stmt := topS 8
theorem scFig : FnScope ["number", "groups", "low"] ["number"] (defScope sFig) := ⟨rfl, rfl, rfl, by decide +kernel, rfl, by decide +kernel, by decide +kernel⟩
def spFig : Sp := fun vs H Q _ => ∃ n : Nat, vs = [.int (n : Int)] ∧ n < big ∧ ∀ H', Same H H' → Q (.str (Tn n)) H'
theorem ok_fig {f : Addr} {fd : FuncData} (F : Fun K "figures" "figures" sFig f fd) (mS : mg "str" = none) : FnOk P w K mg base CX0 1 f fd ["number"] spFig := by
  refine F.ok scFig (fun vs H Q E h => ?_) (fun cdv A outer s H vs Q E hr h => ?_)
  · obtain ⟨n, rfl, _⟩ := h
    rfl
  · obtain ⟨n, rfl, hn, q⟩ := h
    refine ⟨_, pss_cons (ps_set (i := 1) scFig.nd rfl (.inl rfl) (pe_lst pa_nil))
      (pss_cons (ps_while PassesOwn.never (pt_cmpR op_ge (pv 0) (pe_op op_pow pe_int pe_int) (nomark _)) pss_never)
      (pss_cons (ps_expr (pe_bm PySem.F.plainAttrs_list PySem.F.slot_list_append PySem.F.type_list_append mt_append (pv 1) (pa_cons (pe_callTy call_str_int (by rfl) mS (by decide +kernel) (pa_cons (pv 0) pa_nil)) pa_nil)))
      (pss_one (ps_ret (pe_join pe_str (pe_revL (pv 1))))))), ?_⟩
    refine ⟨Nat.zero_le _, fun g ng => ?_⟩
    refine ⟨fun m σ H' => σ = [some (.int (n : Int)), some (.ref g), none] ∧ H' = upd H g (.lst []), ⟨0, rfl, rfl⟩, ?_⟩
    rintro m σ H' ⟨rfl, rfl⟩
    refine ⟨_, rfl, 10, 60, rfl, rfl, ⟨by decide, by decide, by decide⟩, (n : Int), _, rfl, rfl, _, rfl, ite2 (fun e => ?_) (fun _ => ?_)⟩
    · have e0 : (10 : Int) ^ (60 : Int).toNat ≤ (n : Int) := of_decide_eq_true e
      have e1 : (10 : Int) ^ (60 : Int).toNat = ((10 ^ 60 : Nat) : Int) := by decide +kernel
      rw [e1] at e0
      have e2 : big < 10 ^ 60 := by decide
      omega
    · refine ⟨.ref g, rfl, .inl ⟨rfl, _, SqL.of upd_same⟩, _, rfl, n, rfl, log_20 hn, g, _, _, rfl, rfl, upd_same, (by show 0 < sizeLine; decide), ?_⟩
      have s1 : Same H (upd (upd H g (.lst [])) g (.lst ([] ++ [.str (Tn n)]))) := fun b u e => by
        rw [upd_ne (ne_of_none e ng), upd_ne (ne_of_none e ng)]
        exact e
      refine ⟨⟨_, rfl⟩, .ref g, rfl, g, _, rfl, SqL.of upd_same, fun r nr => ?_⟩
      refine ⟨_, r, [Tn n], rfl, rfl, .inl (SqL.of upd_same), ?_, ?_⟩
      · have h1 := Tn_len hn
        have h2 : (Str.ofString "").length = 0 := by decide +kernel
        show (Tn n).length + 0 + 1 * (Str.ofString "").length ≤ 16777216
        omega
      · rw [join_one]
        exact q _ (s1.trans (same_upd nr))
/-! ### fraction_text -/
abbrev sFT : Stmt := topS 9
theorem scFT : FnScope ["one", "top", "bottom", "sign", "below"] ["one"] (defScope sFT) := ⟨rfl, rfl, rfl, by decide +kernel, rfl, by decide +kernel, by decide +kernel⟩
def spFT : Sp := fun vs H Q _ => ∃ (a : Addr) (i j : Int), vs = [.ref a] ∧ H a = some (.tup [.int i, .int j]) ∧ i.natAbs < big ∧ 0 < j ∧ j.natAbs < big ∧ ∀ H', Same H H' → Q (.str (fT i j)) H'
theorem abs_cast (i : Int) : (if i < 0 then -i else i) = ((i.natAbs : Nat) : Int) := by split <;> omega
theorem ok_FT {f fG : Addr} {fd fdG : FuncData} (F : Fun K "fraction_text" "fraction_text" sFT f fd) (FG : Fun K "figures" "figures" sFig fG fdG) (bG : Binds K fdG ["number"] []) (gG : mg "figures" = some (.ref fG)) (mS : mg "str" = none) (mA : mg "abs" = none) : FnOk P w K mg base CX0 2 f fd ["one"] spFT := by
  have GG : FnOk P w K mg base CX0 1 fG fdG ["number"] spFig := ok_fig FG mS
  refine F.ok scFT (fun vs H Q E h => ?_) (fun cdv A outer s H vs Q E hr h => ?_)
  · obtain ⟨a, i, j, rfl, _⟩ := h
    rfl
  · obtain ⟨a, i, j, rfl, ea, hi, hj0, hj, q⟩ := h
    refine ⟨_, pss_cons (ps_asg (pv 0) (pg_tup (by rfl) (pgs_cons (pg_name (i := 1) scFT.nd rfl (.inl rfl)) (pgs_cons (pg_name (i := 2) scFT.nd rfl (.inl rfl)) pgs_nil))))
      (pss_cons (ps_set (i := 3) scFT.nd rfl (.inl rfl) (pe_ifExp (pt_cmpR op_lt (pv 1) pe_int (nomark _)) pe_str pe_str))
      (pss_cons (ps_set (i := 4) scFT.nd rfl (.inl rfl) (pe_ifExp (pt_cmpR op_eq (pv 2) pe_int (nomark _)) pe_str (pe_op op_add_str pe_str (pe_call GG hr (by rfl) gG FG.kp bG .nil pass0 (pa_cons (pv 2) pa_nil)))))
      (pss_one (ps_ret (pe_op op_add_str (pe_op op_add_str (pv 3) (pe_call GG hr (by rfl) gG FG.kp bG .nil pass0 (pa_cons (pe_callB call_abs (by rfl) mA (by decide +kernel) (pa_cons (pv 1) pa_nil)) pa_nil))) (pv 4)))))), ?_⟩
    have cat : ∀ x y : Str, x.length ≤ 40 → y.length ≤ 40 → x.length + y.length ≤ sizeLine := fun x y h1 h2 => line_ok (by omega)
    have fin : ∀ (H1 : Hp), Same H H1 → (tRet (tOp (fun x y H Q => ∃ i j, x = .str i ∧ y = .str j ∧ i.length + j.length ≤ sizeLine ∧ Q (.str (i ++ j)) H) (tOp (fun x y H Q => ∃ i j, x = .str i ∧ y = .str j ∧ i.length + j.length ≤ sizeLine ∧ Q (.str (i ++ j)) H) (tVar 3) (tCall spFig [] E0 (tCons (tCB (fun xs H Q => ∃ i, xs = [.int i] ∧ Q (.int (if i < 0 then -i else i)) H) (tCons (tVar 1) tNil)) tNil))) (tVar 4)))
        { nx := fun _ H' => Q .non H', rt := Q } [some (.ref a), some (.int i), some (.int j), some (.str (sg i)), some (.str (bl j))] H1 := by
      intro H1 s1
      refine ⟨_, rfl, _, rfl, i, rfl, i.natAbs, by rw [abs_cast]; rfl, hi, fun H2 s2 => ?_⟩
      refine ⟨_, _, rfl, rfl, cat _ _ (Nat.le_trans (sg_len i) (by decide)) (Nat.le_trans (Tn_len hi) (by decide)), _, rfl, _, _, rfl, rfl, ?_, q _ (s1.trans s2)⟩
      have h1 := sg_len i
      have h2 := Tn_len hi
      have h3 := bl_len hj
      rw [app_len]
      exact line_ok (by omega)
    have mid : ∀ (H1 : Hp), Same H H1 → (tSeq (tAsg (tIf (tTest (tOp rEq (tVar 2) (tC (.int 1)))) (tC (.str "")) (tOp (fun x y H Q => ∃ i j, x = .str i ∧ y = .str j ∧ i.length + j.length ≤ sizeLine ∧ Q (.str (i ++ j)) H) (tC (.str "/")) (tCall spFig [] E0 (tCons (tVar 2) tNil)))) (gName 4))
        (tRet (tOp (fun x y H Q => ∃ i j, x = .str i ∧ y = .str j ∧ i.length + j.length ≤ sizeLine ∧ Q (.str (i ++ j)) H) (tOp (fun x y H Q => ∃ i j, x = .str i ∧ y = .str j ∧ i.length + j.length ≤ sizeLine ∧ Q (.str (i ++ j)) H) (tVar 3) (tCall spFig [] E0 (tCons (tCB (fun xs H Q => ∃ i, xs = [.int i] ∧ Q (.int (if i < 0 then -i else i)) H) (tCons (tVar 1) tNil)) tNil))) (tVar 4))))
        { nx := fun _ H' => Q .non H', rt := Q } [some (.ref a), some (.int i), some (.int j), some (.str (sg i)), none] H1 := by
      intro H1 s1
      refine ⟨_, rfl, rfl, _, rfl, ite2 (fun e => ?_) (fun e => ?_)⟩
      · have e0 : j = 1 := V.int.inj (of_decide_eq_true e)
        have eb : bl j = "" := if_pos e0
        have := fin H1 s1
        rw [eb] at this
        exact this
      · have e0 : ¬ j = 1 := fun z => e (decide_eq_true (by rw [z]))
        have eb : bl j = "/" ++ Tn j.natAbs := if_neg e0
        refine ⟨_, rfl, j.natAbs, by rw [show ((j.natAbs : Nat) : Int) = j by omega]; rfl, hj, fun H2 s2 => ?_⟩
        refine ⟨_, _, rfl, rfl, cat _ _ (by decide +kernel) (Nat.le_trans (Tn_len hj) (by decide)), ?_⟩
        have := fin H2 (s1.trans s2)
        rw [eb] at this
        exact this
    refine ⟨.ref a, rfl, a, _, rfl, SqT.of ea, rfl, _, _, rfl, _, _, rfl, rfl, ?_⟩
    refine ⟨_, rfl, i, 0, rfl, rfl, _, rfl, ite2 (fun e => ?_) (fun e => ?_)⟩
    · have e0 : i < 0 := of_decide_eq_true e
      have es : sg i = "-" := if_pos e0
      have := mid H (.refl _)
      rw [es] at this
      exact this
    · have e0 : ¬ i < 0 := fun z => e (decide_eq_true z)
      have es : sg i = "" := if_neg e0
      have := mid H (.refl _)
      rw [es] at this
      exact this
theorem kb_FT {f : Addr} {fd : FuncData} (F : Fun K "fraction_text" "fraction_text" sFT f fd) : KBn K fd ["one"] 0 ["one"] one1 one1 := by
  obtain ⟨c0, d0, k0, dc, pm, an, cv, ct, sl, rfl, lk, hc⟩ := F.ex
  exact ⟨fun s us ws X l1 l2 => match us, ws, l1, l2 with | [], [_], _, _ => .of_eq rfl, one1_rel⟩
theorem kb_isF {f : Addr} {fd : FuncData} (F : Fun K "is_fraction" "is_fraction" sIsF f fd) : KBn K fd ["thing"] 0 ["thing"] one1 one1 := by
  obtain ⟨c0, d0, k0, dc, pm, an, cv, ct, sl, rfl, lk, hc⟩ := F.ex
  exact ⟨fun s us ws X l1 l2 => match us, ws, l1, l2 with | [], [_], _, _ => .of_eq rfl, one1_rel⟩
end
end G
set_option Elab.async false
set_option linter.all false
set_option maxRecDepth 100000
set_option maxHeartbeats 1000000
namespace G
open PySem PySem.Spec PyProof.Rows L2 TL
theorem idx_of {c : Nat} (h : 48 ≤ c ∧ c ≤ 57) : ∃ rest, Builtin.Str.occurrences (Str.ofString "0123456789") ⟨#[c]⟩ 0 (Str.ofString "0123456789").length 1 = (c - 48) :: rest := by
  have : c = 48 ∨ c = 49 ∨ c = 50 ∨ c = 51 ∨ c = 52 ∨ c = 53 ∨ c = 54 ∨ c = 55 ∨ c = 56 ∨ c = 57 := by omega
  rcases this with rfl | rfl | rfl | rfl | rfl | rfl | rfl | rfl | rfl | rfl <;> exact ⟨[], by decide +kernel⟩
theorem in_digits {c : Nat} (h : 48 ≤ c ∧ c ≤ 57) : c ∈ (Str.ofString "0123456789").cps.toList := by
  have e : (Str.ofString "0123456789").cps.toList = [48, 49, 50, 51, 52, 53, 54, 55, 56, 57] := by decide +kernel
  rw [e]
  have : c = 48 ∨ c = 49 ∨ c = 50 ∨ c = 51 ∨ c = 52 ∨ c = 53 ∨ c = 54 ∨ c = 55 ∨ c = 56 ∨ c = 57 := by omega
  rcases this with rfl | rfl | rfl | rfl | rfl | rfl | rfl | rfl | rfl | rfl <;> decide
theorem Tn_at {n i c : Nat} (h : (Tn n).cps[i]? = some c) : (numL n)[i]? = some c := by
  rw [← tl_Tn]
  show (Tn n).cps.toList[i]? = some c
  rw [Array.getElem?_toList]
  exact h
theorem Tn_size (n : Nat) : (Tn n).cps.size = (numL n).length := by
  rw [← tl_Tn]
  exact (Array.length_toList).symm
theorem val_more {n i c : Nat} (h : (numL n)[i]? = some c) : NumText.digitsVal ((numL n).take (i + 1)) = NumText.digitsVal ((numL n).take i) * 10 + (c - 48) := by
  rw [List.take_add_one, h]
  exact NumText.digitsVal_snoc _ _
/-- the first figure is 0 of 0 alone -/
theorem head0 : ∀ n : Nat, (numL n).head? = some 48 → n = 0 := by
  intro n
  induction n using Nat.strongRecOn with
  | _ n ih =>
    intro h
    by_cases hn : n < 10
    · rw [numL_lt hn] at h
      have : 48 + n = 48 := Option.some.inj h
      omega
    · rw [numL_step (by omega)] at h
      have hne := numL_ne (n / 10)
      obtain ⟨c, r, e⟩ := List.exists_cons_of_ne_nil hne
      have : (numL (n / 10)).head? = some 48 := by
        rw [e] at h ⊢
        exact h
      have := ih (n / 10) (by omega) this
      omega
theorem Tn0 : Tn 0 = "0" := by decide +kernel
theorem Tn_ne (n : Nat) : Tn n ≠ "" := fun z => numL_ne n (by rw [← tl_Tn, z]; decide +kernel)
theorem sw_dash (c : Nat) (r : List Nat) : Txt.startswith ⟨(c :: r).toArray⟩ "-" = (c == 45) := by
  have e : (Str.ofString "-").cps = #[45] := by decide +kernel
  have l : (Str.ofString "-").length = 1 := by decide +kernel
  unfold Txt.startswith Builtin.Str.subAt
  rw [e, l]
  show (decide (0 + 1 ≤ (c :: r).toArray.size) && ((c :: r).toArray.extract 0 (0 + 1) == #[45])) = (c == 45)
  rw [List.extract_toArray]
  simp
theorem sw_tl {x : Str} {c : Nat} {r : List Nat} (h : tl x = c :: r) : Txt.startswith x "-" = (c == 45) := by
  rw [← sw_dash c r, ← h, mk_tl]
theorem dash_tl : tl (Str.ofString "-") = [45] := by decide +kernel
theorem slash_tl : tl (Str.ofString "/") = [47] := by decide +kernel
theorem none_tl : tl (Str.ofString "") = [] := by decide +kernel
theorem numL_cons (n : Nat) : ∃ c r, numL n = c :: r ∧ 48 ≤ c ∧ c ≤ 57 := by
  obtain ⟨c, r, e⟩ := List.exists_cons_of_ne_nil (numL_ne n)
  exact ⟨c, r, e, numL_digits n c (by rw [e]; exact .head _)⟩
theorem sw_fT (i j : Int) : Txt.startswith (fT i j) "-" = decide (i < 0) := by
  by_cases h : i < 0
  · have es : sg i = "-" := if_pos h
    rw [decide_eq_true h, sw_tl (c := 45) (r := tl (Tn i.natAbs) ++ tl (bl j))]
    · rfl
    · unfold fT
      rw [tl_append, tl_append, es, dash_tl]
      rfl
  · have es : sg i = "" := if_neg h
    obtain ⟨c, r, e, h1, h2⟩ := numL_cons i.natAbs
    rw [decide_eq_false h, sw_tl (c := c) (r := r ++ tl (bl j))]
    · exact beq_eq_false_iff_ne.mpr (by omega)
    · unfold fT
      rw [tl_append, tl_append, es, none_tl, tl_Tn, e]
      rfl
theorem up_free (i : Int) : 47 ∉ tl (sg i ++ Tn i.natAbs) := by
  rw [tl_append, tl_Tn]
  intro h
  rcases List.mem_append.mp h with h | h
  · unfold sg at h
    split at h
    · rw [dash_tl] at h
      revert h
      decide
    · rw [none_tl] at h
      cases h
  · exact numL_free (.inl (by decide)) h
theorem part_1 (i : Int) : Txt.partition (fT i 1) "/" = (sg i ++ Tn i.natAbs, Str.empty, Str.empty) := by
  have e : fT i 1 = sg i ++ Tn i.natAbs := ext_tl (by
    unfold fT
    rw [tl_append, show bl 1 = "" from if_pos rfl, none_tl, List.append_nil])
  rw [e]
  exact partition_none slash_tl (up_free i)
theorem part_j {i j : Int} (h : j ≠ 1) : Txt.partition (fT i j) "/" = (sg i ++ Tn i.natAbs, Str.ofString "/", Tn j.natAbs) := by
  have e : fT i j = (sg i ++ Tn i.natAbs) ++ "/" ++ Tn j.natAbs := ext_tl (by
    unfold fT
    rw [show bl j = "/" ++ Tn j.natAbs from if_neg h]
    simp only [tl_append, List.append_assoc])
  rw [e]
  exact partition_app slash_tl (up_free i)
theorem cut_up (i : Int) : cutS (sg i ++ Tn i.natAbs) (some (if decide (i < 0) = true then 1 else 0)) none = Tn i.natAbs := by
  have hl := len_tl (sg i ++ Tn i.natAbs)
  have key : ∀ k : Nat, k ≤ (sg i ++ Tn i.natAbs).length → (tl (sg i ++ Tn i.natAbs)).drop k = numL i.natAbs → cutS (sg i ++ Tn i.natAbs) (some (k : Int)) none = Tn i.natAbs := by
    intro k hk e
    refine ext_tl ?_
    unfold cutS
    rw [HT.sIx_nat, HT.sIx_none, Nat.min_eq_left hk, tl_mk]
    show ((tl (sg i ++ Tn i.natAbs)).drop k).take _ = _
    rw [e, tl_Tn, List.take_of_length_le]
    rw [← e, List.length_drop, hl]
    exact Nat.le_refl _
  by_cases h : i < 0
  · rw [decide_eq_true h, if_pos rfl]
    have es : tl (sg i) = [45] := by rw [show sg i = "-" from if_pos h]; exact dash_tl
    refine key 1 ?_ ?_
    · rw [hl, tl_append, es]
      show 1 ≤ (45 :: tl (Tn i.natAbs)).length
      rw [List.length_cons]
      omega
    · rw [tl_append, es, tl_Tn]
      rfl
  · rw [decide_eq_false h, if_neg Bool.false_ne_true]
    have es : tl (sg i) = [] := by rw [show sg i = "" from if_neg h]; exact none_tl
    refine key 0 (Nat.zero_le _) ?_
    rw [tl_append, es, tl_Tn]
    rfl
section
variable {P : Program} {w : World} {K : PySem.W.Frag} {mg : Str → Option Value} {base : Heap}
/-! ### _law_figures -/
abbrev sLG : Stmt := topS 20
theorem scLG : FnScope ["_law_text", "_law_found", "_law_sign"] ["_law_text"] (defScope sLG) := ⟨rfl, rfl, rfl, by decide +kernel, rfl, by decide +kernel, by decide +kernel⟩
def spLG : Sp := fun vs H Q _ => ∃ n : Nat, vs = [.str (Tn n)] ∧ Q (.int (n : Int)) H
theorem ok_LG {f : Addr} {fd : FuncData} (F : Fun K "_law_figures" "_law_figures" sLG f fd) : FnOk P w K mg base CX0 1 f fd ["_law_text"] spLG := by
  refine F.ok scLG (fun vs H Q E h => ?_) (fun cdv A outer s H vs Q E hr h => ?_)
  · obtain ⟨n, rfl, _⟩ := h
    rfl
  · obtain ⟨n, rfl, q⟩ := h
    refine ⟨_, pss_cons (ps_set (i := 1) scLG.nd rfl (.inl rfl) pe_int)
      (pss_cons (ps_for PassesOwn.never rfl (pi_str (pv 0)) (pg_name (i := 2) scLG.nd rfl (.inl rfl))
        (pss_one (ps_set (i := 1) scLG.nd rfl (.inl rfl) (pe_op op_add (pe_op op_mul (pv 1) pe_int) (pe_m1 PySem.F.slot_str_index PySem.F.type_str_index mt_sindex pe_str (pv 2))))))
      (pss_one (ps_ret (pv 1)))), ?_⟩
    refine ⟨_, rfl, _, rfl, for_it walk_str (fun i σ H' => ∃ y : Option V, σ = [some (.str (Tn n)), some (.int ((NumText.digitsVal ((numL n).take i) : Nat) : Int)), y] ∧ H' = H) ⟨none, rfl, rfl⟩ (fun _ _ _ _ _ => trivial) ?_ ?_⟩
    · rintro i x σ H1 H2 hi ⟨y, rfl, rfl⟩ ⟨rfl, c, hc, rfl⟩
      have hc' := Tn_at hc
      have hd := numL_digits n c (List.mem_of_getElem? hc')
      obtain ⟨rest, hr⟩ := idx_of hd
      refine ⟨_, rfl, _, 10, rfl, rfl, .inr ⟨by decide, by decide⟩, ⟨_, rfl⟩, _, rfl, _, _, c - 48, rest, rfl, rfl, hr, _, _, rfl, rfl, some (.str ⟨#[c]⟩), ?_, rfl⟩
      rw [val_more hc']
      show [_, some (V.int (((NumText.digitsVal ((numL n).take i) : Nat) : Int) * 10 + ((c - 48 : Nat) : Int))), _] = [_, some (V.int ((NumText.digitsVal ((numL n).take i) * 10 + (c - 48) : Nat) : Int)), _]
      rw [Int.natCast_add, Int.natCast_mul]
      rfl
    · rintro σ H1 ⟨y, rfl, rfl⟩
      rw [Tn_size, List.take_length, numL_val]
      exact ⟨_, rfl, q⟩
end
end G
set_option Elab.async false
set_option linter.all false
set_option maxRecDepth 100000
set_option maxHeartbeats 1000000
namespace G
open PySem PySem.Spec PyProof.Rows L2 TL
theorem ifF {b : Bool} {A B : Prop} (hb : b = false) (h : B) : if b = true then A else B := by
  subst hb
  exact iteF h
theorem ifT {b : Bool} {A B : Prop} (hb : b = true) (h : A) : if b = true then A else B := by
  subst hb
  exact iteT h
theorem empty_is : (Str.empty : Str) = Str.ofString "" := by decide +kernel
theorem part_any (i j : Int) : ∃ st dn : Str, Txt.partition (fT i j) "/" = (sg i ++ Tn i.natAbs, st, dn) ∧ ((j = 1 ∧ st = Str.ofString "" ∧ dn = Str.ofString "") ∨ (j ≠ 1 ∧ st = Str.ofString "/" ∧ dn = Tn j.natAbs)) := by
  by_cases h : j = 1
  · subst h
    exact ⟨_, _, part_1 i, .inl ⟨rfl, empty_is, empty_is⟩⟩
  · exact ⟨_, _, part_j h, .inr ⟨h, rfl, rfl⟩⟩
theorem ne_es : Str.ofString "" ≠ Str.ofString "/" := by decide +kernel
theorem fT_len {i j : Int} (hi : i.natAbs < big) (hj : j.natAbs < big) : (fT i j).length ≤ 50 := by
  unfold fT
  rw [app_len, app_len]
  have h1 := sg_len i
  have h2 := Tn_len hi
  have h3 := bl_len hj
  omega
section
variable {P : Program} {w : World} {K : PySem.W.Frag} {mg : Str → Option Value} {base : Heap}
abbrev sTR : Stmt := topS 21
abbrev nTR : List Str := ["_law_first", "_law_text", "_law_up", "_law_stroke", "_law_down", "_law_due", "_law_bare", "_law_figures_here", "_law_number_here", "_law_sign"]
theorem scTR : FnScope nTR ["_law_first"] (defScope sTR) := ⟨rfl, rfl, rfl, by decide +kernel, rfl, by decide +kernel, by decide +kernel⟩
def spTR : Sp := fun vs H Q _ => ∃ (a : Addr) (i j : Int), vs = [.ref a] ∧ H a = some (.tup [.int i, .int j]) ∧ i.natAbs < big ∧ 0 < j ∧ j.natAbs < big ∧ ∀ H', Same H H' → Q (.bl true) H'
def rInS : R2 := fun x y H Q => ∃ (c : Nat) (z : Str), x = .str ⟨#[c]⟩ ∧ y = .str z ∧ Q (.bl (decide (c ∈ z.cps.toList))) H
theorem ok_TR {f fT' fG : Addr} {fd fdT fdG : FuncData} (F : Fun K "_law_text_right" "_law_text_right" sTR f fd)
    (FT : Fun K "fraction_text" "fraction_text" sFT fT' fdT) (bT : Binds K fdT ["one"] []) (gT : mg "fraction_text" = some (.ref fT')) (GT : FnOk P w K mg base CX0 2 fT' fdT ["one"] spFT)
    (FG : Fun K "_law_figures" "_law_figures" sLG fG fdG) (bG : Binds K fdG ["_law_text"] []) (gG : mg "_law_figures" = some (.ref fG))
    (mI : mg "isinstance" = none) (mS : mg "str" = none) (mA : mg "abs" = none) (mInt : mg "int" = none) (mAll : mg "all" = none) (mZ : mg "zip" = none) : FnOk P w K mg base CX0 3 f fd ["_law_first"] spTR := by
  have GG : FnOk P w K mg base CX0 1 fG fdG ["_law_text"] spLG := ok_LG FG
  refine F.ok scTR (fun vs H Q E h => ?_) (fun cdv A outer s H vs Q E hr h => ?_)
  · obtain ⟨a, i, j, rfl, _⟩ := h
    rfl
  · obtain ⟨a, i, j, rfl, ea, hi, hj0, hj, q⟩ := h
    have hr1 := hr.mono (show 1 ≤ 2 by decide)
    refine ⟨_, pss_cons (ps_set (i := 1) scTR.nd rfl (.inl rfl) (pe_call GT hr (by rfl) gT FT.kp bT .nil pass0 (pa_cons (pv 0) pa_nil)))
      (pss_cons (ps_if (PW.pt (pw_or (pt_not (pt_val (pe_callB call_isi (by rfl) mI (by decide +kernel) (pa_cons (pv 1) (pa_cons (pe_bltn (v := .ty "str") (by rfl) mS (by decide +kernel) rfl) pa_nil))))) (pw_or1 (pt_cmpR op_ne (pe_callN0 GT hr (by rfl) gT FT.kp (kb_FT FT) pass0 (pk_cons (pv 0) pk_nil)) (pv 1) (nomark _))))) (pss_one (ps_ret pe_bl)) pss_nil)
      (pss_cons (ps_asg (pe_partition (pv 1) pe_str) (pg_tup (by rfl) (pgs_cons (pg_name (i := 2) scTR.nd rfl (.inl rfl)) (pgs_cons (pg_name (i := 3) scTR.nd rfl (.inl rfl)) (pgs_cons (pg_name (i := 4) scTR.nd rfl (.inl rfl)) pgs_nil)))))
      (C8.pss_cut (ps_if (PW.pt (pw_or (pt_cmpR op_ne (pe_cmpR op_eq (pv 3) pe_str (nomark _)) (pe_cmpR op_ne (pe_ix ix_tup (pv 0) pe_int (fun _ _ => rfl)) pe_int (nomark _)) (nomark _)) (pw_or1 (PW.pt (pw_and (pt_cmpR op_eq (pv 3) pe_str (nomark _)) (pw_and1 (pt_cmpR op_ne (pv 4) pe_str (nomark _)))))))) (pss_one (ps_ret pe_bl)) pss_nil)
      (pss_cons (ps_set (i := 5) scTR.nd rfl (.inl rfl) (pe_lst (pa_cons (pe_callB call_abs (by rfl) mA (by decide +kernel) (pa_cons (pe_ix ix_tup (pv 0) pe_int (fun _ _ => rfl)) pa_nil)) (pa_cons (pe_ix ix_tup (pv 0) pe_int (fun _ _ => rfl)) pa_nil))))
      (pss_cons (ps_if (pt_cmpR op_ne (pe_m1 PySem.F.slot_str_startswith PySem.F.type_str_startswith mt_startswith (pv 1) pe_str) (pe_cmpR op_lt (pe_ix ix_tup (pv 0) pe_int (fun _ _ => rfl)) pe_int (nomark _)) (nomark _)) (pss_one (ps_ret pe_bl)) pss_nil)
      (pss_cons (ps_set (i := 6) scTR.nd rfl (.inl rfl) (pe_lst (pa_cons (pe_slice sl_str (pv 2) (po_some (pe_callTy call_int1 (by rfl) mInt (by decide +kernel) (pa_cons (pe_cmpR op_lt (pe_ix ix_tup (pv 0) pe_int (fun _ _ => rfl)) pe_int (nomark _)) pa_nil))) po_none) (pa_cons (pv 4) pa_nil))))
      (C8.pss_cut (ps_if (pt_cmpR op_eq (pv 3) pe_str (nomark _)) (pss_cons (ps_expr (pe_bm0 PySem.F.plainAttrs_list PySem.F.slot_list_pop PySem.F.type_list_pop mt_pop (pv 5))) (pss_one (ps_expr (pe_bm0 PySem.F.plainAttrs_list PySem.F.slot_list_pop PySem.F.type_list_pop mt_pop (pv 6))))) pss_nil)
      (pss_cons (ps_for PassesOwn.never rfl (pi_zip (by rfl) mZ (pa_cons (pv 6) (pa_cons (pv 5) pa_nil))) (pg_tup rfl (pgs_cons (pg_name (i := 7) scTR.nd rfl (.inl rfl)) (pgs_cons (pg_name (i := 8) scTR.nd rfl (.inl rfl)) pgs_nil)))
        (pss_cons (ps_if (PW.pt (pw_or (pt_cmpR op_eq (pv 7) pe_str (nomark _)) (pw_or1 (pt_not (pt_val (pe_callB (cr_all rfl) (by rfl) mAll (by decide +kernel) (pa_cons (pe_lc (own := [("_law_sign", 9)]) (g := gName 9) (tt := tYes) (te := tOp rInS (tVar 9) (tC (.str "0123456789"))) (by rfl) scTR.nd (pi_str (pv 7)) (blkOk_by (own := [("_law_sign", 9)]) (N := nTR) (sc := defScope sTR) (by decide +kernel))
              (fun _ _ _ _ _ => pg_name (i := 9) scTR.nd rfl (.inl rfl)) (fun _ _ _ _ _ => pts_nil) (fun _ _ _ _ _ => pe_cmpR op_in_sign (pv 9) pe_str (by rfl))) pa_nil))))))) (pss_one (ps_ret pe_bl)) pss_nil)
          (pss_one (ps_if (PW.pt (pw_or (PW.pt (pw_and (pt_cmpR op_eq (pe_ix ix_str (pv 7) pe_int (fun _ _ => rfl)) pe_str (nomark _)) (pw_and1 (pt_cmpR op_ne (pv 7) pe_str (nomark _))))) (pw_or1 (pt_cmpR op_ne (pe_call GG hr1 (by rfl) gG FG.kp bG .nil pass0 (pa_cons (pv 7) pa_nil)) (pv 8) (nomark _))))) (pss_one (ps_ret pe_bl)) pss_nil))))
      (pss_one (ps_ret pe_bl)))))))))), ?_⟩
    -- the text
    refine ⟨.ref a, rfl, a, i, j, rfl, ea, hi, hj0, hj, fun H1 s1 => ?_⟩
    have ea1 := s1 _ _ ea
    refine ⟨_, rfl, _, .ty "str", _, _, _, rfl, .ty _, .base (.str _), kit_ty (b := "str") (r := true) (by decide +kernel), _, rfl, iteF ?_⟩
    refine ⟨.ref a, rfl, rfl, a, i, j, rfl, ea1, hi, hj0, hj, fun H2 s2 => ?_⟩
    have ea2 := s2 _ _ ea1
    refine ⟨_, rfl, rfl, _, rfl, ifF (by rw [decide_eq_true rfl]; rfl) ?_⟩
    -- cut at the stroke
    refine ⟨_, rfl, ⟨_, rfl⟩, _, _, rfl, rfl, by decide +kernel, line_ok (Nat.le_trans (fT_len hi hj) (by decide)), fun p np => ?_⟩
    obtain ⟨st, dn, ep, hc⟩ := part_any i j
    rw [ep]
    have s3 := same_upd (o := .tup [.str (sg i ++ Tn i.natAbs), .str st, .str dn]) np
    have ea3 := s3 _ _ ea2
    refine ⟨p, _, rfl, SqT.of upd_same, rfl, _, _, rfl, _, _, rfl, _, _, rfl, rfl, ?_⟩
    have c1 : (!decide (V.bl (decide (V.str st = V.str (Str.ofString "/"))) = V.bl (!decide (V.int j = V.int 1)))) = false := by
      rcases hc with ⟨h1, h2, h3⟩ | ⟨h1, h2, h3⟩
      · rw [decide_eq_false (show ¬ V.str st = V.str (Str.ofString "/") from fun z => ne_es (by rw [← h2]; exact V.str.inj z)), decide_eq_true (show V.int j = V.int 1 by rw [h1])]
        rfl
      · rw [decide_eq_true (show V.str st = V.str (Str.ofString "/") by rw [h2]), decide_eq_false (show ¬ V.int j = V.int 1 from fun z => h1 (V.int.inj z))]
        rfl
    have c2 : decide (V.str st = V.str (Str.ofString "")) = decide (j = 1) := by
      rcases hc with ⟨h1, h2, h3⟩ | ⟨h1, h2, h3⟩
      · rw [decide_eq_true (show V.str st = V.str (Str.ofString "") by rw [h2]), decide_eq_true h1]
      · rw [decide_eq_false (show ¬ V.str st = V.str (Str.ofString "") from fun z => ne_es ((V.str.inj z).symm.trans h2)), decide_eq_false h1]
    have sm3 := (s1.trans s2).trans s3
    generalize (upd H2 p (.tup [.str (sg i ++ Tn i.natAbs), .str st, .str dn])) = H3 at s3 ea3 sm3
    refine ⟨fun σ' H' => σ' = [some (.ref a), some (.str (fT i j)), some (.str (sg i ++ Tn i.natAbs)), some (.str st), some (.str dn), none, none, none, none, none] ∧ H' = H3, ?_, ?_⟩
    · refine ⟨_, rfl, rfl, .ref a, rfl, a, _, 1, .int j, rfl, rfl, SqT.of ea3, atI_nat (j := 1) rfl, rfl, rfl, _, rfl, ifF c1 ?_⟩
      refine ⟨_, rfl, rfl, _, rfl, ?_⟩
      rcases hc with ⟨h1, h2, h3⟩ | ⟨h1, h2, h3⟩
      · refine ifT (c2.trans (decide_eq_true h1)) ?_
        exact ⟨_, rfl, rfl, _, rfl, ifF (by rw [h3, decide_eq_true rfl]; rfl) ⟨rfl, rfl⟩⟩
      · refine ifF (c2.trans (decide_eq_false h1)) ?_
        exact ifF rfl ⟨rfl, rfl⟩
    rintro σ' H' ⟨rfl, rfl⟩
    -- due
    refine ⟨.ref a, rfl, a, _, 0, .int i, rfl, rfl, SqT.of ea3, atI_nat (j := 0) rfl, i, rfl, .ref a, rfl, a, _, 1, .int j, rfl, rfl, SqT.of ea3, atI_nat (j := 1) rfl, (by show 2 ≤ sizeLine; decide), fun d nd => ?_⟩
    rw [abs_cast]
    have s4 := same_upd (o := .lst [.int (i.natAbs : Int), .int j]) nd
    have ea4 := s4 _ _ ea3
    -- the sign
    refine ⟨_, rfl, ⟨_, rfl⟩, _, _, rfl, rfl, .ref a, rfl, a, _, 0, .int i, rfl, rfl, SqT.of ea4, atI_nat (j := 0) rfl, i, 0, rfl, rfl, rfl, _, rfl, ifF (by rw [sw_fT, decide_eq_true rfl]; rfl) ?_⟩
    -- bare
    refine ⟨_, rfl, .ref a, rfl, a, _, 0, .int i, rfl, rfl, SqT.of ea4, atI_nat (j := 0) rfl, i, 0, rfl, rfl, .inr ⟨_, rfl, _, rfl, ?_⟩⟩
    refine ⟨_, rfl, ?_, _, rfl, (by show 2 ≤ sizeLine; decide), fun b nb => ?_⟩
    · rw [app_len]
      have h1 := sg_len i
      have h2 := Tn_len hi
      exact line_ok (by omega)
    rw [cut_up]
    have nbd : b ≠ d := fun z => by rw [z, upd_same] at nb; cases nb
    have s5 := same_upd (o := .lst [.str (Tn i.natAbs), .str dn]) nb
    have sm5 := (sm3.trans s4).trans s5
    have ed : (upd (upd H' d (.lst [.int (i.natAbs : Int), .int j])) b (.lst [.str (Tn i.natAbs), .str dn])) d = some (.lst [.int (i.natAbs : Int), .int j]) := s5 _ _ upd_same
    have eb : (upd (upd H' d (.lst [.int (i.natAbs : Int), .int j])) b (.lst [.str (Tn i.natAbs), .str dn])) b = some (.lst [.str (Tn i.natAbs), .str dn]) := upd_same
    have hd0 : H d = none := (sm3).free nd
    have hb0 : H b = none := (sm3.trans s4).free nb
    generalize (upd (upd H' d (.lst [.int (i.natAbs : Int), .int j])) b (.lst [.str (Tn i.natAbs), .str dn])) = H5 at sm5 ed eb
    refine ⟨fun σ' H' => ∃ ms : List Nat, (∀ m ∈ ms, m < big) ∧ ms.length ≤ 2 ∧ σ' = [some (.ref a), some (.str (fT i j)), some (.str (sg i ++ Tn i.natAbs)), some (.str st), some (.str dn), some (.ref d), some (.ref b), none, none, none] ∧ Same H H' ∧ H' b = some (.lst (ms.map fun (m : Nat) => .str (Tn m))) ∧ H' d = some (.lst (ms.map fun (m : Nat) => .int (m : Int))), ?_, ?_⟩
    · refine ⟨_, rfl, rfl, _, rfl, ?_⟩
      rcases hc with ⟨h1, h2, h3⟩ | ⟨h1, h2, h3⟩
      · refine ifT (c2.trans (decide_eq_true h1)) ?_
        refine ⟨.ref d, rfl, .inl ⟨rfl, _, SqL.of ed⟩, d, _, _, rfl, rfl, ed, rfl, ?_⟩
        refine ⟨.ref b, rfl, .inl ⟨rfl, _, SqL.of ((upd_ne nbd).trans eb)⟩, b, _, _, rfl, rfl, (upd_ne nbd).trans eb, rfl, ?_⟩
        refine ⟨[i.natAbs], ?_, (by show 1 ≤ 2; decide), rfl, fun c o e => ?_, upd_same, ?_⟩
        · intro m hm
          rw [List.mem_singleton.mp hm]
          exact hi
        · rw [upd_ne (ne_of_none e hb0), upd_ne (ne_of_none e hd0)]
          exact sm5 _ _ e
        · rw [upd_ne (fun z => nbd z.symm), upd_same]
          rfl
      · refine ifF (c2.trans (decide_eq_false h1)) ?_
        refine ⟨[i.natAbs, j.natAbs], ?_, (by show 2 ≤ 2; decide), rfl, sm5, ?_, ?_⟩
        · intro m hm
          rcases List.mem_cons.mp hm with rfl | hm
          · exact hi
          · rw [List.mem_singleton.mp hm]
            exact hj
        · rw [eb, h3]
          rfl
        · rw [ed]
          show some (HO.lst [.int (i.natAbs : Int), .int j]) = some (.lst [.int (i.natAbs : Int), .int ((j.natAbs : Nat) : Int)])
          rw [show ((j.natAbs : Nat) : Int) = j by omega]
    rintro σ' H6 ⟨ms, hm, hl, rfl, sm6, eb6, ed6⟩
    refine ⟨.ref b, rfl, .ref d, rfl, b, d, _, _, rfl, SqL.of eb6, SqL.of ed6, ?_⟩
    refine RZ.for_zipL (K := K) (by rw [List.length_map, List.length_map]) (fun k σ' H' => ∃ y7 y8, σ' = [some (.ref a), some (.str (fT i j)), some (.str (sg i ++ Tn i.natAbs)), some (.str st), some (.str dn), some (.ref d), some (.ref b), y7, y8, none] ∧ Same H H' ∧ Same H6 H') ⟨none, none, rfl, sm6, .refl _⟩ (fun k σ' H' ⟨_, _, _, _, s⟩ => ⟨SqL.of (s _ _ eb6), SqL.of (s _ _ ed6)⟩) ?_ ?_
    · rintro k x y T σ' H7 hx hy ⟨y7, y8, rfl, s7, s67⟩ nT
      obtain ⟨m, hmk, rfl, rfl⟩ : ∃ m, ms[k]? = some m ∧ x = .str (Tn m) ∧ y = .int (m : Int) := by
        rw [List.getElem?_map] at hx hy
        cases e : ms[k]? with
        | none => rw [e] at hx; cases hx
        | some m =>
          rw [e] at hx hy
          exact ⟨m, rfl, (Option.some.inj hx).symm, (Option.some.inj hy).symm⟩
      have hmb := hm m (List.mem_of_getElem? hmk)
      have s8 := same_upd (o := .tup [.str (Tn m), .int (m : Int)]) nT
      refine ⟨T, _, rfl, SqT.of upd_same, rfl, _, _, rfl, _, _, rfl, rfl, ?_⟩
      refine ⟨_, rfl, rfl, _, rfl, ifF (decide_eq_false fun z => Tn_ne m (V.str.inj z)) ?_⟩
      refine ⟨_, rfl, _, rfl, fun D nD => ?_⟩
      refine lc_it walk_str (fun n H' => Same (upd H7 T (.tup [.str (Tn m), .int (m : Int)])) H' ∧ H' D = some (.lst ((List.replicate n true).map V.bl))) ⟨same_upd nD, upd_same⟩ (fun _ _ _ _ => trivial) ?_ ?_
      · rintro n x H8 H9 hn ⟨t8, e8⟩ ⟨rfl, c, hc', rfl⟩
        have hdg := numL_digits m c (List.mem_of_getElem? (Tn_at hc'))
        refine ⟨rfl, _, rfl, c, _, rfl, rfl, _, e8, ?_, ?_, ?_⟩
        · rw [List.length_map, List.length_replicate]
          have h1 := Tn_len hmb
          rw [len_tl, tl_Tn] at h1
          rw [Tn_size] at hn
          exact Nat.lt_of_lt_of_le (show n < 20 by omega) (by decide)
        · exact same_app t8 nD (.refl _)
        · rw [upd_same, decide_eq_true (in_digits hdg), List.replicate_succ']
          rw [List.map_append]
          rfl
      · rintro H8 ⟨t8, e8⟩
        refine ⟨D, _, rfl, SqL.of e8, _, rfl, ifF ?_ ?_⟩
        · have : (List.replicate (Tn m).cps.size true).all id = true := by
            rw [List.all_eq_true]
            intro b hb
            rw [(List.mem_replicate.mp hb).2]
            rfl
          rw [this]
          rfl
        obtain ⟨c, r, ec, hc1, hc2⟩ := numL_cons m
        have at0 : atI (Tn m).cps.toList 0 = some c := by
          have e : (Tn m).cps.toList = c :: r := (tl_Tn m).trans ec
          rw [e]
          unfold atI ixN
          rw [if_pos (by decide), if_pos (by rw [List.length_cons]; omega)]
          rfl
        have last : Same H H8 ∧ Same H6 H8 := ⟨(s7.trans s8).trans t8, (s67.trans s8).trans t8⟩
        refine ⟨_, rfl, _, 0, c, rfl, rfl, line_ok (Nat.le_trans (Tn_len hmb) (by decide)), at0, rfl, _, rfl, ?_⟩
        by_cases h0 : c = 48
        · have m0 : m = 0 := head0 m (by rw [ec, h0]; rfl)
          subst h0 m0
          refine ifT (decide_eq_true (congrArg V.str (show (⟨#[48]⟩ : Str) = Str.ofString "0" by decide +kernel))) ?_
          refine ⟨_, rfl, rfl, _, rfl, ifF (by rw [decide_eq_true (congrArg V.str Tn0)]; rfl) ?_⟩
          exact ⟨_, rfl, 0, rfl, _, rfl, rfl, _, rfl, ifF (by rw [decide_eq_true rfl]; rfl) ⟨_, _, rfl, last⟩⟩
        · refine ifF (decide_eq_false fun z => h0 ?_) (ifF rfl ?_)
          · have e := congrArg tl (V.str.inj z)
            have e2 : tl (Str.ofString "0") = [48] := by decide +kernel
            rw [e2] at e
            exact (List.cons.inj e).1
          · exact ⟨_, rfl, m, rfl, _, rfl, rfl, _, rfl, ifF (by rw [decide_eq_true rfl]; rfl) ⟨_, _, rfl, last⟩⟩
    · rintro σ' H7 ⟨y7, y8, rfl, s7, _⟩
      exact q _ s7
end
end G
set_option Elab.async false
set_option linter.all false
set_option maxRecDepth 100000
set_option maxHeartbeats 1000000
namespace G
open PySem PySem.Spec PyProof.Rows L2 TL
theorem frB_kd {H H' : Hp} {x : V} (k : Kd H x) (s : Same H H') : frB H' x = frB H x := by
  cases k with
  | lst e => simp only [frB, e, s _ _ e]
  | tup e _ => simp only [frB, e, s _ _ e]
  | dK e => simp only [frB, e, s _ _ e]
  | _ => rfl
theorem same_keep_new {H H1 H2 : Hp} {p : Addr} (s : Same H H1) (n : H p = none) (k : Keep p H1 H2) : Same H H2 := fun b o e => k b o (ne_of_none e n) (s b o e)
theorem big_lt {n : Nat} (h : n < big) : n < 2 ^ 8000 := Nat.lt_of_lt_of_le h (Nat.le_trans (show big ≤ 2 ^ 100 by decide) (Nat.pow_le_pow_right (by decide) (by decide)))
section
variable {P : Program} {w : World} {K : PySem.W.Frag} {mg : Str → Option Value} {base : Heap}
abbrev sLaw : Stmt := topS 22
theorem scLaw : FnScope ["_law_script", "_law_k", "_law_pot_here", "_law_up", "_law_down", "_law_first", "_law_what", "_law_told"] ["_law_script"] (defScope sLaw) := ⟨rfl, rfl, rfl, by decide +kernel, rfl, by decide +kernel, by decide +kernel⟩
def spLaw (K : PySem.W.Frag) : Sp := fun vs H Q _ => ∃ (a : Addr) (ns : List Int), vs = [.ref a] ∧ SqL K H a (ns.map V.int) ∧ ns.length ≤ 63 ∧ ∀ H', Q (.bl true) H'
theorem ok_law {f fP fN fM fL fI fF fO fR : Addr} {fd fdP fdN fdM fdL fdI fdF fdO fdR : FuncData} (F : Fun K "law" "law" sLaw f fd)
    (FP : Fun K "_law_pot" "_law_pot" sPot fP fdP) (bP : Binds K fdP ["_law_script", "_law_k"] []) (gP : mg "_law_pot" = some (.ref fP)) (GP : FnOk P w K mg base CX0 1 fP fdP ["_law_script", "_law_k"] (spPot K))
    (FN : Fun K "_law_number" "_law_number" sNum fN fdN) (bN : Binds K fdN ["_law_pot_here"] []) (gN : mg "_law_number" = some (.ref fN)) (GN : FnOk P w K mg base CX0 3 fN fdN ["_law_pot_here"] spNum)
    (FM : Fun K "_law_made_right" "_law_made_right" sMade fM fdM) (bM : Binds K fdM ["_law_up", "_law_down"] []) (gM : mg "_law_made_right" = some (.ref fM)) (GM : FnOk P w K mg base CX0 4 fM fdM ["_law_up", "_law_down"] spMade)
    (FL : Fun K "_law_lowest" "_law_lowest" sLow fL fdL) (bL : Binds K fdL ["_law_up", "_law_down"] []) (gL : mg "_law_lowest" = some (.ref fL)) (GL : FnOk P w K mg base CX0 1 fL fdL ["_law_up", "_law_down"] spFrac)
    (FI : Fun K "is_fraction" "is_fraction" sIsF fI fdI) (bI : Binds K fdI ["thing"] []) (gI : mg "is_fraction" = some (.ref fI)) (GI : FnOk P w K mg base CX0 2 fI fdI ["thing"] spIsF)
    (FF : Fun K "_law_is_fraction" "_law_is_fraction" sLF fF fdF) (bF : Binds K fdF ["_law_what"] []) (gF : mg "_law_is_fraction" = some (.ref fF)) (GF : FnOk P w K mg base CX0 2 fF fdF ["_law_what"] spLF)
    (FO : Fun K "_law_odd" "_law_odd" sOdd fO fdO) (bO : Binds K fdO ["_law_pot_here"] []) (gO : mg "_law_odd" = some (.ref fO)) (GO : FnOk P w K mg base CX0 2 fO fdO ["_law_pot_here"] spOdd)
    (FR : Fun K "_law_text_right" "_law_text_right" sTR fR fdR) (bR : Binds K fdR ["_law_first"] []) (gR : mg "_law_text_right" = some (.ref fR)) (GR : FnOk P w K mg base CX0 3 fR fdR ["_law_first"] spTR)
    (mR : mg "range" = none) (mMx : mg "max" = none) (mMn : mg "min" = none) (mL : mg "len" = none) (mLi : mg "list" = none) (mIs : mg "isinstance" = none) (mB : mg "bool" = none) : FnOk P w K mg base CX0 5 f fd ["_law_script"] (spLaw K) := by
  refine F.ok scLaw (fun vs H Q E h => ?_) (fun cdv A outer s H vs Q E hr h => ?_)
  · obtain ⟨a, ns, rfl, _⟩ := h
    rfl
  · obtain ⟨a, ns, rfl, hS, hlen, q⟩ := h
    have hr1 := hr.mono (show 1 ≤ 4 by decide)
    have hr2 := hr.mono (show 2 ≤ 4 by decide)
    have hr3 := hr.mono (show 3 ≤ 4 by decide)
    refine ⟨_, pss_cons (ps_for PassesOwn.never rfl (pi_range1 (by rfl) mR (pa_cons (pe_callB (call_max2 rfl) (by rfl) mMx (by decide +kernel) (pa_cons pe_int (pa_cons (pe_callB (call_min2 rfl) (by rfl) mMn (by decide +kernel) (pa_cons pe_int (pa_cons (pe_callB call_len_seq (by rfl) mL PySem.boot_len (pa_cons (pv 0) pa_nil)) pa_nil))) pa_nil))) pa_nil)) (pg_name (i := 1) scLaw.nd rfl (.inl rfl))
        (pss_cons (ps_set (i := 2) scLaw.nd rfl (.inl rfl) (pe_call GP hr1 (by rfl) gP FP.kp bP .nil pass0 (pa_cons (pv 0) (pa_cons (pv 1) pa_nil))))
        (pss_cons (ps_par (i := 3) (j := 4) (by rfl) scLaw.nd rfl rfl (by decide) rfl rfl (pa_cons (pe_call GN hr3 (by rfl) gN FN.kp bN .nil pass0 (pa_cons (pv 2) pa_nil)) (pa_cons (pe_call GN hr3 (by rfl) gN FN.kp bN .nil pass0 (pa_cons (pv 2) pa_nil)) pa_nil)) (by rfl))
        (pss_cons (ps_if (pt_not (pt_val (pe_call GM hr (by rfl) gM FM.kp bM .nil pass0 (pa_cons (pv 3) (pa_cons (pv 4) pa_nil))))) (pss_one (ps_ret pe_bl)) pss_nil)
        (pss_cons (ps_set (i := 5) scLaw.nd rfl (.inl rfl) (pe_tup (pa_cons pe_int (pa_cons pe_int pa_nil))))
        (C8.pss_cut (ps_if (pt_cmpR op_ne (pv 4) pe_int (nomark _)) (pss_one (ps_set (i := 5) scLaw.nd rfl (.inl rfl) (pe_call GL hr1 (by rfl) gL FL.kp bL .nil pass0 (pa_cons (pv 3) (pa_cons (pv 4) pa_nil))))) pss_nil)
        (pss_cons (ps_for PassesOwn.never rfl (pi_list (pe_lst (pa_cons (pe_tup (pa_cons (pv 3) (pa_cons (pv 4) pa_nil))) (pa_cons (pv 5) (pa_cons (pe_revT (pv 5)) (pa_cons (pe_callTy call_list_of (by rfl) mLi (by decide +kernel) (pa_cons (pv 5) pa_nil)) (pa_cons (pe_call GO hr2 (by rfl) gO FO.kp bO .nil pass0 (pa_cons (pv 2) pa_nil)) pa_nil))))))) (pg_name (i := 6) scLaw.nd rfl (.inl rfl))
          (pss_cons (ps_set (i := 7) scLaw.nd rfl (.inl rfl) (pe_call GI hr2 (by rfl) gI FI.kp bI .nil pass0 (pa_cons (pv 6) pa_nil)))
          (pss_one (ps_if (PW.pt (pw_or (pt_not (pt_val (pe_callB call_isi (by rfl) mIs (by decide +kernel) (pa_cons (pv 7) (pa_cons (pe_bltn (v := .ty "bool") (by rfl) mB (by decide +kernel) rfl) pa_nil))))) (pw_or (pt_cmpR op_ne (pv 7) (pe_call GF hr2 (by rfl) gF FF.kp bF .nil pass0 (pa_cons (pv 6) pa_nil)) (nomark _))
            (pw_or1 (pt_cmpR op_ne (pe_callN0 GI hr2 (by rfl) gI FI.kp (kb_isF FI) pass0 (pk_cons (pv 6) pk_nil)) (pv 7) (nomark _)))))) (pss_one (ps_ret pe_bl)) pss_nil))))
        (pss_one (ps_if (pt_not (pt_val (pe_call GR hr3 (by rfl) gR FR.kp bR .nil pass0 (pa_cons (pv 5) pa_nil)))) (pss_one (ps_ret pe_bl)) pss_nil)))))))))
      (pss_one (ps_ret pe_bl)), ?_⟩
    refine ⟨.ref a, rfl, a, _, rfl, .inl hS, 8, _, rfl, 1, _, rfl, _, rfl, ?_, ?_, ?_⟩
    · rw [List.length_map]
      split <;> (split <;> omega)
    · rw [List.length_map]
      split <;> (split <;> omega)
    have hn : (if (if (((ns.map V.int).length : Nat) : Int) < 8 then (((ns.map V.int).length : Nat) : Int) else 8) > 1 then (if (((ns.map V.int).length : Nat) : Int) < 8 then (((ns.map V.int).length : Nat) : Int) else 8) else 1).toNat ≤ 8 := by
      split <;> (split <;> omega)
    refine for_range (fun k σ' H' => ∃ y1 y2 y3 y4 y5 y6 y7, σ' = [some (.ref a), y1, y2, y3, y4, y5, y6, y7] ∧ Same H H') ⟨_, _, _, _, _, _, _, rfl, .refl _⟩ ?_ ?_
    · rintro k σ' H1 hk ⟨y1, y2, y3, y4, y5, y6, y7, rfl, s1⟩
      have hk8 : k < 64 := by omega
      -- the pot
      refine ⟨.ref a, rfl, _, rfl, a, ns, k, by rw [Int.zero_add]; rfl, s1.seq hS, hk8, fun H2 p s2 np hp => ?_⟩
      -- two numbers
      refine ⟨.ref p, rfl, p, rfl, hp, fun H3 u k3 p3 hu => ?_⟩
      refine ⟨.ref p, rfl, p, rfl, p3, fun H4 v k4 p4 hv => ?_⟩
      refine ⟨_, _, rfl, ?_⟩
      have sa : Same H1 H4 := same_keep_new s2 np (k3.trans k4)
      -- made right
      refine ⟨_, rfl, _, rfl, u, v, rfl, big_lt hv, fun H5 s5 => ⟨_, rfl, iteF ?_⟩⟩
      have p5 := p4.same s5
      -- first
      refine ⟨by show 2 ≤ sizeLine; decide, fun t nt => ?_⟩
      have s6 := same_upd (o := .tup [.int 0, .int 1]) nt
      have p6 := p5.same s6
      refine ⟨fun σ' H' => ∃ (t : Addr) (i j : Int), σ' = [some (.ref a), some (.int (0 + (k : Int))), some (.ref p), some (.int u), some (.int v), some (.ref t), y6, y7] ∧ Same H1 H' ∧ Pot H' p ∧ H' t = some (.tup [.int i, .int j]) ∧ i.natAbs < big ∧ 0 < j ∧ j.natAbs < big, ?_, ?_⟩
      · refine ⟨_, rfl, rfl, _, rfl, ite2 (fun e => ?_) (fun e => ?_)⟩
        · have v0 : v ≠ 0 := fun z => by
            subst z
            cases e
          refine ⟨_, rfl, _, rfl, u, v, rfl, v0, big_lt hv, fun t2 nt2 => ?_⟩
          have s7 := same_upd (o := .tup [.int (low1 u v), .int (low2 u v)]) nt2
          exact ⟨t2, low1 u v, low2 u v, rfl, ((sa.trans s5).trans s6).trans s7, p6.same s7, upd_same, Nat.lt_of_le_of_lt (low1_le v0) hu, low2_pos v0, Nat.lt_of_le_of_lt (low2_le v0) hv⟩
        · exact ⟨t, 0, 1, rfl, (sa.trans s5).trans s6, p6, upd_same, by decide, by decide, by decide⟩
      rintro σ' H7 ⟨t, i, j, rfl, s7, p7, et, hi, hj0, hj⟩
      -- the five things
      refine ⟨_, rfl, _, rfl, by show 2 ≤ sizeLine; decide, fun q1 n1 => ?_⟩
      have z1 := same_upd (o := .tup [.int u, .int v]) n1
      refine ⟨.ref t, rfl, .ref t, rfl, t, _, _, rfl, SqT.of (z1 _ _ et), fun q2 n2 => ?_⟩
      have z2 := same_upd (o := .tup [.int j, .int i]) n2
      refine ⟨.ref t, rfl, t, _, rfl, .inr (SqT.of (z2 _ _ (z1 _ _ et))), fun q3 n3 => ?_⟩
      have z3 := same_upd (o := .lst [.int i, .int j]) n3
      have p8 := ((p7.same z1).same z2).same z3
      refine ⟨.ref p, rfl, p, rfl, p8, fun H8 x k8 p9 ox => ?_⟩
      refine ⟨by show 5 ≤ sizeLine; decide, fun l nl => ?_⟩
      have z4 := same_upd (o := .lst [.ref q1, .ref t, .ref q2, .ref q3, x]) nl
      have p10 := p9.same z4
      have o1 : Od (upd (upd (upd H7 q1 (.tup [.int u, .int v])) q2 (.tup [.int j, .int i])) q3 (.lst [.int i, .int j])) (.ref q1) := ⟨kd_two (z3 _ _ (z2 _ _ upd_same)), bd_two (z3 _ _ (z2 _ _ upd_same)) (big_lt hv)⟩
      have o2 : Od (upd (upd (upd H7 q1 (.tup [.int u, .int v])) q2 (.tup [.int j, .int i])) q3 (.lst [.int i, .int j])) (.ref t) := ⟨kd_two (z3 _ _ (z2 _ _ (z1 _ _ et))), bd_two (z3 _ _ (z2 _ _ (z1 _ _ et))) (big_lt hj)⟩
      have o3 : Od (upd (upd (upd H7 q1 (.tup [.int u, .int v])) q2 (.tup [.int j, .int i])) q3 (.lst [.int i, .int j])) (.ref q2) := ⟨kd_two (z3 _ _ upd_same), bd_two (z3 _ _ upd_same) (big_lt hi)⟩
      have o4 : Od (upd (upd (upd H7 q1 (.tup [.int u, .int v])) q2 (.tup [.int j, .int i])) q3 (.lst [.int i, .int j])) (.ref q3) := ⟨.lst upd_same, fun a' i' j' ea e => by cases ea; rw [upd_same] at e; cases e⟩
      have ntp : t ≠ p := fun z => by
        obtain ⟨_, _, e, _⟩ := p7
        rw [← z, et] at e
        cases e
      have et9 : (upd H8 l (.lst [.ref q1, .ref t, .ref q2, .ref q3, x])) t = some (.tup [.int i, .int j]) := z4 _ _ (k8 _ _ ntp (z3 _ _ (z2 _ _ (z1 _ _ et))))
      have sAll : Same H1 (upd H8 l (.lst [.ref q1, .ref t, .ref q2, .ref q3, x])) := (same_keep_new (((s7.trans z1).trans z2).trans z3) np k8).trans z4
      have every : ∀ y ∈ [V.ref q1, .ref t, .ref q2, .ref q3, x], Od (upd H8 l (.lst [.ref q1, .ref t, .ref q2, .ref q3, x])) y := by
        intro y hy
        simp only [List.mem_cons, List.not_mem_nil, or_false] at hy
        rcases hy with rfl | rfl | rfl | rfl | rfl
        · exact (o1.keep k8 p8 p9).same z4
        · exact (o2.keep k8 p8 p9).same z4
        · exact (o3.keep k8 p8 p9).same z4
        · exact (o4.keep k8 p8 p9).same z4
        · exact ox.same z4
      have el : (upd H8 l (.lst [.ref q1, .ref t, .ref q2, .ref q3, x])) l = some (.lst [.ref q1, .ref t, .ref q2, .ref q3, x]) := upd_same
      generalize (upd H8 l (.lst [.ref q1, .ref t, .ref q2, .ref q3, x])) = H9 at et9 sAll every el p10
      refine ⟨l, rfl, ⟨_, SqL.of el⟩, for_list (K := K) (a := l) (xs := [V.ref q1, .ref t, .ref q2, .ref q3, x]) (fun m σ' H' => ∃ y6 y7, σ' = [some (.ref a), some (.int (0 + (k : Int))), some (.ref p), some (.int u), some (.int v), some (.ref t), y6, y7] ∧ Same H9 H') ⟨_, _, rfl, .refl _⟩ (fun m σ' H' _ ⟨_, _, _, s⟩ => SqL.of (s _ _ el)) ?_ ?_⟩
      · rintro m y σ' H10 hy ⟨y6, y7, rfl, s10⟩
        have oy := (every y (List.mem_of_getElem? hy)).same s10
        refine ⟨y, rfl, y, rfl, oy.1, ?_⟩
        refine ⟨_, rfl, _, .ty "bool", _, _, _, rfl, .ty _, .base (.bl _), kit_ty (b := "bool") (r := true) (by decide +kernel), _, rfl, iteF ?_⟩
        refine ⟨_, rfl, y, rfl, y, rfl, oy.1, oy.2, fun H11 s11 => ?_⟩
        refine ⟨rfl, _, rfl, ifF (by rw [decide_eq_true rfl]; rfl) ?_⟩
        refine ⟨y, rfl, rfl, y, rfl, oy.1.same s11, ?_⟩
        refine ⟨_, rfl, rfl, _, rfl, ifF (by rw [frB_kd oy.1 s11, decide_eq_true rfl]; rfl) ?_⟩
        exact ⟨_, _, rfl, s10.trans s11⟩
      · rintro σ' H10 ⟨y6, y7, rfl, s10⟩
        refine ⟨.ref t, rfl, t, i, j, rfl, s10 _ _ et9, hi, hj0, hj, fun H11 s11 => ⟨_, rfl, iteF ?_⟩⟩
        exact ⟨_, _, _, _, _, _, _, rfl, ((s1.trans sAll).trans s10).trans s11⟩
    · rintro σ' H1 ⟨y1, y2, y3, y4, y5, y6, y7, rfl, s1⟩
      exact q _
end
end G
set_option Elab.async false
set_option linter.all false
set_option maxRecDepth 100000
set_option maxHeartbeats 1000000
namespace G
open PySem PySem.Spec PyProof.Rows L2 TL
theorem all_mk {l : PySem.W.OpenLaw} {w : World} {K : PySem.W.Frag} {h : Heap} {mg : Str → Option Value} {fa C S : Addr} (X : K.In h) (G : h.Ns mainGlobals mg) (hfa : mg "law" = some (.ref fa))
    {f1 f2 f3 f4 f5 f6 f7 f8 f9 f10 f11 f12 f13 f14 f15 f16 f17 f18 : Addr}
    {od1 an1 od2 an2 od3 an3 od4 an4 od5 an5 od6 an6 od7 an7 od8 an8 od9 an9 od10 an10 od11 an11 od12 an12 od13 an13 od14 an14 od15 an15 od16 an16 od17 an17 od18 an18 : Option Addr} {sl1 sl2 sl3 sl4 sl5 sl6 sl7 sl8 sl9 sl10 sl11 sl12 sl13 sl14 sl15 sl16 sl17 sl18 : Array (Option Value)} {oc1 kV1 dc1 pm1 cd1 ct1 oc2 kV2 dc2 pm2 cd2 ct2 oc3 kV3 dc3 pm3 cd3 ct3 oc4 kV4 dc4 pm4 cd4 ct4 oc5 kV5 dc5 pm5 cd5 ct5 oc6 kV6 dc6 pm6 cd6 ct6 oc7 kV7 dc7 pm7 cd7 ct7 oc8 kV8 dc8 pm8 cd8 ct8 oc9 kV9 dc9 pm9 cd9 ct9 oc10 kV10 dc10 pm10 cd10 ct10 oc11 kV11 dc11 pm11 cd11 ct11 oc12 kV12 dc12 pm12 cd12 ct12 oc13 kV13 dc13 pm13 cd13 ct13 oc14 kV14 dc14 pm14 cd14 ct14 oc15 kV15 dc15 pm15 cd15 ct15 oc16 kV16 dc16 pm16 cd16 ct16 oc17 kV17 dc17 pm17 cd17 ct17 oc18 kV18 dc18 pm18 cd18 ct18 : Value}
    (a1 : PySem.W.nsIn K mainGlobals "is_whole" = some (some (.ref f1))) (l1 : K.lookup f1 = some ⟨oc1, od1, .func (PySem.W.fnOf "is_whole" "is_whole" (defArgs sWhole) (defBody sWhole) (defScope sWhole) .none kV1 dc1 pm1 an1 cd1 ct1), sl1⟩) (c1 : PySem.W.codeIn K cd1 "is_whole" = true) (k1 : PySem.W.keepIn K (.ref f1) = true)
    (a2 : PySem.W.nsIn K mainGlobals "common_measure" = some (some (.ref f2))) (l2 : K.lookup f2 = some ⟨oc2, od2, .func (PySem.W.fnOf "common_measure" "common_measure" (defArgs sMeas) (defBody sMeas) (defScope sMeas) .none kV2 dc2 pm2 an2 cd2 ct2), sl2⟩) (c2 : PySem.W.codeIn K cd2 "common_measure" = true) (k2 : PySem.W.keepIn K (.ref f2) = true)
    (a3 : PySem.W.nsIn K mainGlobals "fraction" = some (some (.ref f3))) (l3 : K.lookup f3 = some ⟨oc3, od3, .func (PySem.W.fnOf "fraction" "fraction" (defArgs sFrac) (defBody sFrac) (defScope sFrac) .none kV3 dc3 pm3 an3 cd3 ct3), sl3⟩) (c3 : PySem.W.codeIn K cd3 "fraction" = true) (k3 : PySem.W.keepIn K (.ref f3) = true)
    (a4 : PySem.W.nsIn K mainGlobals "is_fraction" = some (some (.ref f4))) (l4 : K.lookup f4 = some ⟨oc4, od4, .func (PySem.W.fnOf "is_fraction" "is_fraction" (defArgs sIsF) (defBody sIsF) (defScope sIsF) .none kV4 dc4 pm4 an4 cd4 ct4), sl4⟩) (c4 : PySem.W.codeIn K cd4 "is_fraction" = true) (k4 : PySem.W.keepIn K (.ref f4) = true)
    (a5 : PySem.W.nsIn K mainGlobals "figures" = some (some (.ref f5))) (l5 : K.lookup f5 = some ⟨oc5, od5, .func (PySem.W.fnOf "figures" "figures" (defArgs sFig) (defBody sFig) (defScope sFig) .none kV5 dc5 pm5 an5 cd5 ct5), sl5⟩) (c5 : PySem.W.codeIn K cd5 "figures" = true) (k5 : PySem.W.keepIn K (.ref f5) = true)
    (a6 : PySem.W.nsIn K mainGlobals "fraction_text" = some (some (.ref f6))) (l6 : K.lookup f6 = some ⟨oc6, od6, .func (PySem.W.fnOf "fraction_text" "fraction_text" (defArgs sFT) (defBody sFT) (defScope sFT) .none kV6 dc6 pm6 an6 cd6 ct6), sl6⟩) (c6 : PySem.W.codeIn K cd6 "fraction_text" = true) (k6 : PySem.W.keepIn K (.ref f6) = true)
    (a7 : PySem.W.nsIn K mainGlobals "_law_pot" = some (some (.ref f7))) (l7 : K.lookup f7 = some ⟨oc7, od7, .func (PySem.W.fnOf "_law_pot" "_law_pot" (defArgs sPot) (defBody sPot) (defScope sPot) .none kV7 dc7 pm7 an7 cd7 ct7), sl7⟩) (c7 : PySem.W.codeIn K cd7 "_law_pot" = true) (k7 : PySem.W.keepIn K (.ref f7) = true)
    (a8 : PySem.W.nsIn K mainGlobals "_law_take" = some (some (.ref f8))) (l8 : K.lookup f8 = some ⟨oc8, od8, .func (PySem.W.fnOf "_law_take" "_law_take" (defArgs sTake) (defBody sTake) (defScope sTake) .none kV8 dc8 pm8 an8 cd8 ct8), sl8⟩) (c8 : PySem.W.codeIn K cd8 "_law_take" = true) (k8 : PySem.W.keepIn K (.ref f8) = true)
    (a9 : PySem.W.nsIn K mainGlobals "_law_below" = some (some (.ref f9))) (l9 : K.lookup f9 = some ⟨oc9, od9, .func (PySem.W.fnOf "_law_below" "_law_below" (defArgs sBelow) (defBody sBelow) (defScope sBelow) .none kV9 dc9 pm9 an9 cd9 ct9), sl9⟩) (c9 : PySem.W.codeIn K cd9 "_law_below" = true) (k9 : PySem.W.keepIn K (.ref f9) = true)
    (a10 : PySem.W.nsIn K mainGlobals "_law_lowest" = some (some (.ref f10))) (l10 : K.lookup f10 = some ⟨oc10, od10, .func (PySem.W.fnOf "_law_lowest" "_law_lowest" (defArgs sLow) (defBody sLow) (defScope sLow) .none kV10 dc10 pm10 an10 cd10 ct10), sl10⟩) (c10 : PySem.W.codeIn K cd10 "_law_lowest" = true) (k10 : PySem.W.keepIn K (.ref f10) = true)
    (a11 : PySem.W.nsIn K mainGlobals "_law_is_fraction" = some (some (.ref f11))) (l11 : K.lookup f11 = some ⟨oc11, od11, .func (PySem.W.fnOf "_law_is_fraction" "_law_is_fraction" (defArgs sLF) (defBody sLF) (defScope sLF) .none kV11 dc11 pm11 an11 cd11 ct11), sl11⟩) (c11 : PySem.W.codeIn K cd11 "_law_is_fraction" = true) (k11 : PySem.W.keepIn K (.ref f11) = true)
    (a12 : PySem.W.nsIn K mainGlobals "_law_number" = some (some (.ref f12))) (l12 : K.lookup f12 = some ⟨oc12, od12, .func (PySem.W.fnOf "_law_number" "_law_number" (defArgs sNum) (defBody sNum) (defScope sNum) .none kV12 dc12 pm12 an12 cd12 ct12), sl12⟩) (c12 : PySem.W.codeIn K cd12 "_law_number" = true) (k12 : PySem.W.keepIn K (.ref f12) = true)
    (a13 : PySem.W.nsIn K mainGlobals "_law_odd" = some (some (.ref f13))) (l13 : K.lookup f13 = some ⟨oc13, od13, .func (PySem.W.fnOf "_law_odd" "_law_odd" (defArgs sOdd) (defBody sOdd) (defScope sOdd) .none kV13 dc13 pm13 an13 cd13 ct13), sl13⟩) (c13 : PySem.W.codeIn K cd13 "_law_odd" = true) (k13 : PySem.W.keepIn K (.ref f13) = true)
    (a14 : PySem.W.nsIn K mainGlobals "_law_same" = some (some (.ref f14))) (l14 : K.lookup f14 = some ⟨oc14, od14, .func (PySem.W.fnOf "_law_same" "_law_same" (defArgs sSame) (defBody sSame) (defScope sSame) .none kV14 dc14 pm14 an14 cd14 ct14), sl14⟩) (c14 : PySem.W.codeIn K cd14 "_law_same" = true) (k14 : PySem.W.keepIn K (.ref f14) = true)
    (a15 : PySem.W.nsIn K mainGlobals "_law_made_right" = some (some (.ref f15))) (l15 : K.lookup f15 = some ⟨oc15, od15, .func (PySem.W.fnOf "_law_made_right" "_law_made_right" (defArgs sMade) (defBody sMade) (defScope sMade) .none kV15 dc15 pm15 an15 cd15 ct15), sl15⟩) (c15 : PySem.W.codeIn K cd15 "_law_made_right" = true) (k15 : PySem.W.keepIn K (.ref f15) = true)
    (a16 : PySem.W.nsIn K mainGlobals "_law_figures" = some (some (.ref f16))) (l16 : K.lookup f16 = some ⟨oc16, od16, .func (PySem.W.fnOf "_law_figures" "_law_figures" (defArgs sLG) (defBody sLG) (defScope sLG) .none kV16 dc16 pm16 an16 cd16 ct16), sl16⟩) (c16 : PySem.W.codeIn K cd16 "_law_figures" = true) (k16 : PySem.W.keepIn K (.ref f16) = true)
    (a17 : PySem.W.nsIn K mainGlobals "_law_text_right" = some (some (.ref f17))) (l17 : K.lookup f17 = some ⟨oc17, od17, .func (PySem.W.fnOf "_law_text_right" "_law_text_right" (defArgs sTR) (defBody sTR) (defScope sTR) .none kV17 dc17 pm17 an17 cd17 ct17), sl17⟩) (c17 : PySem.W.codeIn K cd17 "_law_text_right" = true) (k17 : PySem.W.keepIn K (.ref f17) = true)
    (a18 : PySem.W.nsIn K mainGlobals "law" = some (some (.ref f18))) (l18 : K.lookup f18 = some ⟨oc18, od18, .func (PySem.W.fnOf "law" "law" (defArgs sLaw) (defBody sLaw) (defScope sLaw) .none kV18 dc18 pm18 an18 cd18 ct18), sl18⟩) (c18 : PySem.W.codeIn K cd18 "law" = true) (k18 : PySem.W.keepIn K (.ref f18) = true)
    (z1 : PySem.W.nsIn K mainGlobals "abs" = some none)
    (z2 : PySem.W.nsIn K mainGlobals "isinstance" = some none)
    (z3 : PySem.W.nsIn K mainGlobals "int" = some none)
    (z4 : PySem.W.nsIn K mainGlobals "bool" = some none)
    (z5 : PySem.W.nsIn K mainGlobals "tuple" = some none)
    (z6 : PySem.W.nsIn K mainGlobals "len" = some none)
    (z7 : PySem.W.nsIn K mainGlobals "any" = some none)
    (z8 : PySem.W.nsIn K mainGlobals "max" = some none)
    (z9 : PySem.W.nsIn K mainGlobals "min" = some none)
    (z10 : PySem.W.nsIn K mainGlobals "range" = some none)
    (z11 : PySem.W.nsIn K mainGlobals "divmod" = some none)
    (z12 : PySem.W.nsIn K mainGlobals "list" = some none)
    (z13 : PySem.W.nsIn K mainGlobals "str" = some none)
    (z14 : PySem.W.nsIn K mainGlobals "all" = some none)
    (z15 : PySem.W.nsIn K mainGlobals "zip" = some none)
    (z16 : PySem.W.nsIn K mainGlobals "ValueError" = some none)
    (aC : PySem.W.nsIn K mainGlobals "NoFraction" = some (some (.ref C))) (aS : PySem.W.nsIn K mainGlobals "StuffError" = some (some (.ref S)))
    (xP : PySem.W.excIn K C [.type "ValueError", .type "Exception", .type "BaseException", .type "object"] "ValueError.__new__" = true) (kP : PySem.W.keepIn K (.ref C) = true) (bP : PySem.W.subIn K (.ref C) (.type "BaseException") = some true) (tP : PySem.W.typeIn K (.ref C) = some (.type "type"))
    (hd : PySem.W.hasDictIn K C = true) (sC : PySem.W.subIn K (.ref C) (.ref C) = some true) (hg : PySem.W.findIn K (.ref C) "__getattribute__" = some (some (.builtin "BaseException.__getattribute__"))) (hk : PySem.W.findIn K (.ref C) "__getattr__" = some none)
    (hca : PySem.W.findIn K (.ref C) "__class__" = some (some (.builtin "object.__class__"))) (hcn : PySem.W.specialIn K (.builtin "object.__class__") "__get__" = some (some (.builtin "getset_descriptor.__get__"))) (hct : PySem.W.takesIn K (.builtin "object.__class__") = some true) (hcm : PySem.W.mroIn K C (.type "object") = some true)
    (q1 : PySem.W.kitOne K (.ref C) (.ref S) = some true) (q2 : PySem.W.kitOne K (.ref C) (.type "ValueError") = some true) :
    ∃ fd : FuncData, (∀ (s : Shared) (v : Value), BindsTo s fd ⟨[v], []⟩ [("_law_script", v)]) ∧ ∀ base : Heap, K.In base → base.Ns mainGlobals mg → FnOk l.prog w K mg base CX0 5 fa fd ["_law_script"] (spLaw K) := by
  have e := hfa.symm.trans (PySem.W.mg_of X G a18)
  cases e
  have F1 := fun_mk (st := sWhole) l1 c1 k1
  have F2 := fun_mk (st := sMeas) l2 c2 k2
  have F3 := fun_mk (st := sFrac) l3 c3 k3
  have F4 := fun_mk (st := sIsF) l4 c4 k4
  have F5 := fun_mk (st := sFig) l5 c5 k5
  have F6 := fun_mk (st := sFT) l6 c6 k6
  have F7 := fun_mk (st := sPot) l7 c7 k7
  have F8 := fun_mk (st := sTake) l8 c8 k8
  have F9 := fun_mk (st := sBelow) l9 c9 k9
  have F10 := fun_mk (st := sLow) l10 c10 k10
  have F11 := fun_mk (st := sLF) l11 c11 k11
  have F12 := fun_mk (st := sNum) l12 c12 k12
  have F13 := fun_mk (st := sOdd) l13 c13 k13
  have F14 := fun_mk (st := sSame) l14 c14 k14
  have F15 := fun_mk (st := sMade) l15 c15 k15
  have F16 := fun_mk (st := sLG) l16 c16 k16
  have F17 := fun_mk (st := sTR) l17 c17 k17
  have F18 := fun_mk (st := sLaw) l18 c18 k18
  have b1 := F1.binds (ps := ["thing"]) fun _ _ _ _ _ _ us hl => match us, hl with | [_], _ => rfl
  have g1 := PySem.W.mg_of X G a1
  have b2 := F2.binds (ps := ["one", "other"]) fun _ _ _ _ _ _ us hl => match us, hl with | [_, _], _ => rfl
  have g2 := PySem.W.mg_of X G a2
  have b3 := F3.binds (ps := ["top", "bottom"]) fun _ _ _ _ _ _ us hl => match us, hl with | [_, _], _ => rfl
  have g3 := PySem.W.mg_of X G a3
  have b4 := F4.binds (ps := ["thing"]) fun _ _ _ _ _ _ us hl => match us, hl with | [_], _ => rfl
  have g4 := PySem.W.mg_of X G a4
  have b5 := F5.binds (ps := ["number"]) fun _ _ _ _ _ _ us hl => match us, hl with | [_], _ => rfl
  have g5 := PySem.W.mg_of X G a5
  have b6 := F6.binds (ps := ["one"]) fun _ _ _ _ _ _ us hl => match us, hl with | [_], _ => rfl
  have g6 := PySem.W.mg_of X G a6
  have b7 := F7.binds (ps := ["_law_script", "_law_k"]) fun _ _ _ _ _ _ us hl => match us, hl with | [_, _], _ => rfl
  have g7 := PySem.W.mg_of X G a7
  have b8 := F8.binds (ps := ["_law_pot_here", "_law_many"]) fun _ _ _ _ _ _ us hl => match us, hl with | [_, _], _ => rfl
  have g8 := PySem.W.mg_of X G a8
  have b9 := F9.binds (ps := ["_law_pot_here", "_law_many"]) fun _ _ _ _ _ _ us hl => match us, hl with | [_, _], _ => rfl
  have g9 := PySem.W.mg_of X G a9
  have b10 := F10.binds (ps := ["_law_up", "_law_down"]) fun _ _ _ _ _ _ us hl => match us, hl with | [_, _], _ => rfl
  have g10 := PySem.W.mg_of X G a10
  have b11 := F11.binds (ps := ["_law_what"]) fun _ _ _ _ _ _ us hl => match us, hl with | [_], _ => rfl
  have g11 := PySem.W.mg_of X G a11
  have b12 := F12.binds (ps := ["_law_pot_here"]) fun _ _ _ _ _ _ us hl => match us, hl with | [_], _ => rfl
  have g12 := PySem.W.mg_of X G a12
  have b13 := F13.binds (ps := ["_law_pot_here"]) fun _ _ _ _ _ _ us hl => match us, hl with | [_], _ => rfl
  have g13 := PySem.W.mg_of X G a13
  have b14 := F14.binds (ps := ["_law_found", "_law_due"]) fun _ _ _ _ _ _ us hl => match us, hl with | [_, _], _ => rfl
  have g14 := PySem.W.mg_of X G a14
  have b15 := F15.binds (ps := ["_law_up", "_law_down"]) fun _ _ _ _ _ _ us hl => match us, hl with | [_, _], _ => rfl
  have g15 := PySem.W.mg_of X G a15
  have b16 := F16.binds (ps := ["_law_text"]) fun _ _ _ _ _ _ us hl => match us, hl with | [_], _ => rfl
  have g16 := PySem.W.mg_of X G a16
  have b17 := F17.binds (ps := ["_law_first"]) fun _ _ _ _ _ _ us hl => match us, hl with | [_], _ => rfl
  have g17 := PySem.W.mg_of X G a17
  have m1 := PySem.W.mg_none_of X G z1
  have m2 := PySem.W.mg_none_of X G z2
  have m3 := PySem.W.mg_none_of X G z3
  have m4 := PySem.W.mg_none_of X G z4
  have m5 := PySem.W.mg_none_of X G z5
  have m6 := PySem.W.mg_none_of X G z6
  have m7 := PySem.W.mg_none_of X G z7
  have m8 := PySem.W.mg_none_of X G z8
  have m9 := PySem.W.mg_none_of X G z9
  have m10 := PySem.W.mg_none_of X G z10
  have m11 := PySem.W.mg_none_of X G z11
  have m12 := PySem.W.mg_none_of X G z12
  have m13 := PySem.W.mg_none_of X G z13
  have m14 := PySem.W.mg_none_of X G z14
  have m15 := PySem.W.mg_none_of X G z15
  have m16 := PySem.W.mg_none_of X G z16
  have T : ExT K mg C S := ⟨xP, PySem.W.mg_of X G aC, kP, bP, tP, PySem.W.exm_ref bP hd tP sC, ⟨hg, hk, bP, hd, hca, hcn, hct, hcm⟩, PySem.W.mg_of X G aS, q1, q2⟩
  refine ⟨PySem.W.fnOf "law" "law" (defArgs sLaw) (defBody sLaw) (defScope sLaw) .none kV18 dc18 pm18 an18 cd18 ct18, fun s v => .of_eq rfl, fun base _ _ => ?_⟩
  have GL := ok_low (P := l.prog) (w := w) (mg := mg) (base := base) F10 m1
  have GF := ok_LF (P := l.prog) (w := w) (mg := mg) (base := base) F11 F10 b10 g10 m1 m2 m3 m4 m5 m6 m7
  have GS := ok_same (P := l.prog) (w := w) (mg := mg) (base := base) (fL := fa) (fdL := default) F14 F11 b11 g11 GF
  have GR := ok_frac (P := l.prog) (w := w) (mg := mg) (base := base) F3 F2 b2 g2 m1
  have GM := ok_made (P := l.prog) (w := w) (mg := mg) (base := base) F15 F3 b3 g3 GR F14 b14 g14 GS F10 b10 g10 GL T m2 m16
  have GP := ok_pot (P := l.prog) (w := w) (mg := mg) (base := base) F7 m6 m8
  have GN := ok_num (P := l.prog) (w := w) (mg := mg) (base := base) F12 F8 b8 g8 F9 b9 g9 m11 m10
  have GI := ok_isF (P := l.prog) (w := w) (mg := mg) (base := base) F4 F2 b2 g2 F1 b1 g1 m1 m2 m3 m4 m5 m6
  have GO := ok_odd (P := l.prog) (w := w) (mg := mg) (base := base) F13 F8 b8 g8 m11 m6
  have GT := ok_FT (P := l.prog) (w := w) (mg := mg) (base := base) F6 F5 b5 g5 m13 m1
  have GX := ok_TR (P := l.prog) (w := w) (mg := mg) (base := base) F17 F6 b6 g6 GT F16 b16 g16 m2 m13 m1 m3 m14 m15
  exact ok_law F18 F7 b7 g7 GP F12 b12 g12 GN F15 b15 g15 GM F10 b10 g10 GL F4 b4 g4 GI F11 b11 g11 GF F13 b13 g13 GO F17 b17 g17 GX m10 m8 m9 m6 m12 m2 m4
end G
set_option Elab.async false
set_option linter.all false
open PySem PySem.W PyProof.Rows
set_option maxRecDepth 100000 in
set_option maxHeartbeats 0 in
theorem PySem.Challenge.cw_stufflists_k11_fractions_made_holds : PySem.Challenge.rw_stufflists_k11_fractions_made.Holds := by
  w_on; o_law; k_head; (case hw => w_witness2)
  k_fill
  refine L2.walk_of (l := PySem.Challenge.rw_stufflists_k11_fractions_made) (n := 63) (k := 5) (x := "_law_script") (CX := fun _ => L2.CX0) (sp := fun w => G.spLaw _) rfl (by decide) rfl ⟨rfl, by decide, by decide⟩ (fun w h Y => PySem.W.kIn_of Y) ?F (fun _ _ a ns hl _ hS => ⟨a, ns, rfl, hS, hl, fun _ => rfl⟩) (fun _ _ _ _ _ h => h)
  case F =>
    intro w mg fa h KX GN hmg
    refine' G.all_mk KX GN hmg ?a1 ?l1 ?c1 ?k1 ?a2 ?l2 ?c2 ?k2 ?a3 ?l3 ?c3 ?k3 ?a4 ?l4 ?c4 ?k4 ?a5 ?l5 ?c5 ?k5 ?a6 ?l6 ?c6 ?k6 ?a7 ?l7 ?c7 ?k7 ?a8 ?l8 ?c8 ?k8 ?a9 ?l9 ?c9 ?k9 ?a10 ?l10 ?c10 ?k10 ?a11 ?l11 ?c11 ?k11 ?a12 ?l12 ?c12 ?k12 ?a13 ?l13 ?c13 ?k13 ?a14 ?l14 ?c14 ?k14 ?a15 ?l15 ?c15 ?k15 ?a16 ?l16 ?c16 ?k16 ?a17 ?l17 ?c17 ?k17 ?a18 ?l18 ?c18 ?k18 ?z1 ?z2 ?z3 ?z4 ?z5 ?z6 ?z7 ?z8 ?z9 ?z10 ?z11 ?z12 ?z13 ?z14 ?z15 ?z16 ?aC ?aS ?xP ?kP ?bP ?tP ?hd ?sC ?hg ?hk ?hca ?hcn ?hct ?hcm ?q1 ?q2
    (case a1 => first | k_is | rfl)
    (case l1 => first | k_is | rfl)
    (case c1 => first | k_is | rfl)
    (case k1 => first | k_is | rfl)
    (case a2 => first | k_is | rfl)
    (case l2 => first | k_is | rfl)
    (case c2 => first | k_is | rfl)
    (case k2 => first | k_is | rfl)
    (case a3 => first | k_is | rfl)
    (case l3 => first | k_is | rfl)
    (case c3 => first | k_is | rfl)
    (case k3 => first | k_is | rfl)
    (case a4 => first | k_is | rfl)
    (case l4 => first | k_is | rfl)
    (case c4 => first | k_is | rfl)
    (case k4 => first | k_is | rfl)
    (case a5 => first | k_is | rfl)
    (case l5 => first | k_is | rfl)
    (case c5 => first | k_is | rfl)
    (case k5 => first | k_is | rfl)
    (case a6 => first | k_is | rfl)
    (case l6 => first | k_is | rfl)
    (case c6 => first | k_is | rfl)
    (case k6 => first | k_is | rfl)
    (case a7 => first | k_is | rfl)
    (case l7 => first | k_is | rfl)
    (case c7 => first | k_is | rfl)
    (case k7 => first | k_is | rfl)
    (case a8 => first | k_is | rfl)
    (case l8 => first | k_is | rfl)
    (case c8 => first | k_is | rfl)
    (case k8 => first | k_is | rfl)
    (case a9 => first | k_is | rfl)
    (case l9 => first | k_is | rfl)
    (case c9 => first | k_is | rfl)
    (case k9 => first | k_is | rfl)
    (case a10 => first | k_is | rfl)
    (case l10 => first | k_is | rfl)
    (case c10 => first | k_is | rfl)
    (case k10 => first | k_is | rfl)
    (case a11 => first | k_is | rfl)
    (case l11 => first | k_is | rfl)
    (case c11 => first | k_is | rfl)
    (case k11 => first | k_is | rfl)
    (case a12 => first | k_is | rfl)
    (case l12 => first | k_is | rfl)
    (case c12 => first | k_is | rfl)
    (case k12 => first | k_is | rfl)
    (case a13 => first | k_is | rfl)
    (case l13 => first | k_is | rfl)
    (case c13 => first | k_is | rfl)
    (case k13 => first | k_is | rfl)
    (case a14 => first | k_is | rfl)
    (case l14 => first | k_is | rfl)
    (case c14 => first | k_is | rfl)
    (case k14 => first | k_is | rfl)
    (case a15 => first | k_is | rfl)
    (case l15 => first | k_is | rfl)
    (case c15 => first | k_is | rfl)
    (case k15 => first | k_is | rfl)
    (case a16 => first | k_is | rfl)
    (case l16 => first | k_is | rfl)
    (case c16 => first | k_is | rfl)
    (case k16 => first | k_is | rfl)
    (case a17 => first | k_is | rfl)
    (case l17 => first | k_is | rfl)
    (case c17 => first | k_is | rfl)
    (case k17 => first | k_is | rfl)
    (case a18 => first | k_is | rfl)
    (case l18 => first | k_is | rfl)
    (case c18 => first | k_is | rfl)
    (case k18 => first | k_is | rfl)
    (case z1 => first | k_is | rfl)
    (case z2 => first | k_is | rfl)
    (case z3 => first | k_is | rfl)
    (case z4 => first | k_is | rfl)
    (case z5 => first | k_is | rfl)
    (case z6 => first | k_is | rfl)
    (case z7 => first | k_is | rfl)
    (case z8 => first | k_is | rfl)
    (case z9 => first | k_is | rfl)
    (case z10 => first | k_is | rfl)
    (case z11 => first | k_is | rfl)
    (case z12 => first | k_is | rfl)
    (case z13 => first | k_is | rfl)
    (case z14 => first | k_is | rfl)
    (case z15 => first | k_is | rfl)
    (case z16 => first | k_is | rfl)
    (case aC => first | k_is | rfl)
    (case aS => first | k_is | rfl)
    (case xP => first | k_exc | k_is)
    (case kP => first | k_is | rfl)
    (case bP => first | k_is | rfl)
    (case tP => first | k_is | rfl)
    (case hd => first | k_is | rfl)
    (case sC => first | k_is | rfl)
    (case hg => first | k_is | rfl)
    (case hk => first | k_is | rfl)
    (case hca => first | k_is | rfl)
    (case hcn => first | k_is | rfl)
    (case hct => first | k_is | rfl)
    (case hcm => first | k_is | rfl)
    (case q1 => first | k_is | rfl)
    (case q2 => first | k_is | rfl)
