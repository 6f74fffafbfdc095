import PyProof.Rows.All
import Wide.All
import OpenK.AllK
import Wide.FinOn
import HandS.ForMost
import HandS.ForExc
import HandS.Wide
import HandS.WideBits
import HandS.IsInst
import HandS.ExcIs
import HandS.CallSlots
import HandS.Defaults
import HandS.StrMore
import HandS.Style
import HandS.Flow
import HandS.Walk
import KE.GoesEnum
import HandS.Codes
import HandS.TupAny
import HandS.Conv
import HandS.RaiseMore
import HandS.TupLen
import HandS.Deep
import HandS.Text
import HandS.Set
import HandS.SetFor
import HandS.Strs
import HandS.More
import KE.KCallOwn
import KE.KFmtOwn
import HandS.FStr
import HandS.ExcOwn
import HandS.TryOnly
import HandS.WordsExc
import HandS.NoneIn
import PyProof.ReprLen
import PyProof.StrLawsRepr
import PyProof.NeKinds
import HandS.DictEq
import PyProof.Rows.ReprOcc
import PyProof.InstNe
import HandS.OwnEq
import PyProof.StrBlock2
import HandS.Iter
import HandS.Exc
import PyProof.Rows.RegReprOcc
import PyProof.ReprText
import Wide.Txt
import HandS.Words
import HandS.Head0
import HandS.Head1
import HandS.Head2
import HandS.HeadEnd
import HandS.HeadHook1
import HandS.HeadHook2
import PySem.Challenge.RW_stufflists_k82_kinds_of_kinds
set_option Elab.async false
set_option linter.all false
set_option maxRecDepth 100000
namespace G
open PySem PySem.Spec PyProof.Rows L2
/-! ### numbers -/
def CDivG (_ j : Int) : Prop := j ≠ 0 ∧ j.natAbs.log2 < 9000
theorem op_fdivG {X : Cx} : OpR X (binaryOp .FloorDiv) (rI CDivG fun i j => .int (i.fdiv j)) := opI fun _ _ _ _ _ _ _ hc q => floordiv_int hc.1 q (.inl (PyProof.noPylong_of_log2 hc.2))
theorem CDivG.of {i j : Int} {b : Nat} (h : j ≠ 0) (hb : j.natAbs < 2 ^ b) (h0 : 0 < b) (h9 : b ≤ 9000) : CDivG i j := ⟨h, Nat.lt_of_lt_of_le (PySem.Flt.log2_lt_of h0 hb) h9⟩
def gc (a b : Int) : Nat := Nat.gcd a.natAbs b.natAbs
def ms (a b : Int) : Int := if b < 0 then -(gc a b : Int) else (gc a b : Int)
def low1 (a b : Int) : Int := a.fdiv (ms a b)
def low2 (a b : Int) : Int := b.fdiv (ms a b)
def isFr (a b : Int) : Bool := decide (0 < b) && decide (gc a b = 1)
theorem gc_pos {a b : Int} (h : b ≠ 0) : 0 < gc a b := Nat.gcd_pos_of_pos_right _ (by omega)
theorem ms_ne {a b : Int} (h : b ≠ 0) : ms a b ≠ 0 := by
  have := gc_pos (a := a) h
  unfold ms
  split <;> omega
theorem gc_dvd1 (a b : Int) : (gc a b : Int) ∣ a := Int.ofNat_dvd_left.mpr (Nat.gcd_dvd_left _ _)
theorem gc_dvd2 (a b : Int) : (gc a b : Int) ∣ b := Int.ofNat_dvd_left.mpr (Nat.gcd_dvd_right _ _)
theorem ms_dvd1 (a b : Int) : ms a b ∣ a := by
  unfold ms
  split
  · exact Int.neg_dvd.mpr (gc_dvd1 a b)
  · exact gc_dvd1 a b
theorem ms_dvd2 (a b : Int) : ms a b ∣ b := by
  unfold ms
  split
  · exact Int.neg_dvd.mpr (gc_dvd2 a b)
  · exact gc_dvd2 a b
theorem low1_mul (a b : Int) : ms a b * low1 a b = a := by
  unfold low1
  rw [Int.fdiv_eq_ediv_of_dvd (ms_dvd1 a b)]
  exact Int.mul_ediv_cancel' (ms_dvd1 a b)
theorem low2_mul (a b : Int) : ms a b * low2 a b = b := by
  unfold low2
  rw [Int.fdiv_eq_ediv_of_dvd (ms_dvd2 a b)]
  exact Int.mul_ediv_cancel' (ms_dvd2 a b)
theorem ms_natAbs (a b : Int) : (ms a b).natAbs = gc a b := by
  unfold ms
  split <;> omega
theorem low_cross (a b : Int) (h : b ≠ 0) : low1 a b * b = low2 a b * a := by
  have e1 := low1_mul a b
  have e2 := low2_mul a b
  have : low1 a b * (ms a b * low2 a b) = low2 a b * (ms a b * low1 a b) := by
    rw [← Int.mul_assoc, ← Int.mul_assoc, Int.mul_comm (low1 a b) (ms a b), Int.mul_comm (low2 a b) (ms a b), Int.mul_assoc, Int.mul_assoc, Int.mul_comm (low1 a b)]
  rw [e1, e2] at this
  exact this
theorem low2_pos {a b : Int} (h : b ≠ 0) : 0 < low2 a b := by
  have e2 := low2_mul a b
  have g := gc_pos (a := a) h
  by_cases hb : b < 0
  · have em : ms a b = -(gc a b : Int) := if_pos hb
    rw [em] at e2
    by_cases hz : 0 < low2 a b
    · exact hz
    · have h1 : 0 ≤ (gc a b : Int) * -(low2 a b) := Int.mul_nonneg (by omega) (by omega)
      rw [Int.mul_neg] at h1
      rw [Int.neg_mul] at e2
      omega
  · have em : ms a b = (gc a b : Int) := if_neg hb
    rw [em] at e2
    by_cases hz : 0 < low2 a b
    · exact hz
    · have h1 : 0 ≤ (gc a b : Int) * -(low2 a b) := Int.mul_nonneg (by omega) (by omega)
      rw [Int.mul_neg] at h1
      omega
theorem low1_abs (a b : Int) : gc a b * (low1 a b).natAbs = a.natAbs := by
  have e := congrArg Int.natAbs (low1_mul a b)
  rw [Int.natAbs_mul, ms_natAbs] at e
  exact e
theorem low2_abs (a b : Int) : gc a b * (low2 a b).natAbs = b.natAbs := by
  have e := congrArg Int.natAbs (low2_mul a b)
  rw [Int.natAbs_mul, ms_natAbs] at e
  exact e
theorem low_gc {a b : Int} (h : b ≠ 0) : gc (low1 a b) (low2 a b) = 1 := by
  have g := gc_pos (a := a) h
  have e1 := low1_abs a b
  have e2 := low2_abs a b
  have f1 : (low1 a b).natAbs = a.natAbs / gc a b := by
    rw [← e1, Nat.mul_div_cancel_left _ g]
  have f2 : (low2 a b).natAbs = b.natAbs / gc a b := by
    rw [← e2, Nat.mul_div_cancel_left _ g]
  show Nat.gcd (low1 a b).natAbs (low2 a b).natAbs = 1
  rw [f1, f2]
  exact Nat.gcd_div_gcd_div_gcd_of_pos_right (by omega)
theorem low1_le {a b : Int} (h : b ≠ 0) : (low1 a b).natAbs ≤ a.natAbs := by
  have g := gc_pos (a := a) h
  have e1 := low1_abs a b
  calc (low1 a b).natAbs ≤ gc a b * (low1 a b).natAbs := Nat.le_mul_of_pos_left _ g
    _ = a.natAbs := e1
theorem low2_le {a b : Int} (h : b ≠ 0) : (low2 a b).natAbs ≤ b.natAbs := by
  have g := gc_pos (a := a) h
  have e1 := low2_abs a b
  calc (low2 a b).natAbs ≤ gc a b * (low2 a b).natAbs := Nat.le_mul_of_pos_left _ g
    _ = b.natAbs := e1
theorem low_fr {a b : Int} (h : b ≠ 0) : isFr (low1 a b) (low2 a b) = true := by
  unfold isFr
  rw [decide_eq_true (low2_pos h), decide_eq_true (low_gc h)]
  rfl
/-- of a fraction the lowest terms are itself -/
theorem low_self {a b : Int} (hb : 0 < b) : (low1 a b = a ∧ low2 a b = b) ↔ gc a b = 1 := by
  have e1 := low1_mul a b
  have e2 := low2_mul a b
  have em : ms a b = (gc a b : Int) := if_neg (by omega)
  rw [em] at e1 e2
  constructor
  · rintro ⟨_, h2⟩
    rw [h2] at e2
    have : ((gc a b : Int) - 1) * b = 0 := by
      rw [Int.sub_mul, e2]
      omega
    rcases Int.mul_eq_zero.mp this with h | h
    · omega
    · omega
  · intro h
    rw [h] at e1 e2
    omega
theorem gc_step {x y : Int} (hx : 0 ≤ x) (hy : 0 < y) : gc y (x % y) = gc x y := by
  have h1 : (x % y).natAbs = x.natAbs % y.natAbs := Int.natAbs_emod_of_nonneg hx y
  unfold gc
  rw [h1, Nat.gcd_comm x.natAbs y.natAbs, Nat.gcd_rec y.natAbs x.natAbs, Nat.gcd_comm]
/-! ### heaps -/
theorem same_upd {H : Hp} {p : Addr} {o : HO} (h : H p = none) : Same H (upd H p o) := fun b x e => by
  rw [upd_ne (ne_of_none e h)]
  exact e
def Keep (p : Addr) (H H' : Hp) : Prop := ∀ b o, b ≠ p → H b = some o → H' b = some o
def Pot (H : Hp) (p : Addr) : Prop := ∃ a b : Int, H p = some (.lst [.int a, .int b]) ∧ 0 ≤ a ∧ 0 ≤ b ∧ b < 2147483647
theorem Keep.refl {p : Addr} {H : Hp} : Keep p H H := fun _ _ _ h => h
theorem Keep.trans {p : Addr} {H H1 H2 : Hp} (a : Keep p H H1) (b : Keep p H1 H2) : Keep p H H2 := fun c o n h => b c o n (a c o n h)
theorem same_keep {p : Addr} {H H1 : Hp} (a : Same H H1) : Keep p H H1 := fun c o _ h => a c o h
theorem Pot.same {p : Addr} {H H1 : Hp} (h : Pot H p) (a : Same H H1) : Pot H1 p := by
  obtain ⟨x, y, e, r⟩ := h
  exact ⟨x, y, a _ _ e, r⟩
theorem Pot.ne {p q : Addr} {H : Hp} (h : Pot H p) (n : H q = none) : p ≠ q := by
  obtain ⟨x, y, e, r⟩ := h
  exact ne_of_none e n
theorem keep_upd {p : Addr} {H : Hp} {o : HO} : Keep p H (upd H p o) := fun b x n e => by
  rw [upd_ne n]
  exact e
/-- a new thing behind draws is none that was -/
theorem Keep.free {p q : Addr} {H H' : Hp} (k : Keep p H H') (h : Pot H' p) (n : H' q = none) : H q = none := by
  cases e : H q with
  | none => rfl
  | some o =>
    by_cases z : q = p
    · subst z
      obtain ⟨_, _, f, _⟩ := h
      rw [f] at n
      cases n
    · rw [k q o z e] at n
      cases n
/-! ### things whose kind is known -/
inductive Kd (H : Hp) : V → Prop where
  | non : Kd H .non
  | bl (b : Bool) : Kd H (.bl b)
  | int (i : Int) : Kd H (.int i)
  | str (x : Str) : Kd H (.str x)
  | lst {a : Addr} {xs : List V} : H a = some (.lst xs) → Kd H (.ref a)
  | tup {a : Addr} {xs : List V} : H a = some (.tup xs) → (∀ x ∈ xs, Kd H x) → Kd H (.ref a)
  | dK {a : Addr} {kvs : List (Key × V)} : H a = some (.dK kvs) → Kd H (.ref a)
theorem Kd.same {H H' : Hp} {x : V} (k : Kd H x) (s : Same H H') : Kd H' x := by
  induction k with
  | non => exact .non
  | bl b => exact .bl b
  | int i => exact .int i
  | str x => exact .str x
  | lst e => exact .lst (s _ _ e)
  | tup e _ ih => exact .tup (s _ _ e) ih
  | dK e => exact .dK (s _ _ e)
def tyN (H : Hp) : V → String
  | .non => "NoneType"
  | .bl _ => "bool"
  | .int _ => "int"
  | .str _ => "str"
  | .ref a => match H a with
    | some (.lst _) => "list"
    | some (.tup _) => "tuple"
    | _ => "dict"
  | _ => "dict"
theorem tyN_lst {H : Hp} {a : Addr} {xs : List V} (e : H a = some (.lst xs)) : tyN H (.ref a) = "list" := by simp only [tyN, e]
theorem tyN_tup {H : Hp} {a : Addr} {xs : List V} (e : H a = some (.tup xs)) : tyN H (.ref a) = "tuple" := by simp only [tyN, e]
theorem tyN_dK {H : Hp} {a : Addr} {kvs : List (Key × V)} (e : H a = some (.dK kvs)) : tyN H (.ref a) = "dict" := by simp only [tyN, e]
theorem Kd.ty {K : PySem.W.Frag} {H : Hp} {x : V} (k : Kd H x) : TyX K H x (.type (tyN H x)) := by
  cases k with
  | non => exact .base .non
  | bl b => exact .base (.bl b)
  | int i => exact .base (.int i)
  | str z => exact .base (.str z)
  | lst e =>
    rw [tyN_lst e]
    exact .base (.lst e)
  | tup e _ =>
    rw [tyN_tup e]
    exact .base (.tup e)
  | dK e =>
    rw [tyN_dK e]
    exact .base (.dK e)
theorem Kd.tyN_mem {H : Hp} {x : V} (k : Kd H x) : tyN H x ∈ ["NoneType", "bool", "int", "str", "list", "tuple", "dict"] := by
  cases k with
  | non => exact .head _
  | bl b => exact .tail _ (.head _)
  | int i => exact .tail _ (.tail _ (.head _))
  | str z => exact .tail _ (.tail _ (.tail _ (.head _)))
  | lst e =>
    rw [tyN_lst e]
    decide
  | tup e _ =>
    rw [tyN_tup e]
    decide
  | dK e =>
    rw [tyN_dK e]
    decide
def sub (t n : String) : Bool := t == n || (t == "bool" && n == "int")
theorem kit7 {t n : String} (ht : t ∈ ["NoneType", "bool", "int", "str", "list", "tuple", "dict"]) (hn : n ∈ ["bool", "int", "str", "tuple", "list", "dict"]) : kitB t n = some (sub t n) := by
  simp only [List.mem_cons, List.not_mem_nil, or_false] at ht hn
  rcases ht with rfl | rfl | rfl | rfl | rfl | rfl | rfl <;> rcases hn with rfl | rfl | rfl | rfl | rfl | rfl <;> decide +kernel
/-- isinstance(x, n) of such a thing -/
theorem isi {K : PySem.W.Frag} {H : Hp} {x : V} {n : String} {Q : VK} (k : Kd H x) (hn : n ∈ ["bool", "int", "str", "tuple", "list", "dict"]) (q : Q (.bl (sub (tyN H x) n)) H) : rIsi K [x, .ty n] H Q :=
  ⟨x, .ty n, _, _, _, rfl, .ty n, k.ty, kit_ty (kit7 k.tyN_mem hn), q⟩
/-- whether it is a fraction -/
def frB (H : Hp) : V → Bool
  | .ref a => match H a with
    | some (.tup [.int i, .int j]) => isFr i j
    | _ => false
  | _ => false
end G
set_option Elab.async false
set_option linter.all false
set_option maxRecDepth 100000
set_option maxHeartbeats 1000000
set_option autoImplicit false
/-! L3: values as trees (tuples have no addresses), a heap of what can change; over the hand layer's readings -/
namespace L3
open PySem PySem.Spec PyProof.Rows L2
abbrev Fg := PySem.W.Frag
inductive T where
  | non
  | bl (b : Bool)
  | int (i : Int)
  | str (x : Str)
  | ty (n : String)
  | ref (a : Addr)
  | tup (xs : List T)
  | scr (K : PySem.W.Frag) (ns : List Int)
/-- the script: locked, or written -/
def SqR (K : PySem.W.Frag) (H : Hp) (a : Addr) (ns : List Int) : Prop := (∃ o, H a = some (.frz o (.lst (ns.map V.int)))) ∨ ∃ (o : Obj) (its : Array Value) (n : Nat), K.lookup a = some o ∧ o.cls = .type "list" ∧ o.dict = none ∧ o.data = .seq its n ∧ its.size ≤ sizeLine ∧ Vals (ns.map V.int) its.toList
theorem SqR.sq {K : PySem.W.Frag} {H : Hp} {a : Addr} {ns : List Int} (h : SqR K H a ns) : SqL K H a (ns.map V.int) := h.elim (fun h => .inl (.inr h)) .inr
mutual
inductive Rp (H : Hp) : T → V → Prop
  | non : Rp H .non .non
  | bl (b : Bool) : Rp H (.bl b) (.bl b)
  | int (i : Int) : Rp H (.int i) (.int i)
  | str (x : Str) : Rp H (.str x) (.str x)
  | ty (n : String) : Rp H (.ty n) (.ty n)
  | ref (a : Addr) : Rp H (.ref a) (.ref a)
  | tup {a : Addr} {xs : List T} {vs : List V} : H a = some (.tup vs) → Rps H xs vs → Rp H (.tup xs) (.ref a)
  | scr {K : PySem.W.Frag} {a : Addr} {ns : List Int} : SqR K H a ns → Rp H (.scr K ns) (.ref a)
inductive Rps (H : Hp) : List T → List V → Prop
  | nil : Rps H [] []
  | cons {x : T} {v : V} {xs : List T} {vs : List V} : Rp H x v → Rps H xs vs → Rps H (x :: xs) (v :: vs)
end
inductive Rkv {κ : Type} (H : Hp) : List (κ × T) → List (κ × V) → Prop
  | nil : Rkv H [] []
  | cons {k : κ} {x : T} {v : V} {xs : List (κ × T)} {vs : List (κ × V)} : Rp H x v → Rkv H xs vs → Rkv H ((k, x) :: xs) ((k, v) :: vs)
/-- tuples stand, and what is locked -/
structure Tups (H H' : Hp) : Prop where
  tup : ∀ a xs, H a = some (.tup xs) → H' a = some (.tup xs)
  frz : ∀ a o u, H a = some (.frz o u) → H' a = some (.frz o u)
def ntf : HO → Bool
  | .tup _ => false
  | .frz _ _ => false
  | _ => true
def NT (H : Hp) (p : Addr) : Prop := ∃ u, H p = some u ∧ ntf u = true
theorem Tups.refl {H : Hp} : Tups H H := ⟨fun _ _ e => e, fun _ _ _ e => e⟩
theorem Tups.trans {H H1 H2 : Hp} (a : Tups H H1) (b : Tups H1 H2) : Tups H H2 := ⟨fun x xs e => b.tup x xs (a.tup x xs e), fun x o u e => b.frz x o u (a.frz x o u e)⟩
theorem Tups.new {H : Hp} {p : Addr} {o : HO} (n : H p = none) : Tups H (upd H p o) := ⟨fun a xs e => by
  rw [upd_ne (ne_of_none e n)]
  exact e, fun a xs u e => by
  rw [upd_ne (ne_of_none e n)]
  exact e⟩
theorem Tups.put {H : Hp} {p : Addr} {o : HO} (n : NT H p) : Tups H (upd H p o) := by
  obtain ⟨u, eu, hu⟩ := n
  refine ⟨fun a xs e => ?_, fun a ob v e => ?_⟩
  · have h : a ≠ p := fun z => by
      rw [z, eu] at e
      cases e
      cases hu
    rw [upd_ne h]
    exact e
  · have h : a ≠ p := fun z => by
      rw [z, eu] at e
      cases e
      cases hu
    rw [upd_ne h]
    exact e
theorem SqR.mv {K : PySem.W.Frag} {H H' : Hp} {a : Addr} {ns : List Int} (h : SqR K H a ns) (t : Tups H H') : SqR K H' a ns := h.imp (fun ⟨o, e⟩ => ⟨o, t.frz _ _ _ e⟩) id
mutual
theorem Rp.mv {H H' : Hp} (t : Tups H H') : ∀ {x : T} {v : V}, Rp H x v → Rp H' x v
  | _, _, .non => .non
  | _, _, .bl b => .bl b
  | _, _, .int i => .int i
  | _, _, .str x => .str x
  | _, _, .ty n => .ty n
  | _, _, .ref a => .ref a
  | _, _, .tup e r => .tup (t.tup _ _ e) (Rps.mv t r)
  | _, _, .scr h => .scr (h.mv t)
theorem Rps.mv {H H' : Hp} (t : Tups H H') : ∀ {xs : List T} {vs : List V}, Rps H xs vs → Rps H' xs vs
  | _, _, .nil => .nil
  | _, _, .cons r rs => .cons (Rp.mv t r) (Rps.mv t rs)
end
theorem Rkv.mv {κ : Type} {H H' : Hp} (t : Tups H H') : ∀ {xs : List (κ × T)} {vs : List (κ × V)}, Rkv H xs vs → Rkv H' xs vs
  | _, _, .nil => .nil
  | _, _, .cons r rs => .cons (r.mv t) (rs.mv t)
section
variable {H : Hp}
theorem Rps.len : ∀ {xs : List T} {vs : List V}, Rps H xs vs → vs.length = xs.length
  | _, _, .nil => rfl
  | _, _, .cons _ rs => congrArg (· + 1) rs.len
theorem Rps.get : ∀ {xs : List T} {vs : List V} {n : Nat} {x : T}, Rps H xs vs → xs[n]? = some x → ∃ v, vs[n]? = some v ∧ Rp H x v
  | _, _, _, _, .nil, e => by simp at e
  | _, _, 0, _, .cons r _, e => by simp at e; subst e; exact ⟨_, rfl, r⟩
  | _, _, n + 1, x, .cons _ rs, e => by
    obtain ⟨v, h1, h2⟩ := Rps.get (n := n) (x := x) rs (by simpa using e)
    exact ⟨v, by simpa using h1, h2⟩
theorem Rps.get' : ∀ {xs : List T} {vs : List V} {n : Nat} {v : V}, Rps H xs vs → vs[n]? = some v → ∃ x, xs[n]? = some x ∧ Rp H x v
  | _, _, _, _, .nil, e => by simp at e
  | _, _, 0, _, .cons r _, e => by simp at e; subst e; exact ⟨_, rfl, r⟩
  | _, _, n + 1, x, .cons _ rs, e => by
    obtain ⟨v, h1, h2⟩ := Rps.get' (n := n) (v := x) rs (by simpa using e)
    exact ⟨v, by simpa using h1, h2⟩
theorem Rps.app : ∀ {xs ys : List T} {vs ws : List V}, Rps H xs vs → Rps H ys ws → Rps H (xs ++ ys) (vs ++ ws)
  | _, _, _, _, .nil, s => s
  | _, _, _, _, .cons r rs, s => .cons r (rs.app s)
theorem Rps.take : ∀ {xs : List T} {vs : List V} (n : Nat), Rps H xs vs → Rps H (xs.take n) (vs.take n)
  | _, _, 0, _ => .nil
  | _, _, _ + 1, .nil => .nil
  | _, _, n + 1, .cons r rs => .cons r (rs.take n)
theorem Rps.drop : ∀ {xs : List T} {vs : List V} (n : Nat), Rps H xs vs → Rps H (xs.drop n) (vs.drop n)
  | _, _, 0, r => r
  | _, _, _ + 1, .nil => .nil
  | _, _, n + 1, .cons _ rs => rs.drop n
theorem Rps.set {x : T} {v : V} (r : Rp H x v) : ∀ {xs : List T} {vs : List V} (n : Nat), Rps H xs vs → Rps H (xs.set n x) (vs.set n v)
  | _, _, _, .nil => .nil
  | _, _, 0, .cons _ rs => .cons r rs
  | _, _, n + 1, .cons q rs => .cons q (Rps.set r n rs)
theorem Rps.rev {xs : List T} {vs : List V} (h : Rps H xs vs) : Rps H xs.reverse vs.reverse := by
  match h with
  | .nil => exact .nil
  | .cons r rs =>
    rw [List.reverse_cons, List.reverse_cons]
    exact (rs.rev).app (.cons r .nil)
theorem Rps.atI {xs : List T} {vs : List V} {i : Int} {x : T} (h : Rps H xs vs) (e : L2.atI xs i = some x) : ∃ v, L2.atI vs i = some v ∧ Rp H x v := by
  unfold L2.atI at e ⊢
  rw [h.len]
  cases q : ixN xs.length i with
  | none => rw [q] at e; cases e
  | some j =>
    rw [q] at e
    exact h.get e
theorem Rps.nil_iff {xs : List T} {vs : List V} (h : Rps H xs vs) : vs = [] ↔ xs = [] := by
  cases h with
  | nil => simp
  | cons _ _ => simp
end
inductive MO where
  | lst (xs : List T)
  | dK (kvs : List (Key × T))
  | dT (kvs : List (List Key × T))
  | ins (C : Addr) (fs : List (Str × T))
  | xd (fs : List (Str × T))
  | raw (o : HO)
  | lkK (od : Obj) (kvs : List (Key × T))
def RO (H : Hp) (a : Addr) : MO → Prop
  | .lst ts => ∃ vs, H a = some (.lst vs) ∧ Rps H ts vs
  | .dK kvs => ∃ us, H a = some (.dK us) ∧ Rkv H kvs us
  | .dT kvs => ∃ us, H a = some (.dT us) ∧ Rkv H kvs us
  | .ins C fs => ∃ dx us, H a = some (.ins C dx us) ∧ Rkv H fs us
  | .xd fs => ∃ us, H a = some (.xd us) ∧ Rkv H fs us
  | .raw o => H a = some o
  | .lkK od kvs => ∃ us, H a = some (.frz od (.dK us)) ∧ Rkv H kvs us
theorem RO.mv {H H' : Hp} {a : Addr} {o : MO} (r : RO H a o) (t : Tups H H') (e : H' a = H a) : RO H' a o := by
  cases o with
  | lst ts => obtain ⟨vs, h, q⟩ := r; exact ⟨vs, e.trans h, q.mv t⟩
  | dK ts => obtain ⟨vs, h, q⟩ := r; exact ⟨vs, e.trans h, q.mv t⟩
  | dT ts => obtain ⟨vs, h, q⟩ := r; exact ⟨vs, e.trans h, q.mv t⟩
  | xd ts => obtain ⟨vs, h, q⟩ := r; exact ⟨vs, e.trans h, q.mv t⟩
  | ins C ts => obtain ⟨dx, vs, h, q⟩ := r; exact ⟨dx, vs, e.trans h, q.mv t⟩
  | raw o => exact e.trans r
  | lkK od ts => obtain ⟨vs, h, q⟩ := r; exact ⟨vs, e.trans h, q.mv t⟩
theorem RO.some {H : Hp} {a : Addr} {o : MO} (r : RO H a o) : ∃ u, H a = some u := by
  cases o with
  | lst ts => obtain ⟨vs, h, q⟩ := r; exact ⟨_, h⟩
  | dK ts => obtain ⟨vs, h, q⟩ := r; exact ⟨_, h⟩
  | dT ts => obtain ⟨vs, h, q⟩ := r; exact ⟨_, h⟩
  | xd ts => obtain ⟨vs, h, q⟩ := r; exact ⟨_, h⟩
  | ins C ts => obtain ⟨dx, vs, h, q⟩ := r; exact ⟨_, h⟩
  | raw o => exact ⟨_, r⟩
  | lkK od ts => obtain ⟨vs, h, q⟩ := r; exact ⟨_, h⟩
abbrev Mh := Addr → Option MO
def up (M : Mh) (a : Addr) (o : MO) : Mh := fun b => if b = a then some o else M b
theorem up_same {M : Mh} {a : Addr} {o : MO} : up M a o a = some o := if_pos rfl
theorem up_ne {M : Mh} {a b : Addr} {o : MO} (h : b ≠ a) : up M a o b = M b := if_neg h
theorem up_up {M : Mh} {a : Addr} {o u : MO} : up (up M a o) a u = up M a u := by
  funext b; unfold up; split <;> rfl
theorem up_comm {M : Mh} {a b : Addr} {o u : MO} (h : a ≠ b) : up (up M a o) b u = up (up M b u) a o := by
  funext c; unfold up
  by_cases h1 : c = b
  · rw [if_pos h1]
    by_cases h2 : c = a
    · exact absurd (h2.symm.trans h1) h
    · rw [if_neg h2, if_pos h1]
  · rw [if_neg h1]
    by_cases h2 : c = a
    · rw [if_pos h2, if_pos h2]
    · rw [if_neg h2, if_neg h2, if_neg h1]
theorem ne_free {M : Mh} {a b : Addr} {o : MO} (h : M a = some o) (n : M b = none) : a ≠ b := fun e => by
  rw [e, n] at h
  cases h
def Sub (M M' : Mh) : Prop := ∀ a o, M a = some o → M' a = some o
theorem Sub.refl {M : Mh} : Sub M M := fun _ _ e => e
theorem Sub.trans {M M1 M2 : Mh} (a : Sub M M1) (b : Sub M1 M2) : Sub M M2 := fun x o e => b x o (a x o e)
theorem Sub.new {M : Mh} {p : Addr} {o : MO} (n : M p = none) : Sub M (up M p o) := fun a u e => by
  rw [up_ne (ne_free e n)]
  exact e
theorem Sub.up {M M' : Mh} {p : Addr} {o : MO} (s : Sub M M') : Sub (up M p o) (up M' p o) := fun a u e => by
  by_cases h : a = p
  · rw [h, up_same] at e ⊢
    exact e
  · rw [up_ne h] at e ⊢
    exact s a u e
def RM (H : Hp) (M : Mh) : Prop := ∀ a o, M a = some o → RO H a o
section
variable {H : Hp} {M : Mh} {p : Addr} {o : HO} {mo : MO}
theorem RM.free (r : RM H M) (n : H p = none) : M p = none := by
  cases e : M p with
  | none => rfl
  | some u =>
    obtain ⟨x, h⟩ := (r p u e).some
    rw [n] at h
    cases h
theorem RM.new (r : RM H M) (n : H p = none) (ro : RO (upd H p o) p mo) : RM (upd H p o) (up M p mo) := fun a u e => by
  by_cases h : a = p
  · subst h
    rw [up_same] at e
    cases e
    exact ro
  · rw [up_ne h] at e
    exact (r a u e).mv (.new n) (upd_ne h)
theorem RM.new0 (r : RM H M) (n : H p = none) : RM (upd H p o) M := fun a u e =>
  (r a u e).mv (.new n) (upd_ne fun z => by
    rw [z, r.free n] at e
    cases e)
theorem RM.put (r : RM H M) (n : NT H p) (ro : RO (upd H p o) p mo) : RM (upd H p o) (up M p mo) := fun a u e => by
  by_cases h : a = p
  · subst h
    rw [up_same] at e
    cases e
    exact ro
  · rw [up_ne h] at e
    exact (r a u e).mv (.put n) (upd_ne h)
theorem RM.sub {M' : Mh} (r : RM H M') (s : Sub M M') : RM H M := fun a u e => r a u (s a u e)
end
abbrev Ts := List (Option T)
abbrev Vs := List (Option V)
structure RS (H : Hp) (τ : Ts) (σ : Vs) : Prop where
  len : σ.length = τ.length
  at_ : ∀ (i : Nat) (t : T), τ[i]? = some (some t) → ∃ v, σ[i]? = some (some v) ∧ Rp H t v
theorem RS.mv {H H' : Hp} {τ : Ts} {σ : Vs} (r : RS H τ σ) (t : Tups H H') : RS H' τ σ := ⟨r.len, fun i x e => let ⟨v, h, q⟩ := r.at_ i x e; ⟨v, h, q.mv t⟩⟩
theorem RS.set {H : Hp} {τ : Ts} {σ : Vs} {i : Nat} {x : T} {v : V} (r : RS H τ σ) (q : Rp H x v) : RS H (τ.set i (some x)) (σ.set i (some v)) := by
  refine ⟨by rw [List.length_set, List.length_set]; exact r.len, fun j y e => ?_⟩
  by_cases h : i = j
  · subst h
    have hl : i < τ.length := by
      have := (List.getElem?_eq_some_iff.mp e).1
      rw [List.length_set] at this
      exact this
    rw [List.getElem?_set_self hl] at e
    cases e
    exact ⟨v, List.getElem?_set_self (by rw [r.len]; exact hl), q⟩
  · rw [List.getElem?_set_ne h] at e ⊢
    exact r.at_ j y e
theorem RS.clr {H : Hp} {τ : Ts} {σ : Vs} {i : Nat} (r : RS H τ σ) : RS H (τ.set i none) (σ.set i none) := by
  refine ⟨by rw [List.length_set, List.length_set]; exact r.len, fun j y e => ?_⟩
  by_cases h : i = j
  · subst h
    have hl : i < τ.length := by
      have := (List.getElem?_eq_some_iff.mp e).1
      rw [List.length_set] at this
      exact this
    rw [List.getElem?_set_self hl] at e
    cases e
  · rw [List.getElem?_set_ne h] at e ⊢
    exact r.at_ j y e
/-! ### readings -/
abbrev K3 := T → Mh → Prop
abbrev E3 := Ts → Mh → K3 → Prop
abbrev B3 := Ts → Mh → (Bool → Mh → Prop) → Prop
abbrev A3 := Ts → Mh → (List T → Mh → Prop) → Prop
structure En where
  nx : Ts → Mh → Prop
  rt : K3
  bk : Ts → Mh → Prop := fun _ _ => False
  ct : Ts → Mh → Prop := fun _ _ => False
abbrev S3 := En → Ts → Mh → Prop
/-- a value's continuation is met -/
def KR (H : Hp) (R : K3) (Q : VK) : Prop := ∀ v H' tv M', Tups H H' → Rp H' tv v → RM H' M' → R tv M' → Q v H'
theorem KR.mv {H H' : Hp} {R : K3} {Q : VK} (k : KR H R Q) (t : Tups H H') : KR H' R Q := fun v H2 tv M2 t2 a b c => k v H2 tv M2 (t.trans t2) a b c
theorem KR.at {H : Hp} {R : K3} {Q : VK} {v : V} {tv : T} {M : Mh} (k : KR H R Q) (r : Rp H tv v) (m : RM H M) (q : R tv M) : Q v H := k v H tv M .refl r m q
def SE (H0 : Hp) (m : E3) (t : TE) : Prop := ∀ τ M R σ H Q, m τ M R → Tups H0 H → RS H τ σ → RM H M → KR H R Q → t σ H Q
def SB (H0 : Hp) (m : B3) (t : TT) : Prop := ∀ τ M (R : Bool → Mh → Prop) σ H (Q : Bool → Hp → Prop), m τ M R → Tups H0 H → RS H τ σ → RM H M → (∀ b H' M', Tups H H' → RM H' M' → R b M' → Q b H') → t σ H Q
def SA (H0 : Hp) (n : Nat) (m : A3) (t : TA) : Prop := ∀ τ M (R : List T → Mh → Prop) σ H (Q : List V → Hp → Prop), m τ M R → Tups H0 H → RS H τ σ → RM H M → (∀ vs H' ts M', ts.length = n → Tups H H' → Rps H' ts vs → RM H' M' → R ts M' → Q vs H') → t σ H Q
structure ER (H0 : Hp) (D3 : En) (D : Ends) : Prop where
  nx : ∀ σ H τ M, Tups H0 H → RS H τ σ → RM H M → D3.nx τ M → D.nx σ H
  rt : ∀ v H tv M, Tups H0 H → Rp H tv v → RM H M → D3.rt tv M → D.rt v H
  bk : ∀ σ H τ M, Tups H0 H → RS H τ σ → RM H M → D3.bk τ M → D.bk σ H
  ct : ∀ σ H τ M, Tups H0 H → RS H τ σ → RM H M → D3.ct τ M → D.ct σ H
theorem ER.mv {H H' : Hp} {D3 : En} {D : Ends} (k : ER H D3 D) (t : Tups H H') : ER H' D3 D := ⟨fun σ H2 τ M t2 => k.nx σ H2 τ M (t.trans t2), fun v H2 tv M t2 => k.rt v H2 tv M (t.trans t2), fun σ H2 τ M t2 => k.bk σ H2 τ M (t.trans t2), fun σ H2 τ M t2 => k.ct σ H2 τ M (t.trans t2)⟩
def SS (H0 : Hp) (m : S3) (t : TS) : Prop := ∀ D3 D τ M σ H, m D3 τ M → Tups H0 H → RS H τ σ → RM H M → ER H D3 D → t D σ H
structure LE (X : Cx) (H0 : Hp) (e : Expr) (m : E3) : Prop where
  ex : ∃ t, PE X e t ∧ SE H0 m t
structure LT (X : Cx) (H0 : Hp) (e : Expr) (m : B3) : Prop where
  ex : ∃ t, PT X e t ∧ SB H0 m t
structure LW (X : Cx) (H0 : Hp) (e : Expr) (m : B3) : Prop where
  ex : ∃ t, PW X e t ∧ SB H0 m t
structure LA (X : Cx) (H0 : Hp) (es : List Expr) (m : A3) : Prop where
  ex : ∃ t, PA X es t ∧ SA H0 es.length m t
structure LS (X : Cx) (H0 : Hp) (s : Stmt) (m : S3) : Prop where
  ex : ∃ t, PS X s t ∧ SS H0 m t
structure LSs (X : Cx) (H0 : Hp) (s : List Stmt) (m : S3) : Prop where
  ex : ∃ t, PSs X s t ∧ SS H0 m t
section
variable {X : Cx} {H0 : Hp} {a b e : Expr} {es : List Expr} {pos : Pos} {ma mb m : E3}
/-! ### names, constants -/
def eVar (i : Nat) : E3 := fun τ M R => match τ[i]? with
  | some (some t) => R t M
  | _ => False
def eC (t : T) : E3 := fun _ M R => R t M
theorem se_var (i : Nat) : SE H0 (eVar i) (tVar i) := fun τ M R σ H Q h _ rs rm k => by
  unfold eVar at h
  split at h
  · rename_i t e
    obtain ⟨v, hv, q⟩ := rs.at_ i t e
    exact ⟨v, hv, k.at q rm h⟩
  · exact h.elim
theorem se_c {t : T} {v : V} (r : ∀ H, Rp H t v) : SE H0 (eC t) (tC v) := fun τ M R σ H Q h _ rs rm k => k.at (r H) rm h
theorem le_of {m : E3} {t : TE} (p : PE X e t) (s : SE H0 m t) : LE X H0 e m := ⟨t, p, s⟩
theorem lv (i : Nat) {x : Str} (hN : X.N[i]? = some x := by rfl) (hv : Vis X.env.scope x := by first | exact Or.inl rfl | exact Or.inr (Or.inl rfl) | exact Or.inr (Or.inr rfl)) (hd : (x == ("__debug__" : Str)) = false := by decide) (hcd : (x == ("__classdict__" : Str)) = false := by decide) : LE X H0 (.Name x pos) (eVar i) := ⟨_, pe_var hN hv hd hcd, se_var i⟩
theorem le_int {i : Int} {j} : LE X H0 (.Constant (.int i) j pos) (eC (.int i)) := ⟨_, pe_int, se_c fun _ => .int i⟩
theorem le_bl {b : Bool} {j} : LE X H0 (.Constant (.bool b) j pos) (eC (.bl b)) := ⟨_, pe_bl, se_c fun _ => .bl b⟩
theorem le_non {j} : LE X H0 (.Constant .none j pos) (eC .non) := ⟨_, pe_non, se_c fun _ => .non⟩
theorem le_str {x : Str} {j} : LE X H0 (.Constant (.str x) j pos) (eC (.str x)) := ⟨_, pe_str, se_c fun _ => .str x⟩
theorem le_gint {x : Str} {i : Int} {tk : Tok} (hg : Gl X x) (hm : X.mg x = some (.int i tk)) (hd : (x == ("__debug__" : Str)) = false := by decide) : LE X H0 (.Name x pos) (eC (.int i)) := ⟨_, pe_glob (v := .int i) hg hm ⟨tk, rfl⟩ hd, se_c fun _ => .int i⟩
theorem le_gref {x : Str} {c : Addr} (hg : Gl X x) (hm : X.mg x = some (.ref c)) (hd : (x == ("__debug__" : Str)) = false := by decide) : LE X H0 (.Name x pos) (eC (.ref c)) := ⟨_, pe_glob (v := .ref c) hg hm rfl hd, se_c fun _ => .ref c⟩
theorem le_ty {x : Str} {n : String} (hg : Gl X x) (hm : X.mg x = none) (hv : bootBuiltins x = some (.type n)) (hn : x ≠ "__name__" := by decide) (hd : (x == ("__debug__" : Str)) = false := by decide) : LE X H0 (.Name x pos) (eC (.ty n)) := ⟨_, pe_bltn (v := .ty n) hg hm hv rfl hn hd, se_c fun _ => .ty n⟩
/-! ### operators -/
abbrev O3 := T → T → Mh → K3 → Prop
def SO (r : R2) (o : O3) : Prop := ∀ x y tx ty H M R Q, o tx ty M R → Rp H tx x → Rp H ty y → RM H M → KR H R Q → r x y H Q
def eOp (o : O3) (ma mb : E3) : E3 := fun τ M R => ma τ M fun x M1 => mb τ M1 fun y M2 => o x y M2 R
theorem se_op {r : R2} {o : O3} {ta tb : TE} (so : SO r o) (sa : SE H0 ma ta) (sb : SE H0 mb tb) : SE H0 (eOp o ma mb) (tOp r ta tb) := fun τ M R σ H Q h t rs rm k =>
  sa τ M _ σ H _ h t rs rm fun x H1 tx M1 t1 rx rm1 h1 => sb τ M1 _ σ H1 _ h1 (t.trans t1) (rs.mv t1) rm1 fun y H2 ty M2 t2 ry rm2 h2 =>
    so x y tx ty H2 M2 R Q h2 (rx.mv t2) ry rm2 (k.mv (t1.trans t2))
theorem le_op {op : Operator} {r : R2} {o : O3} (ho : OpR X (binaryOp op) r) (so : SO r o) (ha : LE X H0 a ma) (hb : LE X H0 b mb) : LE X H0 (.BinOp a op b pos) (eOp o ma mb) :=
  let ⟨_, pa, sa⟩ := ha.ex
  let ⟨_, pb, sb⟩ := hb.ex
  ⟨_, pe_op ho pa pb, se_op so sa sb⟩
theorem le_cmp {op : CmpOp} {r : R2} {o : O3} (ho : OpR X (compareOp op) r) (so : SO r o) (ha : LE X H0 a ma) (hb : LE X H0 b mb) (hm : behindInMarks op b = false := by first | exact nobehind _ (by decide) (by decide) | rfl) : LE X H0 (.Compare a [op] [b] pos) (eOp o ma mb) :=
  let ⟨_, pa, sa⟩ := ha.ex
  let ⟨_, pb, sb⟩ := hb.ex
  ⟨_, pe_cmpR ho pa pb hm, se_op so sa sb⟩
theorem le_ix {r : R2} {o : O3} (ho : IxR X r) (so : SO r o) (ha : LE X H0 a ma) (hb : LE X H0 b mb) (hs : PlainIx b := by exact fun _ _ => rfl) : LE X H0 (.Subscript a b pos) (eOp o ma mb) :=
  let ⟨_, pa, sa⟩ := ha.ex
  let ⟨_, pb, sb⟩ := hb.ex
  ⟨_, pe_ix ho pa pb hs, se_op so sa sb⟩
abbrev U3 := T → Mh → K3 → Prop
def SU (r : V → Hp → VK → Prop) (o : U3) : Prop := ∀ x tx H M R Q, o tx M R → Rp H tx x → RM H M → KR H R Q → r x H Q
def eUn (o : U3) (ma : E3) : E3 := fun τ M R => ma τ M fun x M1 => o x M1 R
theorem le_un {op : UnaryOp} {r : V → Hp → VK → Prop} {o : U3} (ho : UnR X (unaryOp op) r) (so : SU r o) (ha : LE X H0 a ma) : LE X H0 (.UnaryOp op a pos) (eUn o ma) :=
  let ⟨_, pa, sa⟩ := ha.ex
  ⟨_, pe_un ho pa, fun τ M R σ H Q h t rs rm k => sa τ M _ σ H _ h t rs rm fun x H1 tx M1 t1 rx rm1 h1 => so x tx H1 M1 R Q h1 rx rm1 (k.mv t1)⟩
/-! ### tests -/
def bV (m : E3) : B3 := fun τ M R => m τ M fun x M1 => match x with
  | .bl b => R b M1
  | _ => False
theorem sb_val {t : TE} (s : SE H0 m t) : SB H0 (bV m) (tB t) := fun τ M R σ H Q h t rs rm k => s τ M _ σ H _ h t rs rm fun x H1 tx M1 t1 rx rm1 h1 => by
  cases tx with
  | bl b =>
    cases rx
    exact ⟨b, rfl, k b H1 M1 t1 rm1 h1⟩
  | _ => exact h1.elim
theorem lt_val (h : LE X H0 e m) (he : ∀ whole, isTrue e X.env whole = (do let v ← whole; standAt e.pos; holding [v] (truthy v)) := by intro _; rfl) : LT X H0 e (bV m) :=
  let ⟨_, p, s⟩ := h.ex
  ⟨_, pt_val p he, sb_val s⟩
theorem lt_cmp {op : CmpOp} {r : R2} {o : O3} (ho : OpR X (compareOp op) r) (so : SO r o) (ha : LE X H0 a ma) (hb : LE X H0 b mb) (hm : behindInMarks op b = false := by first | exact nobehind _ (by decide) (by decide) | rfl) : LT X H0 (.Compare a [op] [b] pos) (bV (eOp o ma mb)) :=
  let ⟨_, pa, sa⟩ := ha.ex
  let ⟨_, pb, sb⟩ := hb.ex
  ⟨_, pt_cmpR ho pa pb hm, sb_val (se_op so sa sb)⟩
variable {mA mB : B3} {rest : List Expr}
def bAnd (t u : B3) : B3 := fun τ M R => t τ M fun c M1 => match c with
  | true => u τ M1 R
  | false => R false M1
def bOr (t u : B3) : B3 := fun τ M R => t τ M fun c M1 => match c with
  | true => R true M1
  | false => u τ M1 R
def bNot (t : B3) : B3 := fun τ M R => t τ M fun c M1 => R (!c) M1
theorem sb_and {tA tB' : TT} (sa : SB H0 mA tA) (sb : SB H0 mB tB') : SB H0 (bAnd mA mB) (tAnd tA tB') := fun τ M R σ H Q h t rs rm k => sa τ M _ σ H _ h t rs rm fun c H1 M1 t1 rm1 h1 => by
  cases c with
  | true =>
    rw [if_pos rfl]
    exact sb τ M1 _ σ H1 _ h1 (t.trans t1) (rs.mv t1) rm1 fun b H2 M2 t2 rm2 h2 => k b H2 M2 (t1.trans t2) rm2 h2
  | false =>
    rw [if_neg (by decide)]
    exact k false H1 M1 t1 rm1 h1
theorem sb_or {tA tB' : TT} (sa : SB H0 mA tA) (sb : SB H0 mB tB') : SB H0 (bOr mA mB) (tOr tA tB') := fun τ M R σ H Q h t rs rm k => sa τ M _ σ H _ h t rs rm fun c H1 M1 t1 rm1 h1 => by
  cases c with
  | true =>
    rw [if_pos rfl]
    exact k true H1 M1 t1 rm1 h1
  | false =>
    rw [if_neg (by decide)]
    exact sb τ M1 _ σ H1 _ h1 (t.trans t1) (rs.mv t1) rm1 fun b H2 M2 t2 rm2 h2 => k b H2 M2 (t1.trans t2) rm2 h2
theorem lw_and1 (ha : LT X H0 a mA) : LW X H0 (.BoolOp .And [a] pos) mA := let ⟨_, p, s⟩ := ha.ex; ⟨_, pw_and1 p, s⟩
theorem lw_or1 (ha : LT X H0 a mA) : LW X H0 (.BoolOp .Or [a] pos) mA := let ⟨_, p, s⟩ := ha.ex; ⟨_, pw_or1 p, s⟩
theorem lw_and (ha : LT X H0 a mA) (hb : LW X H0 (.BoolOp .And (b :: rest) pos) mB) : LW X H0 (.BoolOp .And (a :: b :: rest) pos) (bAnd mA mB) :=
  let ⟨_, pa, sa⟩ := ha.ex
  let ⟨_, pb, sb⟩ := hb.ex
  ⟨_, pw_and pa pb, sb_and sa sb⟩
theorem lw_or (ha : LT X H0 a mA) (hb : LW X H0 (.BoolOp .Or (b :: rest) pos) mB) : LW X H0 (.BoolOp .Or (a :: b :: rest) pos) (bOr mA mB) :=
  let ⟨_, pa, sa⟩ := ha.ex
  let ⟨_, pb, sb⟩ := hb.ex
  ⟨_, pw_or pa pb, sb_or sa sb⟩
theorem lt_w (h : LW X H0 e mA) : LT X H0 e mA := let ⟨_, p, s⟩ := h.ex; ⟨_, p.pt, s⟩
theorem lt_not (h : LT X H0 a mA) : LT X H0 (.UnaryOp .Not a pos) (bNot mA) := let ⟨_, p, s⟩ := h.ex; ⟨_, pt_not p, fun τ M R σ H Q h t rs rm k => s τ M _ σ H _ h t rs rm fun c H1 M1 t1 rm1 h1 => k (!c) H1 M1 t1 rm1 h1⟩
/-! ### and, or, not as values (of truths), x if c else y -/
def eAnd (ma mb : E3) : E3 := fun τ M R => ma τ M fun x M1 => match x with
  | .bl true => mb τ M1 R
  | .bl false => R (.bl false) M1
  | _ => False
def eOr (ma mb : E3) : E3 := fun τ M R => ma τ M fun x M1 => match x with
  | .bl true => R (.bl true) M1
  | .bl false => mb τ M1 R
  | _ => False
def eNot (ma : E3) : E3 := fun τ M R => ma τ M fun x M1 => match x with
  | .bl c => R (.bl (!c)) M1
  | _ => False
theorem le_one {op} (h : LE X H0 a ma) : LE X H0 (.BoolOp op [a] pos) ma := let ⟨_, p, s⟩ := h.ex; ⟨_, pe_one p, s⟩
theorem le_and (ha : LE X H0 a ma) (hb : LE X H0 (.BoolOp .And (b :: rest) pos) mb) : LE X H0 (.BoolOp .And (a :: b :: rest) pos) (eAnd ma mb) := by
  obtain ⟨_, pa, sa⟩ := ha.ex
  obtain ⟨_, pb, sb⟩ := hb.ex
  refine ⟨_, pe_and pa pb, fun τ M R σ H Q h t rs rm k => sa τ M _ σ H _ h t rs rm fun x H1 tx M1 t1 rx rm1 h1 => ?_⟩
  cases tx with
  | bl c =>
    cases rx
    refine ⟨c, rfl, ?_⟩
    cases c with
    | true =>
      rw [if_pos rfl]
      exact sb τ M1 _ σ H1 _ h1 (t.trans t1) (rs.mv t1) rm1 (k.mv t1)
    | false =>
      rw [if_neg (by decide)]
      exact (k.mv t1).at (.bl _) rm1 h1
  | _ => exact h1.elim
theorem le_or (ha : LE X H0 a ma) (hb : LE X H0 (.BoolOp .Or (b :: rest) pos) mb) : LE X H0 (.BoolOp .Or (a :: b :: rest) pos) (eOr ma mb) := by
  obtain ⟨_, pa, sa⟩ := ha.ex
  obtain ⟨_, pb, sb⟩ := hb.ex
  refine ⟨_, pe_or pa pb, fun τ M R σ H Q h t rs rm k => sa τ M _ σ H _ h t rs rm fun x H1 tx M1 t1 rx rm1 h1 => ?_⟩
  cases tx with
  | bl c =>
    cases rx
    refine ⟨c, rfl, ?_⟩
    cases c with
    | true =>
      rw [if_pos rfl]
      exact (k.mv t1).at (.bl _) rm1 h1
    | false =>
      rw [if_neg (by decide)]
      exact sb τ M1 _ σ H1 _ h1 (t.trans t1) (rs.mv t1) rm1 (k.mv t1)
  | _ => exact h1.elim
theorem le_not (ha : LE X H0 a ma) : LE X H0 (.UnaryOp .Not a pos) (eNot ma) := by
  obtain ⟨_, pa, sa⟩ := ha.ex
  refine ⟨_, pe_not pa, fun τ M R σ H Q h t rs rm k => sa τ M _ σ H _ h t rs rm fun x H1 tx M1 t1 rx rm1 h1 => ?_⟩
  cases tx with
  | bl c =>
    cases rx
    exact ⟨c, rfl, (k.mv t1).at (.bl _) rm1 h1⟩
  | _ => exact h1.elim
def eIf (t : B3) (ma mb : E3) : E3 := fun τ M R => t τ M fun c M1 => match c with
  | true => ma τ M1 R
  | false => mb τ M1 R
theorem le_if {c : Expr} (hc : LT X H0 c mA) (ha : LE X H0 a ma) (hb : LE X H0 b mb) : LE X H0 (.IfExp c a b pos) (eIf mA ma mb) := by
  obtain ⟨_, pc, sc⟩ := hc.ex
  obtain ⟨_, pa, sa⟩ := ha.ex
  obtain ⟨_, pb, sb⟩ := hb.ex
  refine ⟨_, pe_ifExp pc pa pb, fun τ M R σ H Q h t rs rm k => sc τ M _ σ H _ h t rs rm fun c H1 M1 t1 rm1 h1 => ?_⟩
  cases c with
  | true =>
    rw [if_pos rfl]
    exact sa τ M1 _ σ H1 _ h1 (t.trans t1) (rs.mv t1) rm1 (k.mv t1)
  | false =>
    rw [if_neg (by decide)]
    exact sb τ M1 _ σ H1 _ h1 (t.trans t1) (rs.mv t1) rm1 (k.mv t1)
/-! ### argument lists, displays -/
def aNil : A3 := fun _ M R => R [] M
def aCons (ma : E3) (mr : A3) : A3 := fun τ M R => ma τ M fun x M1 => mr τ M1 fun xs M2 => R (x :: xs) M2
theorem la_nil : LA X H0 [] aNil := ⟨_, pa_nil, fun τ M R σ H Q h t rs rm k => k [] H [] M rfl .refl .nil rm h⟩
theorem la_cons {mr : A3} (ha : LE X H0 e m) (hr : LA X H0 es mr) (hs : starEach (e :: es) X.env = (false, eval e X.env) :: starEach es X.env := by rfl) : LA X H0 (e :: es) (aCons m mr) :=
  let ⟨_, pa, sa⟩ := ha.ex
  let ⟨_, pb, sb⟩ := hr.ex
  ⟨_, pa_cons pa pb hs, fun τ M R σ H Q h t rs rm k => sa τ M _ σ H _ h t rs rm fun x H1 tx M1 t1 rx rm1 h1 => sb τ M1 _ σ H1 _ h1 (t.trans t1) (rs.mv t1) rm1 fun vs H2 ts M2 l t2 rv rm2 h2 => k _ H2 _ M2 (by rw [List.length_cons, l]; rfl) (t1.trans t2) (.cons (rx.mv t2) rv) rm2 h2⟩
def eTup (m : A3) : E3 := fun τ M R => m τ M fun ts M1 => R (.tup ts) M1
def eLst (m : A3) : E3 := fun τ M R => m τ M fun ts M1 => ∀ p, M1 p = none → R (.ref p) (up M1 p (.lst ts))
theorem le_tup {mA : A3} {x1} (h : LA X H0 es mA) (hl : es.length ≤ sizeLine := by decide) : LE X H0 (.Tuple es x1 pos) (eTup mA) :=
  let ⟨_, p, s⟩ := h.ex
  ⟨_, pe_tup p, fun τ M R σ H Q h t rs rm k => s τ M _ σ H _ h t rs rm fun vs H1 ts M1 l t1 rv rm1 h1 => ⟨by rw [rv.len, l]; exact hl, fun p np => k _ _ (.tup ts) M1 (t1.trans (.new np)) (.tup upd_same (rv.mv (.new np))) (rm1.new0 np) h1⟩⟩
theorem le_lst {mA : A3} (h : LA X H0 es mA) (hl : es.length ≤ sizeLine := by decide) : LE X H0 (.List es pos) (eLst mA) :=
  let ⟨_, p, s⟩ := h.ex
  ⟨_, pe_lst p, fun τ M R σ H Q h t rs rm k => s τ M _ σ H _ h t rs rm fun vs H1 ts M1 l t1 rv rm1 h1 => ⟨by rw [rv.len, l]; exact hl, fun p np => k _ _ (.ref p) _ (t1.trans (.new np)) (.ref p) (rm1.new (mo := .lst ts) np ⟨vs, upd_same, rv.mv (.new np)⟩) (h1 p (rm1.free np))⟩⟩
/-! ### calls of builtins -/
abbrev C3 := List T → Mh → K3 → Prop
def SC (r : List V → Hp → VK → Prop) (c : C3) : Prop := ∀ vs ts H M R Q, c ts M R → Rps H ts vs → RM H M → KR H R Q → r vs H Q
def eCB (c : C3) (m : A3) : E3 := fun τ M R => m τ M fun ts M1 => c ts M1 R
theorem se_cb {r : List V → Hp → VK → Prop} {c : C3} {mA : A3} {t : TA} {n : Nat} (sc : SC r c) (s : SA H0 n mA t) : SE H0 (eCB c mA) (tCB r t) := fun τ M R σ H Q h t rs rm k => s τ M _ σ H _ h t rs rm fun vs H1 ts M1 l t1 rv rm1 h1 => sc vs ts H1 M1 R Q h1 rv rm1 (k.mv t1)
theorem le_cB {r : List V → Hp → VK → Prop} {c : C3} {mA : A3} {id : String} {x : Str} {p : Pos} (hc : CallR X (.builtin id) r) (sc : SC r c) (hg : Gl X x) (hm : X.mg x = none) (hv : bootBuiltins x = some (.builtin id)) (ha : LA X H0 (e :: es) mA) (hn : x ≠ "__name__" := by decide) (hdb : (x == ("__debug__" : Str)) = false := by decide)
    (he : starEach (e :: es) X.env = (false, eval e X.env) :: starEach es X.env := by rfl) (hpl : (backTo pos (starEach es X.env)).any (·.1) = false := by rfl) : LE X H0 (.Call (.Name x p) (e :: es) [] pos) (eCB c mA) :=
  let ⟨_, pa, sa⟩ := ha.ex
  ⟨_, pe_callB hc hg hm hv pa hn hdb he hpl, se_cb sc sa⟩
theorem le_cT {r : List V → Hp → VK → Prop} {c : C3} {mA : A3} {id : String} {x : Str} {p : Pos} (hc : CallR X (.type id) r) (sc : SC r c) (hg : Gl X x) (hm : X.mg x = none) (hv : bootBuiltins x = some (.type id)) (ha : LA X H0 (e :: es) mA) (hn : x ≠ "__name__" := by decide) (hdb : (x == ("__debug__" : Str)) = false := by decide)
    (he : starEach (e :: es) X.env = (false, eval e X.env) :: starEach es X.env := by rfl) (hpl : (backTo pos (starEach es X.env)).any (·.1) = false := by rfl) : LE X H0 (.Call (.Name x p) (e :: es) [] pos) (eCB c mA) :=
  let ⟨_, pa, sa⟩ := ha.ex
  ⟨_, pe_callTy hc hg hm hv pa hn hdb he hpl, se_cb sc sa⟩
end
end L3
set_option Elab.async false
set_option linter.all false
set_option maxRecDepth 100000
set_option maxHeartbeats 2000000
/-! for i, x in enumerate(t), t a tuple -/
namespace G
open PySem PySem.Spec PyProof.Rows L2
theorem meets_enum1 {v : Value} {o : Obj} {W : Heap → Prop} (B : Begins v o W) :
    Meets (Builtin.«enumerate.__new__» ⟨[.type "enumerate", v], []⟩) (fun _ R s => W s.heap ∧ R (.ok (.ret (.ref (s.heap.push o).objs.size))) { s with heap := (s.heap.push o).push { cls := .type "enumerate", data := .fields #[.none, .bool false, .ref s.heap.objs.size, rawInt 0, .none, .none] } }) :=
  .of_wp fun prog w A R s h => by
    obtain ⟨hp, g, d, tk, os⟩ := s
    obtain ⟨h1, h⟩ := h
    have hs0 := sub_enumerate
    have begun : ∀ {A' : Around} {E : Value → Shared → Prop} {Q : Value → Shared → Prop}, Q (.ref hp.objs.size) ⟨hp.push o, g, d, tk, os⟩ → wpAny (model prog w) A' (pyIter v) Q E ⟨hp, g, d, tk, os⟩ := fun q => B.iter prog w _ _ ⟨hp, g, d, tk, os⟩ _ h1 q
    wp_walk using begun
    refine wpAny_stack_any fun st => wpAny_pure ?_
    split
    · rename_i c _ _ _ _ _
      cases (c == Value.type "enumerate") <;> (wp_walk using begun; exact ⟨_, rfl, h⟩)
    · wp_walk using begun
      exact ⟨_, rfl, h⟩
theorem enum1 {prog : Program} {w : World} {A : Around} {E : Value → Shared → Prop} {s : Shared} {v : Value} {o : Obj} {W : Heap → Prop} {Q : Value → Shared → Prop} (B : Begins v o W) (h1 : W s.heap)
    (h : ∀ h', IsEnum h' (s.heap.objs.size + 1) s.heap.objs.size 0 .none → h'.get? s.heap.objs.size = some o → (∀ b o, s.heap.get? b = some o → h'.get? b = some o) → Q (.ref (s.heap.objs.size + 1)) { s with heap := h' }) : wpAny (model prog w) A (call (.type "enumerate") [v]) Q E s := by
  refine callType_new F.called_enumerate (by decide) (F.typeCall_enumerate_1 _) (F.newCall_enumerate_1 _) (fun obj => F.args_object_init_2 obj _) F.entry_enumerate_new (meets_enum1 B) ⟨h1, ?_⟩
  have hz : (s.heap.push o).objs.size = s.heap.objs.size + 1 := Heap.size_push ..
  show _ ∧ _
  rw [hz]
  have he : IsEnum ((s.heap.push o).push { cls := .type "enumerate", data := .fields #[.none, .bool false, .ref s.heap.objs.size, rawInt 0, .none, .none] }) (s.heap.objs.size + 1) s.heap.objs.size 0 .none := by
    have z := Heap.get?_push_size (s.heap.push o) (o := { cls := .type "enumerate", data := .fields #[.none, .bool false, .ref s.heap.objs.size, rawInt 0, .none, .none] }) rfl
    rw [hz] at z
    exact z
  exact ⟨⟨_, he, rfl⟩, h _ he (Heap.get?_push_of_some _ (Heap.get?_push_size _ B.free)) fun b o x => Heap.get?_push_of_some _ (Heap.get?_push_of_some _ x)⟩
def IteT (K : PySem.W.Frag) (a : Addr) : It :=
  ⟨fun i H => ∃ (xs : List V) (x : V), SqT K H a xs ∧ xs[i]? = some x, fun i H v H' => ∃ T x, v = .ref T ∧ H T = none ∧ H' = upd H T (.tup [.int (i : Nat), x]) ∧ ∀ xs, SqT K H a xs → xs[i]? = some x, fun i H => ∃ xs : List V, SqT K H a xs ∧ xs.length ≤ i⟩
theorem turn_enumT {P : Program} {w : World} {K : PySem.W.Frag} {elts : List Expr} {kk : Nat} {tpos : Pos} (a e it : Addr) :
    Turn P w K (.Tuple elts kk tpos) (IteT K a) [e, it] e (fun i h => (∃ old, IsEnum h e it ((i : Nat) : Int) old) ∧ h.IsTupleIter it a i ∧ e ≠ it ∧ e ≠ a ∧ a ≠ it) where
  mem := by simp
  obj := fun i h st b hb => by
    obtain ⟨⟨old, he⟩, ⟨o, ho, hc, hd⟩, _⟩ := st
    rcases (show b = e ∨ b = it by simpa using hb) with z | z
    · rw [z]
      exact ⟨_, he, fun v q => nomatch q⟩
    · rw [z]
      exact ⟨o, ho, fun v q => by rw [hd] at q; cases q⟩
  keep := fun i h h' st k => let ⟨⟨old, he⟩, hi, hne⟩ := st; ⟨⟨old, k e (by simp) _ he⟩, hi.at fun o q => k it (by simp) o q, hne⟩
  item := by
    intro X hP hw hK hc i pins s σ H E I hf st hg
    subst hP hw hK
    obtain ⟨⟨old, he⟩, hit, hne, hea, hai⟩ := st
    obtain ⟨xs, x, hq, hx⟩ := hg
    obtain ⟨its, rv, p, hz⟩ := I.tuple hq
    obtain ⟨u, hu, ru⟩ := rv.get hx
    have hil : it < s.heap.objs.size := by
      obtain ⟨_, q, _⟩ := hit
      exact Heap.lt_size q
    have hel : e < s.heap.objs.size := Heap.lt_size he
    have hlt : i < its.toArray.size := by
      rw [List.size_toArray]
      exact (List.getElem?_eq_some_iff.mp hu).1
    refine wpAny_pyNext_enum_itemD (Draws.tuple (A := X.A.in1) (show X.A.in1.handled = none from I.ok.hd hc) it a hai its.toArray) he ⟨hit, p⟩ hlt hne (by simp [hne, hea]) fun y h' tk hy ho st' hT hsz hk => ?_
    have ey : y = u := by
      have z : its.toArray[i]? = some u := by simpa using hu
      rw [z] at hy
      exact (Option.some.inj hy).symm
    subst ey
    refine ⟨_, rfl, wpAny_letOwnedTupleGo_enum (s := { s with heap := h', toks := tk + 1 }) ho fun h'' he' sb => ?_⟩
    have hT2 : h''.get? s.heap.objs.size = some { cls := .type "tuple", data := .seq #[.int i tk, y] } := (sb.2 _ (Nat.ne_of_gt hel)).trans hT
    have new : ObjOk X.prog X.w (upd H s.heap.objs.size (.tup [.int (i : Nat), x])) h'' s.heap.objs.size (.tup [.int (i : Nat), x]) := ⟨by show 2 ≤ sizeLine; decide, [.int i tk, y], .cons ⟨_, rfl⟩ (.cons ru .nil), ⟨_, hT2, rfl, _, rfl⟩⟩
    have J : Inv X pins σ (upd H s.heap.objs.size (.tup [.int (i : Nat), x])) { s with heap := h'', toks := tk + 1 } :=
      I.turnedNew (ch := [e, it]) (fun b ob hb q => (sb.2 b (fun z => hb (by simp [z]))).trans (hk b ob (fun z => hb (by simp [z])) (fun z => hb (by simp [z])) q)) hf (Nat.le_refl _) new
    refine ⟨.ref s.heap.objs.size, _, J, rfl, ⟨_, x, rfl, I.hok.fresh (Nat.le_refl _), rfl, fun ys hy => ?_⟩, ⟨⟨y, ?_⟩, st'.1.at fun o q => (sb.2 it (Ne.symm hne)).trans q, hne, hea, hai⟩, fun b hb => ?_⟩
    · rw [I.tuple_inj hy hq]
      exact hx
    · rw [show ((i + 1 : Nat) : Int) = (i : Int) + 1 by omega]
      exact he'
    · have hb' : b < s.heap.objs.size := by
        rcases (show b = e ∨ b = it by simpa using hb) with z | z
        · rw [z]; exact hel
        · rw [z]; exact hil
      rw [upd_ne (Nat.ne_of_lt hb')]
      exact (hf b hb).1
  done := by
    intro X hP hw hK hc i pins s σ H E I hf st hg
    subst hP hw hK
    obtain ⟨⟨old, he⟩, hit, hne, hea, hai⟩ := st
    obtain ⟨xs, hq, hx⟩ := hg
    obtain ⟨its, rv, p, hz⟩ := I.tuple hq
    obtain ⟨f0, f1, f2, f3, f4, f5⟩ := hf it (by simp)
    have hl := rv.length
    have hn : its.toArray[i]? = none := by
      have z : its[i]? = none := List.getElem?_eq_none_iff.mpr (by omega)
      simpa using z
    have hh : X.A.in1.handled = none := I.ok.hd hc
    have D : Draws X.prog X.w X.A.in1 it [it, a] i (fun _ _ => True) (fun k h => k = i ∧ h.IsTupleIter it a i ∧ h.IsTuple a its.toArray) :=
      { live := fun _ _ st => let ⟨o, ho, _⟩ := st.2.1; ⟨o, ho⟩
        frame := fun _ _ _ st hk => ⟨st.1, st.2.1.at fun o e => hk it (by simp) o e, st.2.2.at fun o e => hk a (by simp) o e⟩
        item := fun k s Q E hk st _ => absurd st.1 (by omega)
        done := fun s Q E st hE => wpAny_nextOf_tuple_end hh st.2.1 st.2.2 hn hE }
    exact wpAny_pyNext_enum_endD D he ⟨rfl, hit, p⟩ fun h' eb => ⟨rfl, I.turned (t' := s.toks) (fun b o hb q => eb b o hb q) f0 f1 f3 f4 f5⟩
  self := fun A i s Q E st h => let ⟨⟨_, he⟩, _⟩ := st; wpAny_pyIter_enum he h
def iEnumT (K : PySem.W.Frag) (ta : TA) : TI := fun σ H R => ta σ H fun vs H1 => ∃ a xs, vs = [.ref a] ∧ SqT K H1 a xs ∧ R (IteT K a) H1
theorem pi_enumT {X : Cx} {e : Expr} {ta : TA} {p pos tpos : Pos} {elts : List Expr} {kk : Nat} (hg : Gl X "enumerate") (hm : X.mg "enumerate" = none) (ha : PA X [e] ta) (hs : starEach [e] X.env = [(false, eval e X.env)] := by rfl) : PI X (.Tuple elts kk tpos) (.Call (.Name "enumerate" p) [e] [] pos) (iEnumT X.K ta) := by
  refine ⟨fun pins s σ H R I h => Call_ (ld_blt I hg hm boot_enumerate (PyProof.Rows.callWith_type1 (thn (ha.run pos pins s σ H _ I h) fun us s1 ⟨vs, H1, I1, r1, q1⟩ => ?_) hs rfl))⟩
  obtain ⟨a, xs, rfl, hq, q⟩ := q1
  obtain ⟨u, rfl, ru⟩ := vals1 r1
  cases ru
  obtain ⟨its, rv, pt, hz⟩ := I1.tuple hq
  have hal : a < s1.heap.objs.size := pt.lt
  refine enum1 (begins_tuple a its.toArray) pt fun h' he hit hk => wpAny_pyIter_enum he ?_
  have I2 : Inv X pins σ H1 { s1 with heap := h' } := I1.kept (t' := s1.toks) hk
  refine ⟨s1.heap.objs.size + 1, [s1.heap.objs.size + 1, s1.heap.objs.size], _, _, H1, rfl, I2, turn_enumT a (s1.heap.objs.size + 1) s1.heap.objs.size, ⟨⟨.none, he⟩, ⟨_, hit, rfl, rfl⟩, Nat.succ_ne_self _, Nat.ne_of_gt (Nat.lt_succ_of_lt hal), Nat.ne_of_lt hal⟩, fun b hb => ?_, q⟩
  have hle : s1.heap.objs.size ≤ b := by
    rcases (show b = s1.heap.objs.size + 1 ∨ b = s1.heap.objs.size by simpa using hb) with z | z
    · rw [z]; exact Nat.le_add_right _ _
    · rw [z]; exact Nat.le_refl _
  exact I1.fpOk hle (I1.hok.fresh hle)
theorem walk_enumT {K : PySem.W.Frag} {a : Addr} {xs : List V} : Walk (IteT K a) xs.length (fun H => SqT K H a xs) (YPair (fun i => some (.int (i : Nat))) (fun i => xs[i]?)) :=
  ⟨fun i H hi q => ⟨xs, xs[i], q, List.getElem?_eq_getElem hi⟩, fun H q => ⟨xs, q, Nat.le_refl _⟩, fun i H x H' hi q y => by
    obtain ⟨T, z, e1, n, e2, hx⟩ := y
    exact ⟨T, _, z, e1, n, e2, rfl, hx xs q⟩⟩
end G
set_option Elab.async false
set_option linter.all false
set_option maxRecDepth 100000
set_option maxHeartbeats 1000000
set_option autoImplicit false
namespace L3
open PySem PySem.Spec PyProof.Rows L2
section
variable {X : Cx} {H0 : Hp} {a b e : Expr} {es : List Expr} {pos : Pos} {ma mb m : E3} {st : Stmt} {sts : List Stmt} {m1 m2 : S3} {mA mB : B3}
theorem ER.mk' {D3 : En} {D : Ends} (k : ER H0 D3 D) {n3 : Ts → Mh → Prop} {n : Vs → Hp → Prop} (h : ∀ σ H τ M, Tups H0 H → RS H τ σ → RM H M → n3 τ M → n σ H) : ER H0 { D3 with nx := n3 } { D with nx := n } := ⟨h, k.rt, k.bk, k.ct⟩
/-! ### statements -/
def sNext : S3 := fun D τ M => D.nx τ M
def sSeq (t u : S3) : S3 := fun D τ M => t { D with nx := u D } τ M
theorem ls_nil : LSs X H0 [] sNext := ⟨_, pss_nil, fun D3 D τ M σ H h t rs rm k => k.nx σ H τ M .refl rs rm h⟩
theorem ls_cons (h1 : LS X H0 st m1) (h2 : LSs X H0 sts m2) : LSs X H0 (st :: sts) (sSeq m1 m2) :=
  let ⟨_, p1, s1⟩ := h1.ex
  let ⟨_, p2, s2⟩ := h2.ex
  ⟨_, pss_cons p1 p2, fun D3 D τ M σ H h t rs rm k => s1 _ _ τ M σ H h t rs rm (k.mk' fun σ' H' τ' M' t' rs' rm' h' => s2 D3 D τ' M' σ' H' h' (t.trans t') rs' rm' (k.mv t'))⟩
theorem ls_one (h1 : LS X H0 st m1) : LSs X H0 [st] m1 := let ⟨_, p1, s1⟩ := h1.ex; ⟨_, pss_one p1, s1⟩
def sBreak : S3 := fun D τ M => D.bk τ M
def sCont : S3 := fun D τ M => D.ct τ M
theorem ls_pass : LS X H0 (.Pass pos) sNext := ⟨_, ps_pass, fun D3 D τ M σ H h t rs rm k => k.nx σ H τ M .refl rs rm h⟩
theorem ls_break : LS X H0 (.Break pos) sBreak := ⟨_, ps_break, fun D3 D τ M σ H h t rs rm k => k.bk σ H τ M .refl rs rm h⟩
theorem ls_continue : LS X H0 (.Continue pos) sCont := ⟨_, ps_continue, fun D3 D τ M σ H h t rs rm k => k.ct σ H τ M .refl rs rm h⟩
theorem ls_doc {x j pos'} : LS X H0 (.Expr (.Constant (.str x) j pos) pos') sNext := ⟨_, ps_doc, fun D3 D τ M σ H h t rs rm k => k.nx σ H τ M .refl rs rm h⟩
def sDrop (m : E3) : S3 := fun D τ M => m τ M fun _ M1 => D.nx τ M1
theorem ls_expr (he : LE X H0 e m) (hs : swapsWith e none pos.line X.env = pure false := by rfl) : LS X H0 (.Expr e pos) (sDrop m) :=
  let ⟨_, p, s⟩ := he.ex
  ⟨_, ps_expr p hs, fun D3 D τ M σ H h t rs rm k => s τ M _ σ H _ h t rs rm fun v H1 tv M1 t1 rv rm1 h1 => k.nx σ H1 τ M1 t1 (rs.mv t1) rm1 h1⟩
def sRet (m : E3) : S3 := fun D τ M => m τ M D.rt
theorem ls_ret (he : LE X H0 e m) : LS X H0 (.Return (some e) pos) (sRet m) :=
  let ⟨_, p, s⟩ := he.ex
  ⟨_, ps_ret p, fun D3 D τ M σ H h t rs rm k => s τ M _ σ H _ h t rs rm fun v H1 tv M1 t1 rv rm1 h1 => k.rt v H1 tv M1 t1 rv rm1 h1⟩
def sRetN : S3 := fun D _ M => D.rt .non M
theorem ls_retN : LS X H0 (.Return none pos) sRetN := ⟨_, ps_retN, fun D3 D τ M σ H h t rs rm k => k.rt .non H .non M .refl .non rm h⟩
def sIf (c : B3) (t u : S3) : S3 := fun D τ M => c τ M fun b M1 => match b with
  | true => t D τ M1
  | false => u D τ M1
theorem ls_if {c : Expr} {as bs : List Stmt} (hc : LT X H0 c mA) (ha : LSs X H0 as m1) (hb : LSs X H0 bs m2) : LS X H0 (.If c as bs pos) (sIf mA m1 m2) := by
  obtain ⟨_, pc, sc⟩ := hc.ex
  obtain ⟨_, pa, sa⟩ := ha.ex
  obtain ⟨_, pb, sb⟩ := hb.ex
  refine ⟨_, ps_if pc pa pb, fun D3 D τ M σ H h t rs rm k => sc τ M _ σ H _ h t rs rm fun c H1 M1 t1 rm1 h1 => ?_⟩
  cases c with
  | true =>
    rw [if_pos rfl]
    exact sa D3 D τ M1 σ H1 h1 (t.trans t1) (rs.mv t1) rm1 (k.mv t1)
  | false =>
    rw [if_neg (by decide)]
    exact sb D3 D τ M1 σ H1 h1 (t.trans t1) (rs.mv t1) rm1 (k.mv t1)
def sNever : S3 := fun _ _ _ => False
theorem ls_never : LS X H0 st sNever := ⟨_, ps_never, fun _ _ _ _ _ _ h _ _ _ _ => h⟩
theorem lss_never : LSs X H0 sts sNever := ⟨_, pss_never, fun _ _ _ _ _ _ h _ _ _ _ => h⟩
/-- what is known ahead of the rest of a block, told once for the ways that come there -/
def sCut (m1 m2 : S3) : S3 := fun D τ M => ∃ J : Ts → Mh → Prop, m1 { D with nx := J } τ M ∧ ∀ τ' M', J τ' M' → m2 D τ' M'
theorem ls_cut (h1 : LS X H0 st m1) (h2 : LSs X H0 sts m2) : LSs X H0 (st :: sts) (sCut m1 m2) :=
  let ⟨_, p1, s1⟩ := h1.ex
  let ⟨_, p2, s2⟩ := h2.ex
  ⟨_, pss_cons p1 p2, fun D3 D τ M σ H ⟨J, h, hj⟩ t rs rm k => s1 _ _ τ M σ H h t rs rm (k.mk' fun σ' H' τ' M' t' rs' rm' h' => s2 D3 D τ' M' σ' H' (hj τ' M' h') (t.trans t') rs' rm' (k.mv t'))⟩
/-! ### targets -/
abbrev G3 := T → Ts → Mh → (Ts → Mh → Prop) → Prop
abbrev Gs3 := List T → Ts → Mh → (Ts → Mh → Prop) → Prop
def SG (H0 : Hp) (g : G3) (t : TG) : Prop := ∀ x tx τ M (R : Ts → Mh → Prop) σ H (Q : Vs → Hp → Prop), g tx τ M R → Tups H0 H → Rp H tx x → RS H τ σ → RM H M → (∀ σ' H' τ' M', Tups H H' → RS H' τ' σ' → RM H' M' → R τ' M' → Q σ' H') → t x σ H Q
def SGs (H0 : Hp) (g : Gs3) (t : TGs) : Prop := ∀ xs tx τ M (R : Ts → Mh → Prop) σ H (Q : Vs → Hp → Prop), g tx τ M R → Tups H0 H → Rps H tx xs → RS H τ σ → RM H M → (∀ σ' H' τ' M', Tups H H' → RS H' τ' σ' → RM H' M' → R τ' M' → Q σ' H') → t xs σ H Q
structure LG (X : Cx) (H0 : Hp) (e : Expr) (g : G3) : Prop where
  ex : ∃ t, PG X e t ∧ SG H0 g t
structure LGs (X : Cx) (H0 : Hp) (e : List Expr) (g : Gs3) : Prop where
  ex : ∃ t, PGs X e t ∧ SGs H0 g t
def gNm (i : Nat) : G3 := fun v τ M Q => Q (τ.set i (some v)) M
theorem sg_name (i : Nat) : SG H0 (gNm i) (gName i) := fun x tx τ M R σ H Q h t rx rs rm k => k _ H _ M .refl (rs.set rx) rm h
theorem lg_name {i : Nat} {x : Str} (hN : X.N.Nodup) (hi : X.N[i]? = some x) (hx : Loc X.env.scope x) (hf : X.fn x = true ∨ X.env.scope.names.lookup x = some .local := by first | exact .inl rfl | exact .inr rfl | assumption) : LG X H0 (.Name x pos) (gNm i) := ⟨_, pg_name hN hi hx hf, sg_name i⟩
def gNl : Gs3 := fun vs τ M Q => match vs with
  | [] => Q τ M
  | _ => False
def gCs (g : G3) (u : Gs3) : Gs3 := fun vs τ M Q => match vs with
  | v :: r => g v τ M fun τ' M' => u r τ' M' Q
  | [] => False
theorem lgs_nil : LGs X H0 [] gNl := ⟨_, pgs_nil, fun xs tx τ M R σ H Q h t rx rs rm k => by
  cases rx with
  | nil => exact ⟨rfl, k σ H τ M .refl rs rm h⟩
  | cons r rs' => exact h.elim⟩
theorem lgs_cons {g : G3} {gs : Gs3} (h1 : LG X H0 e g) (h2 : LGs X H0 es gs) (hs : (assignEach (e :: es) X.env).map (·.2) = assign e X.env :: (assignEach es X.env).map (·.2) := by rfl) : LGs X H0 (e :: es) (gCs g gs) := by
  obtain ⟨_, p1, s1⟩ := h1.ex
  obtain ⟨_, p2, s2⟩ := h2.ex
  refine ⟨_, pgs_cons p1 p2 hs, fun xs tx τ M R σ H Q h t rx rs rm k => ?_⟩
  cases rx with
  | nil => exact h.elim
  | cons r rs' => exact ⟨_, _, rfl, s1 _ _ τ M _ σ H _ h t r rs rm fun σ' H' τ' M' t' rs2 rm2 h2 => s2 _ _ τ' M' R σ' H' Q h2 (t.trans t') (rs'.mv t') rs2 rm2 fun σ3 H3 τ3 M3 t3 a b c => k σ3 H3 τ3 M3 (t'.trans t3) a b c⟩
def gTp (n : Nat) (gs : Gs3) : G3 := fun v τ M Q => match v with
  | .tup ts => (match Nat.beq ts.length n with
    | true => gs ts τ M Q
    | false => False)
  | _ => False
theorem lg_tup {k : Nat} {gs : Gs3} {n : Nat} (hc : X.calm = true) (h : LGs X H0 es gs)
    (hn : (assignEach es X.env).length = n := by rfl) (hst : (assignEach es X.env).findIdx? (·.1) = none := by rfl) : LG X H0 (.Tuple es k pos) (gTp n gs) := by
  obtain ⟨_, p, s⟩ := h.ex
  refine ⟨_, pg_tup hc p hn hst, fun x tx τ M R σ H Q h t rx rs rm k => ?_⟩
  cases tx with
  | tup ts =>
    cases rx with
    | @tup a _ vs ea rv =>
      cases q : Nat.beq ts.length n with
      | true =>
        unfold gTp at h
        simp only [q] at h
        exact ⟨a, vs, rfl, SqT.of ea, rv.len.trans (Nat.eq_of_beq_eq_true q), s vs ts τ M R σ H Q h t rv rs rm k⟩
      | false =>
        unfold gTp at h
        simp only [q] at h
  | _ => exact h.elim
/-! ### assignment -/
def sAsg (m : E3) (g : G3) : S3 := fun D τ M => m τ M fun x M1 => g x τ M1 D.nx
theorem ss_asg {te : TE} {tg : TG} {g : G3} (s : SE H0 m te) (sg : SG H0 g tg) : SS H0 (sAsg m g) (tAsg te tg) := fun D3 D τ M σ H h t rs rm k => s τ M _ σ H _ h t rs rm fun v H1 tv M1 t1 rv rm1 h1 => sg v tv τ M1 _ σ H1 _ h1 (t.trans t1) rv (rs.mv t1) rm1 fun σ' H' τ' M' t' rs' rm' h' => k.nx σ' H' τ' M' (t1.trans t') rs' rm' h'
theorem ls_asg {tg : Expr} {g : G3} (he : LE X H0 e m) (hg : LG X H0 tg g) (hs : swapsWithSole [tg] e pos.line X.env = pure false := by rfl) (hw : swappedStores [tg] e X.env = pure none := by rfl) (h1 : (assignEach [tg] X.env).map (·.2) = [assign tg X.env] := by rfl) : LS X H0 (.Assign [tg] e pos) (sAsg m g) :=
  let ⟨_, p, s⟩ := he.ex
  let ⟨_, pg, sg⟩ := hg.ex
  ⟨_, ps_asg p pg hs hw h1, ss_asg s sg⟩
theorem ls_set {i : Nat} {x : Str} {pos' : Pos} (hN : X.N.Nodup) (hi : X.N[i]? = some x) (hx : Loc X.env.scope x) (he : LE X H0 e m) (hs : swapsWith e (some (.Name x pos')) pos.line X.env = pure false := by rfl) (hf : X.fn x = true ∨ X.env.scope.names.lookup x = some .local := by first | exact .inl rfl | exact .inr rfl | assumption) : LS X H0 (.Assign [.Name x pos'] e pos) (sAsg m (gNm i)) :=
  let ⟨_, p, s⟩ := he.ex
  ⟨_, ps_set hN hi hx p hs hf, ss_asg s (sg_name i)⟩
def sPar (i j : Nat) (m : A3) : S3 := fun D τ M => m τ M fun vs M1 => match vs with
  | [v, w] => D.nx ((τ.set i (some v)).set j (some w)) M1
  | _ => False
theorem ls_par {i j : Nat} {x y : Str} {mA : A3} {px py pt : Pos} {kt k2 pt2} (hc : X.calm = true) (hN : X.N.Nodup) (hi : X.N[i]? = some x) (hj : X.N[j]? = some y) (hij : i ≠ j)
    (hx : X.env.scope.names.lookup x = some .local) (hy : X.env.scope.names.lookup y = some .local) (ha : LA X H0 [a, b] mA)
    (hw : swappedStores [.Tuple [.Name x px, .Name y py] kt pt] (.Tuple [a, b] k2 pt2) X.env = pure (some [x, y]) := by rfl)
    (hs : swapsWithSole [.Tuple [.Name x px, .Name y py] kt pt] (.Tuple [a, b] k2 pt2) pos.line X.env = pure false := by rfl) :
    LS X H0 (.Assign [.Tuple [.Name x px, .Name y py] kt pt] (.Tuple [a, b] k2 pt2) pos) (sPar i j mA) := by
  obtain ⟨_, p, s⟩ := ha.ex
  refine ⟨_, ps_par hc hN hi hj hij hx hy p hw hs, fun D3 D τ M σ H h t rs rm k => s τ M _ σ H _ h t rs rm fun vs H1 ts M1 l t1 rv rm1 h1 => ?_⟩
  match ts, rv, h1 with
  | [_, _], .cons r1 (.cons r2 .nil), h1 => exact ⟨_, _, rfl, k.nx _ H1 _ M1 t1 (((rs.mv t1).set r1).set r2) rm1 h1⟩
/-! ### own defs -/
/-- an exception: its class, its own dict (where it has one; what stands behind it tells the fields) -/
abbrev X3 := Value → Option Addr → Mh → Prop
def XR (H : Hp) (E3 : X3) (E : XK) : Prop := ∀ c d H' M', Tups H H' → RM H' M' → E3 c d M' → E c d H'
theorem XR.mv {H H' : Hp} {E3 : X3} {E : XK} (k : XR H E3 E) (t : Tups H H') : XR H' E3 E := fun c d H2 M2 t2 b q => k c d H2 M2 (t.trans t2) b q
abbrev Sp3 := List T → Mh → K3 → X3 → Prop
def lift (sp : Sp3) : Sp := fun vs H Q E => ∃ ts M R E3, Rps H ts vs ∧ RM H M ∧ sp ts M R E3 ∧ KR H R Q ∧ XR H E3 E
def N3 : X3 := fun _ _ _ => False
def eCall (sp : Sp3) (E : X3) (m : A3) : E3 := fun τ M R => m τ M fun ts M1 => sp ts M1 R E
/-- no exception leaves it where none is wished -/
structure Cl (P : Program) (w : World) (K : Fg) (mg : Str → Option Value) (base : Heap) (x : Str) (k : Nat) (ps : List Str) (sp : Sp3) : Prop where
  ex : ∃ (CX : CXT) (f : Addr) (fd : FuncData), FnOk P w K mg base CX k f fd ps (lift sp) ∧ (∀ o H s e s', ¬ CX o H s (fun _ _ _ => False) e s') ∧ mg x = some (.ref f) ∧ PySem.W.keepIn K (.ref f) = true ∧ Binds K fd ps []
theorem le_call {k : Nat} {x : Str} {p : Pos} {ps : List Str} {sp : Sp3} {mA : A3} (c : Cl X.prog X.w X.K X.mg X.base x k ps sp) (hr : Room k X.A) (hg : Gl X x) (ha : LA X H0 (e :: es) mA) (hdb : (x == ("__debug__" : Str)) = false := by decide) (he : starEach (e :: es) X.env = (false, eval e X.env) :: starEach es X.env := by rfl) (hpl : (backTo pos (starEach es X.env)).any (·.1) = false := by rfl) :
    LE X H0 (.Call (.Name x p) (e :: es) [] pos) (eCall sp N3 mA) := by
  obtain ⟨CX, f, fd, F, hx, hm, hk, hb⟩ := c.ex
  obtain ⟨_, pa, sa⟩ := ha.ex
  refine ⟨_, pe_call F hr hg hm hk hb .nil (E := fun _ _ _ => False) (fun _ _ _ _ _ _ _ z => (hx _ _ _ _ _ z).elim) pa hdb he hpl, fun τ M R σ H Q h t rs rm k => sa τ M _ σ H _ h t rs rm fun vs H1 ts M1 l t1 rv rm1 h1 => ?_⟩
  rw [List.append_nil]
  exact ⟨ts, M1, R, N3, rv, rm1, h1, k.mv t1, fun _ _ _ _ _ _ z => z.elim⟩
def start3 (N : List Str) (ts : List T) : Ts := ts.map some ++ List.replicate (N.length - ts.length) none
theorem rs_start {H : Hp} {N : List Str} {ts : List T} {vs : List V} (r : Rps H ts vs) : RS H (start3 N ts) (L2.start N vs) := by
  refine ⟨by unfold start3 L2.start; simp [r.len], fun i t e => ?_⟩
  unfold start3 at e
  unfold L2.start
  by_cases h : i < ts.length
  · rw [List.getElem?_append_left (by rw [List.length_map]; exact h), List.getElem?_map] at e
    cases q : ts[i]? with
    | none => rw [q] at e; cases e
    | some x =>
      rw [q] at e
      cases e
      obtain ⟨v, hv, rv⟩ := r.get q
      refine ⟨v, ?_, rv⟩
      rw [List.getElem?_append_left (by rw [List.length_map, r.len]; exact h), List.getElem?_map, hv]
      rfl
  · rw [List.getElem?_append_right (by rw [List.length_map]; omega)] at e
    rw [List.getElem?_replicate] at e
    split at e
    · cases e
    · cases e
end
section
variable {P : Program} {w : World} {K : Fg} {mg : Str → Option Value} {base : Heap}
def fin3 (R : K3) : K3 := fun v M => ∃ M', Sub M' M ∧ R v M'
theorem fin3.of {R : K3} {v : T} {M : Mh} (h : R v M) : fin3 R v M := ⟨M, .refl, h⟩
theorem _root_.L2.Fun.ok3 {x qual : Str} {st : Stmt} {f : Addr} {fd : FuncData} {N ps : List Str} {k : Nat} {sp : Sp3} (F : L2.Fun K x qual st f fd) (S : FnScope N ps (defScope st)) (len : ∀ ts M R E, sp ts M R E → ts.length = ps.length)
    (hbody : ∀ (cdv : Value) (A : Around) (outer : List Env) (s : Shared) (H : Hp) (E : XK) (ts : List T) (M : Mh) (R : K3) (E3 : X3), Room k (A.deeper (envOfC qual (defScope st) s.heap.objs.size f cdv)) → sp ts M R E3 →
      ∃ m, LSs (cxOf CX0 P w K mg base N qual (defScope st) f cdv A outer s H E).nox H (defBody st) m ∧ m { nx := fun _ M' => fin3 R .non M', rt := fin3 R } (start3 N ts) M) : FnOk P w K mg base CX0 (k + 1) f fd ps (lift sp) := by
  refine F.ok S (fun vs H Q E h => ?_) (fun cdv A outer s H vs Q E hr h => ?_)
  · obtain ⟨ts, M, R, E3, rv, _, h, _⟩ := h
    rw [rv.len]
    exact len _ _ _ _ h
  · obtain ⟨ts, M, R, E3, rv, rm, h, kq, kx⟩ := h
    obtain ⟨m, l, hm⟩ := hbody cdv A outer s H E ts M R E3 hr h
    obtain ⟨t, p, ss⟩ := l.ex
    refine ⟨t, p, ss _ _ _ M _ H hm .refl (rs_start rv) rm ⟨fun σ' H' τ' M' t' rs' rm' h' => ?_, fun v H' tv M' t' rv' rm' h' => ?_, fun _ _ _ _ _ _ _ z => z, fun _ _ _ _ _ _ _ z => z⟩⟩
    · obtain ⟨M2, s2, h2⟩ := h'
      exact kq .non H' .non M2 t' .non (rm'.sub s2) h2
    · obtain ⟨M2, s2, h2⟩ := h'
      exact kq v H' tv M2 t' rv' (rm'.sub s2) h2
end
end L3
set_option Elab.async false
set_option linter.all false
set_option maxRecDepth 100000
set_option maxHeartbeats 1000000
set_option autoImplicit false
namespace L3
open PySem PySem.Spec PyProof.Rows L2
/-! ### what is walked -/
structure WalkT (H1 : Hp) (J : It) (items : List T) (Gd : Mh → Prop) : Prop where
  goes : ∀ i H M, i < items.length → Tups H1 H → RM H M → Gd M → J.go i H
  stops : ∀ H M, Tups H1 H → RM H M → Gd M → J.stop items.length H
  yields : ∀ i H M x H', i < items.length → Tups H1 H → RM H M → Gd M → J.yld i H x H' → ∃ t, items[i]? = some t ∧ Tups H H' ∧ Rp H' t x ∧ RM H' M ∧ ∀ p, H' p = none → H p = none
abbrev I3 := Ts → Mh → (List T → (Mh → Prop) → Mh → Prop) → Prop
def SI (H0 : Hp) (mi : I3) (wi : TI) : Prop := ∀ τ M (R : List T → (Mh → Prop) → Mh → Prop) σ H (Q : It → Hp → Prop), mi τ M R → Tups H0 H → RS H τ σ → RM H M → (∀ J H' items Gd M', Tups H H' → RM H' M' → WalkT H' J items Gd → R items Gd M' → Q J H') → wi σ H Q
structure LI (X : Cx) (H0 : Hp) (tg iter : Expr) (mi : I3) : Prop where
  ex : ∃ wi, PI X tg iter wi ∧ SI H0 mi wi
section
variable {X : Cx} {H0 : Hp} {a b e tg : Expr} {es : List Expr} {pos : Pos} {ma mb m : E3} {st : Stmt} {sts : List Stmt} {m1 m2 : S3} {mA mB : B3} {mAs : A3}
def iLst (m : E3) : I3 := fun τ M R => m τ M fun x M1 => match x with
  | .ref a => (match M1 a with
    | some (.lst ts) => R ts (fun M => M a = some (.lst ts)) M1
    | _ => False)
  | _ => False
def iTp (m : E3) : I3 := fun τ M R => m τ M fun x M1 => match x with
  | .tup ts => R ts (fun _ => True) M1
  | _ => False
theorem walkT_list {K : Fg} {H1 : Hp} {a : Addr} {ts : List T} : WalkT H1 (Itl K a) ts (fun M => M a = some (.lst ts)) where
  goes := fun i H M hi t rm g => by
    obtain ⟨vs, e, r⟩ := rm a _ g
    obtain ⟨v, hv, _⟩ := r.get (List.getElem?_eq_getElem hi)
    exact ⟨vs, v, SqL.of e, hv⟩
  stops := fun H M t rm g => by
    obtain ⟨vs, e, r⟩ := rm a _ g
    exact ⟨vs, SqL.of e, Nat.le_of_eq r.len⟩
  yields := fun i H M x H' hi t rm g y => by
    obtain ⟨vs, e, r⟩ := rm a _ g
    obtain ⟨rfl, y⟩ := y
    obtain ⟨tv, h1, h2⟩ := r.get' (y vs (SqL.of e))
    exact ⟨tv, h1, .refl, h2, rm, fun _ n => n⟩
theorem walkT_tup {K : Fg} {H1 : Hp} {a : Addr} {ts : List T} {vs : List V} (e : H1 a = some (.tup vs)) (r : Rps H1 ts vs) : WalkT H1 (Itt K a) ts (fun _ => True) where
  goes := fun i H M hi t rm g => by
    obtain ⟨v, hv, _⟩ := r.get (List.getElem?_eq_getElem hi)
    exact ⟨vs, v, SqT.of (t.tup _ _ e), hv⟩
  stops := fun H M t rm g => ⟨vs, SqT.of (t.tup _ _ e), Nat.le_of_eq r.len⟩
  yields := fun i H M x H' hi t rm g y => by
    obtain ⟨rfl, y⟩ := y
    obtain ⟨tv, h1, h2⟩ := r.get' (y vs (SqT.of (t.tup _ _ e)))
    exact ⟨tv, h1, .refl, h2.mv t, rm, fun _ n => n⟩
theorem li_list (h : LE X H0 e m) : LI X H0 tg e (iLst m) := by
  obtain ⟨_, p, s⟩ := h.ex
  refine ⟨_, pi_list p, fun τ M R σ H Q h t rs rm k => s τ M _ σ H _ h t rs rm fun v H1 tv M1 t1 rv rm1 h1 => ?_⟩
  cases tv with
  | ref a =>
    cases rv
    dsimp only at h1
    cases q : M1 a with
    | none => rw [q] at h1; exact h1.elim
    | some o =>
      rw [q] at h1
      cases o with
      | lst ts =>
        obtain ⟨vs, e, r⟩ := rm1 a _ q
        exact ⟨a, rfl, ⟨vs, SqL.of e⟩, k _ H1 ts _ M1 t1 rm1 walkT_list h1⟩
      | _ => exact h1.elim
  | _ => exact h1.elim
theorem li_tup (h : LE X H0 e m) : LI X H0 tg e (iTp m) := by
  obtain ⟨_, p, s⟩ := h.ex
  refine ⟨_, pi_tup p, fun τ M R σ H Q h t rs rm k => s τ M _ σ H _ h t rs rm fun v H1 tv M1 t1 rv rm1 h1 => ?_⟩
  cases tv with
  | tup ts =>
    cases rv with
    | tup e r => exact ⟨_, rfl, ⟨_, SqT.of e⟩, k _ H1 ts _ M1 t1 rm1 (walkT_tup e r) h1⟩
  | _ => exact h1.elim
def rng (lo : Int) (n : Nat) : List T := (List.range n).map fun (k : Nat) => T.int (lo + (k : Nat))
theorem rng_len (lo : Int) (n : Nat) : (rng lo n).length = n := by unfold rng; rw [List.length_map, List.length_range]
theorem rng_at {lo : Int} {n i : Nat} (h : i < n) : (rng lo n)[i]? = some (.int (lo + i)) := by
  unfold rng
  rw [List.getElem?_map, List.getElem?_range h]
  rfl
theorem rng_of {lo : Int} {n i : Nat} {x : T} (h : (rng lo n)[i]? = some x) : i < n ∧ x = .int (lo + i) := by
  have l := (List.getElem?_eq_some_iff.mp h).1
  rw [rng_len] at l
  rw [rng_at l] at h
  exact ⟨l, (Option.some.inj h).symm⟩
theorem walkT_range {H1 : Hp} {lo : Int} {n : Nat} : WalkT H1 (Itr lo n) (rng lo n) (fun _ => True) where
  goes := fun i H M hi t rm g => by rw [rng_len] at hi; exact hi
  stops := fun H M t rm g => by rw [rng_len]; exact Nat.le_refl _
  yields := fun i H M x H' hi t rm g y => by
    obtain ⟨rfl, rfl⟩ := y
    rw [rng_len] at hi
    exact ⟨_, rng_at hi, .refl, .int _, rm, fun _ n => n⟩
def iR1 (m : A3) : I3 := fun τ M R => m τ M fun ts M1 => match ts with
  | [.int j] => (-(2 ^ 62) ≤ j ∧ j < 2 ^ 62) ∧ R (rng 0 j.toNat) (fun _ => True) M1
  | _ => False
def iR2 (m : A3) : I3 := fun τ M R => m τ M fun ts M1 => match ts with
  | [.int i, .int j] => (-(2 ^ 62) ≤ i ∧ i < 2 ^ 62 ∧ -(2 ^ 62) ≤ j ∧ j < 2 ^ 62) ∧ R (rng i (j - i).toNat) (fun _ => True) M1
  | _ => False
theorem li_range1 {p : Pos} (hg : Gl X "range") (hm : X.mg "range" = none) (ha : LA X H0 [a] mAs) (hs : starEach [a] X.env = [(false, eval a X.env)] := by rfl) : LI X H0 tg (.Call (.Name "range" p) [a] [] pos) (iR1 mAs) := by
  obtain ⟨_, pa, s⟩ := ha.ex
  refine ⟨_, pi_range1 hg hm pa hs, fun τ M R σ H Q h t rs rm k => s τ M _ σ H _ h t rs rm fun vs H1 ts M1 l t1 rv rm1 h1 => ?_⟩
  split at h1
  · rename_i j
    cases rv with
    | cons r rr =>
      cases r
      cases rr
      exact ⟨j, rfl, h1.1.1, h1.1.2, k _ H1 _ _ M1 t1 rm1 walkT_range h1.2⟩
  · exact h1.elim
theorem li_range2 {p : Pos} (hg : Gl X "range") (hm : X.mg "range" = none) (ha : LA X H0 [a, b] mAs) (hs : starEach [a, b] X.env = [(false, eval a X.env), (false, eval b X.env)] := by rfl) (hs2 : starEach [b] X.env = [(false, eval b X.env)] := by rfl) : LI X H0 tg (.Call (.Name "range" p) [a, b] [] pos) (iR2 mAs) := by
  obtain ⟨_, pa, s⟩ := ha.ex
  refine ⟨_, pi_range2 hg hm pa hs hs2, fun τ M R σ H Q h t rs rm k => s τ M _ σ H _ h t rs rm fun vs H1 ts M1 l t1 rv rm1 h1 => ?_⟩
  split at h1
  · rename_i i j
    cases rv with
    | cons r rr =>
      cases r
      cases rr with
      | cons r rr =>
        cases r
        cases rr
        exact ⟨i, j, rfl, h1.1, k _ H1 _ _ M1 t1 rm1 walkT_range h1.2⟩
  · exact h1.elim
def pairs (n : Nat) : List T → List T
  | [] => []
  | t :: ts => .tup [.int n, t] :: pairs (n + 1) ts
theorem pairs_len : ∀ (n : Nat) (ts : List T), (pairs n ts).length = ts.length
  | _, [] => rfl
  | n, t :: ts => congrArg (· + 1) (pairs_len (n + 1) ts)
theorem pairs_at : ∀ {n i : Nat} {ts : List T} {t : T}, ts[i]? = some t → (pairs n ts)[i]? = some (.tup [.int ((n + i : Nat) : Int), t])
  | n, i, [], t, h => by simp at h
  | n, 0, x :: ts, t, h => by
    simp at h
    subst h
    rfl
  | n, i + 1, x :: ts, t, h => by
    have q := pairs_at (n := n + 1) (i := i) (ts := ts) (t := t) (by simpa using h)
    show (pairs (n + 1) ts)[i]? = _
    rw [q]
    congr 4
    omega
theorem pairs_of {n i : Nat} {ts : List T} {x : T} (h : (pairs n ts)[i]? = some x) : ∃ t, ts[i]? = some t ∧ x = .tup [.int ((n + i : Nat) : Int), t] := by
  have l := (List.getElem?_eq_some_iff.mp h).1
  rw [pairs_len] at l
  refine ⟨ts[i], List.getElem?_eq_getElem l, ?_⟩
  rw [pairs_at (List.getElem?_eq_getElem l)] at h
  exact (Option.some.inj h).symm
theorem walkT_enum {K : Fg} {H1 : Hp} {a : Addr} {ts : List T} : WalkT H1 (Ite K a) (pairs 0 ts) (fun M => M a = some (.lst ts)) where
  goes := fun i H M hi t rm g => by
    rw [pairs_len] at hi
    obtain ⟨vs, e, r⟩ := rm a _ g
    obtain ⟨v, hv, _⟩ := r.get (List.getElem?_eq_getElem hi)
    exact ⟨vs, v, SqL.of e, hv⟩
  stops := fun H M t rm g => by
    obtain ⟨vs, e, r⟩ := rm a _ g
    exact ⟨vs, SqL.of e, by rw [pairs_len]; exact Nat.le_of_eq r.len⟩
  yields := fun i H M x H' hi t rm g y => by
    obtain ⟨vs, e, r⟩ := rm a _ g
    obtain ⟨U, z, rfl, nU, rfl, y⟩ := y
    obtain ⟨tv, h1, h2⟩ := r.get' (y vs (SqL.of e))
    refine ⟨_, pairs_at h1, .new nU, .tup upd_same (.cons ?_ (.cons (h2.mv (.new nU)) .nil)), rm.new0 nU, fun q n => ?_⟩
    · rw [Nat.zero_add]
      exact .int _
    · by_cases hq : q = U
      · rw [hq]; exact nU
      · rw [upd_ne hq] at n; exact n
theorem walkT_enumT {K : Fg} {H1 : Hp} {a : Addr} {ts : List T} {vs : List V} (e : H1 a = some (.tup vs)) (r : Rps H1 ts vs) : WalkT H1 (G.IteT K a) (pairs 0 ts) (fun _ => True) where
  goes := fun i H M hi t rm g => by
    rw [pairs_len] at hi
    obtain ⟨v, hv, _⟩ := r.get (List.getElem?_eq_getElem hi)
    exact ⟨vs, v, SqT.of (t.tup _ _ e), hv⟩
  stops := fun H M t rm g => ⟨vs, SqT.of (t.tup _ _ e), by rw [pairs_len]; exact Nat.le_of_eq r.len⟩
  yields := fun i H M x H' hi t rm g y => by
    obtain ⟨U, z, rfl, nU, rfl, y⟩ := y
    obtain ⟨tv, h1, h2⟩ := r.get' (y vs (SqT.of (t.tup _ _ e)))
    refine ⟨_, pairs_at h1, .new nU, .tup upd_same (.cons ?_ (.cons (h2.mv (t.trans (.new nU))) .nil)), rm.new0 nU, fun q n => ?_⟩
    · rw [Nat.zero_add]
      exact .int _
    · by_cases hq : q = U
      · rw [hq]; exact nU
      · rw [upd_ne hq] at n; exact n
def iEn (m : A3) : I3 := fun τ M R => m τ M fun ts M1 => match ts with
  | [.ref a] => (match M1 a with
    | some (.lst ts) => R (pairs 0 ts) (fun M => M a = some (.lst ts)) M1
    | _ => False)
  | _ => False
def iEnT (m : A3) : I3 := fun τ M R => m τ M fun ts M1 => match ts with
  | [.tup ts] => R (pairs 0 ts) (fun _ => True) M1
  | _ => False
variable {elts : List Expr} {kk : Nat} {p tpos : Pos}
theorem li_enum (hg : Gl X "enumerate") (hm : X.mg "enumerate" = none) (ha : LA X H0 [e] mAs) (hs : starEach [e] X.env = [(false, eval e X.env)] := by rfl) : LI X H0 (.Tuple elts kk tpos) (.Call (.Name "enumerate" p) [e] [] pos) (iEn mAs) := by
  obtain ⟨_, pa, s⟩ := ha.ex
  refine ⟨_, pi_enum hg hm pa hs, fun τ M R σ H Q h t rs rm k => s τ M _ σ H _ h t rs rm fun vs H1 ts M1 l t1 rv rm1 h1 => ?_⟩
  split at h1
  · rename_i a
    cases rv with
    | cons r rr =>
      cases r
      cases rr
      split at h1
      · rename_i ts q
        obtain ⟨vs, e, r⟩ := rm1 a _ q
        exact ⟨a, vs, rfl, SqL.of e, k _ H1 _ _ M1 t1 rm1 walkT_enum h1⟩
      · exact h1.elim
  · exact h1.elim
theorem li_enumT (hg : Gl X "enumerate") (hm : X.mg "enumerate" = none) (ha : LA X H0 [e] mAs) (hs : starEach [e] X.env = [(false, eval e X.env)] := by rfl) : LI X H0 (.Tuple elts kk tpos) (.Call (.Name "enumerate" p) [e] [] pos) (iEnT mAs) := by
  obtain ⟨_, pa, s⟩ := ha.ex
  refine ⟨_, G.pi_enumT hg hm pa hs, fun τ M R σ H Q h t rs rm k => s τ M _ σ H _ h t rs rm fun vs H1 ts M1 l t1 rv rm1 h1 => ?_⟩
  split at h1
  · cases rv with
    | cons r rr =>
      cases rr
      cases r with
      | tup e r => exact ⟨_, _, rfl, SqT.of e, k _ H1 _ _ M1 t1 rm1 (walkT_enumT e r) h1⟩
  · exact h1.elim
def signs (x : Str) : List T := x.cps.toList.map fun c => T.str ⟨#[c]⟩
theorem signs_of {x : Str} {i : Nat} {t : T} (h : (signs x)[i]? = some t) : ∃ c, x.cps.toList[i]? = some c ∧ t = .str ⟨#[c]⟩ := by
  unfold signs at h
  rw [List.getElem?_map] at h
  cases q : x.cps.toList[i]? with
  | none => rw [q] at h; cases h
  | some c => rw [q] at h; exact ⟨c, rfl, (Option.some.inj h).symm⟩
theorem signs_len (x : Str) : (signs x).length = x.cps.size := by unfold signs; rw [List.length_map, Array.length_toList]
theorem walkT_str {H1 : Hp} {x : Str} : WalkT H1 (Its x) (signs x) (fun _ => True) where
  goes := fun i H M hi t rm g => by rw [signs_len] at hi; exact hi
  stops := fun H M t rm g => by rw [signs_len]; exact Nat.le_refl _
  yields := fun i H M v H' hi t rm g y => by
    obtain ⟨rfl, c, hc, rfl⟩ := y
    refine ⟨.str ⟨#[c]⟩, ?_, .refl, .str _, rm, fun _ n => n⟩
    unfold signs
    rw [List.getElem?_map, Array.getElem?_toList, hc]
    rfl
def iSg (m : E3) : I3 := fun τ M R => m τ M fun x M1 => match x with
  | .str z => R (signs z) (fun _ => True) M1
  | _ => False
theorem li_str (h : LE X H0 e m) : LI X H0 tg e (iSg m) := by
  obtain ⟨_, p, s⟩ := h.ex
  refine ⟨_, pi_str p, fun τ M R σ H Q h t rs rm k => s τ M _ σ H _ h t rs rm fun v H1 tv M1 t1 rv rm1 h1 => ?_⟩
  cases tv with
  | str z =>
    cases rv
    exact ⟨z, rfl, k _ H1 _ _ M1 t1 rm1 walkT_str h1⟩
  | _ => exact h1.elim
/-! ### for, while -/
def sFor (mi : I3) (g : G3) (mb : S3) : S3 := fun D τ M => mi τ M fun items Gd M1 => ∃ I : Nat → Ts → Mh → Prop, I 0 τ M1 ∧ (∀ i τ M, I i τ M → Gd M) ∧
  (∀ i x τ M, items[i]? = some x → I i τ M → g x τ M fun τ2 M2 => mb { D with nx := I (i + 1), ct := I (i + 1), bk := D.nx } τ2 M2) ∧ ∀ τ M, I items.length τ M → D.nx τ M
theorem ls_for {iter : Expr} {body : List Stmt} {mi : I3} {g : G3} (hp : PassesOwn (model X.prog X.w) X.A X.env X.xe) (hc : X.calm = true) (hi : LI X H0 tg iter mi) (hg : LG X H0 tg g) (hb : LSs X H0 body m1) (hs : ∀ x, foldedSetIterable iter X.env x = pure x := by intro _; rfl) : LS X H0 (.For tg iter body [] pos) (sFor mi g m1) := by
  obtain ⟨_, pi, si⟩ := hi.ex
  obtain ⟨_, pg, sg⟩ := hg.ex
  obtain ⟨_, pb, sb⟩ := hb.ex
  refine ⟨_, ps_for hp hc pi pg pb hs, fun D3 D τ M σ H h t rs rm k => si τ M _ σ H _ h t rs rm fun J H1 items Gd M1 t1 rm1 w h1 => ?_⟩
  obtain ⟨I, i0, ig, is, id⟩ := h1
  refine ⟨fun i m σ H => m = items.length - i ∧ i ≤ items.length ∧ ∃ τ M, Tups H1 H ∧ RS H τ σ ∧ RM H M ∧ I i τ M, ⟨_, rfl, Nat.zero_le _, τ, M1, .refl, rs.mv t1, rm1, i0⟩, ?_⟩
  rintro i m σ H ⟨rfl, hi, τ, M, t2, rs2, rm2, hI⟩
  have hG := ig i τ M hI
  by_cases hlt : i < items.length
  · refine .inr ⟨w.goes i H M hlt t2 rm2 hG, fun σ' H' => ∃ τ' M', Tups H1 H' ∧ RS H' τ' σ' ∧ RM H' M' ∧ I (i + 1) τ' M', fun σ' H' q => ⟨_, by omega, rfl, by omega, q⟩, fun x H' y => ?_⟩
    obtain ⟨tx, hx, t3, rx, rm3, _⟩ := w.yields i H M x H' hlt t2 rm2 hG y
    refine sg x tx τ M _ σ H' _ (is i tx τ M hx hI) ((t.trans t1).trans (t2.trans t3)) rx (rs2.mv t3) rm3 fun σ4 H4 τ4 M4 t4 rs4 rm4 h4 => ?_
    refine sb _ _ τ4 M4 σ4 H4 h4 (((t.trans t1).trans (t2.trans t3)).trans t4) rs4 rm4 ⟨fun σ5 H5 τ5 M5 t5 rs5 rm5 h5 => ?_, fun v H5 tv M5 t5 => k.rt v H5 tv M5 (t1.trans (t2.trans (t3.trans (t4.trans t5)))), fun v H5 tv M5 t5 => k.nx v H5 tv M5 (t1.trans (t2.trans (t3.trans (t4.trans t5)))), fun σ5 H5 τ5 M5 t5 rs5 rm5 h5 => ?_⟩
    · exact ⟨τ5, M5, t2.trans (t3.trans (t4.trans t5)), rs5, rm5, h5⟩
    · exact ⟨τ5, M5, t2.trans (t3.trans (t4.trans t5)), rs5, rm5, h5⟩
  · have e : i = items.length := by omega
    subst e
    exact .inl ⟨w.stops H M t2 rm2 hG, k.nx σ H τ M (t1.trans t2) rs2 rm2 (id τ M hI)⟩
def sWhile (c : B3) (mb : S3) : S3 := fun D τ M => ∃ W : Nat → Ts → Mh → Prop, (∃ m, W m τ M) ∧ ∀ m τ M, W m τ M →
  c τ M fun b M1 => match b with
  | true => mb { D with nx := fun τ' M' => ∃ m', m' < m ∧ W m' τ' M', ct := fun τ' M' => ∃ m', m' < m ∧ W m' τ' M', bk := D.nx } τ M1
  | false => D.nx τ M1
theorem ls_while {c : Expr} {body : List Stmt} (hp : PassesOwn (model X.prog X.w) X.A X.env X.xe) (hc : LT X H0 c mA) (hb : LSs X H0 body m1) : LS X H0 (.While c body [] pos) (sWhile mA m1) := by
  obtain ⟨_, pc, sc⟩ := hc.ex
  obtain ⟨_, pb, sb⟩ := hb.ex
  refine ⟨_, ps_while hp pc pb, fun D3 D τ M σ H h t rs rm k => ?_⟩
  obtain ⟨W, ⟨m0, w0⟩, turn⟩ := h
  refine ⟨fun m σ H' => ∃ τ M, Tups H H' ∧ RS H' τ σ ∧ RM H' M ∧ W m τ M, ⟨m0, τ, M, .refl, rs, rm, w0⟩, ?_⟩
  rintro m σ H' ⟨τ, M, t1, rs1, rm1, w1⟩
  refine sc τ M _ σ H' _ (turn m τ M w1) (t.trans t1) rs1 rm1 fun b H2 M2 t2 rm2 h2 => ?_
  cases b with
  | true =>
    rw [if_pos rfl]
    refine ⟨fun σ' H3 => ∃ m', m' < m ∧ ∃ τ M, Tups H H3 ∧ RS H3 τ σ' ∧ RM H3 M ∧ W m' τ M, fun σ' H3 q => q, ?_⟩
    refine sb _ _ τ M2 σ H2 h2 (t.trans (t1.trans t2)) (rs1.mv t2) rm2 ⟨fun σ5 H5 τ5 M5 t5 rs5 rm5 h5 => ?_, fun v H5 tv M5 t5 => k.rt v H5 tv M5 (t1.trans (t2.trans t5)), fun v H5 tv M5 t5 => k.nx v H5 tv M5 (t1.trans (t2.trans t5)), fun σ5 H5 τ5 M5 t5 rs5 rm5 h5 => ?_⟩
    · obtain ⟨m', l, w'⟩ := h5
      exact ⟨m', l, τ5, M5, t1.trans (t2.trans t5), rs5, rm5, w'⟩
    · obtain ⟨m', l, w'⟩ := h5
      exact ⟨m', l, τ5, M5, t1.trans (t2.trans t5), rs5, rm5, w'⟩
  | false =>
    rw [if_neg (by decide)]
    exact k.nx σ H2 τ M2 (t1.trans t2) (rs1.mv t2) rm2 h2
/-! ### comprehensions -/
theorem wipe_set {σ : Vs} {i : Nat} {v : Option V} : ∀ {vs : List Nat}, i ∈ vs → wipe (σ.set i v) vs = wipe σ vs
  | w :: vs, h => by
    show (wipe (σ.set i v) vs).set w none = (wipe σ vs).set w none
    by_cases hw : i ∈ vs
    · rw [wipe_set hw]
    · have hi : i = w := (List.mem_cons.mp h).elim id fun z => absurd z hw
      have comm : ∀ (us : List Nat), i ∉ us → wipe (σ.set i v) us = (wipe σ us).set i v := by
        intro us
        induction us with
        | nil => intro _; rfl
        | cons u us ih =>
          intro hn
          show (wipe (σ.set i v) us).set u none = ((wipe σ us).set u none).set i v
          rw [ih (fun z => hn (.tail _ z)), List.set_comm _ _ (fun z => hn (by rw [z]; exact .head _))]
      rw [comm vs hw, hi, List.set_set]
theorem wipe_wipe (σ : Vs) (vs : List Nat) : wipe (wipe σ vs) vs = wipe σ vs := by
  have : ∀ us : List Nat, (∀ u ∈ us, u ∈ vs) → wipe (wipe σ us) vs = wipe σ vs := by
    intro us
    induction us with
    | nil => intro _; rfl
    | cons u us ih =>
      intro h
      show wipe ((wipe σ us).set u none) vs = _
      rw [wipe_set (h u (.head _))]
      exact ih fun z hz => h z (.tail _ hz)
  exact this vs fun _ h => h
def wip (τ : Ts) : List Nat → Ts
  | [] => τ
  | v :: vs => (wip τ vs).set v none
theorem rs_wip {H : Hp} {τ : Ts} {σ : Vs} (r : RS H τ σ) : ∀ vs : List Nat, RS H (wip τ vs) (wipe σ vs)
  | [] => r
  | v :: vs => (rs_wip r vs).clr
/-- a target that stores in these slots alone -/
def Only (vs : List Nat) (t : TG) : Prop := ∀ x σ H Q, t x σ H Q → t x σ H fun σ2 H2 => wipe σ2 vs = wipe σ vs ∧ Q σ2 H2
def OnlyS (vs : List Nat) (t : TGs) : Prop := ∀ xs σ H Q, t xs σ H Q → t xs σ H fun σ2 H2 => wipe σ2 vs = wipe σ vs ∧ Q σ2 H2
theorem only_name {vs : List Nat} {i : Nat} (h : i ∈ vs) : Only vs (gName i) := fun x σ H Q q => ⟨wipe_set h, q⟩
def gNames : List Nat → TGs
  | [] => gNil
  | j :: js => gCons (gName j) (gNames js)
def gNs : List Nat → Gs3
  | [] => gNl
  | j :: js => gCs (gNm j) (gNs js)
theorem only_names {vs : List Nat} : ∀ {js : List Nat}, (∀ j ∈ js, j ∈ vs) → OnlyS vs (gNames js)
  | [], _ => fun xs σ H Q q => ⟨q.1, rfl, q.2⟩
  | j :: js, h => fun xs σ H Q q => by
    obtain ⟨v, r, rfl, q⟩ := q
    refine ⟨v, r, rfl, ?_⟩
    have := only_names (fun z hz => h z (.tail _ hz)) r (σ.set j (some v)) H Q q
    rw [wipe_set (h j (.head _))] at this
    exact this
theorem only_tup {K : Fg} {n : Nat} {vs js : List Nat} (h : ∀ j ∈ js, j ∈ vs) : Only vs (gTup K n (gNames js)) := fun x σ H Q q => by
  obtain ⟨a, xs, e, s, l, q⟩ := q
  exact ⟨a, xs, e, s, l, only_names h xs σ H Q q⟩
theorem sgs_names : ∀ js : List Nat, SGs H0 (gNs js) (gNames js)
  | [] => fun xs tx τ M R σ H Q h t rx rs rm k => by
    cases rx with
    | nil => exact ⟨rfl, k σ H τ M .refl rs rm h⟩
    | cons r rs' => exact h.elim
  | j :: js => fun xs tx τ M R σ H Q h t rx rs rm k => by
    cases rx with
    | nil => exact h.elim
    | cons r rs' => exact ⟨_, _, rfl, sgs_names js _ _ _ M R _ H Q h t rs' (rs.set r) rm k⟩
theorem sg_tup {K : Fg} {n : Nat} {gs : Gs3} {ts : TGs} (s : SGs H0 gs ts) : SG H0 (gTp n gs) (gTup K n ts) := fun x tx τ M R σ H Q h t rx rs rm k => by
  cases tx with
  | tup us =>
    cases rx with
    | @tup a _ vs ea rv =>
      cases q : Nat.beq us.length n with
      | true =>
        unfold gTp at h
        simp only [q] at h
        exact ⟨a, vs, rfl, SqT.of ea, rv.len.trans (Nat.eq_of_beq_eq_true q), s vs us τ M R σ H Q h t rv rs rm k⟩
      | false =>
        unfold gTp at h
        simp only [q] at h
  | _ => exact h.elim
structure LTs (X : Cx) (H0 : Hp) (ifs : List Expr) (m : B3) : Prop where
  ex : ∃ t, PTs X ifs t ∧ SB H0 m t
def bYes : B3 := fun _ M R => R true M
theorem lts_nil : LTs X H0 [] bYes := ⟨_, pts_nil, fun τ M R σ H Q h t rs rm k => k true H M .refl rm h⟩
theorem lts_one (h : LT X H0 e mA) : LTs X H0 [e] mA := let ⟨_, p, s⟩ := h.ex; ⟨_, pts_one p, s⟩
theorem fam_e {ι : Type} {F : ι → Cx} (h : ∀ i, LE (F i) H0 e m) : ∃ t, (∀ i, PE (F i) e t) ∧ SE H0 m t :=
  ⟨fun σ H Q => ∀ i, Classical.choose (h i).ex σ H Q, fun i => ⟨fun pins s σ H Q I hw => (Classical.choose_spec (h i).ex).1.run pins s σ H Q I (hw i)⟩, fun τ M R σ H Q hm t rs rm k i => (Classical.choose_spec (h i).ex).2 τ M R σ H Q hm t rs rm k⟩
theorem fam_t {ι : Type} {F : ι → Cx} {ifs : List Expr} (h : ∀ i, LTs (F i) H0 ifs mA) : ∃ t, (∀ i, PTs (F i) ifs t) ∧ SB H0 mA t :=
  ⟨fun σ H Q => ∀ i, Classical.choose (h i).ex σ H Q, fun i => ⟨fun pins s σ H Q I hw => (Classical.choose_spec (h i).ex).1.run pins s σ H Q I (hw i)⟩, fun τ M R σ H Q hm t rs rm k i => (Classical.choose_spec (h i).ex).2 τ M R σ H Q hm t rs rm k⟩
def lcBody (items : List T) (Gd : Mh → Prop) (g : G3) (mt : B3) (me : E3) (vs : List Nat) (τ : Ts) (M1 : Mh) (p : Addr) (R : K3) : Prop := ∃ I : Nat → Mh → Prop, I 0 (up M1 p (.lst [])) ∧ (∀ i M, I i M → Gd M) ∧
  (∀ i x M, items[i]? = some x → I i M → g x (wip τ vs) M fun τ2 M2 => mt τ2 M2 fun b M3 => match b with
    | true => me τ2 M3 fun y M4 => (match M4 p with
      | some (.lst acc) => acc.length < sizeLine ∧ I (i + 1) (up M4 p (.lst (acc ++ [y])))
      | _ => False)
    | false => I (i + 1) M3) ∧ ∀ M, I items.length M → R (.ref p) M
def eLc (mi : I3) (g : G3) (mt : B3) (me : E3) (vs : List Nat) : E3 := fun τ M R => mi τ M fun items Gd M1 => ∀ p, M1 p = none → lcBody items Gd g mt me vs τ M1 p R
abbrev BI := Shared × Hp × Addr × List (Str × Addr) × List Addr
theorem lc_ex {elt iter : Expr} {ifs : List Expr} {scope : Scope} {own : List (Str × Nat)} {mi : I3} {g : G3} {tG : TG} {mt : B3} {me : E3} (hi : LI X H0 tg iter mi) (sg : SG H0 g tG) (on : Only (own.map (·.2)) tG)
    (ht : ∀ (s : Shared) (H : Hp) (C : Addr) (cl : List (Str × Addr)) (fp : List Addr), LTs (X.blk s H scope (compEnvC scope cl C X.env) fp) H0 ifs mt)
    (he : ∀ (s : Shared) (H : Hp) (C : Addr) (cl : List (Str × Addr)) (fp : List Addr), LE (X.blk s H scope (compEnvC scope cl C X.env) fp) H0 elt me) :
    ∃ wi tt te, PI X tg iter wi ∧ (∀ (s : Shared) (H : Hp) (C : Addr) (cl : List (Str × Addr)) (fp : List Addr), PTs (X.blk s H scope (compEnvC scope cl C X.env) fp) ifs tt) ∧ (∀ (s : Shared) (H : Hp) (C : Addr) (cl : List (Str × Addr)) (fp : List Addr), PE (X.blk s H scope (compEnvC scope cl C X.env) fp) elt te) ∧
      SE H0 (eLc mi g mt me (own.map (·.2))) (tLc wi tG tt te (own.map (·.2))) := by
  obtain ⟨wi, pi, si⟩ := hi.ex
  obtain ⟨te, pe, se⟩ := fam_e (F := fun (i : BI) => X.blk i.1 i.2.1 scope (compEnvC scope i.2.2.2.1 i.2.2.1 X.env) i.2.2.2.2) fun i => he i.1 i.2.1 i.2.2.1 i.2.2.2.1 i.2.2.2.2
  obtain ⟨tt, pt, sT⟩ := fam_t (F := fun (i : BI) => X.blk i.1 i.2.1 scope (compEnvC scope i.2.2.2.1 i.2.2.1 X.env) i.2.2.2.2) fun i => ht i.1 i.2.1 i.2.2.1 i.2.2.2.1 i.2.2.2.2
  refine ⟨wi, tt, te, pi, fun s H C cl fp => pt (s, H, C, cl, fp), fun s H C cl fp => pe (s, H, C, cl, fp), fun τ M R σ H Q h t rs rm k => si τ M _ σ H _ h t rs rm fun J H1 items Gd M1 t1 rm1 w h1 => fun D nD => ?_⟩
  obtain ⟨I, i0, ig, is, id⟩ := h1 D (rm1.free nD)
  refine ⟨fun i m H' => m = items.length - i ∧ i ≤ items.length ∧ ∃ M, Tups H1 H' ∧ RM H' M ∧ I i M, ⟨_, rfl, Nat.zero_le _, _, .new nD, rm1.new (mo := .lst []) nD ⟨[], upd_same, .nil⟩, i0⟩, ?_⟩
  rintro i m H2 ⟨rfl, hi, M2, t2, rm2, hI⟩
  have hG := ig i M2 hI
  have rsw := rs_wip ((rs.mv t1).mv t2) (own.map (·.2))
  by_cases hlt : i < items.length
  · refine .inr ⟨w.goes i H2 M2 hlt t2 rm2 hG, fun H' => ∃ M', Tups H1 H' ∧ RM H' M' ∧ I (i + 1) M', fun H' q => ⟨_, by omega, rfl, by omega, q⟩, fun x H' y => ?_⟩
    obtain ⟨tx, hx, t3, rx, rm3, _⟩ := w.yields i H2 M2 x H' hlt t2 rm2 hG y
    have := on x (wipe σ (own.map (·.2))) H' _ (sg x tx _ M2 _ _ H' (fun σ2 H2 => tt σ2 H2 fun b H3 => if b = true then te σ2 H3 fun y H4 => ∃ acc, H4 D = some (.lst acc) ∧ acc.length < sizeLine ∧ ∃ M', Tups H1 (upd H4 D (.lst (acc ++ [y]))) ∧ RM (upd H4 D (.lst (acc ++ [y]))) M' ∧ I (i + 1) M' else ∃ M', Tups H1 H3 ∧ RM H3 M' ∧ I (i + 1) M') (is i tx M2 hx hI) ((t.trans t1).trans (t2.trans t3)) rx (rsw.mv t3) rm3 fun σ4 H4 τ4 M4 t4 rs4 rm4 h4 => ?_)
    · rw [wipe_wipe] at this
      exact this
    · refine sT τ4 M4 _ σ4 H4 _ h4 ((t.trans t1).trans (t2.trans (t3.trans t4))) rs4 rm4 fun b H5 M5 t5 rm5 h5 => ?_
      cases b with
      | true =>
        rw [if_pos rfl]
        refine se τ4 M5 _ σ4 H5 _ h5 ((t.trans t1).trans (t2.trans (t3.trans (t4.trans t5)))) (rs4.mv t5) rm5 fun v H6 tv M6 t6 rv rm6 h6 => ?_
        split at h6
        · rename_i acc q
          obtain ⟨vs, e6, r6⟩ := rm6 D _ q
          have nt : NT H6 D := ⟨_, e6, rfl⟩
          refine ⟨vs, e6, by rw [r6.len]; exact h6.1, _, (t2.trans (t3.trans (t4.trans (t5.trans t6)))).trans (.put nt), rm6.put (mo := .lst (acc ++ [tv])) nt ⟨_, upd_same, ?_⟩, h6.2⟩
          exact (r6.app (.cons rv .nil)).mv (.put nt)
        · exact h6.elim
      | false =>
        rw [if_neg (by decide)]
        exact ⟨M5, t2.trans (t3.trans (t4.trans t5)), rm5, h5⟩
  · have e : i = items.length := by omega
    subst e
    exact .inl ⟨w.stops H2 M2 t2 rm2 hG, k _ H2 (.ref D) M2 (t1.trans t2) (.ref D) rm2 (id M2 hI)⟩
theorem le_lc0 {elt iter : Expr} {ifs : List Expr} {scope : Scope} {own : List (Str × Nat)} {mi : I3} {g : G3} {tG : TG} {mt : B3} {me : E3} (hc : X.calm = true) (hN : X.N.Nodup) (hi : LI X H0 tg iter mi) (ok : BlkOk X.N X.env.scope scope own) (sg : SG H0 g tG) (on : Only (own.map (·.2)) tG)
    (hg : ∀ (s : Shared) (H : Hp) (C : Addr) (cl : List (Str × Addr)) (fp : List Addr), PG (X.blk s H scope (compEnvC scope cl C X.env) fp) tg tG)
    (ht : ∀ (s : Shared) (H : Hp) (C : Addr) (cl : List (Str × Addr)) (fp : List Addr), LTs (X.blk s H scope (compEnvC scope cl C X.env) fp) H0 ifs mt)
    (he : ∀ (s : Shared) (H : Hp) (C : Addr) (cl : List (Str × Addr)) (fp : List Addr), LE (X.blk s H scope (compEnvC scope cl C X.env) fp) H0 elt me) (hs : ∀ x, foldedSetIterable iter X.env x = pure x := by intro _; rfl) :
    LE X H0 (.ListComp elt [⟨tg, iter, ifs, 0⟩] scope pos) (eLc mi g mt me (own.map (·.2))) :=
  let ⟨_, _, _, pi, pt, pe, se⟩ := lc_ex hi sg on ht he
  ⟨_, pe_lc hc hN pi ok hg pt pe hs, se⟩
theorem ls_lc0 {i : Nat} {y : Str} {py spos : Pos} {elt iter : Expr} {ifs : List Expr} {scope : Scope} {own : List (Str × Nat)} {mi : I3} {g : G3} {tG : TG} {mt : B3} {me : E3} (hc : X.calm = true) (hN : X.N.Nodup) (hy : X.N[i]? = some y) (hyl : X.env.scope.names.lookup y = some .local)
    (hsw : swapsWith (.ListComp elt [⟨tg, iter, ifs, 0⟩] scope pos) (some (.Name y py)) spos.line X.env = pure true) (hi : LI X H0 tg iter mi) (ok : BlkOk X.N X.env.scope scope own) (sg : SG H0 g tG) (on : Only (own.map (·.2)) tG)
    (hg : ∀ (s : Shared) (H : Hp) (C : Addr) (cl : List (Str × Addr)) (fp : List Addr), PG (X.blk s H scope (compEnvC scope cl C X.env) fp) tg tG)
    (ht : ∀ (s : Shared) (H : Hp) (C : Addr) (cl : List (Str × Addr)) (fp : List Addr), LTs (X.blk s H scope (compEnvC scope cl C X.env) fp) H0 ifs mt)
    (he : ∀ (s : Shared) (H : Hp) (C : Addr) (cl : List (Str × Addr)) (fp : List Addr), LE (X.blk s H scope (compEnvC scope cl C X.env) fp) H0 elt me) (hs : ∀ x, foldedSetIterable iter X.env x = pure x := by intro _; rfl) :
    LS X H0 (.Assign [.Name y py] (.ListComp elt [⟨tg, iter, ifs, 0⟩] scope pos) spos) (sAsg (eLc mi g mt me (own.map (·.2))) (gNm i)) :=
  let ⟨_, _, _, pi, pt, pe, se⟩ := lc_ex hi sg on ht he
  ⟨_, ps_setLc hc hN hy hyl hsw pi ok hg pt pe hs, ss_asg se (sg_name i)⟩
end
end L3
set_option Elab.async false
set_option linter.all false
set_option maxRecDepth 100000
set_option maxHeartbeats 1000000
/-! repr of data, where no repr is under way: a def's promise for such arounds alone, and a law's end by it -/
namespace G
open PySem PySem.Spec PyProof.Rows L2
theorem cr_repr {X : Cx} (hg : X.A.guards = some []) (hu : X.A.units + 64 < cLine) : CallR X (.builtin "repr") (fun xs H Q => ∃ (a : Addr) (d : PyData), xs = [.ref a] ∧ Dp X.K H (.ref a) d ∧ d.showable = true ∧ d.hasDict = false ∧ d.depth ≤ 50 ∧ d.shown.length ≤ sizeLine ∧ Q (.str d.shown) H) := by
  intro pins s σ H xs us Q I r h
  obtain ⟨a, d, rfl, hd, hs, hn, hdp, hz, q⟩ := h
  obtain ⟨u, rfl, ru⟩ := vals1 r
  cases ru
  obtain ⟨as, rd⟩ := Dp.reads I d (.ref a) (.ref a) hd rfl
  exact repr_of_reads' rd hs (fun z => by rw [hn] at z; cases z) hg (by omega) (fun _ _ e => e) (fun h' u tk hk => ⟨.str d.shown, H, I.kept (t' := tk) hk, ⟨u, rfl⟩, q⟩) hz
structure FnG (P : Program) (w : World) (K : PySem.W.Frag) (mg : Str → Option Value) (base : Heap) (k : Nat) (f : Addr) (fd : FuncData) (ps : List Str) (sp : Sp) : Prop where
  run : ∀ (A : Around) (outer : List Env) (s : Shared) (H : Hp) (args : Args) (us : List Value) (vs : List V) (Q : VK) (E : XK), A.guards = some [] → Room k A → Env0 P w K mg base A outer s H → BindsTo s fd args (ps.zip us) → Vals vs us → sp vs H Q E →
    codeAny (model P w) A (.call (.ref f) args) (CR CX0 outer P w H s Q E) s
theorem Fun.okG {P : Program} {w : World} {K : PySem.W.Frag} {mg : Str → Option Value} {base : Heap} {x qual : Str} {st : Stmt} {f : Addr} {fd : FuncData} {N ps : List Str} {k : Nat} {sp : Sp} (F : L2.Fun K x qual st f fd) (S : FnScope N ps (defScope st)) (len : ∀ vs H Q E, sp vs H Q E → vs.length = ps.length)
    (hbody : ∀ (cdv : Value) (A : Around) (outer : List Env) (s : Shared) (H : Hp) (vs : List V) (Q : VK) (E : XK), (A.deeper (envOfC qual (defScope st) s.heap.objs.size f cdv)).guards = some [] → Room k (A.deeper (envOfC qual (defScope st) s.heap.objs.size f cdv)) → sp vs H Q E →
      ∃ t, PSs (cxOf CX0 P w K mg base N qual (defScope st) f cdv A outer s H E).nox (defBody st) t ∧ t { nx := fun _ H' => Q .non H', rt := Q } (start N vs) H) : FnG P w K mg base (k + 1) f fd ps sp := by
  obtain ⟨c0, d0, k0, dc, pm, an, cdv, ct, sl, rfl, lk, hcd⟩ := F.ex
  refine ⟨fun A outer s H args us vs Q E gA hr e0 hb r hsp => ?_⟩
  have kin : K.In s.heap := e0.mod.kin.keeps fun b o e => (e0.bs b o e).1
  have lim : s.heap.NoLimit := e0.mod.nolimit.keeps fun b o e => (e0.bs b o e).1
  have kinds : ∀ y ∈ ps.zip us, (defScope st).names.lookup y.1 = some .local ∨ ((defScope st).names.lookup y.1 = some .cell ∧ ((cellsFrom (s.heap.objs.size + 1) (defScope st).names []).lookup y.1).isSome = true) := fun ⟨n, v⟩ hy =>
    (S.par n (List.of_mem_zip hy).1).elim .inl fun q => .inr ⟨q, PySem.W.cellsFrom_some _ _ _ (.inl q)⟩
  refine codeAny_call_function hr.depth (kin _ _ lk) rfl S.co S.gen rfl (PySem.W.codeRec_of kin hcd) (hb _ _ _ _ (wpAny_newFunctionEnv_cells S.kind kinds fun env he s1 x => ?_))
  subst he
  obtain ⟨t, ht, hq⟩ := hbody cdv A outer s H vs Q E gA (hr.deeper _) hsp
  have I : Inv (cxOf CX0 P w K mg base N qual (defScope st) f cdv A outer s H E) [] (start N vs) H s1 := inv_start S hr.hd e0 (len _ _ _ _ hsp) r x
  refine ⟨lim.keeps x.toInCall.keep, codeAny_func (wpAny_mono (ht.nox.run [] s1 (start N vs) H _ I hq) (fun fl s' hs => ?_) fun e s' hs => hs)⟩
  cases fl with
  | brk => exact hs.elim fun _ hs => hs.elim fun _ hs => hs.2.elim
  | cont => exact hs.elim fun _ hs => hs.elim fun _ hs => hs.2.elim
  | ret u =>
    obtain ⟨v, σ', H', J, rv, q⟩ := hs
    exact ⟨v, H', J.os, J.bare, J.base, J.hok, rv, q⟩
  | next =>
    obtain ⟨σ', H', J, q⟩ := hs
    exact ⟨.non, H', J.os, J.bare, J.base, J.hok, rfl, q⟩
theorem law_callG {P : Program} {w : World} {K : PySem.W.Frag} {mg mb : Str → Option Value} {k : Nat} {fa a : Addr} {fd : FuncData} {x : Str} {sp : Sp} {s₁ : Shared} {vs : List Value} {ns : List Int}
    (kin : K.In s₁.heap) (hns : s₁.heap.Ns mainGlobals mg) (hb : s₁.heap.Ns builtinsNs mb) (hbb : ∀ x : Str, x ≠ "__name__" → mb x = bootBuiltins x) (hlim : s₁.heap.NoLimit) (hg : s₁.gens = #[]) (ha : s₁.heap.get? a = some { cls := .type "list", data := .seq vs.toArray }) (hi : IntsAre vs ns) (hl : ns.length ≤ sizeLine) (hr : Room k callerA)
    (F : ∀ base : Heap, K.In base → base.Ns mainGlobals mg → FnG P w K mg base k fa fd [x] sp) (hbind : ∀ (s : Shared) (u : Value), BindsTo s fd ⟨[u], []⟩ [(x, u)]) (hsp : ∀ H : Hp, Only H → SqL K H a (ns.map V.int) → sp [.ref a] H (fun v _ => v = .bl true) fun _ _ _ => False) :
    codeAny (model P w) callerA (.call (.ref fa) ⟨[.ref a], []⟩) (fun r s' => r = .ok (.ret (.bool true)) ∧ OldK s₁.heap s'.heap ∧ s'.os = s₁.os ∧ AllBare s'.gens) s₁ := by
  have rv := vals_ints hi
  have lv := hi.length
  suffices core : ∀ H : Hp, Only H → SqL K H a (ns.map V.int) → HOk P w H s₁.heap → (∀ b, H b ≠ none → b = a) → (H a ≠ none → K.lookup a = none) → codeAny (model P w) callerA (.call (.ref fa) ⟨[.ref a], []⟩) (fun r s' => r = .ok (.ret (.bool true)) ∧ OldK s₁.heap s'.heap ∧ s'.os = s₁.os ∧ AllBare s'.gens) s₁ by
    cases hk : K.lookup a with
    | some o =>
      have e := kin a o hk
      rw [ha] at e
      cases e
      refine core (fun _ => none) (fun _ => .inl rfl) (.inr ⟨_, vs.toArray, _, hk, rfl, rfl, rfl, ?_, by simpa using rv⟩) (fun b u z => by cases (show (none : Option HO) = some u from z)) (fun b z => (z rfl).elim) fun z => (z rfl).elim
      rw [List.size_toArray, lv]
      exact hl
    | none =>
      have at1 : ∀ b, b = a → (if b = a then some (HO.frz { cls := .type "list", data := .seq vs.toArray } (.lst (ns.map V.int))) else none) = some (HO.frz { cls := .type "list", data := .seq vs.toArray } (.lst (ns.map V.int))) := fun b z => if_pos z
      have at0 : ∀ b, b ≠ a → (if b = a then some (HO.frz { cls := .type "list", data := .seq vs.toArray } (.lst (ns.map V.int))) else none) = none := fun b z => if_neg z
      refine core (fun b => if b = a then some (.frz { cls := .type "list", data := .seq vs.toArray } (.lst (ns.map V.int))) else none) (fun b => ?_) (.inl (.inr ⟨_, at1 a rfl⟩)) (fun b u z => ?_) (fun b z => ?_) fun _ => hk
      · by_cases q : b = a
        · exact .inr ⟨_, _, at1 b q⟩
        · exact .inl (at0 b q)
      · by_cases q : b = a
        · cases (at1 b q).symm.trans z
          subst q
          exact ⟨ha, by rw [List.length_map]; exact hl, vs, _, rv, ha⟩
        · cases (at0 b q).symm.trans z
      · by_cases q : b = a
        · exact q
        · exact absurd (at0 b q) z
  intro H hO hS hok hA hK
  have below : ∀ {b : Addr} {o : Obj}, s₁.heap.get? b = some o → H b = none → (hidT s₁.heap H).get? b = some o := fun e n => hidT_get e n
  have isA : ∀ {b : Addr} {u : HO}, H b = some u → b = a := fun {b u} q => hA b (by rw [q]; simp)
  have dicts : ∀ {b : Addr} {o : Obj} {es : Array DictEntry} {ep : Nat}, s₁.heap.get? b = some o → o.data = .dict es ep → H b = none := fun {b o es ep} e d => by
    cases q : H b with
    | none => rfl
    | some u =>
      have z := isA q
      subst z
      rw [ha] at e
      cases e
      cases (show Data.seq vs.toArray _ = Data.dict es ep from d)
  have spaces : ∀ {b : Addr} {m : Str → Option Value}, s₁.heap.Ns b m → (hidT s₁.heap H).Ns b m := fun {b m} ⟨o, es, ep, e, d, r⟩ => ⟨o, es, ep, below e (dicts e d), d, r⟩
  have kinB : K.In (hidT s₁.heap H) := fun b o e => below (kin b o e) (by
    cases q : H b with
    | none => rfl
    | some u =>
      have z := isA q
      subst z
      rw [hK (by rw [q]; simp)] at e
      cases e)
  have md : Mod K mg (hidT s₁.heap H) := ⟨kinB, spaces hns, ⟨mb, spaces hb, hbb⟩, let ⟨mc, h1, h2⟩ := hlim; ⟨mc, spaces h1, h2⟩⟩
  have ev : Env0 P w K mg (hidT s₁.heap H) callerA [] s₁ H := ⟨rfl, md, fun b o e => of_hidT e, Nat.le_of_eq (hidT_size _ _), trivial, fun b hb => (by cases (show b ∈ ([] : List Addr) from hb)), hok, .of_eq hg⟩
  refine codeAny_mono ((F _ kinB (spaces hns)).run callerA [] s₁ H ⟨[.ref a], []⟩ [.ref a] [.ref a] _ _ rfl hr ev (hbind s₁ (.ref a)) (.cons rfl .nil) (hsp H hO hS)) fun r s' h => ?_
  cases r with
  | error e => exact h.elim
  | ok fl =>
    cases fl with
    | ret u =>
      obtain ⟨v, H', os, bare, un, hok', r', q⟩ := h
      cases (show v = .bl true from q)
      cases (show u = Value.bool true from r')
      refine ⟨rfl, OldK.of_keep fun b o e => ?_, os, bare⟩
      rcases hO b with z | ⟨ob, xs, z⟩
      · exact un.keep b o e z (fun y => by cases (show b ∈ ([] : List Addr) from y)) (by simp)
      · obtain ⟨e1, _⟩ := hok b _ z
        obtain ⟨e2, _⟩ := hok' b _ (un.frzs b ob _ z)
        rw [e] at e1
        cases e1
        exact e2
    | _ => exact h.elim
theorem walk_ofG {l : PySem.W.OpenLaw} {n k : Nat} {q : Program} {loose : List Str} {XP : (Str → Option Value) → Heap → Prop} {YP : World → Heap → Prop} {d : DefRec} {K : Params → PySem.W.Frag} {sp : World → Sp} {x : Str} (hn : l.most = some n) (hn2 : n ≤ sizeLine) (hdf : d.params.defaults = []) (hr : Room k callerA) (hY : ∀ (w : World) (h : Heap), YP w h → (K w.params).In h)
    (F : ∀ (w : World) (mg : Str → Option Value) (fa : Addr) (h : Heap), (K w.params).In h → h.Ns mainGlobals mg → mg d.name = some (.ref fa) → ∃ fd : FuncData, (∀ (s : Shared) (u : Value), BindsTo s fd ⟨[u], []⟩ [(x, u)]) ∧ ∀ base : Heap, (K w.params).In base → base.Ns mainGlobals mg → FnG l.prog w (K w.params) mg base k fa fd [x] (sp w))
    (hsp : ∀ (w : World) (H : Hp) (a : Addr) (ns : List Int), ns.length ≤ n → Only H → SqL (K w.params) H a (ns.map V.int) → sp w [.ref a] H (fun v _ => v = .bl true) fun _ _ _ => False) : PySem.W.WalkO q loose XP YP l.row.toRowW d [] (fun f vs => PySem.call f vs) := by
  refine Att.attach_call hn hdf fun w s₀ s₁ mg mb fa o pm cd doc a vs ns G Y ho hd hcd hmg hobj hints hlen hg => ?_
  have kin := hY w _ Y
  obtain ⟨fd, hb, hF⟩ := F w mg fa _ kin G.T.g hmg
  exact law_callG kin G.T.g G.T.b G.T.builtins G.T.nolimit hg hobj hints (Nat.le_trans hlen hn2) hr hF hb fun H hO hS => hsp w H a ns hlen hO hS
end G
set_option Elab.async false
set_option linter.all false
set_option maxRecDepth 100000
set_option maxHeartbeats 1000000
set_option autoImplicit false
namespace L3
open PySem PySem.Spec PyProof.Rows L2
/-! ### data -/
mutual
inductive Dt (M : Mh) : T → PyData → Prop
  | non : Dt M .non .none
  | bl (b : Bool) : Dt M (.bl b) (.bool b)
  | int (i : Int) : Dt M (.int i) (.int i)
  | str (x : Str) : Dt M (.str x) (.str x)
  | lst {a : Addr} {xs : List T} {ds : List PyData} : M a = some (.lst xs) → Dts M xs ds → Dt M (.ref a) (.list ds)
  | tup {xs : List T} {ds : List PyData} : Dts M xs ds → Dt M (.tup xs) (.tuple ds)
inductive Dts (M : Mh) : List T → List PyData → Prop
  | nil : Dts M [] []
  | cons {x : T} {xs : List T} {d : PyData} {ds : List PyData} : Dt M x d → Dts M xs ds → Dts M (x :: xs) (d :: ds)
end
mutual
theorem Dt.dp {K : Fg} {H : Hp} {M : Mh} (rm : RM H M) : ∀ {d : PyData} {x : T} {v : V}, Dt M x d → Rp H x v → Dp K H v d
  | _, _, _, .non, .non => .non
  | _, _, _, .bl b, .bl _ => .bl b
  | _, _, _, .int b, .int _ => .int b
  | _, _, _, .str b, .str _ => .str b
  | .list ds, .ref a, _, .lst e ds', .ref _ => by
    obtain ⟨vs, h, r⟩ := rm a _ e
    exact .lst (SqL.of h) (Dts.dp rm ds' r)
  | _, _, _, .tup ds, .tup e r => .tup (SqT.of e) (Dts.dp rm ds r)
theorem Dts.dp {K : Fg} {H : Hp} {M : Mh} (rm : RM H M) : ∀ {ds : List PyData} {xs : List T} {vs : List V}, Dts M xs ds → Rps H xs vs → DpAll K H vs ds
  | _, _, _, .nil, .nil => .nil
  | _, _, _, .cons d ds, .cons r rs => .cons (Dt.dp rm d r) (Dts.dp rm ds rs)
end
section
variable {X : Cx} {H0 : Hp} {a b e tg : Expr} {es : List Expr} {pos : Pos} {ma mb m : E3} {mA mB : B3} {mAs : A3}
/-! ### operators -/
def oAdd : O3 := fun x y M R => match x, y with
  | .int i, .int j => R (.int (i + j)) M
  | .str i, .str j => i.length + j.length ≤ sizeLine ∧ R (.str (i ++ j)) M
  | .tup xs, .tup ys => xs.length + ys.length ≤ sizeLine ∧ R (.tup (xs ++ ys)) M
  | .ref a, .ref b => (match M a, M b with
    | some (.lst xs), some (.lst ys) => xs.length + ys.length ≤ sizeLine ∧ ∀ p, M p = none → R (.ref p) (up M p (.lst (xs ++ ys)))
    | _, _ => False)
  | _, _ => False
theorem so_add {K : Fg} : SO (fun x y H Q => rI0 (fun i j => .int (i + j)) x y H Q ∨ (∃ i j, x = .str i ∧ y = .str j ∧ i.length + j.length ≤ sizeLine ∧ Q (.str (i ++ j)) H) ∨ rCatA K x y H Q ∨ rCat x y H Q) oAdd := fun x y tx ty H M R Q h rx ry rm k => by
  unfold oAdd at h
  split at h
  · cases rx; cases ry
    exact .inl ⟨_, _, rfl, rfl, k.at (.int _) rm h⟩
  · cases rx; cases ry
    exact .inr (.inl ⟨_, _, rfl, rfl, h.1, k.at (.str _) rm h.2⟩)
  · cases rx with
    | tup e1 r1 =>
      cases ry with
      | tup e2 r2 =>
        refine .inr (.inr (.inl ⟨_, _, _, _, rfl, rfl, SqT.of e1, SqT.of e2, by rw [r1.len, r2.len]; exact h.1, fun z => ?_, fun z w => ?_, fun z w p np => ?_⟩))
        · subst z
          cases r1
          exact k.at (.tup e2 r2) rm h.2
        · subst w
          cases r2
          rw [List.append_nil] at h
          exact k.at (.tup e1 r1) rm h.2
        · exact k _ _ _ M (.new np) (.tup upd_same ((r1.app r2).mv (.new np))) (rm.new0 np) h.2
  · cases rx; cases ry
    split at h
    · rename_i xs ys q1 q2
      obtain ⟨vs, e1, r1⟩ := rm _ _ q1
      obtain ⟨ws, e2, r2⟩ := rm _ _ q2
      refine .inr (.inr (.inr ⟨_, _, vs, ws, rfl, rfl, e1, e2, by rw [r1.len, r2.len]; exact h.1, fun p np => ?_⟩))
      exact k _ _ _ _ (.new np) (.ref p) (rm.new (mo := .lst (xs ++ ys)) np ⟨_, upd_same, (r1.app r2).mv (.new np)⟩) (h.2 p (rm.free np))
    · exact h.elim
  · exact h.elim
theorem le_add (ha : LE X H0 a ma) (hb : LE X H0 b mb) : LE X H0 (.BinOp a .Add b pos) (eOp oAdd ma mb) := le_op (op_add.or (op_add_str.or (op_catA.or op_cat))) so_add ha hb
def oI (C : Int → Int → Prop) (g : Int → Int → T) : O3 := fun x y M R => match x, y with
  | .int i, .int j => C i j ∧ R (g i j) M
  | _, _ => False
def oI0 (g : Int → Int → T) : O3 := fun x y M R => match x, y with
  | .int i, .int j => R (g i j) M
  | _, _ => False
theorem so_I {C : Int → Int → Prop} {g : Int → Int → T} {g' : Int → Int → V} (hg : ∀ i j H, Rp H (g i j) (g' i j)) : SO (rI C g') (oI C g) := fun x y tx ty H M R Q h rx ry rm k => by
  unfold oI at h
  split at h
  · cases rx; cases ry
    exact ⟨_, _, rfl, rfl, h.1, k.at (hg _ _ _) rm h.2⟩
  · exact h.elim
theorem so_I0 {g : Int → Int → T} {g' : Int → Int → V} (hg : ∀ i j H, Rp H (g i j) (g' i j)) : SO (rI0 g') (oI0 g) := fun x y tx ty H M R Q h rx ry rm k => by
  unfold oI0 at h
  split at h
  · cases rx; cases ry
    exact ⟨_, _, rfl, rfl, k.at (hg _ _ _) rm h⟩
  · exact h.elim
theorem le_sub (ha : LE X H0 a ma) (hb : LE X H0 b mb) : LE X H0 (.BinOp a .Sub b pos) (eOp (oI0 fun i j => .int (i - j)) ma mb) := le_op op_sub (so_I0 fun _ _ _ => .int _) ha hb
def oMul : O3 := fun x y M R => match x, y with
  | .int i, .int j => CMulW i j ∧ R (.int (i * j)) M
  | .ref a, .int j => (match M a with
    | some (.lst xs) => (-(2 ^ 63) ≤ j ∧ j < 2 ^ 63 ∧ xs.length * j.toNat ≤ sizeLine) ∧ ∀ p, M p = none → R (.ref p) (up M p (.lst (List.replicate j.toNat xs).flatten))
    | _ => False)
  | _, _ => False
theorem le_mul (ha : LE X H0 a ma) (hb : LE X H0 b mb) : LE X H0 (.BinOp a .Mult b pos) (eOp (oI CMulW fun i j => .int (i * j)) ma mb) := le_op op_mulW (so_I fun _ _ _ => .int _) ha hb
theorem le_fdiv (ha : LE X H0 a ma) (hb : LE X H0 b mb) : LE X H0 (.BinOp a .FloorDiv b pos) (eOp (oI G.CDivG fun i j => .int (i.fdiv j)) ma mb) := le_op G.op_fdivG (so_I fun _ _ _ => .int _) ha hb
theorem le_mod (ha : LE X H0 a ma) (hb : LE X H0 b mb) : LE X H0 (.BinOp a .Mod b pos) (eOp (oI (fun _ j => j ≠ 0) fun i j => .int (i.fmod j)) ma mb) := le_op op_modN (so_I fun _ _ _ => .int _) ha hb
theorem le_pow (ha : LE X H0 a ma) (hb : LE X H0 b mb) : LE X H0 (.BinOp a .Pow b pos) (eOp (oI CPow fun i j => .int (i ^ j.toNat)) ma mb) := le_op op_pow (so_I fun _ _ _ => .int _) ha hb
def oNeg : U3 := fun x M R => match x with
  | .int i => R (.int (-i)) M
  | _ => False
theorem le_neg (ha : LE X H0 a ma) : LE X H0 (.UnaryOp .USub a pos) (eUn oNeg ma) := le_un un_neg (fun x tx H M R Q h rx rm k => by
  unfold oNeg at h
  split at h
  · cases rx
    exact ⟨_, rfl, k.at (.int _) rm h⟩
  · exact h.elim) ha
/-! ### comparisons -/
def oCmp (f : Int → Int → Bool) (g : Str → Str → Bool) : O3 := fun x y M R => match x, y with
  | .int i, .int j => R (.bl (f i j)) M
  | .str i, .str j => R (.bl (g i j)) M
  | _, _ => False
theorem so_cmp {f : Int → Int → Bool} {g : Str → Str → Bool} : SO (fun x y H Q => rI0 (fun i j => .bl (f i j)) x y H Q ∨ ∃ i j, x = .str i ∧ y = .str j ∧ Q (.bl (g i j)) H) (oCmp f g) := fun x y tx ty H M R Q h rx ry rm k => by
  unfold oCmp at h
  split at h
  · cases rx; cases ry
    exact .inl ⟨_, _, rfl, rfl, k.at (.bl _) rm h⟩
  · cases rx; cases ry
    exact .inr ⟨_, _, rfl, rfl, k.at (.bl _) rm h⟩
  · exact h.elim
abbrev oLt : O3 := oCmp (fun i j => decide (i < j)) fun i j => decide (i.cps.toList < j.cps.toList)
abbrev oLe : O3 := oCmp (fun i j => decide (i ≤ j)) fun i j => decide (i.cps.toList ≤ j.cps.toList)
abbrev oGt : O3 := oCmp (fun i j => decide (j < i)) fun i j => decide (j.cps.toList < i.cps.toList)
abbrev oGe : O3 := oCmp (fun i j => decide (j ≤ i)) fun i j => decide (j.cps.toList ≤ i.cps.toList)
theorem op_ltU : OpR X (compareOp .Lt) (fun x y H Q => rI0 (fun i j => .bl (decide (i < j))) x y H Q ∨ ∃ i j, x = .str i ∧ y = .str j ∧ Q (.bl (decide (i.cps.toList < j.cps.toList))) H) := op_lt.or op_lt_str
end
end L3
set_option Elab.async false
set_option linter.all false
set_option maxRecDepth 100000
set_option maxHeartbeats 1000000
set_option autoImplicit false
namespace L3
open PySem PySem.Spec PyProof.Rows L2
/-- an operator by its two readings -/
structure OK3 (X : Cx) (f : Value → Value → Sem Value) (o : O3) : Prop where
  ex : ∃ r, OpR X f r ∧ SO r o
section
variable {X : Cx} {H0 : Hp} {a b c e tg : Expr} {es : List Expr} {pos : Pos} {ma mb mc m : E3} {mA mB : B3} {mAs : A3} {o o' : O3}
theorem le_c {op : CmpOp} (h : OK3 X (compareOp op) o) (ha : LE X H0 a ma) (hb : LE X H0 b mb) (hm : behindInMarks op b = false := by first | exact nobehind _ (by decide) (by decide) | rfl) : LE X H0 (.Compare a [op] [b] pos) (eOp o ma mb) := let ⟨_, p, s⟩ := h.ex; le_cmp p s ha hb hm
theorem lt_c {op : CmpOp} (h : OK3 X (compareOp op) o) (ha : LE X H0 a ma) (hb : LE X H0 b mb) (hm : behindInMarks op b = false := by first | exact nobehind _ (by decide) (by decide) | rfl) : LT X H0 (.Compare a [op] [b] pos) (bV (eOp o ma mb)) := let ⟨_, p, s⟩ := h.ex; lt_cmp p s ha hb hm
def eChain (o o' : O3) (ma mb mc : E3) : E3 := fun τ M R => ma τ M fun x M1 => mb τ M1 fun y M2 => o x y M2 fun z M3 => match z with
  | .bl true => mc τ M3 fun w M4 => o' y w M4 R
  | .bl false => R (.bl false) M3
  | _ => False
theorem le_chain {op op' : CmpOp} (h : OK3 X (compareOp op) o) (h' : OK3 X (compareOp op') o') (ha : LE X H0 a ma) (hb : LE X H0 b mb) (hc : LE X H0 c mc) (hm : lastMarks [op, op'] [b, c] = false := by with_unfolding_all rfl) : LE X H0 (.Compare a [op, op'] [b, c] pos) (eChain o o' ma mb mc) := by
  obtain ⟨r, p, s⟩ := h.ex
  obtain ⟨r', p', s'⟩ := h'.ex
  obtain ⟨_, pa, sa⟩ := ha.ex
  obtain ⟨_, pb, sb⟩ := hb.ex
  obtain ⟨_, pc, sc⟩ := hc.ex
  refine ⟨_, pe_chain p p' pa pb pc hm, fun τ M R σ H Q h t rs rm k => sa τ M _ σ H _ h t rs rm fun x H1 tx M1 t1 rx rm1 h1 => sb τ M1 _ σ H1 _ h1 (t.trans t1) (rs.mv t1) rm1 fun y H2 ty M2 t2 ry rm2 h2 => s x y tx ty H2 M2 _ _ h2 (rx.mv t2) ry rm2 fun z H3 tz M3 t3 rz rm3 h3 => ?_⟩
  cases tz with
  | bl b =>
    cases rz
    refine ⟨b, rfl, ?_⟩
    cases b with
    | true =>
      rw [if_pos rfl]
      exact sc τ M3 _ σ H3 _ h3 (t.trans (t1.trans (t2.trans t3))) (rs.mv (t1.trans (t2.trans t3))) rm3 fun w H4 tw M4 t4 rw' rm4 h4 => s' y w ty tw H4 M4 R Q h4 (ry.mv (t3.trans t4)) rw' rm4 (k.mv (t1.trans (t2.trans (t3.trans t4))))
    | false =>
      rw [if_neg (by decide)]
      exact (k.mv (t1.trans (t2.trans t3))).at (.bl _) rm3 h3
  | _ => exact h3.elim
theorem c_lt : OK3 X (compareOp .Lt) (oCmp (fun i j => decide (i < j)) fun i j => decide (i.cps.toList < j.cps.toList)) := ⟨_, op_lt.or op_lt_str, so_cmp⟩
theorem c_le : OK3 X (compareOp .LtE) (oCmp (fun i j => decide (i ≤ j)) fun i j => !decide (j.cps.toList < i.cps.toList)) := ⟨_, op_le.or op_le_str, so_cmp⟩
theorem c_gt : OK3 X (compareOp .Gt) (oCmp (fun i j => decide (j < i)) fun i j => decide (j.cps.toList < i.cps.toList)) := ⟨_, op_gt.or op_gt_str, so_cmp⟩
theorem c_ge : OK3 X (compareOp .GtE) (oCmp (fun i j => decide (j ≤ i)) fun i j => !decide (i.cps.toList < j.cps.toList)) := ⟨_, op_ge.or op_ge_str, so_cmp⟩
def oEq (f : Bool → Bool) : O3 := fun x y M R => match x, y with
  | .int i, .int j => R (.bl (f (decide (i = j)))) M
  | .str i, .str j => R (.bl (f (decide (i = j)))) M
  | .bl i, .bl j => R (.bl (f (decide (i = j)))) M
  | x, y => ∃ d e, Dt M x d ∧ Dt M y e ∧ SeqAt.shaped d = true ∧ SeqAt.shaped e = true ∧ R (.bl (f (PyData.eqv d e))) M
theorem so_eq {K : Fg} : SO (fun x y H Q => rEq x y H Q ∨ rEqD K x y H Q) (oEq id) := fun x y tx ty H M R Q h rx ry rm k => by
  unfold oEq at h
  split at h
  · cases rx; cases ry
    refine .inl ⟨rfl, ?_⟩
    rw [dec_int, Bool.beq_eq_decide_eq]
    exact k.at (.bl _) rm h
  · cases rx; cases ry
    refine .inl ⟨rfl, ?_⟩
    rw [dec_str, Bool.beq_eq_decide_eq]
    exact k.at (.bl _) rm h
  · cases rx; cases ry
    refine .inl ⟨rfl, ?_⟩
    rw [dec_bl, Bool.beq_eq_decide_eq]
    exact k.at (.bl _) rm h
  · obtain ⟨d, e, h1, h2, h3, h4, h5⟩ := h
    exact .inr ⟨d, e, h1.dp rm rx, h2.dp rm ry, h3, h4, k.at (.bl _) rm h5⟩
theorem so_ne {K : Fg} : SO (fun x y H Q => rNe x y H Q ∨ rNeD K x y H Q) (oEq not) := fun x y tx ty H M R Q h rx ry rm k => by
  unfold oEq at h
  split at h
  · cases rx; cases ry
    refine .inl ⟨rfl, ?_⟩
    rw [dec_int, Bool.beq_eq_decide_eq]
    exact k.at (.bl _) rm h
  · cases rx; cases ry
    refine .inl ⟨rfl, ?_⟩
    rw [dec_str, Bool.beq_eq_decide_eq]
    exact k.at (.bl _) rm h
  · cases rx; cases ry
    refine .inl ⟨rfl, ?_⟩
    rw [dec_bl, Bool.beq_eq_decide_eq]
    exact k.at (.bl _) rm h
  · obtain ⟨d, e, h1, h2, h3, h4, h5⟩ := h
    exact .inr ⟨d, e, h1.dp rm rx, h2.dp rm ry, h3, h4, k.at (.bl _) rm h5⟩
theorem c_eq {k : Nat} (hr : Room k X.A) : OK3 X (compareOp .Eq) (oEq id) := ⟨_, op_eq.or (op_eqD hr.units), so_eq⟩
theorem c_ne {k : Nat} (hr : Room k X.A) : OK3 X (compareOp .NotEq) (oEq not) := ⟨_, op_ne.or (op_neD hr.units), so_ne⟩
def isNon : T → Bool
  | .non => true
  | _ => false
theorem isNon_rp {H : Hp} {x : T} {v : V} (r : Rp H x v) : decide (v = .non) = isNon x := by cases r <;> first | rfl | exact decide_eq_false (fun z => by cases z)
def oIsN (f : Bool → Bool) : O3 := fun x y M R => match y with
  | .non => R (.bl (f (isNon x))) M
  | _ => False
theorem c_isN : OK3 X (compareOp .Is) (oIsN id) := ⟨_, op_isN, fun x y tx ty H M R Q h rx ry rm k => by
  unfold oIsN at h
  split at h
  · cases ry
    exact ⟨rfl, by rw [isNon_rp rx]; exact k.at (.bl _) rm h⟩
  · exact h.elim⟩
theorem c_notN : OK3 X (compareOp .IsNot) (oIsN not) := ⟨_, op_notN, fun x y tx ty H M R Q h rx ry rm k => by
  unfold oIsN at h
  split at h
  · cases ry
    exact ⟨rfl, by rw [isNon_rp rx]; exact k.at (.bl _) rm h⟩
  · exact h.elim⟩
/-! ### in -/
def strsB (x : Str) (xs : List T) : Option Bool := xs.foldr (fun t r => match t, r with
  | .str y, some b => some (decide (y = x) || b)
  | _, _ => none) (some false)
/-- x in a list or a tuple of texts; of data -/
def oIn (f : Bool → Bool) : O3 := fun x y M R => match y with
  | .ref a => (match M a with
    | some (.lst xs) => ∃ d ds, Dt M x d ∧ Dts M xs ds ∧ SeqAt.shaped d = true ∧ SeqAt.shaped (.list ds) = true ∧ R (.bl (f (ds.any fun z => PyData.eqv z d))) M
    | _ => False)
  | _ => False
theorem c_in {k : Nat} (hr : Room (k + 1) X.A) : OK3 X (compareOp .In) (oIn id) := ⟨_, op_inD (by have := hr.un; omega), fun x y tx ty H M R Q h rx ry rm k => by
  unfold oIn at h
  split at h
  · split at h
    · rename_i a xs q
      cases ry
      obtain ⟨d, ds, h1, h2, h3, h4, h5⟩ := h
      obtain ⟨vs, e, r⟩ := rm _ _ q
      exact ⟨d, ds, h1.dp rm rx, .lst (SqL.of e) (h2.dp rm r), h3, h4, k.at (.bl _) rm h5⟩
    · exact h.elim
  · exact h.elim⟩
theorem c_notin {k : Nat} (hr : Room (k + 1) X.A) : OK3 X (compareOp .NotIn) (oIn not) := ⟨_, op_notInD (by have := hr.un; omega), fun x y tx ty H M R Q h rx ry rm k => by
  unfold oIn at h
  split at h
  · split at h
    · rename_i a xs q
      cases ry
      obtain ⟨d, ds, h1, h2, h3, h4, h5⟩ := h
      obtain ⟨vs, e, r⟩ := rm _ _ q
      exact ⟨d, ds, h1.dp rm rx, .lst (SqL.of e) (h2.dp rm r), h3, h4, k.at (.bl _) rm h5⟩
    · exact h.elim
  · exact h.elim⟩
/-! ### places, slices -/
def oIx : O3 := fun x y M R => match x, y with
  | .tup xs, .int i => (match atI xs i with
    | some v => R v M
    | none => False)
  | .ref a, .int i => (match M a with
    | some (.lst xs) => (match atI xs i with
      | some v => R v M
      | none => False)
    | _ => False)
  | .str z, .int i => z.length ≤ sizeLine ∧ (match atI z.cps.toList i with
    | some c => R (.str ⟨#[c]⟩) M
    | none => False)
  | _, _ => False
theorem le_at (ha : LE X H0 a ma) (hb : LE X H0 b mb) (hs : PlainIx b := by exact fun _ _ => rfl) : LE X H0 (.Subscript a b pos) (eOp oIx ma mb) := le_ix ix_seq (fun x y tx ty H M R Q h rx ry rm k => by
  unfold oIx at h
  split at h
  · cases ry
    cases rx with
    | tup e r =>
      split at h
      · rename_i v q
        obtain ⟨w, h1, h2⟩ := r.atI q
        exact .inr (.inl ⟨_, _, _, w, rfl, rfl, SqT.of e, h1, k.at h2 rm h⟩)
      · exact h.elim
  · cases rx; cases ry
    split at h
    · rename_i xs q0
      split at h
      · rename_i v q
        obtain ⟨vs, e, r⟩ := rm _ _ q0
        obtain ⟨w, h1, h2⟩ := r.atI q
        exact .inl ⟨_, _, _, w, rfl, rfl, SqL.of e, h1, k.at h2 rm h⟩
      · exact h.elim
    · exact h.elim
  · cases rx; cases ry
    obtain ⟨h0, h⟩ := h
    split at h
    · rename_i c q
      exact .inr (.inr ⟨_, _, c, rfl, rfl, h0, q, k.at (.str _) rm h⟩)
    · exact h.elim
  · exact h.elim) ha hb hs
/-- an end of a slice -/
abbrev P3 := Ts → Mh → (Option Int → Mh → Prop) → Prop
def SP3 (H0 : Hp) (m : P3) (t : TO) : Prop := ∀ τ M (R : Option Int → Mh → Prop) σ H (Q : Option Int → Hp → Prop), m τ M R → Tups H0 H → RS H τ σ → RM H M → (∀ o H' M', Tups H H' → RM H' M' → R o M' → Q o H') → t σ H Q
structure LP (X : Cx) (H0 : Hp) (e : Option Expr) (m : P3) : Prop where
  ex : ∃ t, PO X e t ∧ SP3 H0 m t
def pNo : P3 := fun _ M R => R none M
def pSo (m : E3) : P3 := fun τ M R => m τ M fun x M1 => match x with
  | .int i => R (some i) M1
  | _ => False
theorem lp_none : LP X H0 none pNo := ⟨_, po_none, fun τ M R σ H Q h t rs rm k => k none H M .refl rm h⟩
theorem lp_some (h : LE X H0 e m) : LP X H0 (some e) (pSo m) := by
  obtain ⟨_, p, s⟩ := h.ex
  refine ⟨_, po_some p, fun τ M R σ H Q h t rs rm k => s τ M _ σ H _ h t rs rm fun v H1 tv M1 t1 rv rm1 h1 => ?_⟩
  cases tv with
  | int i =>
    cases rv
    exact ⟨i, rfl, k (some i) H1 M1 t1 rm1 h1⟩
  | _ => exact h1.elim
def cut {α : Type} (xs : List α) (lo hi : Option Int) : List α := (xs.drop (HT.sIx xs.length 0 lo)).take (HT.sIx xs.length xs.length hi - HT.sIx xs.length 0 lo)
theorem Rps.cut {H : Hp} {xs : List T} {vs : List V} (r : Rps H xs vs) (lo hi : Option Int) : Rps H (L3.cut xs lo hi) (cutV vs lo hi) := by
  unfold L3.cut cutV
  rw [r.len]
  exact (r.drop _).take _
def oSl (x : T) (lo hi : Option Int) (M : Mh) (R : K3) : Prop := match x with
  | .tup xs => R (.tup (cut xs lo hi)) M
  | .ref a => (match M a with
    | some (.lst xs) => ∀ p, M p = none → R (.ref p) (up M p (.lst (cut xs lo hi)))
    | _ => False)
  | .str z => z.length ≤ sizeLine ∧ R (.str (cutS z lo hi)) M
  | _ => False
def eSl (m : E3) (l u : P3) : E3 := fun τ M R => m τ M fun x M1 => l τ M1 fun lo M2 => u τ M2 fun hi M3 => oSl x lo hi M3 R
theorem le_slice {lo hi : Option Expr} {ml mh : P3} {p2 : Pos} (he : LE X H0 e m) (hl : LP X H0 lo ml) (hh : LP X H0 hi mh) : LE X H0 (.Subscript e (.Slice lo hi none p2) pos) (eSl m ml mh) := by
  obtain ⟨_, p, s⟩ := he.ex
  obtain ⟨_, pl, sl⟩ := hl.ex
  obtain ⟨_, ph, sh⟩ := hh.ex
  refine ⟨_, pe_slice (sl_tupA.or (sl_list.or sl_str)) p pl ph, fun τ M R σ H Q h t rs rm k => s τ M _ σ H _ h t rs rm fun x H1 tx M1 t1 rx rm1 h1 => sl τ M1 _ σ H1 _ h1 (t.trans t1) (rs.mv t1) rm1 fun lo H2 M2 t2 rm2 h2 => sh τ M2 _ σ H2 _ h2 (t.trans (t1.trans t2)) (rs.mv (t1.trans t2)) rm2 fun hi H3 M3 t3 rm3 h3 => ?_⟩
  have rx3 := rx.mv (t2.trans t3)
  have k3 := k.mv (t1.trans (t2.trans t3))
  unfold oSl at h3
  split at h3
  · rename_i xs
    cases rx3 with
    | @tup a _ vs e r =>
      refine .inl ⟨a, vs, rfl, SqT.of e, fun z => ?_, fun z p np => ?_⟩
      · have e2 : cut xs lo hi = xs := by
          unfold cut
          rw [r.len] at z
          rw [z.1, z.2, List.drop_zero, Nat.sub_zero, List.take_length]
        rw [e2] at h3
        exact k3.at (.tup e r) rm3 h3
      · exact k3 _ _ _ M3 (.new np) (.tup upd_same ((r.cut lo hi).mv (.new np))) (rm3.new0 np) h3
  · cases rx3
    split at h3
    · rename_i xs q
      obtain ⟨vs, e, r⟩ := rm3 _ _ q
      refine .inr (.inl ⟨_, vs, rfl, SqL.of e, fun p np => ?_⟩)
      exact k3 _ _ _ _ (.new np) (.ref p) (rm3.new (mo := .lst (cut xs lo hi)) np ⟨_, upd_same, (r.cut lo hi).mv (.new np)⟩) (h3 p (rm3.free np))
    · exact h3.elim
  · cases rx3
    exact .inr (.inr ⟨_, rfl, h3.1, k3.at (.str _) rm3 h3.2⟩)
  · exact h3.elim
end
end L3
set_option Elab.async false
set_option linter.all false
set_option maxRecDepth 100000
set_option maxHeartbeats 4000000
/-! sets of keys of one kind that can be walked: set(xs), sorted(set(texts)) -/
namespace G
open PySem PySem.Spec PyProof.Rows L2
section
variable {P : Program} {w : World} {κ : Type} [DecidableEq κ]
/-- no two of them are one key -/
def Apart (kd : PySem.KeyKind P w κ) (l : List (Int × Value)) : Prop := l.Pairwise fun x y => ∀ k, kd.is k x.2 = true → kd.is k y.2 = true → False
theorem Apart.perm {kd : PySem.KeyKind P w κ} {l m : List (Int × Value)} (h : Apart kd l) (p : m.Perm l) : Apart kd m :=
  (p.pairwise_iff fun {x y} z k a b => z k b a).mpr h
/-- the set at a, with all that a walk needs -/
def SetG (kd : PySem.KeyKind P w κ) (h : Heap) (a : Addr) (S : κ → Bool) (n : Nat) : Prop :=
  ∃ o es ep t, h.get? a = some o ∧ o.ExactSet ∧ o.data = .set es ep t ∧ ElemsOf kd es.toList ∧ Apart kd es.toList ∧ (∀ k, S k = true ↔ ∃ e ∈ es.toList, kd.is k e.2 = true) ∧
    (es.size < scanBound ∧ t.fits es.size = true ∧ es.size = n) ∧ Ris t.place.toList ∧ (w.params.followText "set-order" = true ∨ t.led = true)
theorem SetG.at {kd : PySem.KeyKind P w κ} {h h2 : Heap} {a : Addr} {S : κ → Bool} {n : Nat} (R : SetG kd h a S n) (k : ∀ o, h.get? a = some o → h2.get? a = some o) : SetG kd h2 a S n :=
  let ⟨o, es, ep, t, ho, r⟩ := R
  ⟨o, es, ep, t, k o ho, r⟩
theorem SetG.of_eq {kd : PySem.KeyKind P w κ} {h : Heap} {a : Addr} {S S2 : κ → Bool} {n : Nat} (R : SetG kd h a S n) (e : ∀ k, S2 k = S k) : SetG kd h a S2 n := by
  obtain rfl : S2 = S := funext e
  exact R
def setOb (w : World) : Obj := { cls := .type "set", dict := none, data := .set #[] 0 (.fresh 0 0 (!w.params.followText "set-order")) }
theorem setG_new {kd : PySem.KeyKind P w κ} {h : Heap} {a : Addr} (ho : h.get? a = some (setOb w)) : SetG kd h a (fun _ => false) 0 := by
  refine ⟨_, #[], 0, _, ho, ⟨rfl, rfl, rfl⟩, rfl, fun e he => (by cases he), .nil, fun k => ⟨fun z => (by cases z), fun ⟨e, he, _⟩ => (by cases he)⟩, ⟨by decide, rfl, rfl⟩, .nil, ?_⟩
  show _ ∨ (!w.params.followText "set-order") = true
  cases w.params.followText "set-order" <;> simp
section
variable {A : Around} {E : Value → Shared → Prop} {s : Shared} {a : Addr}
theorem setG_tail {kd : PySem.KeyKind P w κ} {g : Bool → Sem Unit} (hg : ∀ (b : Bool) (s1 : Shared) (Q1 : Unit → Shared → Prop), Q1 () s1 → wpAny (model P w) A (g b) Q1 E s1)
    {o : Obj} {es : Array (Int × Value)} {ep : Nat} {t : SetTable} (ho : s.heap.get? a = some o) (ex : o.ExactSet) (dt : o.data = .set es ep t)
    {fs : Array (Int × Value)} {u : SetTable} {S : κ → Bool} (el : ElemsOf kd fs.toList) (ap : Apart kd fs.toList) (mm : ∀ k, S k = true ↔ ∃ e ∈ fs.toList, kd.is k e.2 = true)
    (bd : fs.size < scanBound) (ft : u.fits fs.size = true) (rs : Ris u.place.toList) (ld : w.params.followText "set-order" = true ∨ u.led = true) {wd : Bool} {R : Option Bool → Shared → Prop}
    (fin : ∀ h2, Heap.SameBut a s.heap h2 → SetG kd h2 a S fs.size → R (some true) { s with heap := h2 }) :
    wpAny (model P w) A (do
        storeSet a fs u
        if (!wd && u.tooFull) = true then do
            g (relayAll u fs (SetTable.grown fs.size)).2.2
            storeSet a (relayAll u fs (SetTable.grown fs.size)).1 (relayAll u fs (SetTable.grown fs.size)).2.1
            pure (some true)
          else pure (some true)) R E s := by
  refine wpAny_bind (wpAny_storeSet_of ho dt ?_ (fits_of_scanBound bd))
  have o1 := store_at (es' := fs) (t' := u) ho dt
  have b1 := Heap.SameBut.update s.heap a (Obj.putSet fs u)
  split
  · have pm := relayAll_perm u fs (SetTable.grown fs.size)
    have f3 := relayAll_fits u fs (SetTable.grown fs.size)
    have r3 := relayAll_ris u fs (SetTable.grown fs.size)
    have l3 := relayAll_led u fs (SetTable.grown fs.size)
    generalize relayAll u fs (SetTable.grown fs.size) = Z at pm f3 r3 l3 ⊢
    obtain ⟨gs, v, gave⟩ := Z
    dsimp only at pm f3 r3 l3 ⊢
    have sz : gs.size = fs.size := by rw [← Array.length_toList, pm.length_eq, Array.length_toList]
    have bd2 : gs.size < scanBound := by rw [sz]; exact bd
    refine wpAny_bind (hg _ _ _ (wpAny_bind (wpAny_storeSet_of o1 rfl ?_ (fits_of_scanBound bd2))))
    refine wpAny_pure (fin _ (b1.trans (Heap.SameBut.update _ a _)) ⟨_, gs, _, v, store_at (es' := gs) (t' := v) o1 rfl, ex, rfl, el.perm pm, ap.perm pm, fun k => (mm k).trans ?_, ⟨bd2, f3, sz⟩, r3, ld.imp id fun z => l3.trans z⟩)
    exact ⟨fun ⟨e, he, q⟩ => ⟨e, pm.mem_iff.mpr he, q⟩, fun ⟨e, he, q⟩ => ⟨e, pm.mem_iff.mp he, q⟩⟩
  · exact wpAny_pure (fin _ b1 ⟨_, fs, _, u, o1, ex, rfl, el, ap, mm, ⟨bd, ft, rfl⟩, rs, ld⟩)
theorem setG_add {kd : PySem.KeyKind P w κ} {S : κ → Bool} {n : Nat} {k : κ} {x : Value} {Q : Bool → Shared → Prop} (hk : kd.is k x = true) (sc : x.scannable = true) (R : SetG kd s.heap a S n) (room : n + 1 < scanBound)
    (fin : ∀ h2, Heap.SameBut a s.heap h2 → SetG kd h2 a (fun j => S j || decide (j = k)) (if S k = true then n else n + 1) → Q (!S k) { s with heap := h2 }) :
    wpAny (model P w) A (setAddHashed a x (kd.hash k)) Q E s := by
  obtain ⟨o, es, ep, t, ho, ex, dt, el, ap, mm, ⟨bd, ft, sz⟩, rs, ld⟩ := R
  unfold setAddHashed setAddHashedIn
  refine wpAny_holding (wpAny_bind (wpAny_setState_of ho dt ft ?_))
  dsimp only
  rw [byScan_of sc bd el]
  simp only [↓reduceIte]
  unfold setAddByScan
  refine wpAny_bind (wpAny_bind (wpAny_rule (wpAny_bind (wpAny_setScan_of hk ho dt ft el ?_))))
  cases fi : List.findIdx? (fun e => kd.is k e.2) es.toList with
  | some j =>
    dsimp only
    obtain ⟨hj, pj, _⟩ := List.findIdx?_eq_some_iff_getElem.mp fi
    have Sk : S k = true := (mm k).mpr ⟨es.toList[j], List.getElem_mem hj, pj⟩
    have q := fin s.heap (Heap.SameBut.refl a s.heap) ⟨o, es, ep, t, ho, ex, dt, el, ap, fun i => by
      rw [Bool.or_eq_true, decide_eq_true_eq, ← mm i]
      exact ⟨fun z => z.elim id fun y => y ▸ Sk, .inl⟩, ⟨bd, ft, by rw [if_pos Sk]; exact sz⟩, rs, ld⟩
    rw [Sk] at q
    exact wpAny_pure (wpAny_pure q)
  | none =>
    dsimp only
    have no : ∀ e ∈ es.toList, kd.is k e.2 = true → False := fun e he q => by
      have c := List.findIdx?_eq_none_iff.mp fi e he
      rw [q] at c
      cases c
    have Sk : S k = false := by
      cases q : S k with
      | false => rfl
      | true =>
        obtain ⟨e, he, r⟩ := (mm k).mp q
        exact (no e he r).elim
    have gw : ∀ (b : Bool) {s1 : Shared} {Q1 : Unit → Shared → Prop}, Q1 () s1 → wpAny (model P w) A (match b with | true => rule "set.scan.the-table-gave-way" | false => pure ()) Q1 E s1 :=
      fun b s1 Q1 q => by cases b <;> first | exact wpAny_pure q | exact wpAny_rule q
    have pm := layNew_perm t es (kd.hash k) x
    have f1 := layNew_fits t es (kd.hash k) x
    have r1 := layNew_ris t es (kd.hash k) x rs
    have l1 := layNew_led t es (kd.hash k) x
    generalize layNew t es (kd.hash k) x = Z at pm f1 r1 l1 ⊢
    obtain ⟨fs, u, wd, gave⟩ := Z
    dsimp only at pm f1 r1 l1 ⊢
    rw [Array.toList_push] at pm
    have el1 : ElemsOf kd fs.toList := (el.push hk sc).perm pm
    have ap1 : Apart kd fs.toList := by
      refine Apart.perm (List.pairwise_cons.mpr ⟨fun e he k' q1 q2 => ?_, ap⟩) (pm.trans (List.perm_append_singleton _ _))
      have : k' = k := kd.inj _ _ _ q1 hk
      subst this
      exact no e he q2
    have mm1 : ∀ i, (S i || decide (i = k)) = true ↔ ∃ e ∈ fs.toList, kd.is i e.2 = true := mem_push_iff hk mm pm
    have sz1 : fs.size = n + 1 := by
      have z := pm.length_eq
      rw [List.length_append, Array.length_toList, Array.length_toList, sz] at z
      exact z
    have bd1 : fs.size < scanBound := by rw [sz1]; exact room
    have ld1 : w.params.followText "set-order" = true ∨ u.led = true := ld.imp id fun z => l1.trans z
    have fin1 : ∀ h2, Heap.SameBut a s.heap h2 → SetG kd h2 a (fun j => S j || decide (j = k)) fs.size → Q true { s with heap := h2 } := fun h2 sb r => by
      have q := fin h2 sb
      rw [Sk] at q
      rw [sz1] at r
      exact q r
    refine wpAny_bind (gw _ ?_)
    split
    · refine wpAny_bind ?_
      rw [hashByValue_scannable 8 sc]
      refine wpAny_pure (setG_tail ?_ ho ex dt el1 ap1 mm1 bd1 ?_ ?_ ?_ ?_)
      · intro b s1 Q1 q
        cases b <;> first | exact wpAny_pure q | exact wpAny_rule q
      · first | (split <;> first | exact f1 | exact SetTable.fits_plain_off f1) | exact f1
      · first | (split <;> exact r1) | exact r1
      · first | (split <;> exact ld1) | exact ld1
      · intro h2 sb r
        dsimp only
        exact wpAny_pure (fin1 h2 sb r)
    · refine wpAny_bind (wpAny_pure ?_)
      simp only [↓reduceIte]
      refine setG_tail ?_ ho ex dt el1 ap1 mm1 bd1 f1 r1 ld1 ?_
      · intro b s1 Q1 q
        cases b <;> first | exact wpAny_pure q | exact wpAny_rule q
      · intro h2 sb r
        dsimp only
        exact wpAny_pure (fin1 h2 sb r)
/-- the walk of set.update -/
theorem setG_loop {kd : PySem.KeyKind P w κ} {I : Addr} {fp wr : List Addr} {G : Array GenState → Array GenState → Prop} {n : Nat} {Pv : Nat → Value → Prop} {St : Nat → Shared → Prop} {R : Result → Shared → Prop}
    (W : WalksS P w A.in1 I fp wr G n Pv St) (S : Addr) (nf : S ∉ fp) (ks : List κ) (hn : n = ks.length) (bd : ks.length + 1 < scanBound) (hv : ∀ i v, Pv i v → ∃ k, ks[i]? = some k ∧ kd.is k v = true ∧ v.scannable = true) :
    ∀ (m i : Nat) (s : Shared), n - i = m → i ≤ n → St i s → (∃ c, c ≤ i ∧ SetG kd s.heap S (fun j => decide (j ∈ ks.take i)) c) →
      (∀ s2 c, Moved (S :: wr) G s s2 → c ≤ n → SetG kd s2.heap S (fun j => decide (j ∈ ks)) c → R (.ok (.ret .none)) s2) →
      codeAny (model P w) A (.builtin "set.update.loop" ⟨[.ref S, .ref I], []⟩) R s := by
  have nw : S ∉ wr := fun z => nf (W.sub _ z)
  have up : ∀ b ∈ wr, b ∈ S :: wr := fun b z => .tail _ z
  intro m
  induction m with
  | zero =>
    rintro i s e0 e1 st ⟨c, hc, hS⟩ fin
    obtain rfl : i = n := by omega
    refine codeAny_builtin F.entry_set_update_loop ?_
    rw [Around.under_plainId F.plain_set_update_loop _]
    show wpAny _ A.in1 (pyNext (.ref I) >>= _) _ _ s
    rw [List.take_of_length_le (Nat.le_of_eq hn.symm)] at hS
    refine wpAny_bind (W.done s _ _ st fun s2 mv => ?_)
    show wpAny _ A.in1 (ret Value.none) _ _ s2
    exact wpAny_pure (fin s2 c (mv.mono up) hc (hS.at fun o e => mv.heap S o nw e))
  | succ m ih =>
    rintro i s e0 e1 st ⟨c, hc, hS⟩ fin
    have lt : i < n := by omega
    refine codeAny_builtin F.entry_set_update_loop ?_
    rw [Around.under_plainId F.plain_set_update_loop _]
    show wpAny _ A.in1 (pyNext (.ref I) >>= _) _ _ s
    refine wpAny_bind (W.item i s _ _ lt st fun v s2 pv st2 mv => ?_)
    obtain ⟨k, ek, ik, sk⟩ := hv i v pv
    have hS2 : SetG kd s2.heap S (fun j => decide (j ∈ ks.take i)) c := hS.at fun o e => mv.heap S o nw e
    show wpAny _ A.in1 (holding [v] (setAdd S v) >>= _) _ _ s2
    refine wpAny_bind (wpAny_holding ?_)
    unfold setAdd
    refine wpAny_holding (wpAny_bind (kd.pyHash (k := k) ik (setG_add (s := { s2 with toks := s2.toks + 1 }) ik sk hS2 (by omega) fun h2 sb hS3 => ?_)))
    have hS4 : SetG kd h2 S (fun j => decide (j ∈ ks.take (i + 1))) (if decide (k ∈ ks.take i) = true then c else c + 1) := hS3.of_eq fun j => by
      rw [List.take_add_one, ek]
      simp [List.mem_append]
    have hc4 : (if decide (k ∈ ks.take i) = true then c else c + 1) ≤ i + 1 := by split <;> omega
    have oth : ∀ b, b ≠ S → h2.get? b = s2.heap.get? b := fun b z => sb.2 b z
    refine wpAny_pure ⟨plainId_quiet F.plain_set_update_loop _, ih (i + 1) _ (by omega) lt (W.frame _ s2 _ _ st2 (Nat.le_succ _) fun b hb o e => (oth b fun z => nf (z ▸ hb)).trans e) ⟨_, hc4, hS4⟩ fun s3 c3 mv3 hc3 hS5 => ?_⟩
    exact fin s3 c3 (Moved.trans W.gtrans ((mv.mono up).then_heap (Nat.le_succ _) fun b o hb e => (oth b fun z => hb (z ▸ .head _)).trans e) mv3) hc3 hS5
theorem setG_of_tuple {kd : PySem.KeyKind P w κ} {l : Addr} {items : Array Value} (ks : List κ) {Q : Value → Shared → Prop} (hh : A.handled = none) (hl : s.heap.IsTuple l items) (sz : items.size = ks.length) (hv : ∀ (i : Nat) (v : Value), items[i]? = some v → ∃ k, ks[i]? = some k ∧ kd.is k v = true ∧ v.scannable = true) (bd : ks.length + 1 < scanBound)
    (fin : ∀ (h2 : Heap) (tk c : Nat), SetG kd h2 s.heap.objs.size (fun j => decide (j ∈ ks)) c → c ≤ ks.length → (∀ b o, s.heap.get? b = some o → h2.get? b = some o) → Q (.ref s.heap.objs.size) { s with heap := h2, toks := tk }) :
    wpAny (model P w) A (call (.type "set") [.ref l]) Q E s := by
  obtain ⟨c, tl, mro⟩ := F.called_set.mro
  have made := F.called_set.made
  have sub := F.called_set.sub
  refine wpAny_call (codeAny_of_tree ?_)
  show wpAny _ _ (callAny (.type "set") _) _ _ _
  refine wpAny_pure ⟨Code.quiet_builtin _ (by decide +kernel), codeAny_builtin F.entry_type_call ?_⟩
  rw [Around.under_plain (weight_type_call_type "set" [.ref l] []) rfl]
  have t1 := F.called_set.notType
  have t2 := F.called_set.canCreate
  have t3 := F.typeCall_set_1 (.ref l)
  repeat (any_goals (first | assumption | wp_step))
  refine codeAny_mono (code_set_led1 (.ref l) (E := E) (Q₁ := fun ob s1 => ob = .ref s.heap.objs.size ∧ s1 = { s with heap := s.heap.push (setOb w) }) ⟨rfl, rfl⟩) fun r s1 hr => ?_
  cases r with
  | error e => exact hr
  | ok fl =>
    cases fl with
    | ret obj =>
      obtain ⟨rfl, rfl⟩ := hr
      have new : (s.heap.push (setOb w)).get? s.heap.objs.size = some (setOb w) := Heap.get?_push_size _ rfl
      have tyS : Shared.TypeIs { s with heap := s.heap.push (setOb w) } (.ref s.heap.objs.size) "set" := ⟨_, new, rfl⟩
      have i1 := F.called_set.init.lookup
      have i2 := F.called_set.init.bind (.ref s.heap.objs.size)
      repeat (any_goals (first | assumption | wp_step))
      refine codeAny_mono (codeAny_call_builtin (R := wants (fun r s2 => r = .none ∧ ∃ h2 tk c, s2 = { s with heap := h2, toks := tk } ∧ SetG kd h2 s.heap.objs.size (fun j => decide (j ∈ ks)) c ∧ c ≤ ks.length ∧
          (∀ b o, s.heap.get? b = some o → h2.get? b = some o)) E) F.called_set.init.plain F.entry_set_init (check_set_init_1 tyS ?_)) fun r2 s2 hr2 => ?_
      · obtain ⟨ol, hol, hcl, nl, hdl⟩ := hl
        obtain ⟨ocls, odict, odata, oslots⟩ := ol
        simp only at hcl hdl
        subst hcl; subst hdl
        have hol2 : (s.heap.push (setOb w)).get? l = some { cls := .type "tuple", dict := odict, data := .seq items nl, slots := oslots } := Heap.get?_push_of_some _ hol
        have u1 := F.sub_tuple_set
        have u2 := F.sub_tuple_frozenset
        have u3 : (Value.type "tuple" == Value.type "dict") = false := by decide
        have hl1 : (s.heap.push (setOb w)).IsTuple l items := ⟨_, hol2, rfl, nl, rfl⟩
        unfold Builtin.«set.__init__» noKeywords Builtin.Frozenset.updateFrom
        generalize hPI : pyIter = PI
        wp_walk
        subst hPI
        refine wpAny_pyIter_tuple hl1 (wpAny_bind (wpAny_runValue ?_))
        have lS : l < s.heap.objs.size := Heap.lt_size hol
        have hh3 : A.in1.in1.in1.handled = none := by simp [hh]
        have lI : l ≠ (s.heap.push (setOb w)).objs.size := by rw [Heap.size_push]; exact Nat.ne_of_lt (Nat.lt_succ_of_lt lS)
        have nS : s.heap.objs.size ∉ [(s.heap.push (setOb w)).objs.size, l] := by
          rw [Heap.size_push]
          intro z
          rcases List.mem_cons.mp z with z | z
          · exact absurd z (Nat.ne_of_lt (Nat.lt_succ_self _))
          · exact absurd (List.mem_singleton.mp z) (Nat.ne_of_gt lS)
        refine setG_loop ((Walks.tuple hh3 _ l lI items).toS) s.heap.objs.size nS ks sz bd hv (items.size - 0) 0 _ (by omega) (Nat.zero_le _) ⟨⟨_, Heap.get?_push_size _ rfl, rfl, rfl⟩, (hl1.push _)⟩
          ⟨0, Nat.le_refl 0, (setG_new (Heap.get?_push_of_some _ new)).of_eq fun k => (by rw [List.take_zero]; exact decide_eq_false List.not_mem_nil)⟩ fun s3 c3 mv hc hS => ?_
        obtain ⟨h2, g2, d2, tk2, os2⟩ := s3
        obtain rfl : g2 = s.gens := mv.gens
        obtain rfl : d2 = s.drawn := mv.drawn
        obtain rfl : os2 = s.os := mv.os
        rw [sz] at hc
        show wpAny _ _ _ _ _ _
        refine wpAny_pure ?_
        show wpAny _ _ (ret Value.none) _ _ _
        refine wpAny_pure ⟨rfl, h2, tk2, c3, rfl, hS, hc, fun b o e => ?_⟩
        have b0 : b < s.heap.objs.size := Heap.lt_size e
        refine mv.heap b o (fun z => ?_) (Heap.get?_push_of_some _ (Heap.get?_push_of_some _ e))
        rcases List.mem_cons.mp z with z | z
        · exact absurd z (Nat.ne_of_lt b0)
        · have z := List.mem_singleton.mp z
          rw [Heap.size_push] at z
          exact absurd z (Nat.ne_of_lt (Nat.lt_succ_of_lt b0))
      · cases r2 with
        | error e => exact hr2
        | ok fl2 =>
          cases fl2 with
          | ret r =>
            obtain ⟨rfl, h2, tk, c3, rfl, hS, hc, ol⟩ := hr2
            repeat (any_goals (first | assumption | wp_step))
            exact fin _ _ _ hS hc ol
          | _ => exact hr2.elim
    | _ => exact hr.elim
theorem setG_of_list {kd : PySem.KeyKind P w κ} {l : Addr} {items : Array Value} (ks : List κ) {Q : Value → Shared → Prop} (hh : A.handled = none) (hl : s.heap.IsList l items) (sz : items.size = ks.length) (hv : ∀ (i : Nat) (v : Value), items[i]? = some v → ∃ k, ks[i]? = some k ∧ kd.is k v = true ∧ v.scannable = true) (bd : ks.length + 1 < scanBound)
    (fin : ∀ (h2 : Heap) (tk c : Nat), SetG kd h2 s.heap.objs.size (fun j => decide (j ∈ ks)) c → c ≤ ks.length → (∀ b o, s.heap.get? b = some o → h2.get? b = some o) → Q (.ref s.heap.objs.size) { s with heap := h2, toks := tk }) :
    wpAny (model P w) A (call (.type "set") [.ref l]) Q E s := by
  obtain ⟨c, tl, mro⟩ := F.called_set.mro
  have made := F.called_set.made
  have sub := F.called_set.sub
  refine wpAny_call (codeAny_of_tree ?_)
  show wpAny _ _ (callAny (.type "set") _) _ _ _
  refine wpAny_pure ⟨Code.quiet_builtin _ (by decide +kernel), codeAny_builtin F.entry_type_call ?_⟩
  rw [Around.under_plain (weight_type_call_type "set" [.ref l] []) rfl]
  have t1 := F.called_set.notType
  have t2 := F.called_set.canCreate
  have t3 := F.typeCall_set_1 (.ref l)
  repeat (any_goals (first | assumption | wp_step))
  refine codeAny_mono (code_set_led1 (.ref l) (E := E) (Q₁ := fun ob s1 => ob = .ref s.heap.objs.size ∧ s1 = { s with heap := s.heap.push (setOb w) }) ⟨rfl, rfl⟩) fun r s1 hr => ?_
  cases r with
  | error e => exact hr
  | ok fl =>
    cases fl with
    | ret obj =>
      obtain ⟨rfl, rfl⟩ := hr
      have new : (s.heap.push (setOb w)).get? s.heap.objs.size = some (setOb w) := Heap.get?_push_size _ rfl
      have tyS : Shared.TypeIs { s with heap := s.heap.push (setOb w) } (.ref s.heap.objs.size) "set" := ⟨_, new, rfl⟩
      have i1 := F.called_set.init.lookup
      have i2 := F.called_set.init.bind (.ref s.heap.objs.size)
      repeat (any_goals (first | assumption | wp_step))
      refine codeAny_mono (codeAny_call_builtin (R := wants (fun r s2 => r = .none ∧ ∃ h2 tk c, s2 = { s with heap := h2, toks := tk } ∧ SetG kd h2 s.heap.objs.size (fun j => decide (j ∈ ks)) c ∧ c ≤ ks.length ∧
          (∀ b o, s.heap.get? b = some o → h2.get? b = some o)) E) F.called_set.init.plain F.entry_set_init (check_set_init_1 tyS ?_)) fun r2 s2 hr2 => ?_
      · obtain ⟨ol, hol, hcl, nl, hdl⟩ := hl
        obtain ⟨ocls, odict, odata, oslots⟩ := ol
        simp only at hcl hdl
        subst hcl; subst hdl
        have hol2 : (s.heap.push (setOb w)).get? l = some { cls := .type "list", dict := odict, data := .seq items nl, slots := oslots } := Heap.get?_push_of_some _ hol
        have u1 := F.sub_list_set
        have u2 := F.sub_list_frozenset
        have u3 : (Value.type "list" == Value.type "dict") = false := by decide
        have hl1 : (s.heap.push (setOb w)).IsList l items := ⟨_, hol2, rfl, nl, rfl⟩
        unfold Builtin.«set.__init__» noKeywords Builtin.Frozenset.updateFrom
        generalize hPI : pyIter = PI
        wp_walk
        subst hPI
        refine wpAny_pyIter_list hl1 (wpAny_bind (wpAny_runValue ?_))
        have lS : l < s.heap.objs.size := Heap.lt_size hol
        have hh3 : A.in1.in1.in1.handled = none := by simp [hh]
        have lI : l ≠ (s.heap.push (setOb w)).objs.size := by rw [Heap.size_push]; exact Nat.ne_of_lt (Nat.lt_succ_of_lt lS)
        have nS : s.heap.objs.size ∉ [(s.heap.push (setOb w)).objs.size, l] := by
          rw [Heap.size_push]
          intro z
          rcases List.mem_cons.mp z with z | z
          · exact absurd z (Nat.ne_of_lt (Nat.lt_succ_self _))
          · exact absurd (List.mem_singleton.mp z) (Nat.ne_of_gt lS)
        refine setG_loop ((Walks.list hh3 _ l lI items).toS) s.heap.objs.size nS ks sz bd hv (items.size - 0) 0 _ (by omega) (Nat.zero_le _) ⟨⟨_, Heap.get?_push_size _ rfl, rfl, rfl⟩, (hl1.push _)⟩
          ⟨0, Nat.le_refl 0, (setG_new (Heap.get?_push_of_some _ new)).of_eq fun k => (by rw [List.take_zero]; exact decide_eq_false List.not_mem_nil)⟩ fun s3 c3 mv hc hS => ?_
        obtain ⟨h2, g2, d2, tk2, os2⟩ := s3
        obtain rfl : g2 = s.gens := mv.gens
        obtain rfl : d2 = s.drawn := mv.drawn
        obtain rfl : os2 = s.os := mv.os
        rw [sz] at hc
        show wpAny _ _ _ _ _ _
        refine wpAny_pure ?_
        show wpAny _ _ (ret Value.none) _ _ _
        refine wpAny_pure ⟨rfl, h2, tk2, c3, rfl, hS, hc, fun b o e => ?_⟩
        have b0 : b < s.heap.objs.size := Heap.lt_size e
        refine mv.heap b o (fun z => ?_) (Heap.get?_push_of_some _ (Heap.get?_push_of_some _ e))
        rcases List.mem_cons.mp z with z | z
        · exact absurd z (Nat.ne_of_lt b0)
        · have z := List.mem_singleton.mp z
          rw [Heap.size_push] at z
          exact absurd z (Nat.ne_of_lt (Nat.lt_succ_of_lt b0))
      · cases r2 with
        | error e => exact hr2
        | ok fl2 =>
          cases fl2 with
          | ret r =>
            obtain ⟨rfl, h2, tk, c3, rfl, hS, hc, ol⟩ := hr2
            repeat (any_goals (first | assumption | wp_step))
            exact fin _ _ _ hS hc ol
          | _ => exact hr2.elim
    | _ => exact hr.elim
end
end
/-! ### of texts -/
def txOf (v : Value) : Str := match v with
  | .str x _ => x
  | _ => Str.empty
theorem strs_of : ∀ (l : List Value), (∀ v ∈ l, ∃ x t, v = Value.str x t) → StrsAre l (l.map txOf)
  | [], _ => .nil
  | v :: l, h => by
    obtain ⟨x, t, rfl⟩ := h v (.head _)
    exact .cons x t (strs_of l fun u hu => h u (.tail _ hu))
theorem is_tx {P : Program} {w : World} {k : Str} {v : Value} (h : (PySem.strKind P w).is k v = true) : txOf v = k ∧ ∃ t, v = .str k t := by
  obtain ⟨t, rfl⟩ := Value.isStrOf_shape h
  exact ⟨rfl, t, rfl⟩
def SetS (P : Program) (w : World) (a : Addr) (S : Str → Bool) (n : Nat) : HO := .ext fun h => SetG (PySem.strKind P w) h a S n
theorem setS_new {w : World} {P : Program} {H : Hp} {h : Heap} {a : Addr} {S : Str → Bool} {n : Nat} (R : SetG (PySem.strKind P w) h a S n) : ObjOk P w H h a (SetS P w a S n) := by
  have ⟨o, _, _, _, ho, _⟩ := R
  exact ⟨R, ⟨o, ho⟩, fun _ _ p k => SetG.at p k⟩
section
variable {X : Cx}
/-- set(xs) of a list or tuple of texts -/
def rSetS (K : PySem.W.Frag) (P : Program) (w : World) : List V → Hp → VK → Prop := fun vs H Q => ∃ (l : Addr) (ks : List Str), vs = [.ref l] ∧ (SqL K H l (ks.map V.str) ∨ SqT K H l (ks.map V.str)) ∧ ks.length + 1 < scanBound ∧
  ∀ p c, H p = none → c ≤ ks.length → Q (.ref p) (upd H p (SetS P w p (fun j => decide (j ∈ ks)) c))
theorem vals_tx {ks : List Str} {us : List Value} (r : Vals (ks.map V.str) us) {P : Program} {w : World} (i : Nat) (v : Value) (h : us.toArray[i]? = some v) : ∃ k, ks[i]? = some k ∧ (PySem.strKind P w).is k v = true ∧ v.scannable = true := by
  have e : us[i]? = some v := by simpa using h
  have hi : i < (ks.map V.str).length := by
    rw [r.length]
    exact (List.getElem?_eq_some_iff.mp e).1
  have hi2 : i < ks.length := by simpa using hi
  obtain ⟨u, eu, ru⟩ := r.get (i := i) (x := .str ks[i]) (by rw [List.getElem?_map, List.getElem?_eq_getElem hi2]; rfl)
  rw [e] at eu
  cases eu
  obtain ⟨t, rfl⟩ := ru
  exact ⟨ks[i], List.getElem?_eq_getElem hi2, strKind_is _ _ _ _, rfl⟩
theorem cr_setS (hc : X.calm = true) : CallR X (.type "set") (rSetS X.K X.prog X.w) := by
  intro pins s σ H vs us Q I r h
  obtain ⟨l, ks, rfl, hq, bd, q⟩ := h
  obtain ⟨u, rfl, ru⟩ := vals1 r
  cases ru
  have fin : ∀ (h2 : Heap) (tk c : Nat), SetG (PySem.strKind X.prog X.w) h2 s.heap.objs.size (fun j => decide (j ∈ ks)) c → c ≤ ks.length → (∀ b o, s.heap.get? b = some o → h2.get? b = some o) →
      ∃ v H1, Inv X pins σ H1 { s with heap := h2, toks := tk } ∧ RelV v (.ref s.heap.objs.size) ∧ Q v H1 := fun h2 tk c hS hc ol =>
    ⟨.ref s.heap.objs.size, _, I.laid (t' := tk) ol (Nat.le_refl _) (setS_new hS), rfl, q _ c (I.hok.fresh (Nat.le_refl _)) hc⟩
  rcases hq with hq | hq
  · obtain ⟨its, rv, p, hz⟩ := I.list hq
    exact setG_of_list ks (I.ok.hd hc) p.isList (by rw [List.size_toArray, ← rv.length, List.length_map]) (fun i v e => vals_tx rv i v e) bd fin
  · obtain ⟨its, rv, p, hz⟩ := I.tuple hq
    exact setG_of_tuple ks (I.ok.hd hc) p (by rw [List.size_toArray, ← rv.length, List.length_map]) (fun i v e => vals_tx rv i v e) bd fin
/-- sorted(s), s such a set of fewer than 64 -/
def rSortS (P : Program) (w : World) : List V → Hp → VK → Prop := fun vs H Q => ∃ (a : Addr) (S : Str → Bool) (n : Nat), vs = [.ref a] ∧ H a = some (SetS P w a S n) ∧ n < 64 ∧
  ∀ (ys : List Str) (p : Addr), sortedS ys = true → ys.Nodup → (∀ k, k ∈ ys ↔ S k = true) → ys.length = n → H p = none → Q (.ref p) (upd H p (.lst (ys.map V.str)))
theorem cr_sortS (hc : X.calm = true) : CallR X (.builtin "sorted") (rSortS X.prog X.w) := by
  intro pins s σ H vs us Q I r h
  obtain ⟨a, S, n, rfl, ha, h64, q⟩ := h
  obtain ⟨u, rfl, ru⟩ := vals1 r
  cases ru
  obtain ⟨o, es, ep, t, ho, ex, dt, el, ap, mm, ⟨bd, ft, sz⟩, rs, ld⟩ := (I.hok a _ ha).1
  refine Calls.call_function_entry kind_sorted plain_sorted entry_sorted (args_sorted1 _) ?_
  unfold Builtin.«sorted»
  refine wpAny_bind (m := checkCount "sorted" 1 1 _) (wpAny_pure (wpAny_bind (collect_set (A := X.A.in1) (I.ok.hd hc) ⟨o, ho, ex.1, dt⟩ ft bd rs ld fun s1 xs k1 hz g1 o1 pm => ?_)))
  have len : xs.length = n := by rw [pm.length_eq, List.length_map, Array.length_toList]; exact sz
  have key : ∀ e ∈ es.toList, ∃ x tk, e.2 = Value.str x tk := fun e he => by
    obtain ⟨⟨k, ik, _⟩, _⟩ := el e he
    obtain ⟨_, tk, ev⟩ := is_tx ik
    exact ⟨k, tk, ev⟩
  have hS : StrsAre xs (xs.map txOf) := strs_of xs fun v hv => by
    obtain ⟨e, he, ev⟩ := List.mem_map.mp (pm.mem_iff.mp hv)
    obtain ⟨x, tk, ex⟩ := key e he
    exact ⟨x, tk, ev.symm.trans ex⟩
  have pk : (xs.map txOf).Perm (es.toList.map fun e => txOf e.2) := by
    have z := pm.map txOf
    rw [List.map_map] at z
    exact z
  have nd : (es.toList.map fun e => txOf e.2).Nodup := by
    refine List.pairwise_map.mpr (List.Pairwise.imp_of_mem (fun {x y} hx hy z e => ?_) ap)
    obtain ⟨a1, t1, e1⟩ := key x hx
    obtain ⟨a2, t2, e2⟩ := key y hy
    rw [e1, e2] at z e
    obtain rfl : a1 = a2 := e
    exact z a1 (strKind_is _ _ _ _) (strKind_is _ _ _ _)
  have mem : ∀ k, k ∈ xs.map txOf ↔ S k = true := fun k => by
    rw [pk.mem_iff, mm k, List.mem_map]
    constructor
    · rintro ⟨e, he, rfl⟩
      obtain ⟨a1, t1, e1⟩ := key e he
      exact ⟨e, he, by rw [e1]; exact strKind_is _ _ _ _⟩
    · rintro ⟨e, he, ik⟩
      exact ⟨e, he, (is_tx ik).1⟩
  refine wpAny_bind (wpAny_newList ?_ (by rw [len, sizeLine_eq]; omega))
  have oL : (s1.heap.push (seqObj "list" xs.toArray 0)).get? s1.heap.objs.size = some (seqObj "list" xs.toArray 0) := Heap.get?_push_size _ rfl
  refine wpAny_bind (wpAny_holding (wpAny_call_entry slot_list_sort ⟨_, oL, rfl⟩ entry_list_sort (list_sort_treeK strKind_oneLt oL hS.keysOf (fun v1 v2 rest e => keyKind_strs (by rw [← e]; exact hS)) (by rw [len]; exact h64) fun st2 p1 p2 => ⟨_, rfl, ?_⟩) (args_list_sort _)))
  obtain ⟨ys, g2, g3, g4⟩ := sorted_out_str hS p1 p2
  obtain ⟨c, hcx⟩ := sortedHeap_at (vs := xs) (out := (arrOf st2).map (·.2)) oL
  have ly : ys.length = n := by rw [g3.length_eq, List.length_map]; exact len
  have hlen : (ys.map V.str).length ≤ sizeLine := by rw [List.length_map, ly, sizeLine_eq]; omega
  have fr : H s1.heap.objs.size = none := I.hok.fresh hz
  have kp : ∀ b u, s.heap.get? b = some u → (sortedHeap (s1.heap.push (seqObj "list" xs.toArray 0)) s1.heap.objs.size xs ((arrOf st2).map (·.2))).get? b = some u := fun b u e => by
    have y := k1 b u e
    have lt := Heap.lt_size y
    rw [sortedHeap_old (Nat.ne_of_lt lt) (by rw [size_push']; exact Nat.lt_succ_of_lt lt)]
    exact Heap.get?_push_of_some _ y
  have J : Inv X pins σ (upd H s1.heap.objs.size (.lst (ys.map V.str))) { s with heap := sortedHeap (s1.heap.push (seqObj "list" xs.toArray 0)) s1.heap.objs.size xs ((arrOf st2).map (·.2)), gens := s1.gens, drawn := s1.drawn, toks := s1.toks } :=
    I.call (ch := []) (Un.laid kp hz fr) (I.hok.laid kp hz ⟨hlen, ((arrOf st2).map (·.2)).toList, c, vals_of_strs g2, by rw [Array.toArray_toList]; exact hcx⟩) (by rw [g1]; exact I.bare) (fun _ z => nomatch z)
  refine wpAny_pure ⟨_, rfl, .ref s1.heap.objs.size, _, ?_, rfl, q ys _ g4 ((g3.trans pk).nodup_iff.mpr nd) (fun k => by rw [g3.mem_iff]; exact mem k) ly fr⟩
  rw [← o1] at J
  exact J
end
end G
set_option Elab.async false
set_option linter.all false
set_option maxRecDepth 100000
set_option maxHeartbeats 2000000
/-! str(o), repr(o), len(o) of an own instance, by the class's own defs -/
namespace G
open PySem PySem.Spec PyProof.Rows L2
section
variable {X : Cx} {C f : Addr} {k : Nat} {fd : FuncData} {ps : List Str} {sp : Sp}
theorem inst_at {pins : List (Addr × Obj)} {σ : L2.St} {H : Hp} {s : Shared} {a dx : Addr} {fs : List (Str × V)} (I : L2.Inv X pins σ H s) (e : H a = some (.ins C dx fs)) : ∃ od, PySem.W.InstAt s.heap a (PySem.W.instObj C dx) C (some od) := by
  obtain ⟨mA, O, r, _, _, _⟩ := ins_get I.hok e
  obtain ⟨od, h, _⟩ := O.look
  exact ⟨od, h⟩
/-- what a def of the class, called with the object alone, leaves -/
def rOwn (C : Addr) (sp : Sp) (R : V → Hp → VK → Prop) : List V → Hp → VK → Prop := fun xs H Q => ∃ (a dx : Addr) (fs : List (Str × V)), xs = [.ref a] ∧ H a = some (.ins C dx fs) ∧ sp [.ref a] H (fun v H2 => R v H2 Q) E0
def isT : V → Hp → VK → Prop := fun v H Q => ∃ y : Str, v = .str y ∧ Q (.str y) H
theorem own_run {p : Str} {A : Around} (F : FnOk X.prog X.w X.K X.mg X.base CX0 k f fd [p] sp) (hr : Room k A) (fr : A.frames = X.A.frames) (hb : Binds X.K fd [p] []) {pins : List (Addr × Obj)} {σ : L2.St} {H : Hp} {s : Shared} {a : Addr} {Q : VK} {T : Value → Shared → Prop} (I : L2.Inv X pins σ H s)
    (h : sp [.ref a] H Q E0) (fin : ∀ u s', EP X pins σ Q u s' → T u s') : wpAny (model X.prog X.w) A (call (.ref f) [.ref a]) T X.xe s := by
  have e0 : Env0 X.prog X.w X.K X.mg X.base A X.stack s H := { I.env0 with frames := fr.trans I.env0.frames }
  refine wpAny_call (codeAny_mono (F.run A X.stack s H ⟨[.ref a], []⟩ [.ref a] [.ref a] Q E0 hr e0 (hb s [.ref a] I.kIn rfl) (.cons rfl .nil) h) fun r s' hq => ?_)
  cases r with
  | error e => exact hq.elim
  | ok fl =>
    cases fl with
    | ret u => exact fin u s' (I.after hq)
    | _ => exact hq.elim
theorem cr_strOwn {p : Str} (hs : PySem.W.findIn X.K (.ref C) "__str__" = some (some (.ref f))) (hf : PySem.W.isFn X.K (.ref f) = true) (F : FnOk X.prog X.w X.K X.mg X.base CX0 k f fd [p] sp) (hb : Binds X.K fd [p] []) (hr : Room (k + 2) X.A) : CallR X (.type "str") (rOwn C sp isT) := by
  intro pins s σ H xs us Q I r h
  obtain ⟨a, dx, fs, rfl, ha, q⟩ := h
  obtain ⟨u, rfl, ru⟩ := vals1 r
  cases ru
  obtain ⟨od, ia⟩ := inst_at I ha
  have hr2 : Room k X.A.in1.in1 := hr.in1.in1
  refine PySem.W.kso_call (by have := hr2.un; omega) I.kIn ia hs hf (own_run F hr2 rfl hb I q fun u s' he => ?_)
  obtain ⟨v, H2, J, rv, y, rfl, q2⟩ := he
  obtain ⟨t, rfl⟩ := rv
  exact ⟨.str y, H2, J, ⟨t, rfl⟩, q2⟩
theorem cr_reprOwn {p : Str} (hs : PySem.W.findIn X.K (.ref C) "__repr__" = some (some (.ref f))) (hf : PySem.W.isFn X.K (.ref f) = true) (F : FnOk X.prog X.w X.K X.mg X.base CX0 k f fd [p] sp) (hb : Binds X.K fd [p] []) (hr : Room (k + 1) X.A) : CallR X (.builtin "repr") (rOwn C sp isT) := by
  intro pins s σ H xs us Q I r h
  obtain ⟨a, dx, fs, rfl, ha, q⟩ := h
  obtain ⟨u, rfl, ru⟩ := vals1 r
  cases ru
  obtain ⟨od, ia⟩ := inst_at I ha
  have hr2 : Room k X.A.in1 := hr.in1
  refine Calls.call_function_entry PySem.F.kind_repr PySem.F.plain_repr PySem.F.entry_repr (PySem.F.args_repr1 _) ?_
  unfold Builtin.«repr»
  refine wpAny_bind (m := oneArg "repr" _) (wpAny_pure (wpAny_bind (m := cRoomFor _ _) (wpAny_cRoomFor (by have := hr2.un; omega) ?_)))
  refine wpAny_bind (m := specialOf _ _) (wpAny_bind (ia.type.here ((PySem.W.looks_findIn I.kIn hs).here ?_)))
  refine wpAny_bind (m := callSpecialIfBound? (.ref a) (Str.ofString "__repr__") _) (PySem.W.ifBound_K I.kIn ia hs hf (own_run F hr2 rfl hb I q fun u s' he => ?_))
  obtain ⟨v, H2, J, rv, y, rfl, q2⟩ := he
  obtain ⟨t, rfl⟩ := rv
  refine wpAny_bind (wpAny_isInstance (T := "str") (b := true) rfl isSubtype_str_str ?_)
  exact wpAny_pure ⟨_, rfl, .str y, H2, J, ⟨t, rfl⟩, q2⟩
end
end G
set_option Elab.async false
set_option linter.all false
set_option maxRecDepth 100000
set_option maxHeartbeats 1000000
set_option autoImplicit false
namespace L3
open PySem PySem.Spec PyProof.Rows L2
/-! ### kinds -/
inductive Kn where
  | non | bl | int | str | lst | tup | dic
def Kn.nm : Kn → String
  | .non => "NoneType"
  | .bl => "bool"
  | .int => "int"
  | .str => "str"
  | .lst => "list"
  | .tup => "tuple"
  | .dic => "dict"
def Kn.cls : Kn → Bool
  | .non => false
  | _ => true
def kd (M : Mh) : T → Option Kn
  | .non => some .non
  | .bl _ => some .bl
  | .int _ => some .int
  | .str _ => some .str
  | .tup _ => some .tup
  | .ref a => (match M a with
    | some (.lst _) => some .lst
    | some (.dK _) => some .dic
    | some (.dT _) => some .dic
    | _ => none)
  | .ty _ => none
  | .scr _ _ => none
def subK : Kn → Kn → Bool
  | .non, .non => true
  | .bl, .bl => true
  | .bl, .int => true
  | .int, .int => true
  | .str, .str => true
  | .lst, .lst => true
  | .tup, .tup => true
  | .dic, .dic => true
  | _, _ => false
theorem kit_K {j k : Kn} (h : k.cls = true) : kitB j.nm k.nm = some (subK j k) := by
  cases j <;> cases k <;> first | (cases h; done) | decide +kernel
theorem kd_ty {K : Fg} {H : Hp} {M : Mh} {x : T} {v : V} {j : Kn} (rm : RM H M) (r : Rp H x v) (h : kd M x = some j) : TyX K H v (.type j.nm) := by
  cases r with
  | non => cases h; exact .base .non
  | bl b => cases h; exact .base (.bl b)
  | int i => cases h; exact .base (.int i)
  | str z => cases h; exact .base (.str z)
  | ty n => cases h
  | scr e => cases h
  | tup e _ => cases h; exact .base (.tup e)
  | ref a =>
    unfold kd at h
    dsimp only at h
    split at h
    · rename_i q
      cases h
      obtain ⟨vs, e, _⟩ := rm _ _ q
      exact .base (.lst e)
    · rename_i q
      cases h
      obtain ⟨vs, e, _⟩ := rm _ _ q
      exact .base (.dK e)
    · rename_i q
      cases h
      obtain ⟨vs, e, _⟩ := rm _ _ q
      exact .base (.dT e)
    · cases h
section
variable {X : Cx} {H0 : Hp} {a b c e tg : Expr} {es : List Expr} {pos p p2 : Pos} {ma mb mc m : E3} {mA mB : B3} {mAs : A3} {o o' : O3}
def eIsi (k : Kn) (m : E3) : E3 := fun τ M R => m τ M fun x M1 => match kd M1 x with
  | some j => R (.bl (subK j k)) M1
  | none => False
theorem le_isi (k : Kn) {n : Str} (hg : Gl X "isinstance") (hm : X.mg "isinstance" = none) (he : LE X H0 e m) (hg2 : Gl X n) (hm2 : X.mg n = none) (hv : bootBuiltins n = some (.type k.nm)) (hk : k.cls = true := by rfl) (hn : n ≠ "__name__" := by decide) (hd : (n == ("__debug__" : Str)) = false := by decide)
    (he1 : starEach [e, .Name n p2] X.env = (false, eval e X.env) :: starEach [.Name n p2] X.env := by rfl) (he2 : starEach [.Name n p2] X.env = (false, eval (.Name n p2) X.env) :: starEach [] X.env := by rfl) (hpl : (backTo pos (starEach [.Name n p2] X.env)).any (·.1) = false := by rfl) : LE X H0 (.Call (.Name "isinstance" p) [e, .Name n p2] [] pos) (eIsi k m) := by
  obtain ⟨_, pe, se⟩ := he.ex
  refine ⟨_, pe_callB call_isi hg hm (by decide +kernel) (pa_cons pe (pa_cons (pe_bltn (v := .ty k.nm) hg2 hm2 hv rfl hn hd) pa_nil he2) he1) (by decide) (by decide) he1 hpl, fun τ M R σ H Q h t rs rm kq => se τ M _ σ H _ h t rs rm fun x H1 tx M1 t1 rx rm1 h1 => ?_⟩
  split at h1
  · rename_i j q
    exact ⟨x, .ty k.nm, _, _, _, rfl, .ty _, kd_ty rm1 rx q, kit_ty (kit_K hk), (kq.mv t1).at (.bl _) rm1 h1⟩
  · exact h1.elim
def eIsi2 (k l : Kn) (m : E3) : E3 := fun τ M R => m τ M fun x M1 => match kd M1 x with
  | some j => R (.bl (subK j k || subK j l)) M1
  | none => False
theorem le_isi2 (k l : Kn) {n n2 : Str} {p3 p4 : Pos} {xx} (hg : Gl X "isinstance") (hm : X.mg "isinstance" = none) (he : LE X H0 e m) (hg2 : Gl X n) (hm2 : X.mg n = none) (hg3 : Gl X n2) (hm3 : X.mg n2 = none) (hv : bootBuiltins n = some (.type k.nm)) (hv2 : bootBuiltins n2 = some (.type l.nm)) (hk : k.cls = true := by rfl) (hl : l.cls = true := by rfl) (hn : n ≠ "__name__" := by decide) (hd : (n == ("__debug__" : Str)) = false := by decide) (hn2 : n2 ≠ "__name__" := by decide) (hd2 : (n2 == ("__debug__" : Str)) = false := by decide)
    (he1 : starEach [e, .Tuple [.Name n p2, .Name n2 p3] xx p4] X.env = (false, eval e X.env) :: starEach [.Tuple [.Name n p2, .Name n2 p3] xx p4] X.env := by rfl) (he2 : starEach [.Tuple [.Name n p2, .Name n2 p3] xx p4] X.env = (false, eval (.Tuple [.Name n p2, .Name n2 p3] xx p4) X.env) :: starEach [] X.env := by rfl) (hpl : (backTo pos (starEach [.Tuple [.Name n p2, .Name n2 p3] xx p4] X.env)).any (·.1) = false := by rfl)
    (he3 : starEach [.Name n p2, .Name n2 p3] X.env = (false, eval (.Name n p2) X.env) :: starEach [.Name n2 p3] X.env := by rfl) (he4 : starEach [.Name n2 p3] X.env = (false, eval (.Name n2 p3) X.env) :: starEach [] X.env := by rfl) : LE X H0 (.Call (.Name "isinstance" p) [e, .Tuple [.Name n p2, .Name n2 p3] xx p4] [] pos) (eIsi2 k l m) := by
  obtain ⟨_, pe, se⟩ := he.ex
  refine ⟨_, pe_callB call_isiT hg hm (by decide +kernel) (pa_cons pe (pa_cons (pe_tup (pa_cons (pe_bltn (v := .ty k.nm) hg2 hm2 hv rfl hn hd) (pa_cons (pe_bltn (v := .ty l.nm) hg3 hm3 hv2 rfl hn2 hd2) pa_nil he4) he3)) pa_nil he2) he1) (by decide) (by decide) he1 hpl, fun τ M R σ H Q h t rs rm kq => se τ M _ σ H _ h t rs rm fun x H1 tx M1 t1 rx rm1 h1 => ?_⟩
  split at h1
  · rename_i j q
    refine ⟨(by show 2 ≤ sizeLine; decide), fun T nT => ?_⟩
    refine ⟨x, T, _, _, _, subK j k || subK j l, rfl, upd_same, .cons (.ty _) (.cons (.ty _) .nil), kd_ty (rm1.new0 nT) (rx.mv (.new nT)) q, ?_, kq _ _ _ M1 (t1.trans (.new nT)) (.bl _) (rm1.new0 nT) h1⟩
    refine kitAny_cons (b := subK j k) (kit_ty (kit_K hk)) (fun z => ?_) (fun z => by rw [z]; rfl)
    rw [z, Bool.false_or]
    exact kitAny_cons (b := subK j l) (kit_ty (kit_K hl)) (fun z => by rw [z]; rfl) (fun z => z)
  · exact h1.elim
/-! ### len, abs, min, max .. -/
def cLen : C3 := fun ts M R => match ts with
  | [.str z] => z.length ≤ sizeLine ∧ R (.int z.length) M
  | [.tup xs] => R (.int xs.length) M
  | [.ref a] => (match M a with
    | some (.lst xs) => R (.int xs.length) M
    | some (.dK kvs) => R (.int kvs.length) M
    | some (.dT kvs) => R (.int kvs.length) M
    | _ => False)
  | _ => False
theorem Rkv.len {κ : Type} {H : Hp} : ∀ {xs : List (κ × T)} {vs : List (κ × V)}, Rkv H xs vs → vs.length = xs.length
  | _, _, .nil => rfl
  | _, _, .cons _ rs => congrArg (· + 1) rs.len
theorem sc_len {K : Fg} : SC (fun xs H Q => (∃ p ys, xs = [.ref p] ∧ (SqL K H p ys ∨ SqT K H p ys) ∧ Q (.int ys.length) H) ∨ (∃ z, xs = [.str z] ∧ z.length ≤ sizeLine ∧ Q (.int z.length) H) ∨ (∃ p kvs, xs = [.ref p] ∧ H p = some (.dK kvs) ∧ Q (.int kvs.length) H) ∨ rLenT xs H Q) cLen := fun vs ts H M R Q h rv rm k => by
  unfold cLen at h
  split at h
  · cases rv with
    | cons r rr =>
      cases r; cases rr
      exact .inr (.inl ⟨_, rfl, h.1, k.at (.int _) rm h.2⟩)
  · cases rv with
    | cons r rr =>
      cases rr
      cases r with
      | tup e r => exact .inl ⟨_, _, rfl, .inr (SqT.of e), by rw [r.len]; exact k.at (.int _) rm h⟩
  · cases rv with
    | cons r rr =>
      cases r; cases rr
      split at h
      · rename_i q
        obtain ⟨vs, e, r⟩ := rm _ _ q
        exact .inl ⟨_, _, rfl, .inl (SqL.of e), by rw [r.len]; exact k.at (.int _) rm h⟩
      · rename_i q
        obtain ⟨vs, e, r⟩ := rm _ _ q
        exact .inr (.inr (.inl ⟨_, _, rfl, e, by rw [r.len]; exact k.at (.int _) rm h⟩))
      · rename_i q
        obtain ⟨vs, e, r⟩ := rm _ _ q
        exact .inr (.inr (.inr ⟨_, _, rfl, e, by rw [r.len]; exact k.at (.int _) rm h⟩))
      · exact h.elim
  · exact h.elim
theorem le_len (hg : Gl X "len") (hm : X.mg "len" = none) (ha : LA X H0 [e] mAs) (he : starEach [e] X.env = (false, eval e X.env) :: starEach [] X.env := by rfl) (hpl : (backTo pos (starEach [] X.env)).any (·.1) = false := by rfl) : LE X H0 (.Call (.Name "len" p) [e] [] pos) (eCB cLen mAs) := le_cB (call_len_seq.or (call_len_str.or (call_lenD.or call_len_dT))) sc_len hg hm PySem.boot_len ha (by decide) (by decide) he hpl
def c1I (g : Int → T) : C3 := fun ts M R => match ts with
  | [.int i] => R (g i) M
  | _ => False
theorem sc_1I {g : Int → T} {g' : Int → V} (hg : ∀ i H, Rp H (g i) (g' i)) : SC (fun xs H Q => ∃ i, xs = [.int i] ∧ Q (g' i) H) (c1I g) := fun vs ts H M R Q h rv rm k => by
  unfold c1I at h
  split at h
  · cases rv with
    | cons r rr =>
      cases r; cases rr
      exact ⟨_, rfl, k.at (hg _ _) rm h⟩
  · exact h.elim
theorem le_abs (hg : Gl X "abs") (hm : X.mg "abs" = none) (ha : LA X H0 [e] mAs) (he : starEach [e] X.env = (false, eval e X.env) :: starEach [] X.env := by rfl) (hpl : (backTo pos (starEach [] X.env)).any (·.1) = false := by rfl) : LE X H0 (.Call (.Name "abs" p) [e] [] pos) (eCB (c1I fun i => .int (if i < 0 then -i else i)) mAs) := le_cB call_abs (sc_1I fun _ _ => .int _) hg hm (by decide +kernel) ha (by decide) (by decide) he hpl
def c2I (g : Int → Int → Int) : C3 := fun ts M R => match ts with
  | [.int i, .int j] => R (.int (g i j)) M
  | _ => False
theorem sc_2I {g : Int → Int → Int} : SC (fun xs H Q => ∃ i j, xs = [.int i, .int j] ∧ Q (.int (g i j)) H) (c2I g) := fun vs ts H M R Q h rv rm k => by
  unfold c2I at h
  split at h
  · cases rv with
    | cons r rr =>
      cases r
      cases rr with
      | cons r rr =>
        cases r; cases rr
        exact ⟨_, _, rfl, k.at (.int _) rm h⟩
  · exact h.elim
theorem le_max (hc : X.calm = true) (hg : Gl X "max") (hm : X.mg "max" = none) (ha : LA X H0 [a, b] mAs) (he : starEach [a, b] X.env = (false, eval a X.env) :: starEach [b] X.env := by rfl) (hpl : (backTo pos (starEach [b] X.env)).any (·.1) = false := by rfl) : LE X H0 (.Call (.Name "max" p) [a, b] [] pos) (eCB (c2I fun i j => if j > i then j else i) mAs) := le_cB (call_max2 hc) sc_2I hg hm (by decide +kernel) ha (by decide) (by decide) he hpl
theorem le_min (hc : X.calm = true) (hg : Gl X "min") (hm : X.mg "min" = none) (ha : LA X H0 [a, b] mAs) (he : starEach [a, b] X.env = (false, eval a X.env) :: starEach [b] X.env := by rfl) (hpl : (backTo pos (starEach [b] X.env)).any (·.1) = false := by rfl) : LE X H0 (.Call (.Name "min" p) [a, b] [] pos) (eCB (c2I fun i j => if j < i then j else i) mAs) := le_cB (call_min2 hc) sc_2I hg hm (by decide +kernel) ha (by decide) (by decide) he hpl
def cInt : C3 := fun ts M R => match ts with
  | [.int i] => R (.int i) M
  | [.bl k] => R (.int (if k then 1 else 0)) M
  | _ => False
theorem le_toint (hg : Gl X "int") (hm : X.mg "int" = none) (ha : LA X H0 [e] mAs) (he : starEach [e] X.env = (false, eval e X.env) :: starEach [] X.env := by rfl) (hpl : (backTo pos (starEach [] X.env)).any (·.1) = false := by rfl) : LE X H0 (.Call (.Name "int" p) [e] [] pos) (eCB cInt mAs) := le_cT call_int1 (fun vs ts H M R Q h rv rm k => by
  unfold cInt at h
  split at h
  · cases rv with
    | cons r rr =>
      cases r; cases rr
      exact .inl ⟨_, rfl, k.at (.int _) rm h⟩
  · cases rv with
    | cons r rr =>
      cases r; cases rr
      exact .inr ⟨_, rfl, k.at (.int _) rm h⟩
  · exact h.elim) hg hm (by decide +kernel) ha (by decide) (by decide) he hpl
def cStr : C3 := fun ts M R => match ts with
  | [.int i] => i.natAbs.log2 < 1920 ∧ R (.str (toString i)) M
  | [.str z] => R (.str z) M
  | _ => False
theorem le_tostr (hg : Gl X "str") (hm : X.mg "str" = none) (ha : LA X H0 [e] mAs) (he : starEach [e] X.env = (false, eval e X.env) :: starEach [] X.env := by rfl) (hpl : (backTo pos (starEach [] X.env)).any (·.1) = false := by rfl) : LE X H0 (.Call (.Name "str" p) [e] [] pos) (eCB cStr mAs) := le_cT (call_str_int.or SkE.call_str_str) (fun vs ts H M R Q h rv rm k => by
  unfold cStr at h
  split at h
  · cases rv with
    | cons r rr =>
      cases r; cases rr
      exact .inl ⟨_, rfl, h.1, k.at (.str _) rm h.2⟩
  · cases rv with
    | cons r rr =>
      cases r; cases rr
      exact .inr ⟨_, rfl, k.at (.str _) rm h⟩
  · exact h.elim) hg hm (by decide +kernel) ha (by decide) (by decide) he hpl
/-- lists of one kind of value -/
theorem rps_map {α : Type} {H : Hp} {f : α → T} {g : α → V} (h : ∀ a t v, f a = t → Rp H t v → v = g a) : ∀ {as : List α} {vs : List V}, Rps H (as.map f) vs → vs = as.map g
  | [], _, .nil => rfl
  | a :: as, _, .cons r rs => by rw [h a _ _ rfl r, rps_map h rs]; rfl
theorem rps_of {α : Type} {H : Hp} {f : α → T} {g : α → V} (h : ∀ a, Rp H (f a) (g a)) : ∀ as : List α, Rps H (as.map f) (as.map g)
  | [] => .nil
  | a :: as => .cons (h a) (rps_of h as)
theorem rps_bl {H : Hp} {bs : List Bool} {vs : List V} (r : Rps H (bs.map T.bl) vs) : vs = bs.map V.bl := rps_map (fun a t v e r => by subst e; cases r; rfl) r
theorem rps_int {H : Hp} {bs : List Int} {vs : List V} (r : Rps H (bs.map T.int) vs) : vs = bs.map V.int := rps_map (fun a t v e r => by subst e; cases r; rfl) r
theorem rps_str {H : Hp} {bs : List Str} {vs : List V} (r : Rps H (bs.map T.str) vs) : vs = bs.map V.str := rps_map (fun a t v e r => by subst e; cases r; rfl) r
def cBls (g : List Bool → Bool) : C3 := fun ts M R => match ts with
  | [.ref a] => ∃ bs : List Bool, M a = some (.lst (bs.map T.bl)) ∧ R (.bl (g bs)) M
  | _ => False
theorem sc_bls {K : Fg} {g : List Bool → Bool} : SC (fun vs H Q => ∃ (a : Addr) (bs : List Bool), vs = [V.ref a] ∧ SqL K H a (bs.map V.bl) ∧ Q (.bl (g bs)) H) (cBls g) := fun vs ts H M R Q h rv rm k => by
  unfold cBls at h
  split at h
  · cases rv with
    | cons r rr =>
      cases r; cases rr
      obtain ⟨bs, e, h⟩ := h
      obtain ⟨ws, e2, r2⟩ := rm _ _ e
      cases rps_bl r2
      exact ⟨_, bs, rfl, SqL.of e2, k.at (.bl _) rm h⟩
  · exact h.elim
theorem le_all (hc : X.calm = true) (hg : Gl X "all") (hm : X.mg "all" = none) (ha : LA X H0 [e] mAs) (he : starEach [e] X.env = (false, eval e X.env) :: starEach [] X.env := by rfl) (hpl : (backTo pos (starEach [] X.env)).any (·.1) = false := by rfl) : LE X H0 (.Call (.Name "all" p) [e] [] pos) (eCB (cBls fun bs => bs.all id) mAs) := le_cB (cr_all hc) sc_bls hg hm (by decide +kernel) ha (by decide) (by decide) he hpl
theorem le_any (hc : X.calm = true) (hg : Gl X "any") (hm : X.mg "any" = none) (ha : LA X H0 [e] mAs) (he : starEach [e] X.env = (false, eval e X.env) :: starEach [] X.env := by rfl) (hpl : (backTo pos (starEach [] X.env)).any (·.1) = false := by rfl) : LE X H0 (.Call (.Name "any" p) [e] [] pos) (eCB (cBls fun bs => bs.any id) mAs) := le_cB (cr_any hc) sc_bls hg hm (by decide +kernel) ha (by decide) (by decide) he hpl
def cSum : C3 := fun ts M R => match ts with
  | [.ref a] => ∃ ns : List Int, M a = some (.lst (ns.map T.int)) ∧ R (.int ns.sum) M
  | _ => False
theorem le_sum (hc : X.calm = true) (hg : Gl X "sum") (hm : X.mg "sum" = none) (ha : LA X H0 [e] mAs) (he : starEach [e] X.env = (false, eval e X.env) :: starEach [] X.env := by rfl) (hpl : (backTo pos (starEach [] X.env)).any (·.1) = false := by rfl) : LE X H0 (.Call (.Name "sum" p) [e] [] pos) (eCB cSum mAs) := le_cB (cr_sum hc) (fun vs ts H M R Q h rv rm k => by
  unfold cSum at h
  split at h
  · cases rv with
    | cons r rr =>
      cases r; cases rr
      obtain ⟨bs, e, h⟩ := h
      obtain ⟨ws, e2, r2⟩ := rm _ _ e
      cases rps_int r2
      exact ⟨_, bs, rfl, SqL.of e2, k.at (.int _) rm h⟩
  · exact h.elim) hg hm (by decide +kernel) ha (by decide) (by decide) he hpl
def cList : C3 := fun ts M R => match ts with
  | [.tup xs] => ∀ p, M p = none → R (.ref p) (up M p (.lst xs))
  | [.ref a] => (match M a with
    | some (.lst xs) => ∀ p, M p = none → R (.ref p) (up M p (.lst xs))
    | _ => False)
  | _ => False
theorem le_list (hg : Gl X "list") (hm : X.mg "list" = none) (ha : LA X H0 [e] mAs) (he : starEach [e] X.env = (false, eval e X.env) :: starEach [] X.env := by rfl) (hpl : (backTo pos (starEach [] X.env)).any (·.1) = false := by rfl) : LE X H0 (.Call (.Name "list" p) [e] [] pos) (eCB cList mAs) := le_cT call_list_of (fun vs ts H M R Q h rv rm k => by
  unfold cList at h
  split at h
  · rename_i xs
    cases rv with
    | cons r rr =>
      cases rr
      cases r with
      | tup e r => exact ⟨_, _, rfl, .inr (SqT.of e), fun p np => k _ _ _ _ (.new np) (.ref p) (rm.new (mo := .lst xs) np ⟨_, upd_same, r.mv (.new np)⟩) (h p (rm.free np))⟩
  · cases rv with
    | cons r rr =>
      cases r; cases rr
      split at h
      · rename_i xs q
        obtain ⟨vs, e, r⟩ := rm _ _ q
        exact ⟨_, _, rfl, .inl (SqL.of e), fun p np => k _ _ _ _ (.new np) (.ref p) (rm.new (mo := .lst xs) np ⟨_, upd_same, r.mv (.new np)⟩) (h p (rm.free np))⟩
      · exact h.elim
  · exact h.elim) hg hm (by decide +kernel) ha (by decide) (by decide) he hpl
def cTuple : C3 := fun ts M R => match ts with
  | [.tup xs] => R (.tup xs) M
  | [.ref a] => (match M a with
    | some (.lst xs) => R (.tup xs) M
    | _ => False)
  | _ => False
theorem le_tuple (hg : Gl X "tuple") (hm : X.mg "tuple" = none) (ha : LA X H0 [e] mAs) (he : starEach [e] X.env = (false, eval e X.env) :: starEach [] X.env := by rfl) (hpl : (backTo pos (starEach [] X.env)).any (·.1) = false := by rfl) : LE X H0 (.Call (.Name "tuple" p) [e] [] pos) (eCB cTuple mAs) := le_cT call_tuple_of (fun vs ts H M R Q h rv rm k => by
  unfold cTuple at h
  split at h
  · rename_i xs
    cases rv with
    | cons r rr =>
      cases rr
      cases r with
      | tup e r => exact ⟨_, _, rfl, .inr ⟨SqT.of e, k.at (.tup e r) rm h⟩⟩
  · cases rv with
    | cons r rr =>
      cases r; cases rr
      split at h
      · rename_i xs q
        obtain ⟨vs, e, r⟩ := rm _ _ q
        exact ⟨_, _, rfl, .inl ⟨SqL.of e, fun p np => k _ _ _ M (.new np) (.tup upd_same (r.mv (.new np))) (rm.new0 np) h⟩⟩
      · exact h.elim
  · exact h.elim) hg hm (by decide +kernel) ha (by decide) (by decide) he hpl
def cDivmod : C3 := fun ts M R => match ts with
  | [.int i, .int j] => CDivP i j ∧ R (.tup [.int (i / j), .int (i % j)]) M
  | _ => False
theorem le_divmod (hg : Gl X "divmod") (hm : X.mg "divmod" = none) (ha : LA X H0 [a, b] mAs) (he : starEach [a, b] X.env = (false, eval a X.env) :: starEach [b] X.env := by rfl) (hpl : (backTo pos (starEach [b] X.env)).any (·.1) = false := by rfl) : LE X H0 (.Call (.Name "divmod" p) [a, b] [] pos) (eCB cDivmod mAs) := le_cB call_divmodW (fun vs ts H M R Q h rv rm k => by
  unfold cDivmod at h
  split at h
  · cases rv with
    | cons r rr =>
      cases r
      cases rr with
      | cons r rr =>
        cases r; cases rr
        exact ⟨_, _, rfl, h.1, fun p np => k _ _ _ M (.new np) (.tup upd_same (.cons (.int _) (.cons (.int _) .nil))) (rm.new0 np) h.2⟩
  · exact h.elim) hg hm (by decide +kernel) ha (by decide) (by decide) he hpl
def cRepr : C3 := fun ts M R => match ts with
  | [t] => ∃ d, Dt M t d ∧ d.showable = true ∧ d.hasDict = false ∧ d.depth ≤ 50 ∧ d.shown.length ≤ sizeLine ∧ R (.str d.shown) M
  | _ => False
end
end L3
set_option Elab.async false
set_option linter.all false
set_option maxRecDepth 100000
set_option maxHeartbeats 1000000
set_option autoImplicit false
namespace L3
open PySem PySem.Spec PyProof.Rows L2
def sp1 (f : T → Mh → K3 → X3 → Prop) : Sp3 := fun ts M R E => match ts with
  | [a] => f a M R E
  | _ => False
def sp2 (f : T → T → Mh → K3 → X3 → Prop) : Sp3 := fun ts M R E => match ts with
  | [a, b] => f a b M R E
  | _ => False
def sp3 (f : T → T → T → Mh → K3 → X3 → Prop) : Sp3 := fun ts M R E => match ts with
  | [a, b, c] => f a b c M R E
  | _ => False
def sp4 (f : T → T → T → T → Mh → K3 → X3 → Prop) : Sp3 := fun ts M R E => match ts with
  | [a, b, c, d] => f a b c d M R E
  | _ => False
section
variable {ts : List T} {M : Mh} {R : K3} {E : X3}
theorem sp1_of {f : T → Mh → K3 → X3 → Prop} (h : sp1 f ts M R E) : ∃ a, ts = [a] ∧ f a M R E := by
  unfold sp1 at h
  split at h
  · exact ⟨_, rfl, h⟩
  · exact h.elim
theorem sp2_of {f : T → T → Mh → K3 → X3 → Prop} (h : sp2 f ts M R E) : ∃ a b, ts = [a, b] ∧ f a b M R E := by
  unfold sp2 at h
  split at h
  · exact ⟨_, _, rfl, h⟩
  · exact h.elim
theorem sp3_of {f : T → T → T → Mh → K3 → X3 → Prop} (h : sp3 f ts M R E) : ∃ a b c, ts = [a, b, c] ∧ f a b c M R E := by
  unfold sp3 at h
  split at h
  · exact ⟨_, _, _, rfl, h⟩
  · exact h.elim
theorem sp4_of {f : T → T → T → T → Mh → K3 → X3 → Prop} (h : sp4 f ts M R E) : ∃ a b c d, ts = [a, b, c, d] ∧ f a b c d M R E := by
  unfold sp4 at h
  split at h
  · exact ⟨_, _, _, _, rfl, h⟩
  · exact h.elim
theorem sp1_len {f : T → Mh → K3 → X3 → Prop} (h : sp1 f ts M R E) : ts.length = 1 := by obtain ⟨_, rfl, _⟩ := sp1_of h; rfl
theorem sp2_len {f : T → T → Mh → K3 → X3 → Prop} (h : sp2 f ts M R E) : ts.length = 2 := by obtain ⟨_, _, rfl, _⟩ := sp2_of h; rfl
theorem sp3_len {f : T → T → T → Mh → K3 → X3 → Prop} (h : sp3 f ts M R E) : ts.length = 3 := by obtain ⟨_, _, _, rfl, _⟩ := sp3_of h; rfl
theorem sp4_len {f : T → T → T → T → Mh → K3 → X3 → Prop} (h : sp4 f ts M R E) : ts.length = 4 := by obtain ⟨_, _, _, _, rfl, _⟩ := sp4_of h; rfl
end
end L3
set_option Elab.async false
set_option linter.all false
set_option maxRecDepth 100000
set_option maxHeartbeats 1000000
set_option autoImplicit false
namespace L3
open PySem PySem.Spec PyProof.Rows L2
/-! ### keys -/
def keyT : Key → T
  | .inl i => .int i
  | .inr x => .str x
def toKey : T → Option Key
  | .int i => some (.inl i)
  | .str x => some (.inr x)
  | _ => none
def toKeys : List T → Option (List Key)
  | [] => some []
  | t :: ts => match toKey t, toKeys ts with
    | some k, some ks => some (k :: ks)
    | _, _ => none
theorem toKey_of {t : T} {k : Key} (h : toKey t = some k) : t = keyT k := by
  cases t with
  | int i => cases h; rfl
  | str i => cases h; rfl
  | _ => cases h
theorem toKeys_of : ∀ {ts : List T} {ks : List Key}, toKeys ts = some ks → ts = ks.map keyT
  | [], ks, h => by cases h; rfl
  | t :: ts, ks, h => by
    unfold toKeys at h
    split at h
    · rename_i k ks' h1 h2
      cases h
      rw [toKey_of h1, toKeys_of h2]
      rfl
    · cases h
theorem toKeys_map : ∀ ks : List Key, toKeys (ks.map keyT) = some ks
  | [] => rfl
  | k :: ks => by
    have : toKey (keyT k) = some k := by cases k <;> rfl
    show (match toKey (keyT k), toKeys (ks.map keyT) with | some k, some ks => some (k :: ks) | _, _ => none) = _
    rw [this, toKeys_map ks]
theorem rp_key {H : Hp} {k : Key} {v : V} (r : Rp H (keyT k) v) : v = kV k := by
  cases k <;> (cases r; rfl)
theorem rps_key {H : Hp} {ks : List Key} {vs : List V} (r : Rps H (ks.map keyT) vs) : vs = ks.map kV := rps_map (fun a t v e r => by subst e; exact rp_key r) r
theorem rps_keys {H : Hp} : ∀ ks : List Key, Rps H (ks.map keyT) (ks.map kV) := rps_of fun k => by cases k <;> constructor
section
variable {κ : Type} [DecidableEq κ]
def valT (kvs : List (κ × T)) (k : κ) : Option T := (kvs.find? fun kv => decide (kv.1 = k)).map (·.2)
def putT (kvs : List (κ × T)) (k : κ) (v : T) : List (κ × T) :=
  if (kvs.any fun kv => decide (kv.1 = k)) = true then kvs.map (fun kv => if kv.1 = k then (kv.1, v) else kv) else kvs ++ [(k, v)]
def ORp (H : Hp) : Option T → Option V → Prop
  | some t, some v => Rp H t v
  | none, none => True
  | _, _ => False
theorem Rkv.val {H : Hp} (k : κ) : ∀ {xs : List (κ × T)} {vs : List (κ × V)}, Rkv H xs vs → ORp H (valT xs k) (valV vs k)
  | _, _, .nil => trivial
  | (j, x) :: xs, (_, v) :: vs, .cons r rs => by
    unfold valT valV
    rw [List.find?_cons, List.find?_cons]
    by_cases e : j = k
    · rw [decide_eq_true (show (j, x).1 = k from e)]
      exact r
    · rw [decide_eq_false (show ¬ (j, x).1 = k from e)]
      exact Rkv.val k rs
theorem Rkv.any {H : Hp} (k : κ) : ∀ {xs : List (κ × T)} {vs : List (κ × V)}, Rkv H xs vs → (xs.any fun kv => decide (kv.1 = k)) = (vs.any fun kv => decide (kv.1 = k))
  | _, _, .nil => rfl
  | (j, x) :: xs, (_, v) :: vs, .cons r rs => by rw [List.any_cons, List.any_cons, Rkv.any k rs]
theorem Rkv.map {H : Hp} (k : κ) {t : T} {v : V} (q : Rp H t v) : ∀ {xs : List (κ × T)} {vs : List (κ × V)}, Rkv H xs vs → Rkv H (xs.map fun kv => if kv.1 = k then (kv.1, t) else kv) (vs.map fun kv => if kv.1 = k then (kv.1, v) else kv)
  | _, _, .nil => .nil
  | (j, x) :: xs, (_, w) :: vs, .cons r rs => by
    rw [List.map_cons, List.map_cons]
    by_cases e : j = k
    · rw [if_pos (show (j, x).1 = k from e), if_pos (show (j, w).1 = k from e)]
      exact .cons q (Rkv.map k q rs)
    · rw [if_neg (show ¬ (j, x).1 = k from e), if_neg (show ¬ (j, w).1 = k from e)]
      exact .cons r (Rkv.map k q rs)
theorem Rkv.app {H : Hp} : ∀ {xs ys : List (κ × T)} {vs ws : List (κ × V)}, Rkv H xs vs → Rkv H ys ws → Rkv H (xs ++ ys) (vs ++ ws)
  | _, _, _, _, .nil, s => s
  | _, _, _, _, .cons r rs, s => .cons r (rs.app s)
theorem Rkv.put {H : Hp} (k : κ) {t : T} {v : V} (q : Rp H t v) {xs : List (κ × T)} {vs : List (κ × V)} (r : Rkv H xs vs) : Rkv H (putT xs k t) (putK vs k v) := by
  unfold putT putK
  rw [r.any k]
  split
  · exact r.map k q
  · exact r.app (.cons q .nil)
end
section
variable {X : Cx} {H0 : Hp} {a b c e o tg : Expr} {es : List Expr} {pos apos cpos p p2 : Pos} {ma mb mc m mo : E3} {mA mB : B3} {mAs : A3}
/-- what is at a key -/
def look (M : Mh) (x y : T) : Option (Option T) := match x, y with
  | .ref a, .tup ts => (match M a, toKeys ts with
    | some (.dT kvs), some ks => some (valT kvs ks)
    | _, _ => none)
  | .ref a, y => (match M a, toKey y with
    | some (.dK kvs), some k => some (valT kvs k)
    | some (.lkK _ kvs), some k => some (valT kvs k)
    | _, _ => none)
  | _, _ => none
theorem look_get {H : Hp} {M : Mh} {x y : T} {v w : V} {r : Option T} (rm : RM H M) (rx : Rp H x v) (ry : Rp H y w) (h : look M x y = some r) : ∃ a u, v = .ref a ∧ DGet H a w u ∧ ORp H r u := by
  unfold look at h
  split at h
  · cases rx
    cases ry with
    | tup e q =>
      split at h
      · rename_i kvs ks h1 h2
        cases h
        cases toKeys_of h2
        cases rps_key q
        obtain ⟨us, e1, r1⟩ := rm _ _ h1
        exact ⟨_, _, rfl, .inr ⟨us, ks, _, .inl e1, rfl, e, rfl⟩, r1.val ks⟩
      · cases h
  · cases rx
    split at h
    · rename_i kvs k h1 h2
      cases h
      cases toKey_of h2
      cases rp_key ry
      obtain ⟨us, e1, r1⟩ := rm _ _ h1
      exact ⟨_, _, rfl, .inl ⟨us, k, .inl e1, rfl, rfl⟩, r1.val k⟩
    · rename_i od kvs k h1 h2
      cases h
      cases toKey_of h2
      cases rp_key ry
      obtain ⟨us, e1, r1⟩ := rm _ _ h1
      exact ⟨_, _, rfl, .inl ⟨us, k, .inr ⟨od, e1⟩, rfl, rfl⟩, r1.val k⟩
    · cases h
  · cases h
def oGet : O3 := fun x y M R => match look M x y with
  | some (some v) => R v M
  | _ => False
theorem le_dget {k : Nat} (hr : Room k X.A) (ha : LE X H0 a ma) (hb : LE X H0 b mb) (hs : NoSl b := by exact fun _ _ => rfl) : LE X H0 (.Subscript a b pos) (eOp oGet ma mb) := by
  obtain ⟨_, pa, sa⟩ := ha.ex
  obtain ⟨_, pb, sb⟩ := hb.ex
  refine ⟨_, pe_dget (hu_of hr) pa pb hs, fun τ M R σ H Q h t rs rm k => sa τ M _ σ H _ h t rs rm fun x H1 tx M1 t1 rx rm1 h1 => sb τ M1 _ σ H1 _ h1 (t.trans t1) (rs.mv t1) rm1 fun y H2 ty M2 t2 ry rm2 h2 => ?_⟩
  unfold oGet at h2
  split at h2
  · rename_i v q
    obtain ⟨a, u, rfl, g, r⟩ := look_get rm2 (rx.mv t2) ry q
    cases u with
    | none => exact False.elim r
    | some u => exact ⟨a, u, rfl, g, (k.mv (t1.trans t2)).at r rm2 h2⟩
  · exact h2.elim
def oDin (f : Bool → Bool) : O3 := fun y x M R => match look M x y with
  | some r => R (.bl (f r.isSome)) M
  | none => False
theorem orp_some {H : Hp} {r : Option T} {u : Option V} (h : ORp H r u) : u.isSome = r.isSome := by
  cases r <;> cases u <;> first | rfl | exact False.elim h
theorem sd_in {ta tb : TE} (sa : SE H0 ma ta) (sb : SE H0 mb tb) : SE H0 (eOp (oDin id) ma mb) (tDIn ta tb) := fun τ M R σ H Q h t rs rm k => sa τ M _ σ H _ h t rs rm fun x H1 tx M1 t1 rx rm1 h1 => sb τ M1 _ σ H1 _ h1 (t.trans t1) (rs.mv t1) rm1 fun y H2 ty M2 t2 ry rm2 h2 => by
  unfold oDin at h2
  split at h2
  · rename_i v q
    obtain ⟨a, u, rfl, g, r⟩ := look_get rm2 ry (rx.mv t2) q
    exact ⟨a, u, rfl, g, by rw [orp_some r]; exact (k.mv (t1.trans t2)).at (.bl _) rm2 h2⟩
  · exact h2.elim
theorem sd_notin {ta tb : TE} (sa : SE H0 ma ta) (sb : SE H0 mb tb) : SE H0 (eOp (oDin not) ma mb) (tDNotIn ta tb) := fun τ M R σ H Q h t rs rm k => sa τ M _ σ H _ h t rs rm fun x H1 tx M1 t1 rx rm1 h1 => sb τ M1 _ σ H1 _ h1 (t.trans t1) (rs.mv t1) rm1 fun y H2 ty M2 t2 ry rm2 h2 => by
  unfold oDin at h2
  split at h2
  · rename_i v q
    obtain ⟨a, u, rfl, g, r⟩ := look_get rm2 ry (rx.mv t2) q
    exact ⟨a, u, rfl, g, by rw [orp_some r]; exact (k.mv (t1.trans t2)).at (.bl _) rm2 h2⟩
  · exact h2.elim
theorem le_din {k : Nat} (hr : Room k X.A) (ha : LE X H0 a ma) (hb : LE X H0 b mb) (hm : behindInMarks .In b = false := by rfl) : LE X H0 (.Compare a [.In] [b] pos) (eOp (oDin id) ma mb) :=
  let ⟨_, pa, sa⟩ := ha.ex
  let ⟨_, pb, sb⟩ := hb.ex
  ⟨_, pe_cmp (pc_din (hu_of hr) pa pb) hm, sd_in sa sb⟩
theorem lt_din {k : Nat} (hr : Room k X.A) (ha : LE X H0 a ma) (hb : LE X H0 b mb) (hm : behindInMarks .In b = false := by rfl) : LT X H0 (.Compare a [.In] [b] pos) (bV (eOp (oDin id) ma mb)) :=
  let ⟨_, pa, sa⟩ := ha.ex
  let ⟨_, pb, sb⟩ := hb.ex
  ⟨_, pt_cmp (pc_din (hu_of hr) pa pb) hm, sb_val (sd_in sa sb)⟩
theorem lt_dnotin {k : Nat} (hr : Room k X.A) (ha : LE X H0 a ma) (hb : LE X H0 b mb) (hm : behindInMarks .NotIn b = false := by rfl) : LT X H0 (.Compare a [.NotIn] [b] pos) (bV (eOp (oDin not) ma mb)) :=
  let ⟨_, pa, sa⟩ := ha.ex
  let ⟨_, pb, sb⟩ := hb.ex
  ⟨_, pt_cmp (pc_dnotin (hu_of hr) pa pb) hm, sb_val (sd_notin sa sb)⟩
def eNewT : E3 := fun _ M R => ∀ p, M p = none → R (.ref p) (up M p (.dT []))
def eNewK : E3 := fun _ M R => ∀ p, M p = none → R (.ref p) (up M p (.dK []))
theorem le_newT : LE X H0 (.Dict [] [] pos) eNewT := ⟨_, pe_dnewT, fun τ M R σ H Q h t rs rm k p np => k _ _ _ _ (.new np) (.ref p) (rm.new (mo := .dT []) np ⟨[], upd_same, .nil⟩) (h p (rm.free np))⟩
theorem le_newK : LE X H0 (.Dict [] [] pos) eNewK := ⟨_, pe_dnewK, fun τ M R σ H Q h t rs rm k p np => k _ _ _ _ (.new np) (.ref p) (rm.new (mo := .dK []) np ⟨[], upd_same, .nil⟩) (h p (rm.free np))⟩
/-- d[k] = v -/
def putM (M : Mh) (x y v : T) (R : Mh → Prop) : Prop := match x, y with
  | .ref a, .tup ts => (match M a, toKeys ts with
    | some (.dT kvs), some ks => kvs.length < sizeLine ∧ R (up M a (.dT (putT kvs ks v)))
    | _, _ => False)
  | .ref a, y => (match M a, toKey y with
    | some (.dK kvs), some k => kvs.length < sizeLine ∧ R (up M a (.dK (putT kvs k v)))
    | _, _ => False)
  | _, _ => False
def sPut (mo mi mv : E3) : S3 := fun D τ M => mv τ M fun v M1 => mo τ M1 fun x M2 => mi τ M2 fun y M3 => putM M3 x y v fun M4 => D.nx τ M4
theorem ls_put {k : Nat} {i v : Expr} {mi mv : E3} {pos' : Pos} (hr : Room k X.A) (ho : LE X H0 o mo) (hi : LE X H0 i mi) (hv : LE X H0 v mv) (hs : swapsWith v (some (.Subscript o i pos')) pos.line X.env = pure false := by rfl) : LS X H0 (.Assign [.Subscript o i pos'] v pos) (sPut mo mi mv) := by
  obtain ⟨_, po, so⟩ := ho.ex
  obtain ⟨_, pi, si⟩ := hi.ex
  obtain ⟨_, pv, sv⟩ := hv.ex
  refine ⟨_, ps_dput (hu_of hr) po pi pv hs, fun D3 D τ M σ H h t rs rm k => sv τ M _ σ H _ h t rs rm fun v H1 tv M1 t1 rv rm1 h1 => so τ M1 _ σ H1 _ h1 (t.trans t1) (rs.mv t1) rm1 fun x H2 tx M2 t2 rx rm2 h2 => si τ M2 _ σ H2 _ h2 (t.trans (t1.trans t2)) (rs.mv (t1.trans t2)) rm2 fun y H3 ty M3 t3 ry rm3 h3 => ?_⟩
  have rx3 := rx.mv t3
  have rv3 := rv.mv (t2.trans t3)
  have tt := t1.trans (t2.trans t3)
  unfold putM at h3
  split at h3
  · cases rx3
    cases ry with
    | tup e q =>
      split at h3
      · rename_i kvs ks q1 q2
        cases toKeys_of q2
        cases rps_key q
        obtain ⟨us, e1, r1⟩ := rm3 _ _ q1
        have nt : NT H3 _ := ⟨_, e1, rfl⟩
        refine ⟨_, _, rfl, DPut.t e1 e (by rw [r1.len]; exact h3.1), ?_⟩
        exact k.nx σ _ τ _ (tt.trans (.put nt)) (rs.mv (tt.trans (.put nt))) (rm3.put (mo := .dT (putT kvs ks tv)) nt ⟨_, upd_same, (r1.put ks rv3).mv (.put nt)⟩) h3.2
      · exact h3.elim
  · cases rx3
    split at h3
    · rename_i kvs kk q1 q2
      cases toKey_of q2
      cases rp_key ry
      obtain ⟨us, e1, r1⟩ := rm3 _ _ q1
      have nt : NT H3 _ := ⟨_, e1, rfl⟩
      refine ⟨_, _, rfl, DPut.k e1 (by rw [r1.len]; exact h3.1), ?_⟩
      exact k.nx σ _ τ _ (tt.trans (.put nt)) (rs.mv (tt.trans (.put nt))) (rm3.put (mo := .dK (putT kvs kk tv)) nt ⟨_, upd_same, (r1.put kk rv3).mv (.put nt)⟩) h3.2
    · exact h3.elim
  · exact h3.elim
/-- xs[i] = v as a target -/
def gSet (mo mi : E3) : G3 := fun v τ M Q => mo τ M fun x M1 => mi τ M1 fun y M2 => match x, y with
  | .ref a, .int k => (match M2 a with
    | some (.lst xs) => (match ixN xs.length k with
      | some j => Q τ (up M2 a (.lst (xs.set j v)))
      | none => False)
    | _ => False)
  | _, _ => False
theorem lg_set {i : Expr} {mi : E3} (ho : LE X H0 o mo) (hi : LE X H0 i mi)
    (ha : ∀ v, assign (.Subscript o i pos) X.env v = (do
      let ov ← holding [v] (eval o X.env)
      let iv ← holding [v, ov] (eval i X.env)
      standAt pos
      holding [v, ov, iv] (setItem ov iv v)
      release [v, ov, iv] []) := by intro _; rfl) : LG X H0 (.Subscript o i pos) (gSet mo mi) := by
  obtain ⟨_, po, so⟩ := ho.ex
  obtain ⟨_, pi, si⟩ := hi.ex
  refine ⟨_, pg_sub po pi set_list ha, fun v tv τ M R σ H Q h t rv rs rm k => so τ M _ σ H _ h t rs rm fun x H1 tx M1 t1 rx rm1 h1 => si τ M1 _ σ H1 _ h1 (t.trans t1) (rs.mv t1) rm1 fun y H2 ty M2 t2 ry rm2 h2 => ?_⟩
  have rx2 := rx.mv t2
  have rv2 := rv.mv (t1.trans t2)
  split at h2
  · rename_i a kk
    cases rx2
    cases ry
    split at h2
    · rename_i xs q1
      obtain ⟨us, e1, r1⟩ := rm2 _ _ q1
      split at h2
      · rename_i j q2
        have nt : NT H2 a := ⟨_, e1, rfl⟩
        refine ⟨a, us, kk, j, rfl, rfl, e1, by rw [r1.len]; exact q2, ?_⟩
        exact k σ _ τ _ ((t1.trans t2).trans (.put nt)) (rs.mv ((t1.trans t2).trans (.put nt))) (rm2.put (mo := .lst (xs.set j tv)) nt ⟨_, upd_same, (Rps.set rv2 j r1).mv (.put nt)⟩) h2
      · exact h2.elim
    · exact h2.elim
  · exact h2.elim
/-- the keys of a dict, as a list -/
def cListD : C3 := fun ts M R => match ts with
  | [.ref a] => (match M a with
    | some (.dT kvs) => ∀ p, M p = none → R (.ref p) (up M p (.lst (kvs.map fun kv => .tup (kv.1.map keyT))))
    | _ => False)
  | _ => False
theorem rkv_keys {H : Hp} : ∀ {kvs : List (List Key × T)} {us : List (List Key × V)} {bs : List Addr}, Rkv H kvs us → IsKeys H us bs → Rps H (kvs.map fun kv => T.tup (kv.1.map keyT)) (bs.map V.ref)
  | _, _, _, .nil, .nil => .nil
  | _, _, _, .cons (k := k) _ rs, .cons q qs => .cons (.tup q (rps_keys k)) (rkv_keys rs qs)
theorem le_listD (hc : X.calm = true) (hg : Gl X "list") (hm : X.mg "list" = none) (ha : LA X H0 [e] mAs) (he : starEach [e] X.env = (false, eval e X.env) :: starEach [] X.env := by rfl) (hpl : (backTo pos (starEach [] X.env)).any (·.1) = false := by rfl) : LE X H0 (.Call (.Name "list" p) [e] [] pos) (eCB cListD mAs) := le_cT (call_list_dT hc) (fun vs ts H M R Q h rv rm k => by
  unfold cListD at h
  split at h
  · cases rv with
    | cons r rr =>
      cases r; cases rr
      split at h
      · rename_i kvs q
        obtain ⟨us, e, r⟩ := rm _ _ q
        refine ⟨_, us, rfl, .inl e, fun p bs np ik => ?_⟩
        exact k _ _ _ _ (.new np) (.ref p) (rm.new (mo := .lst _) np ⟨_, upd_same, (rkv_keys r ik).mv (.new np)⟩) (h p (rm.free np))
      · exact h.elim
  · exact h.elim) hg hm (by decide +kernel) ha (by decide) (by decide) he hpl
/-! ### methods of lists and texts -/
abbrev M3 := T → List T → Mh → K3 → Prop
def SM (r : V → List V → Hp → VK → Prop) (mm : M3) : Prop := ∀ x xs tx ts H M R Q, mm tx ts M R → Rp H tx x → Rps H ts xs → RM H M → KR H R Q → r x xs H Q
def eML (mm : M3) (mo : E3) (ma : A3) : E3 := fun τ M R => mo τ M fun x M1 => match x with
  | .ref a => (match M1 a with
    | some (.lst _) => ma τ M1 fun ts M2 => mm x ts M2 R
    | _ => False)
  | _ => False
theorem le_ml {r : V → List V → Hp → VK → Prop} {mm : M3} {name : Str} {id : String} (slot : Slot "list" name id) (hty : typeOf (.builtin id) = pure (.type "method_descriptor")) (hm : MtR X id r) (sm : SM r mm) (ho : LE X H0 o mo) (ha : LA X H0 (e :: es) mAs)
    (hbase : attributeBase o name X.env (eval o X.env) = eval o X.env := by rfl)
    (hfew : ((backTo cpos (starEach (e :: es) X.env)).all (fun x => !x.1) && (backToKw cpos (keywordEach [] X.env)).all (fun x => x.1.isSome)
      && decide ((e :: es).length + ([] : List Keyword).length + (if ([] : List Keyword).isEmpty then 0 else 1) < 30)) = true := by rfl)
    (hline : (apos.endLine == cpos.line) = true := by rfl) (hs : starEach (e :: es) X.env = (false, eval e X.env) :: starEach es X.env := by rfl) (hplain : (backTo cpos (starEach es X.env)).any (·.1) = false := by rfl) :
    LE X H0 (.Call (.Attribute o name apos) (e :: es) [] cpos) (eML mm mo mAs) := by
  obtain ⟨_, po, so⟩ := ho.ex
  obtain ⟨_, pa, sa⟩ := ha.ex
  refine ⟨_, pe_bm PySem.F.plainAttrs_list slot hty hm po pa hbase hfew hline hs hplain, fun τ M R σ H Q h t rs rm k => so τ M _ σ H _ h t rs rm fun x H1 tx M1 t1 rx rm1 h1 => ?_⟩
  cases tx with
  | ref a =>
    cases rx
    dsimp only at h1
    split at h1
    · rename_i xs q
      obtain ⟨us, e, r⟩ := rm1 _ _ q
      exact ⟨.inl ⟨rfl, us, SqL.of e⟩, sa τ M1 _ σ H1 _ h1 (t.trans t1) (rs.mv t1) rm1 fun vs H2 ts M2 l t2 rv rm2 h2 => sm _ vs _ ts H2 M2 R Q h2 (.ref a) rv rm2 (k.mv (t1.trans t2))⟩
    · exact h1.elim
  | _ => exact h1.elim
theorem le_ml0 {r : V → List V → Hp → VK → Prop} {mm : M3} {name : Str} {id : String} (slot : Slot "list" name id) (hty : typeOf (.builtin id) = pure (.type "method_descriptor")) (hm : MtR X id r) (sm : SM r mm) (ho : LE X H0 o mo)
    (hbase : attributeBase o name X.env (eval o X.env) = eval o X.env := by rfl) (hline : (apos.endLine == cpos.line) = true := by rfl) : LE X H0 (.Call (.Attribute o name apos) [] [] cpos) (eML mm mo aNil) := by
  obtain ⟨_, po, so⟩ := ho.ex
  refine ⟨_, pe_bm0 PySem.F.plainAttrs_list slot hty hm po hbase hline, fun τ M R σ H Q h t rs rm k => so τ M _ σ H _ h t rs rm fun x H1 tx M1 t1 rx rm1 h1 => ?_⟩
  cases tx with
  | ref a =>
    cases rx
    dsimp only at h1
    split at h1
    · rename_i xs q
      obtain ⟨us, e, r⟩ := rm1 _ _ q
      exact ⟨.inl ⟨rfl, us, SqL.of e⟩, sm _ [] _ [] H1 M1 R Q h1 (.ref a) .nil rm1 (k.mv t1)⟩
    · exact h1.elim
  | _ => exact h1.elim
def mAppend : M3 := fun x ts M R => match x, ts with
  | .ref a, [y] => (match M a with
    | some (.lst xs) => xs.length < sizeLine ∧ R .non (up M a (.lst (xs ++ [y])))
    | _ => False)
  | _, _ => False
theorem sm_append : SM rAppend mAppend := fun x xs tx ts H M R Q h rx rv rm k => by
  unfold mAppend at h
  split at h
  · rename_i a y
    cases rx
    cases rv with
    | cons r rr =>
      cases rr
      split at h
      · rename_i zs q
        obtain ⟨us, e, r1⟩ := rm _ _ q
        have nt : NT H a := ⟨_, e, rfl⟩
        exact ⟨a, us, _, rfl, rfl, e, by rw [r1.len]; exact h.1, k _ _ _ _ (.put nt) .non (rm.put (mo := .lst (zs ++ [y])) nt ⟨_, upd_same, (r1.app (.cons r .nil)).mv (.put nt)⟩) h.2⟩
      · exact h.elim
  · exact h.elim
theorem le_append (ho : LE X H0 o mo) (ha : LA X H0 [e] mAs)
    (hbase : attributeBase o "append" X.env (eval o X.env) = eval o X.env := by rfl)
    (hfew : ((backTo cpos (starEach [e] X.env)).all (fun x => !x.1) && (backToKw cpos (keywordEach [] X.env)).all (fun x => x.1.isSome)
      && decide (([e] : List Expr).length + ([] : List Keyword).length + (if ([] : List Keyword).isEmpty then 0 else 1) < 30)) = true := by rfl)
    (hline : (apos.endLine == cpos.line) = true := by rfl) (hs : starEach [e] X.env = (false, eval e X.env) :: starEach [] X.env := by rfl) (hplain : (backTo cpos (starEach [] X.env)).any (·.1) = false := by rfl) : LE X H0 (.Call (.Attribute o "append" apos) [e] [] cpos) (eML mAppend mo mAs) := le_ml PySem.F.slot_list_append PySem.F.type_list_append mt_append sm_append ho ha hbase hfew hline hs hplain
def mExtend : M3 := fun x ts M R => match x, ts with
  | .ref a, [.ref b] => (match M a, M b with
    | some (.lst xs), some (.lst ys) => xs.length + ys.length ≤ sizeLine ∧ R .non (up M a (.lst (xs ++ ys)))
    | _, _ => False)
  | _, _ => False
theorem sm_extend : SM rExtend mExtend := fun x xs tx ts H M R Q h rx rv rm k => by
  unfold mExtend at h
  split at h
  · rename_i a b
    cases rx
    cases rv with
    | cons r rr =>
      cases r; cases rr
      split at h
      · rename_i zs ys q q2
        obtain ⟨us, e, r1⟩ := rm _ _ q
        obtain ⟨ws, e2, r2⟩ := rm _ _ q2
        have nt : NT H a := ⟨_, e, rfl⟩
        exact ⟨a, b, us, ws, rfl, rfl, e, e2, by rw [r1.len, r2.len]; exact h.1, k _ _ _ _ (.put nt) .non (rm.put (mo := .lst (zs ++ ys)) nt ⟨_, upd_same, (r1.app r2).mv (.put nt)⟩) h.2⟩
      · exact h.elim
  · exact h.elim
theorem le_extend (ho : LE X H0 o mo) (ha : LA X H0 [e] mAs)
    (hbase : attributeBase o "extend" X.env (eval o X.env) = eval o X.env := by rfl)
    (hfew : ((backTo cpos (starEach [e] X.env)).all (fun x => !x.1) && (backToKw cpos (keywordEach [] X.env)).all (fun x => x.1.isSome)
      && decide (([e] : List Expr).length + ([] : List Keyword).length + (if ([] : List Keyword).isEmpty then 0 else 1) < 30)) = true := by rfl)
    (hline : (apos.endLine == cpos.line) = true := by rfl) (hs : starEach [e] X.env = (false, eval e X.env) :: starEach [] X.env := by rfl) (hplain : (backTo cpos (starEach [] X.env)).any (·.1) = false := by rfl) : LE X H0 (.Call (.Attribute o "extend" apos) [e] [] cpos) (eML mExtend mo mAs) := le_ml PySem.F.slot_list_extend PySem.F.type_list_extend mt_extend sm_extend ho ha hbase hfew hline hs hplain
def mRev : M3 := fun x ts M R => match x, ts with
  | .ref a, [] => (match M a with
    | some (.lst xs) => R .non (up M a (.lst xs.reverse))
    | _ => False)
  | _, _ => False
theorem sm_rev : SM rReverse mRev := fun x xs tx ts H M R Q h rx rv rm k => by
  unfold mRev at h
  split at h
  · rename_i a
    cases rx
    cases rv
    split at h
    · rename_i zs q
      obtain ⟨us, e, r1⟩ := rm _ _ q
      have nt : NT H a := ⟨_, e, rfl⟩
      exact ⟨a, us, rfl, rfl, e, k _ _ _ _ (.put nt) .non (rm.put (mo := .lst zs.reverse) nt ⟨_, upd_same, r1.rev.mv (.put nt)⟩) h⟩
    · exact h.elim
  · exact h.elim
theorem le_reverse (ho : LE X H0 o mo) (hbase : attributeBase o "reverse" X.env (eval o X.env) = eval o X.env := by rfl) (hline : (apos.endLine == cpos.line) = true := by rfl) : LE X H0 (.Call (.Attribute o "reverse" apos) [] [] cpos) (eML mRev mo aNil) := le_ml0 PySem.F.slot_list_reverse PySem.F.type_list_reverse mt_reverse sm_rev ho hbase hline
/-- sep.join(list or tuple of texts) -/
def eJoin (mo me : E3) : E3 := fun τ M R => mo τ M fun x M1 => match x with
  | .str z => me τ M1 fun y M2 => ∃ ys : List Str, (y = .tup (ys.map T.str) ∨ ∃ a, y = .ref a ∧ M2 a = some (.lst (ys.map T.str))) ∧ (ys.map (·.length)).sum + ys.length * z.length ≤ 16777216 ∧ R (.str (Txt.join z ys)) M2
  | _ => False
theorem le_join (ho : LE X H0 o mo) (he : LE X H0 e m) (hs : starEach [e] X.env = [(false, eval e X.env)] := by rfl) (hbase : attributeBase o "join" X.env (eval o X.env) = eval o X.env := by rfl) (hline : (apos.endLine == pos.line) = true := by rfl) : LE X H0 (.Call (.Attribute o "join" apos) [e] [] pos) (eJoin mo m) := by
  obtain ⟨_, po, so⟩ := ho.ex
  obtain ⟨_, pe, se⟩ := he.ex
  refine ⟨_, pe_join po pe hs hbase hline, fun τ M R σ H Q h t rs rm k => so τ M _ σ H _ h t rs rm fun x H1 tx M1 t1 rx rm1 h1 => ?_⟩
  cases tx with
  | str z =>
    cases rx
    refine ⟨⟨z, rfl⟩, se τ M1 _ σ H1 _ h1 (t.trans t1) (rs.mv t1) rm1 fun y H2 ty M2 t2 ry rm2 h2 => ?_⟩
    obtain ⟨ys, hy, hl, h2⟩ := h2
    have kk := (k.mv (t1.trans t2)).at (.str (Txt.join z ys)) rm2 h2
    rcases hy with rfl | ⟨a, rfl, q⟩
    · cases ry with
      | tup e r =>
        cases rps_str r
        exact ⟨z, _, ys, rfl, rfl, .inr (SqT.of e), hl, kk⟩
    · cases ry
      obtain ⟨us, e, r⟩ := rm2 _ _ q
      cases rps_str r
      exact ⟨z, a, ys, rfl, rfl, .inl (SqL.of e), hl, kk⟩
  | _ => exact h1.elim
end
end L3
set_option Elab.async false
set_option linter.all false
set_option maxRecDepth 100000
set_option maxHeartbeats 1000000
namespace G
open PySem PySem.Spec PyProof.Rows L2
theorem pe_callG {X : Cx} {k : Nat} {f : Addr} {fd : FuncData} {ps : List Str} {sp : Sp} {x : Str} {p pos : Pos} {e : Expr} {es : List Expr} {t : TA} (F : FnG X.prog X.w X.K X.mg X.base k f fd ps sp) (len : ∀ vs H Q E, sp vs H Q E → vs.length = ps.length) (gd : X.A.guards = some []) (hr : Room k X.A) (hg : Gl X x) (hm : X.mg x = some (.ref f)) (hk : PySem.W.keepIn X.K (.ref f) = true) (hb : Binds X.K fd ps [])
    (ha : PA X (e :: es) t) (hdb : (x == ("__debug__" : Str)) = false := by decide) (he : starEach (e :: es) X.env = (false, eval e X.env) :: starEach es X.env := by rfl) (hpl : (backTo pos (starEach es X.env)).any (·.1) = false := by rfl) : PE X (.Call (.Name x p) (e :: es) [] pos) (tCall sp [] E0 t) :=
  ⟨fun pins s σ H Q I h => wpAny_Call_Name_kw (ld_glob I hg hm (PySem.W.callWith_K (h₀ := X.base) I.ok.mod.kin hk (thn (ha.run pos pins s σ H _ I h) fun us s1 ⟨vs, H1, I1, r, q⟩ => ⟨I1.kIn, by
    have r2 : Vals (vs ++ []) (us ++ []) := r.append .nil
    refine wpAny_call (codeAny_mono (F.run X.A X.stack s1 H1 ⟨us, []⟩ (us ++ []) (vs ++ []) Q E0 gd hr I1.env0 (hb s1 us I1.kIn (r2.length.symm.trans (len _ _ _ _ q))) r2 q) fun r s' hq => ?_)
    cases r with
    | error e => exact hq.elim
    | ok fl =>
      cases fl with
      | ret u => exact I1.after hq
      | _ => exact hq.elim⟩) he hpl) hdb)⟩
def rStD (K : PySem.W.Frag) : List V → Hp → VK → Prop := fun xs H Q => ∃ (a : Addr) (d : PyData), xs = [.ref a] ∧ Dp K H (.ref a) d ∧ d.showable = true ∧ d.hasDict = false ∧ d.depth ≤ 50 ∧ d.shown.length ≤ sizeLine ∧ Q (.str d.shown) H
theorem cr_str {X : Cx} (hg : X.A.guards = some []) (hu : X.A.units + 64 < cLine) : CallR X (.type "str") (rStD X.K) := by
  intro pins s σ H xs us Q I r h
  obtain ⟨a, d, rfl, hd, hs, hn, hdp, hz, q⟩ := h
  obtain ⟨u, rfl, ru⟩ := vals1 r
  cases ru
  obtain ⟨as, rd⟩ := Dp.reads I d (.ref a) (.ref a) hd rfl
  exact str_of_reads rd hs (fun z => by rw [hn] at z; cases z) hg (by omega) (fun _ _ e => e) (fun h' u tk hk => ⟨.str d.shown, H, I.kept (t' := tk) hk, ⟨u, rfl⟩, q⟩) hz
end G
set_option Elab.async false
set_option linter.all false
set_option maxRecDepth 100000
set_option maxHeartbeats 1000000
set_option autoImplicit false
namespace L3
open PySem PySem.Spec PyProof.Rows L2
/-! ### repr, where no repr is under way -/
section
variable {X : Cx} {H0 : Hp} {a b c e o tg : Expr} {es : List Expr} {pos apos cpos p p2 : Pos} {ma mb mc m mo : E3} {mA mB : B3} {mAs : A3}
/-! ### sorted(set(texts)) -/
open Classical in
noncomputable def srt (ws : List Str) : List Str := if h : ∃ ys : List Str, sortedS ys = true ∧ ys.Nodup ∧ ∀ k, k ∈ ys ↔ k ∈ ws then Classical.choose h else []
end
section
variable {P : Program} {w : World} {K : Fg} {mg : Str → Option Value} {base : Heap}
/-- a def that may ask repr -/
structure ClG (P : Program) (w : World) (K : Fg) (mg : Str → Option Value) (base : Heap) (x : Str) (k : Nat) (ps : List Str) (sp : Sp3) : Prop where
  ex : ∃ (f : Addr) (fd : FuncData), G.FnG P w K mg base k f fd ps (lift sp) ∧ (∀ ts M R E, sp ts M R E → ts.length = ps.length) ∧ mg x = some (.ref f) ∧ PySem.W.keepIn K (.ref f) = true ∧ Binds K fd ps []
theorem _root_.L2.Fun.ok3G {x qual : Str} {st : Stmt} {f : Addr} {fd : FuncData} {N ps : List Str} {k : Nat} {sp : Sp3} (F : L2.Fun K x qual st f fd) (S : FnScope N ps (defScope st)) (len : ∀ ts M R E, sp ts M R E → ts.length = ps.length)
    (hbody : ∀ (cdv : Value) (A : Around) (outer : List Env) (s : Shared) (H : Hp) (E : XK) (ts : List T) (M : Mh) (R : K3) (E3 : X3), (A.deeper (envOfC qual (defScope st) s.heap.objs.size f cdv)).guards = some [] → Room k (A.deeper (envOfC qual (defScope st) s.heap.objs.size f cdv)) → sp ts M R E3 →
      ∃ m, LSs (cxOf CX0 P w K mg base N qual (defScope st) f cdv A outer s H E).nox H (defBody st) m ∧ m { nx := fun _ M' => fin3 R .non M', rt := fin3 R } (start3 N ts) M) : G.FnG P w K mg base (k + 1) f fd ps (lift sp) := by
  refine G.Fun.okG F S (fun vs H Q E h => ?_) (fun cdv A outer s H vs Q E hg hr h => ?_)
  · obtain ⟨ts, M, R, E3, rv, _, h, _⟩ := h
    rw [rv.len]
    exact len _ _ _ _ h
  · obtain ⟨ts, M, R, E3, rv, rm, h, kq, kx⟩ := h
    obtain ⟨m, l, hm⟩ := hbody cdv A outer s H E ts M R E3 hg hr h
    obtain ⟨t, p, ss⟩ := l.ex
    refine ⟨t, p, ss _ _ _ M _ H hm .refl (rs_start rv) rm ⟨fun σ' H' τ' M' t' rs' rm' h' => ?_, fun v H' tv M' t' rv' rm' h' => ?_, fun _ _ _ _ _ _ _ z => z, fun _ _ _ _ _ _ _ z => z⟩⟩
    · obtain ⟨M2, s2, h2⟩ := h'
      exact kq .non H' .non M2 t' .non (rm'.sub s2) h2
    · obtain ⟨M2, s2, h2⟩ := h'
      exact kq v H' tv M2 t' rv' (rm'.sub s2) h2
/-! ### exceptions -/
abbrev WX3 := Value → Option Addr → Ts → Mh → Prop
def XW (H0 : Hp) (W3 : WX3) (W : WX) : Prop := ∀ c d σ H τ M, Tups H0 H → RS H τ σ → RM H M → W3 c d τ M → W c d σ H
/-- what is wished of exceptions here -/
structure TX (X : Cx) (H0 : Hp) (W3 : WX3) : Prop where
  ex : ∃ W, Takes X W ∧ XW H0 W3 W
theorem _root_.L2.Fun.ok3X {x qual : Str} {st : Stmt} {f : Addr} {fd : FuncData} {N ps : List Str} {k : Nat} {sp : Sp3} (F : L2.Fun K x qual st f fd) (S : FnScope N ps (defScope st)) (len : ∀ ts M R E, sp ts M R E → ts.length = ps.length)
    (hbody : ∀ (cdv : Value) (A : Around) (outer : List Env) (s : Shared) (H : Hp) (E : XK) (ts : List T) (M : Mh) (R : K3) (E3 : X3), Room k (A.deeper (envOfC qual (defScope st) s.heap.objs.size f cdv)) → TX (cxOf (L2.CX P w) P w K mg base N qual (defScope st) f cdv A outer s H E) H (fun c d _ M => E3 c d M) → sp ts M R E3 →
      ∃ m, LSs (cxOf (L2.CX P w) P w K mg base N qual (defScope st) f cdv A outer s H E) H (defBody st) m ∧ m { nx := fun _ M' => fin3 R .non M', rt := fin3 R } (start3 N ts) M) : FnOk P w K mg base (L2.CX P w) (k + 1) f fd ps (lift sp) := by
  refine F.okX S (fun vs H Q E h => ?_) (fun cdv A outer s H vs Q E hr h => ?_)
  · obtain ⟨ts, M, R, E3, rv, _, h, _⟩ := h
    rw [rv.len]
    exact len _ _ _ _ h
  · obtain ⟨ts, M, R, E3, rv, rm, h, kq, kx⟩ := h
    obtain ⟨m, l, hm⟩ := hbody cdv A outer s H E ts M R E3 hr ⟨_, takes_of rfl rfl rfl rfl, fun c d σ H' τ M' t rs rm q => kx c d H' M' t rm q⟩ h
    obtain ⟨t, p, ss⟩ := l.ex
    refine ⟨t, p, ss _ _ _ M _ H hm .refl (rs_start rv) rm ⟨fun σ' H' τ' M' t' rs' rm' h' => ?_, fun v H' tv M' t' rv' rm' h' => ?_, fun _ _ _ _ _ _ _ z => z, fun _ _ _ _ _ _ _ z => z⟩⟩
    · obtain ⟨M2, s2, h2⟩ := h'
      exact kq .non H' .non M2 t' .non (rm'.sub s2) h2
    · obtain ⟨M2, s2, h2⟩ := h'
      exact kq v H' tv M2 t' rv' (rm'.sub s2) h2
structure ClX (P : Program) (w : World) (K : Fg) (mg : Str → Option Value) (base : Heap) (x : Str) (k : Nat) (ps : List Str) (sp : Sp3) : Prop where
  ex : ∃ (f : Addr) (fd : FuncData), FnOk P w K mg base (L2.CX P w) k f fd ps (lift sp) ∧ mg x = some (.ref f) ∧ PySem.W.keepIn K (.ref f) = true ∧ Binds K fd ps []
theorem cx_no {o : List Env} {H : Hp} {s : Shared} {e : Value} {s' : Shared} : ¬ L2.CX P w o H s (fun _ _ _ => False) e s' := fun ⟨_, _, _, _, _, _, _, _, _, _, _, _, z⟩ => z
theorem ClX.cl {x : Str} {k : Nat} {ps : List Str} {sp : Sp3} (c : ClX P w K mg base x k ps sp) : Cl P w K mg base x k ps sp := let ⟨f, fd, a, b, d, e⟩ := c.ex; ⟨_, f, fd, a, fun _ _ _ _ _ => cx_no, b, d, e⟩
/-! methods -/
structure ClM (P : Program) (w : World) (K : Fg) (mg : Str → Option Value) (base : Heap) (C : Addr) (x : Str) (k : Nat) (ps : List Str) (sp : Sp3) : Prop where
  ex : ∃ (CX : CXT) (f : Addr) (fd : FuncData), FnOk P w K mg base CX k f fd ps (lift sp) ∧ (∀ o H s e s', ¬ CX o H s (fun _ _ _ => False) e s') ∧ Cls K C ∧ Meth K C x f ∧ Binds K fd ps []
structure ClMX (P : Program) (w : World) (K : Fg) (mg : Str → Option Value) (base : Heap) (C : Addr) (x : Str) (k : Nat) (ps : List Str) (sp : Sp3) : Prop where
  ex : ∃ (f : Addr) (fd : FuncData), FnOk P w K mg base (L2.CX P w) k f fd ps (lift sp) ∧ Cls K C ∧ Meth K C x f ∧ Binds K fd ps []
theorem ClMX.cl {C : Addr} {x : Str} {k : Nat} {ps : List Str} {sp : Sp3} (c : ClMX P w K mg base C x k ps sp) : ClM P w K mg base C x k ps sp := let ⟨f, fd, a, b, d, e⟩ := c.ex; ⟨_, f, fd, a, fun _ _ _ _ _ => cx_no, b, d, e⟩
end
section
variable {X : Cx} {H0 : Hp} {a b c e o tg : Expr} {es : List Expr} {pos apos cpos p p2 : Pos} {ma mb mc m mo : E3} {mA mB : B3} {mAs : A3}
theorem le_callG {k : Nat} {x : Str} {ps : List Str} {sp : Sp3} (c : ClG X.prog X.w X.K X.mg X.base x k ps sp) (gd : X.A.guards = some []) (hr : Room k X.A) (hg : Gl X x) (ha : LA X H0 (e :: es) mAs) (hdb : (x == ("__debug__" : Str)) = false := by decide) (he : starEach (e :: es) X.env = (false, eval e X.env) :: starEach es X.env := by rfl) (hpl : (backTo pos (starEach es X.env)).any (·.1) = false := by rfl) :
    LE X H0 (.Call (.Name x p) (e :: es) [] pos) (eCall sp N3 mAs) := by
  obtain ⟨f, fd, F, hl, hm, hk, hb⟩ := c.ex
  obtain ⟨_, pa, sa⟩ := ha.ex
  refine ⟨_, G.pe_callG F (fun vs H Q E h => ?_) gd hr hg hm hk hb pa hdb he hpl, fun τ M R σ H Q h t rs rm k => sa τ M _ σ H _ h t rs rm fun vs H1 ts M1 l t1 rv rm1 h1 => ?_⟩
  · obtain ⟨ts, M, R, E3, rv, _, h, _⟩ := h
    rw [rv.len]
    exact hl _ _ _ _ h
  · rw [List.append_nil]
    exact ⟨ts, M1, R, N3, rv, rm1, h1, k.mv t1, fun _ _ _ _ _ _ z => z.elim⟩
def eCallX (sp : Sp3) (W3 : WX3) (m : A3) : E3 := fun τ M R => m τ M fun ts M1 => sp ts M1 R fun c d M' => W3 c d τ M'
theorem le_callX {k : Nat} {x : Str} {ps : List Str} {sp : Sp3} {W3 : WX3} (tx : TX X H0 W3) (c : ClX X.prog X.w X.K X.mg X.base x k ps sp) (hr : Room k X.A) (hg : Gl X x) (ha : LA X H0 (e :: es) mAs) (hdb : (x == ("__debug__" : Str)) = false := by decide) (he : starEach (e :: es) X.env = (false, eval e X.env) :: starEach es X.env := by rfl) (hpl : (backTo pos (starEach es X.env)).any (·.1) = false := by rfl) :
    LE X H0 (.Call (.Name x p) (e :: es) [] pos) (eCallX sp W3 mAs) := by
  obtain ⟨f, fd, F, hm, hk, hb⟩ := c.ex
  obtain ⟨_, pa, sa⟩ := ha.ex
  obtain ⟨W, tk, xw⟩ := tx.ex
  refine ⟨_, pe_callS F hr hg hm hk hb (fun σ => L2.passAt tk σ) pa hdb he hpl, fun τ M R σ H Q h t rs rm k => sa τ M _ σ H _ h t rs rm fun vs H1 ts M1 l t1 rv rm1 h1 => ?_⟩
  exact ⟨ts, M1, R, _, rv, rm1, h1, k.mv t1, fun c d H' M' t' rm' q => xw c d σ H' τ M' ((t.trans t1).trans t') (rs.mv (t1.trans t')) rm' q⟩
/-! ### objects -/
def eFld (C : Addr) (ns : List Str) (i : Nat) (mo : E3) : E3 := fun τ M R => mo τ M fun x M1 => match x with
  | .ref a => (match M1 a with
    | some (.ins C' fs) => (C' = C ∧ fs.map (·.1) = ns) ∧ (match fs[i]? with
      | some (_, v) => R v M1
      | none => False)
    | _ => False)
  | _ => False
theorem lookup_at {f : Str} : ∀ {us : List (Str × V)} {i : Nat} {v : V}, (us.map (·.1)).Nodup → us[i]? = some (f, v) → us.lookup f = some v
  | [], _, _, _, h => by simp at h
  | (g, x) :: us, 0, v, _, h => by
    simp at h
    obtain ⟨rfl, rfl⟩ := h
    simp [List.lookup]
  | (g, x) :: us, i + 1, v, n, h => by
    have h' : us[i]? = some (f, v) := by simpa using h
    have n' : (g :: us.map (·.1)).Nodup := n
    have hg : f ≠ g := fun z => by
      have := List.mem_of_getElem? h'
      have : f ∈ us.map (·.1) := List.mem_map.mpr ⟨_, this, rfl⟩
      rw [z] at this
      exact (List.nodup_cons.mp n').1 this
    have e : (f == g) = false := beq_eq_false_iff_ne.mpr hg
    rw [List.lookup, e]
    exact lookup_at (List.nodup_cons.mp n').2 h'
theorem Rkv.keys {κ : Type} {H : Hp} : ∀ {xs : List (κ × T)} {vs : List (κ × V)}, Rkv H xs vs → vs.map (·.1) = xs.map (·.1)
  | _, _, .nil => rfl
  | _, _, .cons _ rs => by rw [List.map_cons, List.map_cons, rs.keys]
theorem Rkv.at {κ : Type} {H : Hp} : ∀ {xs : List (κ × T)} {vs : List (κ × V)} {i : Nat} {k : κ} {t : T}, Rkv H xs vs → xs[i]? = some (k, t) → ∃ v, vs[i]? = some (k, v) ∧ Rp H t v
  | _, _, _, _, _, .nil, e => by simp at e
  | _, _, 0, _, _, .cons r _, e => by
    simp at e
    obtain ⟨rfl, rfl⟩ := e
    exact ⟨_, rfl, r⟩
  | _, _, i + 1, k, t, .cons _ rs, e => by
    obtain ⟨v, h1, h2⟩ := Rkv.at (i := i) (k := k) (t := t) rs (by simpa using e)
    exact ⟨v, by simpa using h1, h2⟩
theorem le_fld {C : Addr} {ns : List Str} {i : Nat} {f : Str} (hc : Cls X.K C) (hn : NoAttr X.K C f) (hd : ns.Nodup) (hi : ns[i]? = some f) (ho : LE X H0 o mo) (hb : attributeBase o f X.env (eval o X.env) = eval o X.env := by rfl) : LE X H0 (.Attribute o f pos) (eFld C ns i mo) := by
  obtain ⟨_, po, so⟩ := ho.ex
  refine ⟨_, pe_fld po hb, fun τ M R σ H Q h t rs rm k => so τ M _ σ H _ h t rs rm fun x H1 tx M1 t1 rx rm1 h1 => ?_⟩
  cases tx with
  | ref a =>
    cases rx
    dsimp only at h1
    split at h1
    · rename_i C' fs q
      obtain ⟨⟨rfl, hns⟩, h1⟩ := h1
      split at h1
      · rename_i g v q2
        obtain ⟨dx, us, e, r⟩ := rm1 _ _ q
        have eg : g = f := by
          have z : (fs.map (·.1))[i]? = some g := by rw [List.getElem?_map, q2]; rfl
          rw [hns, hi] at z
          exact (Option.some.inj z).symm
        subst eg
        obtain ⟨w, hw, rw'⟩ := r.at q2
        exact ⟨a, _, dx, us, w, rfl, e, hc, hn, lookup_at (by rw [r.keys, hns]; exact hd) hw, (k.mv t1).at rw' rm1 h1⟩
      · exact h1.elim
    · exact h1.elim
  | _ => exact h1.elim
def putN (f : Str) (v : T) : List (Str × T) → List (Str × T)
  | [] => [(f, v)]
  | (g, x) :: r => if g = f then (g, v) :: r else (g, x) :: putN f v r
theorem Rkv.putN {H : Hp} {f : Str} {t : T} {v : V} (q : Rp H t v) : ∀ {xs : List (Str × T)} {vs : List (Str × V)}, Rkv H xs vs → Rkv H (L3.putN f t xs) (putF f v vs)
  | _, _, .nil => .cons q .nil
  | (g, x) :: xs, _, .cons r rs => by
    unfold L3.putN putF
    split
    · exact .cons q rs
    · exact .cons r (Rkv.putN q rs)
theorem putN_new {f : Str} {v : T} : ∀ {fs : List (Str × T)}, f ∉ fs.map (·.1) → L3.putN f v fs = fs ++ [(f, v)]
  | [], _ => rfl
  | (g, x) :: fs, h => by
    have hg : ¬ g = f := fun z => h (by rw [z]; exact .head _)
    show (if g = f then _ else _) = _
    rw [if_neg hg, putN_new fun z => h (.tail _ z)]
    rfl
def sFld (C : Addr) (f : Str) (mo mv : E3) : S3 := fun D τ M => mv τ M fun v M1 => mo τ M1 fun x M2 => match x with
  | .ref a => (match M2 a with
    | some (.ins C' fs) => (C' = C ∧ fs.length < 1000) ∧ D.nx τ (up M2 a (.ins C (L3.putN f v fs)))
    | _ => False)
  | _ => False
theorem ls_fld {C : Addr} {f : Str} {v : Expr} {mv : E3} {pos' : Pos} (hc : Cls X.K C) (hn : NoAttr X.K C f) (ho : LE X H0 o mo) (hv : LE X H0 v mv) (hs : swapsWith v (some (.Attribute o f pos')) pos.line X.env = pure false := by rfl) : LS X H0 (.Assign [.Attribute o f pos'] v pos) (sFld C f mo mv) := by
  obtain ⟨_, po, so⟩ := ho.ex
  obtain ⟨_, pv, sv⟩ := hv.ex
  refine ⟨_, ps_fld po pv hs, fun D3 D τ M σ H h t rs rm k => sv τ M _ σ H _ h t rs rm fun v H1 tv M1 t1 rv rm1 h1 => so τ M1 _ σ H1 _ h1 (t.trans t1) (rs.mv t1) rm1 fun x H2 tx M2 t2 rx rm2 h2 => ?_⟩
  cases tx with
  | ref a =>
    cases rx
    dsimp only at h2
    split at h2
    · rename_i C' fs q
      obtain ⟨⟨rfl, hl⟩, h2⟩ := h2
      obtain ⟨dx, us, e, r⟩ := rm2 _ _ q
      have nt : NT H2 a := ⟨_, e, rfl⟩
      refine ⟨a, _, dx, us, rfl, e, hc, hn, by rw [r.len]; exact hl, ?_⟩
      have tt := (t1.trans t2).trans (Tups.put (o := .ins C' dx (putF f v us)) nt)
      exact k.nx σ _ τ _ tt (rs.mv tt) (rm2.put (mo := .ins C' (L3.putN f tv fs)) nt ⟨dx, _, upd_same, (Rkv.putN (rv.mv t2) r).mv (.put nt)⟩) h2
    · exact h2.elim
  | _ => exact h2.elim
/-- o.m(..) -/
def eMeth (C : Addr) (m : Str) (sp : Sp3) (E : WX3) (mo : E3) (ma : A3) : E3 := fun τ M R => mo τ M fun x M1 => match x with
  | .ref a => (match M1 a with
    | some (.ins C' fs) => (C' = C ∧ fs.lookup m = none) ∧ ma τ M1 fun ts M2 => sp (.ref a :: ts) M2 R fun c d M' => E c d τ M'
    | _ => False)
  | _ => False
theorem Rkv.look0 {H : Hp} {m : Str} : ∀ {xs : List (Str × T)} {vs : List (Str × V)}, Rkv H xs vs → xs.lookup m = none → vs.lookup m = none
  | _, _, .nil, _ => rfl
  | (g, x) :: xs, _, .cons r rs, h => by
    rw [List.lookup] at h ⊢
    cases e : (m == g) with
    | true => rw [e] at h; cases h
    | false => rw [e] at h; exact Rkv.look0 rs h
def NW3 : WX3 := fun _ _ _ _ => False
theorem le_meth {C : Addr} {n : Str} {k : Nat} {ps : List Str} {sp : Sp3} {pl : Sem Bool} (cm : ClM X.prog X.w X.K X.mg X.base C n k ps sp) (hr : Room k X.A) (ho : LE X H0 o mo) (ha : LA X H0 (e :: es) mAs)
    (hst : starEach (e :: es) X.env = (false, eval e X.env) :: starEach es X.env := by rfl) (hpl : (backTo pos (starEach es X.env)).any (·.1) = false := by rfl)
    (ht : eval (.Call (.Attribute o n apos) (e :: es) [] pos) X.env = (do
      let ov ← eval o X.env
      standAt apos.atName
      let (f, first) ← holding [ov] (getMethod ov n pl)
      callWith pos f first (backTo pos (starEach (e :: es) X.env)) (backToKw pos (keywordEach [] X.env))) := by rfl) :
    LE X H0 (.Call (.Attribute o n apos) (e :: es) [] pos) (eMeth C n sp NW3 mo mAs) := by
  obtain ⟨CX, f, fd, F, hx, hc, hm, hb⟩ := cm.ex
  obtain ⟨_, po, so⟩ := ho.ex
  obtain ⟨_, pa, sa⟩ := ha.ex
  refine ⟨_, pe_meth (pl := pl) po hc hm F hr hb .nil (E := fun _ _ _ => False) (fun _ _ _ _ _ _ _ z => (hx _ _ _ _ _ z).elim) pa hst hpl ht, fun τ M R σ H Q h t rs rm k => so τ M _ σ H _ h t rs rm fun x H1 tx M1 t1 rx rm1 h1 => ?_⟩
  cases tx with
  | ref a =>
    cases rx
    dsimp only at h1
    split at h1
    · rename_i C' fs q
      obtain ⟨⟨rfl, hl⟩, h1⟩ := h1
      obtain ⟨dx, us, e, r⟩ := rm1 _ _ q
      refine ⟨a, dx, us, rfl, e, r.look0 hl, sa τ M1 _ σ H1 _ h1 (t.trans t1) (rs.mv t1) rm1 fun vs H2 ts M2 l t2 rv rm2 h2 => ?_⟩
      rw [List.append_nil]
      exact ⟨.ref a :: ts, M2, R, _, .cons (.ref a) rv, rm2, h2, k.mv (t1.trans t2), fun _ _ _ _ _ _ z => z.elim⟩
    · exact h1.elim
  | _ => exact h1.elim
theorem le_meth0 {C : Addr} {n : Str} {k : Nat} {ps : List Str} {sp : Sp3} {pl : Sem Bool} (cm : ClM X.prog X.w X.K X.mg X.base C n k ps sp) (hr : Room k X.A) (ho : LE X H0 o mo)
    (ht : eval (.Call (.Attribute o n apos) [] [] pos) X.env = (do
      let ov ← eval o X.env
      standAt apos.atName
      let (f, first) ← holding [ov] (getMethod ov n pl)
      callWith pos f first (backTo pos (starEach [] X.env)) (backToKw pos (keywordEach [] X.env))) := by rfl) :
    LE X H0 (.Call (.Attribute o n apos) [] [] pos) (eMeth C n sp NW3 mo aNil) := by
  obtain ⟨CX, f, fd, F, hx, hc, hm, hb⟩ := cm.ex
  obtain ⟨_, po, so⟩ := ho.ex
  refine ⟨_, pe_meth0 (pl := pl) po hc hm F hr hb .nil (E := fun _ _ _ => False) (fun _ _ _ _ _ _ _ z => (hx _ _ _ _ _ z).elim) ht, fun τ M R σ H Q h t rs rm k => so τ M _ σ H _ h t rs rm fun x H1 tx M1 t1 rx rm1 h1 => ?_⟩
  cases tx with
  | ref a =>
    cases rx
    dsimp only at h1
    split at h1
    · rename_i C' fs q
      obtain ⟨⟨rfl, hl⟩, h1⟩ := h1
      obtain ⟨dx, us, e, r⟩ := rm1 _ _ q
      refine ⟨a, dx, us, rfl, e, r.look0 hl, ?_⟩
      exact ⟨[.ref a], M1, R, _, .cons (.ref a) .nil, rm1, h1, k.mv t1, fun _ _ _ _ _ _ z => z.elim⟩
    · exact h1.elim
  | _ => exact h1.elim
end
end L3
set_option Elab.async false
set_option linter.all false
set_option maxRecDepth 100000
set_option maxHeartbeats 1000000
set_option autoImplicit false
namespace L3
open PySem PySem.Spec PyProof.Rows L2
section
variable {X : Cx} {H0 : Hp} {a b c e o tg : Expr} {es : List Expr} {pos apos cpos p p2 : Pos} {ma mb mc m mo : E3} {mA mB : B3} {mAs : A3}
/-! ### C(..) -/
structure ClI (P : Program) (w : World) (K : Fg) (mg : Str → Option Value) (base : Heap) (C : Addr) (x : Str) (k : Nat) (ps : List Str) (dts : List T) (sp : Sp3) : Prop where
  ex : ∃ (CX : CXT) (f : Addr) (fd : FuncData) (ds : List Value) (dvs : List V), FnOk P w K mg base CX k f fd ps (lift sp) ∧ (∀ o H s e s', ¬ CX o H s (fun _ _ _ => False) e s') ∧ Mk K C f ∧ mg x = some (.ref C) ∧ Binds K fd ps ds ∧ Vals dvs ds ∧ ∀ H, Rps H dts dvs
structure ClIX (P : Program) (w : World) (K : Fg) (mg : Str → Option Value) (base : Heap) (C : Addr) (x : Str) (k : Nat) (ps : List Str) (dts : List T) (sp : Sp3) : Prop where
  ex : ∃ (f : Addr) (fd : FuncData) (ds : List Value) (dvs : List V), FnOk P w K mg base (L2.CX P w) k f fd ps (lift sp) ∧ Mk K C f ∧ mg x = some (.ref C) ∧ Binds K fd ps ds ∧ Vals dvs ds ∧ ∀ H, Rps H dts dvs
theorem ClIX.cl {P : Program} {w : World} {K : Fg} {mg : Str → Option Value} {base : Heap} {C : Addr} {x : Str} {k : Nat} {ps : List Str} {dts : List T} {sp : Sp3} (c : ClIX P w K mg base C x k ps dts sp) : ClI P w K mg base C x k ps dts sp := let ⟨f, fd, ds, dvs, a, b⟩ := c.ex; ⟨_, f, fd, ds, dvs, a, fun _ _ _ _ _ => cx_no, b⟩
def eMake (C : Addr) (sp : Sp3) (dts : List T) (E : WX3) (ma : A3) : E3 := fun τ M R => ma τ M fun ts M1 => ∀ x, M1 x = none → sp (.ref x :: (ts ++ dts)) (up M1 x (.ins C [])) (fun v M2 => isNon v = true ∧ R (.ref x) M2) fun c d M' => E c d τ M'
theorem isNon_v {H : Hp} {t : T} {v : V} (r : Rp H t v) (h : isNon t = true) : v = .non := by
  cases t with
  | non => cases r; rfl
  | _ => cases h
theorem le_make {C : Addr} {x : Str} {k : Nat} {ps : List Str} {dts : List T} {sp : Sp3} (cm : ClI X.prog X.w X.K X.mg X.base C x k ps dts sp) (hr : Room (k + 1) X.A) (hg : Gl X x) (ha : LA X H0 (e :: es) mAs) (hdb : (x == ("__debug__" : Str)) = false := by decide)
    (he : starEach (e :: es) X.env = (false, eval e X.env) :: starEach es X.env := by rfl) (hpl : (backTo pos (starEach es X.env)).any (·.1) = false := by rfl) : LE X H0 (.Call (.Name x p) (e :: es) [] pos) (eMake C sp dts NW3 mAs) := by
  obtain ⟨CX, f, fd, ds, dvs, F, hx, mk, hm, hb, hd, rd⟩ := cm.ex
  obtain ⟨_, pa, sa⟩ := ha.ex
  refine ⟨_, pe_make mk F hr hg hm hb hd (E := fun _ _ _ => False) (fun _ _ _ _ _ _ _ z => (hx _ _ _ _ _ z).elim) pa hdb he hpl, fun τ M R σ H Q h t rs rm k => sa τ M _ σ H _ h t rs rm fun vs H1 ts M1 l t1 rv rm1 h1 => fun x dx nx ndx ne => ?_⟩
  have nx' : (upd H1 dx (.own x)) x = none := by rw [upd_ne (Ne.symm ne)]; exact nx
  have tt := (Tups.new (o := .own x) ndx).trans (Tups.new (o := .ins C dx []) nx')
  refine ⟨.ref x :: (ts ++ dts), _, _, _, .cons (.ref x) ((rv.mv tt).app (rd _)), (rm1.new0 ndx).new (mo := .ins C []) nx' ⟨dx, [], upd_same, .nil⟩, h1 x (rm1.free nx), fun v H2 tv M2 t2 r2 rm2 h2 => ?_, fun _ _ _ _ _ _ z => z.elim⟩
  exact ⟨isNon_v r2 h2.1, k _ _ _ _ ((t1.trans tt).trans t2) (.ref x) rm2 h2.2⟩
/-! ### raise X(text) -/
def sRaise (W3 : WX3) (C : Addr) (me : E3) : S3 := fun _ τ M => me τ M fun _ M1 => W3 (.ref C) none τ M1
structure ExcK (K : Fg) (mg : Str → Option Value) (x : Str) (C : Addr) : Prop where
  ex : PySem.W.excIn K C [.type "ValueError", .type "Exception", .type "BaseException", .type "object"] "ValueError.__new__" = true
  gC : mg x = some (.ref C)
  kC : PySem.W.keepIn K (.ref C) = true
  bC : PySem.W.subIn K (.ref C) (.type "BaseException") = some true
  tC : PySem.W.typeIn K (.ref C) = some (.type "type")
theorem ls_raise {W3 : WX3} {C : Addr} {x : Str} (hc : X.calm = true) (tx : TX X H0 W3) (k : ExcK X.K X.mg x C) (hg : Gl X x) (he : LE X H0 e m) (hs : starEach [e] X.env = (false, eval e X.env) :: starEach [] X.env := by rfl) (hdb : (x == ("__debug__" : Str)) = false := by decide) : LS X H0 (.Raise (some (.Call (.Name x p) [e] [] p2)) none pos) (sRaise W3 C m) := by
  obtain ⟨_, pe, se⟩ := he.ex
  obtain ⟨W, tk, xw⟩ := tx.ex
  refine ⟨_, ps_raise hc tk (SkE.pmk_own1 PySem.F.excBase_ValueError k.ex k.gC k.kC (raises_own k.bC k.tC) hg pe hs hdb), fun D3 D τ M σ H h t rs rm k => se τ M _ σ H _ h t rs rm fun v H1 tv M1 t1 rv rm1 h1 => ?_⟩
  exact xw _ _ σ H1 τ M1 (t.trans t1) (rs.mv t1) rm1 h1
/-! ### methods within a try -/
def tMethS (C : Addr) (m : Str) (sp : Sp) (E : Vs → XK) (ta : TE) (t : TA) : TE := fun σ H Q => ta σ H fun x H1 => ∃ a dx fs, x = .ref a ∧ H1 a = some (.ins C dx fs) ∧ fs.lookup m = none ∧
  t σ H1 fun vs H2 => sp (x :: vs) H2 Q (E σ)
theorem pe_methAt {CX : CXT} {k : Nat} {C f : Addr} {fd : FuncData} {ps : List Str} {sp : Sp} {n : Str} {E : Vs → XK} {ta : TE} {t : TA} {pl : Sem Bool} (he : PE X o ta) (c : Cls X.K C) (hm : Meth X.K C n f) (F : FnOk X.prog X.w X.K X.mg X.base CX k f fd ps sp) (hr : Room k X.A) (hb : Binds X.K fd ps []) (hx : ∀ σ, PassesAt CX X σ (E σ)) (ha : PA X (e :: es) t)
    (hst : starEach (e :: es) X.env = (false, eval e X.env) :: starEach es X.env := by rfl) (hpl : (backTo pos (starEach es X.env)).any (·.1) = false := by rfl)
    (ht : eval (.Call (.Attribute o n apos) (e :: es) [] pos) X.env = (do
      let ov ← eval o X.env
      standAt apos.atName
      let (f, first) ← holding [ov] (getMethod ov n pl)
      callWith pos f first (backTo pos (starEach (e :: es) X.env)) (backToKw pos (keywordEach [] X.env))) := by rfl) :
    PE X (.Call (.Attribute o n apos) (e :: es) [] pos) (tMethS C n sp E ta t) := by
  refine ⟨fun pins s σ H Q I h => ?_⟩
  refine PySem.W.methodCall_KW (pl := pl) (thn (he.run pins s σ H _ I h) fun u s1 ⟨x, H1, I1, rx, a, dx, fs, ex, ea, l, q⟩ => ?_) ht
  subst ex
  obtain rfl : u = Value.ref a := rx
  refine getmeth_ok I1 ea c hm l ?_
  refine PySem.W.callWith_K (first := [.ref a]) (h₀ := X.base) I.ok.mod.kin hm.kp (thn (ha.run pos pins s1 σ H1 _ I1 q) fun us s2 ⟨vs, H2, I2, r, q2⟩ => ⟨I2.kIn, ?_⟩) hst hpl
  exact run_fnS (us := .ref a :: us) (vs := .ref a :: vs) F hr hb (hx σ) I2 (.cons rfl r) q2
theorem le_methX {C : Addr} {n : Str} {k : Nat} {ps : List Str} {sp : Sp3} {W3 : WX3} {pl : Sem Bool} (tx : TX X H0 W3) (cm : ClMX X.prog X.w X.K X.mg X.base C n k ps sp) (hr : Room k X.A) (ho : LE X H0 o mo) (ha : LA X H0 (e :: es) mAs)
    (hst : starEach (e :: es) X.env = (false, eval e X.env) :: starEach es X.env := by rfl) (hpl : (backTo pos (starEach es X.env)).any (·.1) = false := by rfl)
    (ht : eval (.Call (.Attribute o n apos) (e :: es) [] pos) X.env = (do
      let ov ← eval o X.env
      standAt apos.atName
      let (f, first) ← holding [ov] (getMethod ov n pl)
      callWith pos f first (backTo pos (starEach (e :: es) X.env)) (backToKw pos (keywordEach [] X.env))) := by rfl) :
    LE X H0 (.Call (.Attribute o n apos) (e :: es) [] pos) (eMeth C n sp W3 mo mAs) := by
  obtain ⟨f, fd, F, hc, hm, hb⟩ := cm.ex
  obtain ⟨_, po, so⟩ := ho.ex
  obtain ⟨_, pa, sa⟩ := ha.ex
  obtain ⟨W, tk, xw⟩ := tx.ex
  refine ⟨_, pe_methAt (pl := pl) po hc hm F hr hb (fun σ => L2.passAt tk σ) pa hst hpl ht, fun τ M R σ H Q h t rs rm k => so τ M _ σ H _ h t rs rm fun x H1 tx M1 t1 rx rm1 h1 => ?_⟩
  cases tx with
  | ref a =>
    cases rx
    dsimp only at h1
    split at h1
    · rename_i C' fs q
      obtain ⟨⟨rfl, hl⟩, h1⟩ := h1
      obtain ⟨dx, us, e, r⟩ := rm1 _ _ q
      refine ⟨a, dx, us, rfl, e, r.look0 hl, sa τ M1 _ σ H1 _ h1 (t.trans t1) (rs.mv t1) rm1 fun vs H2 ts M2 l t2 rv rm2 h2 => ?_⟩
      exact ⟨.ref a :: ts, M2, R, _, .cons (.ref a) rv, rm2, h2, k.mv (t1.trans t2), fun c d H' M' t' rm' q => xw c d σ H' τ M' ((t.trans (t1.trans t2)).trans t') (rs.mv ((t1.trans t2).trans t')) rm' q⟩
    · exact h1.elim
  | _ => exact h1.elim
/-! ### try .. except X as e -/
def w3As (K : Fg) (c : Value) (i : Nat) (ms : Addr → Value → Option Addr → S3) (Wo : WX3) (D : En) : WX3 := fun cls d τ M =>
  ∃ b, PySem.W.exmOne K cls c = some b ∧ (b = true → ∀ a, M a = none → ms a cls d { nx := fun τ' M' => D.nx (τ'.set i none) M', rt := D.rt, bk := fun τ' M' => D.bk (τ'.set i none) M', ct := fun τ' M' => D.ct (τ'.set i none) M' } (τ.set i (some (.ref a))) M) ∧ (b = false → Wo cls d τ M)
def sTry (K : Fg) (c : Value) (i : Nat) (mb : WX3 → S3) (ms : Addr → Value → Option Addr → S3) (Wo : WX3) : S3 := fun D τ M => mb (w3As K c i ms Wo D) D τ M
theorem ls_try {x n : Str} {c : Value} {i : Nat} {body suite : List Stmt} {b₀ : Stmt} {np pos' : Pos} {mb : WX3 → S3} {ms : Addr → Value → Option Addr → S3} {Wo : WX3}
    (hs : X.stack = X.env :: X.outer) (hf : X.env.frame = some X.env.locals) (hN : X.N.Nodup) (hi : X.N[i]? = some n) (hln : X.env.kindOf n = some .local) (hc : Names X x c) (tx : TX X H0 Wo)
    (hb : ∀ (H1 : Hp) (W3 : WX3) (pn : List (Addr × Obj)) (xe : Value → Shared → Prop), TX (X.tr pn xe) H1 W3 → PassesOwn (model X.prog X.w) X.A X.env xe → LSs (X.tr pn xe) H1 body (mb W3))
    (hsu : ∀ (a : Addr) (oe : Obj) (cls : Value) (d : Option Addr) (pn : List (Addr × Obj)), Zc cls d oe → (∃ vs, oe.data = .fields vs) → LSs (X.suite a ((a, oe) :: pn)) H0 (b₀ :: suite) (ms a cls d)) :
    LS X H0 (.Try body [.ExceptHandler (some (.Name x np)) (some n) (b₀ :: suite) pos'] [] [] pos) (sTry X.K c i mb ms Wo) := by
  obtain ⟨Wout, tko, xwo⟩ := tx.ex
  refine ⟨_, ps_try_as hs hf hN hi hln hc tko
    (tb := fun W D σ H => ∃ (W3 : WX3) (xw : XW H W3 W), ∀ pn xe (tk : Takes (X.tr pn xe) W) (po : PassesOwn (model X.prog X.w) X.A X.env xe), Classical.choose (hb H W3 pn xe ⟨W, tk, xw⟩ po).ex D σ H)
    (ts := fun a cls d D σ H => ∀ oe pn hz hf, Classical.choose (hsu a oe cls d pn hz hf).ex D σ H)
    (fun W pn xe tk po => ⟨fun pins s σ H D I ⟨W3, xw, hw⟩ => (Classical.choose_spec (hb H W3 pn xe ⟨W, tk, xw⟩ po).ex).1.run pins s σ H D I (hw pn xe tk po)⟩)
    (fun a oe cls d pn hz hf => ⟨fun pins s σ H D I hw => (Classical.choose_spec (hsu a oe cls d pn hz hf).ex).1.run pins s σ H D I (hw oe pn hz hf)⟩), fun D3 D τ M σ H h t rs rm k => ?_⟩
  have xw : XW H (w3As X.K c i ms Wo D3) (wAs X.K c i (fun a cls d D σ H => ∀ oe pn hz hf, Classical.choose (hsu a oe cls d pn hz hf).ex D σ H) Wout D) := fun cls d σ' H' τ' M' t' rs' rm' q => by
    obtain ⟨b, hb1, hy, hn⟩ := q
    refine ⟨b, hb1, fun z a na => ?_, fun z => xwo cls d σ' H' τ' M' (t.trans t') rs' rm' (hn z)⟩
    intro oe pn hz hf
    refine (Classical.choose_spec (hsu a oe cls d pn hz hf).ex).2 _ _ _ M' _ H' (hy z a (rm'.free na)) (t.trans t') (rs'.set (.ref a)) rm' ⟨fun σ2 H2 τ2 M2 t2 rs2 rm2 h2 => ?_, fun v H2 tv M2 t2 => k.rt v H2 tv M2 (t'.trans t2), fun σ2 H2 τ2 M2 t2 rs2 rm2 h2 => ?_, fun σ2 H2 τ2 M2 t2 rs2 rm2 h2 => ?_⟩
    · exact k.nx _ H2 _ M2 (t'.trans t2) rs2.clr rm2 h2
    · exact k.bk _ H2 _ M2 (t'.trans t2) rs2.clr rm2 h2
    · exact k.ct _ H2 _ M2 (t'.trans t2) rs2.clr rm2 h2
  exact ⟨w3As X.K c i ms Wo D3, xw, fun pn xe tk po => (Classical.choose_spec (hb H _ pn xe ⟨_, tk, xw⟩ po).ex).2 D3 D τ M σ H h .refl rs rm k⟩
theorem tx_no {X : Cx} {W3 : WX3} (h : ∀ c d τ M, ¬ W3 c d τ M) : TX X.nox H0 W3 := ⟨fun _ _ _ _ => False, fun u s' ⟨_, _, _, _, _, _, _, _, _, _, _, _, _, _, _, _, z⟩ => z.elim, fun c d σ H τ M _ _ _ z => h c d τ M z⟩
/-- isinstance(e, C) of the exception that is handled -/
def eIsE (a : Addr) (i : Nat) (b : Bool) : E3 := fun τ M R => match τ[i]? with
  | some (some (.ref a')) => a' = a ∧ R (.bl b) M
  | _ => False
theorem le_isE {a D : Addr} {oe : Obj} {pn : List (Addr × Obj)} {i : Nat} {n x : Str} {cv : Value} {cvv : V} {b : Bool} {p3 : Pos} (C : ExcC X.K D) (hz : Zc (.ref D) none oe) (hf : ∃ vs, oe.data = .fields vs) (hg : Gl (X.suite a ((a, oe) :: pn)) "isinstance") (hm : X.mg "isinstance" = none)
    (hv : PE (X.suite a ((a, oe) :: pn)) (.Name n p2) (tVar i)) (hx : PE (X.suite a ((a, oe) :: pn)) (.Name x p3) (tC cvv)) (hr : ∀ u, RelV cvv u → u = cv) (hk : PySem.W.kitOne X.K (.ref D) cv = some b)
    (he1 : starEach [.Name n p2, .Name x p3] (X.suite a ((a, oe) :: pn)).env = (false, eval (.Name n p2) (X.suite a ((a, oe) :: pn)).env) :: starEach [.Name x p3] (X.suite a ((a, oe) :: pn)).env := by rfl) (he2 : starEach [.Name x p3] (X.suite a ((a, oe) :: pn)).env = (false, eval (.Name x p3) (X.suite a ((a, oe) :: pn)).env) :: starEach [] (X.suite a ((a, oe) :: pn)).env := by rfl) (hpl : (backTo pos (starEach [.Name x p3] (X.suite a ((a, oe) :: pn)).env)).any (·.1) = false := by rfl) :
    LE (X.suite a ((a, oe) :: pn)) H0 (.Call (.Name "isinstance" p) [.Name n p2, .Name x p3] [] pos) (eIsE a i b) := by
  refine ⟨_, pe_callB (call_isE C hz hf) hg hm (by decide +kernel) (pa_cons hv (pa_cons hx pa_nil he2) he1) (by decide) (by decide) he1 hpl, fun τ M R σ H Q h t rs rm k => ?_⟩
  unfold eIsE at h
  split at h
  · rename_i a' q
    obtain ⟨v, hw, r⟩ := rs.at_ i _ q
    cases r
    obtain ⟨rfl, h⟩ := h
    exact ⟨_, hw, _, cv, b, rfl, hr, hk, k.at (.bl _) rm h⟩
  · exact h.elim
end
end L3
set_option Elab.async false
set_option linter.all false
set_option maxRecDepth 100000
set_option maxHeartbeats 1000000
set_option autoImplicit false
namespace L3
open PySem PySem.Spec PyProof.Rows L2
section
variable {X : Cx} {H0 : Hp} {a b c e o tg : Expr} {es : List Expr} {pos apos cpos p p2 p3 : Pos} {ma mb mc m mo : E3} {mA mB : B3} {mAs : A3}
theorem le_gintE {x : Str} {i : Int} (hg : Gl X x) (hm : ∃ tk, X.mg x = some (.int i tk)) (hd : (x == ("__debug__" : Str)) = false := by decide) : LE X H0 (.Name x pos) (eC (.int i)) := let ⟨_, h⟩ := hm; le_gint hg h hd
/-! ### things whose kind is known -/
inductive KT (M : Mh) : T → Prop
  | non : KT M .non
  | bl (b : Bool) : KT M (.bl b)
  | int (i : Int) : KT M (.int i)
  | str (x : Str) : KT M (.str x)
  | lst {a : Addr} {xs : List T} : M a = some (.lst xs) → KT M (.ref a)
  | dK {a : Addr} {xs : List (Key × T)} : M a = some (.dK xs) → KT M (.ref a)
  | dT {a : Addr} {xs : List (List Key × T)} : M a = some (.dT xs) → KT M (.ref a)
  | tup {xs : List T} : (∀ x ∈ xs, KT M x) → KT M (.tup xs)
theorem KT.kd {M : Mh} {t : T} (h : KT M t) : ∃ j, L3.kd M t = some j := by
  cases h with
  | non => exact ⟨_, rfl⟩
  | bl b => exact ⟨_, rfl⟩
  | int b => exact ⟨_, rfl⟩
  | str b => exact ⟨_, rfl⟩
  | tup b => exact ⟨_, rfl⟩
  | lst e => exact ⟨.lst, by unfold L3.kd; simp only [e]⟩
  | dK e => exact ⟨.dic, by unfold L3.kd; simp only [e]⟩
  | dT e => exact ⟨.dic, by unfold L3.kd; simp only [e]⟩
theorem KT.sub {M M' : Mh} {t : T} (h : KT M t) (s : Sub M M') : KT M' t := by
  induction h with
  | non => exact .non
  | bl b => exact .bl b
  | int b => exact .int b
  | str b => exact .str b
  | tup _ ih => exact .tup ih
  | lst e => exact .lst (s _ _ e)
  | dK e => exact .dK (s _ _ e)
  | dT e => exact .dT (s _ _ e)
/-- data alone -/
inductive Pu : T → Prop
  | non : Pu .non
  | bl (b : Bool) : Pu (.bl b)
  | int (i : Int) : Pu (.int i)
  | str (x : Str) : Pu (.str x)
  | tup {xs : List T} : (∀ x ∈ xs, Pu x) → Pu (.tup xs)
theorem Pu.kt {M : Mh} {t : T} (h : Pu t) : KT M t := by
  induction h with
  | non => exact .non
  | bl b => exact .bl b
  | int b => exact .int b
  | str b => exact .str b
  | tup _ ih => exact .tup ih
/-- isinstance of such a thing -/
theorem isi_of {M : Mh} {t : T} {k : Kn} {R : K3} (h : KT M t) (q : ∀ j, L3.kd M t = some j → R (.bl (subK j k)) M) : match L3.kd M t with | some j => R (.bl (subK j k)) M | none => False := by
  obtain ⟨j, e⟩ := h.kd
  rw [e]
  exact q j e
def isTup : T → Bool
  | .tup _ => true
  | _ => false
theorem isi_tup {M : Mh} {t : T} {j : Kn} (h : L3.kd M t = some j) : subK j .tup = isTup t := by
  cases t with
  | ref a =>
    unfold L3.kd at h
    dsimp only at h
    split at h <;> first | (cases h; rfl) | cases h
  | ty n => cases h
  | scr K ns => cases h
  | _ => cases h; rfl
def isStr : T → Bool
  | .str _ => true
  | _ => false
theorem isi_str {M : Mh} {t : T} {j : Kn} (h : L3.kd M t = some j) : subK j .str = isStr t := by
  cases t with
  | ref a =>
    unfold L3.kd at h
    dsimp only at h
    split at h <;> first | (cases h; rfl) | cases h
  | ty n => cases h
  | scr K ns => cases h
  | _ => cases h; rfl
def isW : T → Bool
  | .int _ => true
  | _ => false
theorem isi_whole {M : Mh} {t : T} {j : Kn} (h : L3.kd M t = some j) : (subK j .int && !subK j .bl) = isW t := by
  cases t with
  | ref a =>
    unfold L3.kd at h
    dsimp only at h
    split at h <;> first | (cases h; rfl) | cases h
  | ty n => cases h
  | scr K ns => cases h
  | _ => cases h; rfl
/-! ### a comprehension that makes one value of each -/
theorem lc_map {items : List T} {Gd : Mh → Prop} {τ : Ts} {vs : List Nat} {i : Nat} {me : E3} {M : Mh} {R : K3} {p : Addr} (np : M p = none) (f : T → T) (hG : ∀ acc, Gd (up M p (.lst acc))) (hl : items.length ≤ sizeLine)
    (he : ∀ x ∈ items, ∀ acc (K : K3), K (f x) (up M p (.lst acc)) → me ((wip τ vs).set i (some x)) (up M p (.lst acc)) K) (q : R (.ref p) (up M p (.lst (items.map f)))) : lcBody items Gd (gNm i) bYes me vs τ M p R := by
  refine ⟨fun n M' => n ≤ items.length ∧ M' = up M p (.lst ((items.take n).map f)), ⟨Nat.zero_le _, rfl⟩, fun n M' h => h.2 ▸ hG _, fun n x M' hx h => ?_, fun M' h => ?_⟩
  · obtain ⟨hn, rfl⟩ := h
    have hlt := (List.getElem?_eq_some_iff.mp hx).1
    refine he x (List.mem_of_getElem? hx) _ _ ?_
    rw [up_same]
    refine ⟨?_, hlt, ?_⟩
    · rw [List.length_map, List.length_take]
      omega
    · rw [up_up, List.take_add_one, hx, List.map_append]
      rfl
  · obtain ⟨_, rfl⟩ := h
    rw [List.take_length]
    exact q
end
end L3
set_option Elab.async false
set_option linter.all false
set_option maxRecDepth 100000
set_option maxHeartbeats 1000000
set_option exponentiation.threshold 3000
/-! what the program's smaller defs are worth, over trees; lists of places -/
namespace L3
open PySem PySem.Spec PyProof.Rows L2
def frB : T → Bool
  | .tup [.int i, .int j] => G.isFr i j
  | _ => false
/-! ### names -/
def okC (c : Nat) : Bool := decide (97 ≤ c) && decide (c ≤ 122)
def nmB : T → Bool
  | .str z => decide (1 ≤ z.length) && decide (z.length ≤ 8) && z.cps.toList.all okC
  | _ => false
theorem lt_one (a b : Nat) : (([a] : List Nat) < [b]) ↔ a < b := by
  constructor
  · intro h
    cases h with
    | rel h => exact h
    | cons h => cases h
  · intro h
    exact .rel h
theorem sg_le (c : Nat) : (!decide ((⟨#[c]⟩ : Str).cps.toList < (Str.ofString "a").cps.toList)) = decide (97 ≤ c) := by
  have e : (Str.ofString "a").cps.toList = [97] := by decide +kernel
  rw [e]
  show (!decide (([c] : List Nat) < [97])) = _
  by_cases h : 97 ≤ c
  · rw [decide_eq_true h, decide_eq_false (fun z => by have := (lt_one _ _).mp z; omega)]
    rfl
  · rw [decide_eq_false h, decide_eq_true ((lt_one _ _).mpr (by omega))]
    rfl
theorem sg_ge (c : Nat) : (!decide ((Str.ofString "z").cps.toList < (⟨#[c]⟩ : Str).cps.toList)) = decide (c ≤ 122) := by
  have e : (Str.ofString "z").cps.toList = [122] := by decide +kernel
  rw [e]
  show (!decide (([122] : List Nat) < [c])) = _
  by_cases h : c ≤ 122
  · rw [decide_eq_true h, decide_eq_false (fun z => by have := (lt_one _ _).mp z; omega)]
    rfl
  · rw [decide_eq_false h, decide_eq_true ((lt_one _ _).mpr (by omega))]
    rfl
def szT : T → Prop
  | .tup [.tup [.int a, .int b], .tup [.int c, .int d]] => (a.natAbs < 2 ^ 1000 ∧ b.natAbs < 2 ^ 1000) ∧ (c.natAbs < 2 ^ 1000 ∧ d.natAbs < 2 ^ 1000)
  | _ => True
def ordB : T → T → Bool
  | .tup [.int a, .int b], .tup [.int c, .int d] => decide (0 ≤ a) && decide (a * d ≤ c * b) && decide (c ≤ d)
  | _, _ => false
def stB : T → Bool
  | .tup [l, m] => frB l && frB m && ordB l m
  | _ => false
theorem cm_of {a b : Int} (h1 : a.natAbs < 2 ^ 1000) (h2 : b.natAbs < 2 ^ 1000) : CMulW a b := wide_mul h1 h2 (by decide) (by decide) (by decide)
theorem one_lt {b : Int} (h : b = 0 ∨ b = 1) : b.natAbs < 2 ^ 1000 := Nat.lt_of_lt_of_le (show b.natAbs < 2 ^ 1 by omega) (Nat.pow_le_pow_right (by decide) (by decide))
theorem frB_int {t : T} (h : frB t = true) : ∃ a b : Int, t = .tup [.int a, .int b] ∧ G.isFr a b = true := by
  unfold frB at h
  split at h
  · exact ⟨_, _, rfl, h⟩
  · cases h
def paB : T → Bool
  | .tup xs => xs.all isW
  | _ => false
def fiB : T → Bool
  | .tup (_ :: _) => true
  | _ => false
def fmB : T → Bool
  | .tup [n, td, i] => nmB n && (isNon td || stB td) && (isNon i || fiB i)
  | _ => false
/-- names and stretches in it can be looked at -/
def smT : T → Prop
  | .tup [n, td, _] => (∀ z, n = .str z → z.length ≤ sizeLine) ∧ szT td
  | _ => True

def bigN : Nat := 100000000000000000000
/-! ### lists of places -/
structure Sh where
  a : Int
  b : Int
  c : Int
  d : Int
inductive Fo where
  | nil
  | cons (nm : Str) (td : Option Sh) (i r : Fo)
namespace Fo
def depth : Fo → Nat
  | nil => 0
  | cons _ _ i r => max (1 + i.depth) r.depth
def cnt : Fo → Nat
  | nil => 0
  | cons _ _ i r => 1 + i.cnt + r.cnt
def items : Fo → List (Str × Option Sh × Fo)
  | nil => []
  | cons nm td i r => (nm, td, i) :: r.items
def snoc : Fo → Str → Option Sh → Fo → Fo
  | nil, nm, td, i => cons nm td i nil
  | cons a b c r, nm, td, i => cons a b c (r.snoc nm td i)
def names (f : Fo) : List Str := f.items.map (·.1)
def isNil : Fo → Bool
  | nil => true
  | _ => false
end Fo
def ShOk (s : Sh) : Prop := (G.isFr s.a s.b = true ∧ G.isFr s.c s.d = true) ∧ (0 ≤ s.a ∧ s.a * s.d ≤ s.c * s.b ∧ s.c ≤ s.d) ∧ (s.a.natAbs < bigN ∧ s.b.natAbs < bigN ∧ s.c.natAbs < bigN ∧ s.d.natAbs < bigN)
def NmOk (z : Str) : Prop := nmB (.str z) = true
theorem NmOk.len {z : Str} (h : NmOk z) : 1 ≤ z.length ∧ z.length ≤ 8 := by
  have h : (decide (1 ≤ z.length) && decide (z.length ≤ 8) && z.cps.toList.all okC) = true := h
  rw [Bool.and_eq_true, Bool.and_eq_true] at h
  exact ⟨of_decide_eq_true h.1.1, of_decide_eq_true h.1.2⟩
/-- names and told shares are as they should be -/
def Gd : Fo → Prop
  | .nil => True
  | .cons nm td i r => NmOk nm ∧ (∀ s, td = some s → ShOk s) ∧ Gd i ∧ Gd r
/-- no name twice in a list, or of a place around it -/
def Ns : List Str → List Str → Fo → Prop
  | _, _, .nil => True
  | ar, ah, .cons nm _ i r => nm ∉ ah ∧ nm ∉ ar ∧ Ns (ar ++ [nm]) [] i ∧ Ns ar (ah ++ [nm]) r
abbrev It3 := Str × Option Sh × Fo
theorem Fo.items_snoc : ∀ (f : Fo) (nm : Str) (td : Option Sh) (i : Fo), (f.snoc nm td i).items = f.items ++ [(nm, td, i)]
  | .nil, _, _, _ => rfl
  | .cons a b c r, nm, td, i => by
    show (a, b, c) :: (r.snoc nm td i).items = (a, b, c) :: r.items ++ [(nm, td, i)]
    rw [Fo.items_snoc r nm td i]
    rfl
theorem Fo.names_snoc (f : Fo) (nm : Str) (td : Option Sh) (i : Fo) : (f.snoc nm td i).names = f.names ++ [nm] := by
  unfold Fo.names
  rw [Fo.items_snoc, List.map_append]
  rfl
theorem Fo.cnt_snoc : ∀ (f : Fo) (nm : Str) (td : Option Sh) (i : Fo), (f.snoc nm td i).cnt = f.cnt + 1 + i.cnt
  | .nil, _, _, i => by show 1 + i.cnt + 0 = 0 + 1 + i.cnt; omega
  | .cons a b c r, nm, td, i => by
    show 1 + c.cnt + (r.snoc nm td i).cnt = 1 + c.cnt + r.cnt + 1 + i.cnt
    rw [Fo.cnt_snoc r nm td i]
    omega
theorem Fo.depth_snoc : ∀ (f : Fo) (nm : Str) (td : Option Sh) (i : Fo), (f.snoc nm td i).depth = max f.depth (1 + i.depth)
  | .nil, _, _, i => by show max (1 + i.depth) 0 = max 0 (1 + i.depth); omega
  | .cons a b c r, nm, td, i => by
    show max (1 + c.depth) (r.snoc nm td i).depth = max (max (1 + c.depth) r.depth) (1 + i.depth)
    rw [Fo.depth_snoc r nm td i]
    omega
theorem Gd.snoc : ∀ {f : Fo} {nm : Str} {td : Option Sh} {i : Fo}, Gd f → NmOk nm → (∀ s, td = some s → ShOk s) → Gd i → Gd (f.snoc nm td i)
  | .nil, _, _, _, _, h1, h2, h3 => ⟨h1, h2, h3, True.intro⟩
  | .cons a b c r, _, _, _, h, h1, h2, h3 => ⟨h.1, h.2.1, h.2.2.1, Gd.snoc h.2.2.2 h1 h2 h3⟩
theorem Ns.snoc : ∀ {f : Fo} {ar ah : List Str} {nm : Str} {td : Option Sh} {i : Fo}, Ns ar ah f → nm ∉ ah ++ f.names → nm ∉ ar → Ns (ar ++ [nm]) [] i → Ns ar ah (f.snoc nm td i)
  | .nil, ar, ah, nm, td, i, _, h1, h2, h3 => ⟨fun z => h1 (List.mem_append_left _ z), h2, h3, True.intro⟩
  | .cons a b c r, ar, ah, nm, td, i, h, h1, h2, h3 => by
    refine ⟨h.1, h.2.1, h.2.2.1, Ns.snoc h.2.2.2 (fun z => h1 ?_) h2 h3⟩
    show nm ∈ ah ++ (a :: r.names)
    rw [List.append_assoc] at z
    exact z
theorem Fo.len_cnt : ∀ f : Fo, f.items.length ≤ f.cnt
  | .nil => Nat.le_refl _
  | .cons _ _ c r => by
    have := Fo.len_cnt r
    show r.items.length + 1 ≤ 1 + c.cnt + r.cnt
    omega
theorem Fo.at_cnt : ∀ {f : Fo} {n : Nat} {x : It3}, f.items[n]? = some x → x.2.2.cnt + 1 ≤ f.cnt ∧ 1 + x.2.2.depth ≤ f.depth
  | .nil, n, x, h => by cases h
  | .cons nm td i r, 0, x, h => by
    have h : (nm, td, i) = x := Option.some.inj h
    subst h
    show i.cnt + 1 ≤ 1 + i.cnt + r.cnt ∧ 1 + i.depth ≤ max (1 + i.depth) r.depth
    omega
  | .cons nm td i r, n + 1, x, h => by
    have q := Fo.at_cnt (f := r) (n := n) (x := x) h
    show x.2.2.cnt + 1 ≤ 1 + i.cnt + r.cnt ∧ 1 + x.2.2.depth ≤ max (1 + i.depth) r.depth
    omega
theorem Gd.at : ∀ {f : Fo} {n : Nat} {x : It3}, Gd f → f.items[n]? = some x → NmOk x.1 ∧ (∀ s, x.2.1 = some s → ShOk s) ∧ Gd x.2.2
  | .nil, n, x, _, h => by cases h
  | .cons nm td i r, 0, x, g, h => by
    have h : (nm, td, i) = x := Option.some.inj h
    subst h
    exact ⟨g.1, g.2.1, g.2.2.1⟩
  | .cons nm td i r, n + 1, x, g, h => Gd.at (f := r) (n := n) g.2.2.2 h
theorem Ns.at : ∀ {f : Fo} {n : Nat} {ar ah : List Str} {x : It3}, Ns ar ah f → f.items[n]? = some x → x.1 ∉ ah ++ f.names.take n ∧ x.1 ∉ ar ∧ Ns (ar ++ [x.1]) [] x.2.2
  | .nil, n, _, _, x, _, h => by cases h
  | .cons nm td i r, 0, ar, ah, x, g, h => by
    have h : (nm, td, i) = x := Option.some.inj h
    subst h
    refine ⟨fun z => g.1 ?_, g.2.1, g.2.2.1⟩
    rw [List.take_zero, List.append_nil] at z
    exact z
  | .cons nm td i r, n + 1, ar, ah, x, g, h => by
    obtain ⟨h1, h2⟩ := Ns.at (f := r) (n := n) g.2.2.2 h
    refine ⟨fun z => h1 ?_, h2⟩
    rw [List.append_assoc]
    exact z
theorem Fo.ne_of_len {f : Fo} (h : f ≠ .nil) : 0 < f.items.length ∧ 0 < f.depth := by
  cases f with
  | nil => exact absurd rfl h
  | cons a b c r => exact ⟨Nat.succ_pos _, by show 0 < max (1 + c.depth) r.depth; omega⟩
theorem Fo.nil_of_depth {f : Fo} (h : f.depth = 0) : f = .nil := by
  cases f with
  | nil => rfl
  | cons a b c r =>
    have h : max (1 + c.depth) r.depth = 0 := h
    omega

/-! ### as trees -/
def Sh.t (s : Sh) : T := .tup [.tup [.int s.a, .int s.b], .tup [.int s.c, .int s.d]]
def tdt : Option Sh → T
  | none => .non
  | some s => s.t
def wrapT : Bool → List T → T
  | true, _ => .non
  | false, xs => .tup xs
namespace Fo
def ts : Fo → List T
  | nil => []
  | cons nm td i r => .tup [.str nm, tdt td, wrapT i.isNil (ts i)] :: ts r
def inn (f : Fo) : T := wrapT f.isNil f.ts
end Fo
def plt (t : It3) : T := .tup [.str t.1, tdt t.2.1, t.2.2.inn]
theorem Fo.ts_items : ∀ f : Fo, f.ts = f.items.map plt
  | .nil => rfl
  | .cons nm td i r => by
    have ih := Fo.ts_items r
    show plt (nm, td, i) :: r.ts = plt (nm, td, i) :: r.items.map plt
    rw [ih]
theorem Fo.names_at {f : Fo} {n : Nat} {t : It3} (h : f.items[n]? = some t) : f.names[n]? = some t.1 := by
  unfold Fo.names
  rw [List.getElem?_map, h]
  rfl
theorem Fo.ts_len (f : Fo) : f.ts.length = f.items.length := by rw [f.ts_items, List.length_map]
theorem Fo.ts_at {f : Fo} {n : Nat} {x : T} (h : f.ts[n]? = some x) : ∃ t, f.items[n]? = some t ∧ x = plt t := by
  rw [f.ts_items, List.getElem?_map] at h
  cases e : f.items[n]? with
  | none => rw [e] at h; cases h
  | some t => rw [e] at h; exact ⟨t, rfl, (Option.some.inj h).symm⟩
theorem Fo.inn_ne {f : Fo} (h : f ≠ .nil) : f.inn = .tup f.ts := by
  cases f with
  | nil => exact absurd rfl h
  | cons a b c d => rfl
theorem bigN_lt {a : Nat} (h : a < bigN) : a < 2 ^ 1000 := Nat.lt_of_lt_of_le h (Nat.le_trans (show bigN ≤ 2 ^ 67 by decide) (Nat.pow_le_pow_right (by decide) (by decide)))
theorem pu_sh (s : Sh) : Pu s.t := .tup fun x hx => by
  simp only [List.mem_cons, List.not_mem_nil, or_false] at hx
  rcases hx with rfl | rfl <;> exact .tup fun y hy => by
    simp only [List.mem_cons, List.not_mem_nil, or_false] at hy
    rcases hy with rfl | rfl <;> exact .int _
theorem pu_td (t : Option Sh) : Pu (tdt t) := by
  cases t with
  | none => exact .non
  | some s => exact pu_sh s
theorem pu_fo : ∀ f : Fo, (∀ x ∈ f.ts, Pu x) ∧ Pu f.inn
  | .nil => ⟨fun x hx => (by cases hx), .non⟩
  | .cons nm td i r => by
    have h1 := pu_fo i
    have h2 := pu_fo r
    have hp : Pu (plt (nm, td, i)) := .tup fun x hx => by
      have hx : x ∈ [T.str nm, tdt td, i.inn] := hx
      simp only [List.mem_cons, List.not_mem_nil, or_false] at hx
      rcases hx with rfl | rfl | rfl
      · exact .str _
      · exact pu_td td
      · exact h1.2
    have ha : ∀ x ∈ (Fo.cons nm td i r).ts, Pu x := fun x hx => by
      rw [Fo.ts_items] at hx
      rcases List.mem_cons.mp hx with rfl | hx
      · exact hp
      · exact h2.1 x (by rw [Fo.ts_items]; exact hx)
    exact ⟨ha, .tup ha⟩
theorem pu_plt (t : It3) : Pu (plt t) := .tup fun x hx => by
  simp only [List.mem_cons, List.not_mem_nil, or_false] at hx
  rcases hx with rfl | rfl | rfl
  · exact .str _
  · exact pu_td _
  · exact (pu_fo _).2
theorem stB_ok {s : Sh} (h : ShOk s) : stB s.t = true ∧ szT s.t := by
  obtain ⟨⟨f1, f2⟩, ⟨a0, o, c1⟩, b1, b2, b3, b4⟩ := h
  refine ⟨?_, ⟨bigN_lt b1, bigN_lt b2⟩, bigN_lt b3, bigN_lt b4⟩
  show (frB (.tup [.int s.a, .int s.b]) && frB (.tup [.int s.c, .int s.d]) && (decide (0 ≤ s.a) && decide (s.a * s.d ≤ s.c * s.b) && decide (s.c ≤ s.d))) = true
  rw [show frB (.tup [.int s.a, .int s.b]) = true from f1, show frB (.tup [.int s.c, .int s.d]) = true from f2, decide_eq_true a0, decide_eq_true o, decide_eq_true c1]
  rfl
theorem fm_plt {t : It3} (h1 : NmOk t.1) (h2 : ∀ s, t.2.1 = some s → ShOk s) : fmB (plt t) = true ∧ smT (plt t) := by
  obtain ⟨nm, td, i⟩ := t
  have l := h1.len
  have hs : (isNon (tdt td) || stB (tdt td)) = true ∧ szT (tdt td) := by
    cases td with
    | none => exact ⟨rfl, trivial⟩
    | some s =>
      have := stB_ok (h2 s rfl)
      exact ⟨by show (false || stB s.t) = true; rw [this.1]; rfl, this.2⟩
  have hi : (isNon i.inn || fiB i.inn) = true := by
    cases i with
    | nil => rfl
    | cons a b c d => rfl
  refine ⟨?_, fun z hz => ?_, hs.2⟩
  · show (nmB (.str nm) && (isNon (tdt td) || stB (tdt td)) && (isNon i.inn || fiB i.inn)) = true
    rw [show nmB (.str nm) = true from h1, hs.1, hi]
    rfl
  · cases hz
    exact Nat.le_trans (show nm.length ≤ 8 from l.2) (by decide)
/-! ### by paths -/
def iK (n : Nat) : Key := .inl (n : Int)
/-- the entries of a dict by paths, in order -/
def gaF (ks : List Key) : Nat → Fo → List (List Key × T)
  | _, .nil => []
  | n, .cons nm td i r => (ks ++ [iK n], plt (nm, td, i)) :: (gaF (ks ++ [iK n]) 0 i ++ gaF ks (n + 1) r)
theorem gaF_len : ∀ (ks : List Key) (n : Nat) (f : Fo), (gaF ks n f).length = f.cnt
  | _, _, .nil => rfl
  | ks, n, .cons nm td i r => by
    show ((gaF (ks ++ [iK n]) 0 i ++ gaF ks (n + 1) r).length + 1) = 1 + i.cnt + r.cnt
    rw [List.length_append, gaF_len, gaF_len]
    omega
/-- its keys go through ks and a number from n on -/
theorem gaF_key : ∀ {ks : List Key} {n : Nat} {f : Fo} {x : List Key × T}, x ∈ gaF ks n f → ∃ m rest, n ≤ m ∧ x.1 = ks ++ iK m :: rest
  | ks, n, .nil, x, h => by cases h
  | ks, n, .cons nm td i r, x, h => by
    rcases List.mem_cons.mp h with rfl | h
    · exact ⟨n, [], Nat.le_refl _, rfl⟩
    · rcases List.mem_append.mp h with h | h
      · obtain ⟨m, rest, _, e⟩ := gaF_key h
        exact ⟨n, iK m :: rest, Nat.le_refl _, by rw [e, List.append_assoc]; rfl⟩
      · obtain ⟨m, rest, hm, e⟩ := gaF_key h
        exact ⟨m, rest, by omega, e⟩
theorem iK_inj {a b : Nat} (h : iK a = iK b) : a = b := by
  have h : ((a : Int)) = (b : Int) := Sum.inl.inj h
  omega
theorem putT_new {κ : Type} [DecidableEq κ] {kvs : List (κ × T)} {k : κ} {v : T} (h : ∀ x ∈ kvs, x.1 ≠ k) : putT kvs k v = kvs ++ [(k, v)] := by
  unfold putT
  rw [if_neg]
  intro z
  obtain ⟨x, hx, e⟩ := List.any_eq_true.mp z
  exact h x hx (of_decide_eq_true e)
/-- those of the first places alone -/
def gaTo (ks : List Key) : Nat → Nat → Fo → List (List Key × T)
  | _, _, .nil => []
  | _, 0, .cons _ _ _ _ => []
  | n, m + 1, .cons nm td i r => (ks ++ [iK n], plt (nm, td, i)) :: (gaF (ks ++ [iK n]) 0 i ++ gaTo ks (n + 1) m r)
theorem gaTo_zero (ks : List Key) (n : Nat) (f : Fo) : gaTo ks n 0 f = [] := by cases f <;> rfl
theorem gaTo_all (ks : List Key) : ∀ (n : Nat) (f : Fo), gaTo ks n f.items.length f = gaF ks n f
  | _, .nil => rfl
  | n, .cons nm td i r => by
    show (ks ++ [iK n], plt (nm, td, i)) :: (gaF (ks ++ [iK n]) 0 i ++ gaTo ks (n + 1) r.items.length r) = _
    rw [gaTo_all ks (n + 1) r]
    rfl
theorem gaTo_succ {ks : List Key} : ∀ {n m : Nat} {f : Fo} {t : It3}, f.items[m]? = some t → gaTo ks n (m + 1) f = gaTo ks n m f ++ ((ks ++ [iK (n + m)], plt t) :: gaF (ks ++ [iK (n + m)]) 0 t.2.2)
  | n, m, .nil, t, h => by cases h
  | n, 0, .cons nm td i r, t, h => by
    have h : (nm, td, i) = t := Option.some.inj h
    subst h
    show (ks ++ [iK n], plt (nm, td, i)) :: (gaF (ks ++ [iK n]) 0 i ++ gaTo ks (n + 1) 0 r) = _
    rw [gaTo_zero, List.append_nil]
    rfl
  | n, m + 1, .cons nm td i r, t, h => by
    have q := gaTo_succ (ks := ks) (n := n + 1) (m := m) (f := r) (t := t) h
    show (ks ++ [iK n], plt (nm, td, i)) :: (gaF (ks ++ [iK n]) 0 i ++ gaTo ks (n + 1) (m + 1) r) = ((ks ++ [iK n], plt (nm, td, i)) :: (gaF (ks ++ [iK n]) 0 i ++ gaTo ks (n + 1) m r)) ++ _
    rw [q, show n + 1 + m = n + (m + 1) by omega, List.cons_append, List.append_assoc]
theorem gaTo_key {ks : List Key} : ∀ {n m : Nat} {f : Fo} {x : List Key × T}, x ∈ gaTo ks n m f → ∃ j rest, j < n + m ∧ x.1 = ks ++ iK j :: rest
  | n, m, .nil, x, h => by cases m <;> cases h
  | n, 0, .cons nm td i r, x, h => by cases h
  | n, m + 1, .cons nm td i r, x, h => by
    rcases List.mem_cons.mp h with rfl | h
    · exact ⟨n, [], by omega, rfl⟩
    · rcases List.mem_append.mp h with h | h
      · obtain ⟨j, rest, _, e⟩ := gaF_key h
        exact ⟨n, iK j :: rest, by omega, by rw [e, List.append_assoc]; rfl⟩
      · obtain ⟨j, rest, hm, e⟩ := gaTo_key h
        exact ⟨j, rest, by omega, e⟩
theorem gaTo_len {ks : List Key} : ∀ {n m : Nat} {f : Fo} {t : It3}, f.items[m]? = some t → (gaTo ks n m f).length + 1 + t.2.2.cnt ≤ f.cnt
  | n, m, .nil, t, h => by cases h
  | n, 0, .cons nm td i r, t, h => by
    have h : (nm, td, i) = t := Option.some.inj h
    subst h
    show 0 + 1 + i.cnt ≤ 1 + i.cnt + r.cnt
    omega
  | n, m + 1, .cons nm td i r, t, h => by
    have q := gaTo_len (ks := ks) (n := n + 1) (m := m) (f := r) (t := t) h
    show (gaF (ks ++ [iK n]) 0 i ++ gaTo ks (n + 1) m r).length + 1 + 1 + t.2.2.cnt ≤ 1 + i.cnt + r.cnt
    rw [List.length_append, gaF_len]
    omega
theorem up_eta {M : Mh} {a : Addr} {o : MO} (h : M a = some o) : up M a o = M := by
  funext b
  unfold up
  split
  · rename_i e
    rw [e, h]
  · rfl
/-- a list that a label is made of -/
structure GoodF (fo : Fo) : Prop where
  gd : Gd fo
  ne : fo ≠ .nil
  dp : fo.depth ≤ 4
  ct : fo.cnt ≤ 12
  un : Ns [] [] fo
end L3
set_option Elab.async false
set_option linter.all false
set_option maxRecDepth 100000
set_option maxHeartbeats 1000000
set_option autoImplicit false
namespace L3
open PySem PySem.Spec PyProof.Rows L2
section
variable {X : Cx} {H0 : Hp} {a b c e o tg : Expr} {es rest : List Expr} {pos apos cpos p p2 p3 : Pos} {ma mb mc m mo : E3} {mA mB : B3} {mAs : A3}
/-! ### x in a list of texts -/
theorem inV_str (z : Str) : ∀ ns : List Str, inV (.str z) (ns.map V.str) = decide (z ∈ ns)
  | [] => by simp [inV]
  | y :: r => by
    have ih := inV_str z r
    unfold inV at ih ⊢
    rw [List.map_cons, List.any_cons, ih]
    show (y == z || decide (z ∈ r)) = _
    by_cases h : y = z
    · subst h
      simp
    · have h2 : ¬ z = y := fun e => h e.symm
      simp [h, h2]
theorem flat_strs (ns : List Str) : (ns.map V.str).all flatV = true := by
  rw [List.all_map]
  exact List.all_eq_true.mpr fun _ _ => rfl
def oInS (f : Bool → Bool) : O3 := fun x y M R => match x, y with
  | .str z, .ref a => ∃ ws : List Str, M a = some (.lst (ws.map T.str)) ∧ R (.bl (f (decide (z ∈ ws)))) M
  | _, _ => False
theorem c_inS : OK3 X (compareOp .In) (oInS id) := ⟨_, op_in_seq, fun x y tx ty H M R Q h rx ry rm k => by
  unfold oInS at h
  split at h
  · rename_i z a
    cases rx; cases ry
    obtain ⟨ws, q, h⟩ := h
    obtain ⟨us, e, r⟩ := rm _ _ q
    cases rps_str r
    refine ⟨a, _, rfl, .inl (SqL.of e), rfl, flat_strs ws, ?_⟩
    show Q (.bl (inV (.str z) (ws.map V.str))) H
    rw [inV_str]
    exact k.at (.bl _) rm h
  · exact h.elim⟩
theorem c_notinS : OK3 X (compareOp .NotIn) (oInS not) := ⟨_, op_notIn_seq, fun x y tx ty H M R Q h rx ry rm k => by
  unfold oInS at h
  split at h
  · rename_i z a
    cases rx; cases ry
    obtain ⟨ws, q, h⟩ := h
    obtain ⟨us, e, r⟩ := rm _ _ q
    cases rps_str r
    refine ⟨a, _, rfl, .inl (SqL.of e), rfl, flat_strs ws, ?_⟩
    show Q (.bl (!inV (.str z) (ws.map V.str))) H
    rw [inV_str]
    exact k.at (.bl _) rm h
  · exact h.elim⟩
/-! ### sorted(set(texts)) -/
theorem tl_inj {x y : Str} (h : x.cps.toList = y.cps.toList) : x = y := by
  obtain ⟨a⟩ := x
  obtain ⟨b⟩ := y
  exact congrArg Str.mk (Array.toList_inj.mp h)
theorem lt_irr : ∀ a : List Nat, ltCps a a = false
  | [] => rfl
  | x :: r => by
    show (decide (x < x) || (x == x && ltCps r r)) = false
    rw [lt_irr r, decide_eq_false (Nat.lt_irrefl x), Bool.and_false]
    rfl
theorem lt_tri : ∀ a b : List Nat, ltCps a b = false → ltCps b a = false → a = b
  | [], [], _, _ => rfl
  | [], _ :: _, h, _ => by cases h
  | _ :: _, [], _, h => by cases h
  | x :: r, y :: t, h1, h2 => by
    have h1 : (decide (x < y) || (x == y && ltCps r t)) = false := h1
    have h2 : (decide (y < x) || (y == x && ltCps t r)) = false := h2
    rw [Bool.or_eq_false_iff] at h1 h2
    have a1 : ¬ x < y := of_decide_eq_false h1.1
    have a2 : ¬ y < x := of_decide_eq_false h2.1
    obtain rfl : x = y := by omega
    have b1 := h1.2
    have b2 := h2.2
    rw [beq_self_eq_true, Bool.true_and] at b1 b2
    rw [lt_tri r t b1 b2]
theorem lt_trans' : ∀ a b c : List Nat, ltCps a b = true → ltCps b c = true → ltCps a c = true
  | [], [], _, h, _ => by cases h
  | [], _ :: _, [], _, h => by cases h
  | [], _ :: _, _ :: _, _, _ => rfl
  | _ :: _, [], _, h, _ => by cases h
  | _ :: _, _ :: _, [], _, h => by cases h
  | x :: r, y :: t, z :: u, h1, h2 => by
    have g1 : (decide (x < y) || (x == y && ltCps r t)) = true := h1
    have g2 : (decide (y < z) || (y == z && ltCps t u)) = true := h2
    show (decide (x < z) || (x == z && ltCps r u)) = true
    rw [Bool.or_eq_true, decide_eq_true_eq, Bool.and_eq_true, beq_iff_eq] at g1 g2 ⊢
    rcases g1 with g1 | ⟨e1, g1⟩
    · rcases g2 with g2 | ⟨e2, g2⟩
      · exact .inl (by omega)
      · exact .inl (by omega)
    · rcases g2 with g2 | ⟨e2, g2⟩
      · exact .inl (by omega)
      · exact .inr ⟨e1.trans e2, lt_trans' r t u g1 g2⟩
def LtS (x y : Str) : Prop := ltCps x.cps.toList y.cps.toList = true
theorem rise_lt : ∀ (r : List Str) (p : Str), risingS p r = true → (p :: r).Nodup → (p :: r).Pairwise LtS
  | [], p, _, _ => List.pairwise_singleton _ _
  | x :: r, p, h, nd => by
    have h : (!ltCps x.cps.toList p.cps.toList && risingS x r) = true := h
    rw [Bool.and_eq_true, Bool.not_eq_true'] at h
    obtain ⟨n1, n2⟩ := List.nodup_cons.mp nd
    have ih := rise_lt r x h.2 n2
    have px : LtS p x := by
      cases e : ltCps p.cps.toList x.cps.toList with
      | true => exact e
      | false => exact absurd (tl_inj (lt_tri _ _ e h.1)) (fun z => n1 (z ▸ .head _))
    refine List.pairwise_cons.mpr ⟨fun y hy => ?_, ih⟩
    rcases List.mem_cons.mp hy with rfl | hy
    · exact px
    · exact lt_trans' _ _ _ px ((List.pairwise_cons.mp ih).1 y hy)
theorem sorted_lt {l : List Str} (h : sortedS l = true) (nd : l.Nodup) : l.Pairwise LtS := by
  cases l with
  | nil => exact .nil
  | cons x r => exact rise_lt r x h nd
theorem sorted_eq : ∀ {l m : List Str}, l.Pairwise LtS → m.Pairwise LtS → (∀ k, k ∈ l ↔ k ∈ m) → l = m
  | [], [], _, _, _ => rfl
  | [], y :: m, _, _, h => by cases (h y).mpr (.head _)
  | x :: l, [], _, _, h => by cases (h x).mp (.head _)
  | x :: l, y :: m, h1, h2, h => by
    obtain ⟨a1, a2⟩ := List.pairwise_cons.mp h1
    obtain ⟨b1, b2⟩ := List.pairwise_cons.mp h2
    have irr : ∀ z : Str, ¬ LtS z z := fun z e => by
      have := lt_irr z.cps.toList
      rw [show ltCps z.cps.toList z.cps.toList = true from e] at this
      cases this
    have exy : x = y := by
      rcases List.mem_cons.mp ((h x).mp (.head _)) with e | e
      · exact e
      · rcases List.mem_cons.mp ((h y).mpr (.head _)) with e' | e'
        · exact e'.symm
        · exact absurd (lt_trans' _ _ _ (b1 x e) (a1 y e')) (irr y)
    subst exy
    rw [sorted_eq a2 b2 fun k => ⟨fun hk => ?_, fun hk => ?_⟩]
    · rcases List.mem_cons.mp ((h k).mp (.tail _ hk)) with e | e
      · rw [e] at hk
        exact absurd (a1 x hk) (irr x)
      · exact e
    · rcases List.mem_cons.mp ((h k).mpr (.tail _ hk)) with e | e
      · rw [e] at hk
        exact absurd (b1 x hk) (irr x)
      · exact e
theorem srt_uniq {xs ys : List Str} (h1 : sortedS xs = true) (h2 : sortedS ys = true) (n1 : xs.Nodup) (n2 : ys.Nodup) (h : ∀ k, k ∈ xs ↔ k ∈ ys) : xs = ys := sorted_eq (sorted_lt h1 n1) (sorted_lt h2 n2) h
theorem srt_of {ws ys : List Str} (h1 : sortedS ys = true) (h2 : ys.Nodup) (h3 : ∀ k, k ∈ ys ↔ k ∈ ws) : ys = srt ws := by
  unfold srt
  have h : ∃ ys : List Str, sortedS ys = true ∧ ys.Nodup ∧ ∀ k, k ∈ ys ↔ k ∈ ws := ⟨ys, h1, h2, h3⟩
  rw [dif_pos h]
  have c := Classical.choose_spec h
  exact srt_uniq h1 c.1 h2 c.2.1 fun k => (h3 k).trans (c.2.2 k).symm
noncomputable def eSortSet (m : E3) : E3 := fun τ M R => m τ M fun x M1 => ∃ ws : List Str, (x = .tup (ws.map T.str) ∨ ∃ a, x = .ref a ∧ M1 a = some (.lst (ws.map T.str))) ∧ ws.length < 64 ∧ (sortedS (srt ws) = true ∧ (srt ws).Nodup ∧ (∀ k, k ∈ srt ws ↔ k ∈ ws) ∧ (srt ws).length ≤ ws.length → ∀ p, M1 p = none → R (.ref p) (up M1 p (.lst ((srt ws).map T.str))))
theorem le_sortset (hc : X.calm = true) (hg : Gl X "sorted") (hm : X.mg "sorted" = none) (hg2 : Gl X "set") (hm2 : X.mg "set" = none) (he : LE X H0 e m)
    (he1 : starEach [.Call (.Name "set" p2) [e] [] p3] X.env = (false, eval (.Call (.Name "set" p2) [e] [] p3) X.env) :: starEach [] X.env := by rfl) (hpl : (backTo pos (starEach [] X.env)).any (·.1) = false := by rfl)
    (he2 : starEach [e] X.env = (false, eval e X.env) :: starEach [] X.env := by rfl) (hpl2 : (backTo p3 (starEach [] X.env)).any (·.1) = false := by rfl) : LE X H0 (.Call (.Name "sorted" p) [.Call (.Name "set" p2) [e] [] p3] [] pos) (eSortSet m) := by
  obtain ⟨_, pe, se⟩ := he.ex
  refine ⟨_, pe_callB (G.cr_sortS hc) hg hm (by decide +kernel) (pa_cons (pe_callTy (G.cr_setS hc) hg2 hm2 (by decide +kernel) (pa_cons pe pa_nil he2) (by decide) (by decide) he2 hpl2) pa_nil he1) (by decide) (by decide) he1 hpl, fun τ M R σ H Q h t rs rm k => se τ M _ σ H _ h t rs rm fun x H1 tx M1 t1 rx rm1 h1 => ?_⟩
  obtain ⟨ws, hx, hl, h1⟩ := h1
  have fin : ∀ p c, H1 p = none → c ≤ ws.length → ∃ (a : Addr) (S : Str → Bool) (n : Nat), [V.ref p] = [.ref a] ∧ (upd H1 p (G.SetS X.prog X.w p (fun j => decide (j ∈ ws)) c)) a = some (G.SetS X.prog X.w a S n) ∧ n < 64 ∧
      ∀ (ys : List Str) (q : Addr), sortedS ys = true → ys.Nodup → (∀ k, k ∈ ys ↔ S k = true) → ys.length = n → (upd H1 p (G.SetS X.prog X.w p (fun j => decide (j ∈ ws)) c)) q = none → Q (.ref q) (upd (upd H1 p (G.SetS X.prog X.w p (fun j => decide (j ∈ ws)) c)) q (.lst (ys.map V.str))) := fun p c np hc => by
    refine ⟨p, _, c, rfl, upd_same, by omega, fun ys q h2 h3 h4 h5 nq => ?_⟩
    have h4 : ∀ k, k ∈ ys ↔ k ∈ ws := fun k => by rw [h4 k, decide_eq_true_eq]
    have e := srt_of h2 h3 h4
    subst e
    have rmp := rm1.new0 (o := G.SetS X.prog X.w p (fun j => decide (j ∈ ws)) c) np
    have tt := (Tups.new (o := G.SetS X.prog X.w p (fun j => decide (j ∈ ws)) c) np).trans (Tups.new (o := .lst ((srt ws).map V.str)) nq)
    exact k _ _ _ _ (t1.trans tt) (.ref q) (rmp.new (mo := .lst ((srt ws).map T.str)) nq ⟨_, upd_same, rps_of (fun _ => .str _) _⟩) (h1 ⟨h2, h3, h4, by omega⟩ q (rmp.free nq))
  have hb : ws.length + 1 < scanBound := by unfold scanBound; omega
  rcases hx with rfl | ⟨a, rfl, q⟩
  · cases rx with
    | tup e r =>
      cases rps_str r
      exact ⟨_, ws, rfl, .inr (SqT.of e), hb, fin⟩
  · cases rx
    obtain ⟨us, e, r⟩ := rm1 _ _ q
    cases rps_str r
    exact ⟨_, ws, rfl, .inl (SqL.of e), hb, fin⟩
/-! ### sorted(ints) -/
def cSortI : C3 := fun ts M R => match ts with
  | [.ref a] => ∃ ns : List Int, M a = some (.lst (ns.map T.int)) ∧ ns.length < 64 ∧ ∀ ns' : List Int, ns'.Perm ns → ns'.Pairwise (· ≤ ·) → ∀ p, M p = none → R (.ref p) (up M p (.lst (ns'.map T.int)))
  | _ => False
theorem le_sortedI (hg : Gl X "sorted") (hm : X.mg "sorted" = none) (ha : LA X H0 [e] mAs) (he : starEach [e] X.env = (false, eval e X.env) :: starEach [] X.env := by rfl) (hpl : (backTo pos (starEach [] X.env)).any (·.1) = false := by rfl) : LE X H0 (.Call (.Name "sorted" p) [e] [] pos) (eCB cSortI mAs) := le_cB cr_sorted (fun vs ts H M R Q h rv rm k => by
  unfold cSortI at h
  split at h
  · cases rv with
    | cons r rr =>
      cases r; cases rr
      obtain ⟨ns, e, hl, h⟩ := h
      obtain ⟨ws, e2, r2⟩ := rm _ _ e
      cases rps_int r2
      exact ⟨_, ns, rfl, SqL.of e2, hl, fun ns' p h1 h2 np => k _ _ _ _ (.new np) (.ref p) (rm.new (mo := .lst (ns'.map T.int)) np ⟨_, upd_same, rps_of (fun _ => .int _) _⟩) (h ns' h1 h2 p (rm.free np))⟩
  · exact h.elim) hg hm (by decide +kernel) ha (by decide) (by decide) he hpl
/-! ### a, b = a list -/
def gUl (n : Nat) (gs : Gs3) : G3 := fun v τ M Q => match v with
  | .ref a => (match M a with
    | some (.lst ts) => (match Nat.beq ts.length n with
      | true => gs ts τ M Q
      | false => False)
    | _ => False)
  | _ => False
theorem lg_unl {k : Nat} {gs : Gs3} {n : Nat} (hc : X.calm = true) (h : LGs X H0 es gs)
    (hn : (assignEach es X.env).length = n := by rfl) (hst : (assignEach es X.env).findIdx? (·.1) = none := by rfl) : LG X H0 (.Tuple es k pos) (gUl n gs) := by
  obtain ⟨_, p, s⟩ := h.ex
  refine ⟨_, pg_unl hc p hn hst, fun x tx τ M R σ H Q h t rx rs rm k => ?_⟩
  unfold gUl at h
  split at h
  · cases rx
    split at h
    · rename_i ts q
      obtain ⟨us, e, r⟩ := rm _ _ q
      split at h
      · rename_i q2
        exact ⟨_, us, rfl, SqL.of e, r.len.trans (Nat.eq_of_beq_eq_true q2), s us ts τ M R σ H Q h t r rs rm k⟩
      · exact h.elim
    · exact h.elim
  · exact h.elim
/-! ### x or y by truth -/
def truT (M : Mh) : T → Option Bool
  | .non => some false
  | .bl b => some b
  | .int i => some (i != 0)
  | .tup xs => some (!xs.isEmpty)
  | .ref a => (match M a with
    | some (.lst xs) => some (!xs.isEmpty)
    | some (.dK xs) => some (!xs.isEmpty)
    | _ => none)
  | _ => none
theorem truT_of {K : Fg} {H : Hp} {M : Mh} {t : T} {v : V} {b : Bool} (rm : RM H M) (r : Rp H t v) (h : truT M t = some b) : TruV K v H b := by
  cases r with
  | non => cases h; rfl
  | bl b => cases h; rfl
  | int b => cases h; rfl
  | str b => cases h
  | ty b => cases h
  | scr e => cases h
  | tup e r =>
    cases h
    refine .inr (.inl ⟨_, SqT.of e, ?_⟩)
    cases r <;> rfl
  | ref a =>
    unfold truT at h
    dsimp only at h
    split at h
    · rename_i q
      cases h
      obtain ⟨us, e, r⟩ := rm _ _ q
      refine .inl ⟨us, SqL.of e, ?_⟩
      cases r <;> rfl
    · rename_i q
      cases h
      obtain ⟨us, e, r⟩ := rm _ _ q
      refine .inr (.inr ⟨us, e, ?_⟩)
      cases r <;> rfl
    · cases h
def eOrT (ma mb : E3) : E3 := fun τ M R => ma τ M fun x M1 => match truT M1 x with
  | some true => R x M1
  | some false => mb τ M1 R
  | none => False
theorem le_orT (ha : LE X H0 a ma) (hb : LE X H0 (.BoolOp .Or (b :: rest) pos) mb) : LE X H0 (.BoolOp .Or (a :: b :: rest) pos) (eOrT ma mb) := by
  obtain ⟨_, pa, sa⟩ := ha.ex
  obtain ⟨_, pb, sb⟩ := hb.ex
  refine ⟨_, pe_orT pa pb, fun τ M R σ H Q h t rs rm k => sa τ M _ σ H _ h t rs rm fun x H1 tx M1 t1 rx rm1 h1 => ?_⟩
  split at h1
  · rename_i q
    exact ⟨true, truT_of rm1 rx q, by rw [if_pos rfl]; exact (k.mv t1).at rx rm1 h1⟩
  · rename_i q
    refine ⟨false, truT_of rm1 rx q, ?_⟩
    rw [if_neg (by decide)]
    exact sb τ M1 _ σ H1 _ h1 (t.trans t1) (rs.mv t1) rm1 (k.mv t1)
  · exact h1.elim
/-! ### o.m(k = v) -/
structure ClMK (P : Program) (w : World) (K : Fg) (mg : Str → Option Value) (base : Heap) (C : Addr) (x kw : Str) (k : Nat) (ps : List Str) (sp : Sp3) : Prop where
  ex : ∃ (CX : CXT) (f : Addr) (fd : FuncData), FnOk P w K mg base CX k f fd ps (lift sp) ∧ (∀ o H s e s', ¬ CX o H s (fun _ _ _ => False) e s') ∧ Cls K C ∧ Meth K C x f ∧ ∀ (s : Shared) (u v : Value), K.In s.heap → BindsTo s fd ⟨[u], [(kw, v)]⟩ (ps.zip [u, v])
def tMethK (C : Addr) (m : Str) (sp : Sp) (ta te : TE) : TE := fun σ H Q => ta σ H fun x H1 => ∃ a dx fs, x = .ref a ∧ H1 a = some (.ins C dx fs) ∧ fs.lookup m = none ∧
  te σ H1 fun v H2 => sp [x, v] H2 Q (fun _ _ _ => False)
theorem pe_methK {CX : CXT} {k : Nat} {C f : Addr} {fd : FuncData} {ps : List Str} {sp : Sp} {n kw : Str} {ta te : TE} {pl : Sem Bool} {kpos : Pos} (he : PE X o ta) (c : Cls X.K C) (hm : Meth X.K C n f) (F : FnOk X.prog X.w X.K X.mg X.base CX k f fd ps sp) (hr : Room k X.A)
    (hb : ∀ (s : Shared) (u v : Value), X.K.In s.heap → BindsTo s fd ⟨[u], [(kw, v)]⟩ (ps.zip [u, v])) (hx : ∀ o H s e s', ¬ CX o H s (fun _ _ _ => False) e s') (hv : PE X e te)
    (hall : (backToKw pos (keywordEach [⟨some kw, e, kpos⟩] X.env)).all (·.1.isSome) = true := by rfl) (hks : (backToKw pos (keywordEach [⟨some kw, e, kpos⟩] X.env)).filterMap (·.1) = [kw] := by rfl)
    (hpl : ((backTo pos (starEach [] X.env)).any (·.1) || (backToKw pos (keywordEach [⟨some kw, e, kpos⟩] X.env)).any (·.1.isNone)) = false := by rfl)
    (ht : eval (.Call (.Attribute o n apos) [] [⟨some kw, e, kpos⟩] pos) X.env = (do
      let ov ← eval o X.env
      standAt apos.atName
      let (f, first) ← holding [ov] (getMethod ov n pl)
      callWith pos f first (backTo pos (starEach [] X.env)) (backToKw pos (keywordEach [⟨some kw, e, kpos⟩] X.env))) := by rfl) :
    PE X (.Call (.Attribute o n apos) [] [⟨some kw, e, kpos⟩] pos) (tMethK C n sp ta te) := by
  refine ⟨fun pins s σ H Q I h => ?_⟩
  refine PySem.W.methodCall_KW (pl := pl) (thn (he.run pins s σ H _ I h) fun u s1 ⟨x, H1, I1, rx, a, dx, fs, ex, ea, l, q⟩ => ?_) ht
  subst ex
  obtain rfl : u = Value.ref a := rx
  refine getmeth_ok I1 ea c hm l ?_
  refine PySem.W.callWith_KW0 (first := [.ref a]) (h₀ := X.base) I.ok.mod.kin hm.kp hall (thn ((pk_cons (nm := some kw) (kpos := kpos) hv pk_nil).run pos pins s1 σ H1 (fun zs H2 => match zs with | [v] => sp [.ref a, v] H2 Q (fun _ _ _ => False) | _ => False) I1 q) fun ws s2 ⟨zs, H2, I2, rz, q2⟩ => ⟨I2.kIn, ?_⟩) hpl
  dsimp only at q2
  split at q2
  · rename_i v
    obtain ⟨u, rfl, ru⟩ := vals1 rz
    rw [hks]
    refine wpAny_call (codeAny_mono (F.run X.A X.stack s2 H2 ⟨[.ref a], [(kw, u)]⟩ [.ref a, u] [.ref a, v] Q (fun _ _ _ => False) hr I2.env0 (hb s2 (.ref a) u I2.kIn) (.cons rfl (.cons ru .nil)) q2) fun r s' hq => ?_)
    cases r with
    | error e => exact (hx _ _ _ _ _ hq).elim
    | ok fl =>
      cases fl with
      | ret u => exact I2.after hq
      | next => exact False.elim hq
      | brk => exact False.elim hq
      | cont => exact False.elim hq
  · exact q2.elim
theorem le_methK {C : Addr} {n kw : Str} {k : Nat} {ps : List Str} {sp : Sp3} {pl : Sem Bool} {kpos : Pos} (cm : ClMK X.prog X.w X.K X.mg X.base C n kw k ps sp) (hr : Room k X.A) (ho : LE X H0 o mo) (hv : LE X H0 e m)
    (hall : (backToKw pos (keywordEach [⟨some kw, e, kpos⟩] X.env)).all (·.1.isSome) = true := by rfl) (hks : (backToKw pos (keywordEach [⟨some kw, e, kpos⟩] X.env)).filterMap (·.1) = [kw] := by rfl)
    (hpl : ((backTo pos (starEach [] X.env)).any (·.1) || (backToKw pos (keywordEach [⟨some kw, e, kpos⟩] X.env)).any (·.1.isNone)) = false := by rfl)
    (ht : eval (.Call (.Attribute o n apos) [] [⟨some kw, e, kpos⟩] pos) X.env = (do
      let ov ← eval o X.env
      standAt apos.atName
      let (f, first) ← holding [ov] (getMethod ov n pl)
      callWith pos f first (backTo pos (starEach [] X.env)) (backToKw pos (keywordEach [⟨some kw, e, kpos⟩] X.env))) := by rfl) :
    LE X H0 (.Call (.Attribute o n apos) [] [⟨some kw, e, kpos⟩] pos) (eMeth C n sp NW3 mo (aCons m aNil)) := by
  obtain ⟨CX, f, fd, F, hx, hc, hm, hb⟩ := cm.ex
  obtain ⟨_, po, so⟩ := ho.ex
  obtain ⟨_, pv, sv⟩ := hv.ex
  refine ⟨_, pe_methK (pl := pl) po hc hm F hr hb hx pv hall hks hpl ht, fun τ M R σ H Q h t rs rm k => so τ M _ σ H _ h t rs rm fun x H1 tx M1 t1 rx rm1 h1 => ?_⟩
  cases tx with
  | ref a =>
    cases rx
    dsimp only at h1
    split at h1
    · rename_i C' fs q
      obtain ⟨⟨rfl, hl⟩, h1⟩ := h1
      obtain ⟨dx, us, e, r⟩ := rm1 _ _ q
      refine ⟨a, dx, us, rfl, e, r.look0 hl, sv τ M1 _ σ H1 _ h1 (t.trans t1) (rs.mv t1) rm1 fun v H2 tv M2 t2 rv rm2 h2 => ?_⟩
      exact ⟨[.ref a, tv], M2, R, _, .cons (.ref a) (.cons rv .nil), rm2, h2, k.mv (t1.trans t2), fun _ _ _ _ _ _ z => z.elim⟩
    · exact h1.elim
  | _ => exact h1.elim
end
theorem Sub.re {M M1 : Mh} {D : Addr} {o o' : MO} (s : Sub (L3.up M D o) M1) (n : M D = none) : Sub (L3.up M D o') (L3.up M1 D o') := ((Sub.new n).trans s).up
theorem Sub.at {M M1 : Mh} {D : Addr} {o : MO} (s : Sub (L3.up M D o) M1) : M1 D = some o := s D o up_same
theorem Sub.old {M M1 : Mh} {D : Addr} {o : MO} (s : Sub (L3.up M D o) M1) (n : M D = none) : Sub M M1 := (Sub.new n).trans s
section
variable {P : Program} {w : World} {K : Fg} {mg : Str → Option Value} {base : Heap} {CX : CXT} {k : Nat} {f : Addr} {fd : FuncData} {ps : List Str}
theorem fn_never {sp : Sp3} (h : ∀ ts M R E, ¬ sp ts M R E) : FnOk P w K mg base CX k f fd ps (lift sp) := ⟨fun vs H Q E ⟨_, _, _, _, _, _, q, _⟩ => (h _ _ _ _ q).elim, fun A outer s H args us vs Q E hr e0 hb r ⟨_, _, _, _, _, _, q, _⟩ => (h _ _ _ _ q).elim⟩
end
end L3
set_option Elab.async false
set_option linter.all false
set_option maxRecDepth 100000
set_option maxHeartbeats 1000000
set_option autoImplicit false
namespace L3
open PySem PySem.Spec PyProof.Rows L2
section
variable {P : Program} {w : World} {K : Fg} {mg : Str → Option Value} {base : Heap}
theorem _root_.L2.FunD.ok3 {x qual : Str} {params : Arguments} {body : List Stmt} {scope : Scope} {dvs : List V} {kws : List (Str × V)} {f : Addr} {fd : FuncData} {N ps : List Str} {k : Nat} {sp : Sp3} (F : L2.FunD K x qual params body scope dvs kws f fd) (S : FnScope N ps scope) (len : ∀ ts M R E, sp ts M R E → ts.length = ps.length)
    (hbody : ∀ (cdv : Value) (A : Around) (outer : List Env) (s : Shared) (H : Hp) (E : XK) (ts : List T) (M : Mh) (R : K3) (E3 : X3), Room k (A.deeper (envOfC qual scope s.heap.objs.size f cdv)) → sp ts M R E3 →
      ∃ m, LSs (cxOf CX0 P w K mg base N qual scope f cdv A outer s H E).nox H body m ∧ m { nx := fun _ M' => fin3 R .non M', rt := fin3 R } (start3 N ts) M) : FnOk P w K mg base CX0 (k + 1) f fd ps (lift sp) := by
  refine F.ok S (fun vs H Q E h => ?_) (fun cdv A outer s H vs Q E hr h => ?_)
  · obtain ⟨ts, M, R, E3, rv, _, h, _⟩ := h
    rw [rv.len]
    exact len _ _ _ _ h
  · obtain ⟨ts, M, R, E3, rv, rm, h, kq, kx⟩ := h
    obtain ⟨m, l, hm⟩ := hbody cdv A outer s H E ts M R E3 hr h
    obtain ⟨t, p, ss⟩ := l.ex
    refine ⟨t, p.nox, ss _ _ _ M _ H hm .refl (rs_start rv) rm ⟨fun σ' H' τ' M' t' rs' rm' h' => ?_, fun v H' tv M' t' rv' rm' h' => ?_, fun _ _ _ _ _ _ _ z => z, fun _ _ _ _ _ _ _ z => z⟩⟩
    · obtain ⟨M2, s2, h2⟩ := h'
      exact kq .non H' .non M2 t' .non (rm'.sub s2) h2
    · obtain ⟨M2, s2, h2⟩ := h'
      exact kq v H' tv M2 t' rv' (rm'.sub s2) h2
end
section
variable {X : Cx} {H0 : Hp} {a b c e o tg : Expr} {es rest : List Expr} {pos apos cpos p p2 p3 : Pos} {ma mb mc m mo : E3} {mA mB : B3} {mAs : A3}
theorem lss_given {b : List Stmt} {m : S3} {p : Prop} (h : p → LSs X H0 b m) : LSs X H0 b (fun D τ M => p ∧ m D τ M) := by
  refine ⟨fun D σ H => ∃ hp : p, Classical.choose (h hp).ex D σ H, ⟨fun pins s σ H D I ⟨hp, hq⟩ => (Classical.choose_spec (h hp).ex).1.run pins s σ H D I hq⟩, fun D3 D τ M σ H ⟨hp, hm⟩ t rs rm k => ⟨hp, (Classical.choose_spec (h hp).ex).2 D3 D τ M σ H hm t rs rm k⟩⟩
theorem le_isE2 {a D : Addr} {oe : Obj} {cls : Value} {d : Option Addr} {pn : List (Addr × Obj)} {i : Nat} {n x : Str} {cv : Value} {cvv : V} {b : Bool} (hz : Zc cls d oe) (hp : cls = .ref D ∧ d = none) (hf : ∃ vs, oe.data = .fields vs) (C : ExcC X.K D) (hg : Gl (X.suite a ((a, oe) :: pn)) "isinstance") (hm : X.mg "isinstance" = none)
    (hv : PE (X.suite a ((a, oe) :: pn)) (.Name n p2) (tVar i)) (hx : PE (X.suite a ((a, oe) :: pn)) (.Name x p3) (tC cvv)) (hr : ∀ u, RelV cvv u → u = cv) (hk : PySem.W.kitOne X.K (.ref D) cv = some b)
    (he1 : starEach [.Name n p2, .Name x p3] (X.suite a ((a, oe) :: pn)).env = (false, eval (.Name n p2) (X.suite a ((a, oe) :: pn)).env) :: starEach [.Name x p3] (X.suite a ((a, oe) :: pn)).env := by rfl) (he2 : starEach [.Name x p3] (X.suite a ((a, oe) :: pn)).env = (false, eval (.Name x p3) (X.suite a ((a, oe) :: pn)).env) :: starEach [] (X.suite a ((a, oe) :: pn)).env := by rfl) (hpl : (backTo pos (starEach [.Name x p3] (X.suite a ((a, oe) :: pn)).env)).any (·.1) = false := by rfl) :
    LE (X.suite a ((a, oe) :: pn)) H0 (.Call (.Name "isinstance" p) [.Name n p2, .Name x p3] [] pos) (eIsE a i b) := by
  obtain ⟨rfl, rfl⟩ := hp
  exact le_isE C hz hf hg hm hv hx hr hk he1 he2 hpl
end
/-! ### the script -/
section
variable {X : Cx} {H0 : Hp} {a b c e o tg : Expr} {es rest : List Expr} {pos apos cpos p p2 p3 : Pos} {ma mb mc m mo : E3} {mA mB : B3} {mAs : A3}
def cLenS (K : Fg) : C3 := fun ts M R => match ts with
  | [.scr K' ns] => K' = K ∧ R (.int ns.length) M
  | _ => False
theorem le_lenS (hg : Gl X "len") (hm : X.mg "len" = none) (ha : LA X H0 [e] mAs) (he : starEach [e] X.env = (false, eval e X.env) :: starEach [] X.env := by rfl) (hpl : (backTo pos (starEach [] X.env)).any (·.1) = false := by rfl) : LE X H0 (.Call (.Name "len" p) [e] [] pos) (eCB (cLenS X.K) mAs) := le_cB call_len_seq (fun vs ts H M R Q h rv rm k => by
  unfold cLenS at h
  split at h
  · rename_i K' ns
    cases rv with
    | cons r rr =>
      cases rr
      obtain ⟨rfl, h⟩ := h
      cases r with
      | scr q => exact ⟨_, _, rfl, .inl q.sq, by rw [List.length_map]; exact k.at (.int _) rm h⟩
  · exact h.elim) hg hm PySem.boot_len ha (by decide) (by decide) he hpl
def oIxS (K : Fg) : O3 := fun x y M R => match x, y with
  | .scr K' ns, .int i => K' = K ∧ (match atI ns i with
    | some v => R (.int v) M
    | none => False)
  | _, _ => False
theorem le_atS (ha : LE X H0 a ma) (hb : LE X H0 b mb) (hs : PlainIx b := by exact fun _ _ => rfl) : LE X H0 (.Subscript a b pos) (eOp (oIxS X.K) ma mb) := le_ix ix_list (fun x y tx ty H M R Q h rx ry rm k => by
  unfold oIxS at h
  split at h
  · rename_i K' ns i
    cases ry
    obtain ⟨rfl, h⟩ := h
    cases rx with
    | scr q =>
      split at h
      · rename_i v e
        refine ⟨_, _, i, .int v, rfl, rfl, q.sq, ?_, k.at (.int _) rm h⟩
        unfold atI at e ⊢
        rw [List.length_map]
        cases e2 : ixN ns.length i with
        | none => rw [e2] at e; cases e
        | some j =>
          rw [e2] at e
          show (ns.map V.int)[j]? = _
          rw [List.getElem?_map, show ns[j]? = some v from e]
          rfl
      · exact h.elim
  · exact h.elim) ha hb hs
end
/-! ### a label -/
def lbF (t u : T) (D : Addr) : List (Str × T) := [("listed", t), ("words", u), ("by_path", .ref D)]
def Lab (C : Addr) (M : Mh) (x : Addr) (fo : Fo) (ws : List Str) : Prop := ∃ D, M x = some (.ins C (lbF (.tup fo.ts) (.tup (ws.map T.str)) D)) ∧ M D = some (.dT (gaF [] 0 fo))
theorem Lab.sub {C : Addr} {M M' : Mh} {x : Addr} {fo : Fo} {ws : List Str} (h : Lab C M x fo ws) (s : Sub M M') : Lab C M' x fo ws := let ⟨D, a, b⟩ := h; ⟨D, s _ _ a, s _ _ b⟩
def pathsT (fo : Fo) : List T := (gaF [] 0 fo).map fun kv => .tup (kv.1.map keyT)
/-- the place at a path -/
def atP (fo : Fo) : T → Option T
  | .tup ts => (match ts.all isW, toKeys ts with
    | true, some ks => valT (gaF [] 0 fo) ks
    | _, _ => none)
  | _ => none
theorem whole_keys : ∀ {ts : List T}, ts.all isW = true → ∃ ks, toKeys ts = some ks
  | [], _ => ⟨[], rfl⟩
  | t :: ts, h => by
    rw [List.all_cons, Bool.and_eq_true] at h
    obtain ⟨ks, e⟩ := whole_keys h.2
    cases t with
    | int i =>
      refine ⟨.inl i :: ks, ?_⟩
      show (match toKey (.int i), toKeys ts with | some k, some ks => some (k :: ks) | _, _ => none) = _
      rw [e]
      rfl
    | _ => cases h.1
theorem gaF_plt : ∀ {ks : List Key} {n : Nat} {f : Fo} {x : List Key × T}, x ∈ gaF ks n f → ∃ t : It3, x.2 = plt t
  | ks, n, .nil, x, h => by cases h
  | ks, n, .cons nm td i r, x, h => by
    rcases List.mem_cons.mp h with rfl | h
    · exact ⟨_, rfl⟩
    · rcases List.mem_append.mp h with h | h
      · exact gaF_plt h
      · exact gaF_plt h
theorem valT_mem {κ : Type} [DecidableEq κ] {kvs : List (κ × T)} {k : κ} {v : T} (h : valT kvs k = some v) : (k, v) ∈ kvs := by
  unfold valT at h
  cases e : kvs.find? fun kv => decide (kv.1 = k) with
  | none => rw [e] at h; cases h
  | some x =>
    rw [e] at h
    have h : x.2 = v := Option.some.inj h
    have h1 := List.find?_some e
    have h2 := List.mem_of_find?_eq_some e
    have h1 : x.1 = k := of_decide_eq_true h1
    rw [← h, ← h1]
    exact h2
theorem atP_plt {fo : Fo} {t v : T} (h : atP fo t = some v) : ∃ it : It3, v = plt it := by
  unfold atP at h
  split at h
  · split at h
    · exact gaF_plt (valT_mem h)
    · cases h
  · cases h
theorem lbF_no {t u : T} {D : Addr} {m : Str} (h : ¬ m = "listed" ∧ ¬ m = "words" ∧ ¬ m = "by_path") : (lbF t u D).lookup m = none := by
  unfold lbF
  rw [List.lookup, beq_eq_false_iff_ne.mpr h.1, List.lookup, beq_eq_false_iff_ne.mpr h.2.1, List.lookup, beq_eq_false_iff_ne.mpr h.2.2]
  rfl
theorem look_T {M : Mh} {D : Addr} {kvs : List (List Key × T)} {ts : List T} {ks : List Key} (e : M D = some (.dT kvs)) (k : toKeys ts = some ks) : look M (.ref D) (.tup ts) = some (valT kvs ks) := by
  unfold look
  simp only [e, k]
end L3
set_option Elab.async false
set_option linter.all false
set_option maxRecDepth 100000
set_option maxHeartbeats 1000000
set_option autoImplicit false
namespace L3
open PySem PySem.Spec PyProof.Rows L2
section
variable {X : Cx} {H0 : Hp} {a b c e o tg : Expr} {es rest : List Expr} {pos apos cpos p p2 p3 : Pos} {ma mb mc m mo : E3} {mA mB : B3} {mAs : A3}
/-! ### repr of any data, of {} -/
theorem cr_reprV (hg : X.A.guards = some []) (hu : X.A.units + 64 < cLine) : CallR X (.builtin "repr") (fun xs H Q => ∃ (v : V) (d : PyData), xs = [v] ∧ Dp X.K H v d ∧ d.showable = true ∧ d.hasDict = false ∧ d.depth ≤ 50 ∧ d.shown.length ≤ sizeLine ∧ Q (.str d.shown) H) := by
  intro pins s σ H xs us Q I r h
  obtain ⟨v, d, rfl, hd, hs, hn, hdp, hz, q⟩ := h
  cases v with
  | ref a => exact G.cr_repr hg hu pins s σ H _ us Q I r ⟨a, d, rfl, hd, hs, hn, hdp, hz, q⟩
  | int i =>
    cases hd
    exact SkE.call_repr_int pins s σ H _ us Q I r ⟨i, rfl, by simpa [PyData.showable] using hs, by rw [PyData.shown] at q; exact q⟩
  | str z =>
    obtain ⟨u, rfl, t, rfl⟩ := vals1 r
    cases hd
    rw [PyData.shown] at hz q
    exact PySem.P.repr_of_str ⟨.str _, H, I.tok _, ⟨_, rfl⟩, q⟩ hz
  | bl b =>
    obtain ⟨u, rfl, ru⟩ := vals1 r
    cases ru
    cases hd
    rw [PyData.shown] at q
    exact PySem.P.repr_of_bool ⟨.str _, H, I.tok _, ⟨_, rfl⟩, q⟩
  | non =>
    obtain ⟨u, rfl, ru⟩ := vals1 r
    cases ru
    cases hd
    rw [PyData.shown] at q
    exact PySem.P.repr_of_none ⟨.str _, H, I.tok _, ⟨_, rfl⟩, q⟩
  | _ => cases hd
theorem cr_repr0 (hg : X.A.guards = some []) (hu : X.A.units + 64 < cLine) : CallR X (.builtin "repr") (fun xs H Q => ∃ (a : Addr), xs = [.ref a] ∧ H a = some (.dK []) ∧ Q (.str (PyData.dict []).shown) H) := by
  intro pins s σ H xs us Q I r h
  obtain ⟨a, rfl, ha, q⟩ := h
  obtain ⟨u, rfl, ru⟩ := vals1 r
  cases ru
  obtain ⟨_, hsm, vs, rel, od, es, ep, ho, hx, hd, he⟩ := I.hok a _ ha
  cases rel
  have e0 : es.toList = [] := by
    have := he.2.1.length
    simpa using this
  have rd : Reads s.heap (.ref a) (.dict []) (a :: [] ++ []) := Reads.dict (kvs := []) ho hx.1 hd (by rw [e0]; exact .nil) (by rw [e0]; exact .nil)
  exact repr_of_reads' rd rfl (fun _ z => by
    simp at z
    rw [z] at hsm
    simp at hsm) hg (by show X.A.units + 2 < cLine; omega) (fun _ _ e => e) (fun h' u tk hk => ⟨.str _, H, I.kept (t' := tk) hk, ⟨u, rfl⟩, q⟩) (by decide +kernel)
/-- what repr needs of a thing -/
structure Shw (M : Mh) (t : T) (z : Str) : Prop where
  ok : (∃ d, Dt M t d ∧ d.showable = true ∧ d.hasDict = false ∧ d.depth ≤ 50 ∧ d.shown.length ≤ sizeLine ∧ z = d.shown) ∨ ∃ a, t = .ref a ∧ M a = some (.dK []) ∧ z = (PyData.dict []).shown
def cRpA : C3 := fun ts M R => match ts with
  | [t] => ∃ z, Shw M t z ∧ R (.str z) M
  | _ => False
theorem le_repr {k : Nat} (hgd : X.A.guards = some []) (hr : Room k X.A) (hg : Gl X "repr") (hm : X.mg "repr" = none) (ha : LA X H0 [e] mAs) (he : starEach [e] X.env = (false, eval e X.env) :: starEach [] X.env := by rfl) (hpl : (backTo pos (starEach [] X.env)).any (·.1) = false := by rfl) : LE X H0 (.Call (.Name "repr" p) [e] [] pos) (eCB cRpA mAs) := le_cB ((cr_reprV hgd hr.units).or (cr_repr0 hgd hr.units)) (fun vs ts H M R Q h rv rm k => by
  unfold cRpA at h
  split at h
  · cases rv with
    | cons r rr =>
      cases rr
      obtain ⟨z, ⟨hz⟩, h⟩ := h
      rcases hz with ⟨d, h1, h2, h3, h4, h5, rfl⟩ | ⟨a, rfl, h1, rfl⟩
      · exact .inl ⟨_, d, rfl, h1.dp rm r, h2, h3, h4, h5, k.at (.str _) rm h⟩
      · cases r
        obtain ⟨us, e1, r1⟩ := rm _ _ h1
        cases r1
        exact .inr ⟨a, rfl, e1, k.at (.str _) rm h⟩
  · exact h.elim) hg hm (by decide +kernel) ha (by decide) (by decide) he hpl
end
mutual
theorem Dt.sub {M M' : Mh} (s : Sub M M') : ∀ {t : T} {d : PyData}, Dt M t d → Dt M' t d
  | _, _, .non => .non
  | _, _, .bl b => .bl b
  | _, _, .int b => .int b
  | _, _, .str b => .str b
  | _, _, .lst e ds => .lst (s _ _ e) (Dts.sub s ds)
  | _, _, .tup ds => .tup (Dts.sub s ds)
theorem Dts.sub {M M' : Mh} (s : Sub M M') : ∀ {ts : List T} {ds : List PyData}, Dts M ts ds → Dts M' ts ds
  | _, _, .nil => .nil
  | _, _, .cons d ds => .cons (Dt.sub s d) (Dts.sub s ds)
end
theorem Shw.sub {M M' : Mh} {t : T} {z : Str} (h : Shw M t z) (s : Sub M M') : Shw M' t z := by
  obtain ⟨h⟩ := h
  rcases h with ⟨d, h1, h2⟩ | ⟨a, e, h1, h2⟩
  · exact ⟨.inl ⟨d, h1.sub s, h2⟩⟩
  · exact ⟨.inr ⟨a, e, s _ _ h1, h2⟩⟩
/-! ### pots -/
def Pt (M : Mh) (p : Addr) : Prop := ∃ a b : Int, M p = some (.lst [.int a, .int b]) ∧ 0 ≤ a ∧ 0 ≤ b ∧ b < 4294967296
def Kp (p : Addr) (M M' : Mh) : Prop := ∀ a o, a ≠ p → M a = some o → M' a = some o
theorem Kp.refl {p : Addr} {M : Mh} : Kp p M M := fun _ _ _ e => e
theorem Kp.trans {p : Addr} {M M1 M2 : Mh} (a : Kp p M M1) (b : Kp p M1 M2) : Kp p M M2 := fun c o n h => b c o n (a c o n h)
theorem Kp.of {p : Addr} {M M1 : Mh} (a : Sub M M1) : Kp p M M1 := fun c o _ h => a c o h
theorem Kp.up {p : Addr} {M : Mh} {o : MO} : Kp p M (L3.up M p o) := fun c u n h => by rw [up_ne n]; exact h
theorem Pt.sub {p : Addr} {M M1 : Mh} (h : Pt M p) (s : Sub M M1) : Pt M1 p := let ⟨a, b, e, r⟩ := h; ⟨a, b, s _ _ e, r⟩
theorem Pt.ne {p q : Addr} {M : Mh} (h : Pt M p) (n : M q = none) : p ≠ q := let ⟨_, _, e, _⟩ := h; ne_free e n
theorem Pt.upd {p : Addr} {M : Mh} {a b : Int} (ha : 0 ≤ a) (hb : 0 ≤ b) (hb2 : b < 4294967296) : Pt (L3.up M p (.lst [.int a, .int b])) p := ⟨a, b, up_same, ha, hb, hb2⟩
theorem cdp {i j : Int} (h : 0 < j) (hb : j < 1000000000000000000000) : CDivP i j := ⟨h, PyProof.noPylong_of_log2 (Nat.lt_of_lt_of_le (PySem.Flt.log2_lt_of (k := 100) (by decide) (Nat.lt_of_lt_of_le (show j.natAbs < 1000000000000000000000 by omega) (by decide))) (by decide))⟩
theorem fmod_pos {a b : Int} (h : 0 < b) : a.fmod b = a % b := Int.fmod_eq_emod_of_nonneg a (by omega)
theorem fdiv_pos {a b : Int} (h : 0 < b) : a.fdiv b = a / b := Int.fdiv_eq_ediv_of_nonneg a (by omega)
theorem lt_1000 {i : Int} (h : i.natAbs < 2 ^ 100) : i.natAbs < 2 ^ 1000 := Nat.lt_of_lt_of_le h (Nat.pow_le_pow_right (by decide) (by decide))
theorem at_mem {α : Type} {xs : List α} {d : Int} (h0 : 0 ≤ d) (h1 : d < xs.length) : ∃ x ∈ xs, atI xs d = some x := by
  obtain ⟨n, rfl⟩ : ∃ n : Nat, d = n := ⟨d.toNat, by omega⟩
  have hn : n < xs.length := by omega
  refine ⟨xs[n], List.getElem_mem hn, ?_⟩
  unfold atI ixN
  rw [if_pos h0, if_pos h1]
  exact List.getElem?_eq_getElem hn
end L3
set_option Elab.async false
set_option linter.all false
set_option maxRecDepth 100000
set_option maxHeartbeats 1000000
set_option autoImplicit false
namespace L3
open PySem PySem.Spec PyProof.Rows L2 TL G
theorem abc_tl : (Str.ofString "abcdefghijklmnopqrstuvwxyz").cps.toList = [97, 98, 99, 100, 101, 102, 103, 104, 105, 106, 107, 108, 109, 110, 111, 112, 113, 114, 115, 116, 117, 118, 119, 120, 121, 122] := by decide +kernel
theorem abc_in (c : Nat) : decide (c ∈ (Str.ofString "abcdefghijklmnopqrstuvwxyz").cps.toList) = okC c := by
  rw [abc_tl]
  unfold okC
  rw [← Bool.decide_and]
  refine decide_eq_decide.mpr ?_
  simp only [List.mem_cons, List.not_mem_nil, or_false]
  omega
theorem nodup_len {α : Type} [DecidableEq α] : ∀ (l D : List α), l.Nodup → (∀ x ∈ l, x ∈ D) → l.length ≤ D.length
  | [], _, _, _ => Nat.zero_le _
  | x :: l, D, nd, sb => by
    obtain ⟨h1, h2⟩ := List.nodup_cons.mp nd
    have hx : x ∈ D := sb x (.head _)
    have ih := nodup_len l (D.erase x) h2 fun y hy => by
      have hne : y ≠ x := fun e => h1 (e ▸ hy)
      exact (List.mem_erase_of_ne hne).2 (sb y (.tail _ hy))
    have e := List.length_erase_of_mem hx
    have hp : 0 < D.length := List.length_pos_of_mem hx
    rw [List.length_cons]
    omega
abbrev abc : List Nat := (Str.ofString "abcdefghijklmnopqrstuvwxyz").cps.toList
def one (c : Nat) : Str := ⟨#[c]⟩
theorem one_inj {a b : Nat} (h : one a = one b) : a = b := by
  have := congrArg tl h
  cases this
  rfl
theorem abc_nodup : (abc.map one).Nodup := by
  refine List.pairwise_map.mpr ?_
  have h : abc.Pairwise (fun a b => a ≠ b) := by
    show ((Str.ofString "abcdefghijklmnopqrstuvwxyz").cps.toList).Pairwise _
    rw [abc_tl]
    decide
  exact h.imp fun {a b} n e => n (one_inj e)
theorem abc_len : abc.length = 26 := by decide +kernel
theorem ok_abc {c : Nat} (h : c ∈ abc) : okC c = true := by
  rw [← abc_in]
  exact decide_eq_true h
theorem nm_of {z : Str} (h1 : 1 ≤ (tl z).length) (h2 : (tl z).length ≤ 8) (h3 : ∀ c ∈ tl z, okC c = true) : NmOk z := by
  show (decide (1 ≤ z.length) && decide (z.length ≤ 8) && z.cps.toList.all okC) = true
  rw [len_tl, decide_eq_true h1, decide_eq_true h2]
  exact List.all_eq_true.mpr h3
theorem nm_one {c : Nat} (h : c ∈ abc) : NmOk (one c) := nm_of (Nat.le_refl 1) (show 1 ≤ 8 by decide) fun x hx => by
  rw [List.mem_singleton.mp (show x ∈ [c] from hx)]
  exact ok_abc h
theorem joinL_flat : ∀ ps : List (List Nat), joinL [] ps = ps.flatten
  | [] => rfl
  | [p] => by simp [joinL]
  | p :: q :: r => by
    have ih := joinL_flat (q :: r)
    show p ++ ([] ++ joinL [] (q :: r)) = _
    rw [List.nil_append, ih]
    rfl
theorem nm_join {cs : List Nat} (h1 : 1 ≤ cs.length) (h2 : cs.length ≤ 8) (h3 : ∀ c ∈ cs, c ∈ abc) : NmOk (Txt.join (Str.ofString "") (cs.map one)) := by
  have e : tl (Txt.join (Str.ofString "") (cs.map one)) = cs := by
    rw [join_eq, tl_join, show tl (Str.ofString "") = [] by decide +kernel, joinL_flat, List.map_map]
    induction cs with
    | nil => rfl
    | cons c r ih =>
      by_cases hr : r = []
      · subst hr
        rfl
      · have hl : 0 < r.length := List.length_pos_iff.mpr hr
        rw [List.map_cons, List.flatten_cons, ih hl (by rw [List.length_cons] at h2; omega) fun c hc => h3 c (.tail _ hc)]
        rfl
  refine nm_of (by rw [e]; exact h1) (by rw [e]; exact h2) fun c hc => ?_
  rw [e] at hc
  exact ok_abc (h3 c hc)
theorem ws_sum : ∀ {ws : List Str}, (∀ y ∈ ws, y.length ≤ 8) → (ws.map (·.length)).sum ≤ 8 * ws.length
  | [], _ => Nat.zero_le _
  | y :: r, h => by
    have h1 := h y (.head _)
    have h2 := ws_sum (ws := r) fun z hz => h z (.tail _ hz)
    rw [List.map_cons, List.sum_cons, List.length_cons]
    omega
def zz (c : Nat) : Str := Str.ofString "z" ++ one c
theorem zz_inj {a b : Nat} (h : zz a = zz b) : a = b := by
  have h := congrArg tl h
  unfold zz at h
  rw [tl_append, tl_append] at h
  have h := List.append_cancel_left h
  cases h
  rfl
theorem zz_nodup : (abc.map zz).Nodup := by
  refine List.pairwise_map.mpr ?_
  have h : abc.Pairwise (fun a b => a ≠ b) := by
    show ((Str.ofString "abcdefghijklmnopqrstuvwxyz").cps.toList).Pairwise _
    rw [abc_tl]
    decide
  exact h.imp fun {a b} n e => n (zz_inj e)
theorem z_in : 122 ∈ abc := by decide +kernel
theorem nm_zz {c : Nat} (h : c ∈ abc) : NmOk (zz c) := by
  have e : tl (zz c) = [122, c] := by
    unfold zz
    rw [tl_append]
    rfl
  refine nm_of (by rw [e]; show 1 ≤ 2; decide) (by rw [e]; show 2 ≤ 8; decide) fun x hx => ?_
  rw [e] at hx
  rcases List.mem_cons.mp hx with rfl | hx
  · exact ok_abc z_in
  · rw [List.mem_singleton.mp hx]
    exact ok_abc h
theorem zz_left {ts : List Str} (h : ts.length < 26) : ¬ ∀ c ∈ abc, zz c ∈ ts := fun a => by
  have b := nodup_len _ ts zz_nodup fun x hx => by
    obtain ⟨c, hc, rfl⟩ := List.mem_map.mp hx
    exact a c hc
  rw [List.length_map, abc_len] at b
  omega
abbrev menu : List Str := [Str.ofString "to", Str.ofString "may", Str.ofString "hold", Str.ofString "water", Str.ofString "in"]
theorem ok_menu : ∀ z ∈ menu, NmOk z := by
  intro z hz
  simp only [menu, List.mem_cons, List.not_mem_nil, or_false] at hz
  unfold NmOk
  rcases hz with rfl | rfl | rfl | rfl | rfl <;> decide +kernel
abbrev big : Nat := 100000000000000000000
def FrU (i j : Int) : Prop := G.isFr i j = true ∧ 0 ≤ i ∧ i ≤ j ∧ i.natAbs < big ∧ j.natAbs < big
theorem low_fru {a b : Int} (ha : 0 ≤ a) (hb : 0 < b) (hab : a ≤ b) (hbig : b < 100000000000000000000) : FrU (low1 a b) (low2 a b) := by
  have hb0 : b ≠ 0 := by omega
  have em : ms a b = (gc a b : Int) := if_neg (by omega)
  have g := gc_pos (a := a) hb0
  have e1 := low1_mul a b
  have e2 := low2_mul a b
  rw [em] at e1 e2
  have p2 := low2_pos (a := a) hb0
  have p1 : 0 ≤ low1 a b := by
    by_cases z : 0 ≤ low1 a b
    · exact z
    · have h1 : 0 < (gc a b : Int) * -(low1 a b) := Int.mul_pos (by omega) (by omega)
      rw [Int.mul_neg] at h1
      omega
  have le : low1 a b ≤ low2 a b := by
    by_cases z : low1 a b ≤ low2 a b
    · exact z
    · have h1 : 0 < (gc a b : Int) * (low1 a b - low2 a b) := Int.mul_pos (by omega) (by omega)
      rw [Int.mul_sub] at h1
      omega
  have l1 := low1_le (a := a) hb0
  have l2 := low2_le (a := a) hb0
  have hbg : big = 100000000000000000000 := rfl
  exact ⟨low_fr hb0, p1, le, by omega, by omega⟩
theorem ten20m : ((10 : Int) ^ (20 : Int).toNat) - 1 = 99999999999999999999 := by decide +kernel
theorem low_order {x y b : Int} (hx : 0 ≤ x) (hxy : x ≤ y) (hb : 0 < b) : low1 x b * low2 y b ≤ low1 y b * low2 x b := by
  have hb0 : b ≠ 0 := by omega
  have e1 := low1_mul x b
  have e2 := low2_mul x b
  have e3 := low1_mul y b
  have e4 := low2_mul y b
  have m1 : ms x b = (gc x b : Int) := if_neg (by omega)
  have m2 : ms y b = (gc y b : Int) := if_neg (by omega)
  have g1 := gc_pos (a := x) hb0
  have g2 := gc_pos (a := y) hb0
  rw [m1] at e1 e2
  rw [m2] at e3 e4
  have p : 0 < (gc x b : Int) * (gc y b : Int) := Int.mul_pos (by omega) (by omega)
  have h1 : ((gc x b : Int) * (gc y b : Int)) * (low1 x b * low2 y b) = x * b := by
    calc _ = ((gc x b : Int) * low1 x b) * ((gc y b : Int) * low2 y b) := by grind
      _ = x * b := by rw [e1, e4]
  have h2 : ((gc x b : Int) * (gc y b : Int)) * (low1 y b * low2 x b) = y * b := by
    calc _ = ((gc y b : Int) * low1 y b) * ((gc x b : Int) * low2 x b) := by grind
      _ = y * b := by rw [e3, e2]
  have h3 : x * b ≤ y * b := Int.mul_le_mul_of_nonneg_right hxy (by omega)
  rw [← h1, ← h2] at h3
  exact Int.le_of_mul_le_mul_left h3 p
theorem abs_nn (a : Int) : 0 ≤ (if a < 0 then -a else a) := by split <;> omega
theorem gc_abs (a b : Int) : gc (if a < 0 then -a else a) (if b < 0 then -b else b) = gc a b := by
  unfold gc
  have h : ∀ x : Int, (if x < 0 then -x else x).natAbs = x.natAbs := fun x => by split <;> omega
  rw [h, h]
theorem gc_lt {a b : Int} {n : Nat} (h : b ≠ 0) (hb : b.natAbs < n) : gc a b < n := Nat.lt_of_le_of_lt (Nat.le_of_dvd (by omega) (Nat.gcd_dvd_right _ _)) hb
theorem lineM {n : Nat} (h : n ≤ 1000000) : n ≤ sizeLine := Nat.le_trans h (by decide)
theorem ten7 : ((10 : Int) ^ (7 : Int).toNat) = 10000000 := by decide +kernel
/-- shares drawn are good -/
theorem sh_ok {x z b : Int} (hx : 0 ≤ x) (h1 : x ≤ z) (h2 : z ≤ b) (h3 : 0 < b) (h4 : b < 100000000000000000000) : ShOk ⟨low1 x b, low2 x b, low1 z b, low2 z b⟩ := by
  have f1 := low_fru hx h3 (by omega) h4
  have f2 := low_fru (a := z) (b := b) (by omega) h3 h2 h4
  exact ⟨⟨f1.1, f2.1⟩, ⟨f1.2.1, low_order hx h1 h3, f2.2.2.1⟩, f1.2.2.2.1, f1.2.2.2.2, f2.2.2.2.1, f2.2.2.2.2⟩
end L3
set_option Elab.async false
set_option linter.all false
set_option maxRecDepth 100000
set_option maxHeartbeats 1000000
set_option autoImplicit false
namespace L3
open PySem PySem.Spec PyProof.Rows L2
section
variable {X : Cx} {H0 : Hp} {a b c e o tg : Expr} {es rest : List Expr} {pos apos cpos p p2 p3 : Pos} {ma mb mc m mo : E3} {mA mB : B3} {mAs : A3}
def bCut (m : B3) : B3 := fun τ M R => ∃ N : Bool → Mh → Prop, m τ M N ∧ ∀ b M', N b M' → R b M'
theorem lt_cut (h : LT X H0 e mA) : LT X H0 e (bCut mA) := let ⟨_, p, s⟩ := h.ex; ⟨_, p, fun τ M R σ H Q ⟨N, h1, h2⟩ t rs rm k => s τ M N σ H Q h1 t rs rm fun b H' M' t' rm' n => k b H' M' t' rm' (h2 b M' n)⟩
def eCut (m : E3) : E3 := fun τ M R => ∃ N : T → Mh → Prop, m τ M N ∧ ∀ b M', N b M' → R b M'
theorem le_cut (h : LE X H0 e m) : LE X H0 e (eCut m) := let ⟨_, p, s⟩ := h.ex; ⟨_, p, fun τ M R σ H Q ⟨N, h1, h2⟩ t rs rm k => s τ M N σ H Q h1 t rs rm fun b H' tv M' t' rv rm' n => k b H' tv M' t' rv rm' (h2 tv M' n)⟩
end
/-- all but two places stay -/
def Kl (p q : Addr) (M M' : Mh) : Prop := ∀ a o, a ≠ p → a ≠ q → M a = some o → M' a = some o
theorem Kl.refl {p q : Addr} {M : Mh} : Kl p q M M := fun _ _ _ _ e => e
theorem Kl.trans {p q : Addr} {M M1 M2 : Mh} (a : Kl p q M M1) (b : Kl p q M1 M2) : Kl p q M M2 := fun c o n1 n2 h => b c o n1 n2 (a c o n1 n2 h)
theorem Kl.kp {p q : Addr} {M M1 : Mh} (a : Kp p M M1) : Kl p q M M1 := fun c o n _ h => a c o n h
theorem Kl.of {p q : Addr} {M M1 : Mh} (a : Sub M M1) : Kl p q M M1 := fun c o _ _ h => a c o h
theorem Kl.up2 {p q : Addr} {M : Mh} {o : MO} : Kl p q M (L3.up M q o) := fun c u _ n h => by rw [up_ne n]; exact h
theorem Kl.up1 {p q : Addr} {M : Mh} {o : MO} : Kl p q M (L3.up M p o) := fun c u n _ h => by rw [up_ne n]; exact h
/-- a write to what was not there before -/
theorem Kl.upn {p q D : Addr} {M M1 : Mh} {o : MO} (a : Kl p q M M1) (n : M D = none) : Kl p q M (L3.up M1 D o) := fun c u n1 n2 h => by rw [up_ne (ne_free h n)]; exact a c u n1 n2 h
theorem Pt.upn {p D : Addr} {M : Mh} {o : MO} (h : Pt M p) (n : D ≠ p) : Pt (L3.up M D o) p := let ⟨a, b, e, r⟩ := h; ⟨a, b, by rw [up_ne (fun z => n z.symm)]; exact e, r⟩
theorem Pt.strs {p q : Addr} {M : Mh} {ts : List Str} (h : Pt M p) (e : M q = some (.lst (ts.map T.str))) : p ≠ q := fun z => by
  obtain ⟨a, b, e2, _⟩ := h
  rw [z, e] at e2
  have e2 := MO.lst.inj (Option.some.inj e2)
  cases ts with
  | nil => cases e2
  | cons y r => cases e2
theorem Pt.one {p q : Addr} {M : Mh} {x : T} (h : Pt M p) (e : M q = some (.lst [x])) : p ≠ q := fun z => by
  obtain ⟨a, b, e2, _⟩ := h
  rw [z, e] at e2
  cases e2
theorem int_strs {p q : Addr} {M : Mh} {ts : List Str} {i : Int} (h : M p = some (.lst [.int i])) (e : M q = some (.lst (ts.map T.str))) : p ≠ q := fun z => by
  rw [z, e] at h
  have e2 := MO.lst.inj (Option.some.inj h)
  cases ts with
  | nil => cases e2
  | cons y r => cases e2
theorem Fo.snoc_ne (f : Fo) {nm : Str} {td : Option Sh} {i : Fo} : f.snoc nm td i ≠ .nil := by
  cases f <;> (intro z; cases z)
theorem Fo.ts_snoc (f : Fo) (nm : Str) (td : Option Sh) (i : Fo) : (f.snoc nm td i).ts = f.ts ++ [plt (nm, td, i)] := by
  rw [Fo.ts_items, Fo.items_snoc, List.map_append, Fo.ts_items]
  rfl
/-! ### ways -/
def Wd : It3 → List Nat → It3 → Prop
  | a, [], b => a = b
  | a, n :: ns, b => ∃ c, a.2.2.items[n]? = some c ∧ Wd c ns b
theorem gaF_way : ∀ {fo : Fo} {ks : List Key} {m : Nat} {x : List Key × T}, x ∈ gaF ks m fo → ∃ (n : Nat) (ns : List Nat) (c it : It3), x.1 = ks ++ iK (m + n) :: ns.map iK ∧ x.2 = plt it ∧ fo.items[n]? = some c ∧ Wd c ns it
  | .nil, ks, m, x, h => by cases h
  | .cons nm td i r, ks, m, x, h => by
    rcases List.mem_cons.mp h with rfl | h
    · exact ⟨0, [], (nm, td, i), (nm, td, i), rfl, rfl, rfl, rfl⟩
    · rcases List.mem_append.mp h with h | h
      · obtain ⟨n, ns, c, it, e1, e2, e3, e4⟩ := gaF_way h
        refine ⟨0, n :: ns, (nm, td, i), it, ?_, e2, rfl, c, e3, e4⟩
        rw [e1, Nat.zero_add, List.append_assoc]
        rfl
      · obtain ⟨n, ns, c, it, e1, e2, e3, e4⟩ := gaF_way h
        refine ⟨n + 1, ns, c, it, ?_, e2, e3, e4⟩
        rw [e1, show m + 1 + n = m + (n + 1) by omega]
theorem cut_tail {α : Type} {x : α} {xs : List α} : cut (x :: xs) (some 1) none = xs := by
  unfold cut
  have e : HT.sIx (x :: xs).length 0 (some 1) = 1 := by
    show (if (1 : Int) < 0 then (1 + ((xs.length + 1 : Nat) : Int)).toNat else min 1 (xs.length + 1)) = 1
    rw [if_neg (by decide)]
    omega
  rw [e]
  show xs.take (xs.length + 1 - 1) = xs
  rw [Nat.add_sub_cancel, List.take_length]
theorem cut_init {α : Type} {x : α} {xs : List α} : cut (xs ++ [x]) none (some (-1)) = xs := by
  unfold cut
  have e : HT.sIx (xs ++ [x]).length (xs ++ [x]).length (some (-1)) = xs.length := by
    show (if (-1 : Int) < 0 then (-1 + (((xs ++ [x]).length : Nat) : Int)).toNat else min (-1 : Int).toNat (xs ++ [x]).length) = _
    rw [if_pos (by decide), List.length_append]
    show (-1 + ((xs.length + 1 : Nat) : Int)).toNat = _
    omega
  rw [e]
  show (xs ++ [x]).take (xs.length - 0) = xs
  rw [Nat.sub_zero, List.take_left]
theorem at_last {α : Type} {x : α} {xs : List α} : atI (xs ++ [x]) (-1) = some x := by
  unfold atI ixN
  rw [if_neg (by decide), List.length_append]
  show ((if -((xs.length + 1 : Nat) : Int) ≤ -1 then some (-1 + ((xs.length + 1 : Nat) : Int)).toNat else none).bind fun j => (xs ++ [x])[j]?) = some x
  rw [if_pos (by omega), show (-1 + ((xs.length + 1 : Nat) : Int)).toNat = xs.length by omega]
  show (xs ++ [x])[xs.length]? = some x
  simp
def pk (x : List Key × T) : T := .tup (x.1.map keyT)
theorem pathsT_eq (fo : Fo) : pathsT fo = (gaF [] 0 fo).map pk := rfl
theorem atI_nat3 {α : Type} {xs : List α} {n : Nat} {x : α} (h : xs[n]? = some x) : atI xs (n : Int) = some x := by
  have hl := (List.getElem?_eq_some_iff.mp h).1
  unfold atI ixN
  rw [if_pos (by omega), if_pos (by omega)]
  exact h
theorem Fo.ts_get {f : Fo} {n : Nat} {c : It3} (h : f.items[n]? = some c) : f.ts[n]? = some (plt c) := by
  rw [f.ts_items, List.getElem?_map, h]
  rfl
theorem Fo.inn_of {f : Fo} {n : Nat} {c : It3} (h : f.items[n]? = some c) : f.inn = .tup f.ts := by
  cases f with
  | nil => cases h
  | cons a b c d => rfl
end L3
set_option Elab.async false
set_option linter.all false
set_option maxRecDepth 100000
set_option maxHeartbeats 1000000
set_option autoImplicit false
namespace L3
open PySem PySem.Spec PyProof.Rows L2
/-! ### what repr shows, and how long that is -/
structure Sw (M : Mh) (t : T) (d : PyData) (k n : Nat) : Prop where
  dt : Dt M t d
  sh : d.showable = true
  nd : d.hasDict = false
  dp : d.depth ≤ k
  len : d.shown.length ≤ n
structure Sws (M : Mh) (ts : List T) (ds : List PyData) (k n : Nat) : Prop where
  dt : Dts M ts ds
  sh : PyData.showableAll ds = true
  nd : PyData.hasDictAll ds = false
  dp : PyData.depthAll ds ≤ k
  len : ((PyData.shownAll ds).map (·.length)).sum ≤ n
  ln : (PyData.shownAll ds).length = ts.length
theorem sw_non {M : Mh} {k : Nat} : Sw M .non .none k 2000 := ⟨.non, rfl, rfl, Nat.zero_le _, by decide +kernel⟩
theorem sw_bl {M : Mh} {k : Nat} (b : Bool) : Sw M (.bl b) (.bool b) k 2000 := ⟨.bl b, rfl, rfl, Nat.zero_le _, by cases b <;> decide +kernel⟩
theorem sw_int {M : Mh} {k : Nat} {i : Int} (h : i.natAbs.log2 < 1920) : Sw M (.int i) (.int i) k 2000 := ⟨.int i, by simp [PyData.showable, h], rfl, Nat.zero_le _, by
  show (Str.ofString (toString i)).length ≤ 2000
  rw [PySem.ofString_length]
  have := int_text_length_le (a := i) (by decide) h
  omega⟩
theorem sw_str {M : Mh} {k : Nat} {z : Str} (h : (reprText z).length ≤ 2000) : Sw M (.str z) (.str z) k 2000 := ⟨.str z, rfl, rfl, Nat.zero_le _, h⟩
theorem sws_nil {M : Mh} {k : Nat} : Sws M [] [] k 0 := ⟨.nil, rfl, rfl, Nat.zero_le _, Nat.le_refl _, rfl⟩
theorem sws_cons {M : Mh} {t : T} {ts : List T} {d : PyData} {ds : List PyData} {k n m : Nat} (a : Sw M t d k n) (b : Sws M ts ds k m) : Sws M (t :: ts) (d :: ds) k (n + m) := by
  refine ⟨.cons a.dt b.dt, ?_, ?_, ?_, ?_, ?_⟩
  · show (d.showable && PyData.showableAll ds) = true
    rw [a.sh, b.sh]
    rfl
  · show (d.hasDict || PyData.hasDictAll ds) = false
    rw [a.nd, b.nd]
    rfl
  · show max d.depth (PyData.depthAll ds) ≤ k
    have := a.dp
    have := b.dp
    omega
  · show d.shown.length + ((PyData.shownAll ds).map (·.length)).sum ≤ n + m
    have := a.len
    have := b.len
    omega
  · show (PyData.shownAll ds).length + 1 = ts.length + 1
    rw [b.ln]
theorem sw_tup {M : Mh} {ts : List T} {ds : List PyData} {k n : Nat} (h : Sws M ts ds k n) : Sw M (.tup ts) (.tuple ds) (k + 1) (n + 2 * ts.length + 3) := by
  refine ⟨.tup h.dt, h.sh, h.nd, ?_, ?_⟩
  · show PyData.depthAll ds + 1 ≤ k + 1
    have := h.dp
    omega
  · have := tupleText_len_le (PyData.shownAll ds)
    rw [h.ln] at this
    have := h.len
    show (tupleText (PyData.shownAll ds)).length ≤ _
    omega
theorem sw_lst {M : Mh} {a : Addr} {ts : List T} {ds : List PyData} {k n : Nat} (h : Sws M ts ds k n) (e : M a = some (.lst ts)) : Sw M (.ref a) (.list ds) (k + 1) (n + 2 * ts.length + 3) := by
  refine ⟨.lst e h.dt, h.sh, h.nd, ?_, ?_⟩
  · show PyData.depthAll ds + 1 ≤ k + 1
    have := h.dp
    omega
  · have := listText_len_le (PyData.shownAll ds)
    rw [h.ln] at this
    have := h.len
    show (listText (PyData.shownAll ds)).length ≤ _
    omega
theorem Sws.sub {M M' : Mh} {ts : List T} {ds : List PyData} {k n : Nat} (h : Sws M ts ds k n) (s : Sub M M') : Sws M' ts ds k n := ⟨h.dt.sub s, h.sh, h.nd, h.dp, h.len, h.ln⟩
theorem Sw.sub {M M' : Mh} {t : T} {d : PyData} {k n : Nat} (h : Sw M t d k n) (s : Sub M M') : Sw M' t d k n := ⟨h.dt.sub s, h.sh, h.nd, h.dp, h.len⟩
theorem Sw.mono {M : Mh} {t : T} {d : PyData} {k n k' n' : Nat} (h : Sw M t d k n) (hk : k ≤ k') (hn : n ≤ n') : Sw M t d k' n' := ⟨h.dt, h.sh, h.nd, Nat.le_trans h.dp hk, Nat.le_trans h.len hn⟩
theorem Sw.shw {M : Mh} {t : T} {d : PyData} {k n : Nat} (h : Sw M t d k n) (hk : k ≤ 50) (hn : n ≤ 1000000) : Shw M t d.shown := ⟨.inl ⟨d, h.dt, h.sh, h.nd, Nat.le_trans h.dp hk, Nat.le_trans h.len (Nat.le_trans hn (by decide)), rfl⟩⟩
/-- of some data -/
def Sx (M : Mh) (k n : Nat) (t : T) : Prop := ∃ d, Sw M t d k n
theorem sxs {M : Mh} {k n : Nat} : ∀ {ts : List T}, (∀ t ∈ ts, Sx M k n t) → ∃ ds, Sws M ts ds k (ts.length * n)
  | [], _ => ⟨[], ⟨.nil, rfl, rfl, Nat.zero_le _, Nat.zero_le _, rfl⟩⟩
  | t :: ts, h => by
    obtain ⟨d, hd⟩ := h t (.head _)
    obtain ⟨ds, hds⟩ := sxs (ts := ts) fun x hx => h x (.tail _ hx)
    refine ⟨d :: ds, ?_⟩
    have := sws_cons hd hds
    rw [List.length_cons, Nat.succ_mul, Nat.add_comm]
    exact this
theorem sx_tup {M : Mh} {k n m : Nat} {ts : List T} (h : ∀ t ∈ ts, Sx M k n t) (hm : ts.length * n + 2 * ts.length + 3 ≤ m) : Sx M (k + 1) m (.tup ts) := let ⟨ds, q⟩ := sxs h; ⟨_, (sw_tup q).mono (Nat.le_refl _) hm⟩
theorem sx_lst {M : Mh} {k n m : Nat} {a : Addr} {ts : List T} (h : ∀ t ∈ ts, Sx M k n t) (e : M a = some (.lst ts)) (hm : ts.length * n + 2 * ts.length + 3 ≤ m) : Sx M (k + 1) m (.ref a) := let ⟨ds, q⟩ := sxs h; ⟨_, (sw_lst q e).mono (Nat.le_refl _) hm⟩
theorem Sx.sub {M M' : Mh} {t : T} {k n : Nat} (h : Sx M k n t) (s : Sub M M') : Sx M' k n t := let ⟨d, q⟩ := h; ⟨d, q.sub s⟩
theorem Sx.mono {M : Mh} {t : T} {k n k' n' : Nat} (h : Sx M k n t) (hk : k ≤ k') (hn : n ≤ n') : Sx M k' n' t := let ⟨d, q⟩ := h; ⟨d, q.mono hk hn⟩
theorem sx_int {M : Mh} {k : Nat} {i : Int} (h : i.natAbs < 2 ^ 100) : Sx M k 2000 (.int i) := ⟨_, sw_int (Nat.lt_of_lt_of_le (PySem.Flt.log2_lt_of (by decide) h) (by decide))⟩
theorem sx_nat {M : Mh} {k n : Nat} (h : n < 1000000) : Sx M k 2000 (.int n) := sx_int (by rw [Int.natAbs_natCast]; exact Nat.lt_of_lt_of_le h (by decide))
theorem sx_bl {M : Mh} {k : Nat} (b : Bool) : Sx M k 2000 (.bl b) := ⟨_, sw_bl b⟩
theorem sx_non {M : Mh} {k : Nat} : Sx M k 2000 .non := ⟨_, sw_non⟩
theorem sx_nm {M : Mh} {k : Nat} {z : Str} (h : NmOk z) : Sx M k 2000 (.str z) := ⟨_, sw_str (by
  have := StrLaws.reprText_len z (fun c hc => by
    have h : (decide (1 ≤ z.length) && decide (z.length ≤ 8) && z.cps.toList.all okC) = true := h
    rw [Bool.and_eq_true] at h
    have := List.all_eq_true.mp h.2 c hc
    unfold okC at this
    rw [Bool.and_eq_true] at this
    have := of_decide_eq_true this.2
    omega)
  have := h.len
  omega)⟩
theorem sx_sh {M : Mh} {k : Nat} {s : Sh} (h : ShOk s) : Sx M (k + 2) 9000 s.t := by
  obtain ⟨_, _, h1, h2, h3, h4⟩ := h
  have f : ∀ {i : Int}, i.natAbs < bigN → Sx M k 2000 (.int i) := fun h => sx_int (Nat.lt_of_lt_of_le h (by decide))
  refine sx_tup (n := 4010) (fun t ht => ?_) (by show 2 * 4010 + 2 * 2 + 3 ≤ 9000; decide)
  simp only [List.mem_cons, List.not_mem_nil, or_false] at ht
  rcases ht with rfl | rfl
  · refine sx_tup (n := 2000) (fun t ht => ?_) (by show 2 * 2000 + 2 * 2 + 3 ≤ 4010; decide)
    simp only [List.mem_cons, List.not_mem_nil, or_false] at ht
    rcases ht with rfl | rfl
    · exact f h1
    · exact f h2
  · refine sx_tup (n := 2000) (fun t ht => ?_) (by show 2 * 2000 + 2 * 2 + 3 ≤ 4010; decide)
    simp only [List.mem_cons, List.not_mem_nil, or_false] at ht
    rcases ht with rfl | rfl
    · exact f h3
    · exact f h4
theorem sx_td {M : Mh} {k : Nat} {o : Option Sh} (h : ∀ s, o = some s → ShOk s) : Sx M (k + 2) 9000 (tdt o) := by
  cases o with
  | none => exact sx_non.mono (Nat.le_refl _) (by decide)
  | some s => exact sx_sh (h s rfl)
end L3
set_option Elab.async false
set_option linter.all false
set_option maxRecDepth 100000
set_option maxHeartbeats 1000000
set_option autoImplicit false
namespace L3
open PySem PySem.Spec PyProof.Rows L2
theorem gaF_way2 : ∀ {fo : Fo} {ks : List Key} {m : Nat} {x : List Key × T}, x ∈ gaF ks m fo → ∃ (n : Nat) (ns : List Nat) (c it : It3), x.1 = ks ++ iK (m + n) :: ns.map iK ∧ x.2 = plt it ∧ fo.items[n]? = some c ∧ Wd c ns it ∧ ns.length + 1 ≤ fo.depth ∧ n < fo.cnt ∧ (∀ j ∈ ns, j < fo.cnt)
  | .nil, ks, m, x, h => by cases h
  | .cons nm td i r, ks, m, x, h => by
    have q1 : (Fo.cons nm td i r).cnt = 1 + i.cnt + r.cnt := rfl
    have q2 : (Fo.cons nm td i r).depth = max (1 + i.depth) r.depth := rfl
    rcases List.mem_cons.mp h with rfl | h
    · exact ⟨0, [], (nm, td, i), (nm, td, i), rfl, rfl, rfl, rfl, by show 0 + 1 ≤ _; omega, by omega, fun _ z => by cases z⟩
    · rcases List.mem_append.mp h with h | h
      · obtain ⟨n, ns, c, it, e1, e2, e3, e4, e5, e6, e7⟩ := gaF_way2 h
        refine ⟨0, n :: ns, (nm, td, i), it, ?_, e2, rfl, ⟨c, e3, e4⟩, by rw [List.length_cons]; omega, by omega, fun j hj => ?_⟩
        · rw [e1, Nat.zero_add, List.append_assoc]
          rfl
        · rcases List.mem_cons.mp hj with rfl | hj
          · omega
          · have := e7 j hj
            omega
      · obtain ⟨n, ns, c, it, e1, e2, e3, e4, e5, e6, e7⟩ := gaF_way2 h
        refine ⟨n + 1, ns, c, it, ?_, e2, e3, e4, by omega, by omega, fun j hj => ?_⟩
        · rw [e1, show m + 1 + n = m + (n + 1) by omega]
        · have := e7 j hj
          omega
theorem Wd.uniq : ∀ {ns : List Nat} {a b b' : It3}, Wd a ns b → Wd a ns b' → b = b'
  | [], a, b, b', h, h' => by
    have h : a = b := h
    have h' : a = b' := h'
    rw [← h, ← h']
  | n :: ns, a, b, b', ⟨c, e, h⟩, ⟨c', e', h'⟩ => by
    rw [e] at e'
    cases e'
    exact Wd.uniq h h'
theorem iKs_inj : ∀ {ns ms : List Nat}, ns.map iK = ms.map iK → ns = ms
  | [], [], _ => rfl
  | [], _ :: _, h => by cases h
  | _ :: _, [], h => by cases h
  | n :: ns, m :: ms, h => by
    obtain ⟨h1, h2⟩ := List.cons.inj h
    have := iK_inj h1
    rw [this, iKs_inj h2]
theorem valT_some {κ : Type} [DecidableEq κ] {kvs : List (κ × T)} {k : κ} {v : T} (h : (k, v) ∈ kvs) : ∃ v', valT kvs k = some v' := by
  unfold valT
  cases e : kvs.find? fun kv => decide (kv.1 = k) with
  | none =>
    have := List.find?_eq_none.mp e _ h
    exact absurd (decide_eq_true rfl) this
  | some x => exact ⟨x.2, rfl⟩
theorem keys_int (ns : List Nat) : (ns.map iK).map keyT = ns.map fun k : Nat => T.int k := by
  rw [List.map_map]
  rfl
theorem ints_whole : ∀ ns : List Nat, (ns.map fun k : Nat => T.int k).all isW = true
  | [] => rfl
  | n :: ns => ints_whole ns
theorem atP_pk {fo : Fo} {x : List Key × T} (h : x ∈ gaF [] 0 fo) : atP fo (pk x) = some x.2 := by
  obtain ⟨n, ns, c, it, e1, e2, e3, e4, e5, e6, e7⟩ := gaF_way2 h
  obtain ⟨k, v⟩ := x
  dsimp only at e1 e2
  rw [Nat.zero_add] at e1
  have e1 : k = (n :: ns).map iK := e1
  subst e1
  obtain ⟨v', hv⟩ := valT_some h
  have hm := valT_mem hv
  obtain ⟨n', ns', c', it', f1, f2, f3, f4, _⟩ := gaF_way2 hm
  dsimp only at f1 f2
  rw [Nat.zero_add] at f1
  have := iKs_inj (ns := n :: ns) (ms := n' :: ns') f1
  obtain ⟨rfl, rfl⟩ := List.cons.inj this
  rw [e3] at f3
  cases f3
  have := Wd.uniq e4 f4
  subst this
  show atP fo (.tup (((n :: ns).map iK).map keyT)) = some v
  unfold atP
  have q1 : (((n :: ns).map iK).map keyT).all isW = true := by rw [keys_int]; exact ints_whole _
  simp only [q1, toKeys_map, hv, f2, e2]
theorem whole_back : ∀ {ts : List T} {ks : List Key}, ts.all isW = true → toKeys ts = some ks → ts = ks.map keyT
  | [], ks, _, h => by cases h; rfl
  | t :: ts, ks, h, hk => by
    rw [List.all_cons, Bool.and_eq_true] at h
    obtain ⟨ks', e⟩ := whole_keys h.2
    cases t with
    | int i =>
      have hk : (match toKey (.int i), toKeys ts with | some k, some ks => some (k :: ks) | _, _ => none) = some ks := hk
      rw [e] at hk
      have hk : some (.inl i :: ks') = some ks := hk
      cases hk
      rw [List.map_cons, ← whole_back h.2 e]
      rfl
    | _ => cases h.1
theorem atP_in {fo : Fo} {t v : T} (h : atP fo t = some v) : ∃ x ∈ gaF [] 0 fo, t = pk x := by
  unfold atP at h
  split at h
  · rename_i ts
    split at h
    · rename_i ks q1 q2
      refine ⟨(ks, v), valT_mem h, ?_⟩
      show T.tup ts = .tup (ks.map keyT)
      rw [whole_back q1 q2]
    · cases h
  · cases h
theorem plt_inj {a b : It3} (h : plt a = plt b) : a.1 = b.1 ∧ tdt a.2.1 = tdt b.2.1 ∧ a.2.2.items.length = b.2.2.items.length := by
  obtain ⟨n, td, i⟩ := a
  obtain ⟨n', td', i'⟩ := b
  have h := T.tup.inj h
  obtain ⟨h1, h⟩ := List.cons.inj h
  obtain ⟨h2, h⟩ := List.cons.inj h
  obtain ⟨h3, _⟩ := List.cons.inj h
  refine ⟨T.str.inj h1, h2, ?_⟩
  have h3 : i.inn = i'.inn := h3
  show i.items.length = i'.items.length
  cases i with
  | nil =>
    cases i' with
    | nil => rfl
    | cons a b c d => cases h3
  | cons a b c d =>
    cases i' with
    | nil => cases h3
    | cons a' b' c' d' =>
      have := congrArg List.length (T.tup.inj h3)
      rw [Fo.ts_len, Fo.ts_len] at this
      exact this
def SrtOk (ws : List Str) : Prop := sortedS (srt ws) = true ∧ (srt ws).Nodup ∧ (∀ k, k ∈ srt ws ↔ k ∈ ws) ∧ (srt ws).length ≤ ws.length
/-- a path is shown -/
theorem sx_path {M : Mh} {fo : Fo} (gf : GoodF fo) {x : List Key × T} (h : x ∈ gaF [] 0 fo) : Sx M 1 8100 (pk x) := by
  obtain ⟨n, ns, c, it, e1, e2, e3, e4, e5, e6, e7⟩ := gaF_way2 h
  have hd := gf.dp
  have hc := gf.ct
  unfold pk
  rw [e1, Nat.zero_add, show ([] : List Key) ++ iK n :: ns.map iK = (n :: ns).map iK from rfl, keys_int]
  refine sx_tup (k := 0) (n := 2000) (fun t ht => ?_) (by rw [List.length_map, List.length_cons]; omega)
  obtain ⟨j, hj, rfl⟩ := List.mem_map.mp ht
  refine sx_nat ?_
  rcases List.mem_cons.mp hj with rfl | hj
  · omega
  · have := e7 j hj
    omega
theorem sws_paths {M : Mh} {fo : Fo} (gf : GoodF fo) : ∃ ds, Sws M ((gaF [] 0 fo).map pk) ds 1 (((gaF [] 0 fo).map pk).length * 8100) := sxs fun t ht => by
  obtain ⟨x, hx, rfl⟩ := List.mem_map.mp ht
  exact sx_path gf hx
theorem sws_words {M : Mh} {ws : List Str} (h : ∀ y ∈ ws, NmOk y) : ∃ ds, Sws M (ws.map T.str) ds 0 ((ws.map T.str).length * 2000) := sxs fun t ht => by
  obtain ⟨x, hx, rfl⟩ := List.mem_map.mp ht
  exact sx_nm (h x hx)
theorem sws_due {M : Mh} {it : It3} {n : Nat} (h1 : NmOk it.1) (h2 : ∀ s, it.2.1 = some s → ShOk s) (h3 : n < 1000000) : ∃ ds, Sws M [.str it.1, tdt it.2.1, .int n] ds 2 (3 * 9000) := sxs (n := 9000) fun t ht => by
  simp only [List.mem_cons, List.not_mem_nil, or_false] at ht
  rcases ht with rfl | rfl | rfl
  · exact (sx_nm h1).mono (Nat.le_refl _) (by decide)
  · exact sx_td h2
  · exact (sx_nat h3).mono (Nat.le_refl _) (by decide)
theorem shw_lst {M : Mh} {a : Addr} {ts : List T} {ds : List PyData} {k n : Nat} (h : Sws M ts ds k n) (e : M a = some (.lst ts)) (hk : k ≤ 40) (hn : n + 2 * ts.length + 3 ≤ 1000000) : Shw M (.ref a) (PyData.list ds).shown := (sw_lst h e).shw (by omega) hn
theorem Wd.good : ∀ {ns : List Nat} {a b : It3}, Wd a ns b → (NmOk a.1 ∧ (∀ s, a.2.1 = some s → ShOk s) ∧ Gd a.2.2) → NmOk b.1 ∧ (∀ s, b.2.1 = some s → ShOk s) ∧ Gd b.2.2
  | [], a, b, h, g => by
    have h : a = b := h
    rw [← h]
    exact g
  | n :: ns, a, b, ⟨c, e, h⟩, g => Wd.good h (g.2.2.at e)
theorem Wd.cnt : ∀ {ns : List Nat} {a b : It3}, Wd a ns b → b.2.2.cnt ≤ a.2.2.cnt
  | [], a, b, h => by
    have h : a = b := h
    rw [← h]
    exact Nat.le_refl _
  | n :: ns, a, b, ⟨c, e, h⟩ => by
    have := Wd.cnt h
    have := (Fo.at_cnt e).1
    omega
theorem Lab.kp {C : Addr} {M M' : Mh} {x p : Addr} {fo : Fo} {ws : List Str} (h : Lab C M x fo ws) (hp : Pt M p) (k : Kp p M M') : Lab C M' x fo ws := by
  obtain ⟨D, a, b⟩ := h
  obtain ⟨i, j, e, _⟩ := hp
  refine ⟨D, k _ _ (fun z => ?_) a, k _ _ (fun z => ?_) b⟩
  · rw [z, e] at a
    cases a
  · rw [z, e] at b
    cases b
end L3
set_option Elab.async false
set_option linter.all false
set_option maxRecDepth 100000
set_option maxHeartbeats 1000000
set_option autoImplicit false
namespace L3
open PySem PySem.Spec PyProof.Rows L2
open AutoSeq1 (wpAny_loadPart')
open MeetsSeq MeetsSeq2 MeetsSeq3
theorem tuple_ne_declines_dict (l b : Addr) (items : Array Value) (es : Array DictEntry) (ep : Nat) (n : Nat) (dd dd2 : Option Addr) (sl sl2 : Array (Option Value)) :
    Meets (Builtin.«tuple.__ne__» ⟨[.ref l, .ref b], []⟩) (fun _ R s => s.heap.get? l = some { cls := .type "tuple", dict := dd, data := .seq items n, slots := sl } ∧ s.heap.get? b = some { cls := .type "dict", dict := dd2, data := .dict es ep, slots := sl2 } ∧ R (.ok (.ret .notImplemented)) s) :=
  .of_wp fun prog w A R s h => by obtain ⟨hp, g, d, tk, os⟩ := s; obtain ⟨hl, hb, h⟩ := h; have f1 := F.sub_dict_tuple; wp_walk using wpAny_loadPart' hl, wpAny_loadPart' hb; exact ⟨_, rfl, h⟩
theorem dict_ne_declines_tuple (l b : Addr) (items : Array Value) (es : Array DictEntry) (ep : Nat) (n : Nat) (dd dd2 : Option Addr) (sl sl2 : Array (Option Value)) :
    Meets (Builtin.«dict.__ne__» ⟨[.ref b, .ref l], []⟩) (fun _ R s => s.heap.get? l = some { cls := .type "tuple", dict := dd, data := .seq items n, slots := sl } ∧ s.heap.get? b = some { cls := .type "dict", dict := dd2, data := .dict es ep, slots := sl2 } ∧ R (.ok (.ret .notImplemented)) s) :=
  .of_wp fun prog w A R s h => by obtain ⟨hp, g, d, tk, os⟩ := s; obtain ⟨hl, hb, h⟩ := h; have f1 := F.sub_tuple_dict; wp_walk using wpAny_loadPart' hl, wpAny_loadPart' hb; exact ⟨_, rfl, h⟩
theorem neAt_dict_tuple {A : Around} {s : Shared} {l b : Addr} {items : Array Value} {o : Obj} {es : Array DictEntry} {ep : Nat} (hb : IsTup s.heap b items) (ho : s.heap.get? l = some o) (hx : o.cls = .type "dict") (hd : o.data = .dict es ep) (hu : A.units < cLine) : SeqAt.RcNeAt A s (.ref l) (.ref b) true := fun prog w E Q h => by
  obtain ⟨⟨cls2, dd2, data2, sl2⟩, ho2, hc2, n2, hd2⟩ := id hb
  obtain ⟨cls, dd, data, sl⟩ := o
  simp only at hx hd hc2 hd2
  subst hx hd hc2 hd2
  have hne : l ≠ b := fun z => by
    rw [z, ho2] at ho
    have := congrArg Obj.cls (Option.some.inj ho)
    simp at this
  exact (SeqAt.rc_ne_decline_or (k := false) ⟨_, ho, rfl⟩ ⟨_, ho2, rfl⟩ (by decide) F.sub_tuple_dict F.slot_dict_ne F.slot_tuple_ne_refl
    (fun _ hq => call_meets F.slot_dict_ne ⟨_, ho, rfl⟩ F.entry_dict_ne (F.args_dict_ne_2 _ _) (dict_ne_declines_tuple b l items es ep n2 dd2 dd sl2 sl) ⟨ho2, ho, hq⟩)
    (fun _ hq => call_meets F.slot_tuple_ne_refl ⟨_, ho2, rfl⟩ F.entry_tuple_ne (F.args_tuple_ne_2 _ _) (tuple_ne_declines_dict b l items es ep n2 dd2 dd sl2 sl) ⟨ho2, ho, hq⟩)
    (fun _ hq => wpAny_isSame_ref_other hne ho ho2 (by simp) hq) (.inr hu) h)
section
variable {X : Cx}
def rNe0 (K : Fg) : R2 := fun x y H Q => ∃ b ys, y = .ref b ∧ SqT K H b ys ∧ ((∃ z, x = .str z) ∨ ∃ a kvs, x = .ref a ∧ H a = some (.dK kvs)) ∧ Q (.bl true) H
theorem op_ne0 (hu : X.A.units < cLine) : OpR X (compareOp .NotEq) (rNe0 X.K) := by
  intro pins s σ H x y v u Q I rx ry h
  obtain ⟨b, ys, rfl, hb, hx, q⟩ := h
  cases ry
  obtain ⟨its, _, hit, _⟩ := I.tuple hb
  rcases hx with ⟨z, rfl⟩ | ⟨a, kvs, rfl, ha⟩
  · obtain ⟨t, rfl⟩ := rx
    exact SeqAt.RcNeAt.str_tuple z t hit hu X.prog X.w _ _ ⟨.bl true, H, I, rfl, q⟩
  · cases rx
    obtain ⟨_, hsm, vs, rel, od, es, ep, ho, hx, hd, he⟩ := I.hok a _ ha
    exact neAt_dict_tuple hit ho hx.1 hd hu X.prog X.w _ _ ⟨.bl true, H, I, rfl, q⟩
def oNe0 : O3 := fun x y M R => y = .tup [] ∧ ((∃ z, x = .str z ∧ R (.bl true) M) ∨ (∃ a, x = .ref a ∧ M a = some (.dK []) ∧ R (.bl true) M) ∨ ∃ d, Dt M x d ∧ SeqAt.shaped d = true ∧ R (.bl (!PyData.eqv d (.tuple []))) M)
theorem c_ne0 {k : Nat} (hr : Room k X.A) : OK3 X (compareOp .NotEq) oNe0 := ⟨_, (op_ne0 (by have := hr.units; omega)).or (op_neD hr.units), fun x y tx ty H M R Q h rx ry rm k => by
  obtain ⟨rfl, h⟩ := h
  rcases h with ⟨z, rfl, h⟩ | ⟨a, rfl, ea, h⟩ | ⟨d, h1, h2, h⟩
  · cases rx
    cases ry with
    | tup e r => exact .inl ⟨_, _, rfl, SqT.of e, .inl ⟨_, rfl⟩, k.at (.bl true) rm h⟩
  · cases rx
    obtain ⟨kvs, e', _⟩ := rm _ _ ea
    cases ry with
    | tup e r => exact .inl ⟨_, _, rfl, SqT.of e, .inr ⟨_, _, rfl, e'⟩, k.at (.bl true) rm h⟩
  · exact .inr ⟨d, .tuple [], h1.dp rm rx, (Dt.tup .nil).dp rm ry, h2, rfl, k.at (.bl _) rm h⟩⟩
end
/-! ### things that may be no paths -/
def Cy (M : Mh) (k n : Nat) (t : T) : Prop := ∃ d, Sw M t d k n ∧ d.canLay0 = true
theorem Cy.sub {M M' : Mh} {k n : Nat} {t : T} (h : Cy M k n t) (s : Sub M M') : Cy M' k n t := let ⟨d, a, b⟩ := h; ⟨d, a.sub s, b⟩
theorem Cy.mono {M : Mh} {t : T} {k n k' n' : Nat} (h : Cy M k n t) (hk : k ≤ k') (hn : n ≤ n') : Cy M k' n' t := let ⟨d, a, b⟩ := h; ⟨d, a.mono hk hn, b⟩
theorem cys {M : Mh} {k n : Nat} : ∀ {ts : List T}, (∀ t ∈ ts, Cy M k n t) → ∃ ds, Sws M ts ds k (ts.length * n) ∧ PyData.canLayAll0 ds = true
  | [], _ => ⟨[], ⟨.nil, rfl, rfl, Nat.zero_le _, Nat.zero_le _, rfl⟩, rfl⟩
  | t :: ts, h => by
    obtain ⟨d, hd, hc⟩ := h t (.head _)
    obtain ⟨ds, hds, hcs⟩ := cys (ts := ts) fun x hx => h x (.tail _ hx)
    refine ⟨d :: ds, ?_, ?_⟩
    · have := sws_cons hd hds
      rw [List.length_cons, Nat.succ_mul, Nat.add_comm]
      exact this
    · show (d.canLay0 && PyData.canLayAll0 ds) = true
      rw [hc, hcs]
      rfl
theorem cy_tup {M : Mh} {k n m : Nat} {ts : List T} (h : ∀ t ∈ ts, Cy M k n t) (hm : ts.length * n + 2 * ts.length + 3 ≤ m) : Cy M (k + 1) m (.tup ts) := let ⟨ds, q, c⟩ := cys h; ⟨_, (sw_tup q).mono (Nat.le_refl _) hm, c⟩
theorem cy_lst {M : Mh} {k n m : Nat} {a : Addr} {ts : List T} (h : ∀ t ∈ ts, Cy M k n t) (e : M a = some (.lst ts)) (hm : ts.length * n + 2 * ts.length + 3 ≤ m) : Cy M (k + 1) m (.ref a) := let ⟨ds, q, c⟩ := cys h; ⟨_, (sw_lst q e).mono (Nat.le_refl _) hm, c⟩
/-- a leaf, or a little more -/
structure Lf (M : Mh) (t : T) : Prop where
  cy : Cy M 3 9000 t
  kt : KT M t
theorem Lf.sub {M M' : Mh} {t : T} (h : Lf M t) (s : Sub M M') : Lf M' t := ⟨h.cy.sub s, h.kt.sub s⟩
theorem cy_int {M : Mh} {k : Nat} {i : Int} (h : i.natAbs < 2 ^ 100) : Cy M k 2000 (.int i) := ⟨_, sw_int (Nat.lt_of_lt_of_le (PySem.Flt.log2_lt_of (by decide) h) (by decide)), rfl⟩
theorem lf_int {M : Mh} {i : Int} (h : i.natAbs < 2 ^ 100) : Lf M (.int i) := ⟨(cy_int h).mono (Nat.le_refl _) (by decide), .int i⟩
theorem lf_nat {M : Mh} {n : Nat} (h : n < 1000) : Lf M (.int n) := lf_int (by rw [Int.natAbs_natCast]; exact Nat.lt_of_lt_of_le h (by decide))
theorem lf_bl {M : Mh} (b : Bool) : Lf M (.bl b) := ⟨⟨_, (sw_bl b).mono (Nat.le_refl _) (by decide), rfl⟩, .bl b⟩
theorem lf_non {M : Mh} : Lf M .non := ⟨⟨_, sw_non.mono (Nat.le_refl _) (by decide), rfl⟩, .non⟩
theorem lf_0 {M : Mh} : Lf M (.str "0") := ⟨⟨_, (sw_str (by decide +kernel)).mono (Nat.le_refl _) (by decide), by decide +kernel⟩, .str _⟩
theorem lf_ints {M : Mh} {ns : List Nat} (h : ∀ j ∈ ns, j < 1000) (hl : ns.length ≤ 4) : Lf M (.tup (ns.map fun k : Nat => T.int k)) := ⟨(cy_tup (k := 2) (n := 2000) (fun t ht => by
  obtain ⟨j, hj, rfl⟩ := List.mem_map.mp ht
  exact cy_int (by rw [Int.natAbs_natCast]; exact Nat.lt_of_lt_of_le (h j hj) (by decide))) (by rw [List.length_map]; omega)), .tup fun t ht => by
  obtain ⟨j, hj, rfl⟩ := List.mem_map.mp ht
  exact .int _⟩
theorem lf_lint {M : Mh} {a : Addr} {i : Int} (h : i.natAbs < 2 ^ 100) (e : M a = some (.lst [.int i])) : Lf M (.ref a) := ⟨cy_lst (k := 2) (n := 2000) (fun t ht => by
  rw [List.mem_singleton.mp ht]
  exact cy_int h) e (by show 1 * 2000 + 2 * 1 + 3 ≤ 9000; decide), .lst e⟩
theorem lf_tint {M : Mh} {i : Int} (h : i.natAbs < 2 ^ 100) : Lf M (.tup [.int i]) := ⟨cy_tup (k := 2) (n := 2000) (fun t ht => by
  rw [List.mem_singleton.mp ht]
  exact cy_int h) (by show 1 * 2000 + 2 * 1 + 3 ≤ 9000; decide), .tup fun t ht => by
  rw [List.mem_singleton.mp ht]
  exact .int i⟩
structure Tg (M : Mh) (t : T) : Prop where
  kt : KT M t
  ln : ∀ xs, t = .tup xs → xs.length ≤ sizeLine
  sw : Cy M 5 100000 t ∨ (∃ a, t = .ref a ∧ M a = some (.dK [])) ∨ ∃ z, t = .str z ∧ (reprText z).length ≤ 100000
theorem Tg.sub {M M' : Mh} {t : T} (h : Tg M t) (s : Sub M M') : Tg M' t := ⟨h.kt.sub s, h.ln, by
  rcases h.sw with h | ⟨a, e, h⟩ | h
  · exact .inl (h.sub s)
  · exact .inr (.inl ⟨a, e, s _ _ h⟩)
  · exact .inr (.inr h)⟩
theorem Lf.tg {M : Mh} {t : T} (h : Lf M t) (hl : ∀ xs, t = .tup xs → xs.length ≤ sizeLine) : Tg M t := ⟨h.kt, hl, .inl (h.cy.mono (by decide) (by decide))⟩
theorem tg_tup {M : Mh} {ts : List T} (h : ∀ t ∈ ts, Lf M t) (hl : ts.length ≤ 10) : Tg M (.tup ts) := ⟨.tup fun t ht => (h t ht).kt, (fun xs e => by cases e; exact Nat.le_trans hl (by decide)), .inl ((cy_tup (fun t ht => (h t ht).cy) (by omega)).mono (by decide) (Nat.le_refl _))⟩
theorem tg_lst {M : Mh} {a : Addr} {ts : List T} (h : ∀ t ∈ ts, Lf M t) (hl : ts.length ≤ 10) (e : M a = some (.lst ts)) : Tg M (.ref a) := ⟨.lst e, (fun xs e => by cases e), .inl ((cy_lst (fun t ht => (h t ht).cy) e (by omega)).mono (by decide) (Nat.le_refl _))⟩
theorem Tg.shw {M : Mh} {t : T} (h : Tg M t) : ∃ z, Shw M t z := by
  rcases h.sw with ⟨d, h1, _⟩ | ⟨a, rfl, e⟩ | ⟨z, rfl, h1⟩
  · exact ⟨_, h1.shw (by decide) (by decide)⟩
  · exact ⟨_, ⟨.inr ⟨a, rfl, e, rfl⟩⟩⟩
  · exact ⟨_, ⟨.inl ⟨.str z, .str z, rfl, rfl, Nat.zero_le _, Nat.le_trans (show (reprText z).length ≤ 100000 from h1) (by decide), rfl⟩⟩⟩
/-- all but one place -/
def off (p : Addr) (M : Mh) : Mh := fun a => if a = p then none else M a
theorem off_ne {p a : Addr} {M : Mh} (h : a ≠ p) : off p M a = M a := if_neg h
theorem off_sub {p : Addr} {M : Mh} : Sub (off p M) M := fun a o e => by
  unfold off at e
  split at e
  · cases e
  · exact e
theorem off_kp {p : Addr} {M M' : Mh} (k : Kp p M M') : Sub (off p M) (off p M') := fun a o e => by
  unfold off at e ⊢
  split at e
  · cases e
  · rename_i h
    rw [if_neg h]
    exact k a o h e
theorem dts_ints {M : Mh} : ∀ {ns : List Nat} {ds : List PyData}, Dts M (ns.map fun k : Nat => T.int k) ds → ds = ns.map fun k : Nat => PyData.int k
  | [], ds, h => by cases h; rfl
  | n :: ns, ds, h => by
    cases h with
    | cons a b =>
      cases a
      rw [dts_ints b]
      rfl
theorem shw_ints {M : Mh} {ns : List Nat} {z : Str} (h : Shw M (.tup (ns.map fun k : Nat => T.int k)) z) : z = (PyData.tuple (ns.map fun k : Nat => PyData.int k)).shown := by
  obtain ⟨h⟩ := h
  rcases h with ⟨d, h, _, _, _, _, rfl⟩ | ⟨a, e, _⟩
  · cases h with
    | tup q => rw [dts_ints q]
  · cases e
theorem pk_ints {fo : Fo} {y : List Key × T} (h : y ∈ gaF [] 0 fo) (gf : GoodF fo) : ∃ n ns, pk y = .tup ((n :: ns).map fun k : Nat => T.int k) ∧ ns.length + 1 ≤ 4 ∧ ∀ j ∈ n :: ns, j < 12 := by
  obtain ⟨n, ns, c, it, e1, e2, e3, e4, e5, e6, e7⟩ := gaF_way2 h
  have hd := gf.dp
  have hc := gf.ct
  refine ⟨n, ns, ?_, by omega, fun j hj => ?_⟩
  · unfold pk
    rw [e1, Nat.zero_add, show ([] : List Key) ++ iK n :: ns.map iK = (n :: ns).map iK from rfl, keys_int]
  · rcases List.mem_cons.mp hj with rfl | hj
    · omega
    · have := e7 j hj
      omega
end L3
set_option Elab.async false
set_option linter.all false
set_option maxRecDepth 100000
set_option maxHeartbeats 1000000
set_option autoImplicit false
namespace L3
open PySem PySem.Spec PyProof.Rows L2
section
variable {X : Cx} {H0 : Hp} {a b c e o tg : Expr} {es rest : List Expr} {pos apos cpos p p2 p3 : Pos} {ma mb mc m mo : E3} {mA mB : B3} {mAs : A3}
end
theorem lf_app {M : Mh} {xs : List T} {x : T} (h : ∀ t ∈ xs, Lf M t) (hx : Lf M x) : ∀ t ∈ xs ++ [x], Lf M t := fun t ht => by
  rcases List.mem_append.mp ht with ht | ht
  · exact h t ht
  · rw [List.mem_singleton.mp ht]
    exact hx
theorem lf_one {M : Mh} {x : T} (hx : Lf M x) : ∀ t ∈ [x], Lf M t := fun t ht => by
  rw [List.mem_singleton.mp ht]
  exact hx
theorem lf_map {M : Mh} {ns : List Nat} (h : ∀ j ∈ ns, j < 12) : ∀ t ∈ ns.map (fun k : Nat => T.int k), Lf M t := fun t ht => by
  obtain ⟨j, hj, rfl⟩ := List.mem_map.mp ht
  have := h j hj
  exact lf_nat (by omega)
theorem tg_e {M : Mh} : Tg M (.str "") := ⟨.str _, (fun _ e => by cases e), .inr (.inr ⟨_, rfl, by decide +kernel⟩)⟩
theorem tg_d {M : Mh} {a : Addr} (e : M a = some (.dK [])) : Tg M (.ref a) := ⟨.dK e, (fun _ e => by cases e), .inr (.inl ⟨a, rfl, e⟩)⟩
theorem tg_l {M : Mh} {t : T} (h : Lf M t) (n : ∀ xs, t ≠ .tup xs) : Tg M t := h.tg fun xs e => absurd e (n xs)
theorem sm_str (z : String) : ∀ c ∈ (Str.ofString z).cps.toList, c < 16 ^ 8 := fun c hc => by
  rw [Str.ofString_eq_toList] at hc
  have hc : c ∈ (z.toList.map Char.toNat) := hc
  obtain ⟨y, _, rfl⟩ := List.mem_map.mp hc
  have := y.valid
  have h2 : y.toNat < 1114112 := by
    rcases this with h | h
    · exact Nat.lt_trans h (by decide)
    · exact h.2
  exact Nat.lt_trans h2 (by decide)
theorem sm_ints (ns : List Nat) : ∀ c ∈ (PyData.tuple (ns.map fun k : Nat => PyData.int k)).shown.cps.toList, c < 16 ^ 8 := fun c hc => by
  have e : (PyData.tuple (ns.map fun k : Nat => PyData.int k)).shown = tupleText (PyData.shownAll (ns.map fun k : Nat => PyData.int k)) := by simp only [PyData.shown]
  rw [e] at hc
  unfold tupleText at hc
  rcases mem_cps_append.mp hc with hc | hc
  · rcases mem_cps_append.mp hc with hc | hc
    · exact sm_str _ c hc
    · rcases (mem_join _ c _).mp hc with ⟨t, ht, hc⟩ | ⟨_, hc⟩
      · have e2 : (ns.map fun k : Nat => PyData.int k) = (ns.map fun k : Nat => (k : Int)).map PyData.int := by rw [List.map_map]; rfl
        rw [e2, PyData.shownAll_ints] at ht
        obtain ⟨i, _, rfl⟩ := List.mem_map.mp ht
        exact sm_str _ c hc
      · exact sm_str _ c hc
  · exact sm_str _ c hc
theorem tg_txt {M : Mh} {ns : List Nat} (h : ∀ j ∈ ns, j < 12) (hl : ns.length ≤ 4) : ∃ z, Shw M (.tup (ns.map fun k : Nat => T.int k)) z ∧ Tg M (.str z) := by
  obtain ⟨⟨d, hd, _⟩, _⟩ := lf_ints (M := M) (fun j hj => Nat.lt_trans (h j hj) (by decide)) hl
  have hs := hd.shw (by decide) (by decide)
  refine ⟨_, hs, .str _, (fun _ e => by cases e), .inr (.inr ⟨_, rfl, ?_⟩)⟩
  have e := shw_ints hs
  have := StrLaws.reprText_len d.shown (fun c hc => by rw [e] at hc; exact sm_ints ns c hc)
  have := hd.len
  omega
/-- what is not shown as a path is none -/
theorem no_path {M : Mh} {fo : Fo} {t : T} {z : Str} {zs : List Str} (h : Shw M t z) (hz : ∀ y ∈ gaF [] 0 fo, ∃ w ∈ zs, Shw M (pk y) w) (gf : GoodF fo) (hn : z ∉ zs) : atP fo t = none := by
  cases e : atP fo t with
  | none => rfl
  | some v =>
    obtain ⟨y, hy, rfl⟩ := atP_in e
    obtain ⟨w, hw, hs⟩ := hz y hy
    obtain ⟨n, ns, e1, _⟩ := pk_ints hy gf
    rw [e1] at h hs
    rw [shw_ints h, ← shw_ints hs] at hn
    exact absurd hw hn
theorem shw_pk {M : Mh} {fo : Fo} (gf : GoodF fo) {y : List Key × T} (h : y ∈ gaF [] 0 fo) : ∃ z, Shw M (pk y) z := by
  obtain ⟨d, hd⟩ := sx_path (M := M) gf h
  exact ⟨_, hd.shw (by decide) (by decide)⟩
end L3
set_option Elab.async false
set_option linter.all false
set_option maxRecDepth 100000
set_option maxHeartbeats 1000000
namespace L3
open PySem PySem.Spec PyProof.Rows L2 TL
def Tn (n : Nat) : Str := Str.ofString (toString ((n : Nat) : Int))
theorem tl_Tn (n : Nat) : tl (Tn n) = numL n := tl_num n
theorem numL_20 {n : Nat} (h : n < bigN) : (numL n).length ≤ 20 := numL_len (by decide) (Nat.lt_of_lt_of_le h (by decide))
theorem Tn_len {n : Nat} (h : n < bigN) : (Tn n).length ≤ 20 := by
  rw [len_tl, tl_Tn]
  exact numL_20 h
theorem log_20 {n : Nat} (h : n < bigN) : ((n : Nat) : Int).natAbs.log2 < 1920 := by
  refine PySem.Flt.log2_lt_of (by decide) ?_
  rw [Int.natAbs_natCast]
  exact Nat.lt_of_lt_of_le h (Nat.le_trans (show bigN ≤ 2 ^ 100 by decide) (Nat.pow_le_pow_right (by decide) (by decide)))
theorem join_one (y x : Str) : Txt.join y [x] = x := by
  rw [join_eq]
  rfl
def sg (i : Int) : Str := if i < 0 then "-" else ""
def bw (j : Int) : Str := if j = 1 then "" else "/" ++ Tn j.natAbs
def fT (i j : Int) : Str := (sg i ++ Tn i.natAbs) ++ bw j
theorem sg_len (i : Int) : (sg i).length ≤ 1 := by
  unfold sg
  split <;> decide +kernel
theorem app_len (x y : Str) : (x ++ y).length = x.length + y.length := by
  rw [len_tl, len_tl, len_tl, tl_append, List.length_append]
theorem bw_len {j : Int} (h : j.natAbs < bigN) : (bw j).length ≤ 21 := by
  unfold bw
  split
  · decide +kernel
  · rw [app_len]
    have h1 := Tn_len h
    have h2 : (Str.ofString "/").length = 1 := by decide +kernel
    omega
theorem line_ok {n : Nat} (h : n ≤ 100) : n ≤ sizeLine := Nat.le_trans h (by decide)
theorem app_assoc (x y z : Str) : (x ++ y) ++ z = x ++ (y ++ z) := tl_inj (by show tl _ = tl _; rw [tl_append, tl_append, tl_append, tl_append, List.append_assoc])
theorem app_nil (x : Str) : x ++ (Str.ofString "") = x := tl_inj (by
  show tl _ = tl _
  rw [tl_append]
  have e : tl (Str.ofString "") = [] := by decide +kernel
  rw [e, List.append_nil])
theorem joinL_le (s : List Nat) : ∀ ps : List (List Nat), (joinL s ps).length ≤ (ps.map List.length).sum + ps.length * s.length
  | [] => Nat.zero_le _
  | [p] => by simp [joinL]
  | p :: q :: r => by
    have ih := joinL_le s (q :: r)
    show (p ++ (s ++ joinL s (q :: r))).length ≤ _
    rw [List.length_append, List.length_append, List.map_cons, List.sum_cons, List.length_cons, Nat.succ_mul]
    omega
theorem join_le (s : Str) (ys : List Str) : (Txt.join s ys).length ≤ (ys.map (·.length)).sum + ys.length * s.length := by
  rw [join_eq, len_tl, tl_join, len_tl]
  have h := joinL_le (tl s) (ys.map tl)
  rw [List.map_map, List.length_map] at h
  have e : (ys.map (List.length ∘ tl)) = ys.map (·.length) := List.map_congr_left fun y _ => (len_tl y).symm
  rw [e] at h
  exact h
def stT (s : Sh) : Str := if s.a = s.c ∧ s.b = s.d then fT s.a s.b else (fT s.a s.b ++ Str.ofString " to ") ++ fT s.c s.d
def tdT : Option Sh → Str
  | none => Str.ofString ""
  | some s => Str.ofString " " ++ stT s
def itT : Fo → List Str
  | .nil => []
  | .cons nm td i r => ((nm ++ tdT td) ++ (if i.isNil = true then (Str.ofString "") else (Str.ofString " (" ++ Txt.join ", " (itT i)) ++ Str.ofString ")")) :: itT r
def liT (f : Fo) : Str := Txt.join ", " (itT f)
def inT (i : Fo) : Str := if i.isNil = true then (Str.ofString "") else (Str.ofString " (" ++ liT i) ++ Str.ofString ")"
def plT (t : It3) : Str := (t.1 ++ tdT t.2.1) ++ inT t.2.2
theorem itT_items : ∀ f : Fo, itT f = f.items.map plT
  | .nil => rfl
  | .cons nm td i r => by
    show plT (nm, td, i) :: itT r = plT (nm, td, i) :: r.items.map plT
    rw [itT_items r]
theorem fT_len {i j : Int} (h1 : i.natAbs < bigN) (h2 : j.natAbs < bigN) : (fT i j).length ≤ 42 := by
  have a := sg_len i
  have b := Tn_len h1
  have c := bw_len h2
  unfold fT
  rw [app_len, app_len]
  omega
theorem to_len : (Str.ofString " to ").length = 4 := by decide +kernel
theorem stT_len {s : Sh} (h : ShOk s) : (stT s).length ≤ 88 := by
  have a := fT_len h.2.2.1 h.2.2.2.1
  have b := fT_len h.2.2.2.2.1 h.2.2.2.2.2
  unfold stT
  split
  · omega
  · rw [app_len, app_len, to_len]
    omega
theorem tdT_len {td : Option Sh} (h : ∀ s, td = some s → ShOk s) : (tdT td).length ≤ 89 := by
  cases td with
  | none => decide +kernel
  | some s =>
    have a := stT_len (h s rfl)
    have e : (Str.ofString " ").length = 1 := by decide +kernel
    show ((Str.ofString " ") ++ stT s).length ≤ _
    rw [app_len, e]
    omega
theorem comma_len : (Str.ofString ", ").length = 2 := by decide +kernel
theorem itT_sum : ∀ {f : Fo}, Gd f → ((itT f).map (·.length)).sum + (itT f).length * 2 ≤ 110 * f.cnt
  | .nil, _ => Nat.zero_le _
  | .cons nm td i r, g => by
    have h1 := itT_sum g.2.2.1
    have h2 := itT_sum g.2.2.2
    have h3 := tdT_len g.2.1
    have h4 := (NmOk.len g.1).2
    have e1 : (Str.ofString " (").length = 2 := by decide +kernel
    have e2 : (Str.ofString ")").length = 1 := by decide +kernel
    have hj := join_le ", " (itT i)
    rw [comma_len] at hj
    have hi : (if i.isNil = true then (Str.ofString "") else ((Str.ofString " (") ++ Txt.join ", " (itT i)) ++ (Str.ofString ")")).length ≤ 3 + 110 * i.cnt := by
      split
      · have : (Str.ofString "").length = 0 := by decide +kernel
        omega
      · rw [app_len, app_len, e1, e2]
        omega
    show (((((nm ++ tdT td) ++ (if i.isNil = true then (Str.ofString "") else ((Str.ofString " (") ++ Txt.join ", " (itT i)) ++ (Str.ofString ")"))).length) :: (itT r).map (·.length)).sum) + ((itT r).length + 1) * 2 ≤ 110 * (1 + i.cnt + r.cnt)
    rw [List.sum_cons, app_len, app_len]
    omega
theorem liT_len {f : Fo} (g : Gd f) : (liT f).length ≤ 110 * f.cnt := by
  have h := itT_sum g
  have hj := join_le ", " (itT f)
  rw [comma_len] at hj
  unfold liT
  omega
theorem plT_len {t : It3} (h1 : NmOk t.1) (h2 : ∀ s, t.2.1 = some s → ShOk s) (h3 : Gd t.2.2) : (plT t).length ≤ 100 + 110 * t.2.2.cnt ∧ (t.1 ++ tdT t.2.1).length ≤ 97 ∧ (inT t.2.2).length ≤ 3 + 110 * t.2.2.cnt ∧ ((Str.ofString " (") ++ liT t.2.2).length ≤ 2 + 110 * t.2.2.cnt := by
  have a := (NmOk.len h1).2
  have b := tdT_len h2
  have c := liT_len h3
  have e1 : (Str.ofString " (").length = 2 := by decide +kernel
  have e2 : (Str.ofString ")").length = 1 := by decide +kernel
  have hi : (inT t.2.2).length ≤ 3 + 110 * t.2.2.cnt := by
    unfold inT
    split
    · have : (Str.ofString "").length = 0 := by decide +kernel
      omega
    · rw [app_len, app_len, e1, e2]
      omega
  unfold plT
  rw [app_len, app_len, app_len, e1]
  omega
def roT (f : Fo) (ws : List Str) : Str := if ws.length = 0 then liT f else (liT f ++ Str.ofString "; may hold ") ++ Txt.join ", " ws
/-- words as they may be -/
def WsOk (ws : List Str) : Prop := (∀ y ∈ ws, y.length ≤ 8) ∧ ws.length ≤ 1000
theorem ws_join {ws : List Str} (h : WsOk ws) : (Txt.join ", " ws).length ≤ 10000 := by
  have h1 := join_le ", " ws
  have h2 := ws_sum h.1
  have h3 := h.2
  rw [comma_len] at h1
  omega
theorem hold_len : (Str.ofString "; may hold ").length = 11 := by decide +kernel
theorem roT_len {f : Fo} {ws : List Str} (g : Gd f) (h : WsOk ws) : (roT f ws).length ≤ 110 * f.cnt + 10011 := by
  have h1 := liT_len g
  have h2 := ws_join h
  unfold roT
  split
  · omega
  · rw [app_len, app_len, hold_len]
    omega
theorem may_len : (Str.ofString "may hold ").length = 9 := by decide +kernel

section
variable {X : Cx} {H0 : Hp} {a b c e o tg : Expr} {es : List Expr} {pos apos cpos p p2 : Pos} {ma mb mc m mo : E3} {mA mB : B3} {mAs : A3}
/-! ### a comprehension over what is made of a list -/
theorem lc_mapA {α : Type} {ys : List α} {g f : α → T} {Gd : Mh → Prop} {τ : Ts} {vs : List Nat} {i : Nat} {me : E3} {M : Mh} {R : K3} {p : Addr} (np : M p = none) (hG : ∀ acc, Gd (up M p (.lst acc))) (hl : ys.length ≤ sizeLine)
    (he : ∀ y ∈ ys, ∀ acc (K : K3), K (f y) (up M p (.lst acc)) → me ((wip τ vs).set i (some (g y))) (up M p (.lst acc)) K) (q : R (.ref p) (up M p (.lst (ys.map f)))) : lcBody (ys.map g) Gd (gNm i) bYes me vs τ M p R := by
  refine ⟨fun n M' => n ≤ ys.length ∧ M' = up M p (.lst ((ys.take n).map f)), ⟨Nat.zero_le _, rfl⟩, fun n M' h => h.2 ▸ hG _, fun n x M' hx h => ?_, fun M' h => ?_⟩
  · obtain ⟨hn, rfl⟩ := h
    rw [List.getElem?_map] at hx
    cases hy : ys[n]? with
    | none => rw [hy] at hx; cases hx
    | some y =>
      rw [hy] at hx
      cases hx
      have hlt := (List.getElem?_eq_some_iff.mp hy).1
      refine he y (List.mem_of_getElem? hy) _ _ ?_
      rw [up_same]
      refine ⟨?_, hlt, ?_⟩
      · rw [List.length_map, List.length_take]
        omega
      · rw [up_up, List.take_add_one, hy, List.map_append]
        rfl
  · obtain ⟨_, rfl⟩ := h
    rw [List.length_map, List.take_of_length_le (Nat.le_refl _)]
    exact q
/-! ### xs[::-1] -/
def eRevL (m : E3) : E3 := fun τ M R => m τ M fun x M1 => match x with
  | .ref a => (match M1 a with
    | some (.lst xs) => ∀ p, M1 p = none → R (.ref p) (up M1 p (.lst xs.reverse))
    | _ => False)
  | _ => False
theorem le_revL {k : Nat} {p1 p2 p3 : Pos} (he : LE X H0 e m) : LE X H0 (.Subscript e (.Slice none none (some (.UnaryOp .USub (.Constant (.int 1) k p1) p2)) p3) pos) (eRevL m) := by
  obtain ⟨_, pe, se⟩ := he.ex
  refine ⟨_, pe_revL pe, fun τ M R σ H Q h t rs rm k => se τ M _ σ H _ h t rs rm fun x H1 tx M1 t1 rx rm1 h1 => ?_⟩
  cases tx with
  | ref a =>
    cases rx
    dsimp only at h1
    split at h1
    · rename_i xs q
      obtain ⟨us, e1, r⟩ := rm1 _ _ q
      refine ⟨a, us, rfl, SqL.of e1, fun p np => ?_⟩
      have tn := Tups.new (o := .lst us.reverse) np
      exact k _ _ _ _ (t1.trans tn) (.ref p) (rm1.new (mo := .lst xs.reverse) np ⟨_, upd_same, (r.mv tn).rev⟩) (h1 p (rm1.free np))
    · exact h1.elim
  | _ => exact h1.elim
/-! ### a text of the module -/
theorem le_gstrE {x y : Str} (hg : Gl X x) (hm : ∃ tk, X.mg x = some (.str y tk)) (hd : (x == ("__debug__" : Str)) = false := by decide) : LE X H0 (.Name x pos) (eC (.str y)) := by
  obtain ⟨tk, hm⟩ := hm
  exact ⟨_, pe_glob (v := .str y) hg hm ⟨tk, rfl⟩ hd, se_c fun _ => .str y⟩
/-! ### f-texts of a text, a value and a text -/
def eF3 (a b : Str) (m : E3) : E3 := fun τ M R => m τ M fun x M1 => match x with
  | .str z => a.length + z.length + b.length ≤ 1000000 ∧ R (.str ((a ++ z) ++ b)) M1
  | _ => False
theorem empty_app (x : Str) : Str.empty ++ x = x := tl_inj (by
  show tl _ = tl _
  rw [tl_append]
  have e : tl Str.empty = [] := by decide +kernel
  rw [e, List.nil_append])
theorem le_f3 {x y : Str} {ja jb p1 p2 p3} (he : LE X H0 e m) (hx : x.length ≤ 1000 := by decide +kernel) : LE X H0 (.JoinedStr [.Constant (.str x) ja p1, .FormattedValue e (-1) none p2, .Constant (.str y) jb p3] pos) (eF3 x y m) := by
  obtain ⟨_, pe, se⟩ := he.ex
  refine ⟨_, pe_joined (.cons pe_str (.cons (pe_fmt pe) (.cons pe_str .nil))), fun τ M R σ H Q h t rs rm k => ?_⟩
  refine ⟨x, rfl, ?_, se τ M _ σ H _ h t rs rm fun v H1 tv M1 t1 rv rm1 h1 => ?_⟩
  · rw [empty_app]
    exact lineM (by omega)
  · cases tv with
    | str z =>
      cases rv
      obtain ⟨hl, h1⟩ := h1
      refine .inl ⟨z, rfl, lineM (by omega), z, rfl, ?_, y, rfl, ?_, ?_⟩
      · rw [empty_app, app_len]
        exact lineM (by omega)
      · rw [empty_app, app_len, app_len]
        exact lineM (by omega)
      · rw [empty_app]
        exact k _ _ _ _ t1 (.str _) rm1 h1
    | _ => exact h1.elim
end
end L3
set_option Elab.async false
set_option linter.all false
set_option maxRecDepth 100000
set_option maxHeartbeats 2000000
/-! o == y, o != y of an own instance with its class's own __eq__, whatever y is -/
namespace G
open PySem PySem.Spec PyProof.Rows L2
section
variable {X : Cx} {C f : Addr} {k : Nat} {fd : FuncData} {ps : List Str} {sp : Sp} {CX : CXT}
theorem ty_look {pins : List (Addr × Obj)} {σ : L2.St} {H : Hp} {s : Shared} {x : V} {u t : Value} (I : L2.Inv X pins σ H s) (rx : RelV x u) (ty : TyX X.K H x t) : PySem.W.Looks (model X.prog X.w) s.heap (typeOf u) t := by
  obtain ⟨P, k, p, _⟩ := kit_of I rx ty
  exact k.ty _ _ I.kIn p
theorem own_run2 {p q : Str} {A : Around} (hx : ∀ o H s e s', ¬ CX o H s (fun _ _ _ => False) e s') (F : FnOk X.prog X.w X.K X.mg X.base CX k f fd [p, q] sp) (hr : Room k A) (fr : A.frames = X.A.frames) (hb : Binds X.K fd [p, q] []) {pins : List (Addr × Obj)} {σ : L2.St} {H : Hp} {s : Shared} {a : Addr} {y : V} {u : Value} {Q : VK} {T : Value → Shared → Prop} (I : L2.Inv X pins σ H s) (ry : RelV y u)
    (h : sp [.ref a, y] H Q E0) (fin : ∀ u s', EP X pins σ Q u s' → T u s') : wpAny (model X.prog X.w) A (call (.ref f) [.ref a, u]) T X.xe s := by
  have e0 : Env0 X.prog X.w X.K X.mg X.base A X.stack s H := { I.env0 with frames := fr.trans I.env0.frames }
  refine wpAny_call (codeAny_mono (F.run A X.stack s H ⟨[.ref a, u], []⟩ [.ref a, u] [.ref a, y] Q E0 hr e0 (hb s [.ref a, u] I.kIn rfl) (.cons rfl (.cons ry .nil)) h) fun r s' hq => ?_)
  cases r with
  | error e => exact (hx _ _ _ _ _ hq).elim
  | ok fl =>
    cases fl with
    | ret u => exact fin u s' (I.after hq)
    | _ => exact hq.elim
theorem own_run1 {p : Str} {A : Around} (hx : ∀ o H s e s', ¬ CX o H s (fun _ _ _ => False) e s') (F : FnOk X.prog X.w X.K X.mg X.base CX k f fd [p] sp) (hr : Room k A) (fr : A.frames = X.A.frames) (hb : Binds X.K fd [p] []) {pins : List (Addr × Obj)} {σ : L2.St} {H : Hp} {s : Shared} {a : Addr} {Q : VK} {T : Value → Shared → Prop} (I : L2.Inv X pins σ H s)
    (h : sp [.ref a] H Q E0) (fin : ∀ u s', EP X pins σ Q u s' → T u s') : wpAny (model X.prog X.w) A (call (.ref f) [.ref a]) T X.xe s := by
  have e0 : Env0 X.prog X.w X.K X.mg X.base A X.stack s H := { I.env0 with frames := fr.trans I.env0.frames }
  refine wpAny_call (codeAny_mono (F.run A X.stack s H ⟨[.ref a], []⟩ [.ref a] [.ref a] Q E0 hr e0 (hb s [.ref a] I.kIn rfl) (.cons rfl .nil) h) fun r s' hq => ?_)
  cases r with
  | error e => exact (hx _ _ _ _ _ hq).elim
  | ok fl =>
    cases fl with
    | ret u => exact fin u s' (I.after hq)
    | _ => exact hq.elim
theorem cr_strOwnX {p : Str} (hs : PySem.W.findIn X.K (.ref C) "__str__" = some (some (.ref f))) (hf : PySem.W.isFn X.K (.ref f) = true) (F : FnOk X.prog X.w X.K X.mg X.base CX k f fd [p] sp) (hx : ∀ o H s e s', ¬ CX o H s (fun _ _ _ => False) e s') (hb : Binds X.K fd [p] []) (hr : Room (k + 2) X.A) : CallR X (.type "str") (rOwn C sp isT) := by
  intro pins s σ H xs us Q I r h
  obtain ⟨a, dx, fs, rfl, ha, q⟩ := h
  obtain ⟨u, rfl, ru⟩ := vals1 r
  cases ru
  obtain ⟨od, ia⟩ := inst_at I ha
  have hr2 : Room k X.A.in1.in1 := hr.in1.in1
  refine PySem.W.kso_call (by have := hr2.un; omega) I.kIn ia hs hf (own_run1 hx F hr2 rfl hb I q fun u s' he => ?_)
  obtain ⟨v, H2, J, rv, y, rfl, q2⟩ := he
  obtain ⟨t, rfl⟩ := rv
  exact ⟨.str y, H2, J, ⟨t, rfl⟩, q2⟩
theorem cr_reprOwnX {p : Str} (hs : PySem.W.findIn X.K (.ref C) "__repr__" = some (some (.ref f))) (hf : PySem.W.isFn X.K (.ref f) = true) (F : FnOk X.prog X.w X.K X.mg X.base CX k f fd [p] sp) (hx : ∀ o H s e s', ¬ CX o H s (fun _ _ _ => False) e s') (hb : Binds X.K fd [p] []) (hr : Room (k + 1) X.A) : CallR X (.builtin "repr") (rOwn C sp isT) := by
  intro pins s σ H xs us Q I r h
  obtain ⟨a, dx, fs, rfl, ha, q⟩ := h
  obtain ⟨u, rfl, ru⟩ := vals1 r
  cases ru
  obtain ⟨od, ia⟩ := inst_at I ha
  have hr2 : Room k X.A.in1 := hr.in1
  refine Calls.call_function_entry PySem.F.kind_repr PySem.F.plain_repr PySem.F.entry_repr (PySem.F.args_repr1 _) ?_
  unfold Builtin.«repr»
  refine wpAny_bind (m := oneArg "repr" _) (wpAny_pure (wpAny_bind (m := cRoomFor _ _) (wpAny_cRoomFor (by have := hr2.un; omega) ?_)))
  refine wpAny_bind (m := specialOf _ _) (wpAny_bind (ia.type.here ((PySem.W.looks_findIn I.kIn hs).here ?_)))
  refine wpAny_bind (m := callSpecialIfBound? (.ref a) (Str.ofString "__repr__") _) (PySem.W.ifBound_K I.kIn ia hs hf (own_run1 hx F hr2 rfl hb I q fun u s' he => ?_))
  obtain ⟨v, H2, J, rv, y, rfl, q2⟩ := he
  obtain ⟨t, rfl⟩ := rv
  refine wpAny_bind (wpAny_isInstance (T := "str") (b := true) rfl isSubtype_str_str ?_)
  exact wpAny_pure ⟨_, rfl, .str y, H2, J, ⟨t, rfl⟩, q2⟩
def isN : V → Hp → VK → Prop := fun v H Q => ∃ n : Nat, v = .int n ∧ n ≤ 1000000 ∧ Q (.int n) H
theorem cr_lenOwnX {p : Str} (hs : PySem.W.findIn X.K (.ref C) "__len__" = some (some (.ref f))) (hf : PySem.W.isFn X.K (.ref f) = true) (F : FnOk X.prog X.w X.K X.mg X.base CX k f fd [p] sp) (hx : ∀ o H s e s', ¬ CX o H s (fun _ _ _ => False) e s') (hb : Binds X.K fd [p] []) (hr : Room (k + 1) X.A) : CallR X (.builtin "len") (rOwn C sp isN) := by
  intro pins s σ H xs us Q I r h
  obtain ⟨a, dx, fs, rfl, ha, q⟩ := h
  obtain ⟨u, rfl, ru⟩ := vals1 r
  cases ru
  obtain ⟨od, ia⟩ := inst_at I ha
  obtain ⟨m, hF⟩ := I.fr
  have hr2 : Room k X.A.in1 := hr.in1
  refine PySem.W.len_K hF I.ok.mod.kin ia hs hf (own_run1 hx F hr2 rfl hb I q fun u s' he => ?_)
  obtain ⟨v, H2, J, rv, n, rfl, hn, q2⟩ := he
  obtain ⟨t, rfl⟩ := rv
  exact ⟨⟨by omega, by omega⟩, .int n, H2, J.tok _, ⟨_, rfl⟩, q2⟩
/-- what the own == says of the two, turned by g -/
def rCmpOwn (K : PySem.W.Frag) (C : Addr) (sp : Sp) (g : Bool → Bool) : R2 := fun x y H Q => ∃ (a dx : Addr) (fs : List (Str × V)) (t : Value), x = .ref a ∧ H a = some (.ins C dx fs) ∧ TyX K H y t ∧ PySem.W.notFirst K C t = true ∧ sp [x, y] H (fun v H2 => ∃ b, v = .bl b ∧ Q (.bl (g b)) H2) E0
theorem op_eqOwn {p q : Str} (hs : PySem.W.findIn X.K (.ref C) "__eq__" = some (some (.ref f))) (hf : PySem.W.isFn X.K (.ref f) = true) (F : FnOk X.prog X.w X.K X.mg X.base CX k f fd [p, q] sp) (hx : ∀ o H s e s', ¬ CX o H s (fun _ _ _ => False) e s') (hb : Binds X.K fd [p, q] []) (hr : Room k X.A) : OpR X (compareOp .Eq) (rCmpOwn X.K C sp id) := by
  intro pins s σ H x y v u Q I rx ry h
  obtain ⟨a, dx, fs, t, rfl, ha, ty, hn, hq⟩ := h
  cases rx
  obtain ⟨od, J⟩ := inst_at I ha
  obtain ⟨m, hF⟩ := I.fr
  show wpAny _ _ (richCompare .Eq (.ref a) u) _ _ s
  refine PySem.W.cmp_K (op := .Eq) hr.units0 hF I.ok.mod.kin J (ty_look I ry ty) hn hs hf (own_run2 hx F hr rfl hb I ry hq fun w s' e => ?_)
  obtain ⟨z, H', I', rz, b, ez, qz⟩ := e
  subst ez
  cases (show w = Value.bool b from rz)
  exact ⟨.bl b, H', I', rfl, qz⟩
theorem objNe_own {prog : Program} {w : World} {A : Around} {E : Value → Shared → Prop} {s : Shared} {K : PySem.W.Frag} {x : Addr} {ox : Obj} {od : Option Obj} {b : Value} (X : K.In s.heap) (I : PySem.W.InstAt s.heap x ox C od) (hs : PySem.W.findIn K (.ref C) "__eq__" = some (some (.ref f))) (hf : PySem.W.isFn K (.ref f) = true) (hu : A.units < cLine) {Q : Fin → Shared → Prop}
    (hcall : wpAny (model prog w) A (call (.ref f) [.ref x, b]) (fun v s' => ∃ r, v = .bool r ∧ Q (.done (.ret (.bool (!r)))) s') E s) :
    wpAny (model prog w) A (Builtin.«object.__ne__» ⟨[.ref x, b], []⟩) Q E s := by
  unfold Builtin.«object.__ne__»
  repeat (first
    | with_reducible refine wpAny_cRoomFor hu ?_
    | (refine wpAny_bind (m := callSpecialIfBound? (.ref x) (Str.ofString "__eq__") [b])
        (PySem.W.ifBound_K X I hs hf (wpAny_mono hcall (fun r s' hr => by
          obtain ⟨b, rfl, hq⟩ := hr
          repeat (first | exact hq | exact wpAny_pure hq | exact wpAny_truthy_bool hq | (refine wpAny_bind (m := truthy (.bool _)) (wpAny_truthy_bool ?_)) | wp_step)) fun _ _ e => e)))
    | wp_step)
theorem ifBound_objNe {M : Model} {A : Around} {E : Value → Shared → Prop} {s : Shared} {K : PySem.W.Frag} {x : Addr} {ox : Obj} {od : Option Obj} {args : List Value} {Q : Option Value → Shared → Prop} (X : K.In s.heap) (I : PySem.W.InstAt s.heap x ox C od) (hs : PySem.W.findIn K (.ref C) "__ne__" = some (some (.builtin "object.__ne__")))
    (h : wpAny M A (call (.builtin "object.__ne__") (.ref x :: args)) (fun v => Q (some v)) E s) : wpAny M A (callSpecialIfBound? (.ref x) "__ne__" args) Q E s := by
  simp only [callSpecialIfBound?, bindSpecialIfBound?]
  refine wpAny_holding (wpAny_bind (wpAny_bind (wpAny_bind (I.type.here ((PySem.W.looks_findIn X hs).here ?_)))))
  refine wpAny_bind (wpAny_askSetting (wpAny_ite ?_))
  have fin : wpAny M A (call (.builtin "object.__ne__") ([.ref x] ++ args) >>= fun v => pure (some v)) Q E s := wpAny_bind (wpAny_mono h (fun v s' h' => wpAny_pure h') fun _ _ h' => h')
  split
  · exact wpAny_bind (wpAny_of_eq (F.cmp_object.ne.bind _) (wpAny_pure (by exact fin)))
  · exact wpAny_tryCatch (wpAny_bind (wpAny_of_eq (F.cmp_object.ne.bind _) (wpAny_pure (by exact fin))))
theorem op_neOwn {p q : Str} (hs : PySem.W.findIn X.K (.ref C) "__eq__" = some (some (.ref f))) (hf : PySem.W.isFn X.K (.ref f) = true) (hne : PySem.W.findIn X.K (.ref C) "__ne__" = some (some (.builtin "object.__ne__"))) (hm : PySem.W.mroIn X.K C (.type "object") = some true)
    (FN : FnOk X.prog X.w X.K X.mg X.base CX k f fd [p, q] sp) (hx : ∀ o H s e s', ¬ CX o H s (fun _ _ _ => False) e s') (hb : Binds X.K fd [p, q] []) (hr : Room (k + 1) X.A) : OpR X (compareOp .NotEq) (rCmpOwn X.K C sp not) := by
  intro pins s σ H x y v u Q I rx ry h
  obtain ⟨a, dx, fs, t, rfl, ha, ty, hn, hq⟩ := h
  cases rx
  obtain ⟨od, J⟩ := inst_at I ha
  have tl := ty_look I ry ty
  have hr1 : Room k X.A.in1 := hr.in1
  have hu : X.A.in1.units < cLine := hr1.units0
  have one : wpAny (model X.prog X.w) X.A (tryCompare (.ref a) "__ne__" u) (fun r s' => ∃ v, r = some v ∧ EP X pins σ Q v s') X.xe s := by
    unfold tryCompare
    refine wpAny_bind (ifBound_objNe I.kIn J hne (wpAny_call (codeAny_call_builtin F.cmp_object.ne.plain F.cmpEntry_ne (PySem.W.check_slot F.cmpKind_ne F.cmpSplit_ne (J.type.andThen (PySem.W.looks_mroIn I.kIn hm)) (F.cmpArgs_ne _ _) (objNe_own I.kIn J hs hf hu (own_run2 (A := X.A.in1) hx FN hr1 rfl hb I ry hq fun w s' e => ?_))))))
    obtain ⟨z, H', I', rz, b, ez, qz⟩ := e
    subst ez
    cases (show w = Value.bool b from rz)
    refine ⟨b, rfl, ?_⟩
    first
      | exact wpAny_pure ⟨_, rfl, .bl (!b), H', I', rfl, qz⟩
      | exact ⟨_, rfl, .bl (!b), H', I', rfl, qz⟩
  show wpAny _ _ (richCompare .NotEq (.ref a) u) _ _ s
  unfold richCompare
  simp only [oneThing_ref]
  refine wpAny_holding (wpAny_bind (wpAny_cRoomFor (by have := hr.units0; omega) ?_))
  rw [cmpInfo_NotEq]
  dsimp only
  refine wpAny_bind (J.type.here (wpAny_bind (tl.here ?_)))
  split
  · rename_i q0
    have e : PySem.W.subIn X.K t (.ref C) = some false := by
      rcases Bool.or_eq_true_iff.mp hn with e | e
      · rw [beq_iff_eq.mp e] at q0; simp at q0
      · exact beq_iff_eq.mp e
    refine wpAny_bind ((PySem.W.looks_subIn I.kIn e).here ?_)
    simp only [Bool.false_eq_true, if_false]
    refine wpAny_bind (wpAny_mono one (fun r s' z => ?_) fun _ _ e => e)
    obtain ⟨v, rfl, hq⟩ := z
    exact wpAny_pure hq
  · refine wpAny_bind (wpAny_pure ?_)
    simp only [Bool.false_eq_true, if_false]
    refine wpAny_bind (wpAny_mono one (fun r s' z => ?_) fun _ _ e => e)
    obtain ⟨v, rfl, hq⟩ := z
    exact wpAny_pure hq
end
end G
set_option Elab.async false
set_option linter.all false
set_option maxRecDepth 100000
set_option maxHeartbeats 1000000
namespace L3
open PySem PySem.Spec PyProof.Rows L2
/-! ### instances: own ==, !=, isinstance, str, repr, len -/
/-- what the written part says of the class, so that isinstance and == ask it rightly -/
structure ClE (K : Fg) (C : Addr) : Prop where
  cl : Cls K C
  ca : PySem.W.findIn K (.ref C) "__class__" = some (some (.builtin "object.__class__"))
  cg : PySem.W.specialIn K (.builtin "object.__class__") "__get__" = some (some (.builtin "getset_descriptor.__get__"))
  ct : PySem.W.takesIn K (.builtin "object.__class__") = some true
  mo : PySem.W.mroIn K C (.type "object") = some true
  kc : PySem.W.kitOne K (.ref C) (.ref C) = some true
  kn : ∀ j : Kn, PySem.W.kitOne K (.type j.nm) (.ref C) = some false
  ne : PySem.W.findIn K (.ref C) "__ne__" = some (some (.builtin "object.__ne__"))
theorem sub_kn {K : Fg} {C : Addr} (j : Kn) : PySem.W.subIn K (.type j.nm) (.ref C) = some false := by
  cases j with
  | non =>
    have e : fastBuiltinMro "NoneType" = some [.type "NoneType", .type "object"] := by decide +kernel
    show (fastBuiltinMro "NoneType").map (·.contains (.ref C)) = some false
    rw [e]
    first | rfl | simp
  | bl =>
    have e : fastBuiltinMro "bool" = some [.type "bool", .type "int", .type "object"] := by decide +kernel
    show (fastBuiltinMro "bool").map (·.contains (.ref C)) = some false
    rw [e]
    first | rfl | simp
  | int =>
    have e : fastBuiltinMro "int" = some [.type "int", .type "object"] := by decide +kernel
    show (fastBuiltinMro "int").map (·.contains (.ref C)) = some false
    rw [e]
    first | rfl | simp
  | str =>
    have e : fastBuiltinMro "str" = some [.type "str", .type "object"] := by decide +kernel
    show (fastBuiltinMro "str").map (·.contains (.ref C)) = some false
    rw [e]
    first | rfl | simp
  | lst =>
    have e : fastBuiltinMro "list" = some [.type "list", .type "object"] := by decide +kernel
    show (fastBuiltinMro "list").map (·.contains (.ref C)) = some false
    rw [e]
    first | rfl | simp
  | tup =>
    have e : fastBuiltinMro "tuple" = some [.type "tuple", .type "object"] := by decide +kernel
    show (fastBuiltinMro "tuple").map (·.contains (.ref C)) = some false
    rw [e]
    first | rfl | simp
  | dic =>
    have e : fastBuiltinMro "dict" = some [.type "dict", .type "object"] := by decide +kernel
    show (fastBuiltinMro "dict").map (·.contains (.ref C)) = some false
    rw [e]
    first | rfl | simp
/-- an instance of the class at C, or a thing of a known kind -/
def InC (C : Addr) (M : Mh) (t : T) : Prop := ∃ a fs, t = .ref a ∧ M a = some (.ins C fs)
def NoC (M : Mh) (t : T) : Prop := ∃ j, kd M t = some j
theorem InC.ty {K : Fg} {C : Addr} {H : Hp} {M : Mh} {t : T} {v : V} (c : ClE K C) (h : InC C M t) (rm : RM H M) (r : Rp H t v) : TyX K H v (.ref C) := by
  obtain ⟨a, fs, rfl, e⟩ := h
  cases r
  obtain ⟨dx, us, e1, _⟩ := rm _ _ e
  exact .base (.ins e1 c.cl c.ca c.cg c.ct c.mo)
section
variable {X : Cx} {H0 : Hp} {a b c e o tg : Expr} {es : List Expr} {pos apos cpos p p2 : Pos} {ma mb mc m mo : E3} {mA mB : B3} {mAs : A3} {C : Addr} {k : Nat} {sp : Sp3}
/-- isinstance(x, C) -/
def eIsiC (C : Addr) (m : E3) : E3 := fun τ M R => m τ M fun x M1 => (InC C M1 x ∧ R (.bl true) M1) ∨ (NoC M1 x ∧ R (.bl false) M1)
theorem le_isiC {n : Str} (ce : ClE X.K C) (hg : Gl X "isinstance") (hm : X.mg "isinstance" = none) (he : LE X H0 e m) (hg2 : Gl X n) (hm2 : X.mg n = some (.ref C)) (hd : (n == ("__debug__" : Str)) = false := by decide)
    (he1 : starEach [e, .Name n p2] X.env = (false, eval e X.env) :: starEach [.Name n p2] X.env := by rfl) (he2 : starEach [.Name n p2] X.env = (false, eval (.Name n p2) X.env) :: starEach [] X.env := by rfl) (hpl : (backTo pos (starEach [.Name n p2] X.env)).any (·.1) = false := by rfl) : LE X H0 (.Call (.Name "isinstance" p) [e, .Name n p2] [] pos) (eIsiC C m) := by
  obtain ⟨_, pe, se⟩ := he.ex
  refine ⟨_, pe_callB call_isi hg hm (by decide +kernel) (pa_cons pe (pa_cons (pe_glob (v := .ref C) hg2 hm2 rfl hd) pa_nil he2) he1) (by decide) (by decide) he1 hpl, fun τ M R σ H Q h t rs rm kq => se τ M _ σ H _ h t rs rm fun x H1 tx M1 t1 rx rm1 h1 => ?_⟩
  rcases h1 with ⟨h1, h2⟩ | ⟨⟨j, h1⟩, h2⟩
  · exact ⟨x, .ref C, _, _, _, rfl, .own C, h1.ty ce rm1 rx, ce.kc, (kq.mv t1).at (.bl _) rm1 h2⟩
  · exact ⟨x, .ref C, _, _, _, rfl, .own C, kd_ty rm1 rx h1, ce.kn j, (kq.mv t1).at (.bl _) rm1 h2⟩
/-- o == y, o != y by the own == -/
def oOwn (C : Addr) (sp : Sp3) (g : Bool → Bool) : O3 := fun x y M R => InC C M x ∧ (InC C M y ∨ NoC M y) ∧ sp [x, y] M (fun v M2 => ∃ b, v = .bl b ∧ R (.bl (g b)) M2) N3
theorem so_own {K : Fg} {g : Bool → Bool} (ce : ClE K C) : SO (G.rCmpOwn K C (lift sp) g) (oOwn C sp g) := fun x y tx ty H M R Q h rx ry rm kq => by
  obtain ⟨hx, hy, h⟩ := h
  have hl : lift sp [x, y] H (fun v H2 => ∃ b, v = .bl b ∧ Q (.bl (g b)) H2) E0 := ⟨[tx, ty], M, _, N3, .cons rx (.cons ry .nil), rm, h, fun v H' tv M' t r rm' q => by
    obtain ⟨b, rfl, q⟩ := q
    cases r
    exact ⟨b, rfl, kq _ _ _ _ t (.bl _) rm' q⟩, fun _ _ _ _ _ _ z => z.elim⟩
  obtain ⟨a, fs, rfl, e⟩ := hx
  cases rx
  obtain ⟨dx, us, e1, _⟩ := rm _ _ e
  rcases hy with hy | ⟨j, hy⟩
  · exact ⟨a, dx, us, _, rfl, e1, hy.ty ce rm ry, by simp [PySem.W.notFirst], hl⟩
  · exact ⟨a, dx, us, _, rfl, e1, kd_ty rm ry hy, by unfold PySem.W.notFirst; rw [sub_kn]; simp, hl⟩
theorem c_eqOwn {q r : Str} (ce : ClE X.K C) (cm : ClM X.prog X.w X.K X.mg X.base C "__eq__" k [q, r] sp) (hr : Room k X.A) : OK3 X (compareOp .Eq) (oOwn C sp id) := by
  obtain ⟨CX, f, fd, F, hx, hc, hm, hb⟩ := cm.ex
  exact ⟨_, G.op_eqOwn hm.at_ hm.fn F hx hb hr, so_own ce⟩
theorem c_neOwn {q r : Str} (ce : ClE X.K C) (cm : ClM X.prog X.w X.K X.mg X.base C "__eq__" k [q, r] sp) (hr : Room (k + 1) X.A) : OK3 X (compareOp .NotEq) (oOwn C sp not) := by
  obtain ⟨CX, f, fd, F, hx, hc, hm, hb⟩ := cm.ex
  exact ⟨_, G.op_neOwn hm.at_ hm.fn ce.ne ce.mo F hx hb hr, so_own ce⟩
/-- str(o), repr(o), len(o) -/
def cOwn (C : Addr) (sp : Sp3) (P : T → Prop) : C3 := fun ts M R => ∃ x, ts = [x] ∧ InC C M x ∧ sp [x] M (fun v M2 => P v ∧ R v M2) N3
def tStr : T → Prop := fun v => ∃ y : Str, v = .str y
def tNat : T → Prop := fun v => ∃ n : Nat, v = .int n ∧ n ≤ 1000000
theorem sc_own {P : T → Prop} {I : V → Hp → VK → Prop} (hi : ∀ {H : Hp} {t : T} {v : V} {Q : VK}, P t → Rp H t v → Q v H → I v H Q) : SC (G.rOwn C (lift sp) I) (cOwn C sp P) := fun vs ts H M R Q h rv rm kq => by
  obtain ⟨x, rfl, ⟨a, fs, rfl, e⟩, h⟩ := h
  cases rv with
  | cons r rr =>
    cases r; cases rr
    obtain ⟨dx, us, e1, _⟩ := rm _ _ e
    exact ⟨a, dx, us, rfl, e1, [.ref a], M, _, N3, .cons (.ref a) .nil, rm, h, fun v H' tv M' t r rm' q => hi q.1 r (kq _ _ _ _ t r rm' q.2), fun _ _ _ _ _ _ z => z.elim⟩
theorem le_strOwn {q : Str} (cm : ClM X.prog X.w X.K X.mg X.base C "__str__" k [q] sp) (hr : Room (k + 2) X.A) (hg : Gl X "str") (hm : X.mg "str" = none) (ha : LA X H0 [e] mAs) (he : starEach [e] X.env = (false, eval e X.env) :: starEach [] X.env := by rfl) (hpl : (backTo pos (starEach [] X.env)).any (·.1) = false := by rfl) : LE X H0 (.Call (.Name "str" p) [e] [] pos) (eCB (cOwn C sp tStr) mAs) := by
  obtain ⟨CX, f, fd, F, hx, hc, hme, hb⟩ := cm.ex
  exact le_cT (G.cr_strOwnX hme.at_ hme.fn F hx hb hr) (sc_own fun ⟨y, e⟩ r q => by subst e; cases r; exact ⟨y, rfl, q⟩) hg hm (by decide +kernel) ha (by decide) (by decide) he hpl
theorem le_reprOwn {q : Str} (cm : ClM X.prog X.w X.K X.mg X.base C "__repr__" k [q] sp) (hr : Room (k + 1) X.A) (hg : Gl X "repr") (hm : X.mg "repr" = none) (ha : LA X H0 [e] mAs) (he : starEach [e] X.env = (false, eval e X.env) :: starEach [] X.env := by rfl) (hpl : (backTo pos (starEach [] X.env)).any (·.1) = false := by rfl) : LE X H0 (.Call (.Name "repr" p) [e] [] pos) (eCB (cOwn C sp tStr) mAs) := by
  obtain ⟨CX, f, fd, F, hx, hc, hme, hb⟩ := cm.ex
  exact le_cB (G.cr_reprOwnX hme.at_ hme.fn F hx hb hr) (sc_own fun ⟨y, e⟩ r q => by subst e; cases r; exact ⟨y, rfl, q⟩) hg hm (by decide +kernel) ha (by decide) (by decide) he hpl
theorem le_lenOwn {q : Str} (cm : ClM X.prog X.w X.K X.mg X.base C "__len__" k [q] sp) (hr : Room (k + 1) X.A) (hg : Gl X "len") (hm : X.mg "len" = none) (ha : LA X H0 [e] mAs) (he : starEach [e] X.env = (false, eval e X.env) :: starEach [] X.env := by rfl) (hpl : (backTo pos (starEach [] X.env)).any (·.1) = false := by rfl) : LE X H0 (.Call (.Name "len" p) [e] [] pos) (eCB (cOwn C sp tNat) mAs) := by
  obtain ⟨CX, f, fd, F, hx, hc, hme, hb⟩ := cm.ex
  exact le_cB (G.cr_lenOwnX hme.at_ hme.fn F hx hb hr) (sc_own fun ⟨n, e, hn⟩ r q => by subst e; cases r; exact ⟨n, rfl, hn, q⟩) hg hm (by decide +kernel) ha (by decide) (by decide) he hpl
end
end L3
set_option Elab.async false
set_option linter.all false
set_option maxRecDepth 100000
set_option maxHeartbeats 1000000
namespace L3
open PySem PySem.Spec PyProof.Rows L2
/-! ### places as data -/
def shD (s : Sh) : PyData := .tuple [.tuple [.int s.a, .int s.b], .tuple [.int s.c, .int s.d]]
def tdD : Option Sh → PyData
  | none => .none
  | some s => shD s
def wrapD : Bool → List PyData → PyData
  | true, _ => .none
  | false, xs => .tuple xs
def foD : Fo → List PyData
  | .nil => []
  | .cons nm td i r => .tuple [.str nm, tdD td, wrapD i.isNil (foD i)] :: foD r
theorem dt_sh {M : Mh} (s : Sh) : Dt M s.t (shD s) := .tup (.cons (.tup (.cons (.int _) (.cons (.int _) .nil))) (.cons (.tup (.cons (.int _) (.cons (.int _) .nil))) .nil))
theorem dt_td {M : Mh} : ∀ t : Option Sh, Dt M (tdt t) (tdD t)
  | none => .non
  | some s => dt_sh s
theorem dt_wrap {M : Mh} {xs : List T} {ds : List PyData} (h : Dts M xs ds) : ∀ b : Bool, Dt M (wrapT b xs) (wrapD b ds)
  | true => .non
  | false => .tup h
theorem dts_fo {M : Mh} : ∀ f : Fo, Dts M f.ts (foD f)
  | .nil => .nil
  | .cons nm td i r => .cons (.tup (.cons (.str _) (.cons (dt_td td) (.cons (dt_wrap (dts_fo i) _) .nil)))) (dts_fo r)
theorem dts_ws {M : Mh} : ∀ ws : List Str, Dts M (ws.map T.str) (ws.map PyData.str)
  | [] => .nil
  | z :: r => .cons (.str z) (dts_ws r)
theorem nm_strOk {z : Str} (h : NmOk z) : PyData.strOk z = true := by
  have h : (decide (1 ≤ z.length) && decide (z.length ≤ 8) && z.cps.toList.all okC) = true := h
  rw [Bool.and_eq_true] at h
  have h2 := List.all_eq_true.mp h.2
  unfold PyData.strOk
  rw [← Array.all_toList, List.all_eq_true]
  intro c hc
  have := h2 c hc
  unfold okC at this
  rw [Bool.and_eq_true] at this
  have q := of_decide_eq_true this.2
  exact decide_eq_true (by omega)
theorem lay_ws : ∀ {ws : List Str}, (∀ y ∈ ws, NmOk y) → PyData.canLayAll0 (ws.map PyData.str) = true
  | [], _ => rfl
  | z :: r, h => by
    show (PyData.strOk z && PyData.canLayAll0 (r.map PyData.str)) = true
    rw [nm_strOk (h z (.head _)), lay_ws fun y hy => h y (.tail _ hy)]
    rfl
theorem depth_ws : ∀ ws : List Str, PyData.depthAll (ws.map PyData.str) = 0
  | [] => rfl
  | z :: r => by
    show max 0 (PyData.depthAll (r.map PyData.str)) = 0
    rw [depth_ws r]
    rfl
theorem shaped_ws {ws : List Str} (h : ∀ y ∈ ws, NmOk y) : SeqAt.shaped (.tuple (ws.map PyData.str)) = true ∧ SeqAt.shaped (.list (ws.map PyData.str)) = true := by
  constructor
  · show (PyData.canLayAll0 _ && decide (PyData.depthAll _ + 1 ≤ 64)) = true
    rw [lay_ws h, depth_ws]
    rfl
  · show (PyData.canLayAll0 _ && decide (PyData.depthAll _ + 1 ≤ 64)) = true
    rw [lay_ws h, depth_ws]
    rfl
theorem lay_td : ∀ t : Option Sh, PyData.canLay0 (tdD t) = true ∧ PyData.depth (tdD t) ≤ 2
  | none => ⟨rfl, by decide⟩
  | some s => ⟨rfl, Nat.le_refl 2⟩
theorem lay_fo : ∀ {f : Fo}, Gd f → PyData.canLayAll0 (foD f) = true ∧ PyData.depthAll (foD f) ≤ 3 + 2 * f.depth
  | .nil, _ => ⟨rfl, by decide⟩
  | .cons nm td i r, g => by
    obtain ⟨a1, a2⟩ := lay_fo g.2.2.1
    obtain ⟨b1, b2⟩ := lay_fo g.2.2.2
    obtain ⟨c1, c2⟩ := lay_td td
    have w1 : PyData.canLay0 (wrapD i.isNil (foD i)) = true := by
      cases i.isNil with
      | true => rfl
      | false => exact a1
    have w2 : PyData.depth (wrapD i.isNil (foD i)) ≤ 4 + 2 * i.depth := by
      cases i.isNil with
      | true => exact Nat.zero_le _
      | false =>
        show PyData.depthAll (foD i) + 1 ≤ _
        omega
    constructor
    · show ((PyData.strOk nm && (PyData.canLay0 (tdD td) && (PyData.canLay0 (wrapD i.isNil (foD i)) && true))) && PyData.canLayAll0 (foD r)) = true
      rw [nm_strOk g.1, c1, w1, b1]
      rfl
    · show max (max 0 (max (PyData.depth (tdD td)) (max (PyData.depth (wrapD i.isNil (foD i))) 0)) + 1) (PyData.depthAll (foD r)) ≤ 3 + 2 * max (1 + i.depth) r.depth
      omega
theorem shaped_fo {f : Fo} (g : Gd f) (h : f.depth ≤ 20) : SeqAt.shaped (.tuple (foD f)) = true := by
  obtain ⟨a, b⟩ := lay_fo g
  show (PyData.canLayAll0 _ && decide (PyData.depthAll _ + 1 ≤ 64)) = true
  rw [a, decide_eq_true (by omega)]
  rfl
end L3
set_option Elab.async false
set_option linter.all false
set_option maxRecDepth 100000
set_option maxHeartbeats 1000000
namespace L3
open PySem PySem.Spec PyProof.Rows L2
section
variable {X : Cx} {H0 : Hp} {tg iter : Expr}
/-! ### walks over one thing or another -/
theorem pi_or {w1 w2 : TI} (h1 : PI X tg iter w1) (h2 : PI X tg iter w2) : PI X tg iter (fun σ H R => w1 σ H R ∨ w2 σ H R) := ⟨fun pins s σ H R I h => h.elim (h1.run pins s σ H R I) (h2.run pins s σ H R I)⟩
def iOr (m1 m2 : I3) : I3 := fun τ M R => m1 τ M R ∨ m2 τ M R
theorem li_or {m1 m2 : I3} (h1 : LI X H0 tg iter m1) (h2 : LI X H0 tg iter m2) : LI X H0 tg iter (iOr m1 m2) := by
  obtain ⟨_, p1, s1⟩ := h1.ex
  obtain ⟨_, p2, s2⟩ := h2.ex
  exact ⟨_, pi_or p1 p2, fun τ M R σ H Q h t rs rm k => h.elim (fun h => .inl (s1 τ M R σ H Q h t rs rm k)) fun h => .inr (s2 τ M R σ H Q h t rs rm k)⟩
end
/-! ### lists of places, by their items -/
def Fo.of : List It3 → Fo
  | [] => .nil
  | (nm, td, i) :: r => .cons nm td i (Fo.of r)
theorem Fo.of_items : ∀ f : Fo, Fo.of f.items = f
  | .nil => rfl
  | .cons nm td i r => by
    show Fo.cons nm td i (Fo.of r.items) = _
    rw [Fo.of_items r]
theorem Fo.items_of : ∀ l : List It3, (Fo.of l).items = l
  | [] => rfl
  | (nm, td, i) :: r => by
    show (nm, td, i) :: (Fo.of r).items = _
    rw [Fo.items_of r]
theorem Fo.ts_of (l : List It3) : (Fo.of l).ts = l.map plt := by rw [Fo.ts_items, Fo.items_of]
def GdI (t : It3) : Prop := NmOk t.1 ∧ (∀ s, t.2.1 = some s → ShOk s) ∧ Gd t.2.2
theorem Gd.of : ∀ {l : List It3}, (∀ t ∈ l, GdI t) → Gd (Fo.of l)
  | [], _ => trivial
  | (nm, td, i) :: r, h => ⟨(h _ (.head _)).1, (h _ (.head _)).2.1, (h _ (.head _)).2.2, Gd.of fun t ht => h t (.tail _ ht)⟩
theorem Gd.mem : ∀ {f : Fo}, Gd f → ∀ t ∈ f.items, GdI t
  | .cons nm td i r, g, t, h => by
    rcases List.mem_cons.mp h with rfl | h
    · exact ⟨g.1, g.2.1, g.2.2.1⟩
    · exact Gd.mem g.2.2.2 t h
theorem Fo.depth_of {d : Nat} : ∀ {l : List It3}, (∀ t ∈ l, 1 + t.2.2.depth ≤ d) → (Fo.of l).depth ≤ d
  | [], _ => Nat.zero_le _
  | (nm, td, i) :: r, h => by
    show max (1 + i.depth) (Fo.of r).depth ≤ d
    have h1 := h _ (.head _)
    have h2 := Fo.depth_of (l := r) fun t ht => h t (.tail _ ht)
    dsimp only at h1
    omega
theorem Fo.depth_mem : ∀ {f : Fo} {t : It3}, t ∈ f.items → 1 + t.2.2.depth ≤ f.depth
  | .cons nm td i r, t, h => by
    show _ ≤ max (1 + i.depth) r.depth
    rcases List.mem_cons.mp h with rfl | h
    · exact Nat.le_max_left _ _
    · have := Fo.depth_mem h
      omega
def cntI (l : List It3) : Nat := (l.map fun t => 1 + t.2.2.cnt).sum
theorem Fo.cnt_of : ∀ l : List It3, (Fo.of l).cnt = cntI l
  | [] => rfl
  | (nm, td, i) :: r => by
    show 1 + i.cnt + (Fo.of r).cnt = (1 + i.cnt) + cntI r
    rw [Fo.cnt_of r]
theorem Fo.cnt_items (f : Fo) : cntI f.items = f.cnt := by rw [← Fo.cnt_of, Fo.of_items]
theorem cntI_app (l m : List It3) : cntI (l ++ m) = cntI l + cntI m := by
  unfold cntI
  rw [List.map_append, List.sum_append]
theorem Fo.of_ne {l : List It3} (h : l ≠ []) : Fo.of l ≠ .nil := by
  cases l with
  | nil => exact absurd rfl h
  | cons a r =>
    obtain ⟨x, y, z⟩ := a
    exact fun z => by cases z
end L3
set_option Elab.async false
set_option linter.all false
set_option maxRecDepth 100000
set_option maxHeartbeats 1000000
namespace L3
open PySem PySem.Spec PyProof.Rows L2 TL
/-! ### the signs of rows -/
def Sml (z : Str) : Prop := ∀ c ∈ z.cps.toList, c < 16 ^ 8
theorem sml_s (z : String) : Sml (Str.ofString z) := sm_str z
theorem sml_app {x y : Str} (h1 : Sml x) (h2 : Sml y) : Sml (x ++ y) := fun c hc => by
  have hc : c ∈ tl (x ++ y) := hc
  rw [tl_append] at hc
  rcases List.mem_append.mp hc with h | h
  · exact h1 c h
  · exact h2 c h
theorem joinL_mem {s : List Nat} {c : Nat} : ∀ {ps : List (List Nat)}, c ∈ joinL s ps → c ∈ s ∨ ∃ p ∈ ps, c ∈ p
  | [], h => by cases h
  | [p], h => .inr ⟨p, .head _, by simpa [joinL] using h⟩
  | p :: q :: r, h => by
    have h : c ∈ p ++ (s ++ joinL s (q :: r)) := h
    rcases List.mem_append.mp h with h | h
    · exact .inr ⟨p, .head _, h⟩
    · rcases List.mem_append.mp h with h | h
      · exact .inl h
      · rcases joinL_mem h with h | ⟨p', h1, h2⟩
        · exact .inl h
        · exact .inr ⟨p', .tail _ h1, h2⟩
theorem sml_join {s : Str} {ys : List Str} (h1 : Sml s) (h2 : ∀ y ∈ ys, Sml y) : Sml (Txt.join s ys) := fun c hc => by
  have hc : c ∈ tl (Txt.join s ys) := hc
  rw [join_eq, tl_join] at hc
  rcases joinL_mem hc with h | ⟨p, hp, h⟩
  · exact h1 c h
  · obtain ⟨y, hy, rfl⟩ := List.mem_map.mp hp
    exact h2 y hy c h
theorem sml_nm {z : Str} (h : NmOk z) : Sml z := fun c hc => by
  have h : (decide (1 ≤ z.length) && decide (z.length ≤ 8) && z.cps.toList.all okC) = true := h
  rw [Bool.and_eq_true] at h
  have := List.all_eq_true.mp h.2 c hc
  unfold okC at this
  rw [Bool.and_eq_true] at this
  have q := of_decide_eq_true this.2
  omega
theorem sml_fT (i j : Int) : Sml (fT i j) := by
  unfold fT sg bw Tn
  refine sml_app (sml_app ?_ (sml_s _)) ?_
  · split
    · exact sml_s "-"
    · exact sml_s ""
  · split
    · exact sml_s ""
    · exact sml_app (sml_s "/") (sml_s _)
theorem sml_td : ∀ td : Option Sh, Sml (tdT td)
  | none => sml_s ""
  | some s => by
    refine sml_app (sml_s " ") ?_
    unfold stT
    split
    · exact sml_fT _ _
    · exact sml_app (sml_app (sml_fT _ _) (sml_s _)) (sml_fT _ _)
theorem sml_it : ∀ {f : Fo}, Gd f → ∀ y ∈ itT f, Sml y
  | .nil, _, y, h => by cases h
  | .cons nm td i r, g, y, h => by
    rcases List.mem_cons.mp h with rfl | h
    · refine sml_app (sml_app (sml_nm g.1) (sml_td td)) ?_
      split
      · exact sml_s ""
      · exact sml_app (sml_app (sml_s " (") (sml_join (sml_s ", ") (sml_it g.2.2.1))) (sml_s ")")
    · exact sml_it g.2.2.2 y h
theorem sml_ro {f : Fo} {ws : List Str} (g : Gd f) (h : ∀ y ∈ ws, NmOk y) : Sml (roT f ws) := by
  unfold roT
  split
  · exact sml_join (sml_s ", ") (sml_it g)
  · exact sml_app (sml_app (sml_join (sml_s ", ") (sml_it g)) (sml_s _)) (sml_join (sml_s ", ") fun y hy => sml_nm (h y hy))
theorem sw_row {M : Mh} {k : Nat} {f : Fo} {ws : List Str} (g : Gd f) (c : f.cnt ≤ 12) (h : ∀ y ∈ ws, NmOk y) (l : ws.length ≤ 60) : Sw M (.str (roT f ws)) (.str (roT f ws)) k 300000 := by
  refine ⟨.str _, rfl, rfl, Nat.zero_le _, ?_⟩
  have h1 := roT_len g (ws := ws) ⟨fun y hy => (NmOk.len (h y hy)).2, by omega⟩
  have h2 := StrLaws.reprText_len (roT f ws) (sml_ro g h)
  show (reprText (roT f ws)).length ≤ _
  omega
end L3
set_option Elab.async false
set_option linter.all false
set_option maxRecDepth 100000
set_option maxHeartbeats 2000000
/-! x in [y], by an own == -/
namespace G
open PySem PySem.Spec PyProof.Rows L2 PySem.SeqAt
open AutoSeq1 (wpAny_loadPart')
open MeetsSeq MeetsSeq2 MeetsSeq3 SeqRoads2
section
variable {prog : Program} {w : World} {A : Around} {E : Value → Shared → Prop} {s : Shared}
/-- behind the one item the loop ends -/
theorem contains_end {l : Addr} {items : Array Value} {x : Value} {n i : Nat} {R : Result → Shared → Prop} (hs : items.size = 1) (hi : i = 1) (hl : s.heap.get? l = some { cls := .type "list", data := .seq items n }) (h : R (.ok (.ret (.bool false))) s) :
    wpAny (model prog w) A.in1 (Builtin.«list.__contains__.loop» ⟨[.ref l, x, rawInt i], []⟩) (GQ.FinOf prog w A R) (fun e s' => R (.error e) s') s := by
  obtain ⟨hp, g, d, tk, os⟩ := s
  wp_walk using wpAny_loadPart' hl
  have hi : items[((i : Nat) : Int).toNat]? = none := by simp; omega
  rw [hi]
  wp_walk
  exact h
theorem contains_one {l : Addr} {items : Array Value} {y x : Value} {n i : Nat} {R : Result → Shared → Prop} (hs : items.size = 1) (hi : i = 0) (h0 : items[i]? = some y) (hl : s.heap.get? l = some { cls := .type "list", data := .seq items n })
    (h : wpAny (model prog w) A.in1 (eqBool y x) (fun r s' => (∃ items' n', items'.size = 1 ∧ s'.heap.get? l = some { cls := .type "list", data := .seq items' n' }) ∧ R (.ok (.ret (.bool r))) s') (fun e s' => R (.error e) s') s) :
    wpAny (model prog w) A.in1 (Builtin.«list.__contains__.loop» ⟨[.ref l, x, rawInt i], []⟩) (GQ.FinOf prog w A R) (fun e s' => R (.error e) s') s := by
  obtain ⟨hp, g, d, tk, os⟩ := s
  wp_walk using wpAny_loadPart' hl
  have hi1 : items[((i : Nat) : Int).toNat]? = some y := by rw [Int.toNat_natCast]; exact h0
  rw [hi1]
  refine wpAny_bind (wpAny_mono h (fun r s2 h2 => ?_) fun _ _ x => x)
  obtain ⟨⟨items', n', hs2, hl2⟩, h2⟩ := h2
  cases r with
  | true =>
    obtain ⟨hp2, g2, d2, tk2, os2⟩ := s2
    wp_walk
    exact h2
  | false =>
    have hrec := contains_end (prog := prog) (w := w) (A := A) (x := x) (i := i + 1) hs2 (by omega) hl2 h2
    obtain ⟨hp2, g2, d2, tk2, os2⟩ := s2
    have hc : ((i : Int) + 1) = ((i + 1 : Nat) : Int) := by omega
    wp_walk
    rw [hc]
    exact ⟨plainId_quiet plain_contains_loop _, codeAny_builtin entry_contains_loop (by
      rw [Around.under_plainId plain_contains_loop _]
      exact hrec)⟩
theorem in_one {l : Addr} {items : Array Value} {y x : Value} {n : Nat} {Q : Value → Shared → Prop} (hs : items.size = 1) (h0 : items[0]? = some y) (hl : s.heap.get? l = some { cls := .type "list", data := .seq items n })
    (h : wpAny (model prog w) A.in1 (eqBool y x) (fun r s' => (∃ items' n', items'.size = 1 ∧ s'.heap.get? l = some { cls := .type "list", data := .seq items' n' }) ∧ Q (.bool r) s') E s) :
    wpAny (model prog w) A (compareOp .In x (.ref l)) Q E s := by
  show wpAny _ A (do return .bool (← contains (.ref l) x)) Q E s
  refine wpAny_bind (wpAny_contains_slot ⟨_, hl, rfl⟩ F.slot_list_contains (GQ.call_here F.slot_list_contains ⟨_, hl, rfl⟩ F.entry_list_contains (F.args_list_contains_2 _ _) ?_))
  have hrec := contains_one (prog := prog) (w := w) (A := A) (x := x) (i := 0) (R := wants (fun r s' => wpAny (model prog w) A (truthy r) (fun b s2 => wpAny (model prog w) A (pure (.bool b)) Q E s2) E s') E) hs rfl h0 hl
    (wpAny_mono h (fun r s' ⟨h1, h2⟩ => ⟨h1, wpAny_truthy_bool (wpAny_pure h2)⟩) fun _ _ x => x)
  obtain ⟨hp, g, d, tk, os⟩ := s
  wp_walk using wpAny_loadPart' hl
  exact ⟨plainId_quiet plain_contains_loop _, codeAny_builtin entry_contains_loop (by
    rw [Around.under_plainId plain_contains_loop _]
    exact hrec)⟩
end
section
variable {X : Cx} {C f : Addr} {k : Nat} {fd : FuncData} {sp : Sp} {CX : CXT}
/-- x in [y]: y's own == is asked, unless they are the same -/
def rInOwn (K : PySem.W.Frag) (C : Addr) (sp : Sp) : R2 := fun x y H Q => ∃ (a b l dx : Addr) (fs : List (Str × V)) (t : Value), x = .ref a ∧ y = .ref l ∧ H l = some (.lst [.ref b]) ∧ a ≠ b ∧ H b = some (.ins C dx fs) ∧ TyX K H x t ∧ PySem.W.notFirst K C t = true ∧ sp [.ref b, x] H (fun v H2 => ∃ r, v = .bl r ∧ H2 l = some (.lst [.ref b]) ∧ Q (.bl r) H2) E0
theorem op_inOwn {p q : Str} (hs : PySem.W.findIn X.K (.ref C) "__eq__" = some (some (.ref f))) (hf : PySem.W.isFn X.K (.ref f) = true) (F : FnOk X.prog X.w X.K X.mg X.base CX k f fd [p, q] sp) (hx : ∀ o H s e s', ¬ CX o H s (fun _ _ _ => False) e s') (hb : Binds X.K fd [p, q] []) (hr : Room (k + 1) X.A) : OpR X (compareOp .In) (rInOwn X.K C sp) := by
  intro pins s σ H x y v u Q I rx ry h
  obtain ⟨a, b, l, dx, fs, t, rfl, rfl, hl, nab, ha, ty, hn, hq⟩ := h
  cases rx
  cases ry
  obtain ⟨od, J⟩ := inst_at I ha
  obtain ⟨m, hF⟩ := I.fr
  have hr1 : Room k X.A.in1 := hr.in1
  obtain ⟨us, hz, n, hv, ho⟩ := (show ObjOk X.prog X.w H s.heap l (.lst [.ref b]) from I.hok l _ hl)
  obtain ⟨w0, e0, r0⟩ := hv.one
  subst e0
  cases r0
  refine in_one (y := .ref b) (by simp) (by simp) ho ?_
  refine GQ.eqBool_refG (fun z => nab z.symm) ?_
  refine PySem.W.cmp_K (op := .Eq) hr1.units0 hF I.ok.mod.kin J (ty_look I (show RelV (.ref a) (.ref a) from rfl) ty) hn hs hf (own_run2 (A := X.A.in1) hx F hr1 rfl hb I (show RelV (.ref a) (.ref a) from rfl) hq fun w s' e => ?_)
  obtain ⟨z, H', I', rz, b2, ez, hl2, qz⟩ := e
  subst ez
  cases (show w = Value.bool b2 from rz)
  obtain ⟨us2, hz2, n2, hv2, ho2⟩ := (show ObjOk X.prog X.w H' s'.heap l (.lst [.ref b]) from I'.hok l _ hl2)
  obtain ⟨w2, e2, r2⟩ := hv2.one
  subst e2
  exact ⟨b2, rfl, ⟨_, n2, by simp, ho2⟩, .bl b2, H', I', rfl, qz⟩
end
end G
set_option Elab.async false
set_option linter.all false
set_option maxRecDepth 100000
set_option maxHeartbeats 1000000
namespace L3
open PySem PySem.Spec PyProof.Rows L2
section
variable {X : Cx} {H0 : Hp} {a b c e o tg : Expr} {es : List Expr} {pos apos cpos p p2 : Pos} {ma mb mc m mo : E3} {mA mB : B3} {mAs : A3} {C : Addr} {k : Nat} {sp : Sp3}
/-- o in [o2] -/
def oInOwn (C : Addr) (sp : Sp3) : O3 := fun x y M R => ∃ a b l, x = .ref a ∧ y = .ref l ∧ M l = some (.lst [.ref b]) ∧ a ≠ b ∧ InC C M (.ref a) ∧ InC C M (.ref b) ∧ sp [.ref b, .ref a] M (fun v M2 => ∃ r, v = .bl r ∧ M2 l = some (.lst [.ref b]) ∧ R (.bl r) M2) N3
theorem lst_one {H : Hp} {M : Mh} {l b : Addr} (rm : RM H M) (e : M l = some (.lst [.ref b])) : H l = some (.lst [.ref b]) := by
  obtain ⟨vs, h, r⟩ := rm _ _ e
  cases r with
  | cons r rr =>
    cases r
    cases rr
    exact h
theorem c_inOwn {q r : Str} (ce : ClE X.K C) (cm : ClM X.prog X.w X.K X.mg X.base C "__eq__" k [q, r] sp) (hr : Room (k + 1) X.A) : OK3 X (compareOp .In) (oInOwn C sp) := by
  obtain ⟨CX, f, fd, F, hx, hc, hm, hb⟩ := cm.ex
  refine ⟨_, G.op_inOwn hm.at_ hm.fn F hx hb hr, fun x y tx ty H M R Q h rx ry rm kq => ?_⟩
  obtain ⟨a, b, l, rfl, rfl, el, nab, ia, ib, h⟩ := h
  cases rx
  cases ry
  obtain ⟨_, fs, e0, eb⟩ := ib
  cases e0
  obtain ⟨dx, us, e1, _⟩ := rm _ _ eb
  refine ⟨a, b, l, dx, us, _, rfl, rfl, lst_one rm el, nab, e1, ia.ty ce rm (.ref a), by simp [PySem.W.notFirst], [.ref b, .ref a], M, _, N3, .cons (.ref b) (.cons (.ref a) .nil), rm, h, fun v H' tv M' t r rm' q => ?_, fun _ _ _ _ _ _ z => z.elim⟩
  obtain ⟨b2, rfl, el2, q⟩ := q
  cases r
  exact ⟨b2, rfl, lst_one rm' el2, kq _ _ _ _ t (.bl _) rm' q⟩
end
/-! ### xs * n -/
section
variable {X : Cx} {H0 : Hp} {a b : Expr} {pos : Pos} {ma mb : E3}
def repT (n : Nat) (xs : List T) : List T := (List.replicate n xs).flatten
theorem Rps.rep {H : Hp} {xs : List T} {vs : List V} (r : Rps H xs vs) : ∀ n : Nat, Rps H (repT n xs) (List.replicate n vs).flatten
  | 0 => .nil
  | n + 1 => by
    show Rps H ((xs :: List.replicate n xs).flatten) ((vs :: List.replicate n vs).flatten)
    rw [List.flatten_cons, List.flatten_cons]
    exact r.app (r.rep n)
def oRep : O3 := fun x y M R => match x, y with
  | .ref a, .int n => (match M a with
    | some (.lst xs) => (0 ≤ n ∧ n ≤ 1000 ∧ xs.length * n.toNat ≤ sizeLine) ∧ ∀ p, M p = none → R (.ref p) (up M p (.lst (repT n.toNat xs)))
    | _ => False)
  | _, _ => False
theorem le_rep (ha : LE X H0 a ma) (hb : LE X H0 b mb) : LE X H0 (.BinOp a .Mult b pos) (eOp oRep ma mb) := le_op op_rep (fun x y tx ty H M R Q h rx ry rm k => by
  unfold oRep at h
  split at h
  · rename_i a0 n0
    cases rx; cases ry
    split at h
    · rename_i xs q
      obtain ⟨us, e1, r⟩ := rm _ _ q
      obtain ⟨⟨h1, h2, h3⟩, h⟩ := h
      refine ⟨_, _, us, rfl, rfl, e1, by omega, by omega, by rw [r.len]; exact h3, fun p np => ?_⟩
      have tn := Tups.new (o := .lst (List.replicate n0.toNat us).flatten) np
      exact k _ _ _ _ tn (.ref p) (rm.new (mo := .lst (repT n0.toNat xs)) np ⟨_, upd_same, (r.rep _).mv tn⟩) (h p (rm.free np))
    · exact h.elim
  · exact h.elim) ha hb
end
/-! ### == of data, turned about -/
mutual
theorem eqv_comm : ∀ d e : PyData, PyData.eqv d e = PyData.eqv e d
  | .none, e => by cases e <;> rfl
  | .bool a, e => by cases e <;> first | rfl | exact Bool.beq_comm | (simp only [PyData.eqv]; exact BEq.comm)
  | .int a, e => by cases e <;> first | rfl | (simp only [PyData.eqv]; exact BEq.comm)
  | .str a, e => by cases e <;> first | rfl | (simp only [PyData.eqv]; exact BEq.comm)
  | .list xs, .list ys => by
    simp only [PyData.eqv]
    exact eqvAll_comm xs ys
  | .tuple xs, .tuple ys => by
    simp only [PyData.eqv]
    exact eqvAll_comm xs ys
  | .list xs, .none => rfl
  | .list xs, .bool _ => rfl
  | .list xs, .int _ => rfl
  | .list xs, .str _ => rfl
  | .list xs, .tuple _ => rfl
  | .list xs, .dict _ => rfl
  | .tuple xs, .none => rfl
  | .tuple xs, .bool _ => rfl
  | .tuple xs, .int _ => rfl
  | .tuple xs, .str _ => rfl
  | .tuple xs, .list _ => rfl
  | .tuple xs, .dict _ => rfl
  | .dict _, e => by cases e <;> rfl
theorem eqvAll_comm : ∀ xs ys : List PyData, PyData.eqvAll xs ys = PyData.eqvAll ys xs
  | [], [] => rfl
  | [], _ :: _ => rfl
  | _ :: _, [] => rfl
  | x :: xs, y :: ys => by
    show (PyData.eqv x y && PyData.eqvAll xs ys) = (PyData.eqv y x && PyData.eqvAll ys xs)
    rw [eqv_comm x y, eqvAll_comm xs ys]
end
end L3
set_option Elab.async false
set_option linter.all false
set_option maxRecDepth 100000
set_option maxHeartbeats 1000000
set_option autoImplicit false
namespace G
open PySem PySem.Spec PyProof.Rows L2
section
variable {X : Cx}
/-- len(s), s a set of texts -/
def rLenS (P : Program) (w : World) : List V → Hp → VK → Prop := fun vs H Q => ∃ (a : Addr) (S : Str → Bool) (n : Nat), vs = [.ref a] ∧ H a = some (SetS P w a S n) ∧ n < 100000 ∧
  ∀ ys : List Str, ys.Nodup → (∀ k, k ∈ ys ↔ S k = true) → ys.length = n → Q (.int n) H
theorem cr_lenS : CallR X (.builtin "len") (rLenS X.prog X.w) := by
  intro pins s σ H vs us Q I r h
  obtain ⟨a, S, n, rfl, ha, hn, q⟩ := h
  obtain ⟨u, rfl, ru⟩ := vals1 r
  cases ru
  obtain ⟨o, es, ep, t, ho, ex, dt, el, ap, mm, ⟨bd, ft, sz⟩, rs, ld⟩ := (I.hok a _ ha).1
  have key : ∀ e ∈ es.toList, ∃ x tk, e.2 = Value.str x tk := fun e he => by
    obtain ⟨⟨k, ik, _⟩, _⟩ := el e he
    obtain ⟨_, tk, ev⟩ := is_tx ik
    exact ⟨k, tk, ev⟩
  have once : (es.toList.map fun e => txOf e.2).Nodup := by
    refine List.pairwise_map.mpr (List.Pairwise.imp_of_mem (fun {x y} hx hy z e => ?_) ap)
    obtain ⟨b1, t1, e1⟩ := key x hx
    obtain ⟨b2, t2, e2⟩ := key y hy
    rw [e1, e2] at z e
    have e : b1 = b2 := e
    subst e
    exact z b1 (strKind_is _ _ _ _) (strKind_is _ _ _ _)
  have just : ∀ k, k ∈ (es.toList.map fun e => txOf e.2) ↔ S k = true := fun k => by
    rw [mm k, List.mem_map]
    constructor
    · rintro ⟨e, he, rfl⟩
      obtain ⟨b1, t1, e1⟩ := key e he
      exact ⟨e, he, by rw [e1]; exact strKind_is _ _ _ _⟩
    · rintro ⟨e, he, ik⟩
      exact ⟨e, he, (is_tx ik).1⟩
  refine call_len_set ho ex dt ft (by rw [sz]; omega) ⟨.int n, H, I.tok _, ⟨_, by rw [sz]⟩, q _ once just (by rw [List.length_map, Array.length_toList]; exact sz)⟩
end
end G
namespace L3
open PySem PySem.Spec PyProof.Rows L2
section
variable {X : Cx} {H0 : Hp} {a b e o tg : Expr} {es : List Expr} {pos p p2 p3 apos cpos : Pos} {ma mb m mo : E3} {mA mB : B3} {mAs : A3}
/-! ### len(set(texts)) -/
def eLenSet (m : E3) : E3 := fun τ M R => m τ M fun x M1 => ∃ ws : List Str, (x = .tup (ws.map T.str) ∨ ∃ a, x = .ref a ∧ M1 a = some (.lst (ws.map T.str))) ∧ ws.length < 4000 ∧ ∀ ys : List Str, ys.Nodup → (∀ k, k ∈ ys ↔ k ∈ ws) → R (.int ys.length) M1
theorem le_lenset (hc : X.calm = true) (hg : Gl X "len") (hm : X.mg "len" = none) (hg2 : Gl X "set") (hm2 : X.mg "set" = none) (he : LE X H0 e m)
    (he1 : starEach [.Call (.Name "set" p2) [e] [] p3] X.env = (false, eval (.Call (.Name "set" p2) [e] [] p3) X.env) :: starEach [] X.env := by rfl) (hpl : (backTo pos (starEach [] X.env)).any (·.1) = false := by rfl)
    (he2 : starEach [e] X.env = (false, eval e X.env) :: starEach [] X.env := by rfl) (hpl2 : (backTo p3 (starEach [] X.env)).any (·.1) = false := by rfl) : LE X H0 (.Call (.Name "len" p) [.Call (.Name "set" p2) [e] [] p3] [] pos) (eLenSet m) := by
  obtain ⟨_, pe, se⟩ := he.ex
  refine ⟨_, pe_callB G.cr_lenS hg hm (by decide +kernel) (pa_cons (pe_callTy (G.cr_setS hc) hg2 hm2 (by decide +kernel) (pa_cons pe pa_nil he2) (by decide) (by decide) he2 hpl2) pa_nil he1) (by decide) (by decide) he1 hpl, fun τ M R σ H Q h t rs rm k => se τ M _ σ H _ h t rs rm fun x H1 tx M1 t1 rx rm1 h1 => ?_⟩
  obtain ⟨ws, hx, hl, h1⟩ := h1
  have fin : ∀ p c, H1 p = none → c ≤ ws.length → ∃ (a : Addr) (S : Str → Bool) (n : Nat), [V.ref p] = [.ref a] ∧ (upd H1 p (G.SetS X.prog X.w p (fun j => decide (j ∈ ws)) c)) a = some (G.SetS X.prog X.w a S n) ∧ n < 100000 ∧
      ∀ ys : List Str, ys.Nodup → (∀ k, k ∈ ys ↔ S k = true) → ys.length = n → Q (.int n) (upd H1 p (G.SetS X.prog X.w p (fun j => decide (j ∈ ws)) c)) := fun p c np hc => by
    refine ⟨p, _, c, rfl, upd_same, by omega, fun ys h2 h3 h4 => ?_⟩
    have h3 : ∀ k, k ∈ ys ↔ k ∈ ws := fun k => by rw [h3 k, decide_eq_true_eq]
    subst h4
    exact k _ _ _ _ (t1.trans (Tups.new np)) (.int _) (rm1.new0 np) (h1 ys h2 h3)
  have hb : ws.length + 1 < scanBound := by unfold scanBound; omega
  rcases hx with rfl | ⟨a, rfl, q⟩
  · cases rx with
    | tup e r =>
      cases rps_str r
      exact ⟨_, ws, rfl, .inr (SqT.of e), hb, fin⟩
  · cases rx
    obtain ⟨us, e, r⟩ := rm1 _ _ q
    cases rps_str r
    exact ⟨_, ws, rfl, .inl (SqL.of e), hb, fin⟩
/-! ### xs.pop() -/
def mPop : M3 := fun x ts M R => match x, ts with
  | .ref a, [] => ∃ (xs : List T) (y : T), M a = some (.lst (xs ++ [y])) ∧ R y (up M a (.lst xs))
  | _, _ => False
theorem Rps.snoc_inv {H : Hp} {y : T} : ∀ {xs : List T} {vs : List V}, Rps H (xs ++ [y]) vs → ∃ us v, vs = us ++ [v] ∧ Rps H xs us ∧ Rp H y v
  | [], _, .cons r .nil => ⟨[], _, rfl, .nil, r⟩
  | x :: xs, _, .cons r rs => by
    obtain ⟨us, v, e, h1, h2⟩ := Rps.snoc_inv (xs := xs) rs
    subst e
    exact ⟨_ :: us, v, rfl, .cons r h1, h2⟩
theorem sm_pop : SM rPop mPop := fun x xs tx ts H M R Q h rx rv rm k => by
  unfold mPop at h
  split at h
  · rename_i a
    cases rx
    cases rv
    obtain ⟨zs, y, q, h⟩ := h
    obtain ⟨us, e, r1⟩ := rm _ _ q
    obtain ⟨vs, v, rfl, r2, r3⟩ := Rps.snoc_inv r1
    have nt : NT H a := ⟨_, e, rfl⟩
    refine ⟨a, _, v, rfl, rfl, e, by simp, ?_⟩
    rw [List.dropLast_concat]
    exact k _ _ _ _ (.put nt) (r3.mv (.put nt)) (rm.put (mo := .lst zs) nt ⟨_, upd_same, r2.mv (.put nt)⟩) h
  · exact h.elim
theorem le_pop (ho : LE X H0 o mo) (hbase : attributeBase o "pop" X.env (eval o X.env) = eval o X.env := by rfl) (hline : (apos.endLine == cpos.line) = true := by rfl) : LE X H0 (.Call (.Attribute o "pop" apos) [] [] cpos) (eML mPop mo aNil) := le_ml0 PySem.F.slot_list_pop PySem.F.type_list_pop mt_pop sm_pop ho hbase hline
end
end L3
set_option Elab.async false
set_option linter.all false
set_option maxRecDepth 100000
set_option maxHeartbeats 1000000
set_option autoImplicit false
namespace L3
open PySem PySem.Spec PyProof.Rows L2
section
variable {X : Cx} {H0 : Hp} {a b e o tg : Expr} {es : List Expr} {pos p p2 p3 apos cpos : Pos} {ma mb m mo : E3} {mA mB : B3} {mAs : A3}
/-! ### a slice of the script -/
theorem rps_ints {H : Hp} : ∀ ns : List Int, Rps H (ns.map T.int) (ns.map V.int)
  | [] => .nil
  | n :: ns => .cons (.int n) (rps_ints ns)
def oSlS (K : Fg) (x : T) (lo hi : Option Int) (M : Mh) (R : K3) : Prop := match x with
  | .scr K' ns => K' = K ∧ ∀ p, M p = none → R (.ref p) (up M p (.lst ((cut ns lo hi).map T.int)))
  | _ => False
def eSlS (K : Fg) (m : E3) (l u : P3) : E3 := fun τ M R => m τ M fun x M1 => l τ M1 fun lo M2 => u τ M2 fun hi M3 => oSlS K x lo hi M3 R
theorem cutV_ints (ns : List Int) (lo hi : Option Int) : cutV (ns.map V.int) lo hi = (cut ns lo hi).map V.int := by
  unfold cutV cut
  rw [List.length_map, List.map_take, List.map_drop]
theorem le_sliceS {lo hi : Option Expr} {ml mh : P3} (he : LE X H0 e m) (hl : LP X H0 lo ml) (hh : LP X H0 hi mh) : LE X H0 (.Subscript e (.Slice lo hi none p2) pos) (eSlS X.K m ml mh) := by
  obtain ⟨_, p, s⟩ := he.ex
  obtain ⟨_, pl, sl⟩ := hl.ex
  obtain ⟨_, ph, sh⟩ := hh.ex
  refine ⟨_, pe_slice sl_list p pl ph, fun τ M R σ H Q h t rs rm k => s τ M _ σ H _ h t rs rm fun x H1 tx M1 t1 rx rm1 h1 => sl τ M1 _ σ H1 _ h1 (t.trans t1) (rs.mv t1) rm1 fun lo H2 M2 t2 rm2 h2 => sh τ M2 _ σ H2 _ h2 (t.trans (t1.trans t2)) (rs.mv (t1.trans t2)) rm2 fun hi H3 M3 t3 rm3 h3 => ?_⟩
  have rx3 := rx.mv (t2.trans t3)
  have k3 := k.mv (t1.trans (t2.trans t3))
  unfold oSlS at h3
  split at h3
  · rename_i K' ns
    obtain ⟨rfl, h3⟩ := h3
    cases rx3 with
    | scr q =>
      refine ⟨_, ns.map V.int, rfl, q.sq, fun p np => ?_⟩
      have e2 : cutV (ns.map V.int) lo hi = (cut ns lo hi).map V.int := cutV_ints ns lo hi
      rw [e2]
      exact k3 _ _ _ _ (.new np) (.ref p) (rm3.new (mo := .lst ((cut ns lo hi).map T.int)) np ⟨_, upd_same, rps_ints _⟩) (h3 p (rm3.free np))
  · exact h3.elim
end
end L3
set_option Elab.async false
set_option linter.all false
set_option maxRecDepth 100000
set_option maxHeartbeats 1000000
set_option autoImplicit false
namespace L3
open PySem PySem.Spec PyProof.Rows L2
section
variable {X : Cx} {H0 : Hp} {a b e o tg : Expr} {es : List Expr} {pos p p2 p3 apos cpos : Pos} {ma mb m mo : E3} {mA mB : B3} {mAs : A3}
/-! ### a text times an int -/
theorem op_mulS : OpR X (binaryOp .Mult) (fun x y H Q => ∃ i n, x = .str i ∧ y = .int n ∧ MulOk i n ∧ Q (.str (Txt.mul i n)) H) := by
  intro pins s σ H x y v u Q I rx ry h
  obtain ⟨i, n, rfl, rfl, hk, q⟩ := h
  obtain ⟨t, rfl⟩ := rx
  obtain ⟨t', rfl⟩ := ry
  exact SB.mul hk fun t' tk => ⟨.str (Txt.mul i n), H, I.tok _, ⟨_, rfl⟩, q⟩
def oMulS : O3 := fun x y M R => match x, y with
  | .str i, .int n => MulOk i n ∧ R (.str (Txt.mul i n)) M
  | _, _ => False
theorem le_mulS (ha : LE X H0 a ma) (hb : LE X H0 b mb) : LE X H0 (.BinOp a .Mult b pos) (eOp oMulS ma mb) := le_op op_mulS (fun x y tx ty H M R Q h rx ry rm k => by
  unfold oMulS at h
  split at h
  · cases rx; cases ry
    exact ⟨_, _, rfl, rfl, h.1, k.at (.str _) rm h.2⟩
  · exact h.elim) ha hb
end
/-- blanks, two for each step -/
def blT (k : Nat) : Str := ⟨(List.replicate (2 * k) 32).toArray⟩
theorem blT_len (k : Nat) : (blT k).length = 2 * k := by
  unfold blT Str.length
  simp
theorem blanks_ok {k : Nat} (h : k ≤ 4) : MulOk (Str.ofString "  ") (k : Int) ∧ Txt.mul (Str.ofString "  ") (k : Int) = blT k := by
  rcases (show k = 0 ∨ k = 1 ∨ k = 2 ∨ k = 3 ∨ k = 4 by omega) with rfl | rfl | rfl | rfl | rfl
  all_goals (refine ⟨⟨by decide, ?_, ?_⟩, by decide +kernel⟩ <;> decide +kernel)
end L3
set_option Elab.async false
set_option linter.all false
set_option maxRecDepth 100000
set_option maxHeartbeats 1000000
set_option autoImplicit false
namespace L3
open PySem PySem.Spec PyProof.Rows L2
section
variable {X : Cx} {H0 : Hp} {a b c e o tg : Expr} {es : List Expr} {pos p p2 p3 apos cpos : Pos} {ma mb m mo : E3} {mA mB : B3} {mAs : A3} {m1 : S3}
/-! ### a text's method of one text -/
abbrev X2 := Str → Str → Mh → K3 → Prop
def eM1 (x2 : X2) (mo me : E3) : E3 := fun τ M R => mo τ M fun x M1 => match x with
  | .str a => me τ M1 fun y M2 => match y with
    | .str b => x2 a b M2 R
    | _ => False
  | _ => False
def SX2 (r : V → List V → Hp → VK → Prop) (x2 : X2) : Prop := ∀ a b H M R Q, x2 a b M R → RM H M → KR H R Q → r (.str a) [.str b] H Q
theorem le_m1 {id : String} {name : Str} {r : V → List V → Hp → VK → Prop} {x2 : X2} (slot : Slot "str" name id) (ty : typeOf (.builtin id) = pure (.type "method_descriptor")) (rule : MtR X id r) (sx : SX2 r x2) (ho : LE X H0 o mo) (he : LE X H0 e m)
    (hs : starEach [e] X.env = [(false, eval e X.env)] := by rfl) (hbase : attributeBase o name X.env (eval o X.env) = eval o X.env := by rfl) (hline : (apos.endLine == pos.line) = true := by rfl) : LE X H0 (.Call (.Attribute o name apos) [e] [] pos) (eM1 x2 mo m) := by
  obtain ⟨_, po, so⟩ := ho.ex
  obtain ⟨_, pe, se⟩ := he.ex
  refine ⟨_, pe_m1 slot ty rule po pe hs hbase hline, fun τ M R σ H Q h t rs rm k => so τ M _ σ H _ h t rs rm fun x H1 tx M1 t1 rx rm1 h1 => ?_⟩
  cases tx with
  | str z =>
    cases rx
    refine ⟨⟨z, rfl⟩, se τ M1 _ σ H1 _ h1 (t.trans t1) (rs.mv t1) rm1 fun y H2 ty M2 t2 ry rm2 h2 => ?_⟩
    cases ty with
    | str w =>
      cases ry
      exact sx z w H2 M2 R Q h2 rm2 (k.mv (t1.trans t2))
    | _ => exact h2.elim
  | _ => exact h1.elim
def xPart : X2 := fun a b M R => (b.length == 0) = false ∧ a.length ≤ sizeLine ∧ R (.tup [.str (Txt.partition a b).1, .str (Txt.partition a b).2.1, .str (Txt.partition a b).2.2]) M
theorem le_partition (ho : LE X H0 o mo) (he : LE X H0 e m) (hs : starEach [e] X.env = [(false, eval e X.env)] := by rfl) (hbase : attributeBase o "partition" X.env (eval o X.env) = eval o X.env := by rfl) (hline : (apos.endLine == pos.line) = true := by rfl) : LE X H0 (.Call (.Attribute o "partition" apos) [e] [] pos) (eM1 xPart mo m) :=
  le_m1 PySem.F.slot_str_partition PySem.F.type_str_partition mt_partition (fun a b H M R Q h rm k => ⟨a, b, rfl, rfl, h.1, h.2.1, fun p np => k _ _ _ M (.new np) (.tup upd_same (.cons (.str _) (.cons (.str _) (.cons (.str _) .nil)))) (rm.new0 np) h.2.2⟩) ho he hs hbase hline
def xSplit : X2 := fun a b M R => (b.length == 0) = false ∧ a.length + 2 ≤ sizeLine ∧ ∀ p, M p = none → R (.ref p) (up M p (.lst ((Txt.split a b).map T.str)))
theorem le_split (ho : LE X H0 o mo) (he : LE X H0 e m) (hs : starEach [e] X.env = [(false, eval e X.env)] := by rfl) (hbase : attributeBase o "split" X.env (eval o X.env) = eval o X.env := by rfl) (hline : (apos.endLine == pos.line) = true := by rfl) : LE X H0 (.Call (.Attribute o "split" apos) [e] [] pos) (eM1 xSplit mo m) :=
  le_m1 PySem.F.slot_str_split PySem.F.type_str_split mt_split (fun a b H M R Q h rm k => ⟨a, b, rfl, rfl, h.1, h.2.1, fun p np => k _ _ _ _ (.new np) (.ref p) (rm.new (mo := .lst ((Txt.split a b).map T.str)) np ⟨_, upd_same, rps_of (fun _ => .str _) _⟩) (h.2.2 p (rm.free np))⟩) ho he hs hbase hline
def xPure (f : Str → Str → Str) : X2 := fun a b M R => a.length ≤ sizeLine ∧ R (.str (f a b)) M
theorem le_removeprefix (ho : LE X H0 o mo) (he : LE X H0 e m) (hs : starEach [e] X.env = [(false, eval e X.env)] := by rfl) (hbase : attributeBase o "removeprefix" X.env (eval o X.env) = eval o X.env := by rfl) (hline : (apos.endLine == pos.line) = true := by rfl) : LE X H0 (.Call (.Attribute o "removeprefix" apos) [e] [] pos) (eM1 (xPure Txt.removeprefix) mo m) :=
  le_m1 PySem.F.slot_str_removeprefix PySem.F.type_str_removeprefix mt_removeprefix (fun a b H M R Q h rm k => ⟨a, b, rfl, rfl, h.1, k.at (.str _) rm h.2⟩) ho he hs hbase hline
theorem le_lstrip (ho : LE X H0 o mo) (he : LE X H0 e m) (hs : starEach [e] X.env = [(false, eval e X.env)] := by rfl) (hbase : attributeBase o "lstrip" X.env (eval o X.env) = eval o X.env := by rfl) (hline : (apos.endLine == pos.line) = true := by rfl) : LE X H0 (.Call (.Attribute o "lstrip" apos) [e] [] pos) (eM1 (xPure Txt.lstripChars) mo m) :=
  le_m1 PySem.F.slot_str_lstrip PySem.F.type_str_lstrip mt_lstripChars (fun a b H M R Q h rm k => ⟨a, b, rfl, rfl, h.1, k.at (.str _) rm h.2⟩) ho he hs hbase hline
def xStarts : X2 := fun a b M R => R (.bl (Txt.startswith a b)) M
theorem le_startswith (ho : LE X H0 o mo) (he : LE X H0 e m) (hs : starEach [e] X.env = [(false, eval e X.env)] := by rfl) (hbase : attributeBase o "startswith" X.env (eval o X.env) = eval o X.env := by rfl) (hline : (apos.endLine == pos.line) = true := by rfl) : LE X H0 (.Call (.Attribute o "startswith" apos) [e] [] pos) (eM1 xStarts mo m) :=
  le_m1 PySem.F.slot_str_startswith PySem.F.type_str_startswith mt_startswith (fun a b H M R Q h rm k => ⟨a, b, rfl, rfl, k.at (.bl _) rm h⟩) ho he hs hbase hline
/-! ### int(text) -/
def cIntS : C3 := fun ts M R => match ts with
  | [.str a] => ∃ n, PySem.intText? a = some n ∧ a.length ≤ 640 ∧ R (.int n) M
  | _ => False
theorem le_intS (hg : Gl X "int") (hm : X.mg "int" = none) (ha : LA X H0 [e] mAs) (he : starEach [e] X.env = (false, eval e X.env) :: starEach [] X.env := by rfl) (hpl : (backTo pos (starEach [] X.env)).any (·.1) = false := by rfl) : LE X H0 (.Call (.Name "int" p) [e] [] pos) (eCB cIntS mAs) := le_cT call_int_str (fun vs ts H M R Q h rv rm k => by
  unfold cIntS at h
  split at h
  · cases rv with
    | cons r rr =>
      cases r; cases rr
      obtain ⟨n, h1, h2, h3⟩ := h
      exact ⟨_, n, rfl, h1, h2, k.at (.int _) rm h3⟩
  · exact h.elim) hg hm (by decide +kernel) ha (by decide) (by decide) he hpl
/-! ### name += e -/
def sAug (i : Nat) (m : E3) : S3 := fun D τ M => match τ[i]? with
  | some (some (.int x)) => m τ M fun y M1 => (match y with
    | .int z => D.nx (τ.set i (some (.int (x + z)))) M1
    | _ => False)
  | _ => False
theorem ls_aug {i : Nat} {x : Str} {pos' : Pos} (hN : X.N.Nodup) (hi : X.N[i]? = some x) (hx : Loc X.env.scope x) (he : LE X H0 e m) (hf : X.fn x = true ∨ X.env.scope.names.lookup x = some .local := by first | exact .inl rfl | exact .inr rfl | assumption) : LS X H0 (.AugAssign (.Name x pos') .Add e pos) (sAug i m) := by
  obtain ⟨_, pe, se⟩ := he.ex
  refine ⟨_, ps_aug hN hi hx pe ip_add hf, fun D3 D τ M σ H h t rs rm k => ?_⟩
  unfold sAug at h
  split at h
  · rename_i z q
    obtain ⟨v, hv, rv⟩ := rs.at_ i _ q
    cases rv
    refine ⟨_, hv, se τ M _ σ H _ h t rs rm fun y H1 ty M1 t1 ry rm1 h1 => ?_⟩
    cases ty with
    | int w =>
      cases ry
      exact ⟨_, _, rfl, rfl, k.nx _ H1 _ M1 t1 ((rs.mv t1).set (.int _)) rm1 h1⟩
    | _ => exact h1.elim
  · exact h.elim
/-! ### a try that runs through -/
theorem ls_thru {body : List Stmt} {h₀ : ExceptHandler} {hs : List ExceptHandler} (hb : LSs X.nox H0 body m1) : LS X H0 (.Try body (h₀ :: hs) [] [] pos) m1 := let ⟨_, p, s⟩ := hb.ex; ⟨_, ps_try_thru0 p, s⟩
/-! ### range with a step -/
def rngC (lo c : Int) (n : Nat) : List T := (List.range n).map fun (k : Nat) => T.int (lo + (k : Nat) * c)
theorem rngC_len (lo c : Int) (n : Nat) : (rngC lo c n).length = n := by unfold rngC; rw [List.length_map, List.length_range]
theorem walkT_rangeC {H1 : Hp} {lo c : Int} {n : Nat} : WalkT H1 (Itc lo c n) (rngC lo c n) (fun _ => True) where
  goes := fun i H M hi t rm g => by rw [rngC_len] at hi; exact hi
  stops := fun H M t rm g => by rw [rngC_len]; exact Nat.le_refl _
  yields := fun i H M x H' hi t rm g y => by
    obtain ⟨rfl, rfl⟩ := y
    rw [rngC_len] at hi
    refine ⟨_, ?_, .refl, .int _, rm, fun _ n => n⟩
    unfold rngC
    rw [List.getElem?_map, List.getElem?_range hi]
    rfl
def iR3 (m : A3) : I3 := fun τ M R => m τ M fun ts M1 => match ts with
  | [.int i, .int j, .int c] => ∃ n, RgC i j c n ∧ R (rngC i c n) (fun _ => True) M1
  | _ => False
theorem li_range3 (hg : Gl X "range") (hm : X.mg "range" = none) (ha : LA X H0 [a, b, c] mAs) (hs : starEach [a, b, c] X.env = (false, eval a X.env) :: starEach [b, c] X.env := by rfl) (hpl : (backTo pos (starEach [b, c] X.env)).any (·.1) = false := by rfl) : LI X H0 tg (.Call (.Name "range" p) [a, b, c] [] pos) (iR3 mAs) := by
  obtain ⟨_, pa, s⟩ := ha.ex
  refine ⟨_, pi_range3 hg hm pa hs hpl, fun τ M R σ H Q h t rs rm k => s τ M _ σ H _ h t rs rm fun vs H1 ts M1 l t1 rv rm1 h1 => ?_⟩
  split at h1
  · rename_i i j c
    cases rv with
    | cons r rr =>
      cases r
      cases rr with
      | cons r rr =>
        cases r
        cases rr with
        | cons r rr =>
          cases r
          cases rr
          obtain ⟨n, h2, h3⟩ := h1
          exact ⟨i, j, c, n, rfl, h2, k _ H1 _ _ M1 t1 rm1 walkT_rangeC h3⟩
  · exact h1.elim
end
end L3
set_option Elab.async false
set_option linter.all false
set_option maxRecDepth 100000
set_option maxHeartbeats 1000000
set_option autoImplicit false
namespace L3
open PySem PySem.Spec PyProof.Rows L2
section
variable {X : Cx} {H0 : Hp} {a b c e o tg : Expr} {es : List Expr} {pos p p2 p3 apos cpos : Pos} {ma mb m mo : E3} {mA mB : B3} {mAs : A3} {m1 : S3}
/-! ### sorted(texts) -/
def cSortS : C3 := fun ts M R => match ts with
  | [.ref a] => ∃ ws : List Str, M a = some (.lst (ws.map T.str)) ∧ ws.length < 64 ∧ ∀ ys : List Str, ys.Perm ws → sortedS ys = true → ∀ p, M p = none → R (.ref p) (up M p (.lst (ys.map T.str)))
  | _ => False
theorem le_sortedS (hg : Gl X "sorted") (hm : X.mg "sorted" = none) (ha : LA X H0 [e] mAs) (he : starEach [e] X.env = (false, eval e X.env) :: starEach [] X.env := by rfl) (hpl : (backTo pos (starEach [] X.env)).any (·.1) = false := by rfl) : LE X H0 (.Call (.Name "sorted" p) [e] [] pos) (eCB cSortS mAs) := le_cB cr_sortedS (fun vs ts H M R Q h rv rm k => by
  unfold cSortS at h
  split at h
  · cases rv with
    | cons r rr =>
      cases r; cases rr
      obtain ⟨ns, e, hl, h⟩ := h
      obtain ⟨ws, e2, r2⟩ := rm _ _ e
      cases rps_str r2
      exact ⟨_, ns, rfl, SqL.of e2, hl, fun ns' p h1 h2 np => k _ _ _ _ (.new np) (.ref p) (rm.new (mo := .lst (ns'.map T.str)) np ⟨_, upd_same, rps_of (fun _ => .str _) _⟩) (h ns' h1 h2 p (rm.free np))⟩
  · exact h.elim) hg hm (by decide +kernel) ha (by decide) (by decide) he hpl
end
theorem srt_perm {ws ys : List Str} (h1 : ys.Perm ws) (h2 : sortedS ys = true) (nd : ws.Nodup) : ys = srt ws := srt_of h2 (h1.nodup_iff.mpr nd) fun k => h1.mem_iff
theorem srt_idem {ws : List Str} (h : SrtOk ws) : srt (srt ws) = srt ws := (srt_of h.1 h.2.1 fun k => Iff.rfl).symm
end L3
set_option Elab.async false
set_option linter.all false
set_option maxRecDepth 100000
set_option maxHeartbeats 1000000
set_option autoImplicit false
namespace L3
open PySem PySem.Spec PyProof.Rows L2
section
variable {X : Cx} {H0 : Hp} {a b c e o tg : Expr} {es : List Expr} {pos p p2 p3 apos cpos : Pos} {ma mb m mo : E3} {mA mB : B3} {mAs : A3} {m1 : S3}
theorem le_removesuffix (ho : LE X H0 o mo) (he : LE X H0 e m) (hs : starEach [e] X.env = [(false, eval e X.env)] := by rfl) (hbase : attributeBase o "removesuffix" X.env (eval o X.env) = eval o X.env := by rfl) (hline : (apos.endLine == pos.line) = true := by rfl) : LE X H0 (.Call (.Attribute o "removesuffix" apos) [e] [] pos) (eM1 (xPure Txt.removesuffix) mo m) :=
  le_m1 PySem.F.slot_str_removesuffix PySem.F.type_str_removesuffix mt_removesuffix (fun a b H M R Q h rm k => ⟨a, b, rfl, rfl, h.1, k.at (.str _) rm h.2⟩) ho he hs hbase hline
def xCount : X2 := fun a b M R => R (.int (Txt.count a b)) M
theorem le_count (ho : LE X H0 o mo) (he : LE X H0 e m) (hs : starEach [e] X.env = [(false, eval e X.env)] := by rfl) (hbase : attributeBase o "count" X.env (eval o X.env) = eval o X.env := by rfl) (hline : (apos.endLine == pos.line) = true := by rfl) : LE X H0 (.Call (.Attribute o "count" apos) [e] [] pos) (eM1 xCount mo m) :=
  le_m1 PySem.F.slot_str_count PySem.F.type_str_count mt_count (fun a b H M R Q h rm k => ⟨a, b, rfl, rfl, k.at (.int _) rm h⟩) ho he hs hbase hline
/-! ### a sign in a text -/
def oInC (f : Bool → Bool) : O3 := fun x y M R => match x, y with
  | .str i, .str z => ∃ c : Nat, i = ⟨#[c]⟩ ∧ R (.bl (f (decide (c ∈ z.cps.toList)))) M
  | _, _ => False
theorem c_inC : OK3 X (compareOp .In) (oInC id) := ⟨_, op_in_sign, fun x y tx ty H M R Q h rx ry rm k => by
  unfold oInC at h
  split at h
  · cases rx; cases ry
    obtain ⟨c, rfl, h⟩ := h
    exact ⟨c, _, rfl, rfl, k.at (.bl _) rm h⟩
  · exact h.elim⟩
theorem c_notinC : OK3 X (compareOp .NotIn) (oInC not) := ⟨_, op_notIn_sign, fun x y tx ty H M R Q h rx ry rm k => by
  unfold oInC at h
  split at h
  · cases rx; cases ry
    obtain ⟨c, rfl, h⟩ := h
    exact ⟨c, _, rfl, rfl, k.at (.bl _) rm h⟩
  · exact h.elim⟩
end
end L3
set_option Elab.async false
set_option linter.all false
set_option maxRecDepth 100000
set_option maxHeartbeats 1000000
set_option autoImplicit false
namespace L3
open PySem PySem.Spec PyProof.Rows L2
/-! d.get(k, x); for k, v in d.items(); a def with values given ahead -/
section
variable {X : Cx} {H0 : Hp} {a b c e f o tg : Expr} {es : List Expr} {pos apos cpos p p2 : Pos} {ma mb mc m mo : E3} {m1 : S3} {mA mB : B3} {mAs : A3}
def isDc (M : Mh) : T → Prop
  | .ref a => (∃ kvs, M a = some (.dK kvs)) ∨ (∃ kvs, M a = some (.dT kvs)) ∨ ∃ od kvs, M a = some (.lkK od kvs)
  | _ => False
def eGet2 (mo mk mx : E3) : E3 := fun τ M R => mo τ M fun x M1 => isDc M1 x ∧ mk τ M1 fun y M2 => mx τ M2 fun z M3 => match look M3 x y with
  | some r => R (r.getD z) M3
  | none => False
theorem le_dget2 {k : Nat} (hr : Room k X.A) (ho : LE X H0 o mo) (he : LE X H0 e ma) (hf : LE X H0 f mb)
    (m : M2 X o "get" apos e f cpos := by exact ⟨rfl, rfl, rfl, rfl⟩) : LE X H0 (.Call (.Attribute o "get" apos) [e, f] [] cpos) (eGet2 mo ma mb) := by
  obtain ⟨_, po, so⟩ := ho.ex
  obtain ⟨_, pe, se⟩ := he.ex
  obtain ⟨_, pf, sf⟩ := hf.ex
  refine ⟨_, pe_dget2 (hu_of hr) po pe pf m, fun τ M R σ H Q h t rs rm k => so τ M _ σ H _ h t rs rm fun x H1 tx M1 t1 rx rm1 h1 => ?_⟩
  obtain ⟨ha, h1⟩ := h1
  cases tx with
  | ref a => ?_
  | _ => exact ha.elim
  cases rx
  refine ⟨a, rfl, ?_, ?_⟩
  · rcases ha with ⟨kvs, ha⟩ | ⟨kvs, ha⟩ | ⟨od, kvs, ha⟩
    · obtain ⟨us, q, _⟩ := rm1 _ _ ha
      exact .inl ⟨us, .inl q⟩
    · obtain ⟨us, q, _⟩ := rm1 _ _ ha
      exact .inr ⟨us, .inl q⟩
    · obtain ⟨us, q, _⟩ := rm1 _ _ ha
      exact .inl ⟨us, .inr ⟨od, q⟩⟩
  refine se τ M1 _ σ H1 _ h1 (t.trans t1) (rs.mv t1) rm1 fun y H2 ty M2 t2 ry rm2 h2 => sf τ M2 _ σ H2 _ h2 (t.trans (t1.trans t2)) (rs.mv (t1.trans t2)) rm2 fun z H3 tz M3 t3 rz rm3 h3 => ?_
  split at h3
  · rename_i r q
    obtain ⟨b, u, eb, g, r'⟩ := look_get rm3 (Rp.ref a) (ry.mv t3) q
    cases eb
    refine ⟨u, g, ?_⟩
    cases r with
    | none =>
      cases u with
      | none => exact k _ _ _ _ (t1.trans (t2.trans t3)) rz rm3 h3
      | some u => exact r'.elim
    | some w =>
      cases u with
      | none => exact r'.elim
      | some u => exact k _ _ _ _ (t1.trans (t2.trans t3)) r' rm3 h3
  · exact h3.elim
end
/-! ### for k, v in d.items() -/
def itm (kvs : List (Key × T)) : List T := kvs.map fun q => .tup [keyT q.1, q.2]
theorem Rkv.at' {κ : Type} {H : Hp} : ∀ {xs : List (κ × T)} {vs : List (κ × V)} {i : Nat} {k : κ} {v : V}, Rkv H xs vs → vs[i]? = some (k, v) → ∃ t, xs[i]? = some (k, t) ∧ Rp H t v
  | _, _, _, _, _, .nil, e => by simp at e
  | _, _, 0, _, _, .cons r _, e => by
    simp at e
    obtain ⟨rfl, rfl⟩ := e
    exact ⟨_, rfl, r⟩
  | _, _, n + 1, _, _, .cons _ rs, e => by
    obtain ⟨t, h1, h2⟩ := Rkv.at' (i := n) rs (by simpa using e)
    exact ⟨t, by simpa using h1, h2⟩
theorem rp_keyT {H : Hp} (k : Key) : Rp H (keyT k) (kV k) := by cases k <;> constructor
theorem walkT_items {H1 : Hp} {a : Addr} {od : Obj} {us : List (Key × V)} {kvs : List (Key × T)} (r : Rkv H1 kvs us) (hz : H1 a = some (.frz od (.dK us))) : WalkT H1 (Iti a od us) (itm kvs) (fun _ => True) where
  goes := fun i H M hi t rm g => by
    refine ⟨t.frz _ _ _ hz, ?_⟩
    unfold itm at hi
    rw [List.length_map] at hi
    rw [r.len]
    exact hi
  stops := fun H M t rm g => by
    refine ⟨t.frz _ _ _ hz, ?_⟩
    unfold itm
    rw [List.length_map, r.len]
    exact Nat.le_refl _
  yields := fun i H M x H' hi t rm g y => by
    obtain ⟨T', k, v, hk, rfl, n, rfl⟩ := y
    obtain ⟨w, hw, rw'⟩ := r.at' hk
    refine ⟨.tup [keyT k, w], ?_, .new n, .tup upd_same (.cons (rp_keyT k) (.cons ((rw'.mv t).mv (.new n)) .nil)), rm.new0 n, fun p hp => ?_⟩
    · unfold itm
      rw [List.getElem?_map, hw]
      rfl
    · by_cases e : p = T'
      · rw [e]; exact n
      · rw [upd_ne e] at hp
        exact hp
theorem Tups.unlock {H H' : Hp} {a : Addr} {od : Obj} {u : HO} (h : H a = some u) (hn : ntf u = true) (t : Tups (upd H a (.frz od u)) H') : Tups H (upd H' a u) := by
  constructor
  · intro x xs e
    have ne : x ≠ a := fun z => by
      rw [z, h] at e
      cases e
      cases hn
    rw [upd_ne ne]
    exact t.tup _ _ (by rw [upd_ne ne]; exact e)
  · intro x o w e
    have ne : x ≠ a := fun z => by
      rw [z, h] at e
      cases e
      cases hn
    rw [upd_ne ne]
    exact t.frz _ _ _ (by rw [upd_ne ne]; exact e)
/-- tuples and locked lists stand -/
structure Tul (H H' : Hp) : Prop where
  tup : ∀ a xs, H a = some (.tup xs) → H' a = some (.tup xs)
  frz : ∀ a o vs, H a = some (.frz o (.lst vs)) → H' a = some (.frz o (.lst vs))
theorem SqR.mvU {K : PySem.W.Frag} {H H' : Hp} {a : Addr} {ns : List Int} (h : SqR K H a ns) (t : Tul H H') : SqR K H' a ns := h.imp (fun ⟨o, e⟩ => ⟨o, t.frz _ _ _ e⟩) id
mutual
theorem Rp.mvU {H H' : Hp} (t : Tul H H') : ∀ {x : T} {v : V}, Rp H x v → Rp H' x v
  | _, _, .non => .non
  | _, _, .bl b => .bl b
  | _, _, .int i => .int i
  | _, _, .str x => .str x
  | _, _, .ty n => .ty n
  | _, _, .ref a => .ref a
  | _, _, .tup e r => .tup (t.tup _ _ e) (Rps.mvU t r)
  | _, _, .scr h => .scr (h.mvU t)
theorem Rps.mvU {H H' : Hp} (t : Tul H H') : ∀ {xs : List T} {vs : List V}, Rps H xs vs → Rps H' xs vs
  | _, _, .nil => .nil
  | _, _, .cons r rs => .cons (Rp.mvU t r) (Rps.mvU t rs)
end
theorem Rkv.mvU {κ : Type} {H H' : Hp} (t : Tul H H') : ∀ {xs : List (κ × T)} {vs : List (κ × V)}, Rkv H xs vs → Rkv H' xs vs
  | _, _, .nil => .nil
  | _, _, .cons r rs => .cons (r.mvU t) (rs.mvU t)
theorem RO.mvU {H H' : Hp} {a : Addr} {o : MO} (r : RO H a o) (t : Tul H H') (e : H' a = H a) : RO H' a o := by
  cases o with
  | lst ts => obtain ⟨vs, h, q⟩ := r; exact ⟨vs, e.trans h, q.mvU t⟩
  | dK ts => obtain ⟨vs, h, q⟩ := r; exact ⟨vs, e.trans h, q.mvU t⟩
  | dT ts => obtain ⟨vs, h, q⟩ := r; exact ⟨vs, e.trans h, q.mvU t⟩
  | xd ts => obtain ⟨vs, h, q⟩ := r; exact ⟨vs, e.trans h, q.mvU t⟩
  | ins C ts => obtain ⟨dx, vs, h, q⟩ := r; exact ⟨dx, vs, e.trans h, q.mvU t⟩
  | raw o => exact e.trans r
  | lkK od ts => obtain ⟨vs, h, q⟩ := r; exact ⟨vs, e.trans h, q.mvU t⟩
theorem RS.mvU {H H' : Hp} {τ : Ts} {σ : Vs} (r : RS H τ σ) (t : Tul H H') : RS H' τ σ := ⟨r.len, fun i x e => let ⟨v, h, q⟩ := r.at_ i x e; ⟨v, h, q.mvU t⟩⟩
theorem tul_unlock {H : Hp} {a : Addr} {od : Obj} {u u' : HO} (h : H a = some (.frz od u)) (hu : ∀ vs, u ≠ .lst vs) : Tul H (upd H a u') := by
  constructor
  · intro x xs e
    rw [upd_ne (fun z => by rw [z, h] at e; cases e)]
    exact e
  · intro x o vs e
    rw [upd_ne (fun z => by rw [z, h] at e; cases e; exact hu _ rfl)]
    exact e
theorem RM.unlock {H : Hp} {M : Mh} {a : Addr} {od : Obj} {u u' : HO} {mo : MO} (r : RM H M) (h : H a = some (.frz od u)) (hu : ∀ vs, u ≠ .lst vs) (ro : RO (upd H a u') a mo) : RM (upd H a u') (up M a mo) := fun b o e => by
  by_cases z : b = a
  · subst z
    rw [up_same] at e
    cases e
    exact ro
  · rw [up_ne z] at e
    exact (r b o e).mvU (tul_unlock h hu) (upd_ne z)
def sForI (i : Nat) (g : G3) (mb : S3) : S3 := fun D τ M => match τ[i]? with
  | some (some (.ref a)) => (match M a with
    | some (.dK kvs) => ∀ fz, ∃ I : Nat → Ts → Mh → Prop, I 0 τ (up M a (.raw fz)) ∧
      (∀ j x τ M, (itm kvs)[j]? = some x → I j τ M → g x τ M fun τ2 M2 => mb ⟨I (j + 1), fun v M => D.rt v (up M a (.dK kvs)), fun τ M => D.nx τ (up M a (.dK kvs)), I (j + 1)⟩ τ2 M2) ∧ ∀ τ M, I kvs.length τ M → D.nx τ (up M a (.dK kvs))
    | _ => False)
  | _ => False
section
variable {X : Cx} {H0 : Hp} {tg : Expr} {pos apos cpos p p2 : Pos} {m1 : S3}
theorem ls_forI {i : Nat} {x : Str} {body : List Stmt} {elts : List Expr} {kk : Nat} {tpos : Pos} {g : G3} (hp : PassesOwn (model X.prog X.w) X.A X.env X.xe) (hc : X.calm = true) (hN : X.N[i]? = some x) (hv : Vis X.env.scope x) (hd : (x == ("__debug__" : Str)) = false) (hcd : (x == ("__classdict__" : Str)) = false)
    (hg : LG X H0 (.Tuple elts kk tpos) g) (hb : LSs X H0 body m1) (hbase : attributeBase (.Name x p) "items" X.env (eval (.Name x p) X.env) = eval (.Name x p) X.env := by rfl) (hline : (apos.endLine == cpos.line) = true := by rfl)
    (hs : ∀ y, foldedSetIterable (.Call (.Attribute (.Name x p) "items" apos) [] [] cpos) X.env y = pure y := by intro _; rfl) :
    LS X H0 (.For (.Tuple elts kk tpos) (.Call (.Attribute (.Name x p) "items" apos) [] [] cpos) body [] pos) (sForI i g m1) := by
  obtain ⟨_, pg, sg⟩ := hg.ex
  obtain ⟨_, pb, sb⟩ := hb.ex
  refine ⟨_, ps_lock (ps_for hp hc (pi_items (pe_var hN hv hd hcd) hbase hline) pg pb hs), fun D3 D τ M σ H h t rs rm k => ?_⟩
  unfold sForI at h
  split at h
  · rename_i a hτ
    split at h
    · rename_i kvs hM
      obtain ⟨us, hH, r⟩ := rm _ _ hM
      refine ⟨a, .dK us, hH, trivial, fun od => ?_⟩
      have hn : NT H a := ⟨_, hH, rfl⟩
      have t1 : Tups H (upd H a (.frz od (.dK us))) := .put hn
      have hz : (upd H a (.frz od (.dK us))) a = some (.frz od (.dK us)) := upd_same
      have rs1 := rs.mv t1
      have rm1 : RM (upd H a (.frz od (.dK us))) (up M a (.raw (.frz od (.dK us)))) := rm.put hn upd_same
      have w := walkT_items (r.mv t1) hz
      obtain ⟨I, i0, is, ie⟩ := h (.frz od (.dK us))
      have unl : ∀ {H' : Hp}, Tups (upd H a (.frz od (.dK us))) H' → Tups H (upd H' a (.dK us)) := fun t' => t'.unlock hH rfl
      generalize upd H a (.frz od (.dK us)) = H1 at t1 hz rs1 rm1 w unl ⊢
      obtain ⟨v, hσ, rv⟩ := rs1.at_ _ _ hτ
      cases rv
      have un : ∀ {H' : Hp}, Tups H1 H' → H' a = some (.frz od (.dK us)) ∧ Tul H' (upd H' a (.dK us)) ∧ (∀ {M' : Mh}, RM H' M' → RM (upd H' a (.dK us)) (up M' a (.dK kvs))) := fun {H'} t' => by
        have e := t'.frz _ _ _ hz
        exact ⟨e, tul_unlock e (fun _ => nofun), fun {M'} rm' => rm'.unlock e (fun _ => nofun) ⟨us, upd_same, ((r.mv t1).mv t').mvU (tul_unlock e (fun _ => nofun))⟩⟩
      have hit : (itm kvs).length = kvs.length := by unfold itm; rw [List.length_map]
      refine ⟨_, hσ, a, od, us, rfl, hz, ?_⟩
      refine ⟨fun j m σ H => m = (itm kvs).length - j ∧ j ≤ (itm kvs).length ∧ ∃ τ M, Tups H1 H ∧ RS H τ σ ∧ RM H M ∧ I j τ M, ⟨_, rfl, Nat.zero_le _, τ, _, .refl, rs1, rm1, i0⟩, ?_⟩
      rintro j m σ H ⟨rfl, hj, τ, M, t2, rs2, rm2, hI⟩
      by_cases hlt : j < (itm kvs).length
      · refine .inr ⟨w.goes j H M hlt t2 rm2 trivial, fun σ' H' => ∃ τ' M', Tups H1 H' ∧ RS H' τ' σ' ∧ RM H' M' ∧ I (j + 1) τ' M', fun σ' H' q => ⟨_, by omega, rfl, by omega, q⟩, fun x H' y => ?_⟩
        obtain ⟨tx, hx, t3, rx, rm3, _⟩ := w.yields j H M x H' hlt t2 rm2 trivial y
        refine sg x tx τ M _ σ H' _ (is j tx τ M hx hI) ((t.trans t1).trans (t2.trans t3)) rx (rs2.mv t3) rm3 fun σ4 H4 τ4 M4 t4 rs4 rm4 h4 => ?_
        refine sb _ _ τ4 M4 σ4 H4 h4 (((t.trans t1).trans (t2.trans t3)).trans t4) rs4 rm4 ⟨fun σ5 H5 τ5 M5 t5 rs5 rm5 h5 => ?_, fun v H5 tv M5 t5 rv rm5 h5 => ?_, fun σ5 H5 τ5 M5 t5 rs5 rm5 h5 => ?_, fun σ5 H5 τ5 M5 t5 rs5 rm5 h5 => ?_⟩
        · exact ⟨τ5, M5, t2.trans (t3.trans (t4.trans t5)), rs5, rm5, h5⟩
        · obtain ⟨u1, u2, u3⟩ := un (t2.trans (t3.trans (t4.trans t5)))
          exact ⟨u1, k.rt v _ tv _ (unl (t2.trans (t3.trans (t4.trans t5)))) (rv.mvU u2) (u3 rm5) h5⟩
        · obtain ⟨u1, u2, u3⟩ := un (t2.trans (t3.trans (t4.trans t5)))
          exact ⟨u1, k.nx _ _ _ _ (unl (t2.trans (t3.trans (t4.trans t5)))) (rs5.mvU u2) (u3 rm5) h5⟩
        · exact ⟨τ5, M5, t2.trans (t3.trans (t4.trans t5)), rs5, rm5, h5⟩
      · have e : j = (itm kvs).length := by omega
        subst e
        obtain ⟨u1, u2, u3⟩ := un t2
        exact .inl ⟨w.stops H M t2 rm2 trivial, u1, k.nx σ _ τ _ (unl t2) (rs2.mvU u2) (u3 rm2) (ie τ M (hit ▸ hI))⟩
    · exact h.elim
  · exact h.elim
end
end L3
set_option Elab.async false
set_option linter.all false
set_option maxRecDepth 100000
set_option maxHeartbeats 1000000
set_option autoImplicit false
namespace L3
open PySem PySem.Spec PyProof.Rows L2
/-! a dict of pairs; defs with values given ahead, called with fewer values or by names -/
abbrev Pr3 := Ts → Mh → (List (T × T) → Mh → Prop) → Prop
inductive RPs (H : Hp) : List (T × T) → List (V × V) → Prop
  | nil : RPs H [] []
  | cons {x y : T} {v w : V} {xs : List (T × T)} {vs : List (V × V)} : Rp H x v → Rp H y w → RPs H xs vs → RPs H ((x, y) :: xs) ((v, w) :: vs)
theorem RPs.mv {H H' : Hp} (t : Tups H H') : ∀ {xs : List (T × T)} {vs : List (V × V)}, RPs H xs vs → RPs H' xs vs
  | _, _, .nil => .nil
  | _, _, .cons a b r => .cons (a.mv t) (b.mv t) (r.mv t)
theorem RPs.keys {H : Hp} : ∀ {kvs : List (Key × T)} {ps : List (V × V)}, RPs H (kvs.map fun q => (keyT q.1, q.2)) ps → ∃ us : List (Key × V), ps = us.map (fun q => (kV q.1, q.2)) ∧ Rkv H kvs us
  | [], ps, h => by cases h; exact ⟨[], rfl, .nil⟩
  | (k, t) :: kvs, ps, h => by
    rw [List.map_cons] at h
    cases h with
    | cons a b r =>
      cases rp_key a
      obtain ⟨us, e, q⟩ := RPs.keys r
      exact ⟨(k, _) :: us, by rw [e]; rfl, .cons b q⟩
def mergeT (kvs more : List (Key × T)) : List (Key × T) := more.foldl (fun acc kv => putT acc kv.1 kv.2) kvs
theorem Rkv.merge {H : Hp} : ∀ {more : List (Key × T)} {us : List (Key × V)} {kvs : List (Key × T)} {vs : List (Key × V)}, Rkv H more us → Rkv H kvs vs → Rkv H (mergeT kvs more) (mergeK vs us)
  | [], [], _, _, .nil, q => q
  | (k, _) :: _, _ :: _, kvs, vs, .cons r rs, q => Rkv.merge (kvs := putT kvs k _) (vs := putK vs k _) rs (q.put k r)
structure LPs (X : Cx) (H0 : Hp) (pos : Pos) (keys : List (Option Expr)) (values : List Expr) (m : Pr3) : Prop where
  ex : ∃ trs, PPs X pos keys values trs ∧ ∀ τ M (R : List (T × T) → Mh → Prop) σ H (Q : List (V × V) → Hp → Prop), m τ M R → Tups H0 H → RS H τ σ → RM H M → (∀ ps H' ts M', Tups H H' → RPs H' ts ps → RM H' M' → R ts M' → Q ps H') → tPairs trs σ H Q
def pNil : Pr3 := fun _ M R => R [] M
def pCons (mk mv : E3) (mr : Pr3) : Pr3 := fun τ M R => mk τ M fun x M1 => mv τ M1 fun y M2 => mr τ M2 fun ps M3 => R ((x, y) :: ps) M3
def eDisp (m : Pr3) : E3 := fun τ M R => ∀ p, M p = none → m τ (up M p (.dK [])) fun ps M2 => M2 p = some (.dK []) ∧ ∃ kvs : List (Key × T), ps = kvs.map (fun q => (keyT q.1, q.2)) ∧ kvs.length ≤ 15 ∧ R (.ref p) (up M2 p (.dK (mergeT [] kvs)))
section
variable {X : Cx} {H0 : Hp} {a b c e f o tg : Expr} {es : List Expr} {pos apos cpos p p2 : Pos} {ma mb mc m mo : E3} {m1 : S3} {mA mB : B3} {mAs : A3}
theorem lps_nil : LPs X H0 pos [] [] pNil := ⟨_, pps_nil, fun τ M R σ H Q h t rs rm k => k [] H [] M .refl .nil rm h⟩
theorem lps_cons {ks : List (Option Expr)} {vs : List Expr} {mr : Pr3} (ha : LE X H0 a ma) (hb : LE X H0 b mb) (hr : LPs X H0 pos ks vs mr) : LPs X H0 pos (some a :: ks) (b :: vs) (pCons ma mb mr) := by
  obtain ⟨_, pa, sa⟩ := ha.ex
  obtain ⟨_, pb, sb⟩ := hb.ex
  obtain ⟨_, pr, sr⟩ := hr.ex
  refine ⟨_, pps_cons pa pb pr, fun τ M R σ H Q h t rs rm k => sa τ M _ σ H _ h t rs rm fun x H1 tx M1 t1 rx rm1 h1 => sb τ M1 _ σ H1 _ h1 (t.trans t1) (rs.mv t1) rm1 fun y H2 ty M2 t2 ry rm2 h2 => sr τ M2 _ σ H2 _ h2 (t.trans (t1.trans t2)) (rs.mv (t1.trans t2)) rm2 fun ps H3 ts M3 t3 rp rm3 h3 => ?_⟩
  exact k _ H3 _ M3 (t1.trans (t2.trans t3)) (.cons (rx.mv (t2.trans t3)) (ry.mv t3) rp) rm3 h3
theorem le_disp {keys : List (Option Expr)} {values : List Expr} {mp : Pr3} (h : LPs X H0 pos keys values mp) (hall : keys.all (·.isSome) = true := by rfl) (hl : keys.length = values.length := by rfl) (h0 : keys ≠ [] := by exact nofun) (h15 : keys.length ≤ 15 := by decide) : LE X H0 (.Dict keys values pos) (eDisp mp) := by
  obtain ⟨trs, ps, s⟩ := h.ex
  refine ⟨_, pe_disp ps hall hl h0 h15, fun τ M R σ H Q h t rs rm k p np => ?_⟩
  have t0 : Tups H (upd H p (.dK [])) := .new np
  refine s τ _ _ σ _ _ (h p (rm.free np)) (t.trans t0) (rs.mv t0) (rm.new (mo := .dK []) np ⟨[], upd_same, .nil⟩) fun ps H2 ts M2 t2 rp rm2 h2 => ?_
  obtain ⟨e1, kvs, e2, l, q⟩ := h2
  obtain ⟨us, hH, r0⟩ := rm2 _ _ e1
  cases r0
  subst e2
  obtain ⟨vs, ev, rk⟩ := rp.keys
  refine ⟨hH, vs, ev, by rw [rk.len]; exact l, ?_⟩
  have hn : NT H2 p := ⟨_, hH, rfl⟩
  have t3 : Tups H2 (upd H2 p (.dK (mergeK [] vs))) := .put hn
  exact k _ _ _ _ ((t0.trans t2).trans t3) (.ref p) (rm2.put (mo := .dK (mergeT [] kvs)) hn ⟨_, upd_same, Rkv.merge (rk.mv t3) .nil⟩) q
/-! ### f(e, ..) with values given ahead -/
structure ClD (P : Program) (w : World) (K : Fg) (mg : Str → Option Value) (base : Heap) (x : Str) (k : Nat) (ps : List Str) (dts : List T) (sp : Sp3) : Prop where
  ex : ∃ (CX : CXT) (f : Addr) (fd : FuncData) (ds : List Value) (dvs : List V), FnOk P w K mg base CX k f fd ps (lift sp) ∧ (∀ o H s e s', ¬ CX o H s (fun _ _ _ => False) e s') ∧ mg x = some (.ref f) ∧ PySem.W.keepIn K (.ref f) = true ∧ Binds K fd ps ds ∧ Vals dvs ds ∧ ∀ H, Rps H dts dvs
def eCallD (sp : Sp3) (dts : List T) (m : A3) : E3 := fun τ M R => m τ M fun ts M1 => sp (ts ++ dts) M1 R N3
theorem le_callD {k : Nat} {x : Str} {ps : List Str} {dts : List T} {sp : Sp3} (c : ClD X.prog X.w X.K X.mg X.base x k ps dts sp) (hr : Room k X.A) (hg : Gl X x) (ha : LA X H0 (e :: es) mAs) (hdb : (x == ("__debug__" : Str)) = false := by decide) (he : starEach (e :: es) X.env = (false, eval e X.env) :: starEach es X.env := by rfl) (hpl : (backTo pos (starEach es X.env)).any (·.1) = false := by rfl) :
    LE X H0 (.Call (.Name x p) (e :: es) [] pos) (eCallD sp dts mAs) := by
  obtain ⟨CX, f, fd, ds, dvs, F, hx, hm, hk, hb, hd, rd⟩ := c.ex
  obtain ⟨_, pa, sa⟩ := ha.ex
  refine ⟨_, pe_call F hr hg hm hk hb hd (E := fun _ _ _ => False) (fun _ _ _ _ _ _ _ z => (hx _ _ _ _ _ z).elim) pa hdb he hpl, fun τ M R σ H Q h t rs rm k => sa τ M _ σ H _ h t rs rm fun vs H1 ts M1 l t1 rv rm1 h1 => ?_⟩
  exact ⟨ts ++ dts, M1, R, N3, rv.app (rd _), rm1, h1, k.mv t1, fun _ _ _ _ _ _ z => z.elim⟩
/-! ### f(e, .., k=v, ..) -/
structure LK (X : Cx) (H0 : Hp) (kws : List Keyword) (m : A3) : Prop where
  ex : ∃ t, PK X kws t ∧ SA H0 kws.length m t
theorem lk_nil : LK X H0 [] aNil := ⟨_, pk_nil, fun τ M R σ H Q h t rs rm k => k [] H [] M rfl .refl .nil rm h⟩
theorem lk_cons {nm : Option Str} {kpos : Pos} {kws : List Keyword} {mr : A3} (ha : LE X H0 e m) (hr : LK X H0 kws mr) : LK X H0 (⟨nm, e, kpos⟩ :: kws) (aCons m mr) :=
  let ⟨_, pa, sa⟩ := ha.ex
  let ⟨_, pb, sb⟩ := hr.ex
  ⟨_, pk_cons pa pb, fun τ M R σ H Q h t rs rm k => sa τ M _ σ H _ h t rs rm fun x H1 tx M1 t1 rx rm1 h1 => sb τ M1 _ σ H1 _ h1 (t.trans t1) (rs.mv t1) rm1 fun vs H2 ts M2 l t2 rv rm2 h2 => k _ H2 _ M2 (by rw [List.length_cons, l]; rfl) (t1.trans t2) (.cons (rx.mv t2) rv) rm2 h2⟩
structure ClN (P : Program) (w : World) (K : Fg) (mg : Str → Option Value) (base : Heap) (x : Str) (n : Nat) (ks : List Str) (k : Nat) (ps : List Str) (sp : Sp3) : Prop where
  ex : ∃ (CX : CXT) (f : Addr) (fd : FuncData), FnOk P w K mg base CX k f fd ps (lift sp) ∧ (∀ o H s e s', ¬ CX o H s (fun _ _ _ => False) e s') ∧ mg x = some (.ref f) ∧ PySem.W.keepIn K (.ref f) = true ∧ KBn K fd ps n ks (fun us ws => us ++ ws) (fun vs zs => vs ++ zs)
def eCallN (sp : Sp3) (m mk : A3) : E3 := fun τ M R => m τ M fun ts M1 => mk τ M1 fun us M2 => sp (ts ++ us) M2 R N3
theorem le_callN {k : Nat} {x : Str} {n : Nat} {ks ps : List Str} {sp : Sp3} {kws : List Keyword} {mk : A3} (c : ClN X.prog X.w X.K X.mg X.base x n ks k ps sp) (hr : Room k X.A) (hg : Gl X x) (ha : LA X H0 (e :: es) mAs) (hkw : LK X H0 kws mk) (hn : (e :: es).length = n := by rfl) (hm' : kws.length = ks.length := by rfl)
    (hall : (backToKw pos (keywordEach kws X.env)).all (·.1.isSome) = true := by rfl) (hks : (backToKw pos (keywordEach kws X.env)).filterMap (·.1) = ks := by rfl)
    (hdb : (x == ("__debug__" : Str)) = false := by decide) (he : starEach (e :: es) X.env = (false, eval e X.env) :: starEach es X.env := by rfl)
    (hpl : ((backTo pos (starEach (e :: es) X.env)).any (·.1) || (backToKw pos (keywordEach kws X.env)).any (·.1.isNone)) = false := by rfl) :
    LE X H0 (.Call (.Name x p) (e :: es) kws pos) (eCallN sp mAs mk) := by
  obtain ⟨CX, f, fd, F, hx, hm, hk, hb⟩ := c.ex
  obtain ⟨_, pa, sa⟩ := ha.ex
  obtain ⟨_, pk, sk⟩ := hkw.ex
  refine ⟨_, pe_callN F hr hg hm hk hb (E := fun _ _ _ => False) (fun _ _ _ _ _ _ _ z => (hx _ _ _ _ _ z).elim) pa pk hall hks hdb he hpl, fun τ M R σ H Q h t rs rm k => sa τ M _ σ H _ h t rs rm fun vs H1 ts M1 l t1 rv rm1 h1 => sk τ M1 _ σ H1 _ h1 (t.trans t1) (rs.mv t1) rm1 fun zs H2 us M2 l2 t2 rz rm2 h2 => ?_⟩
  refine ⟨by rw [rv.len, l]; exact hn, by rw [rz.len, l2]; exact hm', ?_⟩
  exact ⟨ts ++ us, M2, R, N3, (rv.mv t2).app rz, rm2, h2, k.mv (t1.trans t2), fun _ _ _ _ _ _ z => z.elim⟩
end
/-- all parameters are handed in, those of the end by name -/
theorem kbn_all {K : PySem.W.Frag} {x qual : Str} {params : Arguments} {body : List Stmt} {scope : Scope} {dvs : List V} {f : Addr} {fd : FuncData} {ps : List Str} (F : FunD K x qual params body scope dvs [] f fd) (n : Nat) (ks : List Str) (hd : dvs ≠ [])
    (h : ∀ (T : Addr) (kV doc pm : Value) (an : Option Addr) (cdv ct : Value) (us its ws : List Value), us.length = n → its.length = dvs.length → ws.length = ks.length →
      ∃ k, bindArgs (PySem.W.fnOf x qual params body scope (.ref T) kV doc pm an cdv ct) ⟨us, ks.zip ws⟩ = seqItems? (.ref T) >>= k ∧ k (some its.toArray) = pure (ps.zip (us ++ ws))) : KBn K fd ps n ks (fun us ws => us ++ ws) (fun vs zs => vs ++ zs) := by
  obtain ⟨oc, od, dV, kV, doc, pm, an, cdv, ct, osl, rfl, lk, hcd, hD, hK⟩ := F.ex
  rcases hD with ⟨e, _⟩ | ⟨_, T, o, its, m, rfl, lT, oT, rT⟩
  · exact absurd e hd
  · refine ⟨fun s us ws X l1 l2 => ?_, fun r1 r2 => r1.append r2⟩
    obtain ⟨k, e1, e2⟩ := h T kV doc pm an cdv ct us its ws l1 rT.length.symm l2
    refine BindsTo.of_looks fun M => ?_
    rw [e1]
    exact looks_items X lT oT (.of_pure e2)
end L3
set_option Elab.async false
set_option linter.all false
set_option maxRecDepth 100000
set_option maxHeartbeats 1000000
set_option autoImplicit false
namespace L3
open PySem PySem.Spec PyProof.Rows L2
/-! a text in a list or a tuple of texts -/
def StrsB (M : Mh) (t : T) (ws : List Str) : Prop := t = .tup (ws.map T.str) ∨ ∃ a, t = .ref a ∧ M a = some (.lst (ws.map T.str))
section
variable {X : Cx}
def oInB (f : Bool → Bool) : O3 := fun x y M R => ∃ z ws, x = .str z ∧ StrsB M y ws ∧ R (.bl (f (decide (z ∈ ws)))) M
theorem c_inB : OK3 X (compareOp .In) (oInB id) := ⟨_, op_in_seq, fun x y tx ty H M R Q h rx ry rm k => by
  obtain ⟨z, ws, rfl, hs, h⟩ := h
  cases rx
  rcases hs with rfl | ⟨a, rfl, q⟩
  · cases ry with
    | tup e r =>
      cases rps_str r
      refine ⟨_, _, rfl, .inr (SqT.of e), rfl, flat_strs ws, ?_⟩
      show Q (.bl (inV (.str z) (ws.map V.str))) H
      rw [inV_str]
      exact k.at (.bl _) rm h
  · cases ry
    obtain ⟨us, e, r⟩ := rm _ _ q
    cases rps_str r
    refine ⟨a, _, rfl, .inl (SqL.of e), rfl, flat_strs ws, ?_⟩
    show Q (.bl (inV (.str z) (ws.map V.str))) H
    rw [inV_str]
    exact k.at (.bl _) rm h⟩
end
def sp6 (f : T → T → T → T → T → T → Mh → K3 → X3 → Prop) : Sp3 := fun ts M R E => match ts with
  | [a, b, c, d, e, g] => f a b c d e g M R E
  | _ => False
theorem sp6_of {ts : List T} {M : Mh} {R : K3} {E : X3} {f : T → T → T → T → T → T → Mh → K3 → X3 → Prop} (h : sp6 f ts M R E) : ∃ a b c d e g, ts = [a, b, c, d, e, g] ∧ f a b c d e g M R E := by
  unfold sp6 at h
  split at h
  · exact ⟨_, _, _, _, _, _, rfl, h⟩
  · exact h.elim
theorem sp6_len {ts : List T} {M : Mh} {R : K3} {E : X3} {f : T → T → T → T → T → T → Mh → K3 → X3 → Prop} (h : sp6 f ts M R E) : ts.length = 6 := by obtain ⟨_, _, _, _, _, _, rfl, _⟩ := sp6_of h; rfl
end L3
set_option Elab.async false
set_option linter.all false
set_option maxRecDepth 100000
set_option maxHeartbeats 1000000
set_option autoImplicit false
namespace L3
open PySem PySem.Spec PyProof.Rows L2
/-! ### repr of a thing with dicts in it -/
def keyD : Key → PyData
  | .inl i => .int i
  | .inr x => .str x
mutual
inductive Dx (M : Mh) : T → PyData → Prop
  | non : Dx M .non .none
  | bl (b : Bool) : Dx M (.bl b) (.bool b)
  | int (i : Int) : Dx M (.int i) (.int i)
  | str (x : Str) : Dx M (.str x) (.str x)
  | lst {a : Addr} {xs : List T} {ds : List PyData} : M a = some (.lst xs) → Dxs M xs ds → Dx M (.ref a) (.list ds)
  | tup {xs : List T} {ds : List PyData} : Dxs M xs ds → Dx M (.tup xs) (.tuple ds)
  | dK {a : Addr} {kvs : List (Key × T)} {ds : List PyData} : M a = some (.dK kvs) → Dxs M (kvs.map (·.2)) ds → Dx M (.ref a) (.dict ((kvs.map fun q => keyD q.1).zip ds))
  | dT {a : Addr} {kvs : List (List Key × T)} {ds : List PyData} : M a = some (.dT kvs) → Dxs M (kvs.map (·.2)) ds → Dx M (.ref a) (.dict ((kvs.map fun q => PyData.tuple (q.1.map keyD)).zip ds))
inductive Dxs (M : Mh) : List T → List PyData → Prop
  | nil : Dxs M [] []
  | cons {x : T} {xs : List T} {d : PyData} {ds : List PyData} : Dx M x d → Dxs M xs ds → Dxs M (x :: xs) (d :: ds)
end
theorem Dxs.len {M : Mh} : ∀ {xs : List T} {ds : List PyData}, Dxs M xs ds → ds.length = xs.length
  | _, _, .nil => rfl
  | _, _, .cons _ h => congrArg (· + 1) h.len
mutual
theorem Dx.sub {M M' : Mh} (s : Sub M M') : ∀ {t : T} {d : PyData}, Dx M t d → Dx M' t d
  | _, _, .non => .non
  | _, _, .bl b => .bl b
  | _, _, .int b => .int b
  | _, _, .str b => .str b
  | _, _, .lst e ds => .lst (s _ _ e) (Dxs.sub s ds)
  | _, _, .tup ds => .tup (Dxs.sub s ds)
  | _, _, .dK e ds => .dK (s _ _ e) (Dxs.sub s ds)
  | _, _, .dT e ds => .dT (s _ _ e) (Dxs.sub s ds)
theorem Dxs.sub {M M' : Mh} (s : Sub M M') : ∀ {ts : List T} {ds : List PyData}, Dxs M ts ds → Dxs M' ts ds
  | _, _, .nil => .nil
  | _, _, .cons d ds => .cons (Dx.sub s d) (Dxs.sub s ds)
end
theorem reads_key {h : Heap} {k : Key} {u : Value} (r : RelV (kV k) u) : Reads h u (keyD k) [] := by
  cases k with
  | inl i => obtain ⟨t, rfl⟩ := r; exact .int i t
  | inr x => obtain ⟨t, rfl⟩ := r; exact .str x t
theorem reads_keys {h : Heap} : ∀ {ks : List Key} {us : List Value}, Vals (ks.map kV) us → ReadsAll h us (ks.map keyD) []
  | [], _, r => by cases r; exact .nil
  | k :: ks, _, r => by
    cases r with
    | cons r rs => exact ReadsAll.cons (as := []) (bs := []) (reads_key r) (reads_keys rs)
theorem dk_keys {P : Program} {w : World} {H : Hp} {h : Heap} : ∀ {kvs : List (Key × T)} {us : List (Key × V)} {vs : List (Key × Value)} {es : List DictEntry}, Rkv H kvs us → KV us vs → Pairs (mixKind P w) es vs →
    ReadsAll h (es.map (·.key)) (kvs.map fun q => keyD q.1) [] ∧ Rps H (kvs.map (·.2)) (us.map (·.2)) ∧ Vals (us.map (·.2)) (es.map (·.val))
  | _, _, _, _, .nil, k, p => by
    cases k
    cases p
    exact ⟨.nil, .nil, .nil⟩
  | _, _, _, _, .cons r rs, k, p => by
    cases k with
    | cons k ks =>
      cases p with
      | cons p1 p2 ps =>
        obtain ⟨h1, h2, h3⟩ := dk_keys (h := h) rs ks ps
        obtain ⟨k1, k2⟩ := k
        refine ⟨ReadsAll.cons (as := []) (bs := []) ?_ h1, .cons r h2, .cons ?_ h3⟩
        · dsimp only at k1 ⊢
          rw [k1]
          rcases keyIs_shape p1 with ⟨i, t, e1, e2⟩ | ⟨x, t, e1, e2⟩
          · rw [e1, e2]
            exact .int i t
          · rw [e1, e2]
            exact .str x t
        · dsimp only
          rw [p2]
          exact k2
theorem dt_keys {X : Cx} {pins : List (Addr × Obj)} {σ : List (Option V)} {H : Hp} {s : Shared} (I : Inv X pins σ H s) : ∀ {kvs : List (List Key × T)} {us : List (List Key × V)} {xs : List (List Key × Addr × Value)}, Rkv H kvs us → L2.KT H us xs →
    ReadsAll s.heap (xs.map fun x => .ref x.2.1) (kvs.map fun q => PyData.tuple (q.1.map keyD)) [] ∧ Rps H (kvs.map (·.2)) (us.map (·.2)) ∧ Vals (us.map (·.2)) (xs.map fun x => x.2.2)
  | _, _, _, .nil, k => by
    cases k
    exact ⟨.nil, .nil, .nil⟩
  | _, _, _, .cons r rs, k => by
    cases k with
    | cons k ks =>
      obtain ⟨h1, h2, h3⟩ := dt_keys I rs ks
      obtain ⟨k1, k2, k3⟩ := k
      refine ⟨ReadsAll.cons (as := []) (bs := []) ?_ h1, .cons r h2, .cons k3 h3⟩
      obtain ⟨its, rv, ⟨o, ho, hc, n, hd⟩, _⟩ := I.tuple (SqT.of k2)
      exact Reads.tuple ho hc hd (by simpa using reads_keys rv)
section
variable {X : Cx} {pins : List (Addr × Obj)} {σ : List (Option V)} {H : Hp} {s : Shared} {M : Mh}
theorem not_mem_two {a : Addr} {as bs : List Addr} (h1 : a ∉ as) (h2 : a ∉ bs) : a ∉ as ++ bs := fun z => (List.mem_append.mp z).elim h1 h2
theorem ne_trk {a b : Addr} {o : HO} (hs : H b = none) (e : H a = some o) : b ≠ a := fun z => by
  rw [← z, hs] at e
  cases e
mutual
theorem Dx.reads (I : Inv X pins σ H s) (hs : H sysModules = none) (rm : RM H M) : ∀ {t : T} {d : PyData}, Dx M t d → ∀ {v : V} {u : Value}, Rp H t v → RelV v u → ∃ as, Reads s.heap u d as ∧ sysModules ∉ as
  | _, _, .non, _, _, r, q => by
    cases r
    cases q
    exact ⟨_, .none, nofun⟩
  | _, _, .bl b, _, _, r, q => by
    cases r
    cases q
    exact ⟨_, .bool b, nofun⟩
  | _, _, .int i, _, _, r, q => by
    cases r
    obtain ⟨t, rfl⟩ := q
    exact ⟨_, .int i t, nofun⟩
  | _, _, .str i, _, _, r, q => by
    cases r
    obtain ⟨t, rfl⟩ := q
    exact ⟨_, .str i t, nofun⟩
  | _, _, .lst e ds, _, _, r, q => by
    cases r
    cases q
    obtain ⟨vs, h, r⟩ := rm _ _ e
    obtain ⟨its, rv, ⟨o, n, ho, hc, _, hd⟩, _⟩ := I.list (SqL.of h)
    obtain ⟨as, h1, h2⟩ := Dxs.reads I hs rm ds r rv
    exact ⟨_, .list ho hc hd (by simpa using h1), fun z => (List.mem_cons.mp z).elim (ne_trk hs h) h2⟩
  | _, _, .tup ds, _, _, r, q => by
    cases r with
    | tup e r =>
      cases q
      obtain ⟨its, rv, ⟨o, ho, hc, n, hd⟩, _⟩ := I.tuple (SqT.of e)
      obtain ⟨as, h1, h2⟩ := Dxs.reads I hs rm ds r rv
      exact ⟨_, .tuple ho hc hd (by simpa using h1), h2⟩
  | _, _, .dK (kvs := kvs) (ds := ds') e ds, _, _, r, q => by
    cases r
    cases q
    obtain ⟨us, hH, rkv⟩ := rm _ _ e
    obtain ⟨_, _, vs, kv, o, es, ep, ho, hx, hd, hk, hp, nd⟩ := dk_of I.hok hH
    obtain ⟨h1, h2, h3⟩ := dk_keys (h := s.heap) rkv kv hp
    obtain ⟨bs, h4, h5⟩ := Dxs.reads I hs rm ds h2 h3
    have hl := ds.len
    rw [List.length_map] at hl
    refine ⟨_, Reads.dict (as := []) ho hx.1 hd ?_ ?_, fun z => (List.mem_cons.mp z).elim (ne_trk hs hH) h5⟩
    · rw [List.map_fst_zip (by rw [List.length_map]; omega)]
      exact h1
    · rw [List.map_snd_zip (by rw [List.length_map]; omega)]
      exact h4
  | _, _, .dT (kvs := kvs) (ds := ds') e ds, _, _, r, q => by
    cases r
    cases q
    obtain ⟨us, hH, rkv⟩ := rm _ _ e
    obtain ⟨_, _, xs, kt, o, es, ep, ho, hx, hd, he, hk, nd⟩ := dt_of I.hok hH
    obtain ⟨h1, h2, h3⟩ := dt_keys I rkv kt
    obtain ⟨bs, h4, h5⟩ := Dxs.reads I hs rm ds h2 h3
    have hl := ds.len
    rw [List.length_map] at hl
    refine ⟨_, Reads.dict (as := []) ho hx.1 hd ?_ ?_, fun z => (List.mem_cons.mp z).elim (ne_trk hs hH) h5⟩
    · rw [List.map_fst_zip (by rw [List.length_map]; omega), he, List.map_map]
      exact h1
    · rw [List.map_snd_zip (by rw [List.length_map]; omega), he, List.map_map]
      exact h4
theorem Dxs.reads (I : Inv X pins σ H s) (hs : H sysModules = none) (rm : RM H M) : ∀ {xs : List T} {ds : List PyData}, Dxs M xs ds → ∀ {vs : List V} {us : List Value}, Rps H xs vs → Vals vs us → ∃ as, ReadsAll s.heap us ds as ∧ sysModules ∉ as
  | _, _, .nil, _, _, r, q => by
    cases r
    cases q
    exact ⟨_, .nil, nofun⟩
  | _, _, .cons d ds, _, _, r, q => by
    cases r with
    | cons r rs =>
      cases q with
      | cons q qs =>
        obtain ⟨as, h1, h2⟩ := Dx.reads I hs rm d r q
        obtain ⟨bs, h3, h4⟩ := Dxs.reads I hs rm ds rs qs
        exact ⟨_, .cons h1 h3, not_mem_two h2 h4⟩
end
end
/-- what repr needs of a thing with dicts -/
structure ShX (M : Mh) (t : T) (z : Str) : Prop where
  ok : ∃ a d, t = .ref a ∧ Dx M t d ∧ d.showable = true ∧ d.depth ≤ 50 ∧ d.shown.length ≤ sizeLine ∧ z = d.shown
theorem ShX.sub {M M' : Mh} {t : T} {z : Str} (h : ShX M t z) (s : Sub M M') : ShX M' t z := by
  obtain ⟨a, d, e, h1, r⟩ := h.ok
  exact ⟨a, d, e, h1.sub s, r⟩
def cRpX : C3 := fun ts M R => match ts with
  | [t] => ∃ z, ShX M t z ∧ R (.str z) M
  | _ => False
section
variable {X : Cx} {H0 : Hp} {e : Expr} {pos p : Pos} {mAs : A3}
theorem sys_free {pins : List (Addr × Obj)} {σ : List (Option V)} {H : Hp} {s : Shared} (I : Inv X pins σ H s) (hK : ∃ o, X.K.lookup sysModules = some o) : H sysModules = none := by
  obtain ⟨o, e⟩ := hK
  exact (I.bs _ _ (I.mod.kin _ _ e)).2
theorem cr_reprX (hK : ∃ o, X.K.lookup sysModules = some o) (hg : X.A.guards = some []) (hu : X.A.units + 64 < cLine) : CallR X (.builtin "repr") (fun xs H Q => ∃ (a : Addr) (M : Mh) (d : PyData), xs = [.ref a] ∧ RM H M ∧ Dx M (.ref a) d ∧ d.showable = true ∧ d.depth ≤ 50 ∧ d.shown.length ≤ sizeLine ∧ Q (.str d.shown) H) := by
  intro pins s σ H xs us Q I r h
  obtain ⟨a, M, d, rfl, rm, hd, hs, hdp, hz, q⟩ := h
  obtain ⟨u, rfl, ru⟩ := vals1 r
  cases ru
  obtain ⟨as, rd, ns⟩ := Dx.reads I (sys_free I hK) rm hd (.ref a) rfl
  exact repr_of_reads' rd hs (fun _ => ns) hg (by omega) (fun _ _ e => e) (fun h' u tk hk => ⟨.str d.shown, H, I.kept (t' := tk) hk, ⟨u, rfl⟩, q⟩) hz
theorem le_reprX {k : Nat} (hK : ∃ o, X.K.lookup sysModules = some o) (hgd : X.A.guards = some []) (hr : Room k X.A) (hg : Gl X "repr") (hm : X.mg "repr" = none) (ha : LA X H0 [e] mAs) (he : starEach [e] X.env = (false, eval e X.env) :: starEach [] X.env := by rfl) (hpl : (backTo pos (starEach [] X.env)).any (·.1) = false := by rfl) : LE X H0 (.Call (.Name "repr" p) [e] [] pos) (eCB cRpX mAs) := le_cB (cr_reprX hK hgd hr.units) (fun vs ts H M R Q h rv rm k => by
  unfold cRpX at h
  split at h
  · cases rv with
    | cons r rr =>
      cases rr
      obtain ⟨z, ⟨a, d, rfl, h1, h2, h3, h4, rfl⟩, h⟩ := h
      cases r
      exact ⟨a, M, d, rfl, rm, h1, h2, h3, h4, k.at (.str _) rm h⟩
  · exact h.elim) hg hm (by decide +kernel) ha (by decide) (by decide) he hpl
end
end L3
set_option Elab.async false
set_option linter.all false
set_option maxRecDepth 100000
set_option maxHeartbeats 1000000
set_option autoImplicit false
namespace L3
open PySem PySem.Spec PyProof.Rows L2
section
variable {X : Cx} {H0 : Hp} {a b c e f o tg : Expr} {es : List Expr} {pos apos cpos p p2 : Pos} {ma mb mc m mo : E3} {m1 : S3} {mA mB : B3} {mAs : A3}
/-! ### an expression while the dict that a name stands for is locked -/
def eLockK (i : Nat) (m : E3) : E3 := fun τ M R => match τ[i]? with
  | some (some (.ref a)) => (match M a with
    | some (.dK kvs) => ∀ od, m τ (up M a (.lkK od kvs)) fun y M' => R y (up M' a (.dK kvs))
    | _ => False)
  | _ => False
theorem le_lockK {i : Nat} (h : LE X H0 e m) : LE X H0 e (eLockK i m) := by
  obtain ⟨_, p, s⟩ := h.ex
  refine ⟨_, pe_lock p, fun τ M R σ H Q h t rs rm k => ?_⟩
  unfold eLockK at h
  split at h
  · rename_i a hτ
    split at h
    · rename_i kvs hM
      obtain ⟨us, hH, r⟩ := rm _ _ hM
      refine ⟨a, .dK us, hH, trivial, fun od => ?_⟩
      have hn : NT H a := ⟨_, hH, rfl⟩
      have t1 : Tups H (upd H a (.frz od (.dK us))) := .put hn
      have hz : (upd H a (.frz od (.dK us))) a = some (.frz od (.dK us)) := upd_same
      have rm1 : RM (upd H a (.frz od (.dK us))) (up M a (.lkK od kvs)) := rm.put hn ⟨us, upd_same, r.mv t1⟩
      refine s τ _ _ σ _ _ (h od) (t.trans t1) (rs.mv t1) rm1 fun v H' tv M' t' rv rm' h' => ?_
      have e' := t'.frz _ _ _ hz
      exact ⟨e', k v _ tv _ (t'.unlock hH rfl) (rv.mvU (tul_unlock e' (fun _ => nofun))) (rm'.unlock (mo := .dK kvs) e' (fun _ => nofun) ⟨us, upd_same, ((r.mv t1).mv t').mvU (tul_unlock e' (fun _ => nofun))⟩) h'⟩
    · exact h.elim
  · exact h.elim
/-! ### for k in d -/
def kys (kvs : List (Key × T)) : List T := kvs.map fun q => keyT q.1
theorem walkT_keys {H1 : Hp} {a : Addr} {od : Obj} {us : List (Key × V)} {kvs : List (Key × T)} (r : Rkv H1 kvs us) (hz : H1 a = some (.frz od (.dK us))) : WalkT H1 (Itk a od us) (kys kvs) (fun _ => True) where
  goes := fun i H M hi t rm g => by
    refine ⟨t.frz _ _ _ hz, ?_⟩
    unfold kys at hi
    rw [List.length_map] at hi
    rw [r.len]
    exact hi
  stops := fun H M t rm g => by
    refine ⟨t.frz _ _ _ hz, ?_⟩
    unfold kys
    rw [List.length_map, r.len]
    exact Nat.le_refl _
  yields := fun i H M x H' hi t rm g y => by
    obtain ⟨rfl, k, v, hk, rfl⟩ := y
    obtain ⟨w, hw, rw'⟩ := r.at' hk
    refine ⟨keyT k, ?_, .refl, rp_keyT k, rm, fun p hp => hp⟩
    unfold kys
    rw [List.getElem?_map, hw]
    rfl
def iKs (m : E3) : I3 := fun τ M R => m τ M fun x M1 => match x with
  | .ref a => (match M1 a with
    | some (.lkK _ kvs) => R (kys kvs) (fun _ => True) M1
    | _ => False)
  | _ => False
theorem li_keys (h : LE X H0 e m) : LI X H0 tg e (iKs m) := by
  obtain ⟨_, p, s⟩ := h.ex
  refine ⟨_, pi_keys p, fun τ M R σ H Q h t rs rm k => s τ M _ σ H _ h t rs rm fun v H1 tv M1 t1 rv rm1 h1 => ?_⟩
  cases tv with
  | ref a =>
    cases rv
    dsimp only at h1
    cases q : M1 a with
    | none => rw [q] at h1; exact h1.elim
    | some o =>
      rw [q] at h1
      cases o with
      | lkK od kvs =>
        obtain ⟨us, e, r⟩ := rm1 a _ q
        exact ⟨a, od, rfl, .inl ⟨us, e, k _ H1 (kys kvs) _ M1 t1 rm1 (walkT_keys r e) h1⟩⟩
      | _ => exact h1.elim
  | _ => exact h1.elim
/-! ### a call by keywords, the last parameters left out -/
structure ClND (P : Program) (w : World) (K : Fg) (mg : Str → Option Value) (base : Heap) (x : Str) (n : Nat) (ks : List Str) (k : Nat) (ps : List Str) (dts : List T) (sp : Sp3) : Prop where
  ex : ∃ (CX : CXT) (f : Addr) (fd : FuncData) (ds : List Value) (dv : List V), FnOk P w K mg base CX k f fd ps (lift sp) ∧ (∀ o H s e s', ¬ CX o H s (fun _ _ _ => False) e s') ∧ mg x = some (.ref f) ∧ PySem.W.keepIn K (.ref f) = true ∧ KBn K fd ps n ks (fun us ws => (us ++ ws) ++ ds) (fun vs zs => (vs ++ zs) ++ dv) ∧ ∀ H, Rps H dts dv
def eCallND (sp : Sp3) (dts : List T) (m mk : A3) : E3 := fun τ M R => m τ M fun ts M1 => mk τ M1 fun us M2 => sp ((ts ++ us) ++ dts) M2 R N3
theorem le_callND {k : Nat} {x : Str} {n : Nat} {ks ps : List Str} {dts : List T} {sp : Sp3} {kws : List Keyword} {mk : A3} (c : ClND X.prog X.w X.K X.mg X.base x n ks k ps dts sp) (hr : Room k X.A) (hg : Gl X x) (ha : LA X H0 (e :: es) mAs) (hkw : LK X H0 kws mk) (hn : (e :: es).length = n := by rfl) (hm' : kws.length = ks.length := by rfl)
    (hall : (backToKw pos (keywordEach kws X.env)).all (·.1.isSome) = true := by rfl) (hks : (backToKw pos (keywordEach kws X.env)).filterMap (·.1) = ks := by rfl)
    (hdb : (x == ("__debug__" : Str)) = false := by decide) (he : starEach (e :: es) X.env = (false, eval e X.env) :: starEach es X.env := by rfl)
    (hpl : ((backTo pos (starEach (e :: es) X.env)).any (·.1) || (backToKw pos (keywordEach kws X.env)).any (·.1.isNone)) = false := by rfl) :
    LE X H0 (.Call (.Name x p) (e :: es) kws pos) (eCallND sp dts mAs mk) := by
  obtain ⟨CX, f, fd, ds, dv, F, hx, hm, hk, hb, hd⟩ := c.ex
  obtain ⟨_, pa, sa⟩ := ha.ex
  obtain ⟨_, pk, sk⟩ := hkw.ex
  refine ⟨_, pe_callN F hr hg hm hk hb (E := fun _ _ _ => False) (fun _ _ _ _ _ _ _ z => (hx _ _ _ _ _ z).elim) pa pk hall hks hdb he hpl, fun τ M R σ H Q h t rs rm k => sa τ M _ σ H _ h t rs rm fun vs H1 ts M1 l t1 rv rm1 h1 => sk τ M1 _ σ H1 _ h1 (t.trans t1) (rs.mv t1) rm1 fun zs H2 us M2 l2 t2 rz rm2 h2 => ?_⟩
  refine ⟨by rw [rv.len, l]; exact hn, by rw [rz.len, l2]; exact hm', ?_⟩
  exact ⟨(ts ++ us) ++ dts, M2, R, N3, ((rv.mv t2).app rz).app (hd H2), rm2, h2, k.mv (t1.trans t2), fun _ _ _ _ _ _ z => z.elim⟩
end
theorem kbn_dfl {K : PySem.W.Frag} {x qual : Str} {params : Arguments} {body : List Stmt} {scope : Scope} {dvs : List V} {f : Addr} {fd : FuncData} {ps : List Str} (F : FunD K x qual params body scope dvs [] f fd) (n : Nat) (ks : List Str) (j : Nat) (hd : dvs ≠ [])
    (h : ∀ (T : Addr) (kV doc pm : Value) (an : Option Addr) (cdv ct : Value) (us its ws : List Value), us.length = n → its.length = dvs.length → ws.length = ks.length →
      ∃ k, bindArgs (PySem.W.fnOf x qual params body scope (.ref T) kV doc pm an cdv ct) ⟨us, ks.zip ws⟩ = seqItems? (.ref T) >>= k ∧ k (some its.toArray) = pure (ps.zip ((us ++ ws) ++ its.drop j))) : ∃ ds, KBn K fd ps n ks (fun us ws => (us ++ ws) ++ ds) (fun vs zs => (vs ++ zs) ++ dvs.drop j) := by
  obtain ⟨oc, od, dV, kV, doc, pm, an, cdv, ct, osl, rfl, lk, hcd, hD, hK⟩ := F.ex
  rcases hD with ⟨e, _⟩ | ⟨_, T, o, its, m, rfl, lT, oT, rT⟩
  · exact absurd e hd
  · refine ⟨its.drop j, fun s us ws X l1 l2 => ?_, fun r1 r2 => (r1.append r2).append (rT.drop j)⟩
    obtain ⟨k, e1, e2⟩ := h T kV doc pm an cdv ct us its ws l1 rT.length.symm l2
    refine BindsTo.of_looks fun M => ?_
    rw [e1]
    exact looks_items X lT oT (.of_pure e2)
/-! ### list.extend of a tuple -/
theorem ext_tup (l b : Addr) (xs ys : Array Value) (n n2 : Nat) (od : Option Addr) (sl : Array (Option Value)) (h0 : ¬ (!xs.isEmpty && Builtin.List.listTooLong (xs.size + ys.size)) = true) (h1 : xs.size ≤ sizeLine) (h2 : xs.size + ys.size ≤ sizeLine + 1) :
    Meets (Builtin.«list.extend» ⟨[.ref l, .ref b], []⟩) (fun _ R s => s.heap.get? l = some { cls := .type "list", data := .seq xs n } ∧ s.heap.get? b = some ⟨.type "tuple", od, .seq ys n2, sl⟩ ∧ R (.ok (.ret .none)) { s with heap := s.heap.update l (Obj.mapSeq fun x => x ++ ys), toks := s.toks }) :=
  .of_wp fun prog w A R s h => by
    obtain ⟨hp, g, d, tk, os⟩ := s
    obtain ⟨hl, hb, h⟩ := h
    have f1 := AutoSeq1.idx_int
    have f2 := AutoSeq1.sub_tuple_tuple
    have f3 := AutoSeq1.sub_list_list
    have f4 := AutoSeq1.sub_tuple_list
    have f5 := AutoSeq1.sub_list_tuple
    have hz : (xs ++ ys).size ≤ sizeLine + 1 := by
      rw [Array.size_append]
      exact h2
    wp_walk using (wpAny_updateSeq hl rfl (hz := h1) (_hz' := hz)), AutoSeq1.wpAny_loadPart' hl, AutoSeq1.wpAny_loadPart' hb
    exact ⟨_, rfl, h⟩
def rExtB : V → List V → Hp → VK → Prop := fun x vs H Q => rExtend x vs H Q ∨ ∃ l b xs zs, x = .ref l ∧ vs = [.ref b] ∧ H l = some (.lst xs) ∧ H b = some (.tup zs) ∧ xs.length + zs.length ≤ sizeLine ∧ Q .non (upd H l (.lst (xs ++ zs)))
theorem mt_extB {X : Cx} : MtM X "list.extend" rExtB := by
  intro pins s σ H x vs v us Q I rx rv h
  rcases h with h | h
  · exact mt_extend pins s σ H x vs v us Q I rx rv h
  obtain ⟨l, b, xs, zs, rfl, rfl, hH, hB, hz, q⟩ := h
  cases rx
  obtain ⟨u, rfl, ru⟩ := rv.one
  cases ru
  obtain ⟨z, its, n, r, hl, e⟩ := I.lstM hH
  obtain ⟨its2, r2, ⟨o2, e2, hc2, n2, hd2⟩, z2⟩ := I.tuple (SqT.of hB)
  have hl2 := r2.length
  obtain ⟨oc, od, dt, sl⟩ := o2
  cases hc2
  cases hd2
  have hsz : its.toArray.size + its2.toArray.size ≤ sizeLine := by
    rw [List.size_toArray, List.size_toArray]
    omega
  refine call_meets F.slot_list_extend ⟨_, e, rfl⟩ F.entry_list_extend (F.args_list_extend_2 _ _) (ext_tup l b its.toArray its2.toArray n n2 od sl (by rw [notLongL hsz, Bool.and_false]; exact Bool.false_ne_true) (by rw [List.size_toArray]; omega) (by omega)) ⟨e, e2, ?_⟩
  refine ⟨.non, _, I.lset (its' := its ++ its2) hH e (by simp) (r.append r2) ?_, rfl, q⟩
  rw [List.length_append]
  omega
def mExtB : M3 := fun x ts M R => match x, ts with
  | .ref a, [.ref b] => (match M a, M b with
    | some (.lst xs), some (.lst ys) => xs.length + ys.length ≤ sizeLine ∧ R .non (up M a (.lst (xs ++ ys)))
    | _, _ => False)
  | .ref a, [.tup ys] => (match M a with
    | some (.lst xs) => xs.length + ys.length ≤ sizeLine ∧ R .non (up M a (.lst (xs ++ ys)))
    | _ => False)
  | _, _ => False
section
variable {X : Cx} {H0 : Hp} {e o : Expr} {apos cpos : Pos} {mo : E3} {mAs : A3}
theorem sm_extB : SM rExtB mExtB := fun x tx vs ts H M R Q h rx rv rm k => by
  unfold mExtB at h
  split at h
  · rename_i a b
    cases rx
    cases rv with
    | cons r rr =>
      cases r; cases rr
      split at h
      · rename_i zs ys q q2
        obtain ⟨us, e, r1⟩ := rm _ _ q
        obtain ⟨ws, e2, r2⟩ := rm _ _ q2
        have nt : NT H a := ⟨_, e, rfl⟩
        exact .inl ⟨a, b, us, ws, rfl, rfl, e, e2, by rw [r1.len, r2.len]; exact h.1, k _ _ _ _ (.put nt) .non (rm.put (mo := .lst (zs ++ ys)) nt ⟨_, upd_same, (r1.app r2).mv (.put nt)⟩) h.2⟩
      · exact h.elim
  · rename_i a ys
    cases rx
    cases rv with
    | cons r rr =>
      cases rr
      cases r with
      | tup e2 r2 =>
        split at h
        · rename_i zs q
          obtain ⟨us, e, r1⟩ := rm _ _ q
          have nt : NT H a := ⟨_, e, rfl⟩
          exact .inr ⟨a, _, us, _, rfl, rfl, e, e2, by rw [r1.len, r2.len]; exact h.1, k _ _ _ _ (.put nt) .non (rm.put (mo := .lst (zs ++ ys)) nt ⟨_, upd_same, (r1.app r2).mv (.put nt)⟩) h.2⟩
        · exact h.elim
  · exact h.elim
theorem le_extendB (ho : LE X H0 o mo) (ha : LA X H0 [e] mAs)
    (hbase : attributeBase o "extend" X.env (eval o X.env) = eval o X.env := by rfl)
    (hfew : ((backTo cpos (starEach [e] X.env)).all (fun x => !x.1) && (backToKw cpos (keywordEach [] X.env)).all (fun x => x.1.isSome)
      && decide (([e] : List Expr).length + ([] : List Keyword).length + (if ([] : List Keyword).isEmpty then 0 else 1) < 30)) = true := by rfl)
    (hline : (apos.endLine == cpos.line) = true := by rfl) (hs : starEach [e] X.env = (false, eval e X.env) :: starEach [] X.env := by rfl) (hplain : (backTo cpos (starEach [] X.env)).any (·.1) = false := by rfl) : LE X H0 (.Call (.Attribute o "extend" apos) [e] [] cpos) (eML mExtB mo mAs) := le_ml PySem.F.slot_list_extend PySem.F.type_list_extend mt_extB sm_extB ho ha hbase hfew hline hs hplain
end
end L3
set_option Elab.async false
set_option linter.all false
set_option maxRecDepth 100000
set_option maxHeartbeats 1000000
namespace L3
open PySem PySem.Spec PyProof.Rows L2
local macro_rules | `(tactic| walk_at "w") => `(tactic| ((conv => whnf); try dsimp only))

def topS (i : Nat) : Stmt := PySem.Challenge.pw_stufflists_k82_kinds_of_kinds.main.body.getD i (.Pass ⟨0, 0, 0, 0⟩)
abbrev ns_Label : List Str := ["listed", "words", "by_path"]
theorem nd_Label : ns_Label.Nodup := by decide +kernel
structure Glb (K : Fg) (mg : Str → Option Value) (C_Label C_NoPath : Addr) : Prop where
  m_abs : mg "abs" = none
  m_all : mg "all" = none
  m_any : mg "any" = none
  m_bool : mg "bool" = none
  k_MOST_DEPTH : ∃ tk, mg "MOST_DEPTH" = some (.int 4 tk)
  k_MOST_LETTERS : ∃ tk, mg "MOST_LETTERS" = some (.int 8 tk)
  k_MOST_PLACES : ∃ tk, mg "MOST_PLACES" = some (.int 12 tk)
  m_dict : mg "dict" = none
  m_divmod : mg "divmod" = none
  m_enumerate : mg "enumerate" = none
  m_int : mg "int" = none
  m_isinstance : mg "isinstance" = none
  m_len : mg "len" = none
  m_list : mg "list" = none
  m_max : mg "max" = none
  m_min : mg "min" = none
  m_range : mg "range" = none
  m_repr : mg "repr" = none
  m_set : mg "set" = none
  m_sorted : mg "sorted" = none
  m_str : mg "str" = none
  m_sum : mg "sum" = none
  m_tuple : mg "tuple" = none
  cl_Label : Cls K C_Label
  n_Label_listed : NoAttr K C_Label "listed"
  n_Label_words : NoAttr K C_Label "words"
  n_Label_by_path : NoAttr K C_Label "by_path"
  x_NoPath : ExcK K mg "NoPath" C_NoPath
  sysM : ∃ o, K.lookup sysModules = some o
end L3
set_option Elab.async false
set_option linter.all false
set_option maxRecDepth 100000
set_option maxHeartbeats 1000000
namespace L3
open PySem PySem.Spec PyProof.Rows L2
local macro_rules | `(tactic| walk_at "w") => `(tactic| ((conv => whnf); try dsimp only))

section
variable {P : Program} {w : World} {K : Fg} {mg : Str → Option Value} {base : Heap}
/-! ### is_whole -/
abbrev s_is_whole : Stmt := topS 14
abbrev nm_is_whole : List Str := ["thing"]
theorem sc_is_whole : FnScope nm_is_whole ["thing"] (defScope s_is_whole) := ⟨rfl, rfl, rfl, by decide +kernel, rfl, by decide +kernel, by decide +kernel⟩
def sp_is_whole : Sp3 := sp1 fun t M R _ => KT M t ∧ R (.bl (isW t)) M
theorem ok_is_whole {C_Label : Addr} {C_NoPath : Addr} {f : Addr} {fd : FuncData} (F : Fun K "is_whole" "is_whole" s_is_whole f fd) (g : Glb K mg C_Label C_NoPath)  : FnOk P w K mg base CX0 1 f fd ["thing"] (lift (sp_is_whole )) := by
  refine F.ok3 sc_is_whole (fun ts M R E h => sp1_len h) (fun cdv A outer s H E ts M R E3 hr h0 => ?_)
  obtain ⟨thing', rfl, h⟩ := sp1_of h0
  refine ⟨_, (ls_one (ls_ret (le_and (le_isi .int (by rfl) g.m_isinstance (lv 0) (by rfl) g.m_int (by decide +kernel)) (le_one (le_not (le_isi .bl (by rfl) g.m_isinstance (lv 0) (by rfl) g.m_bool (by decide +kernel))))))), ?_⟩
  obtain ⟨hk, h⟩ := h
  obtain ⟨j, hj⟩ := hk.kd
  have hw := isi_whole hj
  walk_at "w"
  rw [hj]
  walk_at "w"
  cases e1 : subK j .int with
  | false =>
    rw [e1] at hw
    have hw : false = isW thing' := hw
    refine fin3.of ?_
    rw [hw]
    exact h
  | true =>
    walk_at "w"
    rw [hj]
    walk_at "w"
    rw [e1] at hw
    have hw : (!subK j .bl) = isW thing' := hw
    refine fin3.of ?_
    rw [hw]
    exact h
/-! ### common_measure -/
abbrev s_common_measure : Stmt := topS 15
abbrev nm_common_measure : List Str := ["one", "other"]
theorem sc_common_measure : FnScope nm_common_measure ["one", "other"] (defScope s_common_measure) := ⟨rfl, rfl, rfl, by decide +kernel, rfl, by decide +kernel, by decide +kernel⟩
def sp_common_measure : Sp3 := sp2 fun x y M R _ => match x, y with
  | .int a, .int b => (0 ≤ a ∧ 0 ≤ b) ∧ R (.int (G.gc a b)) M
  | _, _ => False
theorem ok_common_measure {C_Label : Addr} {C_NoPath : Addr} {f : Addr} {fd : FuncData} (F : Fun K "common_measure" "common_measure" s_common_measure f fd) (g : Glb K mg C_Label C_NoPath)  : FnOk P w K mg base CX0 1 f fd ["one", "other"] (lift (sp_common_measure )) := by
  refine F.ok3 sc_common_measure (fun ts M R E h => sp2_len h) (fun cdv A outer s H E ts M R E3 hr h0 => ?_)
  obtain ⟨one', other', rfl, h⟩ := sp2_of h0
  refine ⟨_, (ls_cons (ls_while PassesOwn.never (lt_c c_gt (lv 1) le_int) (ls_one (ls_par (i := 0) (j := 1) (by rfl) sc_common_measure.nd rfl rfl (by decide) rfl rfl (la_cons (lv 1) (la_cons (le_mod (lv 0) (lv 1)) la_nil)) (by rfl)))) (ls_one (ls_ret (lv 0)))), ?_⟩
  split at h
  · rename_i a b
    obtain ⟨⟨ha, hb⟩, h⟩ := h
    refine ⟨fun m τ M' => ∃ x y : Int, τ = [some (.int x), some (.int y)] ∧ M' = M ∧ 0 ≤ x ∧ 0 ≤ y ∧ G.gc x y = G.gc a b ∧ m = y.toNat, ⟨_, a, b, rfl, rfl, ha, hb, rfl, rfl⟩, ?_⟩
    rintro m τ M' ⟨x, y, rfl, rfl, hx, hy, hg, rfl⟩
    walk_at "w"
    by_cases e : 0 < y
    · rw [decide_eq_true e]
      refine ⟨by show y ≠ 0; omega, ?_⟩
      have e2 : x.fmod y = x % y := Int.fmod_eq_emod_of_nonneg x (by omega)
      have h1 := Int.emod_nonneg x (b := y) (by omega)
      have h2 := Int.emod_lt_of_pos x e
      exact ⟨_, by rw [e2]; omega, y, x.fmod y, rfl, rfl, hy, by omega, by rw [e2]; exact (G.gc_step hx e).trans hg, rfl⟩
    · rw [decide_eq_false e]
      have e0 : y = 0 := by omega
      subst e0
      have hx' : x = (G.gc a b : Int) := by
        rw [← hg]
        unfold G.gc
        rw [Int.natAbs_zero, Nat.gcd_zero_right]
        omega
      refine fin3.of ?_
      show R (.int x) _
      rw [hx']
      exact h
  · exact h.elim
/-! ### is_less -/
abbrev s_is_less : Stmt := topS 20
abbrev nm_is_less : List Str := ["one", "other"]
theorem sc_is_less : FnScope nm_is_less ["one", "other"] (defScope s_is_less) := ⟨rfl, rfl, rfl, by decide +kernel, rfl, by decide +kernel, by decide +kernel⟩
def sp_is_less : Sp3 := sp2 fun x y M R _ => match x, y with
  | .tup [.int a, .int b], .tup [.int c, .int d] => (CMulW a d ∧ CMulW c b) ∧ R (.bl (decide (a * d < c * b))) M
  | _, _ => False
theorem ok_is_less {C_Label : Addr} {C_NoPath : Addr} {f : Addr} {fd : FuncData} (F : Fun K "is_less" "is_less" s_is_less f fd) (g : Glb K mg C_Label C_NoPath)  : FnOk P w K mg base CX0 1 f fd ["one", "other"] (lift (sp_is_less )) := by
  refine F.ok3 sc_is_less (fun ts M R E h => sp2_len h) (fun cdv A outer s H E ts M R E3 hr h0 => ?_)
  obtain ⟨one', other', rfl, h⟩ := sp2_of h0
  refine ⟨_, (ls_one (ls_ret (le_c c_lt (le_mul (le_at (lv 0) le_int) (le_at (lv 1) le_int)) (le_mul (le_at (lv 1) le_int) (le_at (lv 0) le_int))))), ?_⟩
  split at h
  · exact ⟨h.1.1, h.1.2, fin3.of h.2⟩
  · exact h.elim
/-! ### is_fraction -/
abbrev s_is_fraction : Stmt := topS 21
abbrev nm_is_fraction : List Str := ["thing", "top", "bottom"]
theorem sc_is_fraction : FnScope nm_is_fraction ["thing"] (defScope s_is_fraction) := ⟨rfl, rfl, rfl, by decide +kernel, rfl, by decide +kernel, by decide +kernel⟩
def sp_is_fraction : Sp3 := sp1 fun t M R _ => KT M t ∧ R (.bl (frB t)) M
theorem ok_is_fraction {C_Label : Addr} {C_NoPath : Addr} {f : Addr} {fd : FuncData} (F : Fun K "is_fraction" "is_fraction" s_is_fraction f fd) (g : Glb K mg C_Label C_NoPath) (c_common_measure : Cl P w K mg base "common_measure" 1 ["one", "other"] (sp_common_measure)) (c_is_whole : Cl P w K mg base "is_whole" 1 ["thing"] (sp_is_whole)) : FnOk P w K mg base CX0 2 f fd ["thing"] (lift (sp_is_fraction )) := by
  refine F.ok3 sc_is_fraction (fun ts M R E h => sp1_len h) (fun cdv A outer s H E ts M R E3 hr h0 => ?_)
  obtain ⟨thing', rfl, h⟩ := sp1_of h0
  refine ⟨_, (ls_cons (ls_if (lt_w (lw_or (lt_not (lt_val (le_isi .tup (by rfl) g.m_isinstance (lv 0) (by rfl) g.m_tuple (by decide +kernel)))) (lw_or1 (lt_c (c_ne hr) (le_len (by rfl) g.m_len (la_cons (lv 0) la_nil)) le_int)))) (ls_one (ls_ret le_bl)) ls_nil) (ls_cons (ls_asg (lv 0) (lg_tup (by rfl) (lgs_cons (lg_name (i := 1) sc_is_fraction.nd rfl (by first | exact Or.inl rfl | exact Or.inr rfl)) (lgs_cons (lg_name (i := 2) sc_is_fraction.nd rfl (by first | exact Or.inl rfl | exact Or.inr rfl)) lgs_nil)))) (ls_cons (ls_if (lt_w (lw_or (lt_not (lt_val (le_call c_is_whole (hr.mono (by decide)) (by rfl) (la_cons (lv 1) la_nil)))) (lw_or (lt_not (lt_val (le_call c_is_whole (hr.mono (by decide)) (by rfl) (la_cons (lv 2) la_nil)))) (lw_or1 (lt_c c_le (lv 2) le_int))))) (ls_one (ls_ret le_bl)) ls_nil) (ls_one (ls_ret (le_c (c_eq hr) (le_call c_common_measure (hr.mono (by decide)) (by rfl) (la_cons (le_abs (by rfl) g.m_abs (la_cons (lv 1) la_nil)) (la_cons (lv 2) la_nil))) le_int)))))), ?_⟩
  obtain ⟨hk, h⟩ := h
  obtain ⟨j, hj⟩ := hk.kd
  have ht := isi_tup hj
  walk_at "w"
  rw [hj]
  walk_at "w"
  rw [ht]
  have no : (∀ a b : Int, thing' ≠ .tup [.int a, .int b]) → R (.bl false) M := fun n => by
    have : frB thing' = false := by
      unfold frB
      split
      · exact absurd rfl (n _ _)
      · rfl
    rw [this] at h
    exact h
  cases hk with
  | @tup xs hx =>
    match xs, hx, no, h with
    | [], _, no, _ => exact fin3.of (no fun _ _ z => by cases z)
    | [_], _, no, _ => exact fin3.of (no fun _ _ z => by cases z)
    | [x, y], hx, no, h =>
      refine ⟨hx x (.head _), ?_⟩
      cases x with
      | int i =>
        refine ⟨hx y (.tail _ (.head _)), ?_⟩
        cases y with
        | int k =>
          walk_at "w"
          by_cases e : k ≤ 0
          · rw [decide_eq_true e]
            refine fin3.of ?_
            have : frB (.tup [.int i, .int k]) = false := by
              show (decide (0 < k) && _) = false
              rw [decide_eq_false (by omega)]
              rfl
            rw [this] at h
            exact h
          · rw [decide_eq_false e]
            refine ⟨⟨?_, by omega⟩, ?_⟩
            · split <;> omega
            · refine fin3.of ?_
              have e1 : G.gc (if i < 0 then -i else i) k = G.gc i k := by
                unfold G.gc
                congr 1
                split <;> omega
              show R (.bl (decide (((G.gc (if i < 0 then -i else i) k : Nat) : Int) = 1))) M
              rw [e1]
              have : frB (.tup [.int i, .int k]) = decide (((G.gc i k : Nat) : Int) = 1) := by
                show (decide (0 < k) && decide (G.gc i k = 1)) = _
                rw [decide_eq_true (by omega), Bool.true_and]
                apply decide_eq_decide.mpr
                omega
              rw [this] at h
              exact h
        | _ => exact fin3.of (no fun _ _ z => by cases z)
      | _ => exact fin3.of (no fun _ _ z => by cases z)
    | x :: y :: z :: r, _, no, _ => exact fin3.of (no fun _ _ z => by cases z)
  | _ => exact fin3.of (no fun _ _ z => by cases z)
/-! ### is_name -/
abbrev s_is_name : Stmt := topS 38
abbrev nm_is_name : List Str := ["thing", "sign"]
theorem sc_is_name : FnScope nm_is_name ["thing"] (defScope s_is_name) := ⟨rfl, rfl, rfl, by decide +kernel, rfl, by decide +kernel, by decide +kernel⟩
def sp_is_name : Sp3 := sp1 fun t M R _ => KT M t ∧ (∀ z, t = .str z → z.length ≤ sizeLine) ∧ R (.bl (nmB t)) M
theorem ok_is_name {C_Label : Addr} {C_NoPath : Addr} {f : Addr} {fd : FuncData} (F : Fun K "is_name" "is_name" s_is_name f fd) (g : Glb K mg C_Label C_NoPath)  : FnOk P w K mg base CX0 2 f fd ["thing"] (lift (sp_is_name )) := by
  refine F.ok3 sc_is_name (fun ts M R E h => sp1_len h) (fun cdv A outer s H E ts M R E3 hr h0 => ?_)
  obtain ⟨thing', rfl, h⟩ := sp1_of h0
  refine ⟨_, (ls_cons (ls_if (lt_w (lw_or (lt_not (lt_val (le_isi .str (by rfl) g.m_isinstance (lv 0) (by rfl) g.m_str (by decide +kernel)))) (lw_or (lt_c c_lt (le_len (by rfl) g.m_len (la_cons (lv 0) la_nil)) le_int) (lw_or1 (lt_c c_gt (le_len (by rfl) g.m_len (la_cons (lv 0) la_nil)) (le_gintE (by rfl) g.k_MOST_LETTERS)))))) (ls_one (ls_ret le_bl)) ls_nil) (ls_one (ls_ret (le_all rfl (by rfl) g.m_all (la_cons (le_lc0 (own := [("sign", 1)]) rfl sc_is_name.nd (li_str (lv 0)) (blkOk_by (own := [("sign", 1)]) (N := nm_is_name) (sc := defScope s_is_name) (by decide +kernel)) (sg_name 1) (only_name (by decide)) (fun _ _ _ _ _ => (pg_name (i := 1) sc_is_name.nd rfl (by first | exact Or.inl rfl | exact Or.inr rfl))) (fun _ _ _ _ _ => lts_nil) (fun _ _ _ _ _ => (le_chain c_le c_le le_str (lv 1) le_str))) la_nil))))), ?_⟩
  obtain ⟨hk, hz, h⟩ := h
  obtain ⟨j, hj⟩ := hk.kd
  have ht := isi_str hj
  walk_at "w"
  rw [hj]
  walk_at "w"
  rw [ht]
  cases thing' with
  | str z =>
    have hzl := hz z rfl
    refine ⟨hzl, ?_⟩
    walk_at "w"
    by_cases h1 : (z.length : Int) < 1
    · rw [decide_eq_true h1]
      refine fin3.of ?_
      have : nmB (.str z) = false := by
        show (decide (1 ≤ z.length) && _ && _) = false
        rw [decide_eq_false (by omega)]
        rfl
      rw [this] at h
      exact h
    rw [decide_eq_false h1]
    refine ⟨hzl, ?_⟩
    walk_at "w"
    by_cases h2 : (8 : Int) < (z.length : Int)
    · rw [decide_eq_true h2]
      refine fin3.of ?_
      have : nmB (.str z) = false := by
        show (_ && decide (z.length ≤ 8) && _) = false
        rw [decide_eq_false (p := z.length ≤ 8) (by omega), Bool.and_false]
        rfl
      rw [this] at h
      exact h
    rw [decide_eq_false h2]
    intro p np
    refine lc_map (Gd := fun _ => True) np (fun t => match t with | .str y => .bl (okC (y.cps.toList.headD 0)) | _ => .non) (fun _ => trivial) (by rw [signs_len]; exact hzl) (fun x hx acc K q => ?_) ?_
    · obtain ⟨n, hn⟩ := List.getElem?_of_mem hx
      obtain ⟨c, hc, rfl⟩ := signs_of hn
      have q : K (.bl (okC c)) _ := q
      walk_at "w"
      rw [sg_le]
      unfold okC at q
      by_cases h3 : 97 ≤ c
      · rw [decide_eq_true h3] at q ⊢
        show K (.bl (!decide ((Str.ofString "z").cps.toList < (⟨#[c]⟩ : Str).cps.toList))) _
        rw [sg_ge]
        exact q
      · rw [decide_eq_false h3] at q ⊢
        exact q
    · refine ⟨z.cps.toList.map okC, ?_, ⟨M, .new np, ?_⟩⟩
      · rw [up_same]
        unfold signs
        rw [List.map_map, List.map_map]
        rfl
      · have : nmB (.str z) = (z.cps.toList.map okC).all id := by
          show (decide (1 ≤ z.length) && decide (z.length ≤ 8) && _) = _
          rw [decide_eq_true (p := 1 ≤ z.length) (by omega), decide_eq_true (p := z.length ≤ 8) (by omega), List.all_map]
          rfl
        rw [this] at h
        exact h
  | _ => exact fin3.of h
/-! ### is_stretch -/
abbrev s_is_stretch : Stmt := topS 39
abbrev nm_is_stretch : List Str := ["thing", "least", "most"]
theorem sc_is_stretch : FnScope nm_is_stretch ["thing"] (defScope s_is_stretch) := ⟨rfl, rfl, rfl, by decide +kernel, rfl, by decide +kernel, by decide +kernel⟩
def sp_is_stretch : Sp3 := sp1 fun t M R _ => KT M t ∧ szT t ∧ R (.bl (stB t)) M
theorem ok_is_stretch {C_Label : Addr} {C_NoPath : Addr} {f : Addr} {fd : FuncData} (F : Fun K "is_stretch" "is_stretch" s_is_stretch f fd) (g : Glb K mg C_Label C_NoPath) (c_is_less : Cl P w K mg base "is_less" 1 ["one", "other"] (sp_is_less)) (c_is_fraction : Cl P w K mg base "is_fraction" 2 ["thing"] (sp_is_fraction)) : FnOk P w K mg base CX0 3 f fd ["thing"] (lift (sp_is_stretch )) := by
  refine F.ok3 sc_is_stretch (fun ts M R E h => sp1_len h) (fun cdv A outer s H E ts M R E3 hr h0 => ?_)
  obtain ⟨thing', rfl, h⟩ := sp1_of h0
  refine ⟨_, (ls_cons (ls_if (lt_w (lw_or (lt_not (lt_val (le_isi .tup (by rfl) g.m_isinstance (lv 0) (by rfl) g.m_tuple (by decide +kernel)))) (lw_or1 (lt_c (c_ne hr) (le_len (by rfl) g.m_len (la_cons (lv 0) la_nil)) le_int)))) (ls_one (ls_ret le_bl)) ls_nil) (ls_cons (ls_asg (lv 0) (lg_tup (by rfl) (lgs_cons (lg_name (i := 1) sc_is_stretch.nd rfl (by first | exact Or.inl rfl | exact Or.inr rfl)) (lgs_cons (lg_name (i := 2) sc_is_stretch.nd rfl (by first | exact Or.inl rfl | exact Or.inr rfl)) lgs_nil)))) (ls_cons (ls_if (lt_w (lw_or (lt_not (lt_val (le_call c_is_fraction (hr.mono (by decide)) (by rfl) (la_cons (lv 1) la_nil)))) (lw_or1 (lt_not (lt_val (le_call c_is_fraction (hr.mono (by decide)) (by rfl) (la_cons (lv 2) la_nil))))))) (ls_one (ls_ret le_bl)) ls_nil) (ls_one (ls_ret (le_and (le_not (le_call c_is_less (hr.mono (by decide)) (by rfl) (la_cons (lv 1) (la_cons (le_tup (la_cons le_int (la_cons le_int la_nil))) la_nil)))) (le_and (le_not (le_call c_is_less (hr.mono (by decide)) (by rfl) (la_cons (lv 2) (la_cons (lv 1) la_nil)))) (le_one (le_not (le_call c_is_less (hr.mono (by decide)) (by rfl) (la_cons (le_tup (la_cons le_int (la_cons le_int la_nil))) (la_cons (lv 2) la_nil)))))))))))), ?_⟩
  obtain ⟨hk, hz, h⟩ := h
  obtain ⟨j, hj⟩ := hk.kd
  have ht := isi_tup hj
  walk_at "w"
  rw [hj]
  walk_at "w"
  rw [ht]
  cases hk with
  | @tup xs hx =>
    match xs, hx, h, hz with
    | [], _, h, _ => exact fin3.of h
    | [_], _, h, _ => exact fin3.of h
    | x :: y :: z :: r, _, h, _ => exact fin3.of h
    | [x, y], hx, h, hz =>
      have h : R (.bl (frB x && frB y && ordB x y)) M := h
      refine ⟨hx x (.head _), ?_⟩
      walk_at "w"
      cases e1 : frB x with
      | false =>
        rw [e1] at h
        exact fin3.of h
      | true =>
        refine ⟨hx y (.tail _ (.head _)), ?_⟩
        walk_at "w"
        rw [e1] at h
        cases e2 : frB y with
        | false =>
          rw [e2] at h
          exact fin3.of h
        | true =>
          rw [e2] at h
          obtain ⟨a, b, rfl, f1⟩ := frB_int e1
          obtain ⟨c, d, rfl, f2⟩ := frB_int e2
          obtain ⟨⟨z1, z2⟩, z3, z4⟩ := hz
          have h : R (.bl (decide (0 ≤ a) && decide (a * d ≤ c * b) && decide (c ≤ d))) M := h
          refine ⟨⟨cm_of z1 (one_lt (.inr rfl)), cm_of (one_lt (.inl rfl)) z2⟩, ?_⟩
          walk_at "w"
          rw [Int.mul_one, Int.zero_mul]
          by_cases k1 : a < 0
          · rw [decide_eq_true k1]
            rw [decide_eq_false (p := 0 ≤ a) (by omega)] at h
            exact fin3.of h
          rw [decide_eq_false k1]
          rw [decide_eq_true (p := 0 ≤ a) (by omega)] at h
          refine ⟨⟨cm_of z3 z2, cm_of z1 z4⟩, ?_⟩
          walk_at "w"
          by_cases k2 : c * b < a * d
          · rw [decide_eq_true k2]
            rw [decide_eq_false (p := a * d ≤ c * b) (by omega)] at h
            exact fin3.of h
          rw [decide_eq_false k2]
          rw [decide_eq_true (p := a * d ≤ c * b) (by omega)] at h
          refine ⟨⟨cm_of (one_lt (.inr rfl)) z4, cm_of z3 (one_lt (.inr rfl))⟩, fin3.of ?_⟩
          show R (.bl (!decide (1 * d < c * 1))) M
          rw [Int.one_mul, Int.mul_one]
          have : (!decide (d < c)) = decide (c ≤ d) := by
            by_cases k3 : c ≤ d
            · rw [decide_eq_true k3, decide_eq_false (by omega)]
              rfl
            · rw [decide_eq_false k3, decide_eq_true (by omega)]
              rfl
          rw [this]
          exact h
  | _ => exact fin3.of h
/-! ### is_path -/
abbrev s_is_path : Stmt := topS 40
abbrev nm_is_path : List Str := ["thing", "number"]
theorem sc_is_path : FnScope nm_is_path ["thing"] (defScope s_is_path) := ⟨rfl, rfl, rfl, by decide +kernel, rfl, by decide +kernel, by decide +kernel⟩
def sp_is_path : Sp3 := sp1 fun t M R _ => KT M t ∧ (∀ xs, t = .tup xs → xs.length ≤ sizeLine) ∧ R (.bl (paB t)) M
theorem ok_is_path {C_Label : Addr} {C_NoPath : Addr} {f : Addr} {fd : FuncData} (F : Fun K "is_path" "is_path" s_is_path f fd) (g : Glb K mg C_Label C_NoPath) (c_is_whole : Cl P w K mg base "is_whole" 1 ["thing"] (sp_is_whole)) : FnOk P w K mg base CX0 2 f fd ["thing"] (lift (sp_is_path )) := by
  refine F.ok3 sc_is_path (fun ts M R E h => sp1_len h) (fun cdv A outer s H E ts M R E3 hr h0 => ?_)
  obtain ⟨thing', rfl, h⟩ := sp1_of h0
  refine ⟨_, (ls_one (ls_ret (le_and (le_isi .tup (by rfl) g.m_isinstance (lv 0) (by rfl) g.m_tuple (by decide +kernel)) (le_one (le_all rfl (by rfl) g.m_all (la_cons (le_lc0 (own := [("number", 1)]) rfl sc_is_path.nd (li_tup (lv 0)) (blkOk_by (own := [("number", 1)]) (N := nm_is_path) (sc := defScope s_is_path) (by decide +kernel)) (sg_name 1) (only_name (by decide)) (fun _ _ _ _ _ => (pg_name (i := 1) sc_is_path.nd rfl (by first | exact Or.inl rfl | exact Or.inr rfl))) (fun _ _ _ _ _ => lts_nil) (fun _ _ _ _ _ => (le_call c_is_whole (hr.mono (by decide)) (by rfl) (la_cons (lv 1) la_nil)))) la_nil)))))), ?_⟩
  obtain ⟨hk, hl, h⟩ := h
  obtain ⟨j, hj⟩ := hk.kd
  have ht := isi_tup hj
  walk_at "w"
  rw [hj]
  walk_at "w"
  rw [ht]
  cases hk with
  | @tup xs hx =>
    intro p np
    refine lc_map (Gd := fun _ => True) np (fun t => .bl (isW t)) (fun _ => trivial) (hl xs rfl) (fun x hx' acc K q => ?_) ?_
    · exact ⟨(hx x hx').sub (.new np), q⟩
    · refine ⟨xs.map isW, ?_, ⟨M, .new np, ?_⟩⟩
      · rw [up_same, List.map_map]
        rfl
      · have : (xs.map isW).all id = xs.all isW := by rw [List.all_map]; rfl
        show R (.bl ((xs.map isW).all id)) M
        rw [this]
        exact h
  | _ => exact fin3.of h
/-! ### is_filled -/
abbrev s_is_filled : Stmt := topS 41
abbrev nm_is_filled : List Str := ["thing"]
theorem sc_is_filled : FnScope nm_is_filled ["thing"] (defScope s_is_filled) := ⟨rfl, rfl, rfl, by decide +kernel, rfl, by decide +kernel, by decide +kernel⟩
def sp_is_filled : Sp3 := sp1 fun t M R _ => KT M t ∧ R (.bl (fiB t)) M
theorem ok_is_filled {C_Label : Addr} {C_NoPath : Addr} {f : Addr} {fd : FuncData} (F : Fun K "is_filled" "is_filled" s_is_filled f fd) (g : Glb K mg C_Label C_NoPath)  : FnOk P w K mg base CX0 1 f fd ["thing"] (lift (sp_is_filled )) := by
  refine F.ok3 sc_is_filled (fun ts M R E h => sp1_len h) (fun cdv A outer s H E ts M R E3 hr h0 => ?_)
  obtain ⟨thing', rfl, h⟩ := sp1_of h0
  refine ⟨_, (ls_one (ls_ret (le_and (le_isi .tup (by rfl) g.m_isinstance (lv 0) (by rfl) g.m_tuple (by decide +kernel)) (le_one (le_c c_gt (le_len (by rfl) g.m_len (la_cons (lv 0) la_nil)) le_int))))), ?_⟩
  obtain ⟨hk, h⟩ := h
  obtain ⟨j, hj⟩ := hk.kd
  have ht := isi_tup hj
  walk_at "w"
  rw [hj]
  walk_at "w"
  rw [ht]
  cases hk with
  | @tup xs hx =>
    cases xs with
    | nil => exact fin3.of h
    | cons x xs =>
      refine fin3.of ?_
      have : decide ((0 : Int) < ((x :: xs).length : Int)) = true := decide_eq_true (by rw [List.length_cons]; omega)
      show R (.bl (decide ((0 : Int) < ((x :: xs).length : Int)))) M
      rw [this]
      exact h
  | _ => exact fin3.of h
/-! ### is_formed -/
abbrev s_is_formed : Stmt := topS 42
abbrev nm_is_formed : List Str := ["thing", "name", "told", "inside"]
theorem sc_is_formed : FnScope nm_is_formed ["thing"] (defScope s_is_formed) := ⟨rfl, rfl, rfl, by decide +kernel, rfl, by decide +kernel, by decide +kernel⟩
def sp_is_formed : Sp3 := sp1 fun t M R _ => KT M t ∧ smT t ∧ R (.bl (fmB t)) M
theorem ok_is_formed {C_Label : Addr} {C_NoPath : Addr} {f : Addr} {fd : FuncData} (F : Fun K "is_formed" "is_formed" s_is_formed f fd) (g : Glb K mg C_Label C_NoPath) (c_is_filled : Cl P w K mg base "is_filled" 1 ["thing"] (sp_is_filled)) (c_is_stretch : Cl P w K mg base "is_stretch" 3 ["thing"] (sp_is_stretch)) (c_is_name : Cl P w K mg base "is_name" 2 ["thing"] (sp_is_name)) : FnOk P w K mg base CX0 4 f fd ["thing"] (lift (sp_is_formed )) := by
  refine F.ok3 sc_is_formed (fun ts M R E h => sp1_len h) (fun cdv A outer s H E ts M R E3 hr h0 => ?_)
  obtain ⟨thing', rfl, h⟩ := sp1_of h0
  refine ⟨_, (ls_cons (ls_if (lt_w (lw_or (lt_not (lt_val (le_isi .tup (by rfl) g.m_isinstance (lv 0) (by rfl) g.m_tuple (by decide +kernel)))) (lw_or1 (lt_c (c_ne hr) (le_len (by rfl) g.m_len (la_cons (lv 0) la_nil)) le_int)))) (ls_one (ls_ret le_bl)) ls_nil) (ls_cons (ls_asg (lv 0) (lg_tup (by rfl) (lgs_cons (lg_name (i := 1) sc_is_formed.nd rfl (by first | exact Or.inl rfl | exact Or.inr rfl)) (lgs_cons (lg_name (i := 2) sc_is_formed.nd rfl (by first | exact Or.inl rfl | exact Or.inr rfl)) (lgs_cons (lg_name (i := 3) sc_is_formed.nd rfl (by first | exact Or.inl rfl | exact Or.inr rfl)) lgs_nil))))) (ls_cons (ls_if (lt_not (lt_val (le_call c_is_name (hr.mono (by decide)) (by rfl) (la_cons (lv 1) la_nil)))) (ls_one (ls_ret le_bl)) ls_nil) (ls_cons (ls_if (lt_w (lw_and (lt_c c_notN (lv 2) le_non) (lw_and1 (lt_not (lt_val (le_call c_is_stretch (hr.mono (by decide)) (by rfl) (la_cons (lv 2) la_nil))))))) (ls_one (ls_ret le_bl)) ls_nil) (ls_one (ls_ret (le_or (le_c c_isN (lv 3) le_non) (le_one (le_call c_is_filled (hr.mono (by decide)) (by rfl) (la_cons (lv 3) la_nil)))))))))), ?_⟩
  obtain ⟨hk, hz, h⟩ := h
  obtain ⟨j, hj⟩ := hk.kd
  have ht := isi_tup hj
  walk_at "w"
  rw [hj]
  walk_at "w"
  rw [ht]
  cases hk with
  | @tup xs hx =>
    match xs, hx, h, hz with
    | [], _, h, _ => exact fin3.of h
    | [_], _, h, _ => exact fin3.of h
    | [_, _], _, h, _ => exact fin3.of h
    | x :: y :: z :: w :: r, _, h, _ => exact fin3.of h
    | [x, y, z], hx, h, hz =>
      have h : R (.bl (nmB x && (isNon y || stB y) && (isNon z || fiB z))) M := h
      refine ⟨hx x (.head _), hz.1, ?_⟩
      walk_at "w"
      cases e1 : nmB x with
      | false =>
        rw [e1] at h
        exact fin3.of h
      | true =>
        rw [e1] at h
        walk_at "w"
        have rest : R (.bl (isNon z || fiB z)) M → fin3 R (.bl (isNon z || fiB z)) M := fin3.of
        have fin : ∀ D τ, D = { nx := fun _ M' => fin3 R .non M', rt := fin3 R : En } → τ = [some (.tup [x, y, z]), some x, some y, some z] → R (.bl (isNon z || fiB z)) M → sRet (eOr (eOp (oIsN id) (eVar 3) (eC .non)) (eCall sp_is_filled N3 (aCons (eVar 3) aNil))) D τ M := by
          rintro D τ rfl rfl q
          walk_at "w"
          cases e3 : isNon z with
          | true =>
            rw [e3] at q
            exact fin3.of q
          | false =>
            rw [e3] at q
            exact ⟨hx z (.tail _ (.tail _ (.head _))), fin3.of q⟩
        cases e2 : isNon y with
        | true =>
          rw [e2] at h
          exact fin _ _ rfl rfl h
        | false =>
          rw [e2] at h
          refine ⟨hx y (.tail _ (.head _)), hz.2, ?_⟩
          walk_at "w"
          cases e4 : stB y with
          | false =>
            rw [e4] at h
            exact fin3.of h
          | true =>
            rw [e4] at h
            exact fin _ _ rfl rfl h
  | _ => exact fin3.of h
end
end L3
set_option Elab.async false
set_option linter.all false
set_option maxRecDepth 100000
set_option maxHeartbeats 1000000
namespace L3
open PySem PySem.Spec PyProof.Rows L2
local macro_rules | `(tactic| walk_at "w") => `(tactic| ((conv => whnf); try dsimp only))

section
variable {P : Program} {w : World} {K : Fg} {mg : Str → Option Value} {base : Heap}
/-! ### check_list -/
abbrev s_check_list : Stmt := topS 43
abbrev nm_check_list : List Str := ["places", "above", "around", "ahead", "at", "place", "path", "name", "told", "inside"]
theorem sc_check_list : FnScope nm_check_list ["places", "above", "around"] (defScope s_check_list) := ⟨rfl, rfl, rfl, by decide +kernel, rfl, by decide +kernel, by decide +kernel⟩
def sp_check_list (d : Nat) : Sp3 := sp3 fun x y z M R _ => ∃ (fo : Fo) (ks : List T) (ar : Addr) (ns : List Str), x = .tup fo.ts ∧ y = .tup ks ∧ z = .ref ar ∧ M ar = some (.lst (ns.map T.str)) ∧ Gd fo ∧ fo ≠ .nil ∧ fo.depth ≤ d ∧ fo.cnt ≤ 1000 ∧ ks.length + d ≤ 4 ∧ ns.length + d ≤ 10 ∧ Ns ns [] fo ∧ R .non M
theorem ok_check_list_S {C_Label : Addr} {C_NoPath : Addr} {f : Addr} {fd : FuncData} (F : Fun K "check_list" "check_list" s_check_list f fd) (g : Glb K mg C_Label C_NoPath) {d : Nat} (c_check_list : Cl P w K mg base "check_list" (5 + d) ["places", "above", "around"] (sp_check_list d)) (c_is_formed : Cl P w K mg base "is_formed" 4 ["thing"] (sp_is_formed)) : FnOk P w K mg base CX0 (5 + d + 1) f fd ["places", "above", "around"] (lift (sp_check_list (d + 1))) := by
  refine F.ok3 sc_check_list (fun ts M R E h => sp3_len h) (fun cdv A outer s H E ts M R E3 hr h0 => ?_)
  obtain ⟨places', above', around', rfl, h⟩ := sp3_of h0
  refine ⟨_, (ls_cons (ls_set (i := 3) sc_check_list.nd rfl (by first | exact Or.inl rfl | exact Or.inr rfl) (le_lst la_nil)) (ls_one (ls_for PassesOwn.never rfl (li_enumT (by rfl) g.m_enumerate (la_cons (lv 0) la_nil)) (lg_tup (by rfl) (lgs_cons (lg_name (i := 4) sc_check_list.nd rfl (by first | exact Or.inl rfl | exact Or.inr rfl)) (lgs_cons (lg_name (i := 5) sc_check_list.nd rfl (by first | exact Or.inl rfl | exact Or.inr rfl)) lgs_nil))) (ls_cons (ls_set (i := 6) sc_check_list.nd rfl (by first | exact Or.inl rfl | exact Or.inr rfl) (le_add (lv 1) (le_tup (la_cons (lv 4) la_nil)))) (ls_cons (ls_if (lt_w (lw_or (lt_c c_gt (le_len (by rfl) g.m_len (la_cons (lv 6) la_nil)) (le_gintE (by rfl) g.k_MOST_DEPTH)) (lw_or1 (lt_not (lt_val (le_call c_is_formed (hr.mono (by omega)) (by rfl) (la_cons (lv 5) la_nil))))))) (ls_one ls_never) ls_nil) (ls_cons (ls_asg (lv 5) (lg_tup (by rfl) (lgs_cons (lg_name (i := 7) sc_check_list.nd rfl (by first | exact Or.inl rfl | exact Or.inr rfl)) (lgs_cons (lg_name (i := 8) sc_check_list.nd rfl (by first | exact Or.inl rfl | exact Or.inr rfl)) (lgs_cons (lg_name (i := 9) sc_check_list.nd rfl (by first | exact Or.inl rfl | exact Or.inr rfl)) lgs_nil))))) (ls_cons (ls_if (lt_w (lw_or (lt_c c_inS (lv 7) (lv 3)) (lw_or1 (lt_c c_inS (lv 7) (lv 2))))) (ls_one ls_never) ls_nil) (ls_cons (ls_expr (le_append (lv 3) (la_cons (lv 7) la_nil))) (ls_one (ls_if (lt_c c_notN (lv 9) le_non) (ls_one (ls_expr (le_call c_check_list hr (by rfl) (la_cons (lv 9) (la_cons (lv 6) (la_cons (le_add (lv 2) (le_lst (la_cons (lv 7) la_nil))) la_nil)))))) ls_nil)))))))))), ?_⟩
  obtain ⟨fo, ks, ar, ns, rfl, rfl, rfl, er, gd, ne, dp, ct, hks, hns, un, h⟩ := h
  have lc := Fo.len_cnt fo
  intro D nD
  refine ⟨fun n τ M1 => n ≤ fo.items.length ∧ ∃ v4 v5 v6 v7 v8 v9, τ = [some (.tup fo.ts), some (.tup ks), some (.ref ar), some (.ref D), v4, v5, v6, v7, v8, v9] ∧ Sub (up M D (.lst ((fo.names.take n).map T.str))) M1, ⟨Nat.zero_le _, none, none, none, none, none, none, rfl, .refl⟩, fun _ _ _ _ => trivial, ?_, ?_⟩
  · rintro n x τ M1 hx ⟨hn, v4, v5, v6, v7, v8, v9, rfl, s1⟩
    obtain ⟨y, hy, rfl⟩ := pairs_of hx
    obtain ⟨t, ht, rfl⟩ := Fo.ts_at hy
    have hlt := (List.getElem?_eq_some_iff.mp ht).1
    obtain ⟨k1, k2⟩ := Fo.at_cnt ht
    obtain ⟨h1, h2, h3⟩ := gd.at ht
    obtain ⟨u1, u2, u3⟩ := un.at ht
    have eD := s1.at
    have eR := s1.old nD _ _ er
    refine ⟨by show ks.length + 1 ≤ sizeLine; exact Nat.le_trans (show ks.length + 1 ≤ 4 by omega) (by decide), ?_⟩
    walk_at "w"
    have e4 : decide ((4 : Int) < ((ks ++ [T.int ((0 + n : Nat) : Int)]).length : Int)) = false := decide_eq_false (by rw [List.length_append]; show ¬ (4 : Int) < ((ks.length + 1 : Nat) : Int); omega)
    rw [e4]
    obtain ⟨f1, f2⟩ := fm_plt h1 h2
    refine ⟨(pu_plt t).kt, f2, ?_⟩
    walk_at "w"
    rw [f1]
    refine ⟨fo.names.take n, eD, ?_⟩
    walk_at "w"
    rw [decide_eq_false (show ¬ t.1 ∈ fo.names.take n from u1)]
    refine ⟨ns, eR, ?_⟩
    walk_at "w"
    rw [decide_eq_false (show ¬ t.1 ∈ ns from u2)]
    walk_at "w"
    rw [eD]
    walk_at "w"
    rw [eD]
    refine ⟨?_, ?_⟩
    · rw [List.length_map, List.length_take]
      exact Nat.lt_of_lt_of_le (show min n fo.names.length < 1001 by unfold Fo.names; rw [List.length_map]; omega) (by decide)
    have e5 : (fo.names.take n).map T.str ++ [.str t.1] = (fo.names.take (n + 1)).map T.str := by
      rw [List.take_add_one, Fo.names_at ht, List.map_append]
      rfl
    rw [e5]
    have s2 : Sub (up M D (.lst ((fo.names.take (n + 1)).map T.str))) (up M1 D (.lst ((fo.names.take (n + 1)).map T.str))) := s1.re nD
    have eR2 := s2.old nD _ _ er
    generalize up M1 D (.lst ((fo.names.take (n + 1)).map T.str)) = M2 at s2 eR2 ⊢
    obtain ⟨nm, td, i⟩ := t
    dsimp only at k1 k2
    cases i with
    | nil => exact ⟨hlt, _, _, _, _, _, _, rfl, s2⟩
    | cons a b c d' =>
      intro l nl
      walk_at "w"
      rw [up_ne (ne_free eR2 nl), eR2, up_same]
      refine ⟨by rw [List.length_map]; exact Nat.le_trans (show ns.length + 1 ≤ 11 by omega) (by decide), fun q nq => ?_⟩
      refine ⟨.cons a b c d', _, q, ns ++ [nm], rfl, rfl, rfl, by rw [up_same, List.map_append]; rfl, h3, (by intro z; cases z), by show (Fo.cons a b c d').depth ≤ d; omega, by show (Fo.cons a b c d').cnt ≤ 1000; omega, by rw [List.length_append]; show ks.length + 1 + d ≤ 4; omega, by rw [List.length_append]; show ns.length + 1 + d ≤ 10; omega, u3, ?_⟩
      exact ⟨hlt, _, _, _, _, _, _, rfl, s2.trans ((Sub.new nl).trans (.new nq))⟩
  · rintro τ M1 ⟨hn, v4, v5, v6, v7, v8, v9, rfl, s1⟩
    exact ⟨M, s1.old nD, h⟩
theorem ok_check_list {C_Label : Addr} {C_NoPath : Addr} {f : Addr} {fd : FuncData} (F : Fun K "check_list" "check_list" s_check_list f fd) (g : Glb K mg C_Label C_NoPath) (hb : Binds K fd ["places", "above", "around"] []) (hm : mg "check_list" = some (.ref f)) (c_is_formed : Cl P w K mg base "is_formed" 4 ["thing"] (sp_is_formed)) : ∀ d, FnOk P w K mg base CX0 (5 + d) f fd ["places", "above", "around"] (lift (sp_check_list d))
  | 0 => fn_never <|
    fun ts M R E h => by
      obtain ⟨_, _, _, rfl, h⟩ := sp3_of h
      obtain ⟨fo, ks, ar, ns, _, _, _, _, _, ne, dp, _⟩ := h
      exact ne (Fo.nil_of_depth (Nat.le_zero.mp dp))
  | d + 1 => ok_check_list_S F g ⟨_, f, fd, ok_check_list F g hb hm c_is_formed d, fun _ _ _ _ _ z => z, hm, F.kp, hb⟩ c_is_formed
/-! ### check_places -/
abbrev s_check_places : Stmt := topS 44
abbrev nm_check_places : List Str := ["places"]
theorem sc_check_places : FnScope nm_check_places ["places"] (defScope s_check_places) := ⟨rfl, rfl, rfl, by decide +kernel, rfl, by decide +kernel, by decide +kernel⟩
def sp_check_places : Sp3 := sp1 fun x M R _ => ∃ fo : Fo, x = .tup fo.ts ∧ GoodF fo ∧ R .non M
theorem ok_check_places {C_Label : Addr} {C_NoPath : Addr} {f : Addr} {fd : FuncData} (F : Fun K "check_places" "check_places" s_check_places f fd) (g : Glb K mg C_Label C_NoPath) (c_check_list : Cl P w K mg base "check_list" (5 + 4) ["places", "above", "around"] (sp_check_list 4)) (c_is_filled : Cl P w K mg base "is_filled" 1 ["thing"] (sp_is_filled)) : FnOk P w K mg base CX0 10 f fd ["places"] (lift (sp_check_places )) := by
  refine F.ok3 sc_check_places (fun ts M R E h => sp1_len h) (fun cdv A outer s H E ts M R E3 hr h0 => ?_)
  obtain ⟨places', rfl, h⟩ := sp1_of h0
  refine ⟨_, (ls_cons (ls_if (lt_not (lt_val (le_call c_is_filled (hr.mono (by decide)) (by rfl) (la_cons (lv 0) la_nil)))) (ls_one ls_never) ls_nil) (ls_one (ls_expr (le_call c_check_list (hr.mono (by decide)) (by rfl) (la_cons (lv 0) (la_cons (le_tup la_nil) (la_cons (le_lst la_nil) la_nil))))))), ?_⟩
  obtain ⟨fo, rfl, gf, h⟩ := h
  refine ⟨.tup fun x hx => ((pu_fo fo).1 x hx).kt, ?_⟩
  have : fiB (.tup fo.ts) = true := by
    cases fo with
    | nil => exact absurd rfl gf.ne
    | cons a b c d => rfl
  walk_at "w"
  rw [this]
  intro l nl
  exact ⟨fo, [], l, [], rfl, rfl, rfl, up_same, gf.gd, gf.ne, gf.dp, (by have := gf.ct; omega), by decide, by decide, gf.un, M, .new nl, h⟩
/-! ### check_names -/
abbrev s_check_names : Stmt := topS 46
abbrev nm_check_names : List Str := ["names", "number", "name"]
theorem sc_check_names : FnScope nm_check_names ["names"] (defScope s_check_names) := ⟨rfl, rfl, rfl, by decide +kernel, rfl, by decide +kernel, by decide +kernel⟩
def StrsIn (M : Mh) (t : T) (ws : List Str) : Prop := t = .tup (ws.map T.str) ∨ ∃ a, t = .ref a ∧ M a = some (.lst (ws.map T.str))
theorem StrsIn.sub {M M' : Mh} {t : T} {ws : List Str} (h : StrsIn M t ws) (s : Sub M M') : StrsIn M' t ws := h.imp id fun ⟨a, e, h⟩ => ⟨a, e, s _ _ h⟩
def sp_check_names : Sp3 := sp1 fun x M R _ => ∃ ws : List Str, StrsIn M x ws ∧ (∀ y ∈ ws, NmOk y) ∧ ws.length ≤ 1000 ∧ R .non M
theorem ok_check_names {C_Label : Addr} {C_NoPath : Addr} {f : Addr} {fd : FuncData} (F : Fun K "check_names" "check_names" s_check_names f fd) (g : Glb K mg C_Label C_NoPath) (c_is_name : Cl P w K mg base "is_name" 2 ["thing"] (sp_is_name)) : FnOk P w K mg base CX0 3 f fd ["names"] (lift (sp_check_names )) := by
  refine F.ok3 sc_check_names (fun ts M R E h => sp1_len h) (fun cdv A outer s H E ts M R E3 hr h0 => ?_)
  obtain ⟨names', rfl, h⟩ := sp1_of h0
  refine ⟨_, (ls_cons (ls_if (lt_not (lt_val (le_isi2 .lst .tup (by rfl) g.m_isinstance (lv 0) (by rfl) g.m_list (by rfl) g.m_tuple (by decide +kernel) (by decide +kernel)))) (ls_one ls_never) ls_nil) (ls_one (ls_for PassesOwn.never rfl (li_or (li_enum (by rfl) g.m_enumerate (la_cons (lv 0) la_nil)) (li_enumT (by rfl) g.m_enumerate (la_cons (lv 0) la_nil))) (lg_tup (by rfl) (lgs_cons (lg_name (i := 1) sc_check_names.nd rfl (by first | exact Or.inl rfl | exact Or.inr rfl)) (lgs_cons (lg_name (i := 2) sc_check_names.nd rfl (by first | exact Or.inl rfl | exact Or.inr rfl)) lgs_nil))) (ls_one (ls_if (lt_not (lt_val (le_call c_is_name (hr.mono (by decide)) (by rfl) (la_cons (lv 2) la_nil)))) (ls_one ls_never) ls_nil))))), ?_⟩
  obtain ⟨ws, ht, hw, hl, h⟩ := h
  have step : ∀ (n : Nat) (x : T), (pairs 0 (ws.map T.str))[n]? = some x → ∃ z, x = .tup [.int n, .str z] ∧ NmOk z := fun n x hx => by
    obtain ⟨y, hy, rfl⟩ := pairs_of hx
    rw [List.getElem?_map] at hy
    cases e : ws[n]? with
    | none => rw [e] at hy; cases hy
    | some z =>
      rw [e] at hy
      cases hy
      exact ⟨z, by rw [Nat.zero_add], hw z (List.mem_of_getElem? e)⟩
  rcases ht with rfl | ⟨a, rfl, ea⟩
  · refine .inr ⟨fun n τ M1 => ∃ v1 v2, τ = [some (.tup (ws.map T.str)), v1, v2] ∧ M1 = M, ⟨none, none, rfl, rfl⟩, fun _ _ _ _ => trivial, ?_, ?_⟩
    · rintro n x τ M1 hx ⟨v1, v2, rfl, rfl⟩
      obtain ⟨z, rfl, ok⟩ := step n x hx
      refine ⟨.str z, fun z' hz => ?_, ?_⟩
      · cases hz
        exact Nat.le_trans ok.len.2 (by decide)
      · walk_at "w"
        rw [show nmB (.str z) = true from ok]
        exact ⟨_, _, rfl, rfl⟩
    · rintro τ M1 ⟨v1, v2, rfl, rfl⟩
      exact fin3.of h
  · walk_at "w"
    rw [show L3.kd M (.ref a) = some .lst by unfold L3.kd; simp only [ea]]
    refine .inl ?_
    walk_at "w"
    rw [ea]
    refine ⟨fun n τ M1 => ∃ v1 v2, τ = [some (.ref a), v1, v2] ∧ M1 = M, ⟨none, none, rfl, rfl⟩, fun _ _ _ ⟨_, _, _, e⟩ => e ▸ ea, ?_, ?_⟩
    · rintro n x τ M1 hx ⟨v1, v2, rfl, rfl⟩
      obtain ⟨z, rfl, ok⟩ := step n x hx
      refine ⟨.str z, fun z' hz => ?_, ?_⟩
      · cases hz
        exact Nat.le_trans ok.len.2 (by decide)
      · walk_at "w"
        rw [show nmB (.str z) = true from ok]
        exact ⟨_, _, rfl, rfl⟩
    · rintro τ M1 ⟨v1, v2, rfl, rfl⟩
      exact fin3.of h
/-! ### gather -/
abbrev s_gather : Stmt := topS 47
abbrev nm_gather : List Str := ["places", "above", "found", "at", "place", "path"]
theorem sc_gather : FnScope nm_gather ["places", "above", "found"] (defScope s_gather) := ⟨rfl, rfl, rfl, by decide +kernel, rfl, by decide +kernel, by decide +kernel⟩
def sp_gather (d : Nat) : Sp3 := sp3 fun x y z M R _ => ∃ (fo : Fo) (ks : List Key) (D : Addr) (kvs : List (List Key × T)), x = .tup fo.ts ∧ y = .tup (ks.map keyT) ∧ z = .ref D ∧ M D = some (.dT kvs) ∧ fo ≠ .nil ∧ fo.depth ≤ d ∧ ks.length + d ≤ 50 ∧ kvs.length + fo.cnt ≤ 1000 ∧
  (∀ x ∈ kvs, ∀ m rest, x.1 ≠ ks ++ iK m :: rest) ∧ R .non (up M D (.dT (kvs ++ gaF ks 0 fo)))
theorem ok_gather_S {C_Label : Addr} {C_NoPath : Addr} {f : Addr} {fd : FuncData} (F : Fun K "gather" "gather" s_gather f fd) (g : Glb K mg C_Label C_NoPath) {d : Nat} (c_gather : Cl P w K mg base "gather" (1 + d) ["places", "above", "found"] (sp_gather d))  : FnOk P w K mg base CX0 (1 + d + 1) f fd ["places", "above", "found"] (lift (sp_gather (d + 1))) := by
  refine F.ok3 sc_gather (fun ts M R E h => sp3_len h) (fun cdv A outer s H E ts M R E3 hr h0 => ?_)
  obtain ⟨places', above', found', rfl, h⟩ := sp3_of h0
  refine ⟨_, (ls_one (ls_for PassesOwn.never rfl (li_enumT (by rfl) g.m_enumerate (la_cons (lv 0) la_nil)) (lg_tup (by rfl) (lgs_cons (lg_name (i := 3) sc_gather.nd rfl (by first | exact Or.inl rfl | exact Or.inr rfl)) (lgs_cons (lg_name (i := 4) sc_gather.nd rfl (by first | exact Or.inl rfl | exact Or.inr rfl)) lgs_nil))) (ls_cons (ls_set (i := 5) sc_gather.nd rfl (by first | exact Or.inl rfl | exact Or.inr rfl) (le_add (lv 1) (le_tup (la_cons (lv 3) la_nil)))) (ls_cons (ls_put hr (lv 2) (lv 5) (lv 4)) (ls_one (ls_if (lt_c c_notN (le_at (lv 4) le_int) le_non) (ls_one (ls_expr (le_call c_gather hr (by rfl) (la_cons (le_at (lv 4) le_int) (la_cons (lv 5) (la_cons (lv 2) la_nil)))))) ls_nil)))))), ?_⟩
  obtain ⟨fo, ks, D, kvs, rfl, rfl, rfl, eD, ne, dp, hkd, hct, hfr, h⟩ := h
  have lc := Fo.len_cnt fo
  refine ⟨fun n τ M1 => n ≤ fo.items.length ∧ ∃ v3 v4 v5, τ = [some (.tup fo.ts), some (.tup (ks.map keyT)), some (.ref D), v3, v4, v5] ∧ M1 = up M D (.dT (kvs ++ gaTo ks 0 n fo)), ⟨Nat.zero_le _, none, none, none, rfl, by rw [gaTo_zero, List.append_nil, up_eta eD]⟩, fun _ _ _ _ => trivial, ?_, ?_⟩
  · rintro n x τ M1 hx ⟨hn, v3, v4, v5, rfl, rfl⟩
    obtain ⟨y, hy, rfl⟩ := pairs_of hx
    obtain ⟨t, ht, rfl⟩ := Fo.ts_at hy
    have hlt := (List.getElem?_eq_some_iff.mp ht).1
    obtain ⟨k1, k2⟩ := Fo.at_cnt ht
    rw [Nat.zero_add]
    refine ⟨by rw [List.length_map]; show ks.length + 1 ≤ sizeLine; exact Nat.le_trans (show ks.length + 1 ≤ 51 by omega) (by decide), ?_⟩
    have ek : ks.map keyT ++ [T.int (n : Nat)] = (ks ++ [iK n]).map keyT := by rw [List.map_append]; rfl
    rw [ek]
    walk_at "w"
    rw [up_same, toKeys_map]
    have gl : (gaTo ks 0 n fo).length + 1 + t.2.2.cnt ≤ fo.cnt := gaTo_len ht
    have nk : ∀ x ∈ kvs ++ gaTo ks 0 n fo, ∀ rest, x.1 ≠ ks ++ iK n :: rest := fun x hx rest e => by
      rcases List.mem_append.mp hx with hx | hx
      · exact hfr x hx n rest e
      · obtain ⟨m, rest', hm, e'⟩ := gaTo_key hx
        rw [e'] at e
        have := List.append_cancel_left e
        have := iK_inj (List.cons.inj this).1
        omega
    refine ⟨Nat.lt_of_lt_of_le (show (kvs ++ gaTo ks 0 n fo).length < 1001 by rw [List.length_append]; omega) (by decide), ?_⟩
    rw [up_up, putT_new (fun x hx => nk x hx [])]
    obtain ⟨nm, td, i⟩ := t
    dsimp only at k1 k2
    cases i with
    | nil =>
      refine ⟨hlt, _, _, _, rfl, ?_⟩
      rw [gaTo_succ ht, Nat.zero_add, List.append_assoc]
      rfl
    | cons a b c d' =>
      refine ⟨.cons a b c d', ks ++ [iK n], D, _, rfl, rfl, rfl, up_same, (by intro z; cases z), by show (Fo.cons a b c d').depth ≤ d; omega, by rw [List.length_append]; show ks.length + 1 + d ≤ 50; omega, ?_, fun x hx m rest e => ?_, ?_⟩
      · rw [List.length_append, List.length_append]
        show kvs.length + (gaTo ks 0 n fo).length + 1 + (Fo.cons a b c d').cnt ≤ 1000
        have : (gaTo ks 0 n fo).length + 1 + (Fo.cons a b c d').cnt ≤ fo.cnt := gl
        omega
      · rw [List.append_assoc] at e
        rcases List.mem_append.mp hx with hx | hx
        · exact nk x hx _ e
        · rw [List.mem_singleton.mp hx] at e
          have := List.append_cancel_left e
          cases this
      · refine ⟨hlt, _, _, _, rfl, ?_⟩
        rw [up_up, gaTo_succ ht, Nat.zero_add, List.append_assoc, List.append_assoc]
        rfl
  · rintro τ M1 ⟨hn, v3, v4, v5, rfl, rfl⟩
    refine fin3.of ?_
    have e : gaTo ks 0 (pairs 0 fo.ts).length fo = gaF ks 0 fo := by rw [pairs_len, Fo.ts_len]; exact gaTo_all _ _ _
    show R .non (up M D (.dT (kvs ++ gaTo ks 0 (pairs 0 fo.ts).length fo)))
    rw [e]
    exact h
theorem ok_gather {C_Label : Addr} {C_NoPath : Addr} {f : Addr} {fd : FuncData} (F : Fun K "gather" "gather" s_gather f fd) (g : Glb K mg C_Label C_NoPath) (hb : Binds K fd ["places", "above", "found"] []) (hm : mg "gather" = some (.ref f))  : ∀ d, FnOk P w K mg base CX0 (1 + d) f fd ["places", "above", "found"] (lift (sp_gather d))
  | 0 => fn_never <|
    fun ts M R E h => by
      obtain ⟨_, _, _, rfl, h⟩ := sp3_of h
      obtain ⟨fo, ks, ar, ns, _, _, _, _, ne, dp, _⟩ := h
      exact ne (Fo.nil_of_depth (Nat.le_zero.mp dp))
  | d + 1 => ok_gather_S F g ⟨_, f, fd, ok_gather F g hb hm  d, fun _ _ _ _ _ z => z, hm, F.kp, hb⟩ 
end
end L3
set_option Elab.async false
set_option linter.all false
set_option maxRecDepth 100000
set_option maxHeartbeats 1000000
namespace L3
open PySem PySem.Spec PyProof.Rows L2
local macro_rules | `(tactic| walk_at "w") => `(tactic| ((conv => whnf); try dsimp only))

section
variable {P : Program} {w : World} {K : Fg} {mg : Str → Option Value} {base : Heap}
/-! ### Label.__init__ -/
abbrev s_init : Stmt := inClass (topS 48) 0
abbrev nm_init : List Str := ["self", "places", "may", "found", "words"]
theorem sc_init : FnScope nm_init ["self", "places", "may"] (defScope s_init) := ⟨rfl, rfl, rfl, by decide +kernel, rfl, by decide +kernel, by decide +kernel⟩
def sp_init (C : Addr) : Sp3 := sp3 fun s pl my M R _ => ∃ (x : Addr) (fo : Fo) (ws : List Str), s = .ref x ∧ M x = some (.ins C []) ∧ pl = .tup fo.ts ∧ GoodF fo ∧ (((my = .non ∧ ws = []) ∨ my = .tup (ws.map T.str)) ∨ ∃ b, my = .ref b ∧ M b = some (.lst (ws.map T.str))) ∧ (∀ y ∈ ws, NmOk y) ∧ ws.length ≤ 60 ∧
  ∀ D, M D = none → SrtOk ws → R .non (up (up M D (.dT (gaF [] 0 fo))) x (.ins C (lbF (.tup fo.ts) (.tup ((srt ws).map T.str)) D)))
theorem ok_init {C_Label : Addr} {C_NoPath : Addr} {f : Addr} {fd : FuncData} (F : FunD K "__init__" "Label.__init__" (defArgs s_init) (defBody s_init) (defScope s_init) [.non] [] f fd) (g : Glb K mg C_Label C_NoPath) (c_check_names : Cl P w K mg base "check_names" 3 ["names"] (sp_check_names)) (c_gather : Cl P w K mg base "gather" (1 + 4) ["places", "above", "found"] (sp_gather 4)) (c_check_places : Cl P w K mg base "check_places" 10 ["places"] (sp_check_places)) : FnOk P w K mg base CX0 12 f fd ["self", "places", "may"] (lift (sp_init C_Label)) := by
  refine F.ok3 sc_init (fun ts M R E h => sp3_len h) (fun cdv A outer s H E ts M R E3 hr h0 => ?_)
  obtain ⟨self', places', may', rfl, h⟩ := sp3_of h0
  refine ⟨_, (ls_cons (ls_expr (le_call c_check_places (hr.mono (by decide)) (by rfl) (la_cons (lv 1) la_nil))) (ls_cons (ls_set (i := 3) sc_init.nd rfl (by first | exact Or.inl rfl | exact Or.inr rfl) le_newT) (ls_cons (ls_expr (le_call c_gather (hr.mono (by decide)) (by rfl) (la_cons (lv 1) (la_cons (le_tup la_nil) (la_cons (lv 3) la_nil))))) (ls_cons (ls_if (lt_c c_gt (le_len (by rfl) g.m_len (la_cons (lv 3) la_nil)) (le_gintE (by rfl) g.k_MOST_PLACES)) (ls_one ls_never) ls_nil) (ls_cut (ls_set (i := 4) sc_init.nd rfl (by first | exact Or.inl rfl | exact Or.inr rfl) (le_if (lt_c c_isN (lv 2) le_non) (le_lst la_nil) (lv 2))) (ls_cons (ls_expr (le_call c_check_names (hr.mono (by decide)) (by rfl) (la_cons (lv 4) la_nil))) (ls_cons (ls_fld g.cl_Label g.n_Label_listed (lv 0) (lv 1)) (ls_cons (ls_fld g.cl_Label g.n_Label_words (lv 0) (le_tuple (by rfl) g.m_tuple (la_cons (le_sortset rfl (by rfl) g.m_sorted (by rfl) g.m_set (lv 4)) la_nil))) (ls_one (ls_fld g.cl_Label g.n_Label_by_path (lv 0) (lv 3))))))))))), ?_⟩
  obtain ⟨x, fo, ws, rfl, ex, rfl, gf, hmy, hw, hl, h⟩ := h
  refine ⟨fo, rfl, gf, ?_⟩
  intro D nD
  have nxD : x ≠ D := ne_free ex nD
  refine ⟨fo, [], D, [], rfl, rfl, rfl, up_same, gf.ne, gf.dp, by decide, by have := gf.ct; show 0 + fo.cnt ≤ 1000; omega, fun _ z => (by cases z), ?_⟩
  rw [up_up, List.nil_append]
  walk_at "w"
  rw [up_same]
  walk_at "w"
  rw [gaF_len, decide_eq_false (show ¬ (12 : Int) < (fo.cnt : Int) by have := gf.ct; omega)]
  generalize hM1 : up M D (.dT (gaF [] 0 fo)) = M1
  have eD : M1 D = some (.dT (gaF [] 0 fo)) := by rw [← hM1, up_same]
  have s1 : Sub M M1 := hM1 ▸ .new nD
  refine ⟨fun τ M2 => ∃ wv, τ = [some (.ref x), some (.tup fo.ts), some may', some (.ref D), some wv] ∧ Sub M1 M2 ∧ StrsIn M2 wv ws, ?_, ?_⟩
  · rcases hmy with (⟨rfl, rfl⟩ | rfl) | ⟨b, rfl, eb⟩
    · intro l nl
      exact ⟨_, rfl, .new nl, .inr ⟨l, rfl, up_same⟩⟩
    · exact ⟨_, rfl, .refl, .inl rfl⟩
    · exact ⟨_, rfl, .refl, .inr ⟨b, rfl, s1 _ _ eb⟩⟩
  · rintro τ M2 ⟨wv, rfl, s2, ewb⟩
    refine ⟨ws, ewb, hw, by omega, ?_⟩
    have ex2 := s2 _ _ (s1 _ _ ex)
    have eD2 := s2 _ _ eD
    walk_at "w"
    rw [ex2]
    refine ⟨⟨rfl, by show 0 < 1000; decide⟩, ?_⟩
    have ewb2 : StrsIn (up M2 x (.ins C_Label (putN "listed" (.tup fo.ts) []))) wv ws := by
      rcases ewb with e | ⟨wb, e, ewb⟩
      · exact .inl e
      · have nwx : wb ≠ x := fun z => by
          rw [z, ex2] at ewb
          cases ewb
        exact .inr ⟨wb, e, by rw [up_ne nwx]; exact ewb⟩
    refine ⟨ws, ewb2, by omega, fun hs p np => ?_⟩
    have exp : (up M2 x (.ins C_Label (putN "listed" (.tup fo.ts) []))) x = some (.ins C_Label (putN "listed" (.tup fo.ts) [])) := up_same
    have nxp : x ≠ p := ne_free exp np
    walk_at "w"
    rw [up_same]
    walk_at "w"
    rw [up_ne nxp, up_same]
    refine ⟨⟨rfl, by show 1 < 1000; decide⟩, ?_⟩
    walk_at "w"
    rw [up_same]
    refine ⟨⟨rfl, ?_⟩, ?_⟩
    · exact Nat.lt_of_le_of_lt (show (putN "words" (.tup ((srt ws).map T.str)) (putN "listed" (.tup fo.ts) [])).length ≤ 2 by rw [putN_new (by show ¬ Str.ofString "words" ∈ [Str.ofString "listed"]; decide +kernel)]; exact Nat.le_refl _) (by decide)
    have e3 : putN "by_path" (.ref D) (putN "words" (.tup ((srt ws).map T.str)) (putN "listed" (.tup fo.ts) [])) = lbF (.tup fo.ts) (.tup ((srt ws).map T.str)) D := by
      rw [putN_new (f := "words") (by show ¬ Str.ofString "words" ∈ [Str.ofString "listed"]; decide +kernel)]
      exact putN_new (by show ¬ Str.ofString "by_path" ∈ [Str.ofString "listed", Str.ofString "words"]; decide +kernel)
    rw [e3]
    refine ⟨_, ?_, h D nD hs⟩
    intro q o eq
    by_cases hqx : q = x
    · rw [hqx, up_same] at eq ⊢
      exact eq
    · rw [up_ne hqx] at eq ⊢
      rw [up_ne hqx]
      rw [hM1] at eq
      have := s2 _ _ eq
      have nqp : q ≠ p := fun z => by
        rw [up_ne (fun y => nxp y.symm)] at np
        rw [z, np] at this
        cases this
      rw [up_ne nqp, up_ne hqx]
      exact this
/-! ### Label.places -/
abbrev s_Label_places : Stmt := inClass (topS 48) 1
abbrev nm_Label_places : List Str := ["self"]
theorem sc_Label_places : FnScope nm_Label_places ["self"] (defScope s_Label_places) := ⟨rfl, rfl, rfl, by decide +kernel, rfl, by decide +kernel, by decide +kernel⟩
def sp_Label_places (C : Addr) : Sp3 := sp1 fun s M R _ => ∃ (x : Addr) (fo : Fo) (ws : List Str), s = .ref x ∧ Lab C M x fo ws ∧ R (.tup fo.ts) M
theorem ok_Label_places {C_Label : Addr} {C_NoPath : Addr} {f : Addr} {fd : FuncData} (F : Fun K "places" "Label.places" s_Label_places f fd) (g : Glb K mg C_Label C_NoPath)  : FnOk P w K mg base CX0 1 f fd ["self"] (lift (sp_Label_places C_Label)) := by
  refine F.ok3 sc_Label_places (fun ts M R E h => sp1_len h) (fun cdv A outer s H E ts M R E3 hr h0 => ?_)
  obtain ⟨self', rfl, h⟩ := sp1_of h0
  refine ⟨_, (ls_one (ls_ret (le_fld (i := 0) (ns := ns_Label) g.cl_Label g.n_Label_listed nd_Label rfl (lv 0)))), ?_⟩
  obtain ⟨x, fo, ws, rfl, ⟨D, e1, e2⟩, h⟩ := h
  walk_at "w"
  rw [e1]
  exact ⟨⟨rfl, rfl⟩, fin3.of h⟩
/-! ### Label.may -/
abbrev s_Label_may : Stmt := inClass (topS 48) 2
abbrev nm_Label_may : List Str := ["self"]
theorem sc_Label_may : FnScope nm_Label_may ["self"] (defScope s_Label_may) := ⟨rfl, rfl, rfl, by decide +kernel, rfl, by decide +kernel, by decide +kernel⟩
def sp_Label_may (C : Addr) : Sp3 := sp1 fun s M R _ => ∃ (x : Addr) (fo : Fo) (ws : List Str), s = .ref x ∧ Lab C M x fo ws ∧ ∀ p, M p = none → R (.ref p) (up M p (.lst (ws.map T.str)))
theorem ok_Label_may {C_Label : Addr} {C_NoPath : Addr} {f : Addr} {fd : FuncData} (F : Fun K "may" "Label.may" s_Label_may f fd) (g : Glb K mg C_Label C_NoPath)  : FnOk P w K mg base CX0 1 f fd ["self"] (lift (sp_Label_may C_Label)) := by
  refine F.ok3 sc_Label_may (fun ts M R E h => sp1_len h) (fun cdv A outer s H E ts M R E3 hr h0 => ?_)
  obtain ⟨self', rfl, h⟩ := sp1_of h0
  refine ⟨_, (ls_one (ls_ret (le_list (by rfl) g.m_list (la_cons (le_fld (i := 1) (ns := ns_Label) g.cl_Label g.n_Label_words nd_Label rfl (lv 0)) la_nil)))), ?_⟩
  obtain ⟨x, fo, ws, rfl, ⟨D, e1, e2⟩, h⟩ := h
  walk_at "w"
  rw [e1]
  exact ⟨⟨rfl, rfl⟩, fun p np => fin3.of (h p np)⟩
/-! ### Label.paths -/
abbrev s_Label_paths : Stmt := inClass (topS 48) 3
abbrev nm_Label_paths : List Str := ["self"]
theorem sc_Label_paths : FnScope nm_Label_paths ["self"] (defScope s_Label_paths) := ⟨rfl, rfl, rfl, by decide +kernel, rfl, by decide +kernel, by decide +kernel⟩
def sp_Label_paths (C : Addr) : Sp3 := sp1 fun s M R _ => ∃ (x : Addr) (fo : Fo) (ws : List Str), s = .ref x ∧ Lab C M x fo ws ∧ ∀ p, M p = none → R (.ref p) (up M p (.lst (pathsT fo)))
theorem ok_Label_paths {C_Label : Addr} {C_NoPath : Addr} {f : Addr} {fd : FuncData} (F : Fun K "paths" "Label.paths" s_Label_paths f fd) (g : Glb K mg C_Label C_NoPath)  : FnOk P w K mg base CX0 1 f fd ["self"] (lift (sp_Label_paths C_Label)) := by
  refine F.ok3 sc_Label_paths (fun ts M R E h => sp1_len h) (fun cdv A outer s H E ts M R E3 hr h0 => ?_)
  obtain ⟨self', rfl, h⟩ := sp1_of h0
  refine ⟨_, (ls_one (ls_ret (le_listD rfl (by rfl) g.m_list (la_cons (le_fld (i := 2) (ns := ns_Label) g.cl_Label g.n_Label_by_path nd_Label rfl (lv 0)) la_nil)))), ?_⟩
  obtain ⟨x, fo, ws, rfl, ⟨D, e1, e2⟩, h⟩ := h
  walk_at "w"
  rw [e1]
  refine ⟨⟨rfl, rfl⟩, ?_⟩
  walk_at "w"
  rw [e2]
  exact fun p np => fin3.of (h p np)
/-! ### Label.has_path -/
abbrev s_Label_has_path : Stmt := inClass (topS 48) 4
abbrev nm_Label_has_path : List Str := ["self", "thing"]
theorem sc_Label_has_path : FnScope nm_Label_has_path ["self", "thing"] (defScope s_Label_has_path) := ⟨rfl, rfl, rfl, by decide +kernel, rfl, by decide +kernel, by decide +kernel⟩
def sp_Label_has_path (C : Addr) : Sp3 := sp2 fun s t M R _ => ∃ (x : Addr) (fo : Fo) (ws : List Str), s = .ref x ∧ Lab C M x fo ws ∧ KT M t ∧ (∀ xs, t = .tup xs → xs.length ≤ sizeLine) ∧ R (.bl (atP fo t).isSome) M
theorem ok_Label_has_path {C_Label : Addr} {C_NoPath : Addr} {f : Addr} {fd : FuncData} (F : Fun K "has_path" "Label.has_path" s_Label_has_path f fd) (g : Glb K mg C_Label C_NoPath) (c_is_path : Cl P w K mg base "is_path" 2 ["thing"] (sp_is_path)) : FnOk P w K mg base CX0 3 f fd ["self", "thing"] (lift (sp_Label_has_path C_Label)) := by
  refine F.ok3 sc_Label_has_path (fun ts M R E h => sp2_len h) (fun cdv A outer s H E ts M R E3 hr h0 => ?_)
  obtain ⟨self', thing', rfl, h⟩ := sp2_of h0
  refine ⟨_, (ls_one (ls_ret (le_and (le_call c_is_path (hr.mono (by decide)) (by rfl) (la_cons (lv 1) la_nil)) (le_one (le_din hr (lv 1) (le_fld (i := 2) (ns := ns_Label) g.cl_Label g.n_Label_by_path nd_Label rfl (lv 0))))))), ?_⟩
  obtain ⟨x, fo, ws, rfl, ⟨D, e1, e2⟩, hk, hl, h⟩ := h
  refine ⟨hk, hl, ?_⟩
  walk_at "w"
  have no : (∀ xs, thing' = .tup xs → xs.all isW = false) → atP fo thing' = none := fun n => by
    unfold atP
    split
    · rename_i ts
      rw [n ts rfl]
    · rfl
  cases thing' with
  | tup xs =>
    cases ea : xs.all isW with
    | false =>
      rw [show paB (.tup xs) = false from ea]
      rw [no fun xs' e => by cases e; exact ea] at h
      exact fin3.of h
    | true =>
      rw [show paB (.tup xs) = true from ea]
      walk_at "w"
      rw [e1]
      refine ⟨⟨rfl, rfl⟩, ?_⟩
      obtain ⟨ks, ek⟩ := whole_keys ea
      walk_at "w"
      rw [look_T e2 ek]
      refine fin3.of ?_
      have : atP fo (.tup xs) = valT (gaF [] 0 fo) ks := by
        unfold atP
        simp only [ea, ek]
      rw [this] at h
      exact h
  | _ =>
    rw [no fun xs e => by cases e] at h
    exact fin3.of h
/-! ### Label.place_at -/
abbrev s_Label_place_at : Stmt := inClass (topS 48) 5
abbrev nm_Label_place_at : List Str := ["self", "path"]
theorem sc_Label_place_at : FnScope nm_Label_place_at ["self", "path"] (defScope s_Label_place_at) := ⟨rfl, rfl, rfl, by decide +kernel, rfl, by decide +kernel, by decide +kernel⟩
def sp_Label_place_at (C CN : Addr) : Sp3 := sp2 fun s t M R E => ∃ (x : Addr) (fo : Fo) (ws : List Str), s = .ref x ∧ Lab C M x fo ws ∧ KT M t ∧ (∀ xs, t = .tup xs → xs.length ≤ sizeLine) ∧ (∀ it, atP fo t = some (plt it) → R (plt it) M) ∧ (atP fo t = none → E (.ref CN) none M)
theorem ok_Label_place_at {C_Label : Addr} {C_NoPath : Addr} {f : Addr} {fd : FuncData} (F : Fun K "place_at" "Label.place_at" s_Label_place_at f fd) (g : Glb K mg C_Label C_NoPath) (c_Label_has_path : ClM P w K mg base C_Label "has_path" 3 ["self", "thing"] (sp_Label_has_path C_Label)) : FnOk P w K mg base (L2.CX P w) 4 f fd ["self", "path"] (lift (sp_Label_place_at C_Label C_NoPath)) := by
  refine F.ok3X sc_Label_place_at (fun ts M R E h => sp2_len h) (fun cdv A outer s H E ts M R E3 hr tx h0 => ?_)
  obtain ⟨self', path', rfl, h⟩ := sp2_of h0
  refine ⟨_, (ls_cons (ls_if (lt_not (lt_val (le_meth c_Label_has_path (hr.mono (by decide)) (lv 0) (la_cons (lv 1) la_nil)))) (ls_one (ls_raise rfl tx g.x_NoPath (by rfl) le_str)) ls_nil) (ls_one (ls_ret (le_dget hr (le_fld (i := 2) (ns := ns_Label) g.cl_Label g.n_Label_by_path nd_Label rfl (lv 0)) (lv 1))))), ?_⟩
  obtain ⟨x, fo, ws, rfl, lb, hk, hl, h1, h2⟩ := h
  obtain ⟨D, e1, e2⟩ := id lb
  walk_at "w"
  rw [e1]
  refine ⟨⟨rfl, lbF_no (by decide +kernel)⟩, ?_⟩
  refine ⟨x, fo, ws, rfl, lb, hk, hl, ?_⟩
  walk_at "w"
  cases ea : atP fo path' with
  | none => exact h2 ea
  | some v =>
    obtain ⟨it, rfl⟩ := atP_plt ea
    walk_at "w"
    rw [e1]
    refine ⟨⟨rfl, rfl⟩, ?_⟩
    have h1' := h1 it ea
    unfold atP at ea
    split at ea
    · rename_i ts
      split at ea
      · rename_i ks q1 q2
        walk_at "w"
        rw [look_T e2 q2, ea]
        exact fin3.of h1'
      · cases ea
    · cases ea
/-! ### Label.name_at -/
abbrev s_Label_name_at : Stmt := inClass (topS 48) 6
abbrev nm_Label_name_at : List Str := ["self", "path"]
theorem sc_Label_name_at : FnScope nm_Label_name_at ["self", "path"] (defScope s_Label_name_at) := ⟨rfl, rfl, rfl, by decide +kernel, rfl, by decide +kernel, by decide +kernel⟩
def sp_Label_name_at (C CN : Addr) : Sp3 := sp2 fun s t M R E => ∃ (x : Addr) (fo : Fo) (ws : List Str), s = .ref x ∧ Lab C M x fo ws ∧ KT M t ∧ (∀ xs, t = .tup xs → xs.length ≤ sizeLine) ∧ (∀ it, atP fo t = some (plt it) → R (.str it.1) M) ∧ (atP fo t = none → E (.ref CN) none M)
theorem ok_Label_name_at {C_Label : Addr} {C_NoPath : Addr} {f : Addr} {fd : FuncData} (F : Fun K "name_at" "Label.name_at" s_Label_name_at f fd) (g : Glb K mg C_Label C_NoPath) (c_Label_place_at : ClMX P w K mg base C_Label "place_at" 4 ["self", "path"] (sp_Label_place_at C_Label C_NoPath)) : FnOk P w K mg base (L2.CX P w) 5 f fd ["self", "path"] (lift (sp_Label_name_at C_Label C_NoPath)) := by
  refine F.ok3X sc_Label_name_at (fun ts M R E h => sp2_len h) (fun cdv A outer s H E ts M R E3 hr tx h0 => ?_)
  obtain ⟨self', path', rfl, h⟩ := sp2_of h0
  refine ⟨_, (ls_one (ls_ret (le_at (le_methX tx c_Label_place_at (hr.mono (by decide)) (lv 0) (la_cons (lv 1) la_nil)) le_int))), ?_⟩
  obtain ⟨x, fo, ws, rfl, lb, hk, hl, h1, h2⟩ := h
  obtain ⟨D, e1, e2⟩ := id lb
  walk_at "w"
  rw [e1]
  exact ⟨⟨rfl, lbF_no (by decide +kernel)⟩, x, fo, ws, rfl, lb, hk, hl, fun it e => fin3.of (h1 it e), h2⟩
/-! ### Label.told_at -/
abbrev s_Label_told_at : Stmt := inClass (topS 48) 7
abbrev nm_Label_told_at : List Str := ["self", "path"]
theorem sc_Label_told_at : FnScope nm_Label_told_at ["self", "path"] (defScope s_Label_told_at) := ⟨rfl, rfl, rfl, by decide +kernel, rfl, by decide +kernel, by decide +kernel⟩
def sp_Label_told_at (C CN : Addr) : Sp3 := sp2 fun s t M R E => ∃ (x : Addr) (fo : Fo) (ws : List Str), s = .ref x ∧ Lab C M x fo ws ∧ KT M t ∧ (∀ xs, t = .tup xs → xs.length ≤ sizeLine) ∧ (∀ it, atP fo t = some (plt it) → R (tdt it.2.1) M) ∧ (atP fo t = none → E (.ref CN) none M)
theorem ok_Label_told_at {C_Label : Addr} {C_NoPath : Addr} {f : Addr} {fd : FuncData} (F : Fun K "told_at" "Label.told_at" s_Label_told_at f fd) (g : Glb K mg C_Label C_NoPath) (c_Label_place_at : ClMX P w K mg base C_Label "place_at" 4 ["self", "path"] (sp_Label_place_at C_Label C_NoPath)) : FnOk P w K mg base (L2.CX P w) 5 f fd ["self", "path"] (lift (sp_Label_told_at C_Label C_NoPath)) := by
  refine F.ok3X sc_Label_told_at (fun ts M R E h => sp2_len h) (fun cdv A outer s H E ts M R E3 hr tx h0 => ?_)
  obtain ⟨self', path', rfl, h⟩ := sp2_of h0
  refine ⟨_, (ls_one (ls_ret (le_at (le_methX tx c_Label_place_at (hr.mono (by decide)) (lv 0) (la_cons (lv 1) la_nil)) le_int))), ?_⟩
  obtain ⟨x, fo, ws, rfl, lb, hk, hl, h1, h2⟩ := h
  obtain ⟨D, e1, e2⟩ := id lb
  walk_at "w"
  rw [e1]
  exact ⟨⟨rfl, lbF_no (by decide +kernel)⟩, x, fo, ws, rfl, lb, hk, hl, fun it e => fin3.of (h1 it e), h2⟩
/-! ### Label.many_in -/
abbrev s_Label_many_in : Stmt := inClass (topS 48) 8
abbrev nm_Label_many_in : List Str := ["self", "path", "inside"]
theorem sc_Label_many_in : FnScope nm_Label_many_in ["self", "path"] (defScope s_Label_many_in) := ⟨rfl, rfl, rfl, by decide +kernel, rfl, by decide +kernel, by decide +kernel⟩
def sp_Label_many_in (C CN : Addr) : Sp3 := sp2 fun s t M R E => ∃ (x : Addr) (fo : Fo) (ws : List Str), s = .ref x ∧ Lab C M x fo ws ∧ KT M t ∧ (∀ xs, t = .tup xs → xs.length ≤ sizeLine) ∧ (t = .tup [] → R (.int fo.items.length) M) ∧ (t ≠ .tup [] → (∀ it, atP fo t = some (plt it) → R (.int it.2.2.items.length) M) ∧ (atP fo t = none → E (.ref CN) none M))
theorem ok_Label_many_in {C_Label : Addr} {C_NoPath : Addr} {f : Addr} {fd : FuncData} (F : Fun K "many_in" "Label.many_in" s_Label_many_in f fd) (g : Glb K mg C_Label C_NoPath) (c_Label_place_at : ClMX P w K mg base C_Label "place_at" 4 ["self", "path"] (sp_Label_place_at C_Label C_NoPath)) : FnOk P w K mg base (L2.CX P w) 5 f fd ["self", "path"] (lift (sp_Label_many_in C_Label C_NoPath)) := by
  refine F.ok3X sc_Label_many_in (fun ts M R E h => sp2_len h) (fun cdv A outer s H E ts M R E3 hr tx h0 => ?_)
  obtain ⟨self', path', rfl, h⟩ := sp2_of h0
  refine ⟨_, (ls_cut (ls_if (lt_w (lw_and (lt_val (le_isi .tup (by rfl) g.m_isinstance (lv 1) (by rfl) g.m_tuple (by decide +kernel))) (lw_and1 (lt_c (c_eq hr) (le_len (by rfl) g.m_len (la_cons (lv 1) la_nil)) le_int)))) (ls_one (ls_ret (le_len (by rfl) g.m_len (la_cons (le_fld (i := 0) (ns := ns_Label) g.cl_Label g.n_Label_listed nd_Label rfl (lv 0)) la_nil)))) ls_nil) (ls_cons (ls_set (i := 2) sc_Label_many_in.nd rfl (by first | exact Or.inl rfl | exact Or.inr rfl) (le_at (le_methX tx c_Label_place_at (hr.mono (by decide)) (lv 0) (la_cons (lv 1) la_nil)) le_int)) (ls_one (ls_ret (le_if (lt_c c_isN (lv 2) le_non) le_int (le_len (by rfl) g.m_len (la_cons (lv 2) la_nil))))))), ?_⟩
  obtain ⟨x, fo, ws, rfl, lb, hk, hl, h1, h2⟩ := h
  obtain ⟨D, e1, e2⟩ := id lb
  obtain ⟨j, hj⟩ := hk.kd
  have ht := isi_tup hj
  refine ⟨fun τ M' => τ = [some (.ref x), some path', none] ∧ M' = M ∧ path' ≠ .tup [], ?_, ?_⟩
  · walk_at "w"
    rw [hj]
    walk_at "w"
    rw [ht]
    cases path' with
    | tup xs =>
      cases xs with
      | nil =>
        walk_at "w"
        rw [e1]
        refine ⟨⟨rfl, rfl⟩, fin3.of ?_⟩
        show R (.int (fo.ts.length : Nat)) M
        rw [Fo.ts_len]
        exact h1 rfl
      | cons y ys => exact ⟨rfl, rfl, by intro z; cases z⟩
    | _ => exact ⟨rfl, rfl, by intro z; cases z⟩
  · rintro τ M' ⟨rfl, rfl, ne⟩
    obtain ⟨h3, h4⟩ := h2 ne
    walk_at "w"
    rw [e1]
    refine ⟨⟨rfl, lbF_no (by decide +kernel)⟩, x, fo, ws, rfl, lb, hk, hl, fun it e => ?_, h4⟩
    have h3 := h3 it e
    obtain ⟨nm, td, i⟩ := it
    cases i with
    | nil => exact fin3.of h3
    | cons a b c d =>
      refine fin3.of ?_
      show R (.int ((Fo.cons a b c d).ts.length : Nat)) _
      rw [Fo.ts_len]
      exact h3
end
end L3
set_option Elab.async false
set_option linter.all false
set_option maxRecDepth 100000
set_option maxHeartbeats 1000000
namespace L3
open PySem PySem.Spec PyProof.Rows L2
local macro_rules | `(tactic| walk_at "w") => `(tactic| ((conv => whnf); try dsimp only))

theorem cmw {a b : Int} (h1 : a.natAbs < 2 ^ 100) (h2 : b.natAbs < 2 ^ 100) : CMulW a b := cm_of (lt_1000 h1) (lt_1000 h2)
theorem cpw {a b : Int} (h1 : 0 ≤ b) (h2 : b ≤ 100) (h3 : a.natAbs < 2 ^ 64) : CPow a b := ⟨h1, by omega, h3⟩
/-- i / j is a / b in lowest terms -/
def FrOf (a b i j : Int) : Prop := G.isFr i j = true ∧ i * b = a * j ∧ 0 < j ∧ j ≤ b ∧ i.natAbs ≤ a.natAbs
theorem isFr_pos {a b : Int} (h : G.isFr a b = true) : 0 < b := by
  unfold G.isFr at h
  rw [Bool.and_eq_true] at h
  exact of_decide_eq_true h.1
theorem frOf_low {a b : Int} (hb : 0 < b) : FrOf a b (G.low1 a b) (G.low2 a b) := by
  have hn : b ≠ 0 := by omega
  have f := G.low_fr (a := a) hn
  have p := isFr_pos f
  refine ⟨f, (G.low_cross a b hn).trans (Int.mul_comm _ _), p, ?_, G.low1_le hn⟩
  have := G.low2_le (a := a) hn
  omega
theorem mul_lt8 {a b : Int} (h1 : a.natAbs < 2 ^ 100) (h2 : b.natAbs < 2 ^ 100) : (a * b).natAbs < 2 ^ 8000 := by
  rw [Int.natAbs_mul]
  exact Nat.lt_of_lt_of_le (Nat.mul_lt_mul'' h1 h2) (by rw [← Nat.pow_add]; exact Nat.pow_le_pow_right (by decide) (by decide))
section
variable {P : Program} {w : World} {K : Fg} {mg : Str → Option Value} {base : Heap}
/-! ### _law_at -/
abbrev s__law_at : Stmt := topS 99
abbrev nm__law_at : List Str := ["_law_script", "_law_k"]
theorem sc__law_at : FnScope nm__law_at ["_law_script", "_law_k"] (defScope s__law_at) := ⟨rfl, rfl, rfl, by decide +kernel, rfl, by decide +kernel, by decide +kernel⟩
def sp__law_at (K : Fg) : Sp3 := sp2 fun s k M R _ => ∃ (ns : List Int) (n : Nat), s = .scr K ns ∧ k = .int n ∧ ∀ c : Int, R (.int c) M
theorem ok__law_at {C_Label : Addr} {C_NoPath : Addr} {f : Addr} {fd : FuncData} (F : Fun K "_law_at" "_law_at" s__law_at f fd) (g : Glb K mg C_Label C_NoPath)  : FnOk P w K mg base CX0 1 f fd ["_law_script", "_law_k"] (lift (sp__law_at K)) := by
  refine F.ok3 sc__law_at (fun ts M R E h => sp2_len h) (fun cdv A outer s H E ts M R E3 hr h0 => ?_)
  obtain ⟨script', k', rfl, h⟩ := sp2_of h0
  refine ⟨_, (ls_one (ls_ret (le_if (lt_c c_lt (lv 1) (le_lenS (by rfl) g.m_len (la_cons (lv 0) la_nil))) (le_atS (lv 0) (lv 1)) le_int))), ?_⟩
  obtain ⟨ns, n, rfl, rfl, h⟩ := h
  refine ⟨rfl, ?_⟩
  walk_at "w"
  by_cases e : (n : Int) < (ns.length : Int)
  · rw [decide_eq_true e]
    obtain ⟨x, _, hx⟩ := at_mem (xs := ns) (d := n) (by omega) e
    refine ⟨rfl, ?_⟩
    walk_at "w"
    rw [hx]
    exact fin3.of (h _)
  · rw [decide_eq_false e]
    exact fin3.of (h _)
/-! ### _law_pot -/
abbrev s__law_pot : Stmt := topS 100
abbrev nm__law_pot : List Str := ["_law_script", "_law_k", "_law_cell", "_law_stirred"]
theorem sc__law_pot : FnScope nm__law_pot ["_law_script", "_law_k"] (defScope s__law_pot) := ⟨rfl, rfl, rfl, by decide +kernel, rfl, by decide +kernel, by decide +kernel⟩
def sp__law_pot (K : Fg) : Sp3 := sp2 fun s k M R _ => ∃ (ns : List Int) (n : Nat), s = .scr K ns ∧ k = .int n ∧ n < 64 ∧ ∀ p o, M p = none → Pt (up M p o) p → R (.ref p) (up M p o)
theorem ok__law_pot {C_Label : Addr} {C_NoPath : Addr} {f : Addr} {fd : FuncData} (F : Fun K "_law_pot" "_law_pot" s__law_pot f fd) (g : Glb K mg C_Label C_NoPath) (c__law_at : Cl P w K mg base "_law_at" 1 ["_law_script", "_law_k"] (sp__law_at K)) : FnOk P w K mg base CX0 2 f fd ["_law_script", "_law_k"] (lift (sp__law_pot K)) := by
  refine F.ok3 sc__law_pot (fun ts M R E h => sp2_len h) (fun cdv A outer s H E ts M R E3 hr h0 => ?_)
  obtain ⟨script', k', rfl, h⟩ := sp2_of h0
  refine ⟨_, (ls_cons (ls_set (i := 2) sc__law_pot.nd rfl (by first | exact Or.inl rfl | exact Or.inr rfl) (le_call c__law_at (hr.mono (by decide)) (by rfl) (la_cons (lv 0) (la_cons (lv 1) la_nil)))) (ls_cons (ls_set (i := 3) sc__law_pot.nd rfl (by first | exact Or.inl rfl | exact Or.inr rfl) (le_mod (le_mul (le_add (le_mod (lv 2) le_int) le_int) le_int) le_int)) (ls_one (ls_ret (le_lst (la_cons (le_max rfl (by rfl) g.m_max (la_cons le_int (la_cons (le_sub (lv 2) (le_pow le_int le_int)) la_nil))) (la_cons (le_add (le_add (le_mod (le_mul (lv 3) (lv 3)) le_int) (le_mul le_int (lv 1))) le_int) la_nil))))))), ?_⟩
  obtain ⟨ns, n, rfl, rfl, hn, h⟩ := h
  refine ⟨ns, n, rfl, rfl, fun c => ?_⟩
  have b1 : 0 ≤ c.fmod 2147483629 := by rw [fmod_pos (by decide)]; exact Int.emod_nonneg _ (by decide)
  have b2 : c.fmod 2147483629 < 2147483629 := by rw [fmod_pos (by decide)]; exact Int.emod_lt_of_pos _ (by decide)
  refine ⟨show (2147483629 : Int) ≠ 0 by decide, ?_⟩
  walk_at "w"
  generalize c.fmod 2147483629 = c1 at b1 b2 ⊢
  refine ⟨cmw (by omega) (by decide), ?_⟩
  walk_at "w"
  refine ⟨by decide, ?_⟩
  walk_at "w"
  have b3 : 0 ≤ ((c1 + 1) * 48271).fmod 2147483647 := by rw [fmod_pos (by decide)]; exact Int.emod_nonneg _ (by decide)
  have b4 : ((c1 + 1) * 48271).fmod 2147483647 < 2147483647 := by rw [fmod_pos (by decide)]; exact Int.emod_lt_of_pos _ (by decide)
  generalize ((c1 + 1) * 48271).fmod 2147483647 = c2 at b3 b4 ⊢
  refine ⟨cpw (by decide) (by decide) (by decide), ?_⟩
  walk_at "w"
  refine ⟨cmw (by omega) (by omega), ?_⟩
  walk_at "w"
  refine ⟨by decide, ?_⟩
  walk_at "w"
  have b5 : 0 ≤ (c2 * c2).fmod 2147483629 := by rw [fmod_pos (by decide)]; exact Int.emod_nonneg _ (by decide)
  have b6 : (c2 * c2).fmod 2147483629 < 2147483629 := by rw [fmod_pos (by decide)]; exact Int.emod_lt_of_pos _ (by decide)
  generalize (c2 * c2).fmod 2147483629 = c3 at b5 b6 ⊢
  refine ⟨cmw (by decide) (by omega), fun p np => fin3.of (h p _ np ⟨_, _, up_same, ?_, ?_, ?_⟩)⟩
  · split <;> omega
  · omega
  · omega
/-! ### _law_take -/
abbrev s__law_take : Stmt := topS 101
abbrev nm__law_take : List Str := ["_law_pot_here", "_law_many_here", "_law_digit"]
theorem sc__law_take : FnScope nm__law_take ["_law_pot_here", "_law_many_here"] (defScope s__law_take) := ⟨rfl, rfl, rfl, by decide +kernel, rfl, by decide +kernel, by decide +kernel⟩
def sp__law_take : Sp3 := sp2 fun p m M R _ => ∃ (a : Addr) (n : Int), p = .ref a ∧ m = .int n ∧ Pt M a ∧ 0 < n ∧ n < 1073741824 ∧ ∀ M' d, Kp a M M' → Pt M' a → 0 ≤ d → d < n → R (.int d) M'
theorem ok__law_take {C_Label : Addr} {C_NoPath : Addr} {f : Addr} {fd : FuncData} (F : Fun K "_law_take" "_law_take" s__law_take f fd) (g : Glb K mg C_Label C_NoPath)  : FnOk P w K mg base CX0 1 f fd ["_law_pot_here", "_law_many_here"] (lift (sp__law_take )) := by
  refine F.ok3 sc__law_take (fun ts M R E h => sp2_len h) (fun cdv A outer s H E ts M R E3 hr h0 => ?_)
  obtain ⟨pot_here', many_here', rfl, h⟩ := sp2_of h0
  refine ⟨_, (ls_cons (ls_if (lt_c c_gt (le_at (lv 0) le_int) le_int) (ls_cons (ls_asg (le_divmod (by rfl) g.m_divmod (la_cons (le_at (lv 0) le_int) (la_cons (lv 1) la_nil))) (lg_tup (by rfl) (lgs_cons (lg_set (lv 0) le_int) (lgs_cons (lg_name (i := 2) sc__law_take.nd rfl (by first | exact Or.inl rfl | exact Or.inr rfl)) lgs_nil)))) (ls_one (ls_ret (lv 2)))) ls_nil) (ls_cons (ls_asg (le_mod (le_add (le_mul (le_at (lv 0) le_int) le_int) le_int) le_int) (lg_set (lv 0) le_int)) (ls_one (ls_ret (le_mod (le_fdiv (le_mod (le_mul (le_at (lv 0) le_int) (le_at (lv 0) le_int)) le_int) le_int) (lv 1)))))), ?_⟩
  obtain ⟨p, m, rfl, rfl, ⟨a, b, ep, ha, hb, hb2⟩, hm, hm2, h⟩ := h
  walk_at "w"
  rw [ep]
  walk_at "w"
  by_cases e : 0 < a
  · rw [decide_eq_true e]
    walk_at "w"
    rw [ep]
    refine ⟨cdp hm (by omega), ?_⟩
    walk_at "w"
    rw [ep]
    refine fin3.of (h _ _ .up (.upd ?_ hb hb2) (Int.emod_nonneg _ (by omega)) (Int.emod_lt_of_pos _ hm))
    exact Int.ediv_nonneg ha (by omega)
  · rw [decide_eq_false e]
    walk_at "w"
    rw [ep]
    refine ⟨cmw (by omega) (by decide), ?_⟩
    walk_at "w"
    refine ⟨by decide, ?_⟩
    have h1 : 0 ≤ (b * 39373 + 11).fmod 2147483647 := by rw [fmod_pos (by decide)]; exact Int.emod_nonneg _ (by decide)
    have h2 : (b * 39373 + 11).fmod 2147483647 < 2147483647 := by rw [fmod_pos (by decide)]; exact Int.emod_lt_of_pos _ (by decide)
    walk_at "w"
    rw [ep]
    walk_at "w"
    rw [up_same]
    walk_at "w"
    rw [up_same]
    generalize hg : (b * 39373 + 11).fmod 2147483647 = g at h1 h2 ⊢
    refine ⟨cmw (by omega) (by omega), ?_⟩
    walk_at "w"
    refine ⟨by decide, ?_⟩
    walk_at "w"
    refine ⟨⟨by decide, by decide +kernel⟩, ?_⟩
    walk_at "w"
    refine ⟨by omega, fin3.of (h _ _ .up (.upd ha h1 (by omega)) ?_ ?_)⟩
    · rw [fmod_pos hm]; exact Int.emod_nonneg _ (by omega)
    · rw [fmod_pos hm]; exact Int.emod_lt_of_pos _ hm
/-! ### _law_frac -/
abbrev s__law_frac : Stmt := topS 102
abbrev nm__law_frac : List Str := ["_law_top", "_law_bottom", "_law_one", "_law_other"]
theorem sc__law_frac : FnScope nm__law_frac ["_law_top", "_law_bottom"] (defScope s__law_frac) := ⟨rfl, rfl, rfl, by decide +kernel, rfl, by decide +kernel, by decide +kernel⟩
def sp__law_frac : Sp3 := sp2 fun x y M R _ => ∃ a b : Int, x = .int a ∧ y = .int b ∧ 0 < b ∧ b.natAbs < 2 ^ 8000 ∧ ∀ i j, FrOf a b i j → R (.tup [.int i, .int j]) M
theorem ok__law_frac {C_Label : Addr} {C_NoPath : Addr} {f : Addr} {fd : FuncData} (F : Fun K "_law_frac" "_law_frac" s__law_frac f fd) (g : Glb K mg C_Label C_NoPath)  : FnOk P w K mg base CX0 1 f fd ["_law_top", "_law_bottom"] (lift (sp__law_frac )) := by
  refine F.ok3 sc__law_frac (fun ts M R E h => sp2_len h) (fun cdv A outer s H E ts M R E3 hr h0 => ?_)
  obtain ⟨top', bottom', rfl, h⟩ := sp2_of h0
  refine ⟨_, (ls_cons (ls_par (i := 2) (j := 3) (by rfl) sc__law_frac.nd rfl rfl (by decide) rfl rfl (la_cons (le_abs (by rfl) g.m_abs (la_cons (lv 0) la_nil)) (la_cons (lv 1) la_nil)) (by rfl)) (ls_cons (ls_while PassesOwn.never (lt_c c_gt (lv 3) le_int) (ls_one (ls_par (i := 2) (j := 3) (by rfl) sc__law_frac.nd rfl rfl (by decide) rfl rfl (la_cons (lv 3) (la_cons (le_mod (lv 2) (lv 3)) la_nil)) (by rfl)))) (ls_one (ls_ret (le_tup (la_cons (le_fdiv (lv 0) (lv 2)) (la_cons (le_fdiv (lv 1) (lv 2)) la_nil))))))), ?_⟩
  obtain ⟨a, b, rfl, rfl, hb, hz, h⟩ := h
  have h := h _ _ (frOf_low hb)
  refine ⟨fun m τ M' => ∃ x y : Int, τ = [some (.int a), some (.int b), some (.int x), some (.int y)] ∧ M' = M ∧ 0 ≤ x ∧ 0 ≤ y ∧ G.gc x y = G.gc a b ∧ m = y.toNat, ⟨_, _, _, rfl, rfl, abs_nn a, by omega, ?_, rfl⟩, ?_⟩
  · unfold G.gc
    congr 1
    split <;> omega
  rintro m τ M' ⟨x, y, rfl, rfl, hx, hy, hg, rfl⟩
  walk_at "w"
  by_cases e : 0 < y
  · rw [decide_eq_true e]
    refine ⟨by show y ≠ 0; omega, ?_⟩
    have e2 : x.fmod y = x % y := fmod_pos e
    have h1 := Int.emod_nonneg x (b := y) (by omega)
    have h2 := Int.emod_lt_of_pos x e
    exact ⟨_, by rw [e2]; omega, y, x.fmod y, rfl, rfl, hy, by omega, by rw [e2]; exact (G.gc_step hx e).trans hg, rfl⟩
  · rw [decide_eq_false e]
    have e0 : y = 0 := by omega
    subst e0
    have hx' : x = (G.gc a b : Int) := by
      rw [← hg]
      unfold G.gc
      rw [Int.natAbs_zero, Nat.gcd_zero_right]
      omega
    have hms : G.ms a b = x := by rw [hx']; exact if_neg (by omega)
    have hd : ∀ i, G.CDivG i x := fun i => hms ▸ G.CDivG.of (b := 8000) (G.ms_ne (by omega)) (by rw [G.ms_natAbs]; exact gc_lt (by omega) hz) (by decide) (by decide)
    refine ⟨hd a, hd b, fin3.of ?_⟩
    have e1 : G.low1 a b = a.fdiv x := by unfold G.low1; rw [hms]
    have e2 : G.low2 a b = b.fdiv x := by unfold G.low2; rw [hms]
    rw [e1, e2] at h
    exact h
/-! ### _law_plus -/
abbrev s__law_plus : Stmt := topS 103
abbrev nm__law_plus : List Str := ["_law_one", "_law_other"]
theorem sc__law_plus : FnScope nm__law_plus ["_law_one", "_law_other"] (defScope s__law_plus) := ⟨rfl, rfl, rfl, by decide +kernel, rfl, by decide +kernel, by decide +kernel⟩
def sp__law_plus : Sp3 := sp2 fun x y M R _ => ∃ a b c d : Int, x = .tup [.int a, .int b] ∧ y = .tup [.int c, .int d] ∧ 0 < b ∧ 0 < d ∧ (a.natAbs < 2 ^ 100 ∧ b.natAbs < 2 ^ 100) ∧ (c.natAbs < 2 ^ 100 ∧ d.natAbs < 2 ^ 100) ∧ ∀ i j, FrOf (a * d + c * b) (b * d) i j → R (.tup [.int i, .int j]) M
theorem ok__law_plus {C_Label : Addr} {C_NoPath : Addr} {f : Addr} {fd : FuncData} (F : Fun K "_law_plus" "_law_plus" s__law_plus f fd) (g : Glb K mg C_Label C_NoPath) (c__law_frac : Cl P w K mg base "_law_frac" 1 ["_law_top", "_law_bottom"] (sp__law_frac)) : FnOk P w K mg base CX0 2 f fd ["_law_one", "_law_other"] (lift (sp__law_plus )) := by
  refine F.ok3 sc__law_plus (fun ts M R E h => sp2_len h) (fun cdv A outer s H E ts M R E3 hr h0 => ?_)
  obtain ⟨one', other', rfl, h⟩ := sp2_of h0
  refine ⟨_, (ls_one (ls_ret (le_call c__law_frac (hr.mono (by decide)) (by rfl) (la_cons (le_add (le_mul (le_at (lv 0) le_int) (le_at (lv 1) le_int)) (le_mul (le_at (lv 1) le_int) (le_at (lv 0) le_int))) (la_cons (le_mul (le_at (lv 0) le_int) (le_at (lv 1) le_int)) la_nil))))), ?_⟩
  obtain ⟨a, b, c, d, rfl, rfl, hb, hd, ⟨za, zb⟩, ⟨zc, zd⟩, h⟩ := h
  refine ⟨cmw za zd, ?_⟩
  walk_at "w"
  refine ⟨cmw zc zb, ?_⟩
  walk_at "w"
  refine ⟨cmw zb zd, ?_⟩
  exact ⟨_, _, rfl, rfl, Int.mul_pos hb hd, mul_lt8 zb zd, fun i j hf => fin3.of (h i j hf)⟩
/-! ### _law_minus -/
abbrev s__law_minus : Stmt := topS 104
abbrev nm__law_minus : List Str := ["_law_one", "_law_other"]
theorem sc__law_minus : FnScope nm__law_minus ["_law_one", "_law_other"] (defScope s__law_minus) := ⟨rfl, rfl, rfl, by decide +kernel, rfl, by decide +kernel, by decide +kernel⟩
def sp__law_minus : Sp3 := sp2 fun x y M R _ => ∃ a b c d : Int, x = .tup [.int a, .int b] ∧ y = .tup [.int c, .int d] ∧ 0 < b ∧ 0 < d ∧ (a.natAbs < 2 ^ 100 ∧ b.natAbs < 2 ^ 100) ∧ (c.natAbs < 2 ^ 100 ∧ d.natAbs < 2 ^ 100) ∧ ∀ i j, FrOf (a * d - c * b) (b * d) i j → R (.tup [.int i, .int j]) M
theorem ok__law_minus {C_Label : Addr} {C_NoPath : Addr} {f : Addr} {fd : FuncData} (F : Fun K "_law_minus" "_law_minus" s__law_minus f fd) (g : Glb K mg C_Label C_NoPath) (c__law_frac : Cl P w K mg base "_law_frac" 1 ["_law_top", "_law_bottom"] (sp__law_frac)) : FnOk P w K mg base CX0 2 f fd ["_law_one", "_law_other"] (lift (sp__law_minus )) := by
  refine F.ok3 sc__law_minus (fun ts M R E h => sp2_len h) (fun cdv A outer s H E ts M R E3 hr h0 => ?_)
  obtain ⟨one', other', rfl, h⟩ := sp2_of h0
  refine ⟨_, (ls_one (ls_ret (le_call c__law_frac (hr.mono (by decide)) (by rfl) (la_cons (le_sub (le_mul (le_at (lv 0) le_int) (le_at (lv 1) le_int)) (le_mul (le_at (lv 1) le_int) (le_at (lv 0) le_int))) (la_cons (le_mul (le_at (lv 0) le_int) (le_at (lv 1) le_int)) la_nil))))), ?_⟩
  obtain ⟨a, b, c, d, rfl, rfl, hb, hd, ⟨za, zb⟩, ⟨zc, zd⟩, h⟩ := h
  refine ⟨cmw za zd, ?_⟩
  walk_at "w"
  refine ⟨cmw zc zb, ?_⟩
  walk_at "w"
  refine ⟨cmw zb zd, ?_⟩
  exact ⟨_, _, rfl, rfl, Int.mul_pos hb hd, mul_lt8 zb zd, fun i j hf => fin3.of (h i j hf)⟩
/-! ### _law_times -/
abbrev s__law_times : Stmt := topS 105
abbrev nm__law_times : List Str := ["_law_one", "_law_other"]
theorem sc__law_times : FnScope nm__law_times ["_law_one", "_law_other"] (defScope s__law_times) := ⟨rfl, rfl, rfl, by decide +kernel, rfl, by decide +kernel, by decide +kernel⟩
def sp__law_times : Sp3 := sp2 fun x y M R _ => ∃ a b c d : Int, x = .tup [.int a, .int b] ∧ y = .tup [.int c, .int d] ∧ 0 < b ∧ 0 < d ∧ (a.natAbs < 2 ^ 100 ∧ b.natAbs < 2 ^ 100) ∧ (c.natAbs < 2 ^ 100 ∧ d.natAbs < 2 ^ 100) ∧ ∀ i j, FrOf (a * c) (b * d) i j → R (.tup [.int i, .int j]) M
theorem ok__law_times {C_Label : Addr} {C_NoPath : Addr} {f : Addr} {fd : FuncData} (F : Fun K "_law_times" "_law_times" s__law_times f fd) (g : Glb K mg C_Label C_NoPath) (c__law_frac : Cl P w K mg base "_law_frac" 1 ["_law_top", "_law_bottom"] (sp__law_frac)) : FnOk P w K mg base CX0 2 f fd ["_law_one", "_law_other"] (lift (sp__law_times )) := by
  refine F.ok3 sc__law_times (fun ts M R E h => sp2_len h) (fun cdv A outer s H E ts M R E3 hr h0 => ?_)
  obtain ⟨one', other', rfl, h⟩ := sp2_of h0
  refine ⟨_, (ls_one (ls_ret (le_call c__law_frac (hr.mono (by decide)) (by rfl) (la_cons (le_mul (le_at (lv 0) le_int) (le_at (lv 1) le_int)) (la_cons (le_mul (le_at (lv 0) le_int) (le_at (lv 1) le_int)) la_nil))))), ?_⟩
  obtain ⟨a, b, c, d, rfl, rfl, hb, hd, ⟨za, zb⟩, ⟨zc, zd⟩, h⟩ := h
  refine ⟨cmw za zc, ?_⟩
  walk_at "w"
  refine ⟨cmw zb zd, ?_⟩
  exact ⟨_, _, rfl, rfl, Int.mul_pos hb hd, mul_lt8 zb zd, fun i j hf => fin3.of (h i j hf)⟩
end
end L3
set_option Elab.async false
set_option linter.all false
set_option maxRecDepth 100000
set_option maxHeartbeats 1000000
namespace L3
open PySem PySem.Spec PyProof.Rows L2 TL
/-! ### texts that are read in one way only -/
def Stop (p : Nat → Bool) (s : List Nat) : Prop := ∀ c, s.head? = some c → p c = false
theorem span_uniq {p : Nat → Bool} : ∀ {x y s t : List Nat}, (∀ c ∈ x, p c = true) → (∀ c ∈ y, p c = true) → Stop p s → Stop p t → x ++ s = y ++ t → x = y ∧ s = t
  | [], [], s, t, _, _, _, _, e => ⟨rfl, e⟩
  | [], d :: y, s, t, _, hy, hs, _, e => by
    have e : s = d :: (y ++ t) := e
    have := hs d (by rw [e]; rfl)
    rw [hy d (.head _)] at this
    cases this
  | d :: y, [], s, t, hy, _, _, hs, e => by
    have e : d :: (y ++ s) = t := e
    have := hs d (by rw [← e]; rfl)
    rw [hy d (.head _)] at this
    cases this
  | c :: x, d :: y, s, t, hx, hy, hs, ht, e => by
    injection e with e1 e2
    obtain ⟨a, b⟩ := span_uniq (fun c h => hx c (.tail _ h)) (fun c h => hy c (.tail _ h)) hs ht e2
    exact ⟨by rw [e1, a], b⟩
def frC (c : Nat) : Bool := decide (47 ≤ c) && decide (c ≤ 57)
def dgC (c : Nat) : Bool := decide (48 ≤ c) && decide (c ≤ 57)
theorem stop_nil {p : Nat → Bool} : Stop p [] := fun c h => by cases h
theorem stop_cons {p : Nat → Bool} {c : Nat} {s : List Nat} (h : p c = false) : Stop p (c :: s) := fun d e => by
  have e : c = d := Option.some.inj e
  rw [← e]
  exact h
theorem num_dg (n : Nat) : ∀ c ∈ numL n, dgC c = true := fun c hc => by
  have := numL_digits n c hc
  unfold dgC
  rw [decide_eq_true this.1, decide_eq_true this.2]
  rfl
theorem dg_fr {c : Nat} (h : dgC c = true) : frC c = true := by
  unfold dgC at h
  unfold frC
  rw [Bool.and_eq_true] at h
  have h1 := of_decide_eq_true h.1
  have h2 := of_decide_eq_true h.2
  rw [decide_eq_true (by omega), decide_eq_true h2]
  rfl
theorem tl_e : tl (Str.ofString "") = [] := by decide +kernel
theorem tl_fT {i j : Int} (h : 0 ≤ i) : tl (fT i j) = numL i.natAbs ++ (if j = 1 then [] else 47 :: numL j.natAbs) := by
  unfold fT sg bw
  rw [if_neg (by omega), tl_append, tl_append, tl_Tn]
  have e1 : tl (Str.ofString "") = [] := tl_e
  have e2 : tl (Str.ofString "/") = [47] := by decide +kernel
  show tl (Str.ofString "") ++ numL i.natAbs ++ _ = _
  rw [e1, List.nil_append]
  congr 1
  split
  · exact e1
  · rw [tl_append, tl_Tn]
    show tl (Str.ofString "/") ++ _ = _
    rw [e2]
    rfl
theorem fT_fr {i j : Int} (h : 0 ≤ i) : ∀ c ∈ tl (fT i j), frC c = true := fun c hc => by
  rw [tl_fT h] at hc
  rcases List.mem_append.mp hc with hc | hc
  · exact dg_fr (num_dg _ c hc)
  · split at hc
    · cases hc
    · rcases List.mem_cons.mp hc with rfl | hc
      · decide
      · exact dg_fr (num_dg _ c hc)
theorem fT_uniq {i j k l : Int} (h1 : 0 ≤ i) (h2 : 0 < j) (h3 : 0 ≤ k) (h4 : 0 < l) {s t : List Nat} (hs : Stop frC s) (ht : Stop frC t) (e : tl (fT i j) ++ s = tl (fT k l) ++ t) : i = k ∧ j = l ∧ s = t := by
  obtain ⟨e1, e2⟩ := span_uniq (fT_fr h1) (fT_fr h3) hs ht e
  rw [tl_fT h1, tl_fT h3] at e1
  have st : ∀ j : Int, Stop dgC (if j = 1 then [] else 47 :: numL j.natAbs) := fun j => by
    split
    · exact stop_nil
    · exact stop_cons (by decide)
  obtain ⟨e3, e4⟩ := span_uniq (num_dg _) (num_dg _) (st j) (st l) e1
  have e5 := numL_inj e3
  refine ⟨by omega, ?_, e2⟩
  by_cases z1 : j = 1
  · rw [if_pos z1] at e4
    by_cases z2 : l = 1
    · rw [z1, z2]
    · rw [if_neg z2] at e4
      cases e4
  · rw [if_neg z1] at e4
    by_cases z2 : l = 1
    · rw [if_pos z2] at e4
      cases e4
    · rw [if_neg z2] at e4
      injection e4 with _ e4
      have := numL_inj e4
      omega
theorem fT_head {i j : Int} (h : 0 ≤ i) (s : List Nat) : ∃ c r, tl (fT i j) ++ s = c :: r ∧ 48 ≤ c ∧ c ≤ 57 := by
  rw [tl_fT h]
  cases e : numL i.natAbs with
  | nil => exact absurd e (numL_ne _)
  | cons c r =>
    have := numL_digits i.natAbs c (by rw [e]; exact .head _)
    exact ⟨c, _, rfl, this⟩
theorem tl_b : tl (Str.ofString " ") = [32] := by decide +kernel
theorem tl_to : tl (Str.ofString " to ") = [32, 116, 111, 32] := by decide +kernel
theorem tl_in : tl (Str.ofString " (") = [32, 40] := by decide +kernel
theorem tl_out : tl (Str.ofString ")") = [41] := by decide +kernel
theorem tl_c : tl (Str.ofString ", ") = [44, 32] := by decide +kernel
theorem tl_may : tl (Str.ofString "; may hold ") = 59 :: tl (Str.ofString " may hold ") := by decide +kernel
/-- what stands behind a place's told ends: nothing, or what ends a place, or a list -/
def AfT (s : List Nat) : Prop := s = [] ∨ (∃ r, s = 32 :: 40 :: r) ∨ ∃ c r, s = c :: r ∧ (c = 44 ∨ c = 41 ∨ c = 59 ∨ c = 10)
theorem AfT.stop {s : List Nat} (h : AfT s) : Stop frC s := by
  rcases h with rfl | ⟨r, rfl⟩ | ⟨c, r, rfl, hc⟩
  · exact stop_nil
  · exact stop_cons (by decide)
  · exact stop_cons (by rcases hc with rfl | rfl | rfl | rfl <;> decide)
theorem AfT.no {s r : List Nat} {c : Nat} (h : AfT s) (hc : c ≠ 40) : s ≠ 32 :: c :: r := fun e => by
  rcases h with rfl | ⟨r', rfl⟩ | ⟨d, r', rfl, hd⟩
  · cases e
  · injection e with _ e
    injection e with e _
    exact hc e.symm
  · injection e with e _
    rcases hd with rfl | rfl | rfl | rfl <;> cases e
theorem fr_pos {a b : Int} (h : G.isFr a b = true) : 0 < b := by
  unfold G.isFr at h
  rw [Bool.and_eq_true] at h
  exact of_decide_eq_true h.1
theorem sh_pos {s : Sh} (h : ShOk s) : 0 ≤ s.a ∧ 0 < s.b ∧ 0 ≤ s.c ∧ 0 < s.d := by
  obtain ⟨⟨f1, f2⟩, ⟨o1, o2, o3⟩, _⟩ := h
  have pb := fr_pos f1
  have pd := fr_pos f2
  refine ⟨o1, pb, ?_, pd⟩
  rcases Int.lt_or_le s.c 0 with z | z
  · have h1 := Int.mul_neg_of_neg_of_pos z pb
    have h2 := Int.mul_nonneg o1 (show 0 ≤ s.d by omega)
    omega
  · exact z
theorem stT_uniq {s s' : Sh} (h : ShOk s) (h' : ShOk s') {u v : List Nat} (hu : AfT u) (hv : AfT v) (e : tl (stT s) ++ u = tl (stT s') ++ v) : s = s' ∧ u = v := by
  obtain ⟨p1, p2, p3, p4⟩ := sh_pos h
  obtain ⟨q1, q2, q3, q4⟩ := sh_pos h'
  obtain ⟨a, b, c, d⟩ := s
  obtain ⟨a', b', c', d'⟩ := s'
  dsimp only at p1 p2 p3 p4 q1 q2 q3 q4
  have tw : ∀ (x y z w : Int) (r : List Nat), tl ((fT x y ++ Str.ofString " to ") ++ fT z w) ++ r = tl (fT x y) ++ (32 :: 116 :: 111 :: 32 :: (tl (fT z w) ++ r)) := fun x y z w r => by
    rw [tl_append, tl_append, tl_to, List.append_assoc, List.append_assoc]
    rfl
  have sp : ∀ r : List Nat, Stop frC (32 :: r) := fun r => stop_cons (by decide)
  unfold stT at e
  dsimp only at e
  by_cases z : a = c ∧ b = d
  · rw [if_pos z] at e
    by_cases z' : a' = c' ∧ b' = d'
    · rw [if_pos z'] at e
      obtain ⟨e1, e2, e3⟩ := fT_uniq p1 p2 q1 q2 hu.stop hv.stop e
      obtain ⟨rfl, rfl⟩ := z
      obtain ⟨rfl, rfl⟩ := z'
      exact ⟨by rw [e1, e2], e3⟩
    · rw [if_neg z', tw] at e
      obtain ⟨_, _, e3⟩ := fT_uniq p1 p2 q1 q2 hu.stop (sp _) e
      exact absurd e3 (hu.no (by decide))
  · rw [if_neg z, tw] at e
    by_cases z' : a' = c' ∧ b' = d'
    · rw [if_pos z'] at e
      obtain ⟨_, _, e3⟩ := fT_uniq p1 p2 q1 q2 (sp _) hv.stop e
      exact absurd e3.symm (hv.no (by decide))
    · rw [if_neg z', tw] at e
      obtain ⟨e1, e2, e3⟩ := fT_uniq p1 p2 q1 q2 (sp _) (sp _) e
      injection e3 with _ e3
      injection e3 with _ e3
      injection e3 with _ e3
      injection e3 with _ e3
      obtain ⟨e4, e5, e6⟩ := fT_uniq p3 p4 q3 q4 hu.stop hv.stop e3
      exact ⟨by rw [e1, e2, e4, e5], e6⟩
theorem tdT_uniq : ∀ {td td' : Option Sh}, (∀ s, td = some s → ShOk s) → (∀ s, td' = some s → ShOk s) → ∀ {u v : List Nat}, AfT u → AfT v → tl (tdT td) ++ u = tl (tdT td') ++ v → td = td' ∧ u = v
  | none, none, _, _, u, v, _, _, e => by
    refine ⟨rfl, ?_⟩
    have e1 : tl (tdT none) = [] := tl_e
    rw [e1] at e
    exact e
  | none, some s, _, h, u, v, hu, hv, e => by
    have e1 : tl (tdT none) = [] := tl_e
    have e2 : tl (tdT (some s)) = 32 :: tl (stT s) := by
      show tl (Str.ofString " " ++ stT s) = _
      rw [tl_append, tl_b]
      rfl
    rw [e1, e2] at e
    have e : u = 32 :: (tl (stT s) ++ v) := e
    have : ∃ c r, tl (stT s) ++ v = c :: r ∧ 48 ≤ c ∧ c ≤ 57 := by
      unfold stT
      split
      · exact fT_head (sh_pos (h s rfl)).1 _
      · rw [tl_append, tl_append, List.append_assoc, List.append_assoc]
        exact fT_head (sh_pos (h s rfl)).1 _
    obtain ⟨c, r, e3, c1, c2⟩ := this
    rw [e3] at e
    exact absurd e (hu.no (by omega))
  | some s, none, h, _, u, v, hu, hv, e => by
    have e1 : tl (tdT none) = [] := tl_e
    have e2 : tl (tdT (some s)) = 32 :: tl (stT s) := by
      show tl (Str.ofString " " ++ stT s) = _
      rw [tl_append, tl_b]
      rfl
    rw [e1, e2] at e
    have e : 32 :: (tl (stT s) ++ u) = v := e
    have : ∃ c r, tl (stT s) ++ u = c :: r ∧ 48 ≤ c ∧ c ≤ 57 := by
      unfold stT
      split
      · exact fT_head (sh_pos (h s rfl)).1 _
      · rw [tl_append, tl_append, List.append_assoc, List.append_assoc]
        exact fT_head (sh_pos (h s rfl)).1 _
    obtain ⟨c, r, e3, c1, c2⟩ := this
    rw [e3] at e
    exact absurd e.symm (hv.no (by omega))
  | some s, some s', h, h', u, v, hu, hv, e => by
    have e2 : ∀ s, tl (tdT (some s)) = 32 :: tl (stT s) := fun s => by
      show tl (Str.ofString " " ++ stT s) = _
      rw [tl_append, tl_b]
      rfl
    rw [e2, e2] at e
    injection e with _ e
    obtain ⟨e3, e4⟩ := stT_uniq (h s rfl) (h' s' rfl) hu hv e
    exact ⟨by rw [e3], e4⟩
theorem nm_ok {z : Str} (h : NmOk z) : ∀ c ∈ tl z, okC c = true := fun c hc => by
  have h : (decide (1 ≤ z.length) && decide (z.length ≤ 8) && z.cps.toList.all okC) = true := h
  rw [Bool.and_eq_true] at h
  exact List.all_eq_true.mp h.2 c hc
theorem nm_uniq {x y : Str} (hx : NmOk x) (hy : NmOk y) {s t : List Nat} (hs : Stop okC s) (ht : Stop okC t) (e : tl x ++ s = tl y ++ t) : x = y ∧ s = t := by
  obtain ⟨a, b⟩ := span_uniq (nm_ok hx) (nm_ok hy) hs ht e
  exact ⟨tl_inj a, b⟩
theorem AfT.okC {s : List Nat} (h : AfT s) : Stop okC s := by
  rcases h with rfl | ⟨r, rfl⟩ | ⟨c, r, rfl, hc⟩
  · exact stop_nil
  · exact stop_cons (by decide)
  · exact stop_cons (by rcases hc with rfl | rfl | rfl | rfl <;> decide)
theorem tdT_stop {td : Option Sh} {u : List Nat} (hu : AfT u) : Stop okC (tl (tdT td) ++ u) := by
  cases td with
  | none =>
    have e1 : tl (tdT none) = [] := tl_e
    rw [e1]
    exact hu.okC
  | some s =>
    have e2 : tl (tdT (some s)) = 32 :: tl (stT s) := by
      show tl (Str.ofString " " ++ stT s) = _
      rw [tl_append, tl_b]
      rfl
    rw [e2]
    exact stop_cons (by decide)
/-- an entry: name and told ends -/
theorem en_uniq {x y : Str} {td td' : Option Sh} (hx : NmOk x) (hy : NmOk y) (h : ∀ s, td = some s → ShOk s) (h' : ∀ s, td' = some s → ShOk s) {u v : List Nat} (hu : AfT u) (hv : AfT v) (e : tl x ++ (tl (tdT td) ++ u) = tl y ++ (tl (tdT td') ++ v)) : x = y ∧ td = td' ∧ u = v := by
  obtain ⟨e1, e2⟩ := nm_uniq hx hy (tdT_stop hu) (tdT_stop hv) e
  exact ⟨e1, tdT_uniq h h' hu hv e2⟩
/-! ### rows -/
/-- what may stand behind a list -/
def AfL (s : List Nat) : Prop := s = [] ∨ ∃ c r, s = c :: r ∧ (c = 41 ∨ c = 59)
theorem AfL.aft {s : List Nat} (h : AfL s) : AfT s := by
  rcases h with rfl | ⟨c, r, rfl, rfl | rfl⟩
  · exact .inl rfl
  · exact .inr (.inr ⟨_, _, rfl, .inr (.inl rfl)⟩)
  · exact .inr (.inr ⟨_, _, rfl, .inr (.inr (.inl rfl))⟩)
theorem tl_li (nm : Str) (td : Option Sh) (i r : Fo) (s : List Nat) : tl (liT (.cons nm td i r)) ++ s = tl nm ++ (tl (tdT td) ++ (tl (inT i) ++ (if r.isNil = true then s else 44 :: 32 :: (tl (liT r) ++ s)))) := by
  have e1 : itT (.cons nm td i r) = plT (nm, td, i) :: itT r := rfl
  unfold liT
  rw [join_eq, tl_join, e1]
  cases r with
  | nil =>
    show tl (plT (nm, td, i)) ++ s = _
    unfold plT
    rw [tl_append, tl_append, List.append_assoc, List.append_assoc]
    rfl
  | cons a b c d =>
    show (tl (plT (nm, td, i)) ++ (tl (Str.ofString ", ") ++ joinL (tl (Str.ofString ", ")) ((itT (.cons a b c d)).map tl))) ++ s = _
    rw [join_eq, tl_join, tl_c]
    unfold plT
    rw [tl_append, tl_append, List.append_assoc, List.append_assoc, List.append_assoc]
    rfl
theorem tl_inT (i : Fo) (s : List Nat) : tl (inT i) ++ s = if i.isNil = true then s else 32 :: 40 :: (tl (liT i) ++ (41 :: s)) := by
  unfold inT
  split
  · rw [tl_e]
    rfl
  · rw [tl_append, tl_append, tl_in, tl_out, List.append_assoc, List.append_assoc]
    rfl
theorem inT_aft {i : Fo} {s : List Nat} (h : AfT s) : AfT (tl (inT i) ++ s) := by
  rw [tl_inT]
  split
  · exact h
  · exact .inr (.inl ⟨_, rfl⟩)
theorem rest_aft {r : Fo} {s : List Nat} (h : AfL s) : AfT (if r.isNil = true then s else 44 :: 32 :: (tl (liT r) ++ s)) := by
  split
  · exact h.aft
  · exact .inr (.inr ⟨_, _, rfl, .inl rfl⟩)
theorem isNil_eq {f : Fo} (h : f.isNil = true) : f = .nil := by
  cases f with
  | nil => rfl
  | cons a b c d => cases h
theorem AfT.no2 {s r : List Nat} (h : ∃ r' c, s = c :: r' ∧ (c = 44 ∨ c = 41 ∨ c = 59 ∨ c = 10) ∨ s = []) : s ≠ 32 :: r := fun e => by
  obtain ⟨r', c, h | h⟩ := h
  · obtain ⟨h, hc⟩ := h
    rw [h] at e
    injection e with e _
    rcases hc with rfl | rfl | rfl | rfl <;> cases e
  · rw [h] at e
    cases e
theorem rest_no {r : Fo} {s q : List Nat} (h : AfL s) : (if r.isNil = true then s else 44 :: 32 :: (tl (liT r) ++ s)) ≠ 32 :: q := by
  split
  · rcases h with rfl | ⟨c, r, rfl, rfl | rfl⟩ <;> (intro e; cases e)
  · intro e
    cases e
theorem li_uniq : ∀ {f g : Fo}, f ≠ .nil → g ≠ .nil → Gd f → Gd g → ∀ {s t : List Nat}, AfL s → AfL t → tl (liT f) ++ s = tl (liT g) ++ t → f = g ∧ s = t
  | .nil, _, h, _, _, _, _, _, _, _, _ => absurd rfl h
  | .cons _ _ _ _, .nil, _, h, _, _, _, _, _, _, _ => absurd rfl h
  | .cons nm td i r, .cons nm' td' i' r', _, _, g, g', s, t, hs, ht, e => by
    rw [tl_li, tl_li] at e
    obtain ⟨rfl, rfl, e9⟩ := en_uniq g.1 g'.1 g.2.1 g'.2.1 (inT_aft (rest_aft hs)) (inT_aft (rest_aft ht)) e
    clear e
    have e := e9
    rw [tl_inT, tl_inT] at e
    have key : i = i' ∧ (if r.isNil = true then s else 44 :: 32 :: (tl (liT r) ++ s)) = (if r'.isNil = true then t else 44 :: 32 :: (tl (liT r') ++ t)) := by
      by_cases z : i.isNil = true
      · rw [if_pos z] at e
        by_cases z' : i'.isNil = true
        · rw [if_pos z'] at e
          exact ⟨by rw [isNil_eq z, isNil_eq z'], e⟩
        · rw [if_neg z'] at e
          exact absurd e (rest_no hs)
      · rw [if_neg z] at e
        by_cases z' : i'.isNil = true
        · rw [if_pos z'] at e
          exact absurd e.symm (rest_no ht)
        · rw [if_neg z'] at e
          injection e with _ e
          injection e with _ e
          obtain ⟨e1, e2⟩ := li_uniq (f := i) (g := i') (fun q => z (by rw [q]; rfl)) (fun q => z' (by rw [q]; rfl)) g.2.2.1 g'.2.2.1 (.inr ⟨41, _, rfl, .inl rfl⟩) (.inr ⟨41, _, rfl, .inl rfl⟩) e
          injection e2 with _ e2
          exact ⟨e1, e2⟩
    obtain ⟨rfl, e8⟩ := key
    clear e e9
    have e := e8
    by_cases z : r.isNil = true
    · rw [if_pos z] at e
      by_cases z' : r'.isNil = true
      · rw [if_pos z'] at e
        exact ⟨by rw [isNil_eq z, isNil_eq z'], e⟩
      · rw [if_neg z'] at e
        exfalso
        rcases hs with rfl | ⟨c, q, rfl, rfl | rfl⟩ <;> cases e
    · rw [if_neg z] at e
      by_cases z' : r'.isNil = true
      · rw [if_pos z'] at e
        exfalso
        rcases ht with rfl | ⟨c, q, rfl, rfl | rfl⟩ <;> cases e
      · rw [if_neg z'] at e
        injection e with _ e
        injection e with _ e
        obtain ⟨e1, e2⟩ := li_uniq (f := r) (g := r') (fun q => z (by rw [q]; rfl)) (fun q => z' (by rw [q]; rfl)) g.2.2.2 g'.2.2.2 hs ht e
        exact ⟨by rw [e1], e2⟩
/-- names with commas between -/
theorem jn_uniq : ∀ {ws vs : List Str}, (∀ y ∈ ws, NmOk y) → (∀ y ∈ vs, NmOk y) → joinL [44, 32] (ws.map tl) = joinL [44, 32] (vs.map tl) → ws = vs
  | [], [], _, _, _ => rfl
  | [], v :: vs, _, h, e => by
    exfalso
    have h1 := (NmOk.len (h v (.head _))).1
    rw [len_tl] at h1
    have e2 := congrArg List.length e
    cases vs with
    | nil =>
      have e2 : 0 = (tl v).length := e2
      omega
    | cons u r =>
      have e2 : 0 = (tl v ++ ([44, 32] ++ joinL [44, 32] ((u :: r).map tl))).length := e2
      rw [List.length_append] at e2
      omega
  | v :: vs, [], h, _, e => by
    exfalso
    have h1 := (NmOk.len (h v (.head _))).1
    rw [len_tl] at h1
    have e2 := congrArg List.length e
    cases vs with
    | nil =>
      have e2 : (tl v).length = 0 := e2
      omega
    | cons u r =>
      have e2 : (tl v ++ ([44, 32] ++ joinL [44, 32] ((u :: r).map tl))).length = 0 := e2
      rw [List.length_append] at e2
      omega
  | w :: ws, v :: vs, h, h', e => by
    have f : ∀ (x : Str) (l : List Str), joinL [44, 32] ((x :: l).map tl) = tl x ++ (if l.isEmpty = true then [] else 44 :: 32 :: joinL [44, 32] (l.map tl)) := fun x l => by
      cases l with
      | nil => exact (List.append_nil _).symm
      | cons y r => rfl
    have st : ∀ l : List Str, Stop okC (if l.isEmpty = true then [] else 44 :: 32 :: joinL [44, 32] (l.map tl)) := fun l => by
      split
      · exact stop_nil
      · exact stop_cons (by decide)
    rw [f, f] at e
    obtain ⟨e1, e2⟩ := nm_uniq (h w (.head _)) (h' v (.head _)) (st _) (st _) e
    have : ws = vs := by
      cases ws with
      | nil =>
        cases vs with
        | nil => rfl
        | cons _ _ => cases e2
      | cons a r =>
        cases vs with
        | nil => cases e2
        | cons b q =>
          have e2 : 44 :: 32 :: joinL [44, 32] ((a :: r).map tl) = 44 :: 32 :: joinL [44, 32] ((b :: q).map tl) := e2
          injection e2 with _ e2
          injection e2 with _ e2
          exact jn_uniq (fun y hy => h y (.tail _ hy)) (fun y hy => h' y (.tail _ hy)) e2
    rw [e1, this]
theorem ro_uniq {f g : Fo} {ws vs : List Str} (nf : f ≠ .nil) (ng : g ≠ .nil) (gf : Gd f) (gg : Gd g) (hw : ∀ y ∈ ws, NmOk y) (hv : ∀ y ∈ vs, NmOk y) (e : roT f ws = roT g vs) : f = g ∧ ws = vs := by
  have e : tl (roT f ws) = tl (roT g vs) := congrArg tl e
  have k : ∀ (f : Fo) (ws : List Str), tl (roT f ws) = tl (liT f) ++ (if ws.length = 0 then [] else 59 :: (tl (Str.ofString " may hold ") ++ joinL [44, 32] (ws.map tl))) := fun f ws => by
    unfold roT
    split
    · exact (List.append_nil _).symm
    · rw [tl_append, tl_append, tl_may, join_eq, tl_join, List.append_assoc]
      show _ ++ (59 :: (_ ++ joinL (tl (Str.ofString ", ")) _)) = _
      rw [tl_c]
  have af : ∀ ws : List Str, AfL (if ws.length = 0 then [] else 59 :: (tl (Str.ofString " may hold ") ++ joinL [44, 32] (ws.map tl))) := fun ws => by
    split
    · exact .inl rfl
    · exact .inr ⟨59, _, rfl, .inr rfl⟩
  rw [k, k] at e
  obtain ⟨e1, e2⟩ := li_uniq nf ng gf gg (af ws) (af vs) e
  refine ⟨e1, ?_⟩
  by_cases z : ws.length = 0
  · rw [if_pos z] at e2
    by_cases z' : vs.length = 0
    · rw [List.length_eq_zero_iff.mp z, List.length_eq_zero_iff.mp z']
    · rw [if_neg z'] at e2
      cases e2
  · rw [if_neg z] at e2
    by_cases z' : vs.length = 0
    · rw [if_pos z'] at e2
      cases e2
    · rw [if_neg z'] at e2
      injection e2 with _ e2
      exact jn_uniq hw hv (List.append_cancel_left e2)
end L3
set_option Elab.async false
set_option linter.all false
set_option maxRecDepth 100000
set_option maxHeartbeats 1000000
namespace L3
open PySem PySem.Spec PyProof.Rows L2 TL
/-! ### the repr of data of this kind is read in one way only -/
theorem rc_let : ∀ k : Nat, k < 26 → Builtin.Str.reprChar 39 (97 + k) = [97 + k] := by decide +kernel
theorem ok_let {c : Nat} (h : okC c = true) : Builtin.Str.reprChar 39 c = [c] := by
  unfold okC at h
  rw [Bool.and_eq_true] at h
  have h1 := of_decide_eq_true h.1
  have h2 := of_decide_eq_true h.2
  have := rc_let (c - 97) (by omega)
  rwa [show 97 + (c - 97) = c by omega] at this
theorem fold_let : ∀ (l : List Nat) (acc : Array Nat), (∀ c ∈ l, okC c = true) → (l.foldl (fun out c => out ++ (Builtin.Str.reprChar 39 c).toArray) acc).toList = acc.toList ++ l
  | [], acc, _ => (List.append_nil _).symm
  | c :: l, acc, h => by
    rw [List.foldl_cons, fold_let l _ fun d hd => h d (.tail _ hd), ok_let (h c (.head _)), Array.toList_append]
    show (acc.toList ++ [c]) ++ l = _
    rw [List.append_assoc]
    rfl
theorem repr_nm {z : Str} (h : NmOk z) : tl (reprText z) = 39 :: (tl z ++ [39]) := by
  have ok := nm_ok h
  have hq : reprQuote z = 39 := by
    unfold reprQuote
    have : z.cps.contains 39 = false := by
      rw [Array.contains_eq_mem, decide_eq_false_iff_not]
      intro hm
      have := ok 39 (Array.mem_toList_iff.mpr hm)
      cases this
    rw [this]
    rfl
  show (reprText z).cps.toList = _
  unfold reprText
  rw [hq]
  show ((z.cps.foldl (fun out c => out ++ (Builtin.Str.reprChar 39 c).toArray) #[39]).push 39).toList = _
  rw [Array.toList_push, ← Array.foldl_toList, fold_let z.cps.toList #[39] ok]
  rfl
mutual
def cdB : PyData → Prop
  | .none => True
  | .bool _ => False
  | .int i => 0 ≤ i
  | .str z => NmOk z
  | .list xs => cdAll xs
  | .tuple xs => cdAll xs
  | .dict _ => False
def cdAll : List PyData → Prop
  | [] => True
  | x :: xs => cdB x ∧ cdAll xs
end
def AfR (s : List Nat) : Prop := s = [] ∨ ∃ c r, s = c :: r ∧ (c = 44 ∨ c = 41 ∨ c = 93)
def jl (xs : List PyData) : List Nat := joinL [44, 32] ((PyData.shownAll xs).map tl)
theorem tl_tup (xs : List PyData) (s : List Nat) : tl (PyData.shown (.tuple xs)) ++ s = 40 :: (jl xs ++ ((if (PyData.shownAll xs).length = 1 then [44, 41] else [41]) ++ s)) := by
  show tl (tupleText (PyData.shownAll xs)) ++ s = _
  unfold tupleText
  rw [tl_append, tl_append, tl_join]
  have e1 : tl (Str.ofString "(") = [40] := by decide +kernel
  have e2 : tl (Str.ofString ",)") = [44, 41] := by decide +kernel
  show (tl (Str.ofString "(") ++ joinL (tl (Str.ofString ", ")) _ ++ tl (Str.ofString (if ((PyData.shownAll xs).length == 1) = true then ",)" else ")"))) ++ s = _
  rw [e1, tl_c, List.append_assoc, List.append_assoc]
  show 40 :: (_ ++ (_ ++ s)) = _
  congr 3
  by_cases z : (PyData.shownAll xs).length = 1
  · rw [if_pos z, if_pos (by rw [z]; rfl), e2]
  · rw [if_neg z, if_neg (by simpa using z), tl_out]
theorem tl_lst (xs : List PyData) (s : List Nat) : tl (PyData.shown (.list xs)) ++ s = 91 :: (jl xs ++ (93 :: s)) := by
  show tl (listText (PyData.shownAll xs)) ++ s = _
  rw [listText_eq_join, tl_append, tl_append, tl_join]
  have e1 : tl (Str.ofString "[") = [91] := by decide +kernel
  have e2 : tl (Str.ofString "]") = [93] := by decide +kernel
  show (tl (Str.ofString "[") ++ joinL (tl (Str.ofString ", ")) _ ++ tl (Str.ofString "]")) ++ s = _
  rw [e1, e2, tl_c, List.append_assoc, List.append_assoc]
  rfl
theorem tl_non : tl (PyData.shown .none) = [78, 111, 110, 101] := by decide +kernel
theorem tl_int {i : Int} (h : 0 ≤ i) : tl (PyData.shown (.int i)) = numL i.natAbs := by
  have : PyData.shown (.int i) = Tn i.natAbs := by
    unfold Tn
    rw [show ((i.natAbs : Nat) : Int) = i by omega]
    rfl
  rw [this, tl_Tn]
/-- the first sign -/
def hdK : PyData → Nat → Prop
  | .none, c => c = 78
  | .int _, c => 48 ≤ c ∧ c ≤ 57
  | .str _, c => c = 39
  | .list _, c => c = 91
  | .tuple _, c => c = 40
  | _, _ => False
theorem sh_head {d : PyData} (h : cdB d) (s : List Nat) : ∃ c r, tl (PyData.shown d) ++ s = c :: r ∧ hdK d c := by
  cases d with
  | none => exact ⟨78, _, by rw [tl_non]; rfl, rfl⟩
  | bool b => cases h
  | int i =>
    rw [tl_int h]
    cases e : numL i.natAbs with
    | nil => exact absurd e (numL_ne _)
    | cons c r => exact ⟨c, _, rfl, numL_digits i.natAbs c (by rw [e]; exact .head _)⟩
  | str z =>
    have e : tl (PyData.shown (.str z)) = 39 :: (tl z ++ [39]) := repr_nm h
    exact ⟨39, (tl z ++ [39]) ++ s, by rw [e]; rfl, rfl⟩
  | list xs => exact ⟨91, _, tl_lst xs s, rfl⟩
  | tuple xs => exact ⟨40, _, tl_tup xs s, rfl⟩
  | dict _ => cases h
theorem AfR.dg {s : List Nat} (h : AfR s) : Stop dgC s := by
  rcases h with rfl | ⟨c, r, rfl, rfl | rfl | rfl⟩
  · exact stop_nil
  · exact stop_cons (by decide)
  · exact stop_cons (by decide)
  · exact stop_cons (by decide)
/-- what closes a tuple or a list -/
def Cls (u : List Nat) : Prop := ∃ r, u = 41 :: r ∨ u = 93 :: r ∨ u = 44 :: 41 :: r
theorem Cls.afr {u : List Nat} (h : Cls u) : AfR u := by
  obtain ⟨r, rfl | rfl | rfl⟩ := h
  · exact .inr ⟨_, _, rfl, .inr (.inl rfl)⟩
  · exact .inr ⟨_, _, rfl, .inr (.inr rfl)⟩
  · exact .inr ⟨_, _, rfl, .inl rfl⟩
theorem Cls.no {u r : List Nat} {c : Nat} {d : PyData} (h : Cls u) (k : hdK d c) : u ≠ c :: r := fun e => by
  obtain ⟨q, h⟩ := h
  have hc : c = 41 ∨ c = 93 ∨ c = 44 := by
    rcases h with h | h | h <;> (rw [h] at e; injection e with e _; omega)
  cases d <;> first | exact k | (have k : _ ∧ _ := k; omega) | (have k : c = _ := k; omega)
theorem tup_cls (xs : List PyData) (s : List Nat) : Cls ((if (PyData.shownAll xs).length = 1 then [44, 41] else [41]) ++ s) := by
  split
  · exact ⟨_, .inr (.inr rfl)⟩
  · exact ⟨_, .inl rfl⟩
def tlR (xs : List PyData) (u : List Nat) : List Nat := if xs.isEmpty = true then u else 44 :: 32 :: (jl xs ++ u)
theorem jl_cons (x : PyData) (xs : List PyData) (u : List Nat) : jl (x :: xs) ++ u = tl (PyData.shown x) ++ tlR xs u := by
  unfold tlR jl
  cases xs with
  | nil => rfl
  | cons y r =>
    show (tl (PyData.shown x) ++ ([44, 32] ++ joinL [44, 32] ((PyData.shownAll (y :: r)).map tl))) ++ u = _
    rw [List.append_assoc]
    rfl
theorem tlR_afr {xs : List PyData} {u : List Nat} (h : Cls u) : AfR (tlR xs u) := by
  unfold tlR
  split
  · exact h.afr
  · exact .inr ⟨_, _, rfl, .inl rfl⟩
theorem hd_diff {d e : PyData} {c : Nat} (h1 : hdK d c) (h2 : hdK e c) : (∃ x, d = .none ∧ e = .none ∨ (∃ i j, d = .int i ∧ e = .int j) ∨ (∃ i j, d = .str i ∧ e = .str j) ∨ (∃ i j, d = .list i ∧ e = .list j) ∨ (∃ i j, d = .tuple i ∧ e = .tuple j) ∨ x = (0 : Nat) ∧ False) := by
  refine ⟨0, ?_⟩
  cases d <;> cases e <;> first | exact .inl ⟨rfl, rfl⟩ | exact .inr (.inl ⟨_, _, rfl, rfl⟩) | exact .inr (.inr (.inl ⟨_, _, rfl, rfl⟩)) | exact .inr (.inr (.inr (.inl ⟨_, _, rfl, rfl⟩))) | exact .inr (.inr (.inr (.inr (.inl ⟨_, _, rfl, rfl⟩)))) | exact h1.elim | exact h2.elim | (exfalso; have h1 : c = _ := h1; have h2 : c = _ := h2; omega) | (exfalso; have h1 : _ ∧ _ := h1; have h2 : c = _ := h2; omega) | (exfalso; have h1 : c = _ := h1; have h2 : _ ∧ _ := h2; omega)
mutual
theorem sh_uniq : ∀ (d e : PyData), cdB d → cdB e → ∀ (s t : List Nat), AfR s → AfR t → tl (PyData.shown d) ++ s = tl (PyData.shown e) ++ t → d = e ∧ s = t
  | .none, e, h, k, s, t, hs, ht, q => by
    obtain ⟨c, r, q1, h1⟩ := sh_head h s
    obtain ⟨c', r', q2, h2⟩ := sh_head k t
    have qc : c = c' := by rw [q1, q2] at q; injection q
    subst qc
    obtain ⟨_, ⟨_, z⟩ | ⟨_, _, z, _⟩ | ⟨_, _, z, _⟩ | ⟨_, _, z, _⟩ | ⟨_, _, z, _⟩ | ⟨_, z⟩⟩ := hd_diff h1 h2
    · subst z
      rw [tl_non] at q
      exact ⟨rfl, List.append_cancel_left q⟩
    all_goals first | cases z | exact z.elim
  | .bool _, _, h, _, _, _, _, _, _ => h.elim
  | .dict _, _, h, _, _, _, _, _, _ => h.elim
  | .int i, e, h, k, s, t, hs, ht, q => by
    obtain ⟨c, r, q1, h1⟩ := sh_head (d := .int i) h s
    obtain ⟨c', r', q2, h2⟩ := sh_head k t
    have qc : c = c' := by rw [q1, q2] at q; injection q
    subst qc
    obtain ⟨_, ⟨z, _⟩ | ⟨_, j, _, z⟩ | ⟨_, _, z, _⟩ | ⟨_, _, z, _⟩ | ⟨_, _, z, _⟩ | ⟨_, z⟩⟩ := hd_diff h1 h2
    · cases z
    · subst z
      rw [tl_int h, tl_int k] at q
      obtain ⟨a, b⟩ := span_uniq (num_dg _) (num_dg _) hs.dg ht.dg q
      have := numL_inj a
      have h : 0 ≤ i := h
      have k : 0 ≤ j := k
      exact ⟨by congr 1; omega, b⟩
    all_goals first | cases z | exact z.elim
  | .str x, e, h, k, s, t, hs, ht, q => by
    obtain ⟨c, r, q1, h1⟩ := sh_head (d := .str x) h s
    obtain ⟨c', r', q2, h2⟩ := sh_head k t
    have qc : c = c' := by rw [q1, q2] at q; injection q
    subst qc
    obtain ⟨_, ⟨z, _⟩ | ⟨_, _, z, _⟩ | ⟨_, y, _, z⟩ | ⟨_, _, z, _⟩ | ⟨_, _, z, _⟩ | ⟨_, z⟩⟩ := hd_diff h1 h2
    · cases z
    · cases z
    · subst z
      have q : tl (reprText x) ++ s = tl (reprText y) ++ t := q
      rw [repr_nm h, repr_nm k] at q
      injection q with _ q
      have q : (tl x ++ [39]) ++ s = (tl y ++ [39]) ++ t := q
      rw [List.append_assoc, List.append_assoc] at q
      obtain ⟨a, b⟩ := nm_uniq h k (stop_cons (by decide)) (stop_cons (by decide)) q
      injection b with _ b
      exact ⟨by rw [a], b⟩
    all_goals first | cases z | exact z.elim
  | .list xs, e, h, k, s, t, hs, ht, q => by
    obtain ⟨c, r, q1, h1⟩ := sh_head (d := .list xs) h s
    obtain ⟨c', r', q2, h2⟩ := sh_head k t
    have qc : c = c' := by rw [q1, q2] at q; injection q
    subst qc
    obtain ⟨_, ⟨z, _⟩ | ⟨_, _, z, _⟩ | ⟨_, _, z, _⟩ | ⟨_, ys, _, z⟩ | ⟨_, _, z, _⟩ | ⟨_, z⟩⟩ := hd_diff h1 h2
    · cases z
    · cases z
    · cases z
    · subst z
      rw [tl_lst, tl_lst] at q
      injection q with _ q
      obtain ⟨a, b⟩ := shs_uniq xs ys h k _ _ ⟨_, .inr (.inl rfl)⟩ ⟨_, .inr (.inl rfl)⟩ q
      injection b with _ b
      exact ⟨by rw [a], b⟩
    all_goals first | cases z | exact z.elim
  | .tuple xs, e, h, k, s, t, hs, ht, q => by
    obtain ⟨c, r, q1, h1⟩ := sh_head (d := .tuple xs) h s
    obtain ⟨c', r', q2, h2⟩ := sh_head k t
    have qc : c = c' := by rw [q1, q2] at q; injection q
    subst qc
    obtain ⟨_, ⟨z, _⟩ | ⟨_, _, z, _⟩ | ⟨_, _, z, _⟩ | ⟨_, _, z, _⟩ | ⟨_, ys, _, z⟩ | ⟨_, z⟩⟩ := hd_diff h1 h2
    · cases z
    · cases z
    · cases z
    · cases z
    · subst z
      rw [tl_tup, tl_tup] at q
      injection q with _ q
      obtain ⟨a, b⟩ := shs_uniq xs ys h k _ _ (tup_cls xs s) (tup_cls ys t) q
      rw [a] at b
      exact ⟨by rw [a], List.append_cancel_left b⟩
    · exact z.elim
theorem shs_uniq : ∀ (xs ys : List PyData), cdAll xs → cdAll ys → ∀ (u v : List Nat), Cls u → Cls v → jl xs ++ u = jl ys ++ v → xs = ys ∧ u = v
  | [], [], _, _, u, v, _, _, q => ⟨rfl, q⟩
  | [], y :: ys, _, k, u, v, hu, hv, q => by
    rw [jl_cons] at q
    obtain ⟨c, r, q2, h2⟩ := sh_head k.1 (tlR ys v)
    rw [q2] at q
    exact absurd q (hu.no h2)
  | x :: xs, [], h, _, u, v, hu, hv, q => by
    rw [jl_cons] at q
    obtain ⟨c, r, q2, h2⟩ := sh_head h.1 (tlR xs u)
    rw [q2] at q
    exact absurd q.symm (hv.no h2)
  | x :: xs, y :: ys, h, k, u, v, hu, hv, q => by
    rw [jl_cons, jl_cons] at q
    obtain ⟨a, b⟩ := sh_uniq x y h.1 k.1 _ _ (tlR_afr hu) (tlR_afr hv) q
    cases xs with
    | nil =>
      cases ys with
      | nil => exact ⟨by rw [a], b⟩
      | cons y2 r =>
        exfalso
        have b : u = 44 :: 32 :: (jl (y2 :: r) ++ v) := b
        obtain ⟨w, z | z | z⟩ := hu <;> (rw [z] at b; cases b)
    | cons x2 r =>
      cases ys with
      | nil =>
        exfalso
        have b : 44 :: 32 :: (jl (x2 :: r) ++ u) = v := b
        obtain ⟨w, z | z | z⟩ := hv <;> (rw [z] at b; cases b)
      | cons y2 r2 =>
        have b : 44 :: 32 :: (jl (x2 :: r) ++ u) = 44 :: 32 :: (jl (y2 :: r2) ++ v) := b
        injection b with _ b
        injection b with _ b
        obtain ⟨a2, b2⟩ := shs_uniq (x2 :: r) (y2 :: r2) h.2 k.2 u v hu hv b
        exact ⟨by rw [a, a2], b2⟩
end
theorem shown_inj {d e : PyData} (h : cdB d) (k : cdB e) (q : d.shown = e.shown) : d = e := (sh_uniq d e h k [] [] (.inl rfl) (.inl rfl) (by rw [q])).1
theorem cd_td {td : Option Sh} (h : ∀ s, td = some s → ShOk s) : cdB (tdD td) := by
  cases td with
  | none => exact True.intro
  | some s =>
    obtain ⟨a, b, c, d⟩ := sh_pos (h s rfl)
    exact ⟨⟨a, Int.le_of_lt b, True.intro⟩, ⟨c, Int.le_of_lt d, True.intro⟩, True.intro⟩
theorem cd_fo : ∀ {f : Fo}, Gd f → cdAll (foD f)
  | .nil, _ => True.intro
  | .cons nm td i r, g => by
    refine ⟨⟨g.1, cd_td g.2.1, ?_, True.intro⟩, cd_fo g.2.2.2⟩
    cases i.isNil with
    | true => exact True.intro
    | false => exact cd_fo g.2.2.1
theorem cd_ws : ∀ {ws : List Str}, (∀ y ∈ ws, NmOk y) → cdAll (ws.map PyData.str)
  | [], _ => True.intro
  | w :: r, h => ⟨h w (.head _), cd_ws fun y hy => h y (.tail _ hy)⟩
theorem td_inj : ∀ {td td' : Option Sh}, tdD td = tdD td' → td = td'
  | none, none, _ => rfl
  | none, some s, e => by cases e
  | some s, none, e => by cases e
  | some ⟨a, b, c, d⟩, some ⟨a', b', c', d'⟩, e => by
    have e : PyData.tuple [.tuple [.int a, .int b], .tuple [.int c, .int d]] = .tuple [.tuple [.int a', .int b'], .tuple [.int c', .int d']] := e
    injection e with e
    injection e with e1 e2
    injection e2 with e2 _
    injection e1 with e1
    injection e2 with e2
    injection e1 with x1 e1
    injection e1 with x2 _
    injection e2 with x3 e2
    injection e2 with x4 _
    injection x1 with x1
    injection x2 with x2
    injection x3 with x3
    injection x4 with x4
    rw [x1, x2, x3, x4]
theorem fo_inj : ∀ {f g : Fo}, foD f = foD g → f = g
  | .nil, .nil, _ => rfl
  | .nil, .cons _ _ _ _, e => by cases e
  | .cons _ _ _ _, .nil, e => by cases e
  | .cons nm td i r, .cons nm' td' i' r', e => by
    have e : PyData.tuple [.str nm, tdD td, wrapD i.isNil (foD i)] :: foD r = PyData.tuple [.str nm', tdD td', wrapD i'.isNil (foD i')] :: foD r' := e
    injection e with e1 e2
    injection e1 with e1
    injection e1 with x1 e1
    injection e1 with x2 e1
    injection e1 with x3 _
    injection x1 with x1
    have hi : i = i' := by
      cases i with
      | nil =>
        cases i' with
        | nil => rfl
        | cons _ _ _ _ => cases x3
      | cons a b c d =>
        cases i' with
        | nil => cases x3
        | cons a' b' c' d' =>
          have x3 : PyData.tuple (foD (.cons a b c d)) = .tuple (foD (.cons a' b' c' d')) := x3
          injection x3 with x3
          exact fo_inj x3
    rw [x1, td_inj x2, hi, fo_inj e2]
theorem ws_inj : ∀ {ws vs : List Str}, ws.map PyData.str = vs.map PyData.str → ws = vs
  | [], [], _ => rfl
  | [], _ :: _, e => by cases e
  | _ :: _, [], e => by cases e
  | w :: ws, v :: vs, e => by
    injection e with e1 e2
    injection e1 with e1
    rw [e1, ws_inj e2]
mutual
theorem eqv_eq : ∀ (d e : PyData), cdB d → cdB e → PyData.eqv d e = true → d = e
  | .none, e, _, k, q => by cases e <;> first | rfl | cases q
  | .bool _, _, h, _, _ => h.elim
  | .dict _, _, h, _, _ => h.elim
  | .int i, e, _, k, q => by
    cases e with
    | int j => exact congrArg PyData.int (eq_of_beq q)
    | bool b => exact k.elim
    | _ => cases q
  | .str i, e, _, k, q => by
    cases e with
    | str j => exact congrArg PyData.str (eq_of_beq q)
    | _ => cases q
  | .list xs, e, h, k, q => by
    cases e with
    | list ys => exact congrArg PyData.list (eqvs_eq xs ys h k q)
    | _ => cases q
  | .tuple xs, e, h, k, q => by
    cases e with
    | tuple ys => exact congrArg PyData.tuple (eqvs_eq xs ys h k q)
    | _ => cases q
theorem eqvs_eq : ∀ (xs ys : List PyData), cdAll xs → cdAll ys → PyData.eqvAll xs ys = true → xs = ys
  | [], [], _, _, _ => rfl
  | [], _ :: _, _, _, q => by cases q
  | _ :: _, [], _, _, q => by cases q
  | x :: xs, y :: ys, h, k, q => by
    have q : (PyData.eqv x y && PyData.eqvAll xs ys) = true := q
    rw [Bool.and_eq_true] at q
    rw [eqv_eq x y h.1 k.1 q.1, eqvs_eq xs ys h.2 k.2 q.2]
end
end L3
set_option Elab.async false
set_option linter.all false
set_option maxRecDepth 100000
set_option maxHeartbeats 1000000
namespace L3
open PySem PySem.Spec PyProof.Rows L2
/-- a label's rows, with their depth -/
def gaB (ks : List Key) : Nat → Fo → List (List Key × Nat × It3)
  | _, .nil => []
  | n, .cons nm td i r => (ks ++ [iK n], ks.length, (nm, td, i)) :: (gaB (ks ++ [iK n]) 0 i ++ gaB ks (n + 1) r)
theorem gaF_B : ∀ (ks : List Key) (n : Nat) (f : Fo), gaF ks n f = (gaB ks n f).map fun b => (b.1, plt b.2.2)
  | _, _, .nil => rfl
  | ks, n, .cons nm td i r => by
    show (ks ++ [iK n], plt (nm, td, i)) :: (gaF (ks ++ [iK n]) 0 i ++ gaF ks (n + 1) r) = _
    rw [gaF_B (ks ++ [iK n]) 0 i, gaF_B ks (n + 1) r, ← List.map_append]
    rfl
theorem gaB_len : ∀ {ks : List Key} {n : Nat} {f : Fo} {b : List Key × Nat × It3}, b ∈ gaB ks n f → b.1.length = b.2.1 + 1 ∧ b.2.1 + 1 + b.2.2.2.2.depth ≤ ks.length + f.depth
  | _, _, .nil, _, h => by cases h
  | ks, n, .cons nm td i r, b, h => by
    have hd : (Fo.cons nm td i r).depth = max (1 + i.depth) r.depth := rfl
    rcases List.mem_cons.mp h with rfl | h
    · refine ⟨by rw [List.length_append]; rfl, ?_⟩
      show ks.length + 1 + i.depth ≤ _
      omega
    · rcases List.mem_append.mp h with h | h
      · have := gaB_len h
        rw [List.length_append] at this
        have e : [iK n].length = 1 := rfl
        omega
      · have := gaB_len h
        omega
theorem gaB_good : ∀ {ks : List Key} {n : Nat} {f : Fo} {b : List Key × Nat × It3}, Gd f → b ∈ gaB ks n f → GdI b.2.2
  | _, _, .nil, _, _, h => by cases h
  | ks, n, .cons nm td i r, b, g, h => by
    rcases List.mem_cons.mp h with rfl | h
    · exact ⟨g.1, g.2.1, g.2.2.1⟩
    · rcases List.mem_append.mp h with h | h
      · exact gaB_good g.2.2.1 h
      · exact gaB_good g.2.2.2 h
def gaD : Nat → Fo → List (Nat × It3)
  | _, .nil => []
  | k, .cons nm td i r => (k, (nm, td, i)) :: (gaD (k + 1) i ++ gaD k r)
theorem gaD_B : ∀ (ks : List Key) (n : Nat) (f : Fo), gaD ks.length f = (gaB ks n f).map (·.2)
  | _, _, .nil => rfl
  | ks, n, .cons nm td i r => by
    show (ks.length, (nm, td, i)) :: (gaD (ks.length + 1) i ++ gaD ks.length r) = _
    have e : ks.length + 1 = (ks ++ [iK n]).length := by rw [List.length_append]; rfl
    rw [e, gaD_B (ks ++ [iK n]) 0 i, gaD_B ks (n + 1) r, ← List.map_append]
    rfl
def roI (x : Nat × It3) : Str := blT x.1 ++ (x.2.1 ++ tdT x.2.2.1)
def rwT (fo : Fo) (ws : List Str) : List Str := (gaD 0 fo).map roI ++ (if ws.length = 0 then [] else [Str.ofString "may hold " ++ Txt.join ", " ws])
theorem roI_len {x : Nat × It3} (h : GdI x.2) (hk : x.1 ≤ 4) : (roI x).length ≤ 110 := by
  have h1 := tdT_len h.2.1
  have h2 := (NmOk.len h.1).2
  unfold roI
  rw [app_len, app_len, blT_len]
  omega
theorem gaB_cnt : ∀ (ks : List Key) (n : Nat) (f : Fo), (gaB ks n f).length = f.cnt := fun ks n f => by
  have := gaF_len ks n f
  rw [gaF_B, List.length_map] at this
  exact this
theorem pk_bnd {fo : Fo} (gf : GoodF fo) {b : List Key × Nat × It3} (h : b ∈ gaB [] 0 fo) : b.1.length = b.2.1 + 1 ∧ b.2.1 ≤ 3 ∧ GdI b.2.2 := by
  have h1 := gaB_len h
  have h2 := gf.dp
  have e : ([] : List Key).length = 0 := rfl
  exact ⟨h1.1, by omega, gaB_good gf.gd h⟩
theorem kt_keys {M : Mh} (ks : List Key) : KT M (.tup (ks.map keyT)) := .tup fun x hx => by
  obtain ⟨k, _, rfl⟩ := List.mem_map.mp hx
  cases k with
  | inl i => exact .int i
  | inr z => exact .str z
theorem pathsT_B (fo : Fo) : pathsT fo = (gaB [] 0 fo).map fun b => T.tup (b.1.map keyT) := by
  rw [pathsT_eq, gaF_B, List.map_map]
  rfl
theorem atP_B {fo : Fo} {b : List Key × Nat × It3} (h : b ∈ gaB [] 0 fo) : atP fo (.tup (b.1.map keyT)) = some (plt b.2.2) := atP_pk (x := (b.1, plt b.2.2)) (by
  rw [gaF_B]
  exact List.mem_map.mpr ⟨b, h, rfl⟩)
def lnT (fo : Fo) (ws : List Str) : Str := Txt.join (Str.ofString "") ((rwT fo ws).map (· ++ Str.ofString "\n"))
theorem rwT_len {fo : Fo} {ws : List Str} (gf : GoodF fo) (nw : ∀ y ∈ ws, NmOk y) (lw : ws.length ≤ 60) : (∀ y ∈ rwT fo ws, y.length ≤ 10009) ∧ (rwT fo ws).length ≤ 13 := by
  have gl := gaB_cnt [] 0 fo
  have ct := gf.ct
  have e : gaD 0 fo = (gaB [] 0 fo).map (·.2) := gaD_B [] 0 fo
  constructor
  · intro y hy
    unfold rwT at hy
    rcases List.mem_append.mp hy with hy | hy
    · obtain ⟨x, hx, rfl⟩ := List.mem_map.mp hy
      rw [e] at hx
      obtain ⟨b, hb, rfl⟩ := List.mem_map.mp hx
      obtain ⟨_, b2, b3⟩ := pk_bnd gf hb
      have := roI_len b3 (show b.2.1 ≤ 4 by omega)
      omega
    · split at hy
      · cases hy
      · rw [List.mem_singleton.mp hy, app_len, may_len]
        have := ws_join (ws := ws) ⟨fun y hy => (NmOk.len (nw y hy)).2, by omega⟩
        omega
  · unfold rwT
    rw [List.length_append, List.length_map, e, List.length_map, gl]
    split
    · show fo.cnt + 0 ≤ 13
      omega
    · show fo.cnt + 1 ≤ 13
      omega
theorem sum_le {B : Nat} : ∀ {l : List Str}, (∀ y ∈ l, y.length ≤ B) → (l.map (·.length)).sum ≤ B * l.length
  | [], _ => by simp
  | x :: r, h => by
    have h1 := sum_le (l := r) fun y hy => h y (.tail _ hy)
    have h2 := h x (.head _)
    rw [List.map_cons, List.sum_cons, List.length_cons, Nat.mul_succ]
    omega

section
open TL
/-! ### lines are read in one way only -/
theorem lines_split : ∀ {xs ys : List (List Nat)}, (∀ x ∈ xs, 10 ∉ x) → (∀ y ∈ ys, 10 ∉ y) → (xs.map (· ++ [10])).flatten = (ys.map (· ++ [10])).flatten → xs = ys
  | [], [], _, _, _ => rfl
  | [], y :: ys, _, _, e => by
    have e : [] = (y ++ [10]) ++ _ := e
    have := congrArg List.length e
    rw [List.length_append, List.length_append] at this
    have : 0 = _ + 1 + _ := this
    omega
  | y :: ys, [], _, _, e => by
    have e : (y ++ [10]) ++ _ = [] := e
    have := congrArg List.length e
    rw [List.length_append, List.length_append] at this
    have : _ + 1 + _ = 0 := this
    omega
  | x :: xs, y :: ys, h, k, e => by
    have e : (x ++ [10]) ++ (xs.map (· ++ [10])).flatten = (y ++ [10]) ++ (ys.map (· ++ [10])).flatten := e
    rw [List.append_assoc, List.append_assoc] at e
    obtain ⟨a, b⟩ := span_uniq (p := fun c => c != 10) (fun c hc => by
      have : c ≠ 10 := fun z => h x (.head _) (z ▸ hc)
      simpa using this) (fun c hc => by
      have : c ≠ 10 := fun z => k y (.head _) (z ▸ hc)
      simpa using this) (stop_cons (by decide)) (stop_cons (by decide)) e
    injection b with _ b
    rw [a, lines_split (fun x hx => h x (.tail _ hx)) (fun x hx => k x (.tail _ hx)) b]
theorem tl_bl (k : Nat) : tl (blT k) = List.replicate (2 * k) 32 := by
  show (blT k).cps.toList = _
  unfold blT
  simp
abbrev Ke := Nat × Str × Option Sh
def keI (x : Nat × It3) : Ke := (x.1, x.2.1, x.2.2.1)
theorem nm_head {z : Str} (h : NmOk z) (s : List Nat) : ∃ c r, tl z ++ s = c :: r ∧ okC c = true := by
  have h1 := (NmOk.len h).1
  rw [len_tl] at h1
  cases e : tl z with
  | nil => rw [e] at h1; cases h1
  | cons c r => exact ⟨c, _, rfl, nm_ok h c (by rw [e]; exact .head _)⟩
theorem bl_stop {z : Str} (h : NmOk z) (s : List Nat) : Stop (fun c => c == 32) (tl z ++ s) := fun c hc => by
  obtain ⟨d, r, e, ok⟩ := nm_head h s
  rw [e] at hc
  have hc : d = c := Option.some.inj hc
  subst hc
  cases z' : d == 32 with
  | false => exact z'
  | true =>
    rw [eq_of_beq z'] at ok
    cases ok
theorem roI_uniq {x y : Nat × It3} (h : GdI x.2) (k : GdI y.2) (e : tl (roI x) = tl (roI y)) : keI x = keI y := by
  unfold roI at e
  rw [tl_append, tl_append, tl_append, tl_append, tl_bl, tl_bl] at e
  obtain ⟨a, b⟩ := span_uniq (p := fun c => c == 32) (fun c hc => by rw [List.eq_of_mem_replicate hc]; rfl) (fun c hc => by rw [List.eq_of_mem_replicate hc]; rfl) (bl_stop h.1 _) (bl_stop k.1 _) e
  have a := congrArg List.length a
  rw [List.length_replicate, List.length_replicate] at a
  have b : tl x.2.1 ++ (tl (tdT x.2.2.1) ++ []) = tl y.2.1 ++ (tl (tdT y.2.2.1) ++ []) := by rw [List.append_nil, List.append_nil]; exact b
  obtain ⟨b1, b2, _⟩ := en_uniq h.1 k.1 h.2.1 k.2.1 (.inl rfl) (.inl rfl) b
  unfold keI
  rw [show x.1 = y.1 by omega, b1, b2]
def woT (ws : List Str) : Str := Str.ofString "may hold " ++ Txt.join ", " ws
theorem tl_wo (ws : List Str) : tl (woT ws) = [109, 97, 121, 32, 104, 111, 108, 100, 32] ++ joinL [44, 32] (ws.map tl) := by
  unfold woT
  rw [tl_append, join_eq, tl_join]
  have e1 : tl (Str.ofString "may hold ") = [109, 97, 121, 32, 104, 111, 108, 100, 32] := by decide +kernel
  show tl (Str.ofString "may hold ") ++ joinL (tl (Str.ofString ", ")) _ = _
  rw [e1, tl_c]
theorem nm_may : NmOk (Str.ofString "may") := by unfold NmOk; decide +kernel
theorem ro_wo {x : Nat × It3} {ws : List Str} (h : GdI x.2) : tl (roI x) ≠ tl (woT ws) := fun e => by
  rw [tl_wo] at e
  unfold roI at e
  rw [tl_append, tl_append, tl_bl] at e
  have em : tl (Str.ofString "may") = [109, 97, 121] := by decide +kernel
  obtain ⟨a, b⟩ := span_uniq (p := fun c => c == 32) (x := List.replicate (2 * x.1) 32) (y := []) (fun c hc => by rw [List.eq_of_mem_replicate hc]; rfl) (fun c hc => by cases hc) (bl_stop h.1 _) (stop_cons (by decide)) e
  have b : tl x.2.1 ++ (tl (tdT x.2.2.1) ++ []) = tl (Str.ofString "may") ++ (32 :: 104 :: ([111, 108, 100, 32] ++ joinL [44, 32] (ws.map tl))) := by
    rw [List.append_nil, em]
    exact b
  obtain ⟨_, b2⟩ := nm_uniq h.1 nm_may (tdT_stop (.inl rfl)) (stop_cons (by decide)) b
  cases htd : x.2.2.1 with
  | none =>
    rw [htd] at b2
    have e1 : tl (tdT none) = [] := tl_e
    rw [e1] at b2
    cases b2
  | some s =>
    rw [htd] at b2
    have e2 : tl (tdT (some s)) = 32 :: tl (stT s) := by
      show tl (Str.ofString " " ++ stT s) = _
      rw [tl_append, tl_b]
      rfl
    rw [e2] at b2
    injection b2 with _ b2
    have : ∃ c r, tl (stT s) ++ [] = c :: r ∧ 48 ≤ c ∧ c ≤ 57 := by
      unfold stT
      split
      · exact fT_head (sh_pos (h.2.1 s htd)).1 _
      · rw [tl_append, tl_append, List.append_assoc, List.append_assoc]
        exact fT_head (sh_pos (h.2.1 s htd)).1 _
    obtain ⟨c, r, e3, c1, c2⟩ := this
    have b2 : tl (stT s) ++ [] = 104 :: ([111, 108, 100, 32] ++ joinL [44, 32] (ws.map tl)) := b2
    rw [e3] at b2
    injection b2 with b2 _
    omega
def woL (ws : List Str) : List Str := if ws.length = 0 then [] else [woT ws]
theorem woL_uniq {ws vs : List Str} (hw : ∀ y ∈ ws, NmOk y) (hv : ∀ y ∈ vs, NmOk y) (e : (woL ws).map tl = (woL vs).map tl) : ws = vs := by
  unfold woL at e
  by_cases z : ws.length = 0
  · rw [if_pos z] at e
    by_cases z' : vs.length = 0
    · rw [List.length_eq_zero_iff.mp z, List.length_eq_zero_iff.mp z']
    · rw [if_neg z'] at e
      cases e
  · rw [if_neg z] at e
    by_cases z' : vs.length = 0
    · rw [if_pos z'] at e
      cases e
    · rw [if_neg z'] at e
      injection e with e _
      rw [tl_wo, tl_wo] at e
      exact jn_uniq hw hv (List.append_cancel_left e)
theorem rw_uniq : ∀ {l m : List (Nat × It3)} {ws vs : List Str}, (∀ x ∈ l, GdI x.2) → (∀ x ∈ m, GdI x.2) → (l.map roI).map tl ++ (woL ws).map tl = (m.map roI).map tl ++ (woL vs).map tl → l.map keI = m.map keI ∧ (woL ws).map tl = (woL vs).map tl
  | [], [], _, _, _, _, e => ⟨rfl, e⟩
  | [], y :: m, ws, vs, _, k, e => by
    exfalso
    have e : (woL ws).map tl = tl (roI y) :: _ := e
    unfold woL at e
    split at e
    · cases e
    · injection e with e _
      exact ro_wo (k y (.head _)) e.symm
  | y :: m, [], ws, vs, k, _, e => by
    exfalso
    have e : (woL vs).map tl = tl (roI y) :: ((m.map roI).map tl ++ (woL ws).map tl) := e.symm
    generalize (m.map roI).map tl ++ (woL ws).map tl = q at e
    unfold woL at e
    split at e
    · cases e
    · injection e with e _
      exact ro_wo (k y (.head _)) e.symm
  | x :: l, y :: m, ws, vs, h, k, e => by
    injection e with e1 e2
    obtain ⟨a, b⟩ := rw_uniq (fun x hx => h x (.tail _ hx)) (fun x hx => k x (.tail _ hx)) e2
    refine ⟨?_, b⟩
    rw [List.map_cons, List.map_cons, roI_uniq (h x (.head _)) (k y (.head _)) e1, a]
/-- entries by their depth -/
def gk : Nat → Fo → List Ke
  | _, .nil => []
  | k, .cons nm td i r => (k, nm, td) :: (gk (k + 1) i ++ gk k r)
theorem gk_D : ∀ (k : Nat) (f : Fo), (gaD k f).map keI = gk k f
  | _, .nil => rfl
  | k, .cons nm td i r => by
    show keI (k, (nm, td, i)) :: (gaD (k + 1) i ++ gaD k r).map keI = _
    rw [List.map_append, gk_D (k + 1) i, gk_D k r]
    rfl
def Low (k : Nat) (s : List Ke) : Prop := ∀ x, s.head? = some x → x.1 < k
theorem gk_low (k : Nat) {s : List Ke} (f : Fo) (h : Low k s) : Low (k + 1) (gk k f ++ s) := fun x hx => by
  cases f with
  | nil =>
    have := h x hx
    omega
  | cons nm td i r =>
    have hx : (k, nm, td) = x := Option.some.inj hx
    rw [← hx]
    show k < k + 1
    omega
theorem gk_uniq : ∀ {f g : Fo} {k : Nat} {s t : List Ke}, Low k s → Low k t → gk k f ++ s = gk k g ++ t → f = g ∧ s = t
  | .nil, .nil, _, _, _, _, _, e => ⟨rfl, e⟩
  | .nil, .cons nm td i r, k, s, t, hs, _, e => by
    have e : s = (k, nm, td) :: _ := e
    have := hs (k, nm, td) (by rw [e]; rfl)
    exact absurd this (Nat.lt_irrefl k)
  | .cons nm td i r, .nil, k, s, t, _, ht, e => by
    have e : (k, nm, td) :: _ = t := e
    have := ht (k, nm, td) (by rw [← e]; rfl)
    exact absurd this (Nat.lt_irrefl k)
  | .cons nm td i r, .cons nm' td' i' r', k, s, t, hs, ht, e => by
    have e : (k, nm, td) :: ((gk (k + 1) i ++ gk k r) ++ s) = (k, nm', td') :: ((gk (k + 1) i' ++ gk k r') ++ t) := e
    injection e with e1 e2
    injection e1 with _ e1
    injection e1 with e3 e4
    rw [List.append_assoc, List.append_assoc] at e2
    obtain ⟨a, b⟩ := gk_uniq (f := i) (g := i') (gk_low k r hs) (gk_low k r' ht) e2
    obtain ⟨c, d⟩ := gk_uniq (f := r) (g := r') hs ht b
    exact ⟨by rw [e3, e4, a, c], d⟩
theorem rwT_wo (fo : Fo) (ws : List Str) : rwT fo ws = (gaD 0 fo).map roI ++ woL ws := rfl
theorem tl_ln (fo : Fo) (ws : List Str) : tl (lnT fo ws) = (((rwT fo ws).map tl).map (· ++ [10])).flatten := by
  unfold lnT
  rw [join_eq, tl_join]
  have e1 : tl (Str.ofString "\n") = [10] := by decide +kernel
  rw [tl_e, joinL_flat, List.map_map, List.map_map]
  congr 1
  refine List.map_congr_left fun y _ => ?_
  show tl (y ++ Str.ofString "\n") = _
  rw [tl_append, e1]
  rfl
theorem gaD_good {f : Fo} (g : Gd f) : ∀ x ∈ gaD 0 f, GdI x.2 := fun x hx => by
  rw [show gaD 0 f = (gaB [] 0 f).map (·.2) from gaD_B [] 0 f] at hx
  obtain ⟨b, hb, rfl⟩ := List.mem_map.mp hx
  exact gaB_good g hb
theorem no10_fr {i j : Int} (h : 0 ≤ i) : 10 ∉ tl (fT i j) := fun z => by
  have := fT_fr h 10 z
  cases this
theorem no10_td {td : Option Sh} (h : ∀ s, td = some s → ShOk s) : 10 ∉ tl (tdT td) := by
  cases td with
  | none =>
    have e1 : tl (tdT none) = [] := tl_e
    rw [e1]
    exact List.not_mem_nil
  | some s =>
    obtain ⟨p1, p2, p3, p4⟩ := sh_pos (h s rfl)
    show 10 ∉ tl (Str.ofString " " ++ stT s)
    rw [tl_append, tl_b]
    unfold stT
    split
    · intro z
      rcases List.mem_append.mp z with z | z
      · simp at z
      · exact no10_fr p1 z
    · rw [tl_append, tl_append, tl_to]
      intro z
      rcases List.mem_append.mp z with z | z
      · simp at z
      · rcases List.mem_append.mp z with z | z
        · rcases List.mem_append.mp z with z | z
          · exact no10_fr p1 z
          · simp at z
        · exact no10_fr p3 z
theorem no10_nm {z : Str} (h : NmOk z) : 10 ∉ tl z := fun m => by
  have := nm_ok h 10 m
  cases this
theorem no10_rw {fo : Fo} {ws : List Str} (g : Gd fo) (hw : ∀ y ∈ ws, NmOk y) : ∀ x ∈ (rwT fo ws).map tl, 10 ∉ x := fun x hx => by
  obtain ⟨y, hy, rfl⟩ := List.mem_map.mp hx
  rw [rwT_wo] at hy
  rcases List.mem_append.mp hy with hy | hy
  · obtain ⟨a, ha, rfl⟩ := List.mem_map.mp hy
    have ga := gaD_good g a ha
    unfold roI
    rw [tl_append, tl_append, tl_bl]
    intro z
    rcases List.mem_append.mp z with z | z
    · have := List.eq_of_mem_replicate z
      cases this
    · rcases List.mem_append.mp z with z | z
      · exact no10_nm ga.1 z
      · exact no10_td ga.2.1 z
  · unfold woL at hy
    split at hy
    · cases hy
    · rw [List.mem_singleton.mp hy, tl_wo]
      intro z
      rcases List.mem_append.mp z with z | z
      · simp at z
      · rcases joinL_mem z with z | ⟨p, hp, z⟩
        · simp at z
        · obtain ⟨w, hw', rfl⟩ := List.mem_map.mp hp
          exact no10_nm (hw w hw') z
theorem ln_uniq {f g : Fo} {ws vs : List Str} (gf : Gd f) (gg : Gd g) (hw : ∀ y ∈ ws, NmOk y) (hv : ∀ y ∈ vs, NmOk y) (e : lnT f ws = lnT g vs) : f = g ∧ ws = vs := by
  have e : tl (lnT f ws) = tl (lnT g vs) := congrArg tl e
  rw [tl_ln, tl_ln] at e
  have e2 := lines_split (no10_rw gf hw) (no10_rw gg hv) e
  rw [rwT_wo, rwT_wo, List.map_append, List.map_append] at e2
  obtain ⟨a, b⟩ := rw_uniq (gaD_good gf) (gaD_good gg) e2
  rw [gk_D, gk_D] at a
  have a : gk 0 f ++ [] = gk 0 g ++ [] := by rw [List.append_nil, List.append_nil]; exact a
  exact ⟨(gk_uniq (fun x h => by cases h) (fun x h => by cases h) a).1, woL_uniq hw hv b⟩
end
end L3
set_option Elab.async false
set_option linter.all false
set_option maxRecDepth 100000
set_option maxHeartbeats 1000000
namespace L3
open PySem PySem.Spec PyProof.Rows L2
/-! ### a thing is of one form only -/
mutual
theorem Dt.uniq {M : Mh} : ∀ {t : T} {d e : PyData}, Dt M t d → Dt M t e → d = e
  | _, _, _, .non, .non => rfl
  | _, _, _, .bl _, .bl _ => rfl
  | _, _, _, .int _, .int _ => rfl
  | _, _, _, .str _, .str _ => rfl
  | _, _, _, .lst e ds, .lst e' ds' => by
    rw [e] at e'
    have e' := MO.lst.inj (Option.some.inj e')
    subst e'
    rw [Dts.uniq ds ds']
  | _, _, _, .tup ds, .tup ds' => by rw [Dts.uniq ds ds']
theorem Dts.uniq {M : Mh} : ∀ {ts : List T} {ds es : List PyData}, Dts M ts ds → Dts M ts es → ds = es
  | _, _, _, .nil, .nil => rfl
  | _, _, _, .cons d ds, .cons e es => by rw [Dt.uniq d e, Dts.uniq ds es]
end
theorem Sws.mono {M : Mh} {ts : List T} {ds : List PyData} {k n k' n' : Nat} (h : Sws M ts ds k n) (hk : k ≤ k') (hn : n ≤ n') : Sws M ts ds k' n' := ⟨h.dt, h.sh, h.nd, Nat.le_trans h.dp hk, Nat.le_trans h.len hn, h.ln⟩
theorem sw_of {M : Mh} {t : T} {d : PyData} {k n : Nat} (h : Sx M k n t) (q : Dt M t d) : Sw M t d k n := by
  obtain ⟨e, h⟩ := h
  have := h.dt.uniq q
  subst this
  exact h
theorem sws_fo {M : Mh} : ∀ {f : Fo}, Gd f → f.cnt ≤ 400 → Sws M f.ts (foD f) (3 + 2 * f.depth) (14000 * f.cnt)
  | .nil, _, _ => sws_nil.mono (Nat.le_refl _) (Nat.zero_le _)
  | .cons nm td i r, g, hc => by
    have e1 : (Fo.cons nm td i r).cnt = 1 + i.cnt + r.cnt := rfl
    have e2 : (Fo.cons nm td i r).depth = max (1 + i.depth) r.depth := rfl
    have hi := sws_fo (M := M) (f := i) g.2.2.1 (by omega)
    have hr := sws_fo (M := M) (f := r) g.2.2.2 (by omega)
    have li := Fo.len_cnt i
    have w3 : Sw M i.inn (wrapD i.isNil (foD i)) (4 + 2 * i.depth) (2000 + 14000 * i.cnt + 2 * i.cnt + 3) := by
      cases i with
      | nil => exact sw_non.mono (Nat.zero_le _) (by omega)
      | cons a b c d =>
        have := sw_tup hi
        rw [Fo.ts_len] at this
        exact this.mono (by omega) (by omega)
    have w1 : Sw M (.str nm) (.str nm) (4 + 2 * i.depth) 2000 := sw_of (sx_nm g.1) (.str nm)
    have w2 : Sw M (tdt td) (tdD td) (4 + 2 * i.depth) 9000 := sw_of (Sx.mono (sx_td (k := 0) g.2.1) (by omega) (Nat.le_refl _)) (dt_td td)
    have w := sw_tup (sws_cons w1 (sws_cons w2 (sws_cons w3 sws_nil)))
    exact (sws_cons (w.mono (show _ ≤ 3 + 2 * (Fo.cons nm td i r).depth by omega) (Nat.le_refl _)) (hr.mono (by omega) (Nat.le_refl _))).mono (Nat.le_refl _) (by
      show 2000 + (9000 + (2000 + 14000 * i.cnt + 2 * i.cnt + 3 + 0)) + 2 * 3 + 3 + 14000 * r.cnt ≤ 14000 * (1 + i.cnt + r.cnt)
      omega)
theorem sws_ws {M : Mh} {ws : List Str} (h : ∀ y ∈ ws, NmOk y) : Sws M (ws.map T.str) (ws.map PyData.str) 0 (ws.length * 2000) := by
  obtain ⟨ds, q⟩ := sws_words (M := M) h
  have := q.dt.uniq (dts_ws ws)
  subst this
  rw [List.length_map] at q
  exact q
/-- the repr of a label's list and words -/
def puD (f : Fo) (ws : List Str) : PyData := .tuple [.tuple (foD f), .list (ws.map PyData.str)]
theorem shw_pu {M : Mh} {f : Fo} {ws : List Str} {p : Addr} (g : GoodF f) (hw : ∀ y ∈ ws, NmOk y) (hl : ws.length ≤ 60) (e : M p = some (.lst (ws.map T.str))) : Shw M (.tup [.tup f.ts, .ref p]) (puD f ws).shown := by
  have ct := g.ct
  have dp := g.dp
  have lc := Fo.len_cnt f
  have a := sw_tup (sws_fo (M := M) g.gd (by omega))
  have b := sw_lst (sws_ws hw) e
  rw [Fo.ts_len] at a
  rw [List.length_map] at b
  have c := sw_tup (sws_cons (a.mono (k' := 20) (n' := 200000) (by omega) (by omega)) (sws_cons (b.mono (k' := 20) (n' := 200000) (by omega) (by omega)) sws_nil))
  exact c.shw (by decide) (by show 200000 + (200000 + 0) + 2 * 2 + 3 ≤ 1000000; decide)
theorem pu_inj {f g : Fo} {ws vs : List Str} (gf : Gd f) (gg : Gd g) (hw : ∀ y ∈ ws, NmOk y) (hv : ∀ y ∈ vs, NmOk y) (e : (puD f ws).shown = (puD g vs).shown) : f = g ∧ ws = vs := by
  have := shown_inj (d := puD f ws) (e := puD g vs) ⟨cd_fo gf, cd_ws hw, True.intro⟩ ⟨cd_fo gg, cd_ws hv, True.intro⟩ e
  unfold puD at this
  injection this with e
  injection e with e1 e2
  injection e2 with e2 _
  injection e1 with e1
  injection e2 with e2
  exact ⟨fo_inj e1, ws_inj e2⟩
end L3
set_option Elab.async false
set_option linter.all false
set_option maxRecDepth 100000
set_option maxHeartbeats 1000000
namespace L3
open PySem PySem.Spec PyProof.Rows L2 TL
/-! ### texts, read -/
theorem starts_tl (x y : Str) : Txt.startswith x y = ((tl x).take (tl y).length == tl y) := by
  unfold Txt.startswith
  rw [StrLaws.subAt_eq, List.drop_zero, len_tl, len_tl]
  show (decide (0 + (tl y).length ≤ (tl x).length) && ((tl x).take (tl y).length == tl y)) = _
  cases q : ((tl x).take (tl y).length == tl y) with
  | false => rw [Bool.and_false]
  | true =>
    have := congrArg List.length (eq_of_beq q)
    rw [List.length_take] at this
    rw [decide_eq_true (by omega)]
    rfl
theorem starts_hit {x y : Str} {r : List Nat} (e : tl x = tl y ++ r) : Txt.startswith x y = true := by
  rw [starts_tl, e, List.take_left]
  exact beq_self_eq_true _
theorem starts_miss {x y : Str} (h : ∀ r, tl x ≠ tl y ++ r) : Txt.startswith x y = false := by
  rw [starts_tl]
  cases q : ((tl x).take (tl y).length == tl y) with
  | false => rfl
  | true =>
    have e := eq_of_beq q
    exact absurd ((List.take_append_drop (tl y).length (tl x)).symm.trans (by rw [e])) (h _)
theorem rp_miss {x y : Str} (h : Txt.startswith x y = false) : Txt.removeprefix x y = x := by
  rw [StrLaws.removeprefix_eq, if_neg]
  unfold Txt.startswith at h
  rw [h]
  exact Bool.false_ne_true
theorem rp_hit {x y z : Str} (e : x = y ++ z) : Txt.removeprefix x y = z := by
  have h : Txt.startswith x y = true := starts_hit (r := tl z) (by rw [e, tl_append])
  rw [StrLaws.removeprefix_eq, if_pos (by unfold Txt.startswith at h; exact h)]
  refine tl_inj ?_
  show ((x.cps.toList.drop y.length).take (x.length - y.length)).toArray.toList = tl z
  have e1 : x.cps.toList = tl y ++ tl z := by
    show tl x = _
    rw [e, tl_append]
  rw [e1, len_tl y, List.drop_left, List.toList_toArray]
  refine List.take_of_length_le ?_
  rw [len_tl x, e, tl_append, List.length_append]
  omega
theorem strip_bl {k : Nat} {z : Str} (h : ∃ c r, tl z = c :: r ∧ c ≠ 32) : Txt.lstripChars (blT k ++ z) (Str.ofString " ") = z := by
  obtain ⟨c, r, e, hc⟩ := h
  unfold Txt.lstripChars
  rw [W.stripBy_eq]
  unfold W.stripped
  dsimp only
  rw [if_pos rfl, if_neg (by decide)]
  refine tl_inj ?_
  show tl (Builtin.Str.strSub _ _ _) = tl z
  have e1 : (blT k ++ z).cps.toList = List.replicate (2 * k) 32 ++ tl z := by
    show tl (blT k ++ z) = _
    rw [tl_append, tl_bl]
  have g : (Str.ofString " ").cps.contains = fun c => c == 32 := by
    funext c
    have e : (Str.ofString " ").cps = #[32] := by decide +kernel
    rw [e]
    cases q : c == 32 with
    | true => rw [eq_of_beq q]; decide +kernel
    | false =>
      rw [Array.contains_eq_mem, decide_eq_false_iff_not]
      intro hm
      have : c = 32 := by simpa using hm
      rw [this] at q
      cases q
  have tw : (List.replicate (2 * k) 32 ++ tl z).takeWhile (fun c => c == 32) = List.replicate (2 * k) 32 := by
    rw [List.takeWhile_append_of_pos (fun c hc => by rw [List.eq_of_mem_replicate hc]; rfl), e, List.takeWhile_cons]
    rw [if_neg (by simpa using hc), List.append_nil]
  rw [tl_strSub, e1, g, tw, List.length_replicate]
  have e2 : tl (blT k ++ z) = List.replicate (2 * k) 32 ++ tl z := e1
  rw [e2, List.drop_left' (List.length_replicate), len_tl, e2, List.length_append, List.length_replicate]
  refine List.take_of_length_le ?_
  omega
theorem sg0_le (c : Nat) : (!decide ((⟨#[c]⟩ : Str).cps.toList < (Str.ofString "0").cps.toList)) = decide (48 ≤ c) := by
  have e : (Str.ofString "0").cps.toList = [48] := by decide +kernel
  rw [e]
  show (!decide (([c] : List Nat) < [48])) = _
  by_cases h : 48 ≤ c
  · rw [decide_eq_true h, decide_eq_false (fun z => by have := (lt_one _ _).mp z; omega)]
    rfl
  · rw [decide_eq_false h, decide_eq_true ((lt_one _ _).mpr (by omega))]
    rfl
theorem sg9_ge (c : Nat) : (!decide ((Str.ofString "9").cps.toList < (⟨#[c]⟩ : Str).cps.toList)) = decide (c ≤ 57) := by
  have e : (Str.ofString "9").cps.toList = [57] := by decide +kernel
  rw [e]
  show (!decide (([57] : List Nat) < [c])) = _
  by_cases h : c ≤ 57
  · rw [decide_eq_true h, decide_eq_false (fun z => by have := (lt_one _ _).mp z; omega)]
    rfl
  · rw [decide_eq_false h, decide_eq_true ((lt_one _ _).mpr (by omega))]
    rfl
theorem int_0 (n : Nat) (h : n < bigN) : PySem.intText? (Str.ofString "0" ++ Tn n) = some (n : Int) := by
  have e0 : tl (Str.ofString "0") = [48] := by decide +kernel
  have e : (Str.ofString "0" ++ Tn n).cps.toList = 48 :: numL n := by
    show tl _ = _
    rw [tl_append, tl_Tn, e0]
    rfl
  have l := Tn_len h
  have l0 : (Str.ofString "0").length = 1 := by decide +kernel
  have := intText_digits (x := Str.ofString "0" ++ Tn n) (fun c hc => by
    rw [e] at hc
    rcases List.mem_cons.mp hc with rfl | hc
    · decide
    · exact numL_digits n c hc) (by rw [e]; simp) (by rw [app_len, l0]; omega)
  rw [this, e]
  have h1 : ∀ l : List Nat, NumText.digitsVal (48 :: l) = NumText.digitsVal l := fun l => rfl
  rw [h1, numL_val]
theorem cutS_all {z : Str} {n : Nat} (h : z.length = n) : cutS z none (some (n : Int)) = z := by
  unfold cutS
  refine tl_inj ?_
  show (List.toArray _).toList = _
  rw [List.toList_toArray, HT.sIx_none, HT.sIx_nat, List.drop_zero, h, Nat.min_self, Nat.sub_zero]
  refine List.take_of_length_le ?_
  rw [← h, len_tl]
  exact Nat.le_refl _
theorem tl_slash : tl (Str.ofString "/") = 47 :: [] := by decide +kernel
theorem fT_part {i j : Int} (h : 0 ≤ i) : Txt.partition (fT i j) (Str.ofString "/") = if j = 1 then (Tn i.natAbs, Str.ofString "", Str.ofString "") else (Tn i.natAbs, Str.ofString "/", Tn j.natAbs) := by
  have hf : fT i j = Tn i.natAbs ++ bw j := by
    unfold fT sg
    rw [if_neg (by omega)]
    congr 1
    exact empty_app _
  have no : 47 ∉ tl (Tn i.natAbs) := by
    rw [tl_Tn]
    exact numL_free (.inl (by decide))
  rw [hf]
  unfold bw
  by_cases e : j = 1
  · rw [if_pos e, if_pos e, show (Tn i.natAbs ++ ("" : Str)) = Tn i.natAbs from app_nil _, TL.partition_none tl_slash no]
    rfl
  · rw [if_neg e, if_neg e, show (Tn i.natAbs ++ ("/" ++ Tn j.natAbs : Str)) = (Tn i.natAbs ++ Str.ofString "/") ++ Tn j.natAbs from (app_assoc _ _ _).symm, TL.partition_app tl_slash no]
theorem tl_to2 : tl (Str.ofString " to ") = 32 :: [116, 111, 32] := tl_to
theorem no32_fT {i j : Int} (h : 0 ≤ i) : 32 ∉ tl (fT i j) := fun z => by
  have := fT_fr h 32 z
  cases this
theorem stT_part {s : Sh} (h : ShOk s) : Txt.partition (stT s) (Str.ofString " to ") = if s.a = s.c ∧ s.b = s.d then (fT s.a s.b, Str.ofString "", Str.ofString "") else (fT s.a s.b, Str.ofString " to ", fT s.c s.d) := by
  have p := sh_pos h
  unfold stT
  by_cases e : s.a = s.c ∧ s.b = s.d
  · rw [if_pos e, if_pos e, TL.partition_none tl_to2 (no32_fT p.1)]
    rfl
  · rw [if_neg e, if_neg e, TL.partition_app tl_to2 (no32_fT p.1)]
theorem tl_b2 : tl (Str.ofString " ") = 32 :: [] := tl_b
theorem no32_nm {z : Str} (h : NmOk z) : 32 ∉ tl z := fun m => by
  have := nm_ok h 32 m
  cases this
theorem en_part {nm : Str} {td : Option Sh} (h : NmOk nm) : Txt.partition (nm ++ tdT td) (Str.ofString " ") = match td with | none => (nm, Str.ofString "", Str.ofString "") | some s => (nm, Str.ofString " ", stT s) := by
  cases td with
  | none =>
    show Txt.partition (nm ++ Str.ofString "") _ = _
    rw [app_nil, TL.partition_none tl_b2 (no32_nm h)]
    rfl
  | some s =>
    show Txt.partition (nm ++ (Str.ofString " " ++ stT s)) _ = _
    rw [← app_assoc, TL.partition_app tl_b2 (no32_nm h)]
theorem fT_minus {i j : Int} (h : 0 ≤ i) : Txt.startswith (fT i j) (Str.ofString "-") = false := starts_miss fun r e => by
  have e1 : tl (Str.ofString "-") = [45] := by decide +kernel
  obtain ⟨c, r', e2, c1, c2⟩ := fT_head (j := j) h []
  rw [List.append_nil] at e2
  rw [e1, e2] at e
  injection e with e _
  omega
/-! ### lines, split and read -/
theorem ln_split {fo : Fo} {ws : List Str} (g : Gd fo) (hw : ∀ y ∈ ws, NmOk y) : Txt.split (lnT fo ws) (Str.ofString "\n") = rwT fo ws ++ [Str.ofString ""] := by
  have en : tl (Str.ofString "\n") = 10 :: [] := by decide +kernel
  have e : lnT fo ws = Txt.join (Str.ofString "\n") (rwT fo ws ++ [Str.ofString ""]) := by
    refine tl_inj ?_
    show tl _ = tl _
    rw [tl_ln, join_eq, tl_join, en]
    have : ∀ l : List (List Nat), (l.map (· ++ [10])).flatten = joinL [10] (l ++ [[]]) := by
      intro l
      induction l with
      | nil => rfl
      | cons x r ih =>
        rw [List.map_cons, List.flatten_cons, ih]
        cases r with
        | nil =>
          show (x ++ [10]) ++ [] = x ++ ([10] ++ [])
          rw [List.append_assoc]
        | cons y q =>
          show (x ++ [10]) ++ joinL [10] (y :: q ++ [[]]) = x ++ ([10] ++ joinL [10] (y :: q ++ [[]]))
          rw [List.append_assoc]
    rw [this, List.map_append]
    rw [show List.map tl [Str.ofString ""] = [[]] by rw [List.map_cons, tl_e]; rfl]
  rw [e, TL.split_join en (by decide +kernel) (by simp) fun p hp => ?_]
  rcases List.mem_append.mp hp with hp | hp
  · exact no10_rw g hw _ (List.mem_map.mpr ⟨p, hp, rfl⟩)
  · rw [List.mem_singleton.mp hp, tl_e]
    exact List.not_mem_nil
theorem wo_split {ws : List Str} (ne : ws ≠ []) (hw : ∀ y ∈ ws, NmOk y) : Txt.split (Txt.join (Str.ofString ", ") ws) (Str.ofString ", ") = ws := by
  have ec : tl (Str.ofString ", ") = 44 :: [32] := tl_c
  refine TL.split_join ec (by decide +kernel) ne fun p hp z => ?_
  have := nm_ok (hw p hp) 44 z
  cases this
theorem en_head {nm : Str} {td : Option Sh} (h : NmOk nm) : ∃ c r, tl (nm ++ tdT td) = c :: r ∧ c ≠ 32 := by
  obtain ⟨c, r, e, ok⟩ := nm_head h (tl (tdT td))
  refine ⟨c, r, by rw [tl_append]; exact e, fun z => ?_⟩
  rw [z] at ok
  cases ok
def roK (x : Ke) : Str := blT x.1 ++ (x.2.1 ++ tdT x.2.2)
theorem roI_K (l : List (Nat × It3)) : l.map roI = (l.map keI).map roK := by
  rw [List.map_map]
  rfl
theorem rwT_K (f : Fo) (ws : List Str) : rwT f ws = (gk 0 f).map roK ++ woL ws := by
  rw [rwT_wo, roI_K, gk_D]
/-- entries as they are read -/
def keT (x : Ke) : T := .tup [.int ((2 * x.1 : Nat) : Int), .str x.2.1, tdt x.2.2]
def KeOk (x : Ke) : Prop := NmOk x.2.1 ∧ (∀ s, x.2.2 = some s → ShOk s) ∧ x.1 ≤ 4
theorem ro_starts {x : Ke} (h : KeOk x) : Txt.startswith (roK x) (Str.ofString "may hold ") = false := starts_miss fun r e => by
  have e1 : tl (Str.ofString "may hold ") = [109, 97, 121, 32, 104, 111, 108, 100, 32] := by decide +kernel
  unfold roK at e
  rw [tl_append, tl_append, tl_bl, e1] at e
  have em : tl (Str.ofString "may") = [109, 97, 121] := by decide +kernel
  obtain ⟨a, b⟩ := span_uniq (p := fun c => c == 32) (x := List.replicate (2 * x.1) 32) (y := []) (fun c hc => by rw [List.eq_of_mem_replicate hc]; rfl) (fun c hc => by cases hc) (bl_stop h.1 _) (stop_cons (by decide)) e
  have b : tl x.2.1 ++ (tl (tdT x.2.2) ++ []) = tl (Str.ofString "may") ++ (32 :: 104 :: ([111, 108, 100, 32] ++ r)) := by
    rw [List.append_nil, em]
    exact b
  obtain ⟨_, b2⟩ := nm_uniq h.1 nm_may (tdT_stop (.inl rfl)) (stop_cons (by decide)) b
  cases htd : x.2.2 with
  | none =>
    rw [htd] at b2
    have e1 : tl (tdT none) = [] := tl_e
    rw [e1] at b2
    cases b2
  | some s =>
    rw [htd] at b2
    have e2 : tl (tdT (some s)) = 32 :: tl (stT s) := by
      show tl (Str.ofString " " ++ stT s) = _
      rw [tl_append, tl_b]
      rfl
    rw [e2] at b2
    injection b2 with _ b2
    have : ∃ c r, tl (stT s) ++ [] = c :: r ∧ 48 ≤ c ∧ c ≤ 57 := by
      unfold stT
      split
      · exact fT_head (sh_pos (h.2.1 s htd)).1 _
      · rw [tl_append, tl_append, List.append_assoc, List.append_assoc]
        exact fT_head (sh_pos (h.2.1 s htd)).1 _
    obtain ⟨c, r', e3, c1, c2⟩ := this
    have b2 : tl (stT s) ++ [] = 104 :: ([111, 108, 100, 32] ++ r) := b2
    rw [e3] at b2
    injection b2 with b2 _
    omega
theorem wo_starts (ws : List Str) : Txt.startswith (woT ws) (Str.ofString "may hold ") = true := starts_hit (r := tl (Txt.join ", " ws)) (by unfold woT; rw [tl_append])
/-! ### lists of entries and forests -/
def gkI (k : Nat) (t : It3) : List Ke := (k, t.1, t.2.1) :: gk (k + 1) t.2.2
theorem gk_items : ∀ (k : Nat) (f : Fo), gk k f = (f.items.map (gkI k)).flatten
  | _, .nil => rfl
  | k, .cons nm td i r => by
    show (k, nm, td) :: (gk (k + 1) i ++ gk k r) = ((k, nm, td) :: gk (k + 1) i) ++ (r.items.map (gkI k)).flatten
    rw [← gk_items k r]
    rfl
theorem gk_len : ∀ (k : Nat) (f : Fo), (gk k f).length = f.cnt
  | _, .nil => rfl
  | k, .cons nm td i r => by
    show (gk (k + 1) i ++ gk k r).length + 1 = 1 + i.cnt + r.cnt
    rw [List.length_append, gk_len (k + 1) i, gk_len k r]
    omega
theorem gk_ge : ∀ {k : Nat} {f : Fo} {x : Ke}, x ∈ gk k f → k ≤ x.1 ∧ x.1 + 1 ≤ k + f.depth
  | _, .nil, _, h => by cases h
  | k, .cons nm td i r, x, h => by
    have e2 : (Fo.cons nm td i r).depth = max (1 + i.depth) r.depth := rfl
    rcases List.mem_cons.mp h with rfl | h
    · exact ⟨Nat.le_refl _, by show k + 1 ≤ _; omega⟩
    · rcases List.mem_append.mp h with h | h
      · have := gk_ge h
        omega
      · have := gk_ge h
        omega
theorem gk_ok : ∀ {k : Nat} {f : Fo} {x : Ke}, Gd f → x ∈ gk k f → NmOk x.2.1 ∧ ∀ s, x.2.2 = some s → ShOk s
  | _, .nil, _, _, h => by cases h
  | k, .cons nm td i r, x, g, h => by
    rcases List.mem_cons.mp h with rfl | h
    · exact ⟨g.1, g.2.1⟩
    · rcases List.mem_append.mp h with h | h
      · exact gk_ok g.2.2.1 h
      · exact gk_ok g.2.2.2 h
theorem gk_keok {f : Fo} (g : GoodF f) : ∀ x ∈ gk 0 f, KeOk x := fun x hx => by
  obtain ⟨a, b⟩ := gk_ok g.gd hx
  have := (gk_ge hx).2
  have := g.dp
  exact ⟨a, b, by omega⟩
/-- the first n entries, as a forest -/
def trn : Nat → Fo → Fo
  | 0, _ => .nil
  | _ + 1, .nil => .nil
  | n + 1, .cons nm td i r => .cons nm td (trn n i) (trn (n - i.cnt) r)
theorem trn_nil (n : Nat) : trn n .nil = .nil := by cases n <;> rfl
theorem gk_trn : ∀ (n k : Nat) (f : Fo), gk k (trn n f) = (gk k f).take n
  | 0, _, f => by
    cases f <;> rfl
  | n + 1, k, .nil => by rw [trn_nil]; rfl
  | n + 1, k, .cons nm td i r => by
    show (k, nm, td) :: (gk (k + 1) (trn n i) ++ gk k (trn (n - i.cnt) r)) = (k, nm, td) :: (gk (k + 1) i ++ gk k r).take n
    rw [gk_trn n (k + 1) i, gk_trn (n - i.cnt) k r, List.take_append, gk_len]
theorem trn_gd : ∀ {n : Nat} {f : Fo}, Gd f → Gd (trn n f)
  | 0, f, _ => by cases f <;> exact True.intro
  | n + 1, .nil, _ => by rw [trn_nil]; exact True.intro
  | n + 1, .cons nm td i r, g => ⟨g.1, g.2.1, trn_gd g.2.2.1, trn_gd g.2.2.2⟩
theorem trn_dp : ∀ (n : Nat) (f : Fo), (trn n f).depth ≤ f.depth
  | 0, f => by cases f <;> exact Nat.zero_le _
  | n + 1, .nil => by rw [trn_nil]; exact Nat.le_refl _
  | n + 1, .cons nm td i r => by
    have h1 := trn_dp n i
    have h2 := trn_dp (n - i.cnt) r
    show max (1 + (trn n i).depth) (trn (n - i.cnt) r).depth ≤ max (1 + i.depth) r.depth
    omega
theorem trn_ns : ∀ {n : Nat} {f : Fo} {ar ah : List Str}, Ns ar ah f → Ns ar ah (trn n f)
  | 0, f, _, _, _ => by cases f <;> exact True.intro
  | n + 1, .nil, _, _, _ => by rw [trn_nil]; exact True.intro
  | n + 1, .cons nm td i r, ar, ah, h => ⟨h.1, h.2.1, trn_ns h.2.2.1, trn_ns h.2.2.2⟩
theorem trn_ct (n : Nat) (f : Fo) : (trn n f).cnt = min n f.cnt := by
  rw [← gk_len 0, gk_trn, List.length_take, gk_len]
theorem trn_good {n : Nat} {f : Fo} (g : GoodF f) (h : 1 ≤ n) : GoodF (trn n f) := by
  have := trn_ct n f
  have := g.ct
  have h1 := trn_dp n f
  have h2 := g.dp
  refine ⟨trn_gd g.gd, fun z => ?_, by omega, by omega, trn_ns g.un⟩
  have h3 := (Fo.ne_of_len g.ne).1
  have h4 := Fo.len_cnt f
  have h5 : (trn n f).cnt = 0 := by rw [z]; rfl
  omega
theorem trn_all {n : Nat} {f : Fo} (h : f.cnt ≤ n) : trn n f = f := by
  have e : gk 0 (trn n f) ++ [] = gk 0 f ++ [] := by
    rw [gk_trn, List.take_of_length_le (by rw [gk_len]; exact h)]
  exact (gk_uniq (fun x h => by cases h) (fun x h => by cases h) e).1
theorem rw_take {f : Fo} {ws : List Str} {n : Nat} (h : n ≤ f.cnt) : (rwT f ws).take n = rwT (trn n f) [] := by
  rw [rwT_K, rwT_K, List.take_append_of_le_length (by rw [List.length_map, gk_len]; exact h), gk_trn, List.map_take]
  exact (List.append_nil _).symm
theorem rw_cnt (f : Fo) (ws : List Str) : (rwT f ws).length = f.cnt + (if ws.length = 0 then 0 else 1) := by
  rw [rwT_K, List.length_append, List.length_map, gk_len]
  unfold woL
  split <;> rfl
end L3
set_option Elab.async false
set_option linter.all false
set_option maxRecDepth 100000
set_option maxHeartbeats 1000000
namespace L3
open PySem PySem.Spec PyProof.Rows L2 TL
/-! ### rows, read -/
theorem cutS_at {z : Str} {P U : List Nat} (e : tl z = P ++ U) (k : Nat) : tl (cutS z (some ((P.length : Nat) : Int)) (some ((P.length + k : Nat) : Int))) = U.take k := by
  have hl : z.length = P.length + U.length := by rw [len_tl, e, List.length_append]
  unfold cutS
  show (List.toArray _).toList = _
  rw [List.toList_toArray, HT.sIx_nat, HT.sIx_nat, hl]
  show ((tl z).drop _).take _ = _
  rw [e, show min P.length (P.length + U.length) = P.length by omega, List.drop_left]
  by_cases h : k ≤ U.length
  · rw [Nat.min_eq_left (by omega), show P.length + k - P.length = k by omega]
  · rw [Nat.min_eq_right (by omega), show P.length + U.length - P.length = U.length by omega, List.take_of_length_le (Nat.le_refl _), List.take_of_length_le (by omega)]
theorem cutS_en {z x : Str} {P S : List Nat} (e : tl z = P ++ (tl x ++ S)) : cutS z (some ((P.length : Nat) : Int)) (some ((P.length + (tl x).length : Nat) : Int)) = x := by
  refine tl_inj ?_
  show tl _ = tl x
  rw [cutS_at e, List.take_left]
theorem suffix_b (x : Str) : Txt.removesuffix (x ++ Str.ofString " ") (Str.ofString " ") = x := by
  have l1 : (Str.ofString " ").length = 1 := by decide +kernel
  have hl : (x ++ Str.ofString " ").length = x.length + 1 := by rw [app_len, l1]
  rw [StrLaws.removesuffix_eq, if_pos]
  · refine tl_inj ?_
    show (List.toArray _).toList = _
    rw [List.toList_toArray, List.drop_zero, hl, l1, show x.length + 1 - 1 - 0 = x.length by omega]
    show (tl (x ++ Str.ofString " ")).take _ = tl x
    rw [tl_append, len_tl, List.take_left]
  · rw [hl, l1, decide_eq_true (by omega), StrLaws.subAt_eq, l1, show x.length + 1 - 1 = x.length by omega]
    show (true && (((tl (x ++ Str.ofString " ")).drop x.length).take 1 == tl (Str.ofString " "))) = true
    rw [tl_append, len_tl, List.drop_left, tl_b]
    rfl
def plain (c : Nat) : Prop := c ≠ 44 ∧ c ≠ 40 ∧ c ≠ 41 ∧ c ≠ 59
theorem plain_nm {z : Str} (h : NmOk z) : ∀ c ∈ tl z, plain c := fun c hc => by
  have := nm_ok h c hc
  unfold okC at this
  rw [Bool.and_eq_true] at this
  have := of_decide_eq_true this.1
  unfold plain
  omega
theorem plain_fT {i j : Int} (h : 0 ≤ i) : ∀ c ∈ tl (fT i j), plain c := fun c hc => by
  have := fT_fr h c hc
  unfold frC at this
  rw [Bool.and_eq_true] at this
  have h1 := of_decide_eq_true this.1
  have h2 := of_decide_eq_true this.2
  unfold plain
  omega
theorem plain_td {td : Option Sh} (h : ∀ s, td = some s → ShOk s) : ∀ c ∈ tl (tdT td), plain c := by
  cases td with
  | none =>
    have e1 : tl (tdT none) = [] := tl_e
    rw [e1]
    exact fun c hc => by cases hc
  | some s =>
    obtain ⟨p1, p2, p3, p4⟩ := sh_pos (h s rfl)
    intro c hc
    have e : tl (tdT (some s)) = 32 :: tl (stT s) := by
      show tl (Str.ofString " " ++ stT s) = _
      rw [tl_append, tl_b]
      rfl
    rw [e] at hc
    have lit : ∀ c, c = 32 ∨ c = 116 ∨ c = 111 → plain c := fun c hc => by unfold plain; omega
    rcases List.mem_cons.mp hc with rfl | hc
    · exact lit _ (.inl rfl)
    · unfold stT at hc
      split at hc
      · exact plain_fT p1 c hc
      · rw [tl_append, tl_append, tl_to] at hc
        rcases List.mem_append.mp hc with hc | hc
        · rcases List.mem_append.mp hc with hc | hc
          · exact plain_fT p1 c hc
          · simp only [List.mem_cons, List.not_mem_nil, or_false] at hc
            exact lit c (by omega)
        · exact plain_fT p3 c hc
theorem plain_en {nm : Str} {td : Option Sh} (hn : NmOk nm) (h : ∀ s, td = some s → ShOk s) : ∀ c ∈ tl (nm ++ tdT td), plain c := fun c hc => by
  rw [tl_append] at hc
  rcases List.mem_append.mp hc with hc | hc
  · exact plain_nm hn c hc
  · exact plain_td h c hc
theorem tl_pl (t : It3) : tl (plT t) = tl (t.1 ++ tdT t.2.1) ++ tl (inT t.2.2) := by
  unfold plT
  rw [tl_append]
/-- what follows places that were read -/
def LTx (B : List It3) (S : List Nat) : List Nat := if B.isEmpty = true then S else 44 :: 32 :: (tl (liT (Fo.of B)) ++ S)
theorem li_LT (t : It3) (B : List It3) (S : List Nat) : tl (liT (Fo.of (t :: B))) ++ S = tl (plT t) ++ LTx B S := by
  show tl (liT (.cons t.1 t.2.1 t.2.2 (Fo.of B))) ++ S = _
  rw [tl_li, tl_pl, tl_append, List.append_assoc, List.append_assoc]
  congr 3
  unfold LTx
  cases B with
  | nil => rfl
  | cons a r => rfl
/-- nothing, or a comma, or what closes -/
def AfP (S : List Nat) : Prop := S = [] ∨ ∃ c r, S = c :: r ∧ (c = 44 ∨ c = 41)
def AfC (S : List Nat) : Prop := S = [] ∨ ∃ r, S = 41 :: r
theorem LT_afp {B : List It3} {S : List Nat} (h : AfC S) : AfP (LTx B S) := by
  unfold LTx
  split
  · rcases h with rfl | ⟨r, rfl⟩
    · exact .inl rfl
    · exact .inr ⟨41, r, rfl, .inr rfl⟩
  · exact .inr ⟨44, _, rfl, .inl rfl⟩
theorem no59_li : ∀ {f : Fo}, Gd f → 59 ∉ tl (liT f)
  | .nil, _ => by
    have e : tl (liT .nil) = [] := by decide +kernel
    rw [e]
    exact List.not_mem_nil
  | .cons nm td i r, g => by
    have e := tl_li nm td i r []
    rw [List.append_nil] at e
    rw [e, tl_inT]
    intro h
    rcases List.mem_append.mp h with h | h
    · exact (plain_nm g.1 _ h).2.2.2 rfl
    · rcases List.mem_append.mp h with h | h
      · exact (plain_td g.2.1 _ h).2.2.2 rfl
      · have rest : 59 ∉ (if r.isNil = true then ([] : List Nat) else 44 :: 32 :: (tl (liT r) ++ [])) := by
          split
          · exact List.not_mem_nil
          · rw [List.append_nil]
            intro h
            rcases List.mem_cons.mp h with h | h
            · cases h
            · rcases List.mem_cons.mp h with h | h
              · cases h
              · exact no59_li g.2.2.2 h
        split at h
        · exact rest h
        · rcases List.mem_cons.mp h with h | h
          · cases h
          · rcases List.mem_cons.mp h with h | h
            · cases h
            · rcases List.mem_append.mp h with h | h
              · exact no59_li g.2.2.1 h
              · rcases List.mem_cons.mp h with h | h
                · cases h
                · exact rest h
theorem cnt_app (c : Nat) : ∀ l m : List Nat, cnt c (l ++ m) = cnt c l + cnt c m
  | [], m => by rw [List.nil_append, cnt_nil, Int.zero_add]
  | x :: l, m => by
    rw [List.cons_append, cnt_cons, cnt_cons, cnt_app c l m]
    omega
theorem cnt_none {c : Nat} : ∀ {l : List Nat}, c ∉ l → cnt c l = 0
  | [], _ => cnt_nil c
  | x :: l, h => by
    have hx : ¬ x = c := fun z => h (by rw [z]; exact .head _)
    rw [cnt_cons, if_neg hx, cnt_none fun z => h (.tail _ z)]
    rfl
theorem cnt_li : ∀ {f : Fo}, Gd f → cnt 40 (tl (liT f)) ≤ (f.cnt : Int) ∧ (f ≠ .nil → cnt 40 (tl (liT f)) < (f.cnt : Int))
  | .nil, _ => by
    have e : tl (liT .nil) = [] := by decide +kernel
    rw [e, cnt_nil]
    exact ⟨by decide, fun z => absurd rfl z⟩
  | .cons nm td i r, g => by
    have e := tl_li nm td i r []
    rw [List.append_nil] at e
    obtain ⟨i1, i2⟩ := cnt_li g.2.2.1
    obtain ⟨r1, r2⟩ := cnt_li g.2.2.2
    have ec : (Fo.cons nm td i r).cnt = 1 + i.cnt + r.cnt := rfl
    have n1 : cnt 40 (tl nm) = 0 := cnt_none fun h => (plain_nm g.1 _ h).2.1 rfl
    have n2 : cnt 40 (tl (tdT td)) = 0 := cnt_none fun h => (plain_td g.2.1 _ h).2.1 rfl
    have rest : cnt 40 (if r.isNil = true then ([] : List Nat) else 44 :: 32 :: (tl (liT r) ++ [])) ≤ (r.cnt : Int) := by
      split
      · rw [cnt_nil]
        omega
      · rw [List.append_nil, cnt_cons, cnt_cons, if_neg (by decide), if_neg (by decide)]
        omega
    have key : cnt 40 (tl (liT (.cons nm td i r))) < ((Fo.cons nm td i r).cnt : Int) := by
      rw [e, tl_inT, cnt_app, cnt_app, n1, n2]
      split
      · omega
      · rename_i z
        have := i2 (fun q => z (by rw [q]; rfl))
        rw [cnt_cons, cnt_cons, if_neg (by decide), if_pos rfl, cnt_app, cnt_cons, if_neg (by decide)]
        omega
    exact ⟨by omega, fun _ => key⟩
theorem cnt_ro {f : Fo} {ws : List Str} (g : GoodF f) (hw : ∀ y ∈ ws, NmOk y) : Txt.count (roT f ws) (Str.ofString "(") < 12 := by
  have e : Str.ofString "(" = ⟨#[40]⟩ := by decide +kernel
  rw [e, count_cnt]
  show cnt 40 (tl (roT f ws)) < 12
  have h := (cnt_li g.gd).2 g.ne
  have ct := g.ct
  unfold roT
  split
  · omega
  · rw [tl_append, tl_append, cnt_app, cnt_app]
    have e1 : cnt 40 (tl (Str.ofString "; may hold ")) = 0 := cnt_none (by decide +kernel)
    have e2 : cnt 40 (tl (Txt.join ", " ws)) = 0 := cnt_none fun z => by
      rw [join_eq, tl_join] at z
      rcases joinL_mem z with z | ⟨p, hp, z⟩
      · have z : 40 ∈ tl (Str.ofString ", ") := z
        rw [tl_c] at z
        simp at z
      · obtain ⟨w, hw', rfl⟩ := List.mem_map.mp hp
        exact (plain_nm (hw w hw') _ z).2.1 rfl
    rw [e1, e2]
    omega
theorem ro_part {f : Fo} {ws : List Str} (g : Gd f) : Txt.partition (roT f ws) (Str.ofString "; ") = if ws.length = 0 then (liT f, Str.ofString "", Str.ofString "") else (liT f, Str.ofString "; ", woT ws) := by
  have es : tl (Str.ofString "; ") = 59 :: [32] := by decide +kernel
  unfold roT
  by_cases e : ws.length = 0
  · rw [if_pos e, if_pos e, TL.partition_none es (no59_li g)]
    rfl
  · rw [if_neg e, if_neg e]
    have e9 : Str.ofString "; may hold " = Str.ofString "; " ++ Str.ofString "may hold " := by decide +kernel
    rw [e9, ← app_assoc, app_assoc, TL.partition_app es (no59_li g)]
    rfl
end L3
set_option Elab.async false
set_option linter.all false
set_option maxRecDepth 100000
set_option maxHeartbeats 1000000
namespace L3
open PySem PySem.Spec PyProof.Rows L2
local macro_rules | `(tactic| walk_at "w") => `(tactic| ((conv => whnf); try dsimp only))

open PySem PySem.Spec PyProof.Rows L2 TL
abbrev menu8 : List Str := [Str.ofString "rye", Str.ofString "corn", Str.ofString "nut", Str.ofString "a", Str.ofString "milk", Str.ofString "egg"]
theorem ok_menu8 : ∀ z ∈ menu8, NmOk z := by
  intro z hz
  simp only [List.mem_cons, List.not_mem_nil, or_false] at hz
  rcases hz with rfl | rfl | rfl | rfl | rfl | rfl <;> (unfold NmOk; decide +kernel)
def pre7 (z : Str) : Str := cutS z none (some 7)
theorem tl_pre7 (z : Str) : tl (pre7 z) = (tl z).take 7 := by
  have e := cutS_at (z := z) (P := []) (U := tl z) rfl 7
  unfold pre7
  unfold cutS at e ⊢
  rw [HT.sIx_none]
  exact e
def t7 (z : Str) (c : Nat) : Str := pre7 z ++ one c
theorem tl_t7 (z : Str) (c : Nat) : tl (t7 z c) = (tl z).take 7 ++ [c] := by
  unfold t7
  rw [tl_append, tl_pre7]
  rfl
theorem nm_t7 {z : Str} {c : Nat} (hz : NmOk z) (h : c ∈ abc) : NmOk (t7 z c) := by
  have hz' : (decide (1 ≤ z.length) && decide (z.length ≤ 8) && z.cps.toList.all okC) = true := hz
  rw [Bool.and_eq_true] at hz'
  refine nm_of ?_ ?_ fun x hx => ?_
  · rw [tl_t7, List.length_append]
    exact Nat.le_add_left _ _
  · rw [tl_t7, List.length_append, List.length_take]
    show min 7 _ + 1 ≤ 8
    omega
  · rw [tl_t7] at hx
    rcases List.mem_append.mp hx with hx | hx
    · exact List.all_eq_true.mp hz'.2 x (List.mem_of_mem_take hx)
    · rw [List.mem_singleton.mp hx]
      exact ok_abc h
theorem t7_inj {z : Str} {a b : Nat} (h : t7 z a = t7 z b) : a = b := by
  have h := congrArg tl h
  rw [tl_t7, tl_t7] at h
  have := List.append_cancel_left h
  cases this
  rfl
def tries (z : Str) : List Str := z :: abc.map (t7 z)
theorem tries_left {ts : List Str} {z : Str} (h : ts.length < 26) : ∃ y ∈ tries z, y ∉ ts := by
  refine Classical.byContradiction fun n => ?_
  have nd : (abc.map (t7 z)).Nodup := by
    have := abc_nodup
    rw [List.nodup_iff_pairwise_ne, List.pairwise_map] at this ⊢
    exact this.imp fun hab e => hab (congrArg one (t7_inj e))
  have := nodup_len (abc.map (t7 z)) ts nd fun x hx => Classical.byContradiction fun y => n ⟨x, .tail _ hx, y⟩
  rw [List.length_map, abc_len] at this
  omega
theorem nm_tries {z y : Str} (hz : NmOk z) (h : y ∈ tries z) : NmOk y := by
  rcases List.mem_cons.mp h with rfl | h
  · exact hz
  · obtain ⟨c, hc, rfl⟩ := List.mem_map.mp h
    exact nm_t7 hz hc
theorem tries_len (z : Str) : (tries z).length = 27 := by
  unfold tries
  rw [List.length_cons, List.length_map, abc_len]
def selS (ts ys : List Str) (n : Nat) : List Str := (ys.take n).filter fun y => decide (y ∉ ts)
theorem selS_succ {ts ys : List Str} {n : Nat} {y : Str} (h : ys[n]? = some y) : selS ts ys (n + 1) = selS ts ys n ++ (if y ∉ ts then [y] else []) := by
  unfold selS
  rw [List.take_add_one, h, List.filter_append]
  congr 1
  show List.filter _ [y] = _
  rw [List.filter_cons]
  by_cases e : y ∉ ts
  · rw [if_pos (decide_eq_true e), if_pos e]
    rfl
  · rw [if_neg (by rw [decide_eq_false e]; decide), if_neg e]
    rfl
theorem selS_len (ts ys : List Str) (n : Nat) : (selS ts ys n).length ≤ ys.length := by
  unfold selS
  refine Nat.le_trans (List.length_filter_le _ _) ?_
  rw [List.length_take]
  omega
section
variable {P : Program} {w : World} {K : Fg} {mg : Str → Option Value} {base : Heap}
/-! ### _law_word -/
abbrev s__law_word : Stmt := topS 106
abbrev nm__law_word : List Str := ["_law_pot_here", "_law_letters", "_law_many_here", "_law_k"]
theorem sc__law_word : FnScope nm__law_word ["_law_pot_here"] (defScope s__law_word) := ⟨rfl, rfl, rfl, by decide +kernel, rfl, by decide +kernel, by decide +kernel⟩
def sp__law_word : Sp3 := sp1 fun p M R _ => ∃ a : Addr, p = .ref a ∧ Pt M a ∧ ∀ M' z, Kp a M M' → Pt M' a → NmOk z → R (.str z) M'
theorem ok__law_word {C_Label : Addr} {C_NoPath : Addr} {f : Addr} {fd : FuncData} (F : Fun K "_law_word" "_law_word" s__law_word f fd) (g : Glb K mg C_Label C_NoPath) (c__law_take : Cl P w K mg base "_law_take" 1 ["_law_pot_here", "_law_many_here"] (sp__law_take)) : FnOk P w K mg base CX0 2 f fd ["_law_pot_here"] (lift (sp__law_word )) := by
  refine F.ok3 sc__law_word (fun ts M R E h => sp1_len h) (fun cdv A outer s H E ts M R E3 hr h0 => ?_)
  obtain ⟨pot_here', rfl, h⟩ := sp1_of h0
  refine ⟨_, (ls_cons (ls_set (i := 1) sc__law_word.nd rfl (by first | exact Or.inl rfl | exact Or.inr rfl) le_str) (ls_cons (ls_if (lt_c c_gt (le_call c__law_take (hr.mono (by decide)) (by rfl) (la_cons (lv 0) (la_cons le_int la_nil))) le_int) (ls_one (ls_ret (le_at (le_lst (la_cons le_str (la_cons le_str (la_cons le_str (la_cons le_str (la_cons le_str (la_cons le_str la_nil))))))) (le_call c__law_take (hr.mono (by decide)) (by rfl) (la_cons (lv 0) (la_cons le_int la_nil)))))) ls_nil) (ls_cons (ls_set (i := 2) sc__law_word.nd rfl (by first | exact Or.inl rfl | exact Or.inr rfl) (le_at (le_lst (la_cons le_int (la_cons le_int (la_cons le_int (la_cons le_int (la_cons le_int la_nil)))))) (le_call c__law_take (hr.mono (by decide)) (by rfl) (la_cons (lv 0) (la_cons le_int la_nil))))) (ls_one (ls_ret (le_join le_str (le_lc0 (own := [("_law_k", 3)]) rfl sc__law_word.nd (li_range1 (by rfl) g.m_range (la_cons (lv 2) la_nil)) (blkOk_by (own := [("_law_k", 3)]) (N := nm__law_word) (sc := defScope s__law_word) (by decide +kernel)) (sg_name 3) (only_name (by decide)) (fun _ _ _ _ _ => (pg_name (i := 3) sc__law_word.nd rfl (by first | exact Or.inl rfl | exact Or.inr rfl))) (fun _ _ _ _ _ => lts_nil) (fun _ _ _ _ _ => (le_at (lv 1) (le_call c__law_take (hr.mono (by decide)) (by rfl) (la_cons (lv 0) (la_cons le_int la_nil)))))))))))), ?_⟩
  obtain ⟨a, rfl, hp, h⟩ := h
  refine ⟨a, 3, rfl, rfl, hp, by decide, by decide, fun M1 d1 k1 p1 l1 u1 => ?_⟩
  walk_at "w"
  by_cases e1 : 0 < d1
  · rw [decide_eq_true e1]
    intro q2 nq2
    have t2 : Sub M1 (up M1 q2 (.lst [.str "rye", .str "corn", .str "nut", .str "a", .str "milk", .str "egg"])) := .new nq2
    have f2 : (up M1 q2 (.lst [.str "rye", .str "corn", .str "nut", .str "a", .str "milk", .str "egg"])) q2 = some (.lst [.str "rye", .str "corn", .str "nut", .str "a", .str "milk", .str "egg"]) := up_same
    have nqa2 : q2 ≠ a := (p1.ne nq2).symm
    generalize up M1 q2 (.lst [.str "rye", .str "corn", .str "nut", .str "a", .str "milk", .str "egg"]) = N2 at t2 f2 ⊢
    refine ⟨a, 6, rfl, rfl, p1.sub t2, by decide, by decide, fun M2 d2 kk2 p2 l2 u2 => ?_⟩
    have k2 : Kp a M1 M2 := (Kp.of t2).trans kk2
    obtain ⟨x2, hx2, ex2⟩ := at_mem (xs := ([.str "rye", .str "corn", .str "nut", .str "a", .str "milk", .str "egg"] : List T)) l2 u2
    walk_at "w"
    rw [kk2 _ _ nqa2 f2]
    walk_at "w"
    rw [ex2]
    obtain ⟨z, hz, rfl⟩ := List.mem_map.mp (show x2 ∈ menu8.map T.str from hx2)
    exact fin3.of (h M2 z (k1.trans k2) p2 (ok_menu8 z hz))
  · rw [decide_eq_false e1]
    intro q2 nq2
    have t2 : Sub M1 (up M1 q2 (.lst [.int 1, .int 1, .int 2, .int 4, .int 8])) := .new nq2
    have f2 : (up M1 q2 (.lst [.int 1, .int 1, .int 2, .int 4, .int 8])) q2 = some (.lst [.int 1, .int 1, .int 2, .int 4, .int 8]) := up_same
    have nqa2 : q2 ≠ a := (p1.ne nq2).symm
    generalize up M1 q2 (.lst [.int 1, .int 1, .int 2, .int 4, .int 8]) = N2 at t2 f2 ⊢
    refine ⟨a, 5, rfl, rfl, p1.sub t2, by decide, by decide, fun M2 d2 kk2 p2 l2 u2 => ?_⟩
    have k2 : Kp a M1 M2 := (Kp.of t2).trans kk2
    obtain ⟨x2, hx2, ex2⟩ := at_mem (xs := ([.int 1, .int 1, .int 2, .int 4, .int 8] : List T)) l2 u2
    walk_at "w"
    rw [kk2 _ _ nqa2 f2]
    walk_at "w"
    rw [ex2]
    obtain ⟨m, rfl, m0, m1⟩ : ∃ m : Int, x2 = .int m ∧ 1 ≤ m ∧ m ≤ 8 := by
      simp only [List.mem_cons, List.not_mem_nil, or_false] at hx2
      rcases hx2 with rfl | rfl | rfl | rfl | rfl <;> exact ⟨_, rfl, by decide, by decide⟩
    refine ⟨⟨by show -(2 ^ 62 : Int) ≤ m; omega, by show m < (2 ^ 62 : Int); omega⟩, fun D nD => ?_⟩
    have nDa : D ≠ a := fun z => p2.ne nD z.symm
    refine ⟨fun n M' => Kp a M2 M' ∧ Pt M' a ∧ ∃ cs : List Nat, cs.length = n ∧ (∀ c ∈ cs, c ∈ abc) ∧ M' D = some (.lst ((cs.map one).map T.str)), ⟨.of (.new nD), p2.sub (.new nD), [], rfl, (fun y hy => by cases hy), up_same⟩, fun _ _ _ => trivial, ?_, ?_⟩
    · rintro n x M4 hx ⟨k4, p4, cs, cl, ca, eD⟩
      have hn : n < 8 := by
        have := (List.getElem?_eq_some_iff.mp hx).1
        rw [rng_len] at this
        omega
      refine ⟨a, 26, rfl, rfl, p4, by decide, by decide, fun M5 d5 k5 p5 l5 u5 => ?_⟩
      obtain ⟨c, hcm, hc⟩ := at_mem (xs := abc) l5 (by rw [abc_len]; exact u5)
      refine ⟨lineM (by decide +kernel), ?_⟩
      walk_at "w"
      rw [show atI (Str.ofString "abcdefghijklmnopqrstuvwxyz").cps.toList d5 = some c from hc]
      have eD5 := k5 _ _ nDa eD
      walk_at "w"
      rw [eD5]
      refine ⟨?_, ?_, ?_, cs ++ [c], ?_, ?_, ?_⟩
      · rw [List.length_map, List.length_map, cl]
        exact Nat.lt_of_lt_of_le (show n < 11 by omega) (by decide)
      · exact fun b o nb e' => by
          rw [up_ne (ne_free e' nD)]
          exact k5 b o nb (k4 b o nb e')
      · exact p5.upn nDa
      · rw [List.length_append, cl]
        rfl
      · intro y hy
        rcases List.mem_append.mp hy with hy | hy
        · exact ca y hy
        · rw [List.mem_singleton.mp hy]
          exact hcm
      · rw [up_same, List.map_append, List.map_append]
        rfl
    · rintro M4 ⟨k4, p4, cs, cl, ca, eD⟩
      rw [rng_len] at cl
      have hcs : 1 ≤ cs.length ∧ cs.length ≤ 8 := by omega
      refine ⟨cs.map one, .inr ⟨D, rfl, eD⟩, ?_, ?_⟩
      · have : (Str.ofString "").length = 0 := by decide +kernel
        have l1 : ((cs.map one).map (·.length)).sum ≤ 8 * (cs.map one).length := ws_sum fun y hy => by
          obtain ⟨c, _, rfl⟩ := List.mem_map.mp hy
          show 1 ≤ 8
          decide
        rw [this]
        rw [List.length_map] at l1 ⊢
        omega
      · exact fin3.of (h M4 _ ((k1.trans k2).trans k4) p4 (nm_join hcs.1 hcs.2 ca))
/-! ### _law_name -/
abbrev s__law_name : Stmt := topS 107
abbrev nm__law_name : List Str := ["_law_pot_here", "_law_taken", "_law_word_here", "_law_tries", "_law_letter", "_law_name_here"]
theorem sc__law_name : FnScope nm__law_name ["_law_pot_here", "_law_taken"] (defScope s__law_name) := ⟨rfl, rfl, rfl, by decide +kernel, rfl, by decide +kernel, by decide +kernel⟩
def sp__law_name : Sp3 := sp2 fun p t M R _ => ∃ (a tk : Addr) (ts : List Str), p = .ref a ∧ t = .ref tk ∧ Pt M a ∧ a ≠ tk ∧ M tk = some (.lst (ts.map T.str)) ∧ ts.length < 26 ∧ ∀ M' z, Kp a M M' → Pt M' a → NmOk z → z ∉ ts → R (.str z) M'
theorem ok__law_name {C_Label : Addr} {C_NoPath : Addr} {f : Addr} {fd : FuncData} (F : Fun K "_law_name" "_law_name" s__law_name f fd) (g : Glb K mg C_Label C_NoPath) (c__law_word : Cl P w K mg base "_law_word" 2 ["_law_pot_here"] (sp__law_word)) : FnOk P w K mg base CX0 3 f fd ["_law_pot_here", "_law_taken"] (lift (sp__law_name )) := by
  refine F.ok3 sc__law_name (fun ts M R E h => sp2_len h) (fun cdv A outer s H E ts M R E3 hr h0 => ?_)
  obtain ⟨pot_here', taken', rfl, h⟩ := sp2_of h0
  refine ⟨_, (ls_cons (ls_set (i := 2) sc__law_name.nd rfl (by first | exact Or.inl rfl | exact Or.inr rfl) (le_call c__law_word (hr.mono (by decide)) (by rfl) (la_cons (lv 0) la_nil))) (ls_cons (ls_set (i := 3) sc__law_name.nd rfl (by first | exact Or.inl rfl | exact Or.inr rfl) (le_add (le_lst (la_cons (lv 2) la_nil)) (le_lc0 (own := [("_law_letter", 4)]) rfl sc__law_name.nd (li_str le_str) (blkOk_by (own := [("_law_letter", 4)]) (N := nm__law_name) (sc := defScope s__law_name) (by decide +kernel)) (sg_name 4) (only_name (by decide)) (fun _ _ _ _ _ => (pg_name (i := 4) sc__law_name.nd rfl (by first | exact Or.inl rfl | exact Or.inr rfl))) (fun _ _ _ _ _ => lts_nil) (fun _ _ _ _ _ => (le_add (le_slice (lv 2) lp_none (lp_some le_int)) (lv 4)))))) (ls_one (ls_ret (le_at (le_lc0 (own := [("_law_name_here", 5)]) rfl sc__law_name.nd (li_list (lv 3)) (blkOk_by (own := [("_law_name_here", 5)]) (N := nm__law_name) (sc := defScope s__law_name) (by decide +kernel)) (sg_name 5) (only_name (by decide)) (fun _ _ _ _ _ => (pg_name (i := 5) sc__law_name.nd rfl (by first | exact Or.inl rfl | exact Or.inr rfl))) (fun _ _ _ _ _ => (lts_one (lt_c c_notinS (lv 5) (lv 1)))) (fun _ _ _ _ _ => (lv 5))) le_int))))), ?_⟩
  obtain ⟨a, tk, ts, rfl, rfl, hp, npt, et, hl, h⟩ := h
  refine ⟨a, rfl, hp, fun M1 z k1 p1 nz => ?_⟩
  have et1 := k1 _ _ (fun y => npt y.symm) et
  intro q2 nq2
  have s2 : Sub M1 (up M1 q2 (.lst [.str z])) := .new nq2
  have e2 : (up M1 q2 (.lst [.str z])) q2 = some (.lst [.str z]) := up_same
  generalize up M1 q2 (.lst [.str z]) = M2 at s2 e2 ⊢
  intro D nD
  refine lc_mapA (g := fun c => T.str ⟨#[c]⟩) (f := fun c => T.str (t7 z c)) nD (fun _ => trivial) (by rw [abc_len]; decide) (fun c hc acc K q => ?_) ?_
  · refine ⟨lineM (by have := nz.len.2; omega), ?_⟩
    walk_at "w"
    refine ⟨?_, q⟩
    show (pre7 z).length + 1 ≤ sizeLine
    rw [len_tl, tl_pre7, List.length_take]
    exact lineM (by omega)
  · walk_at "w"
    have et' : ([T.str z] ++ List.map (fun c => T.str (t7 z c)) abc) = (tries z).map T.str := by
      unfold tries
      rw [List.map_cons, List.map_map]
      rfl
    have eD : (up M2 D (.lst (List.map (fun c => T.str (t7 z c)) abc))) D = some (.lst (List.map (fun c => T.str (t7 z c)) abc)) := up_same
    have s3 : Sub M2 (up M2 D (.lst (List.map (fun c => T.str (t7 z c)) abc))) := .new nD
    show (match (up M2 D (.lst (List.map (fun c => T.str (t7 z c)) abc))) q2, (up M2 D (.lst (List.map (fun c => T.str (t7 z c)) abc))) D with | some (.lst xs), some (.lst ys) => _ | _, _ => _)
    generalize up M2 D (.lst (List.map (fun c => T.str (t7 z c)) abc)) = M3 at s3 eD ⊢
    rw [s3 _ _ e2, eD]
    refine ⟨by rw [List.length_map, abc_len]; exact lineM (show 1 + 26 ≤ 1000000 by decide), ?_⟩
    rw [et']
    intro q4 nq4
    have s4 : Sub M3 (up M3 q4 (.lst ((tries z).map T.str))) := .new nq4
    have e4 : (up M3 q4 (.lst ((tries z).map T.str))) q4 = some (.lst ((tries z).map T.str)) := up_same
    generalize up M3 q4 (.lst ((tries z).map T.str)) = M4 at s4 e4 ⊢
    walk_at "w"
    rw [e4]
    have et4 := s4 _ _ (s3 _ _ (s2 _ _ et1))
    intro D5 nD5
    refine ⟨fun n M' => M' = up M4 D5 (.lst ((selS ts (tries z) n).map T.str)), rfl, fun n M' e => e ▸ (Sub.new nD5) _ _ e4, ?_, ?_⟩
    · rintro n x M' hx rfl
      rw [List.getElem?_map] at hx
      cases hy : (tries z)[n]? with
      | none => rw [hy] at hx; cases hx
      | some y =>
        rw [hy] at hx
        cases hx
        refine ⟨ts, (Sub.new nD5) _ _ et4, ?_⟩
        have e6 := selS_succ (ts := ts) hy
        by_cases e1 : y ∈ ts
        · rw [if_neg (by simp [e1]), List.append_nil] at e6
          rw [decide_eq_true e1]
          show _ = _
          rw [e6]
        · rw [if_pos e1] at e6
          rw [decide_eq_false e1]
          walk_at "w"
          rw [up_same]
          refine ⟨by rw [List.length_map]; exact Nat.lt_of_le_of_lt (selS_len ts (tries z) n) (by rw [tries_len]; decide), ?_⟩
          rw [up_up, e6, List.map_append]
          rfl
    · rintro M' rfl
      obtain ⟨y, hy, hyn⟩ := tries_left (z := z) hl
      have hm : y ∈ selS ts (tries z) ((tries z).map T.str).length := List.mem_filter.mpr ⟨by rw [List.length_map, List.take_of_length_le (Nat.le_refl _)]; exact hy, decide_eq_true hyn⟩
      walk_at "w"
      rw [up_same]
      cases hsel : selS ts (tries z) ((tries z).map T.str).length with
      | nil => rw [hsel] at hm; cases hm
      | cons y' r =>
        have hm' : y' ∈ selS ts (tries z) ((tries z).map T.str).length := by rw [hsel]; exact .head _
        obtain ⟨h1, h2⟩ := List.mem_filter.mp hm'
        dsimp only
        rw [show atI (List.map T.str (y' :: r)) 0 = some (T.str y') from atI_nat3 (n := 0) rfl]
        have k4 : Kp a M1 M4 := .of (s2.trans (s3.trans s4))
        refine ⟨M4, .new nD5, h M4 y' (k1.trans k4) (((p1.sub s2).sub s3).sub s4) (nm_tries nz (List.mem_of_mem_take h1)) (of_decide_eq_true h2)⟩
end
theorem mid_le {p q a b r s : Int} (hb : 0 < b) (hq : 0 < q) (hs : 0 < s) (h1 : p * b ≤ a * q) (h2 : a * s ≤ r * b) : p * s ≤ r * q := by
  have e1 : (p * b) * s ≤ (a * q) * s := Int.mul_le_mul_of_nonneg_right h1 (by omega)
  have e2 : (a * s) * q ≤ (r * b) * q := Int.mul_le_mul_of_nonneg_right h2 (by omega)
  have e3 : (p * s) * b ≤ (r * q) * b := by
    have q1 : (p * s) * b = (p * b) * s := by grind
    have q2 : (a * q) * s = (a * s) * q := by grind
    have q3 : (r * b) * q = (r * q) * b := by grind
    rw [q1, ← q3]
    exact Int.le_trans e1 (q2 ▸ e2)
  exact Int.le_of_mul_le_mul_right e3 hb
theorem lo_le {i j a b c d : Int} (hd : 0 < d) (hb : 0 < b) (hj : 0 < j) (hc : 0 ≤ c) (e : i * (b * d) = (a * d - c * b) * j) : i * b ≤ a * j := by
  have h : 0 ≤ c * b * j := Int.mul_nonneg (Int.mul_nonneg hc (by omega)) (by omega)
  have q : (a * j) * d - (i * b) * d = c * b * j := by grind
  exact Int.le_of_mul_le_mul_right (Int.sub_nonneg.mp (q ▸ h)) hd
theorem hi_ge {i j a b c d : Int} (hd : 0 < d) (hb : 0 < b) (hj : 0 < j) (hc : 0 ≤ c) (e : i * (b * d) = (a * d + c * b) * j) : a * j ≤ i * b := by
  have h : 0 ≤ c * b * j := Int.mul_nonneg (Int.mul_nonneg hc (by omega)) (by omega)
  have q : (i * b) * d - (a * j) * d = c * b * j := by grind
  exact Int.le_of_mul_le_mul_right (Int.sub_nonneg.mp (q ▸ h)) hd
theorem fr_nn {a b i j : Int} (h : FrOf a b i j) (ha : 0 ≤ a) (hb : 0 < b) : 0 ≤ i := by
  obtain ⟨_, e, hj, _⟩ := h
  refine Int.not_lt.mp fun n => ?_
  have h1 : i * b < 0 := Int.mul_neg_of_neg_of_pos n hb
  have h2 : 0 ≤ a * j := Int.mul_nonneg ha (by omega)
  omega
/-- a share that is drawn -/
def ShS (a b : Int) : Prop := G.isFr a b = true ∧ 0 ≤ a ∧ a ≤ b ∧ b ≤ 160000
theorem mul_bd {a b A B : Int} (h1 : a.natAbs ≤ A.natAbs) (h2 : b.natAbs ≤ B.natAbs) : (a * b).natAbs ≤ (A * B).natAbs := by
  rw [Int.natAbs_mul, Int.natAbs_mul]
  exact Nat.mul_le_mul h1 h2
theorem bg {n m : Nat} (h : n ≤ m) (h2 : m < 100000000 := by decide) : n < bigN := by
  unfold bigN
  omega
section
variable {P : Program} {w : World} {K : Fg} {mg : Str → Option Value} {base : Heap}
/-! ### _law_stretch -/
abbrev s__law_stretch : Stmt := topS 108
abbrev nm__law_stretch : List Str := ["_law_pot_here", "_law_share_here", "_law_way", "_law_low", "_law_high"]
theorem sc__law_stretch : FnScope nm__law_stretch ["_law_pot_here", "_law_share_here"] (defScope s__law_stretch) := ⟨rfl, rfl, rfl, by decide +kernel, rfl, by decide +kernel, by decide +kernel⟩
def sp__law_stretch : Sp3 := sp2 fun p s M R _ => ∃ (a : Addr) (sa sb : Int), p = .ref a ∧ s = .tup [.int sa, .int sb] ∧ Pt M a ∧ ShS sa sb ∧ ∀ M' td, Kp a M M' → Pt M' a → (∀ s, td = some s → ShOk s) → R (tdt td) M'
theorem ok__law_stretch {C_Label : Addr} {C_NoPath : Addr} {f : Addr} {fd : FuncData} (F : Fun K "_law_stretch" "_law_stretch" s__law_stretch f fd) (g : Glb K mg C_Label C_NoPath) (c__law_plus : Cl P w K mg base "_law_plus" 2 ["_law_one", "_law_other"] (sp__law_plus)) (c__law_frac : Cl P w K mg base "_law_frac" 1 ["_law_top", "_law_bottom"] (sp__law_frac)) (c__law_take : Cl P w K mg base "_law_take" 1 ["_law_pot_here", "_law_many_here"] (sp__law_take)) (c__law_minus : Cl P w K mg base "_law_minus" 2 ["_law_one", "_law_other"] (sp__law_minus)) : FnOk P w K mg base CX0 3 f fd ["_law_pot_here", "_law_share_here"] (lift (sp__law_stretch )) := by
  refine F.ok3 sc__law_stretch (fun ts M R E h => sp2_len h) (fun cdv A outer s H E ts M R E3 hr h0 => ?_)
  obtain ⟨pot_here', share_here', rfl, h⟩ := sp2_of h0
  refine ⟨_, (ls_cons (ls_set (i := 2) sc__law_stretch.nd rfl (by first | exact Or.inl rfl | exact Or.inr rfl) (le_call c__law_take (hr.mono (by decide)) (by rfl) (la_cons (lv 0) (la_cons le_int la_nil)))) (ls_cons (ls_if (lt_c c_lt (lv 2) le_int) (ls_one (ls_ret le_non)) ls_nil) (ls_cons (ls_if (lt_c (c_eq hr) (lv 2) le_int) (ls_one (ls_ret (le_tup (la_cons (lv 1) (la_cons (lv 1) la_nil))))) ls_nil) (ls_cons (ls_set (i := 3) sc__law_stretch.nd rfl (by first | exact Or.inl rfl | exact Or.inr rfl) (le_call c__law_minus (hr.mono (by decide)) (by rfl) (la_cons (lv 1) (la_cons (le_call c__law_frac (hr.mono (by decide)) (by rfl) (la_cons (le_call c__law_take (hr.mono (by decide)) (by rfl) (la_cons (lv 0) (la_cons le_int la_nil))) (la_cons (le_add le_int (le_call c__law_take (hr.mono (by decide)) (by rfl) (la_cons (lv 0) (la_cons le_int la_nil)))) la_nil))) la_nil)))) (ls_cons (ls_set (i := 4) sc__law_stretch.nd rfl (by first | exact Or.inl rfl | exact Or.inr rfl) (le_call c__law_plus (hr.mono (by decide)) (by rfl) (la_cons (lv 1) (la_cons (le_call c__law_frac (hr.mono (by decide)) (by rfl) (la_cons (le_call c__law_take (hr.mono (by decide)) (by rfl) (la_cons (lv 0) (la_cons le_int la_nil))) (la_cons (le_add le_int (le_call c__law_take (hr.mono (by decide)) (by rfl) (la_cons (lv 0) (la_cons le_int la_nil)))) la_nil))) la_nil)))) (ls_cut (ls_if (lt_w (lw_or (lt_c (c_eq hr) (lv 2) le_int) (lw_or1 (lt_c c_lt (le_at (lv 3) le_int) le_int)))) (ls_one (ls_set (i := 3) sc__law_stretch.nd rfl (by first | exact Or.inl rfl | exact Or.inr rfl) (le_tup (la_cons le_int (la_cons le_int la_nil))))) ls_nil) (ls_cut (ls_if (lt_w (lw_or (lt_c (c_eq hr) (lv 2) le_int) (lw_or1 (lt_c c_gt (le_at (lv 4) le_int) (le_at (lv 4) le_int))))) (ls_one (ls_set (i := 4) sc__law_stretch.nd rfl (by first | exact Or.inl rfl | exact Or.inr rfl) (le_tup (la_cons le_int (la_cons le_int la_nil))))) ls_nil) (ls_one (ls_ret (le_tup (la_cons (lv 3) (la_cons (lv 4) la_nil)))))))))))), ?_⟩
  obtain ⟨a, sa, sb, rfl, rfl, hp, hs, h⟩ := h
  obtain ⟨f0, s0, s1, s2⟩ := hs
  have sp := isFr_pos f0
  refine ⟨a, 6, rfl, rfl, hp, by decide, by decide, fun M1 d1 k1 p1 l1 u1 => ?_⟩
  walk_at "w"
  by_cases e1 : d1 < 2
  · rw [decide_eq_true e1]
    exact fin3.of (h M1 none k1 p1 fun s z => by cases z)
  rw [decide_eq_false e1]
  walk_at "w"
  by_cases e2 : d1 = 2
  · rw [decide_eq_true e2]
    refine fin3.of (h M1 (some ⟨sa, sb, sa, sb⟩) k1 p1 fun s z => ?_)
    cases z
    exact ⟨⟨f0, f0⟩, ⟨s0, Int.le_refl _, s1⟩, bg (m := 160000) (by show sa.natAbs ≤ _; omega), bg (m := 160000) (by show sb.natAbs ≤ _; omega), bg (m := 160000) (by show sa.natAbs ≤ _; omega), bg (m := 160000) (by show sb.natAbs ≤ _; omega)⟩
  rw [decide_eq_false e2]
  have sm : ∀ {n : Int}, n.natAbs ≤ 160000 → n.natAbs < 2 ^ 100 := fun h => Nat.lt_of_le_of_lt h (by decide)
  have s8 : ∀ {n : Int}, n.natAbs ≤ 160000 → n.natAbs < 2 ^ 8000 := fun h => Nat.lt_of_le_of_lt h (Nat.lt_of_lt_of_le (show 160000 < 2 ^ 20 by decide) (Nat.pow_le_pow_right (by decide) (by decide)))
  refine ⟨a, 4, rfl, rfl, p1, by decide, by decide, fun M2 d2 k2 p2 l2 u2 => ?_⟩
  refine ⟨a, 9, rfl, rfl, p2, by decide, by decide, fun M3 d3 k3 p3 l3 u3 => ?_⟩
  refine ⟨d2, 1 + d3, rfl, rfl, by omega, s8 (by omega), fun x y hx => ?_⟩
  have x0 := fr_nn hx l2 (by omega)
  obtain ⟨_, x1, x2, x3, x4⟩ := hx
  refine ⟨sa, sb, x, y, rfl, rfl, sp, x2, ⟨sm (by omega), sm (by omega)⟩, ⟨sm (by omega), sm (by omega)⟩, fun i j hij => ?_⟩
  refine ⟨a, 4, rfl, rfl, p3, by decide, by decide, fun M4 d4 k4 p4 l4 u4 => ?_⟩
  refine ⟨a, 9, rfl, rfl, p4, by decide, by decide, fun M5 d5 k5 p5 l5 u5 => ?_⟩
  refine ⟨d4, 1 + d5, rfl, rfl, by omega, s8 (by omega), fun u v hu => ?_⟩
  have u0 := fr_nn hu l4 (by omega)
  obtain ⟨_, u1', u2', u3', u4'⟩ := hu
  refine ⟨sa, sb, u, v, rfl, rfl, sp, u2', ⟨sm (by omega), sm (by omega)⟩, ⟨sm (by omega), sm (by omega)⟩, fun k l hkl => ?_⟩
  have kk := k1.trans (k2.trans (k3.trans (k4.trans k5)))
  have b1 : ∀ {c d : Int}, c.natAbs ≤ 3 → d.natAbs ≤ 9 → (sa * d).natAbs ≤ 1440000 ∧ (c * sb).natAbs ≤ 480000 ∧ (sb * d).natAbs ≤ 1440000 := fun hc hd =>
    ⟨mul_bd (A := 160000) (B := 9) (by omega) hd, mul_bd (A := 3) (B := 160000) hc (by omega), mul_bd (A := 160000) (B := 9) (by omega) hd⟩
  have z1 := b1 (c := x) (d := y) (by omega) (by omega)
  have z2 := b1 (c := u) (d := v) (by omega) (by omega)
  obtain ⟨i1, i2, i3, i4, i5⟩ := hij
  obtain ⟨k1', k2', k3', k4', k5'⟩ := hkl
  have lo := lo_le x2 sp i3 x0 i2
  have hi := hi_ge u2' sp k3' u0 k2'
  refine ⟨fun τ M6 => ∃ p q : Int, τ = [some (.ref a), some (.tup [.int sa, .int sb]), some (.int d1), some (.tup [.int p, .int q]), some (.tup [.int k, .int l])] ∧ M6 = M5 ∧ G.isFr p q = true ∧ 0 ≤ p ∧ p * sb ≤ sa * q ∧ p.natAbs < bigN ∧ q.natAbs < bigN, ?_, ?_⟩
  · walk_at "w"
    by_cases e3 : d1 = 3
    · rw [decide_eq_true e3]
      exact ⟨0, 1, rfl, rfl, by decide, by decide, by omega, by decide, by decide⟩
    rw [decide_eq_false e3]
    walk_at "w"
    by_cases e4 : i < 0
    · rw [decide_eq_true e4]
      exact ⟨0, 1, rfl, rfl, by decide, by decide, by omega, by decide, by decide⟩
    rw [decide_eq_false e4]
    exact ⟨i, j, rfl, rfl, i1, by omega, lo, bg (m := 2000000) (by omega), bg (m := 2000000) (by omega)⟩
  · rintro τ M6 ⟨p, q, rfl, rfl, q1, q2, q3, q4, q5⟩
    refine ⟨fun τ M7 => ∃ r s : Int, τ = [some (.ref a), some (.tup [.int sa, .int sb]), some (.int d1), some (.tup [.int p, .int q]), some (.tup [.int r, .int s])] ∧ M7 = M6 ∧ G.isFr r s = true ∧ r ≤ s ∧ sa * s ≤ r * sb ∧ r.natAbs < bigN ∧ s.natAbs < bigN, ?_, ?_⟩
    · walk_at "w"
      by_cases e3 : d1 = 4
      · rw [decide_eq_true e3]
        exact ⟨1, 1, rfl, rfl, by decide, by decide, by omega, by decide, by decide⟩
      rw [decide_eq_false e3]
      walk_at "w"
      by_cases e4 : l < k
      · rw [decide_eq_true e4]
        exact ⟨1, 1, rfl, rfl, by decide, by decide, by omega, by decide, by decide⟩
      rw [decide_eq_false e4]
      exact ⟨k, l, rfl, rfl, k1', by omega, hi, bg (m := 2000000) (by omega), bg (m := 2000000) (by omega)⟩
    · rintro τ M7 ⟨r, s, rfl, rfl, r1, r2, r3, r4, r5⟩
      refine fin3.of (h M7 (some ⟨p, q, r, s⟩) kk p5 fun x z => ?_)
      cases z
      exact ⟨⟨q1, r1⟩, ⟨q2, mid_le sp (isFr_pos q1) (isFr_pos r1) q3 r3, r2⟩, q4, q5, r4, r5⟩
end
end L3
set_option Elab.async false
set_option linter.all false
set_option maxRecDepth 100000
set_option maxHeartbeats 1000000
namespace L3
open PySem PySem.Spec PyProof.Rows L2
local macro_rules | `(tactic| walk_at "w") => `(tactic| ((conv => whnf); try dsimp only))

theorem sum_cast {α : Type} (f : α → Nat) : ∀ l : List α, (l.map fun t => ((f t : Nat) : Int)).sum = (((l.map f).sum : Nat) : Int)
  | [] => rfl
  | x :: r => by
    rw [List.map_cons, List.sum_cons, List.map_cons, List.sum_cons, sum_cast f r]
    omega
def hdT : T → T
  | .tup (x :: _) => x
  | _ => .non
theorem ts_hd (f : Fo) : f.ts.map hdT = f.names.map T.str := by
  rw [f.ts_items, List.map_map]
  unfold Fo.names
  rw [List.map_map]
  rfl
theorem names_len (f : Fo) : f.names.length = f.items.length := List.length_map _
theorem lc_names {fo : Fo} {Gd : Mh → Prop} {τ : Ts} {vs : List Nat} {i : Nat} {M : Mh} {R : K3} {p : Addr} (np : M p = none) (hl : fo.items.length ≤ 1000) (hG : ∀ acc, Gd (up M p (.lst acc))) (hi : i < (wip τ vs).length) (q : R (.ref p) (up M p (.lst (fo.names.map T.str)))) : lcBody fo.ts Gd (gNm i) bYes (eOp oIx (eVar i) (eC (.int 0))) vs τ M p R := by
  refine lc_map np hdT hG (lineM (by rw [fo.ts_len]; omega)) (fun x hx acc K q => ?_) (by rw [ts_hd]; exact q)
  obtain ⟨n, hn⟩ := List.getElem?_of_mem hx
  obtain ⟨t, ht, rfl⟩ := Fo.ts_at hn
  show (match ((wip τ vs).set i (some (plt t)))[i]? with | some (some t) => _ | _ => _)
  rw [List.getElem?_set_self hi]
  exact q
/-- shares that are drawn so deep -/
def ShD (k : Nat) (a b : Int) : Prop := G.isFr a b = true ∧ 0 ≤ a ∧ a ≤ b ∧ b ≤ ((20 ^ k : Nat) : Int)
def inC (l : List It3) : List Int := (l.filter fun t => !t.2.2.isNil).map fun t => ((t.2.2.cnt : Nat) : Int)
theorem inC_one (t : It3) : inC [t] = if t.2.2.isNil then [] else [((t.2.2.cnt : Nat) : Int)] := by
  unfold inC
  obtain ⟨a, b, c⟩ := t
  cases c <;> rfl
theorem inC_app (l m : List It3) : inC (l ++ m) = inC l ++ inC m := by
  unfold inC
  rw [List.filter_append, List.map_append]
theorem inC_sum : ∀ f : Fo, (f.items.length : Int) + (inC f.items).sum = ((f.cnt : Nat) : Int)
  | .nil => rfl
  | .cons nm td i r => by
    have h := inC_sum r
    have e : inC (Fo.cons nm td i r).items = inC [(nm, td, i)] ++ inC r.items := inC_app [(nm, td, i)] r.items
    have e2 : (inC [(nm, td, i)]).sum = ((i.cnt : Nat) : Int) := by
      rw [inC_one]
      cases i with
      | nil => rfl
      | cons a b c d => show (((Fo.cons a b c d).cnt : Nat) : Int) + 0 = _; omega
    have e3 : (Fo.cons nm td i r).items.length = r.items.length + 1 := rfl
    have e4 : (Fo.cons nm td i r).cnt = 1 + i.cnt + r.cnt := rfl
    rw [e, List.sum_append, e2, e3, e4]
    omega
theorem inC_len (l : List It3) : (inC l).length ≤ l.length := by
  unfold inC
  rw [List.length_map]
  exact List.length_filter_le _ _
section
variable {P : Program} {w : World} {K : Fg} {mg : Str → Option Value} {base : Heap}
/-! ### _law_many -/
abbrev s__law_many : Stmt := topS 110
abbrev nm__law_many : List Str := ["_law_places", "_law_place"]
theorem sc__law_many : FnScope nm__law_many ["_law_places"] (defScope s__law_many) := ⟨rfl, rfl, rfl, by decide +kernel, rfl, by decide +kernel, by decide +kernel⟩
def sp__law_many (d : Nat) : Sp3 := sp1 fun x M R _ => ∃ fo : Fo, x = .tup fo.ts ∧ fo ≠ .nil ∧ fo.depth ≤ d ∧ fo.cnt ≤ 1000 ∧ R (.int fo.cnt) M
theorem ok__law_many_S {C_Label : Addr} {C_NoPath : Addr} {f : Addr} {fd : FuncData} (F : Fun K "_law_many" "_law_many" s__law_many f fd) (g : Glb K mg C_Label C_NoPath) {d : Nat} (c__law_many : Cl P w K mg base "_law_many" (1 + d) ["_law_places"] (sp__law_many d))  : FnOk P w K mg base CX0 (1 + d + 1) f fd ["_law_places"] (lift (sp__law_many (d + 1))) := by
  refine F.ok3 sc__law_many (fun ts M R E h => sp1_len h) (fun cdv A outer s H E ts M R E3 hr h0 => ?_)
  obtain ⟨places', rfl, h⟩ := sp1_of h0
  refine ⟨_, (ls_one (ls_ret (le_add (le_len (by rfl) g.m_len (la_cons (lv 0) la_nil)) (le_sum rfl (by rfl) g.m_sum (la_cons (le_lc0 (own := [("_law_place", 1)]) rfl sc__law_many.nd (li_tup (lv 0)) (blkOk_by (own := [("_law_place", 1)]) (N := nm__law_many) (sc := defScope s__law_many) (by decide +kernel)) (sg_name 1) (only_name (by decide)) (fun _ _ _ _ _ => (pg_name (i := 1) sc__law_many.nd rfl (by first | exact Or.inl rfl | exact Or.inr rfl))) (fun _ _ _ _ _ => (lts_one (lt_c c_notN (le_at (lv 1) le_int) le_non))) (fun _ _ _ _ _ => (le_call c__law_many hr (by rfl) (la_cons (le_at (lv 1) le_int) la_nil)))) la_nil))))), ?_⟩
  obtain ⟨fo, rfl, ne, dp, ct, h⟩ := h
  have lc := Fo.len_cnt fo
  walk_at "w"
  intro D nD
  refine ⟨fun n M' => n ≤ fo.items.length ∧ M' = up M D (.lst ((inC (fo.items.take n)).map T.int)), ⟨Nat.zero_le _, rfl⟩, fun _ _ _ => trivial, ?_, ?_⟩
  · rintro n x M' hx ⟨hn, rfl⟩
    obtain ⟨⟨nm, td, ins⟩, ht, rfl⟩ := Fo.ts_at hx
    have hlt := (List.getElem?_eq_some_iff.mp ht).1
    obtain ⟨k1, k2⟩ := Fo.at_cnt ht
    dsimp only at k1 k2
    have e6 : inC (fo.items.take (n + 1)) = inC (fo.items.take n) ++ inC [(nm, td, ins)] := by
      rw [List.take_add_one, ht, inC_app]
      rfl
    cases ins with
    | nil =>
      rw [inC_one] at e6
      show n + 1 ≤ fo.items.length ∧ _ = _
      rw [e6]
      exact ⟨hlt, by rw [show (if (Fo.nil).isNil = true then ([] : List Int) else [((Fo.nil.cnt : Nat) : Int)]) = [] from rfl, List.append_nil]⟩
    | cons a b c r =>
      refine ⟨.cons a b c r, rfl, (fun z => by cases z), by show (Fo.cons a b c r).depth ≤ d; omega, by show (Fo.cons a b c r).cnt ≤ 1000; omega, ?_⟩
      walk_at "w"
      rw [up_same]
      refine ⟨?_, hlt, ?_⟩
      · rw [List.length_map]
        have := inC_len (fo.items.take n)
        rw [List.length_take] at this
        exact Nat.lt_of_le_of_lt (show _ ≤ 1000 by omega) (by decide)
      · rw [up_up, e6, inC_one, List.map_append]
        rfl
  · rintro M' ⟨hn, rfl⟩
    rw [fo.ts_len, List.take_of_length_le (Nat.le_refl _)]
    refine ⟨inC fo.items, up_same, ?_⟩
    walk_at "w"
    refine ⟨M, .new nD, ?_⟩
    rw [inC_sum]
    exact h
theorem ok__law_many {C_Label : Addr} {C_NoPath : Addr} {f : Addr} {fd : FuncData} (F : Fun K "_law_many" "_law_many" s__law_many f fd) (g : Glb K mg C_Label C_NoPath) (hb : Binds K fd ["_law_places"] []) (hm : mg "_law_many" = some (.ref f))  : ∀ d, FnOk P w K mg base CX0 (1 + d) f fd ["_law_places"] (lift (sp__law_many d))
  | 0 => fn_never <|
    fun ts M R E h => by
      obtain ⟨_, rfl, fo, _, ne, dp, _⟩ := sp1_of h
      exact ne (Fo.nil_of_depth (Nat.le_zero.mp dp))
  | d + 1 => ok__law_many_S F g ⟨_, f, fd, ok__law_many F g hb hm  d, fun _ _ _ _ _ z => z, hm, F.kp, hb⟩ 
end
theorem sum_ge : ∀ {l : List Int}, (∀ x ∈ l, 0 ≤ x ∧ x ≤ 5) → 0 ≤ l.sum ∧ l.sum ≤ 5 * (l.length : Int)
  | [], _ => ⟨Int.le_refl _, Int.le_refl _⟩
  | x :: r, h => by
    have h1 := h x (.head _)
    have h2 := sum_ge (l := r) fun y hy => h y (.tail _ hy)
    rw [List.sum_cons, List.length_cons]
    omega
theorem sum_at : ∀ {l : List Int} {i : Nat} {x : Int}, (∀ y ∈ l, 0 ≤ y ∧ y ≤ 5) → l[i]? = some x → x ≤ l.sum
  | [], i, x, _, e => by simp at e
  | y :: r, 0, x, h, e => by
    simp at e
    subst e
    have h2 := sum_ge (l := r) fun z hz => h z (.tail _ hz)
    rw [List.sum_cons]
    omega
  | y :: r, n + 1, x, h, e => by
    have h1 := h y (.head _)
    have h2 := sum_at (l := r) (i := n) (x := x) (fun z hz => h z (.tail _ hz)) (by simpa using e)
    rw [List.sum_cons]
    omega
theorem fr_le {a b i j : Int} (h : FrOf a b i j) (hab : a ≤ b) (hb : 0 < b) : i ≤ j := by
  obtain ⟨_, e, hj, _⟩ := h
  have h1 : a * j ≤ b * j := Int.mul_le_mul_of_nonneg_right hab (by omega)
  have h2 : i * b ≤ j * b := by rw [e, Int.mul_comm j b]; exact h1
  exact Int.le_of_mul_le_mul_right h2 hb
theorem shd_own {k : Nat} {sa sb fi fj i j : Int} (h : ShD k sa sb) (f0 : 0 ≤ fi) (f1 : fi ≤ fj) (f2 : 0 < fj) (f3 : fj ≤ 20) (ho : FrOf (sa * fi) (sb * fj) i j) : ShD (k + 1) i j := by
  obtain ⟨h0, h1, h2, h3⟩ := h
  have sp := isFr_pos h0
  have hb : 0 < sb * fj := Int.mul_pos sp f2
  refine ⟨ho.1, fr_nn ho (Int.mul_nonneg h1 f0) hb, fr_le ho (Int.mul_le_mul h2 f1 f0 (by omega)) hb, ?_⟩
  have h4 := ho.2.2.2.1
  have h5 : sb * fj ≤ ((20 ^ k : Nat) : Int) * 20 := Int.mul_le_mul h3 f3 (by omega) (Int.natCast_nonneg _)
  rw [Nat.pow_succ, Int.natCast_mul]
  exact Int.le_trans h4 h5
theorem shd_s {k : Nat} {a b : Int} (h : ShD k a b) (hk : k ≤ 4) : ShS a b := by
  obtain ⟨h0, h1, h2, h3⟩ := h
  refine ⟨h0, h1, h2, Int.le_trans h3 ?_⟩
  have : 20 ^ k ≤ 20 ^ 4 := Nat.pow_le_pow_right (by decide) hk
  have e : (20 ^ 4 : Nat) = 160000 := by decide
  omega
theorem putT_len {κ : Type} [DecidableEq κ] (kvs : List (κ × T)) (k : κ) (v : T) : (putT kvs k v).length ≤ kvs.length + 1 := by
  unfold putT
  split
  · rw [List.length_map]; exact Nat.le_succ _
  · rw [List.length_append]; exact Nat.le_refl _
section
variable {P : Program} {w : World} {K : Fg} {mg : Str → Option Value} {base : Heap}
/-! ### _law_list -/
abbrev s__law_list : Stmt := topS 109
abbrev nm__law_list : List Str := ["_law_pot_here", "_law_share_here", "_law_room", "_law_around", "_law_making", "_law_path", "_law_many_here", "_law_left", "_law_weights", "_law_k", "_law_found", "_law_own", "_law_name_here", "_law_place", "_law_inside"]
theorem sc__law_list : FnScope nm__law_list ["_law_pot_here", "_law_share_here", "_law_room", "_law_around", "_law_making", "_law_path"] (defScope s__law_list) := ⟨rfl, rfl, rfl, by decide +kernel, rfl, by decide +kernel, by decide +kernel⟩
def sp__law_list (d : Nat) : Sp3 := sp6 fun x1 x2 x3 x4 x5 x6 M R _ => ∃ (p : Addr) (sa sb : Int) (r : Nat) (aa D : Addr) (ar : List Str) (kvs : List (List Key × T)) (ks : List Key), x1 = .ref p ∧ x2 = .tup [.int sa, .int sb] ∧ x3 = .int r ∧ x4 = .ref aa ∧ x5 = .ref D ∧ x6 = .tup (ks.map keyT) ∧
  Pt M p ∧ ShD ks.length sa sb ∧ M aa = some (.lst (ar.map T.str)) ∧ M D = some (.dT kvs) ∧ ks.length + d = 4 ∧ ks.length ≤ 3 ∧ ar.length = ks.length ∧ 1 ≤ r ∧ r ≤ 12 ∧ kvs.length + r ≤ 1000 ∧
  ∀ M' fo kvs', Kl p D M M' → Pt M' p → M' D = some (.dT kvs') → kvs'.length ≤ kvs.length + fo.cnt → fo ≠ .nil → Gd fo → fo.depth ≤ d → fo.cnt ≤ r → Ns ar [] fo → R (.tup fo.ts) M'
theorem ok__law_list_S {C_Label : Addr} {C_NoPath : Addr} {f : Addr} {fd : FuncData} (F : Fun K "_law_list" "_law_list" s__law_list f fd) (g : Glb K mg C_Label C_NoPath) {d : Nat} (c__law_list : Cl P w K mg base "_law_list" (5 + d) ["_law_pot_here", "_law_share_here", "_law_room", "_law_around", "_law_making", "_law_path"] (sp__law_list d)) (c__law_stretch : Cl P w K mg base "_law_stretch" 3 ["_law_pot_here", "_law_share_here"] (sp__law_stretch)) (c__law_take : Cl P w K mg base "_law_take" 1 ["_law_pot_here", "_law_many_here"] (sp__law_take)) (c__law_many : Cl P w K mg base "_law_many" (1 + 4) ["_law_places"] (sp__law_many 4)) (c__law_name : Cl P w K mg base "_law_name" 3 ["_law_pot_here", "_law_taken"] (sp__law_name)) (c__law_times : Cl P w K mg base "_law_times" 2 ["_law_one", "_law_other"] (sp__law_times)) (c__law_frac : Cl P w K mg base "_law_frac" 1 ["_law_top", "_law_bottom"] (sp__law_frac)) : FnOk P w K mg base CX0 (5 + d + 1) f fd ["_law_pot_here", "_law_share_here", "_law_room", "_law_around", "_law_making", "_law_path"] (lift (sp__law_list (d + 1))) := by
  refine F.ok3 sc__law_list (fun ts M R E h => sp6_len h) (fun cdv A outer s H E ts M R E3 hr h0 => ?_)
  obtain ⟨pot_here', share_here', room', around', making', path', rfl, h⟩ := sp6_of h0
  refine ⟨_, (ls_cons (ls_set (i := 6) sc__law_list.nd rfl (by first | exact Or.inl rfl | exact Or.inr rfl) (le_add le_int (le_call c__law_take (hr.mono (by omega)) (by rfl) (la_cons (lv 0) (la_cons (le_min rfl (by rfl) g.m_min (la_cons (lv 2) (la_cons le_int la_nil))) la_nil))))) (ls_cons (ls_set (i := 7) sc__law_list.nd rfl (by first | exact Or.inl rfl | exact Or.inr rfl) (le_sub (lv 2) (lv 6))) (ls_cons (ls_set (i := 8) sc__law_list.nd rfl (by first | exact Or.inl rfl | exact Or.inr rfl) (le_revL (le_sortedI (by rfl) g.m_sorted (la_cons (le_lc0 (own := [("_law_k", 9)]) rfl sc__law_list.nd (li_range1 (by rfl) g.m_range (la_cons (lv 6) la_nil)) (blkOk_by (own := [("_law_k", 9)]) (N := nm__law_list) (sc := defScope s__law_list) (by decide +kernel)) (sg_name 9) (only_name (by decide)) (fun _ _ _ _ _ => (pg_name (i := 9) sc__law_list.nd rfl (by first | exact Or.inl rfl | exact Or.inr rfl))) (fun _ _ _ _ _ => lts_nil) (fun _ _ _ _ _ => (le_call c__law_take (hr.mono (by omega)) (by rfl) (la_cons (lv 0) (la_cons le_int la_nil))))) la_nil)))) (ls_cut (ls_asg (le_max rfl (by rfl) g.m_max (la_cons le_int (la_cons (le_at (lv 8) le_int) la_nil))) (lg_set (lv 8) le_int)) (ls_cons (ls_set (i := 10) sc__law_list.nd rfl (by first | exact Or.inl rfl | exact Or.inr rfl) (le_lst la_nil)) (ls_cons (ls_for PassesOwn.never rfl (li_range1 (by rfl) g.m_range (la_cons (lv 6) la_nil)) (lg_name (i := 9) sc__law_list.nd rfl (by first | exact Or.inl rfl | exact Or.inr rfl)) (ls_cons (ls_set (i := 11) sc__law_list.nd rfl (by first | exact Or.inl rfl | exact Or.inr rfl) (le_call c__law_times (hr.mono (by omega)) (by rfl) (la_cons (lv 1) (la_cons (le_call c__law_frac (hr.mono (by omega)) (by rfl) (la_cons (le_at (lv 8) (lv 9)) (la_cons (le_sum rfl (by rfl) g.m_sum (la_cons (lv 8) la_nil)) la_nil))) la_nil)))) (ls_cons (ls_set (i := 12) sc__law_list.nd rfl (by first | exact Or.inl rfl | exact Or.inr rfl) (le_call c__law_name (hr.mono (by omega)) (by rfl) (la_cons (lv 0) (la_cons (le_add (le_lc0 (own := [("_law_place", 13)]) rfl sc__law_list.nd (li_list (lv 10)) (blkOk_by (own := [("_law_place", 13)]) (N := nm__law_list) (sc := defScope s__law_list) (by decide +kernel)) (sg_name 13) (only_name (by decide)) (fun _ _ _ _ _ => (pg_name (i := 13) sc__law_list.nd rfl (by first | exact Or.inl rfl | exact Or.inr rfl))) (fun _ _ _ _ _ => lts_nil) (fun _ _ _ _ _ => (le_at (lv 13) le_int))) (lv 3)) la_nil)))) (ls_cons (ls_set (i := 14) sc__law_list.nd rfl (by first | exact Or.inl rfl | exact Or.inr rfl) le_non) (ls_cons (ls_put hr (lv 4) (le_add (lv 5) (le_tup (la_cons (lv 9) la_nil))) (lv 11)) (ls_cut (ls_if (lt_cut (lt_w (lw_and (lt_c c_lt (le_len (by rfl) g.m_len (la_cons (lv 5) la_nil)) le_int) (lw_and (lt_c c_gt (lv 7) le_int) (lw_and1 (lt_c (c_eq hr) (le_call c__law_take (hr.mono (by omega)) (by rfl) (la_cons (lv 0) (la_cons le_int la_nil))) le_int)))))) (ls_cons (ls_set (i := 14) sc__law_list.nd rfl (by first | exact Or.inl rfl | exact Or.inr rfl) (le_call c__law_list hr (by rfl) (la_cons (lv 0) (la_cons (lv 11) (la_cons (lv 7) (la_cons (le_add (lv 3) (le_lst (la_cons (lv 12) la_nil))) (la_cons (lv 4) (la_cons (le_add (lv 5) (le_tup (la_cons (lv 9) la_nil))) la_nil)))))))) (ls_one (ls_set (i := 7) sc__law_list.nd rfl (by first | exact Or.inl rfl | exact Or.inr rfl) (le_sub (lv 7) (le_call c__law_many (hr.mono (by omega)) (by rfl) (la_cons (lv 14) la_nil)))))) ls_nil) (ls_one (ls_expr (le_append (lv 10) (la_cons (le_tup (la_cons (lv 12) (la_cons (le_call c__law_stretch (hr.mono (by omega)) (by rfl) (la_cons (lv 0) (la_cons (lv 11) la_nil))) (la_cons (lv 14) la_nil)))) la_nil)))))))))) (ls_one (ls_ret (le_tuple (by rfl) g.m_tuple (la_cons (lv 10) la_nil)))))))))), ?_⟩
  obtain ⟨p, sa, sb, r, aa, D, ar, kvs, ks, rfl, rfl, rfl, rfl, rfl, rfl, hp, sh, ea, eD, hd, hk3, har, hr1, hr12, hkv, h⟩ := h
  have npa : p ≠ aa := hp.strs ea
  have npD : p ≠ D := fun z => by
    obtain ⟨_, _, e, _⟩ := hp
    rw [z, eD] at e
    cases e
  have naD : aa ≠ D := fun z => by
    rw [z, eD] at ea
    cases ea
  walk_at "w"
  refine ⟨p, (if (4 : Int) < (r : Int) then 4 else r), rfl, rfl, hp, by split <;> omega, by split <;> omega, fun M1 d1 k1 p1 l1 u1 => ?_⟩
  have u1 : d1 < r ∧ d1 < 4 := by
    split at u1 <;> omega
  walk_at "w"
  obtain ⟨my, hmy, my1, my2, my4⟩ : ∃ my : Nat, (1 + d1) = (my : Int) ∧ 1 ≤ my ∧ my ≤ r ∧ my ≤ 4 := ⟨(1 + d1).toNat, by omega, by omega, by omega, by omega⟩
  rw [hmy]
  have hlf : ((r : Int) - (my : Int)) = ((r - my : Nat) : Int) := by omega
  rw [hlf]
  refine ⟨⟨by omega, by omega⟩, fun C nC => ?_⟩
  have nCp : C ≠ p := (p1.ne nC).symm
  refine ⟨fun n M' => Kp p M1 M' ∧ Pt M' p ∧ ∃ ws : List Int, ws.length = n ∧ (∀ x ∈ ws, 0 ≤ x ∧ x ≤ 5) ∧ M' C = some (.lst (ws.map T.int)), ⟨.of (.new nC), p1.sub (.new nC), [], rfl, (fun y hy => by cases hy), up_same⟩, fun _ _ _ => trivial, ?_, ?_⟩
  · rintro n x M2 hx ⟨k2, p2, ws, wl, wa, eC⟩
    have hn : n < my := by
      have := (List.getElem?_eq_some_iff.mp hx).1
      rw [rng_len] at this
      omega
    refine ⟨p, 6, rfl, rfl, p2, by decide, by decide, fun M3 d3 k3 p3 l3 u3 => ?_⟩
    have eC3 := k3 _ _ nCp eC
    walk_at "w"
    rw [eC3]
    refine ⟨?_, ?_, ?_, ws ++ [d3], ?_, ?_, ?_⟩
    · rw [List.length_map, wl]
      exact Nat.lt_of_lt_of_le (show n < 11 by omega) (by decide)
    · exact fun b o nb e' => by
        rw [up_ne (ne_free e' nC)]
        exact k3 b o nb (k2 b o nb e')
    · exact p3.upn nCp
    · rw [List.length_append, wl]
      rfl
    · intro y hy
      rcases List.mem_append.mp hy with hy | hy
      · exact wa y hy
      · rw [List.mem_singleton.mp hy]
        exact ⟨l3, by omega⟩
    · rw [up_same, List.map_append]
      rfl
  · rintro M2 ⟨k2, p2, ws, wl, wa, eC⟩
    rw [rng_len] at wl
    have k02 := k1.trans k2
    refine ⟨ws, eC, by omega, fun ns' pm so => ?_⟩
    have wl' : ns'.length = my := by rw [pm.length_eq, wl]; omega
    have wa' : ∀ x ∈ ns', 0 ≤ x ∧ x ≤ 5 := fun x hx => wa x (pm.mem_iff.mp hx)
    intro q4 nq4
    have s4 : Sub M2 (up M2 q4 (.lst (ns'.map T.int))) := .new nq4
    have e4 : (up M2 q4 (.lst (ns'.map T.int))) q4 = some (.lst (ns'.map T.int)) := up_same
    generalize up M2 q4 (.lst (ns'.map T.int)) = M4 at s4 e4 ⊢
    walk_at "w"
    rw [e4]
    dsimp only
    rw [← List.map_reverse]
    have wl2 : ns'.reverse.length = my := by rw [List.length_reverse]; exact wl'
    have wa2 : ∀ x ∈ ns'.reverse, 0 ≤ x ∧ x ≤ 5 := fun x hx => wa' x (List.mem_reverse.mp hx)
    generalize ns'.reverse = rv at wl2 wa2 ⊢
    intro q5 nq5
    have s5 : Sub M4 (up M4 q5 (.lst (rv.map T.int))) := .new nq5
    have e5 : (up M4 q5 (.lst (rv.map T.int))) q5 = some (.lst (rv.map T.int)) := up_same
    generalize up M4 q5 (.lst (rv.map T.int)) = M5 at s5 e5 ⊢
    have k05 : Kp p M M5 := k02.trans (.of (s4.trans s5))
    have p5 := (p2.sub s4).sub s5
    have n5p : q5 ≠ p := ((p2.sub s4).ne nq5).symm
    have n5M : M q5 = none := by
      cases e : M q5 with
      | none => rfl
      | some o =>
        have := s4 _ _ (k02 _ _ n5p e)
        rw [nq5] at this
        cases this
    refine ⟨fun τ M6 => ∃ wl : List Int, τ = [some (.ref p), some (.tup [.int sa, .int sb]), some (.int r), some (.ref aa), some (.ref D), some (.tup (ks.map keyT)), some (.int my), some (.int ((r - my : Nat) : Int)), some (.ref q5), none, none, none, none, none, none] ∧ wl.length = my ∧ (∀ x ∈ wl, 0 ≤ x ∧ x ≤ 5) ∧ 1 ≤ wl.sum ∧ M6 q5 = some (.lst (wl.map T.int)) ∧ Kp p M M6 ∧ Pt M6 p, ?_, ?_⟩
    · cases rv with
      | nil => have : 0 = my := wl2; omega
      | cons x0 rs =>
        walk_at "w"
        rw [e5]
        walk_at "w"
        rw [show atI (List.map T.int (x0 :: rs)) 0 = some (T.int x0) from atI_nat3 (n := 0) rfl]
        walk_at "w"
        rw [e5]
        walk_at "w"
        rw [show ixN (List.map T.int (x0 :: rs)).length 0 = some 0 by unfold ixN; rw [if_pos (by omega), if_pos (by rw [List.length_map, List.length_cons]; omega)]; rfl]
        have b0 := wa2 x0 (.head _)
        have b1 := sum_ge (l := rs) fun y hy => wa2 y (.tail _ hy)
        refine ⟨(if x0 > 1 then x0 else 1) :: rs, rfl, wl2, fun x hx => ?_, ?_, ?_, fun c o nc e => ?_, p5.upn n5p⟩
        · rcases List.mem_cons.mp hx with rfl | hx
          · split <;> omega
          · exact wa2 x (.tail _ hx)
        · rw [List.sum_cons]
          split <;> omega
        · rw [up_same]
          rfl
        · rw [up_ne (ne_free e n5M)]
          exact k05 _ _ nc e
    · rintro τ M6 ⟨wl, rfl, wn, wb, ws1, e6, k6, p6⟩
      have wsb := sum_ge wb
      intro q7 nq7
      have s7 : Sub M6 (up M6 q7 (.lst [])) := .new nq7
      have e7 : (up M6 q7 (.lst [])) q7 = some (.lst []) := up_same
      generalize up M6 q7 (.lst []) = M7 at s7 e7 ⊢
      have n7p : q7 ≠ p := (p6.ne nq7).symm
      have n75 : q7 ≠ q5 := (ne_free e6 nq7).symm
      have n7M : M q7 = none := by
        cases e : M q7 with
        | none => rfl
        | some o =>
          have := k6 _ _ n7p e
          rw [nq7] at this
          cases this
      have n7D : q7 ≠ D := (ne_free eD n7M).symm
      have n5D : q5 ≠ D := (ne_free eD n5M).symm
      have n7a : q7 ≠ aa := (ne_free ea n7M).symm
      refine ⟨⟨by omega, by omega⟩, fun i τ M8 => i ≤ my ∧ ∃ v9 v11 v12 v14 fo kv', ∃ lf : Nat, τ = [some (.ref p), some (.tup [.int sa, .int sb]), some (.int r), some (.ref aa), some (.ref D), some (.tup (ks.map keyT)), some (.int my), some (.int lf), some (.ref q5), v9, some (.ref q7), v11, v12, none, v14] ∧ Kl p D M M8 ∧ Pt M8 p ∧ M8 q5 = some (.lst (wl.map T.int)) ∧ M8 q7 = some (.lst fo.ts) ∧ M8 D = some (.dT kv') ∧ kv'.length ≤ kvs.length + fo.cnt ∧ fo.items.length = i ∧ lf + fo.cnt + my = r + i ∧ Gd fo ∧ fo.depth ≤ d + 1 ∧ Ns ar [] fo,
        ⟨Nat.zero_le _, none, none, none, none, .nil, kvs, r - my, rfl, .kp (k6.trans (.of s7)), p6.sub s7, s7 _ _ e6, e7, s7 _ _ (k6 _ _ (fun z => npD z.symm) eD), Nat.le_refl _, rfl, by show r - my + 0 + my = r + 0; omega, True.intro, Nat.zero_le _, True.intro⟩, fun _ _ _ _ => trivial, ?_, ?_⟩
      · rintro i x τ M8 hx ⟨hi, v9, v11, v12, v14, fo, kv', lf, rfl, k8, p8, e8, f8, eD8, kl, li, ct, gd, dp, un⟩
        obtain ⟨him, rfl⟩ := rng_of hx
        have him : i < my := by omega
        have lc := Fo.len_cnt fo
        have ea8 := k8 _ _ (fun z => npa z.symm) naD ea
        obtain ⟨x, hxw⟩ : ∃ x, wl[i]? = some x := ⟨_, List.getElem?_eq_getElem (by omega)⟩
        have bx := wb x (List.mem_of_getElem? hxw)
        have bs := sum_at wb hxw
        have sm : ∀ {n : Int}, n.natAbs ≤ 160000 → n.natAbs < 2 ^ 100 := fun h => Nat.lt_of_le_of_lt h (by decide)
        have s8 : ∀ {n : Int}, n.natAbs ≤ 160000 → n.natAbs < 2 ^ 8000 := fun h => Nat.lt_of_le_of_lt h (Nat.lt_of_lt_of_le (show 160000 < 2 ^ 20 by decide) (Nat.pow_le_pow_right (by decide) (by decide)))
        obtain ⟨_, t1, t2, t3⟩ := shd_s sh (by omega)
        walk_at "w"
        rw [e8]
        walk_at "w"
        rw [Int.zero_add, atI_nat3 (show (wl.map T.int)[i]? = some (.int x) by rw [List.getElem?_map, hxw]; rfl)]
        refine ⟨wl, e8, ?_⟩
        refine ⟨x, wl.sum, rfl, rfl, by omega, s8 (by omega), fun fi fj hf => ?_⟩
        have f0 := fr_nn hf bx.1 (by omega)
        have f1 := fr_le hf bs (by omega)
        have f2 := hf.2.2.1
        have f3 := hf.2.2.2.1
        refine ⟨sa, sb, fi, fj, rfl, rfl, isFr_pos sh.1, f2, ⟨sm (by omega), sm (by omega)⟩, ⟨sm (by omega), sm (by omega)⟩, fun oi oj ho => ?_⟩
        have so := shd_own sh f0 f1 f2 (by omega) ho
        walk_at "w"
        rw [f8]
        intro qD nqD
        refine lc_names nqD (by omega) (fun acc => (Sub.new nqD) _ _ f8) (by show 13 < 15; decide) ?_
        have s9 : Sub M8 (up M8 qD (.lst (fo.names.map T.str))) := .new nqD
        have e9 : (up M8 qD (.lst (fo.names.map T.str))) qD = some (.lst (fo.names.map T.str)) := up_same
        generalize up M8 qD (.lst (fo.names.map T.str)) = M9 at s9 e9 ⊢
        have ln := names_len fo
        walk_at "w"
        rw [s9 _ _ ea8, e9]
        refine ⟨by rw [List.length_map, List.length_map]; exact lineM (by omega), ?_⟩
        intro q10 nq10
        have s10 : Sub M9 (up M9 q10 (.lst (fo.names.map T.str ++ ar.map T.str))) := .new nq10
        have e10 : (up M9 q10 (.lst (fo.names.map T.str ++ ar.map T.str))) q10 = some (.lst (fo.names.map T.str ++ ar.map T.str)) := up_same
        generalize up M9 q10 (.lst (fo.names.map T.str ++ ar.map T.str)) = M10 at s10 e10 ⊢
        have p10 := (p8.sub s9).sub s10
        refine ⟨p, q10, fo.names ++ ar, rfl, rfl, p10, (p8.sub s9).ne nq10, by rw [e10, List.map_append], by rw [List.length_append]; omega, fun M11 z k11 p11 nz hz => ?_⟩
        rw [List.mem_append, not_or] at hz
        have k811 : Kp p M8 M11 := ((Kp.of s9).trans (.of s10)).trans k11
        have eD11 := k811 _ _ (fun z => npD z.symm) eD8
        refine ⟨by rw [List.length_map]; exact lineM (show ks.length + 1 ≤ 1000000 by omega), ?_⟩
        have ek : ks.map keyT ++ [T.int (i : Nat)] = (ks ++ [iK i]).map keyT := by rw [List.map_append]; rfl
        rw [ek]
        walk_at "w"
        rw [eD11, toKeys_map]
        refine ⟨Nat.lt_of_le_of_lt (show kv'.length ≤ 1000 by omega) (by decide), ?_⟩
        have kl2 := putT_len kv' (ks ++ [iK i]) (.tup [.int oi, .int oj])
        generalize putT kv' (ks ++ [iK i]) (.tup [.int oi, .int oj]) = kv2 at kl2 ⊢
        have k12 : Kl p D M (up M11 D (.dT kv2)) := (k8.trans (.kp k811)).trans .up2
        have p12 : Pt (up M11 D (.dT kv2)) p := p11.upn (fun z => npD z.symm)
        have eD12 : (up M11 D (.dT kv2)) D = some (.dT kv2) := up_same
        have e12 : (up M11 D (.dT kv2)) q5 = some (.lst (wl.map T.int)) := (up_ne n5D).trans (k811 _ _ n5p e8)
        have f12 : (up M11 D (.dT kv2)) q7 = some (.lst fo.ts) := (up_ne n7D).trans (k811 _ _ n7p f8)
        have ea12 : (up M11 D (.dT kv2)) aa = some (.lst (ar.map T.str)) := (up_ne naD).trans (k811 _ _ (fun z => npa z.symm) ea8)
        generalize up M11 D (.dT kv2) = M12 at k12 p12 eD12 e12 f12 ea12 ⊢
        refine ⟨fun τ M13 => ∃ (j : Fo) (m : Nat) (kv3 : List (List Key × T)), τ = [some (.ref p), some (.tup [.int sa, .int sb]), some (.int r), some (.ref aa), some (.ref D), some (.tup (ks.map keyT)), some (.int my), some (.int m), some (.ref q5), some (.int (i : Int)), some (.ref q7), some (.tup [.int oi, .int oj]), some (.str z), none, some j.inn] ∧ Kl p D M M13 ∧ Pt M13 p ∧ M13 q5 = some (.lst (wl.map T.int)) ∧ M13 q7 = some (.lst fo.ts) ∧ M13 D = some (.dT kv3) ∧ kv3.length ≤ kvs.length + fo.cnt + 1 + j.cnt ∧ m + j.cnt = lf ∧ Gd j ∧ j.depth ≤ d ∧ Ns (ar ++ [z]) [] j, ?_, ?_⟩
        · refine ⟨fun b M13 => Kp p M12 M13 ∧ Pt M13 p ∧ (b = true → 1 ≤ lf ∧ ks.length < 3), ?_, ?_⟩
          · walk_at "w"
            by_cases g1 : (((ks.map keyT).length : Nat) : Int) < 3
            · rw [decide_eq_true g1]
              walk_at "w"
              by_cases g2 : (0 : Int) < (lf : Int)
              · rw [decide_eq_true g2]
                refine ⟨p, 3, rfl, rfl, p12, by decide, by decide, fun M13 d13 k13 p13 l13 u13 => ?_⟩
                refine ⟨k13, p13, fun _ => ⟨by omega, ?_⟩⟩
                rw [List.length_map] at g1
                omega
              · rw [decide_eq_false g2]
                exact ⟨.refl, p12, fun z => by cases z⟩
            · rw [decide_eq_false g1]
              exact ⟨.refl, p12, fun z => by cases z⟩
          · rintro b M13 ⟨k13, p13, hb⟩
            have e13 := k13 _ _ n5p e12
            have f13 := k13 _ _ n7p f12
            have eD13 := k13 _ _ (fun z => npD z.symm) eD12
            have ea13 := k13 _ _ (fun z => npa z.symm) ea12
            have k013 := k12.trans (.kp k13)
            cases b with
            | false => exact ⟨.nil, lf, kv2, rfl, k013, p13, e13, f13, eD13, by show kv2.length ≤ kvs.length + fo.cnt + 1 + 0; omega, rfl, True.intro, Nat.zero_le _, True.intro⟩
            | true =>
              obtain ⟨g1, g2⟩ := hb rfl
              intro q14 nq14
              have s14 : Sub M13 (up M13 q14 (.lst [.str z])) := .new nq14
              have e14 : (up M13 q14 (.lst [.str z])) q14 = some (.lst [.str z]) := up_same
              generalize up M13 q14 (.lst [.str z]) = M14 at s14 e14 ⊢
              walk_at "w"
              rw [s14 _ _ ea13, e14]
              refine ⟨by rw [List.length_map]; exact lineM (show ar.length + 1 ≤ 1000000 by omega), ?_⟩
              intro q15 nq15
              have s15 : Sub M14 (up M14 q15 (.lst (ar.map T.str ++ [.str z]))) := .new nq15
              have e15 : (up M14 q15 (.lst (ar.map T.str ++ [.str z]))) q15 = some (.lst (ar.map T.str ++ [.str z])) := up_same
              generalize up M14 q15 (.lst (ar.map T.str ++ [.str z])) = M15 at s15 e15 ⊢
              have s1315 := s14.trans s15
              refine ⟨by rw [List.length_map]; exact lineM (show ks.length + 1 ≤ 1000000 by omega), ?_⟩
              rw [ek]
              refine ⟨p, oi, oj, lf, q15, D, ar ++ [z], kv2, ks ++ [iK i], rfl, rfl, rfl, rfl, rfl, rfl, p13.sub s1315, by rw [List.length_append]; exact so, by rw [e15, List.map_append]; rfl, s1315 _ _ eD13, by rw [List.length_append]; show ks.length + 1 + d = 4; omega, by rw [List.length_append]; show ks.length + 1 ≤ 3; omega, by rw [List.length_append, List.length_append, har]; rfl, g1, by omega, by omega, fun M16 j kv3 k16 p16 eD16 kl16 ne16 gd16 dp16 ct16 un16 => ?_⟩
              walk_at "w"
              refine ⟨j, rfl, ne16, by omega, by omega, ?_⟩
              refine ⟨j, lf - j.cnt, kv3, ?_, k013.trans ((Kl.of s1315).trans k16), p16, k16 _ _ n5p n5D (s1315 _ _ e13), k16 _ _ n7p n7D (s1315 _ _ f13), eD16, by omega, by omega, gd16, dp16, un16⟩
              rw [Fo.inn_ne ne16, show ((lf - j.cnt : Nat) : Int) = ((lf : Int) - (j.cnt : Int)) by omega]
              rfl
        · rintro τ M13 ⟨j, m, kv3, rfl, k13, p13, e13, f13, eD13, kl13, cj, gj, dj, uj⟩
          walk_at "w"
          rw [f13]
          refine ⟨p, oi, oj, rfl, rfl, p13, shd_s so (by omega), fun M14 td k14 p14 htd => ?_⟩
          have f14 := k14 _ _ n7p f13
          walk_at "w"
          rw [f14]
          refine ⟨by rw [Fo.ts_len]; exact Nat.lt_of_lt_of_le (show fo.items.length < 13 by omega) (by decide), ?_⟩
          refine ⟨him, _, _, _, _, fo.snoc z td j, kv3, m, rfl, (k13.trans (.kp k14)).upn n7M, p14.upn n7p, (up_ne (fun y => n75 y.symm)).trans (k14 _ _ n5p e13), by rw [up_same, Fo.ts_snoc]; rfl, (up_ne (fun y => n7D y.symm)).trans (k14 _ _ (fun y => npD y.symm) eD13), by rw [Fo.cnt_snoc]; omega, by rw [Fo.items_snoc, List.length_append, li]; rfl, by rw [Fo.cnt_snoc]; omega, gd.snoc nz htd gj, by rw [Fo.depth_snoc]; omega, un.snoc hz.1 hz.2 uj⟩
      · rintro τ M8 ⟨hi, v9, v11, v12, v14, fo, kv', lf, rfl, k8, p8, e8, f8, eD8, kl, li, ct, gd, dp, un⟩
        have hli : fo.items.length = my := by rw [li, rng_len]; omega
        walk_at "w"
        rw [f8]
        have ne : fo ≠ .nil := fun z => by rw [z] at hli; have : 0 = my := hli; omega
        rw [rng_len] at ct
        exact fin3.of (h M8 fo kv' k8 p8 eD8 kl ne gd dp (by omega) un)
theorem ok__law_list {C_Label : Addr} {C_NoPath : Addr} {f : Addr} {fd : FuncData} (F : Fun K "_law_list" "_law_list" s__law_list f fd) (g : Glb K mg C_Label C_NoPath) (hb : Binds K fd ["_law_pot_here", "_law_share_here", "_law_room", "_law_around", "_law_making", "_law_path"] []) (hm : mg "_law_list" = some (.ref f)) (c__law_stretch : Cl P w K mg base "_law_stretch" 3 ["_law_pot_here", "_law_share_here"] (sp__law_stretch)) (c__law_take : Cl P w K mg base "_law_take" 1 ["_law_pot_here", "_law_many_here"] (sp__law_take)) (c__law_many : Cl P w K mg base "_law_many" (1 + 4) ["_law_places"] (sp__law_many 4)) (c__law_name : Cl P w K mg base "_law_name" 3 ["_law_pot_here", "_law_taken"] (sp__law_name)) (c__law_times : Cl P w K mg base "_law_times" 2 ["_law_one", "_law_other"] (sp__law_times)) (c__law_frac : Cl P w K mg base "_law_frac" 1 ["_law_top", "_law_bottom"] (sp__law_frac)) : ∀ d, FnOk P w K mg base CX0 (5 + d) f fd ["_law_pot_here", "_law_share_here", "_law_room", "_law_around", "_law_making", "_law_path"] (lift (sp__law_list d))
  | 0 => fn_never <|
    fun ts M R E h => by
      obtain ⟨_, _, _, _, _, _, rfl, h⟩ := sp6_of h
      obtain ⟨_, _, _, _, _, _, _, _, _, _, _, _, _, _, _, _, _, _, _, h1, h2, _⟩ := h
      omega
  | d + 1 => ok__law_list_S F g ⟨_, f, fd, ok__law_list F g hb hm c__law_stretch c__law_take c__law_many c__law_name c__law_times c__law_frac d, fun _ _ _ _ _ z => z, hm, F.kp, hb⟩ c__law_stretch c__law_take c__law_many c__law_name c__law_times c__law_frac
end
end L3
set_option Elab.async false
set_option linter.all false
set_option maxRecDepth 100000
set_option maxHeartbeats 1000000
namespace L3
open PySem PySem.Spec PyProof.Rows L2
local macro_rules | `(tactic| walk_at "w") => `(tactic| ((conv => whnf); try dsimp only))

def pr (kv : List Key × T) : T := .tup [.tup (kv.1.map keyT), kv.2]
section
variable {P : Program} {w : World} {K : Fg} {mg : Str → Option Value} {base : Heap}
/-! ### _law_rows -/
abbrev s__law_rows : Stmt := topS 111
abbrev nm__law_rows : List Str := ["_law_places", "_law_path", "_law_found", "_law_k", "_law_place"]
theorem sc__law_rows : FnScope nm__law_rows ["_law_places", "_law_path"] (defScope s__law_rows) := ⟨rfl, rfl, rfl, by decide +kernel, rfl, by decide +kernel, by decide +kernel⟩
def sp__law_rows (d : Nat) : Sp3 := sp2 fun x y M R _ => ∃ (fo : Fo) (ks : List Key), x = .tup fo.ts ∧ y = .tup (ks.map keyT) ∧ fo ≠ .nil ∧ fo.depth ≤ d ∧ ks.length + d ≤ 50 ∧ fo.cnt ≤ 1000 ∧ ∀ p, M p = none → R (.ref p) (up M p (.lst ((gaF ks 0 fo).map pr)))
theorem ok__law_rows_S {C_Label : Addr} {C_NoPath : Addr} {f : Addr} {fd : FuncData} (F : Fun K "_law_rows" "_law_rows" s__law_rows f fd) (g : Glb K mg C_Label C_NoPath) {d : Nat} (c__law_rows : Cl P w K mg base "_law_rows" (1 + d) ["_law_places", "_law_path"] (sp__law_rows d))  : FnOk P w K mg base CX0 (1 + d + 1) f fd ["_law_places", "_law_path"] (lift (sp__law_rows (d + 1))) := by
  refine F.ok3 sc__law_rows (fun ts M R E h => sp2_len h) (fun cdv A outer s H E ts M R E3 hr h0 => ?_)
  obtain ⟨places', path', rfl, h⟩ := sp2_of h0
  refine ⟨_, (ls_cons (ls_set (i := 2) sc__law_rows.nd rfl (by first | exact Or.inl rfl | exact Or.inr rfl) (le_lst la_nil)) (ls_cons (ls_for PassesOwn.never rfl (li_enumT (by rfl) g.m_enumerate (la_cons (lv 0) la_nil)) (lg_tup (by rfl) (lgs_cons (lg_name (i := 3) sc__law_rows.nd rfl (by first | exact Or.inl rfl | exact Or.inr rfl)) (lgs_cons (lg_name (i := 4) sc__law_rows.nd rfl (by first | exact Or.inl rfl | exact Or.inr rfl)) lgs_nil))) (ls_cons (ls_expr (le_append (lv 2) (la_cons (le_tup (la_cons (le_add (lv 1) (le_tup (la_cons (lv 3) la_nil))) (la_cons (lv 4) la_nil))) la_nil))) (ls_one (ls_if (lt_c c_notN (le_at (lv 4) le_int) le_non) (ls_one (ls_expr (le_extend (lv 2) (la_cons (le_call c__law_rows hr (by rfl) (la_cons (le_at (lv 4) le_int) (la_cons (le_add (lv 1) (le_tup (la_cons (lv 3) la_nil))) la_nil))) la_nil)))) ls_nil)))) (ls_one (ls_ret (lv 2))))), ?_⟩
  obtain ⟨fo, ks, rfl, rfl, ne, dp, hkd, hct, h⟩ := h
  have lc := Fo.len_cnt fo
  intro D nD
  refine ⟨fun n τ M1 => n ≤ fo.items.length ∧ ∃ v3 v4, τ = [some (.tup fo.ts), some (.tup (ks.map keyT)), some (.ref D), v3, v4] ∧ Sub (up M D (.lst ((gaTo ks 0 n fo).map pr))) M1, ⟨Nat.zero_le _, none, none, rfl, by rw [gaTo_zero]; exact .refl⟩, fun _ _ _ _ => trivial, ?_, ?_⟩
  · rintro n x τ M1 hx ⟨hn, v3, v4, rfl, s1⟩
    obtain ⟨y, hy, rfl⟩ := pairs_of hx
    obtain ⟨t, ht, rfl⟩ := Fo.ts_at hy
    have hlt := (List.getElem?_eq_some_iff.mp ht).1
    obtain ⟨k1, k2⟩ := Fo.at_cnt ht
    have gl : (gaTo ks 0 n fo).length + 1 + t.2.2.cnt ≤ fo.cnt := gaTo_len ht
    have eD := s1.at
    rw [Nat.zero_add]
    walk_at "w"
    rw [eD]
    refine ⟨by rw [List.length_map]; show ks.length + 1 ≤ sizeLine; exact lineM (by omega), ?_⟩
    walk_at "w"
    rw [eD]
    refine ⟨by rw [List.length_map]; exact Nat.lt_of_lt_of_le (show (gaTo ks 0 n fo).length < 1001 by omega) (by decide), ?_⟩
    have e5 : (gaTo ks 0 n fo).map pr ++ [.tup [.tup (ks.map keyT ++ [T.int (n : Nat)]), plt t]] = (gaTo ks 0 n fo ++ [(ks ++ [iK n], plt t)]).map pr := by
      rw [List.map_append]
      show _ = _ ++ [T.tup [T.tup ((ks ++ [iK n]).map keyT), plt t]]
      rw [List.map_append]
      rfl
    rw [e5]
    have s2 : Sub (up M D (.lst ((gaTo ks 0 n fo ++ [(ks ++ [iK n], plt t)]).map pr))) (up M1 D (.lst ((gaTo ks 0 n fo ++ [(ks ++ [iK n], plt t)]).map pr))) := s1.re nD
    generalize up M1 D (.lst ((gaTo ks 0 n fo ++ [(ks ++ [iK n], plt t)]).map pr)) = M2 at s2 ⊢
    have eD2 := s2.at
    obtain ⟨nm, td, i⟩ := t
    dsimp only at k1 k2 gl
    cases i with
    | nil =>
      refine ⟨hlt, _, _, rfl, ?_⟩
      rw [gaTo_succ ht, Nat.zero_add]
      exact s2
    | cons a b c d' =>
      walk_at "w"
      rw [eD2]
      refine ⟨by rw [List.length_map]; show ks.length + 1 ≤ sizeLine; exact lineM (by omega), ?_⟩
      have ek : ks.map keyT ++ [T.int (n : Nat)] = (ks ++ [iK n]).map keyT := by rw [List.map_append]; rfl
      rw [ek]
      refine ⟨.cons a b c d', ks ++ [iK n], rfl, rfl, (by intro z; cases z), by show (Fo.cons a b c d').depth ≤ d; omega, by rw [List.length_append]; show ks.length + 1 + d ≤ 50; omega, by show (Fo.cons a b c d').cnt ≤ 1000; omega, fun q nq => ?_⟩
      have nDq : D ≠ q := ne_free eD2 nq
      walk_at "w"
      rw [up_ne nDq, eD2, up_same]
      refine ⟨?_, hlt, _, _, rfl, ?_⟩
      · rw [List.length_map, List.length_map, gaF_len, List.length_append]
        refine lineM ?_
        show (gaTo ks 0 n fo).length + 1 + (Fo.cons a b c d').cnt ≤ _
        have : (gaTo ks 0 n fo).length + 1 + (Fo.cons a b c d').cnt ≤ fo.cnt := gl
        omega
      · have e6 : (gaTo ks 0 n fo ++ [(ks ++ [iK n], plt (nm, td, Fo.cons a b c d'))]).map pr ++ (gaF (ks ++ [iK n]) 0 (.cons a b c d')).map pr = (gaTo ks 0 (n + 1) fo).map pr := by
          rw [gaTo_succ ht, Nat.zero_add, ← List.map_append, List.append_assoc]
          rfl
        rw [e6]
        exact (s2.trans (.new nq)).re nD
  · rintro τ M1 ⟨hn, v3, v4, rfl, s1⟩
    have e : gaTo ks 0 (pairs 0 fo.ts).length fo = gaF ks 0 fo := by rw [pairs_len, Fo.ts_len]; exact gaTo_all _ _ _
    rw [e] at s1
    exact ⟨_, s1, h D nD⟩
theorem ok__law_rows {C_Label : Addr} {C_NoPath : Addr} {f : Addr} {fd : FuncData} (F : Fun K "_law_rows" "_law_rows" s__law_rows f fd) (g : Glb K mg C_Label C_NoPath) (hb : Binds K fd ["_law_places", "_law_path"] []) (hm : mg "_law_rows" = some (.ref f))  : ∀ d, FnOk P w K mg base CX0 (1 + d) f fd ["_law_places", "_law_path"] (lift (sp__law_rows d))
  | 0 => fn_never <|
    fun ts M R E h => by
      obtain ⟨_, _, rfl, h⟩ := sp2_of h
      obtain ⟨fo, ks, _, _, ne, dp, _⟩ := h
      exact ne (Fo.nil_of_depth (Nat.le_zero.mp dp))
  | d + 1 => ok__law_rows_S F g ⟨_, f, fd, ok__law_rows F g hb hm  d, fun _ _ _ _ _ z => z, hm, F.kp, hb⟩ 
end
end L3
set_option Elab.async false
set_option linter.all false
set_option maxRecDepth 100000
set_option maxHeartbeats 1000000
namespace L3
open PySem PySem.Spec PyProof.Rows L2
local macro_rules | `(tactic| walk_at "w") => `(tactic| ((conv => whnf); try dsimp only))

abbrev Kds := List (Str × List Str)
def gkd (ks : Kds) (x : Str) : List Str := (ks.lookup x).getD []
inductive KvR (M : Mh) : List (Key × T) → Kds → Prop
  | nil : KvR M [] []
  | cons {n : Str} {t : T} {l : List Str} {kvs : List (Key × T)} {ks : Kds} : StrsIn M t l → KvR M kvs ks → KvR M ((.inr n, t) :: kvs) ((n, l) :: ks)
theorem KvR.sub {M M' : Mh} (s : Sub M M') : ∀ {kvs : List (Key × T)} {ks : Kds}, KvR M kvs ks → KvR M' kvs ks
  | _, _, .nil => .nil
  | _, _, .cons h r => .cons (h.sub s) (r.sub s)
theorem KvR.len {M : Mh} : ∀ {kvs : List (Key × T)} {ks : Kds}, KvR M kvs ks → kvs.length = ks.length
  | _, _, .nil => rfl
  | _, _, .cons _ r => congrArg (· + 1) r.len
theorem KvR.get {M : Mh} {x : Str} {d : T} (hd : StrsIn M d []) : ∀ {kvs : List (Key × T)} {ks : Kds}, KvR M kvs ks → StrsIn M ((valT kvs (.inr x)).getD d) (gkd ks x)
  | _, _, .nil => hd
  | _, _, .cons (n := n) (t := t) (l := l) (kvs := kvs) (ks := ks) h r => by
    have ih := r.get (x := x) hd
    unfold valT gkd at ih ⊢
    rw [List.find?_cons, List.lookup_cons]
    by_cases e : n = x
    · subst e
      simp only [decide_true, Option.map_some, beq_self_eq_true, Option.getD_some]
      exact h
    · have e1 : (x == n) = false := beq_eq_false_iff_ne.mpr fun z => e z.symm
      have e2 : decide ((Sum.inr n : Key) = Sum.inr x) = false := decide_eq_false fun z => e (Sum.inr.inj z)
      rw [e1, e2]
      exact ih
def Knd (M : Mh) (t : T) (ks : Kds) : Prop := ∃ a kvs, t = .ref a ∧ M a = some (.dK kvs) ∧ KvR M kvs ks
theorem Knd.sub {M M' : Mh} {t : T} {ks : Kds} (h : Knd M t ks) (s : Sub M M') : Knd M' t ks := by
  obtain ⟨a, kvs, e, ea, r⟩ := h
  exact ⟨a, kvs, e, s _ _ ea, r.sub s⟩
structure KdsOk (ks : Kds) : Prop where
  len : ks.length ≤ 40
  each : ∀ q ∈ ks, NmOk q.1 ∧ q.2.length ≤ 40 ∧ ∀ y ∈ q.2, NmOk y
/-- what something is, by any number of steps -/
inductive Rch (ks : Kds) (x : Str) : Str → Prop
  | one {y : Str} : y ∈ gkd ks x → Rch ks x y
  | more {y z : Str} : Rch ks x y → z ∈ gkd ks y → Rch ks x z
def uniK (ks : Kds) : List Str := ks.flatMap (·.2)
theorem look_mem {x : Str} {l : List Str} : ∀ {ks : Kds}, ks.lookup x = some l → (x, l) ∈ ks
  | [], e => by cases e
  | (n, m) :: ks, e => by
    rw [List.lookup_cons] at e
    cases g : (x == n) with
    | true =>
      rw [g] at e
      cases e
      rw [beq_iff_eq.mp g]
      exact .head _
    | false =>
      rw [g] at e
      exact .tail _ (look_mem e)
theorem gkd_in {ks : Kds} {x : Str} (h : gkd ks x ≠ []) : (x, gkd ks x) ∈ ks := by
  unfold gkd at h ⊢
  cases e : ks.lookup x with
  | none => rw [e] at h; exact absurd rfl h
  | some l => exact look_mem e
theorem gkd_uni {ks : Kds} {x y : Str} (h : y ∈ gkd ks x) : y ∈ uniK ks := List.mem_flatMap.mpr ⟨_, gkd_in (List.ne_nil_of_mem h), h⟩
theorem Rch.uni {ks : Kds} {x y : Str} (h : Rch ks x y) : y ∈ L3.uniK ks := by
  cases h with
  | one h => exact gkd_uni h
  | more _ h => exact gkd_uni h
theorem gkd_len {ks : Kds} (ok : KdsOk ks) (x : Str) : (gkd ks x).length ≤ 40 := by
  by_cases e : gkd ks x = []
  · rw [e]; exact Nat.zero_le _
  · exact (ok.each _ (gkd_in e)).2.1
theorem uniK_len : ∀ {ks : Kds}, (∀ q ∈ ks, q.2.length ≤ 40) → (uniK ks).length ≤ 40 * ks.length
  | [], _ => Nat.zero_le _
  | q :: ks, h => by
    have ih := uniK_len (ks := ks) fun q hq => h q (.tail _ hq)
    have h1 := h q (.head _)
    unfold uniK at ih ⊢
    rw [List.flatMap_cons, List.length_append, List.length_cons]
    omega
def fTr (x : Str) : Key × T := (.inr x, .bl true)
theorem valT_F (F : List Str) (z : Str) : valT (F.map fTr) (.inr z) = if z ∈ F then some (.bl true) else none := by
  unfold valT
  induction F with
  | nil => rfl
  | cons x F ih =>
    rw [List.map_cons, List.find?_cons]
    by_cases e : x = z
    · subst e
      rw [if_pos (.head _)]
      simp [fTr]
    · have e2 : decide ((fTr x).1 = Sum.inr z) = false := decide_eq_false fun q => e (Sum.inr.inj q)
      rw [e2]
      show Option.map _ (List.find? _ (F.map fTr)) = _
      rw [ih]
      by_cases g : z ∈ F
      · rw [if_pos g, if_pos (.tail _ g)]
      · rw [if_neg g, if_neg (fun q => (List.mem_cons.mp q).elim (fun q => e q.symm) g)]
theorem putT_F {F : List Str} {z : Str} (h : z ∉ F) : putT (F.map fTr) (.inr z) (.bl true) = (F ++ [z]).map fTr := by
  unfold putT
  rw [if_neg, List.map_append]
  · rfl
  · rw [Bool.not_eq_true, List.any_eq_false]
    intro q hq
    obtain ⟨x, hx, rfl⟩ := List.mem_map.mp hq
    rw [decide_eq_true_eq]
    exact fun e => h (Sum.inr.inj e ▸ hx)
/-- found, and not looked at yet -/
structure Clo (ks : Kds) (one : Str) (F ns : List Str) : Prop where
  nd : F.Nodup
  rF : ∀ x ∈ F, Rch ks one x
  rn : ∀ x ∈ ns, Rch ks one x
  s0 : ∀ y ∈ gkd ks one, y ∈ F ∨ y ∈ ns
  s1 : ∀ x ∈ F, ∀ y ∈ gkd ks x, y ∈ F ∨ y ∈ ns
theorem Clo.start (ks : Kds) (one : Str) : Clo ks one [] (gkd ks one) := ⟨.nil, (fun _ z => by cases z), fun _ h => .one h, fun _ h => .inr h, fun _ z => by cases z⟩
theorem Clo.drop {ks : Kds} {one z : Str} {F ns : List Str} (h : Clo ks one F (ns ++ [z])) (hz : z ∈ F) : Clo ks one F ns := by
  have q : ∀ {y : Str}, y ∈ F ∨ y ∈ ns ++ [z] → y ∈ F ∨ y ∈ ns := fun {y} g => g.elim .inl fun g => (List.mem_append.mp g).elim .inr fun g => .inl (List.mem_singleton.mp g ▸ hz)
  exact ⟨h.nd, h.rF, fun x hx => h.rn x (List.mem_append.mpr (.inl hx)), fun y hy => q (h.s0 y hy), fun x hx y hy => q (h.s1 x hx y hy)⟩
theorem Clo.take {ks : Kds} {one z : Str} {F ns : List Str} (h : Clo ks one F (ns ++ [z])) (hz : z ∉ F) : Clo ks one (F ++ [z]) (ns ++ gkd ks z) := by
  have rz := h.rn z (List.mem_append.mpr (.inr (.head _)))
  have q : ∀ {y : Str}, y ∈ F ∨ y ∈ ns ++ [z] → y ∈ F ++ [z] ∨ y ∈ ns ++ gkd ks z := fun {y} g => g.elim (fun g => .inl (List.mem_append.mpr (.inl g))) fun g => (List.mem_append.mp g).elim (fun g => .inr (List.mem_append.mpr (.inl g))) fun g => .inl (List.mem_append.mpr (.inr g))
  refine ⟨?_, fun x hx => ?_, fun x hx => ?_, fun y hy => q (h.s0 y hy), fun x hx y hy => ?_⟩
  · refine List.nodup_append.mpr ⟨h.nd, List.pairwise_singleton _ _, fun a ha b hb e => hz ?_⟩
    rw [List.mem_singleton.mp hb] at e
    rw [← e]
    exact ha
  · rcases List.mem_append.mp hx with hx | hx
    · exact h.rF x hx
    · rw [List.mem_singleton.mp hx]
      exact rz
  · rcases List.mem_append.mp hx with hx | hx
    · exact h.rn x (List.mem_append.mpr (.inl hx))
    · exact .more rz hx
  · rcases List.mem_append.mp hx with hx | hx
    · exact q (h.s1 x hx y hy)
    · rw [List.mem_singleton.mp hx] at hy
      exact .inr (List.mem_append.mpr (.inr hy))
theorem Clo.done {ks : Kds} {one : Str} {F : List Str} (h : Clo ks one F []) (x : Str) : x ∈ F ↔ Rch ks one x := by
  refine ⟨h.rF x, fun r => ?_⟩
  induction r with
  | one g => exact (h.s0 _ g).elim id fun z => by cases z
  | more _ g ih => exact (h.s1 _ ih _ g).elim id fun z => by cases z
theorem Clo.len {ks : Kds} {one : Str} {F ns : List Str} (ok : KdsOk ks) (h : Clo ks one F ns) : F.length ≤ 1600 := by
  have h1 := nodup_len F (uniK ks) h.nd fun x hx => (h.rF x hx).uni
  have h2 := uniK_len fun q hq => (ok.each q hq).2.1
  have h3 := ok.len
  omega
section
variable {P : Program} {w : World} {K : Fg} {mg : Str → Option Value} {base : Heap}
/-! ### kinds_of -/
abbrev s_kinds_of : Stmt := topS 88
abbrev nm_kinds_of : List Str := ["kinds", "one", "found", "new", "name"]
theorem sc_kinds_of : FnScope nm_kinds_of ["kinds", "one"] (defScope s_kinds_of) := ⟨rfl, rfl, rfl, by decide +kernel, rfl, by decide +kernel, by decide +kernel⟩
def sp_kinds_of : Sp3 := sp2 fun k o M R _ => ∃ (one : Str) (ks : Kds), o = .str one ∧ Knd M k ks ∧ KdsOk ks ∧ ∀ (M' : Mh) (D : Addr) (F : List Str), Sub M M' → M' D = some (.dK (F.map fTr)) → (∀ x, x ∈ F ↔ Rch ks one x) → F.length ≤ 1600 → R (.ref D) M'
theorem ok_kinds_of {C_Label : Addr} {C_NoPath : Addr} {f : Addr} {fd : FuncData} (F : Fun K "kinds_of" "kinds_of" s_kinds_of f fd) (g : Glb K mg C_Label C_NoPath)  : FnOk P w K mg base CX0 1 f fd ["kinds", "one"] (lift (sp_kinds_of )) := by
  refine F.ok3 sc_kinds_of (fun ts M R E h => sp2_len h) (fun cdv A outer s H E ts M R E3 hr h0 => ?_)
  obtain ⟨kinds', one', rfl, h⟩ := sp2_of h0
  refine ⟨_, (ls_cons (ls_set (i := 2) sc_kinds_of.nd rfl (by first | exact Or.inl rfl | exact Or.inr rfl) le_newK) (ls_cut (ls_set (i := 3) sc_kinds_of.nd rfl (by first | exact Or.inl rfl | exact Or.inr rfl) (le_list (by rfl) g.m_list (la_cons (le_dget2 hr (lv 0) (lv 1) (le_lst la_nil)) la_nil))) (ls_cons (ls_while PassesOwn.never (lt_c c_gt (le_len (by rfl) g.m_len (la_cons (lv 3) la_nil)) le_int) (ls_cons (ls_set (i := 4) sc_kinds_of.nd rfl (by first | exact Or.inl rfl | exact Or.inr rfl) (le_pop (lv 3))) (ls_one (ls_if (lt_dnotin hr (lv 4) (lv 2)) (ls_cons (ls_put hr (lv 2) (lv 4) le_bl) (ls_cut (ls_expr (le_extendB (lv 3) (la_cons (le_dget2 hr (lv 0) (lv 4) (le_lst la_nil)) la_nil))) ls_nil)) ls_nil)))) (ls_one (ls_ret (lv 2)))))), ?_⟩
  obtain ⟨one, ks, rfl, ⟨a, kvs, rfl, ea, kr⟩, ok, h⟩ := h
  intro q1 nq1
  have s1 : Sub M (up M q1 (.dK [])) := .new nq1
  have e1 : (up M q1 (.dK [])) q1 = some (.dK []) := up_same
  generalize up M q1 (.dK []) = M1 at s1 e1 ⊢
  refine ⟨fun τ M3 => ∃ q, τ = [some (.ref a), some (.str one), some (.ref q1), some (.ref q), none] ∧ M3 q = some (.lst ((gkd ks one).map T.str)) ∧ Sub M1 M3 ∧ M1 q = none, ?_, ?_⟩
  · refine ⟨.inl ⟨kvs, s1 _ _ ea⟩, ?_⟩
    intro q2 nq2
    have s2 : Sub M1 (up M1 q2 (.lst [])) := .new nq2
    have e2 : (up M1 q2 (.lst [])) q2 = some (.lst []) := up_same
    generalize up M1 q2 (.lst []) = M2 at s2 e2 ⊢
    have ea2 := s2 _ _ (s1 _ _ ea)
    rw [show look M2 (.ref a) (.str one) = some (valT kvs (.inr one)) by unfold look; simp only [ea2, toKey]]
    have key : StrsIn M2 ((valT kvs (.inr one)).getD (.ref q2)) (gkd ks one) := (kr.sub (s1.trans s2)).get (.inr ⟨q2, rfl, e2⟩)
    have fr : ∀ {q : Addr}, M2 q = none → M1 q = none := fun {q} n => by
      cases e : M1 q with
      | none => rfl
      | some o => rw [s2 _ _ e] at n; cases n
    dsimp only
    rcases key with e | ⟨b, e, eb⟩
    · rw [e]
      intro q nq
      exact ⟨q, rfl, up_same, s2.trans (.new nq), fr nq⟩
    · rw [e]
      walk_at "w"
      rw [eb]
      intro q nq
      exact ⟨q, rfl, up_same, s2.trans (.new nq), fr nq⟩
  · rintro τ M3 ⟨q, rfl, eq, s3, nq⟩
    have nq1 : M q1 = none := nq1
    have nqM : M q = none := by
      cases e : M q with
      | none => rfl
      | some o => rw [s1 _ _ e] at nq; cases nq
    have nqq : q1 ≠ q := ne_free e1 nq
    refine ⟨fun m τ M4 => ∃ F ns v, τ = [some (.ref a), some (.str one), some (.ref q1), some (.ref q), v] ∧ M4 q1 = some (.dK (F.map fTr)) ∧ M4 q = some (.lst (ns.map T.str)) ∧ Sub M M4 ∧ Clo ks one F ns ∧ m = (1600 - F.length) * 41 + ns.length ∧ ns.length ≤ 41 * (F.length + 1), ⟨_, [], _, none, rfl, s3 _ _ e1, eq, s1.trans s3, Clo.start ks one, rfl, ?_⟩, ?_⟩
    · have := gkd_len ok one
      show _ ≤ 41 * (0 + 1)
      omega
    rintro m τ M4 ⟨F, ns, v, rfl, eF, en, s4, cl, rfl, hb⟩
    walk_at "w"
    rw [en]
    rcases List.eq_nil_or_concat ns with rfl | ⟨ns', z, rfl⟩
    · exact fin3.of (h M4 q1 F s4 eF cl.done (cl.len ok))
    · walk_at "w"
      rw [show decide ((0 : Int) < ((List.map T.str (ns'.concat z)).length : Int)) = true from decide_eq_true (by rw [List.length_map, List.length_concat]; omega)]
      rw [List.concat_eq_append] at en cl hb ⊢
      have hb' : ns'.length + 1 ≤ 41 * (F.length + 1) := by rwa [List.length_append] at hb
      walk_at "w"
      rw [en]
      refine ⟨ns'.map T.str, .str z, by rw [en, List.map_append]; rfl, ?_⟩
      have e5 : (up M4 q (.lst (ns'.map T.str))) q = some (.lst (ns'.map T.str)) := up_same
      have eF5 : (up M4 q (.lst (ns'.map T.str))) q1 = some (.dK (F.map fTr)) := by rw [up_ne nqq]; exact eF
      have s5 : Sub M (up M4 q (.lst (ns'.map T.str))) := fun c o e => by rw [up_ne (ne_free e nqM)]; exact s4 _ _ e
      generalize up M4 q (.lst (ns'.map T.str)) = M5 at e5 eF5 s5 ⊢
      walk_at "w"
      rw [show look M5 (.ref q1) (.str z) = some (valT (F.map fTr) (.inr z)) by unfold look; simp only [eF5, toKey], valT_F]
      have lF := cl.len ok
      by_cases hz : z ∈ F
      · rw [if_pos hz]
        exact ⟨_, by rw [List.length_append]; exact Nat.lt_succ_self _, F, ns', _, rfl, eF5, e5, s5, cl.drop hz, rfl, by omega⟩
      · rw [if_neg hz]
        have cl2 := cl.take hz
        have lF2 := cl2.len ok
        rw [List.length_append] at lF2
        have lz := gkd_len ok z
        walk_at "w"
        rw [eF5]
        refine ⟨by rw [List.length_map]; exact Nat.lt_of_lt_of_le (show F.length < 1601 by omega) (by decide), ?_⟩
        rw [putT_F hz]
        have e6 : (up M5 q1 (.dK ((F ++ [z]).map fTr))) q = some (.lst (ns'.map T.str)) := by rw [up_ne (Ne.symm nqq)]; exact e5
        have eF6 : (up M5 q1 (.dK ((F ++ [z]).map fTr))) q1 = some (.dK ((F ++ [z]).map fTr)) := up_same
        have s6 : Sub M (up M5 q1 (.dK ((F ++ [z]).map fTr))) := fun c o e => by rw [up_ne (ne_free e nq1)]; exact s5 _ _ e
        generalize up M5 q1 (.dK ((F ++ [z]).map fTr)) = M6 at e6 eF6 s6 ⊢
        refine ⟨fun τ M7 => τ = [some (.ref a), some (.str one), some (.ref q1), some (.ref q), some (.str z)] ∧ M7 q1 = some (.dK ((F ++ [z]).map fTr)) ∧ M7 q = some (.lst ((ns' ++ gkd ks z).map T.str)) ∧ Sub M M7, ?_, ?_⟩
        · walk_at "w"
          rw [e6]
          refine ⟨.inl ⟨kvs, s6 _ _ ea⟩, ?_⟩
          intro q7 nq7
          have s7 : Sub M6 (up M6 q7 (.lst [])) := .new nq7
          have e7 : (up M6 q7 (.lst [])) q7 = some (.lst []) := up_same
          generalize up M6 q7 (.lst []) = M7 at s7 e7 ⊢
          have ea7 := s7 _ _ (s6 _ _ ea)
          rw [show look M7 (.ref a) (.str z) = some (valT kvs (.inr z)) by unfold look; simp only [ea7, toKey]]
          have key : StrsIn M7 ((valT kvs (.inr z)).getD (.ref q7)) (gkd ks z) := (kr.sub (s6.trans s7)).get (.inr ⟨q7, rfl, e7⟩)
          have e67 := s7 _ _ e6
          have fin : ∀ c o, M c = some o → (up M7 q (.lst (ns'.map T.str ++ (gkd ks z).map T.str))) c = some o := fun c o e => by
            rw [up_ne (ne_free e nqM)]
            exact s7 _ _ (s6 _ _ e)
          have hsz : (ns'.map T.str).length + ((gkd ks z).map T.str).length ≤ sizeLine := by
            rw [List.length_map, List.length_map]
            exact lineM (by omega)
          dsimp only
          rcases key with e | ⟨b, e, eb⟩
          · rw [e]
            walk_at "w"
            rw [e67]
            exact ⟨hsz, rfl, by rw [up_ne nqq]; exact s7 _ _ eF6, by rw [up_same, List.map_append], fin⟩
          · rw [e]
            walk_at "w"
            rw [e67, eb]
            exact ⟨hsz, rfl, by rw [up_ne nqq]; exact s7 _ _ eF6, by rw [up_same, List.map_append], fin⟩
        · rintro τ M7 ⟨rfl, eF7, e7, s7⟩
          refine ⟨_, ?_, F ++ [z], ns' ++ gkd ks z, _, rfl, eF7, e7, s7, cl2, rfl, ?_⟩
          · rw [List.length_append, List.length_append, List.length_append]
            have : ([z] : List Str).length = 1 := rfl
            omega
          · rw [List.length_append, List.length_append]
            have : ([z] : List Str).length = 1 := rfl
            omega
end
end L3
set_option Elab.async false
set_option linter.all false
set_option maxRecDepth 100000
set_option maxHeartbeats 1000000
namespace L3
open PySem PySem.Spec PyProof.Rows L2
local macro_rules | `(tactic| walk_at "w") => `(tactic| ((conv => whnf); try dsimp only))

/-- named, or of a kind that is named -/
noncomputable def hmf (ks : Kds) (ws : List Str) (z : Str) : Bool := @decide (z ∈ ws ∨ ∃ y ∈ ws, Rch ks z y) (Classical.propDecidable _)
theorem hmf_t {ks : Kds} {ws : List Str} {z : Str} (h : z ∈ ws ∨ ∃ y ∈ ws, Rch ks z y) : hmf ks ws z = true := @decide_eq_true _ (Classical.propDecidable _) h
theorem hmf_f {ks : Kds} {ws : List Str} {z : Str} (h : ¬ (z ∈ ws ∨ ∃ y ∈ ws, Rch ks z y)) : hmf ks ws z = false := @decide_eq_false _ (Classical.propDecidable _) h
noncomputable def isOf (ks : Kds) (x y : Str) : Bool := @decide (Rch ks x y) (Classical.propDecidable _)
theorem isOf_t {ks : Kds} {x y : Str} (h : Rch ks x y) : isOf ks x y = true := @decide_eq_true _ (Classical.propDecidable _) h
theorem isOf_f {ks : Kds} {x y : Str} (h : ¬ Rch ks x y) : isOf ks x y = false := @decide_eq_false _ (Classical.propDecidable _) h
section
variable {P : Program} {w : World} {K : Fg} {mg : Str → Option Value} {base : Heap}
/-! ### is_of -/
abbrev s_is_of : Stmt := topS 89
abbrev nm_is_of : List Str := ["kinds", "one", "other"]
theorem sc_is_of : FnScope nm_is_of ["kinds", "one", "other"] (defScope s_is_of) := ⟨rfl, rfl, rfl, by decide +kernel, rfl, by decide +kernel, by decide +kernel⟩
def sp_is_of : Sp3 := sp3 fun k o t M R _ => ∃ (x y : Str) (ks : Kds), o = .str x ∧ t = .str y ∧ Knd M k ks ∧ KdsOk ks ∧ ∀ M', Sub M M' → R (.bl (isOf ks x y)) M'
theorem ok_is_of {C_Label : Addr} {C_NoPath : Addr} {f : Addr} {fd : FuncData} (F : Fun K "is_of" "is_of" s_is_of f fd) (g : Glb K mg C_Label C_NoPath) (c_kinds_of : Cl P w K mg base "kinds_of" 1 ["kinds", "one"] (sp_kinds_of)) : FnOk P w K mg base CX0 2 f fd ["kinds", "one", "other"] (lift (sp_is_of )) := by
  refine F.ok3 sc_is_of (fun ts M R E h => sp3_len h) (fun cdv A outer s H E ts M R E3 hr h0 => ?_)
  obtain ⟨kinds', one', other', rfl, h⟩ := sp3_of h0
  refine ⟨_, (ls_one (ls_ret (le_din hr (lv 2) (le_call c_kinds_of (hr.mono (by decide)) (by rfl) (la_cons (lv 0) (la_cons (lv 1) la_nil)))))), ?_⟩
  obtain ⟨x, y, ks, rfl, rfl, hk, ok, h⟩ := h
  refine ⟨x, ks, rfl, hk, ok, fun M1 D F s1 e1 hF lF => ?_⟩
  walk_at "w"
  rw [show look M1 (.ref D) (.str y) = some (valT (F.map fTr) (.inr y)) by unfold look; simp only [e1, toKey], valT_F]
  have h' := h M1 s1
  by_cases g : y ∈ F
  · rw [if_pos g]
    rw [isOf_t ((hF y).mp g)] at h'
    exact fin3.of h'
  · rw [if_neg g]
    rw [isOf_f (fun q => g ((hF y).mpr q))] at h'
    exact fin3.of h'
/-! ### is_harmful -/
abbrev s_is_harmful : Stmt := topS 90
abbrev nm_is_harmful : List Str := ["name", "names", "kinds", "known", "other"]
theorem sc_is_harmful : FnScope nm_is_harmful ["name", "names", "kinds"] (defScope s_is_harmful) := ⟨rfl, rfl, rfl, by decide +kernel, rfl, by decide +kernel, by decide +kernel⟩
theorem StrsIn.b {M : Mh} {t : T} {ws : List Str} (h : StrsIn M t ws) : StrsB M t ws := h
def sp_is_harmful : Sp3 := sp3 fun n ns k M R _ => ∃ (z : Str) (ws : List Str) (ks : Kds), n = .str z ∧ StrsIn M ns ws ∧ ws.length ≤ 1000 ∧ Knd M k ks ∧ KdsOk ks ∧ ∀ M', Sub M M' → R (.bl (hmf ks ws z)) M'
theorem ok_is_harmful {C_Label : Addr} {C_NoPath : Addr} {f : Addr} {fd : FuncData} (F : Fun K "is_harmful" "is_harmful" s_is_harmful f fd) (g : Glb K mg C_Label C_NoPath) (c_kinds_of : Cl P w K mg base "kinds_of" 1 ["kinds", "one"] (sp_kinds_of)) : FnOk P w K mg base CX0 2 f fd ["name", "names", "kinds"] (lift (sp_is_harmful )) := by
  refine F.ok3 sc_is_harmful (fun ts M R E h => sp3_len h) (fun cdv A outer s H E ts M R E3 hr h0 => ?_)
  obtain ⟨name', names', kinds', rfl, h⟩ := sp3_of h0
  refine ⟨_, (ls_cons (ls_set (i := 3) sc_is_harmful.nd rfl (by first | exact Or.inl rfl | exact Or.inr rfl) (le_call c_kinds_of (hr.mono (by decide)) (by rfl) (la_cons (lv 2) (la_cons (lv 0) la_nil)))) (ls_one (ls_ret (le_or (le_c c_inB (lv 0) (lv 1)) (le_one (le_any rfl (by rfl) g.m_any (la_cons (le_lc0 (own := [("other", 4)]) rfl sc_is_harmful.nd (li_or (li_list (lv 1)) (li_tup (lv 1))) (blkOk_by (own := [("other", 4)]) (N := nm_is_harmful) (sc := defScope s_is_harmful) (by decide +kernel)) (sg_name 4) (only_name (by decide)) (fun _ _ _ _ _ => (pg_name (i := 4) sc_is_harmful.nd rfl (by first | exact Or.inl rfl | exact Or.inr rfl))) (fun _ _ _ _ _ => lts_nil) (fun _ _ _ _ _ => (le_din hr (lv 4) (lv 3)))) la_nil))))))), ?_⟩
  obtain ⟨z, ws, ks, rfl, hs, hl, hk, ok, h⟩ := h
  refine ⟨z, ks, rfl, hk, ok, fun M1 D F s1 e1 hF lF => ?_⟩
  refine ⟨z, ws, rfl, (hs.sub s1).b, ?_⟩
  walk_at "w"
  by_cases e : z ∈ ws
  · rw [decide_eq_true e]
    rw [hmf_t (.inl e)] at h
    exact fin3.of (h M1 s1)
  · rw [decide_eq_false e]
    have fin : ∀ (Gd : Mh → Prop), (∀ M2, Sub M1 M2 → Gd M2) → ∀ p, M1 p = none → lcBody (ws.map T.str) Gd (gNm 4) bYes (eOp (oDin id) (eVar 4) (eVar 3)) [4] (List.set (start3 nm_is_harmful [T.str z, names', kinds']) 3 (some (T.ref D))) M1 p fun x M2 => cBls (fun bs => bs.any id) [x] M2 (fin3 R) := fun Gd hG p np => by
      refine lc_mapA (g := T.str) (f := fun y => .bl (decide (y ∈ F))) np (fun acc => hG _ (.new np)) (lineM (by omega)) (fun y hy acc K q => ?_) ?_
      · have eD : (up M1 p (.lst acc)) D = some (.dK (F.map fTr)) := (Sub.new np) _ _ e1
        walk_at "w"
        rw [show look (up M1 p (.lst acc)) (.ref D) (.str y) = some (valT (F.map fTr) (.inr y)) by unfold look; simp only [eD, toKey], valT_F]
        by_cases g : y ∈ F
        · rw [if_pos g]
          rw [decide_eq_true g] at q
          exact q
        · rw [if_neg g]
          rw [decide_eq_false g] at q
          exact q
      · refine ⟨ws.map fun y => decide (y ∈ F), ?_, ?_⟩
        · rw [up_same, List.map_map]
          rfl
        · show fin3 R (T.bl ((ws.map fun y => decide (y ∈ F)).any id)) _
          have h' := h _ (s1.trans (.new (o := .lst (ws.map fun y => T.bl (decide (y ∈ F)))) np))
          by_cases g : ∃ y ∈ ws, y ∈ F
          · obtain ⟨y, hy, hyF⟩ := g
            rw [show (ws.map fun y => decide (y ∈ F)).any id = true by rw [List.any_map]; exact List.any_eq_true.mpr ⟨y, hy, decide_eq_true hyF⟩]
            rw [hmf_t (.inr ⟨y, hy, (hF y).mp hyF⟩)] at h'
            exact fin3.of h'
          · rw [show (ws.map fun y => decide (y ∈ F)).any id = false by rw [List.any_map]; exact List.any_eq_false.mpr fun y hy q => g ⟨y, hy, of_decide_eq_true q⟩]
            rw [hmf_f (fun q => q.elim e fun ⟨y, hy, r⟩ => g ⟨y, hy, (hF y).mpr r⟩)] at h'
            exact fin3.of h'
    rcases hs.sub s1 with rfl | ⟨b, rfl, eb⟩
    · refine .inr ?_
      intro p np
      exact fin _ (fun _ _ => trivial) p np
    · refine .inl ?_
      walk_at "w"
      rw [eb]
      intro p np
      exact fin _ (fun M2 s2 => s2 _ _ eb) p np
/-! ### are_names -/
abbrev s_are_names : Stmt := topS 45
abbrev nm_are_names : List Str := ["thing", "name"]
theorem sc_are_names : FnScope nm_are_names ["thing"] (defScope s_are_names) := ⟨rfl, rfl, rfl, by decide +kernel, rfl, by decide +kernel, by decide +kernel⟩
def sp_are_names : Sp3 := sp1 fun t M R _ => ∃ ws : List Str, StrsIn M t ws ∧ (∀ y ∈ ws, NmOk y) ∧ ws.length ≤ 1000 ∧ ∀ M', Sub M M' → R (.bl true) M'
theorem ok_are_names {C_Label : Addr} {C_NoPath : Addr} {f : Addr} {fd : FuncData} (F : Fun K "are_names" "are_names" s_are_names f fd) (g : Glb K mg C_Label C_NoPath) (c_is_name : Cl P w K mg base "is_name" 2 ["thing"] (sp_is_name)) : FnOk P w K mg base CX0 3 f fd ["thing"] (lift (sp_are_names )) := by
  refine F.ok3 sc_are_names (fun ts M R E h => sp1_len h) (fun cdv A outer s H E ts M R E3 hr h0 => ?_)
  obtain ⟨thing', rfl, h⟩ := sp1_of h0
  refine ⟨_, (ls_one (ls_ret (le_and (le_isi2 .lst .tup (by rfl) g.m_isinstance (lv 0) (by rfl) g.m_list (by rfl) g.m_tuple (by decide +kernel) (by decide +kernel)) (le_one (le_all rfl (by rfl) g.m_all (la_cons (le_lc0 (own := [("name", 1)]) rfl sc_are_names.nd (li_or (li_list (lv 0)) (li_tup (lv 0))) (blkOk_by (own := [("name", 1)]) (N := nm_are_names) (sc := defScope s_are_names) (by decide +kernel)) (sg_name 1) (only_name (by decide)) (fun _ _ _ _ _ => (pg_name (i := 1) sc_are_names.nd rfl (by first | exact Or.inl rfl | exact Or.inr rfl))) (fun _ _ _ _ _ => lts_nil) (fun _ _ _ _ _ => (le_call c_is_name (hr.mono (by decide)) (by rfl) (la_cons (lv 1) la_nil)))) la_nil)))))), ?_⟩
  obtain ⟨ws, hs, hw, hl, h⟩ := h
  have fin : ∀ (Gd : Mh → Prop), (∀ M2, Sub M M2 → Gd M2) → ∀ p, M p = none → lcBody (ws.map T.str) Gd (gNm 1) bYes (eCall sp_is_name N3 (aCons (eVar 1) aNil)) [1] (start3 nm_are_names [thing']) M p fun x M2 => cBls (fun bs => bs.all id) [x] M2 (fin3 R) := fun Gd hG p np => by
    refine lc_mapA (g := T.str) (f := fun _ => .bl true) np (fun acc => hG _ (.new np)) (lineM (by omega)) (fun y hy acc K q => ?_) ?_
    · refine ⟨.str y, fun z' hz => ?_, ?_⟩
      · cases hz
        exact Nat.le_trans (hw y hy).len.2 (by decide)
      · rw [show nmB (.str y) = true from hw y hy]
        exact q
    · refine ⟨ws.map fun _ => true, ?_, ?_⟩
      · rw [up_same, List.map_map]
        rfl
      · show fin3 R (T.bl ((ws.map fun _ => true).all id)) _
        rw [show (ws.map fun _ => true).all id = true by rw [List.all_map]; exact List.all_eq_true.mpr fun _ _ => rfl]
        exact fin3.of (h _ (.new np))
  rcases hs with rfl | ⟨b, rfl, eb⟩
  · refine .inr ?_
    intro p np
    exact fin _ (fun _ _ => trivial) p np
  · walk_at "w"
    rw [show L3.kd M (.ref b) = some .lst by unfold L3.kd; simp only [eb]]
    refine .inl ?_
    walk_at "w"
    rw [eb]
    intro p np
    exact fin _ (fun M2 s2 => s2 _ _ eb) p np
/-! ### check_kinds -/
abbrev s_check_kinds : Stmt := topS 91
abbrev nm_check_kinds : List Str := ["kinds", "name", "others"]
theorem sc_check_kinds : FnScope nm_check_kinds ["kinds"] (defScope s_check_kinds) := ⟨rfl, rfl, rfl, by decide +kernel, rfl, by decide +kernel, by decide +kernel⟩
theorem KvR.at {M : Mh} : ∀ {kvs : List (Key × T)} {ks : Kds} {j : Nat} {y : Key × T}, KvR M kvs ks → kvs[j]? = some y → ∃ n l, y.1 = .inr n ∧ StrsIn M y.2 l ∧ (n, l) ∈ ks
  | _, _, _, _, .nil, e => by simp at e
  | _, _, 0, y, .cons h r, e => by
    simp at e
    subst e
    exact ⟨_, _, rfl, h, .head _⟩
  | _, _, j + 1, y, .cons h r, e => by
    obtain ⟨n, l, h1, h2, h3⟩ := r.at (j := j) (by simpa using e)
    exact ⟨n, l, h1, h2, .tail _ h3⟩
def sp_check_kinds : Sp3 := sp1 fun t M R _ => ∃ ks, Knd M t ks ∧ KdsOk ks ∧ ∀ M', Sub M M' → R .non M'
theorem ok_check_kinds {C_Label : Addr} {C_NoPath : Addr} {f : Addr} {fd : FuncData} (F : Fun K "check_kinds" "check_kinds" s_check_kinds f fd) (g : Glb K mg C_Label C_NoPath) (c_are_names : Cl P w K mg base "are_names" 3 ["thing"] (sp_are_names)) (c_is_name : Cl P w K mg base "is_name" 2 ["thing"] (sp_is_name)) : FnOk P w K mg base CX0 4 f fd ["kinds"] (lift (sp_check_kinds )) := by
  refine F.ok3 sc_check_kinds (fun ts M R E h => sp1_len h) (fun cdv A outer s H E ts M R E3 hr h0 => ?_)
  obtain ⟨kinds', rfl, h⟩ := sp1_of h0
  refine ⟨_, (ls_cons (ls_if (lt_not (lt_val (le_isi .dic (by rfl) g.m_isinstance (lv 0) (by rfl) g.m_dict (by decide +kernel)))) (ls_one ls_never) ls_nil) (ls_one (ls_forI (i := 0) PassesOwn.never rfl rfl (by first | exact Or.inl rfl | exact Or.inr rfl) (by decide) (by decide) (lg_tup (by rfl) (lgs_cons (lg_name (i := 1) sc_check_kinds.nd rfl (by first | exact Or.inl rfl | exact Or.inr rfl)) (lgs_cons (lg_name (i := 2) sc_check_kinds.nd rfl (by first | exact Or.inl rfl | exact Or.inr rfl)) lgs_nil))) (ls_one (ls_if (lt_w (lw_or (lt_not (lt_val (le_call c_is_name (hr.mono (by decide)) (by rfl) (la_cons (lv 1) la_nil)))) (lw_or1 (lt_not (lt_val (le_call c_are_names (hr.mono (by decide)) (by rfl) (la_cons (lv 2) la_nil))))))) (ls_one ls_never) ls_nil))))), ?_⟩
  obtain ⟨ks, ⟨a, kvs, rfl, ea, kr⟩, ok, h⟩ := h
  walk_at "w"
  rw [show L3.kd M (.ref a) = some .dic by unfold L3.kd; simp only [ea]]
  walk_at "w"
  rw [ea]
  intro fz
  refine ⟨fun _ τ M' => ∃ v1 v2, τ = [some (.ref a), v1, v2] ∧ Sub (up M a (.raw fz)) M', ⟨none, none, rfl, .refl⟩, ?_, ?_⟩
  · rintro j x τ M1 hx ⟨v1, v2, rfl, s1⟩
    unfold itm at hx
    rw [List.getElem?_map] at hx
    cases hy : kvs[j]? with
    | none => rw [hy] at hx; cases hx
    | some y =>
      rw [hy] at hx
      cases hx
      obtain ⟨n, l, e1, e3, hm⟩ := kr.at hy
      obtain ⟨e2, hl, hnm⟩ := ok.each _ hm
      have hl : l.length ≤ 40 := hl
      obtain ⟨k, t⟩ := y
      cases e1
      refine ⟨.str n, fun z' hz => ?_, ?_⟩
      · cases hz
        exact Nat.le_trans e2.len.2 (by decide)
      · walk_at "w"
        rw [show nmB (keyT (Sum.inr n)) = true from e2]
        have e4 : StrsIn M1 t l := by
          rcases e3 with e | ⟨b, e, eb⟩
          · exact .inl e
          · have nb : b ≠ a := fun z => by rw [z, ea] at eb; cases eb
            exact .inr ⟨b, e, s1 _ _ (by rw [up_ne nb]; exact eb)⟩
        refine ⟨l, e4, hnm, by omega, fun M2 s2 => ?_⟩
        exact ⟨_, _, rfl, s1.trans s2⟩
  · rintro τ M1 ⟨v1, v2, rfl, s1⟩
    refine fin3.of (h _ fun b o e => ?_)
    by_cases z : b = a
    · rw [z, up_same]
      rw [z, ea] at e
      exact e
    · rw [up_ne z]
      exact s1 _ _ (by rw [up_ne z]; exact e)
end
end L3
set_option Elab.async false
set_option linter.all false
set_option maxRecDepth 100000
set_option maxHeartbeats 1000000
namespace L3
open PySem PySem.Spec PyProof.Rows L2
local macro_rules | `(tactic| walk_at "w") => `(tactic| ((conv => whnf); try dsimp only))

def hmB (p : Str → Bool) (kv : List Key × T) : Bool := match kv.2 with
  | .tup (.str z :: _) => p z
  | _ => false
def firstP (fo : Fo) (p : Str → Bool) : T := match (gaF [] 0 fo).find? (hmB p) with
  | some kv => pk kv
  | none => .non
theorem plt_nm {a b : It3} (h : some (plt a) = some (plt b)) : b.1 = a.1 := by
  obtain ⟨a1, a2, a3⟩ := a
  obtain ⟨b1, b2, b3⟩ := b
  have h := Option.some.inj h
  unfold plt at h
  injection h with h
  have h := (List.cons.inj h).1
  injection h with h
  exact h.symm
theorem find_at {α : Type} {p : α → Bool} : ∀ {l : List α} {n : Nat} {y : α}, l[n]? = some y → (∀ x ∈ l.take n, p x = false) → p y = true → l.find? p = some y
  | [], n, y, e, _, _ => by simp at e
  | x :: l, 0, y, e, _, hp => by
    simp at e
    subst e
    rw [List.find?_cons, hp]
  | x :: l, n + 1, y, e, hno, hp => by
    rw [List.find?_cons, hno x (by rw [List.take_succ_cons]; exact .head _)]
    exact find_at (n := n) (by simpa using e) (fun z hz => hno z (by rw [List.take_succ_cons]; exact .tail _ hz)) hp
section
variable {P : Program} {w : World} {K : Fg} {mg : Str → Option Value} {base : Heap}
/-! ### harmful_path -/
abbrev s_harmful_path : Stmt := topS 93
abbrev nm_harmful_path : List Str := ["label", "names", "kinds", "path"]
theorem sc_harmful_path : FnScope nm_harmful_path ["label", "names", "kinds"] (defScope s_harmful_path) := ⟨rfl, rfl, rfl, by decide +kernel, rfl, by decide +kernel, by decide +kernel⟩
def sp_harmful_path (C CN : Addr) : Sp3 := sp3 fun l ns k M R _ => ∃ (x : Addr) (fo : Fo) (us ws : List Str) (ks : Kds), l = .ref x ∧ Lab C M x fo us ∧ fo.cnt ≤ 1000 ∧ fo.depth ≤ 10 ∧ StrsIn M ns ws ∧ ws.length ≤ 1000 ∧ Knd M k ks ∧ KdsOk ks ∧ ∀ M', Sub M M' → R (firstP fo (hmf ks ws)) M'
theorem ok_harmful_path {C_Label : Addr} {C_NoPath : Addr} {f : Addr} {fd : FuncData} (F : Fun K "harmful_path" "harmful_path" s_harmful_path f fd) (g : Glb K mg C_Label C_NoPath) (c_Label_paths : ClM P w K mg base C_Label "paths" 1 ["self"] (sp_Label_paths C_Label)) (c_is_harmful : Cl P w K mg base "is_harmful" 2 ["name", "names", "kinds"] (sp_is_harmful)) (c_Label_name_at : ClMX P w K mg base C_Label "name_at" 5 ["self", "path"] (sp_Label_name_at C_Label C_NoPath)) : FnOk P w K mg base CX0 6 f fd ["label", "names", "kinds"] (lift (sp_harmful_path C_Label C_NoPath)) := by
  refine F.ok3 sc_harmful_path (fun ts M R E h => sp3_len h) (fun cdv A outer s H E ts M R E3 hr h0 => ?_)
  obtain ⟨label', names', kinds', rfl, h⟩ := sp3_of h0
  refine ⟨_, (ls_cons (ls_for PassesOwn.never rfl (li_list (le_meth0 c_Label_paths (hr.mono (by decide)) (lv 0))) (lg_name (i := 3) sc_harmful_path.nd rfl (by first | exact Or.inl rfl | exact Or.inr rfl)) (ls_one (ls_if (lt_val (le_call c_is_harmful (hr.mono (by decide)) (by rfl) (la_cons (le_meth c_Label_name_at.cl (hr.mono (by decide)) (lv 0) (la_cons (lv 3) la_nil)) (la_cons (lv 1) (la_cons (lv 2) la_nil))))) (ls_one (ls_ret (lv 3))) ls_nil))) (ls_one (ls_ret le_non))), ?_⟩
  obtain ⟨x, fo, us, ws, ks, rfl, lb, hc, hdp, hs, hl, hk, ok, h⟩ := h
  obtain ⟨D, e1, e2⟩ := id lb
  walk_at "w"
  rw [e1]
  refine ⟨⟨rfl, lbF_no (by decide +kernel)⟩, x, fo, us, rfl, lb, fun p np => ?_⟩
  have s1 : Sub M (up M p (.lst (pathsT fo))) := .new np
  have e1' : (up M p (.lst (pathsT fo))) p = some (.lst (pathsT fo)) := up_same
  generalize up M p (.lst (pathsT fo)) = M1 at s1 e1' ⊢
  walk_at "w"
  rw [e1']
  refine ⟨fun n τ M2 => Sub M1 M2 ∧ (∃ v3, τ = [some (.ref x), some names', some kinds', v3]) ∧ ∀ kv ∈ (gaF [] 0 fo).take n, hmB (hmf ks ws) kv = false, ⟨.refl, ⟨none, rfl⟩, fun _ z => by cases z⟩, fun _ _ _ q => q.1 _ _ e1', ?_, ?_⟩
  · rintro n t τ M2 ht ⟨s2, ⟨v3, rfl⟩, hno⟩
    obtain ⟨y, hy, rfl⟩ := List.mem_map.mp (List.mem_of_getElem? ht)
    have hyn : (gaF [] 0 fo)[n]? = some y ∨ True := .inr trivial
    obtain ⟨y', hy', ey⟩ : ∃ y', (gaF [] 0 fo)[n]? = some y' ∧ T.tup (y'.1.map keyT) = T.tup (y.1.map keyT) := by
      unfold pathsT at ht
      rw [List.getElem?_map] at ht
      cases e : (gaF [] 0 fo)[n]? with
      | none => rw [e] at ht; cases ht
      | some y' => rw [e] at ht; exact ⟨y', rfl, Option.some.inj ht⟩
    have hm := List.mem_of_getElem? hy'
    show gNm 3 (T.tup (y.1.map keyT)) _ _ _
    rw [← ey]
    clear ey hyn ht hy
    obtain ⟨k, ns, c, it, f1, f2, f3, f4, f5, f6, f7⟩ := gaF_way2 hm
    have hat := atP_pk hm
    rw [f2] at hat
    have hpk : T.tup (y'.1.map keyT) = .tup ((iK k :: ns.map iK).map keyT) := by
      rw [f1, Nat.zero_add]
      rfl
    have hlen : ∀ xs, T.tup (y'.1.map keyT) = .tup xs → xs.length ≤ sizeLine := fun xs e => by
      rw [hpk] at e
      cases e
      rw [List.length_map, List.length_cons, List.length_map]
      exact lineM (by omega)
    have hkt : ∀ M', KT M' (T.tup (y'.1.map keyT)) := fun M' => by
      rw [hpk]
      refine .tup fun z hz => ?_
      obtain ⟨j, _, rfl⟩ := List.mem_map.mp hz
      cases j <;> first | exact .int _ | exact .str _ | exact .bl _ | exact .non
    have lb2 := lb.sub (s1.trans s2)
    obtain ⟨D2, e3, e4⟩ := id lb2
    walk_at "w"
    rw [e3]
    refine ⟨⟨rfl, lbF_no (by decide +kernel)⟩, x, fo, us, rfl, lb2, hkt _, hlen, fun it' e => ?_, fun e => by rw [show atP fo (T.tup (y'.1.map keyT)) = _ from hat] at e; cases e⟩
    have e5 : it'.1 = it.1 := plt_nm ((show atP fo (T.tup (y'.1.map keyT)) = _ from hat).symm.trans e)
    rw [e5]
    have hB : hmB (hmf ks ws) y' = hmf ks ws it.1 := by
      unfold hmB
      rw [f2]
      rfl
    refine ⟨it.1, ws, ks, rfl, hs.sub (s1.trans s2), hl, hk.sub (s1.trans s2), ok, fun M3 s3 => ?_⟩
    walk_at "w"
    cases g : hmf ks ws it.1 with
    | true =>
      refine fin3.of ?_
      have h' := h M3 ((s1.trans s2).trans s3)
      have hf : (gaF [] 0 fo).find? (hmB (hmf ks ws)) = some y' := find_at hy' hno (by rw [hB]; exact g)
      unfold firstP at h'
      rw [hf] at h'
      exact h'
    | false =>
      refine ⟨s2.trans s3, ⟨_, rfl⟩, fun kv hkv => ?_⟩
      rw [List.take_add_one, hy'] at hkv
      rcases List.mem_append.mp hkv with hkv | hkv
      · exact hno kv hkv
      · rw [List.mem_singleton.mp hkv, hB]
        exact g
  · rintro τ M2 ⟨s2, ⟨v3, rfl⟩, hno⟩
    refine fin3.of ?_
    have hf : (gaF [] 0 fo).find? (hmB (hmf ks ws)) = none := List.find?_eq_none.mpr fun kv hkv => by
      rw [hno kv (by rw [show (pathsT fo).length = (gaF [] 0 fo).length from List.length_map _, List.take_of_length_le (Nat.le_refl _)]; exact hkv)]
      decide
    have h' := h M2 (s1.trans s2)
    unfold firstP at h'
    rw [hf] at h'
    exact h'
end
end L3
set_option Elab.async false
set_option linter.all false
set_option maxRecDepth 100000
set_option maxHeartbeats 1000000
namespace L3
open PySem PySem.Spec PyProof.Rows L2
local macro_rules | `(tactic| walk_at "w") => `(tactic| ((conv => whnf); try dsimp only))

def firstW (us : List Str) (p : Str → Bool) : T := match us.find? p with
  | some z => .str z
  | none => .non
def harmT (fo : Fo) (us : List Str) (p : Str → Bool) : T := match (gaF [] 0 fo).find? (hmB p) with
  | some kv => .tup [.str "in", pk kv]
  | none => match us.find? p with
    | some z => .tup [.str "may", .str z]
    | none => .tup [.str "not", .non]
section
variable {P : Program} {w : World} {K : Fg} {mg : Str → Option Value} {base : Heap}
/-! ### harmful_word -/
abbrev s_harmful_word : Stmt := topS 94
abbrev nm_harmful_word : List Str := ["label", "names", "kinds", "word"]
theorem sc_harmful_word : FnScope nm_harmful_word ["label", "names", "kinds"] (defScope s_harmful_word) := ⟨rfl, rfl, rfl, by decide +kernel, rfl, by decide +kernel, by decide +kernel⟩
def sp_harmful_word (C : Addr) : Sp3 := sp3 fun l ns k M R _ => ∃ (x : Addr) (fo : Fo) (us ws : List Str) (ks : Kds), l = .ref x ∧ Lab C M x fo us ∧ StrsIn M ns ws ∧ ws.length ≤ 1000 ∧ Knd M k ks ∧ KdsOk ks ∧ ∀ M', Sub M M' → R (firstW us (hmf ks ws)) M'
theorem ok_harmful_word {C_Label : Addr} {C_NoPath : Addr} {f : Addr} {fd : FuncData} (F : Fun K "harmful_word" "harmful_word" s_harmful_word f fd) (g : Glb K mg C_Label C_NoPath) (c_Label_may : ClM P w K mg base C_Label "may" 1 ["self"] (sp_Label_may C_Label)) (c_is_harmful : Cl P w K mg base "is_harmful" 2 ["name", "names", "kinds"] (sp_is_harmful)) : FnOk P w K mg base CX0 6 f fd ["label", "names", "kinds"] (lift (sp_harmful_word C_Label)) := by
  refine F.ok3 sc_harmful_word (fun ts M R E h => sp3_len h) (fun cdv A outer s H E ts M R E3 hr h0 => ?_)
  obtain ⟨label', names', kinds', rfl, h⟩ := sp3_of h0
  refine ⟨_, (ls_cons (ls_for PassesOwn.never rfl (li_list (le_meth0 c_Label_may (hr.mono (by decide)) (lv 0))) (lg_name (i := 3) sc_harmful_word.nd rfl (by first | exact Or.inl rfl | exact Or.inr rfl)) (ls_one (ls_if (lt_val (le_call c_is_harmful (hr.mono (by decide)) (by rfl) (la_cons (lv 3) (la_cons (lv 1) (la_cons (lv 2) la_nil))))) (ls_one (ls_ret (lv 3))) ls_nil))) (ls_one (ls_ret le_non))), ?_⟩
  obtain ⟨x, fo, us, ws, ks, rfl, lb, hs, hl, hk, ok, h⟩ := h
  obtain ⟨D, e1, e2⟩ := id lb
  walk_at "w"
  rw [e1]
  refine ⟨⟨rfl, lbF_no (by decide +kernel)⟩, x, fo, us, rfl, lb, fun p np => ?_⟩
  have s1 : Sub M (up M p (.lst (us.map T.str))) := .new np
  have e1' : (up M p (.lst (us.map T.str))) p = some (.lst (us.map T.str)) := up_same
  generalize up M p (.lst (us.map T.str)) = M1 at s1 e1' ⊢
  walk_at "w"
  rw [e1']
  refine ⟨fun n τ M2 => Sub M1 M2 ∧ (∃ v3, τ = [some (.ref x), some names', some kinds', v3]) ∧ ∀ z ∈ us.take n, hmf ks ws z = false, ⟨.refl, ⟨none, rfl⟩, fun _ z => by cases z⟩, fun _ _ _ q => q.1 _ _ e1', ?_, ?_⟩
  · rintro n t τ M2 ht ⟨s2, ⟨v3, rfl⟩, hno⟩
    rw [List.getElem?_map] at ht
    cases hz : us[n]? with
    | none => rw [hz] at ht; cases ht
    | some z =>
      rw [hz] at ht
      cases ht
      refine ⟨z, ws, ks, rfl, hs.sub (s1.trans s2), hl, hk.sub (s1.trans s2), ok, fun M3 s3 => ?_⟩
      walk_at "w"
      cases g : hmf ks ws z with
      | true =>
        refine fin3.of ?_
        have h' := h M3 ((s1.trans s2).trans s3)
        have hf : us.find? (hmf ks ws) = some z := find_at hz hno g
        unfold firstW at h'
        rw [hf] at h'
        exact h'
      | false =>
        refine ⟨s2.trans s3, ⟨_, rfl⟩, fun y hy => ?_⟩
        rw [List.take_add_one, hz] at hy
        rcases List.mem_append.mp hy with hy | hy
        · exact hno y hy
        · rw [List.mem_singleton.mp hy]
          exact g
  · rintro τ M2 ⟨s2, ⟨v3, rfl⟩, hno⟩
    refine fin3.of ?_
    have hf : us.find? (hmf ks ws) = none := List.find?_eq_none.mpr fun y hy => by
      rw [hno y (by rw [List.length_map, List.take_of_length_le (Nat.le_refl _)]; exact hy)]
      decide
    have h' := h M2 (s1.trans s2)
    unfold firstW at h'
    rw [hf] at h'
    exact h'
/-! ### harm_at_all -/
abbrev s_harm_at_all : Stmt := topS 95
abbrev nm_harm_at_all : List Str := ["label", "names", "kinds", "path", "word"]
theorem sc_harm_at_all : FnScope nm_harm_at_all ["label", "names", "kinds"] (defScope s_harm_at_all) := ⟨rfl, rfl, rfl, by decide +kernel, rfl, by decide +kernel, by decide +kernel⟩
def sp_harm_at_all (C CN : Addr) : Sp3 := sp3 fun l ns k M R _ => ∃ (x : Addr) (fo : Fo) (us ws : List Str) (ks : Kds), l = .ref x ∧ Lab C M x fo us ∧ fo.cnt ≤ 1000 ∧ fo.depth ≤ 10 ∧ StrsIn M ns ws ∧ ws.length ≤ 1000 ∧ Knd M k ks ∧ KdsOk ks ∧ ∀ M', Sub M M' → R (harmT fo us (hmf ks ws)) M'
theorem ok_harm_at_all {C_Label : Addr} {C_NoPath : Addr} {f : Addr} {fd : FuncData} (F : Fun K "harm_at_all" "harm_at_all" s_harm_at_all f fd) (g : Glb K mg C_Label C_NoPath) (c_harmful_word : Cl P w K mg base "harmful_word" 6 ["label", "names", "kinds"] (sp_harmful_word C_Label)) (c_harmful_path : Cl P w K mg base "harmful_path" 6 ["label", "names", "kinds"] (sp_harmful_path C_Label C_NoPath)) : FnOk P w K mg base CX0 7 f fd ["label", "names", "kinds"] (lift (sp_harm_at_all C_Label C_NoPath)) := by
  refine F.ok3 sc_harm_at_all (fun ts M R E h => sp3_len h) (fun cdv A outer s H E ts M R E3 hr h0 => ?_)
  obtain ⟨label', names', kinds', rfl, h⟩ := sp3_of h0
  refine ⟨_, (ls_cons (ls_set (i := 3) sc_harm_at_all.nd rfl (by first | exact Or.inl rfl | exact Or.inr rfl) (le_call c_harmful_path (hr.mono (by decide)) (by rfl) (la_cons (lv 0) (la_cons (lv 1) (la_cons (lv 2) la_nil))))) (ls_cons (ls_if (lt_c c_notN (lv 3) le_non) (ls_one (ls_ret (le_tup (la_cons le_str (la_cons (lv 3) la_nil))))) ls_nil) (ls_cons (ls_set (i := 4) sc_harm_at_all.nd rfl (by first | exact Or.inl rfl | exact Or.inr rfl) (le_call c_harmful_word (hr.mono (by decide)) (by rfl) (la_cons (lv 0) (la_cons (lv 1) (la_cons (lv 2) la_nil))))) (ls_one (ls_ret (le_if (lt_c c_isN (lv 4) le_non) (le_tup (la_cons le_str (la_cons le_non la_nil))) (le_tup (la_cons le_str (la_cons (lv 4) la_nil))))))))), ?_⟩
  obtain ⟨x, fo, us, ws, ks, rfl, lb, hc, hdp, hs, hl, hk, ok, h⟩ := h
  refine ⟨x, fo, us, ws, ks, rfl, lb, hc, hdp, hs, hl, hk, ok, fun M1 s1 => ?_⟩
  unfold firstP
  unfold harmT at h
  cases e : (gaF [] 0 fo).find? (hmB (hmf ks ws)) with
  | some kv =>
    rw [e] at h
    walk_at "w"
    exact fin3.of (h M1 s1)
  | none =>
    rw [e] at h
    walk_at "w"
    refine ⟨x, fo, us, ws, ks, rfl, lb.sub s1, hs.sub s1, hl, hk.sub s1, ok, fun M2 s2 => ?_⟩
    unfold firstW
    cases e2 : us.find? (hmf ks ws) with
    | some z =>
      rw [e2] at h
      walk_at "w"
      exact fin3.of (h M2 (s1.trans s2))
    | none =>
      rw [e2] at h
      walk_at "w"
      exact fin3.of (h M2 (s1.trans s2))
/-! ### harm -/
abbrev s_harm : Stmt := topS 97
abbrev nm_harm : List Str := ["label", "names", "kinds", "limit", "known"]
theorem sc_harm : FnScope nm_harm ["label", "names", "kinds", "limit"] (defScope s_harm) := ⟨rfl, rfl, rfl, by decide +kernel, rfl, by decide +kernel, by decide +kernel⟩
def sp_harm (C CN : Addr) : Sp3 := sp4 fun l ns k lim M R _ => ∃ (x : Addr) (fo : Fo) (us ws : List Str) (ks : Kds), l = .ref x ∧ Lab C M x fo us ∧ fo.cnt ≤ 1000 ∧ fo.depth ≤ 10 ∧ StrsIn M ns ws ∧ (∀ y ∈ ws, NmOk y) ∧ ws.length ≤ 1000 ∧ Knd M k ks ∧ KdsOk ks ∧ lim = .non ∧ ∀ M', Sub M M' → R (harmT fo us (hmf ks ws)) M'
theorem ok_harm {C_Label : Addr} {C_NoPath : Addr} {f : Addr} {fd : FuncData} (F : FunD K "harm" "harm" (defArgs s_harm) (defBody s_harm) (defScope s_harm) [.non, .non] [] f fd) (g : Glb K mg C_Label C_NoPath) (c_harm_at_all : Cl P w K mg base "harm_at_all" 7 ["label", "names", "kinds"] (sp_harm_at_all C_Label C_NoPath)) (c_check_kinds : Cl P w K mg base "check_kinds" 4 ["kinds"] (sp_check_kinds)) (c_check_names : Cl P w K mg base "check_names" 3 ["names"] (sp_check_names)) : FnOk P w K mg base CX0 8 f fd ["label", "names", "kinds", "limit"] (lift (sp_harm C_Label C_NoPath)) := by
  refine F.ok3 sc_harm (fun ts M R E h => sp4_len h) (fun cdv A outer s H E ts M R E3 hr h0 => ?_)
  obtain ⟨label', names', kinds', limit', rfl, h⟩ := sp4_of h0
  refine ⟨_, (ls_cons (ls_expr (le_call c_check_names (hr.mono (by decide)) (by rfl) (la_cons (lv 1) la_nil))) (ls_cut (ls_set (i := 4) sc_harm.nd rfl (by first | exact Or.inl rfl | exact Or.inr rfl) (le_if (lt_c c_isN (lv 2) le_non) le_newK (lv 2))) (ls_cons (ls_expr (le_call c_check_kinds (hr.mono (by decide)) (by rfl) (la_cons (lv 4) la_nil))) (ls_cons (ls_if (lt_c c_isN (lv 3) le_non) (ls_one (ls_ret (le_call c_harm_at_all (hr.mono (by decide)) (by rfl) (la_cons (lv 0) (la_cons (lv 1) (la_cons (lv 4) la_nil)))))) ls_nil) (ls_cons ls_never (ls_one ls_never)))))), ?_⟩
  obtain ⟨x, fo, us, ws, ks, rfl, lb, hc, hdp, hs, hw, hl, hk, ok, rfl, h⟩ := h
  refine ⟨ws, hs, hw, hl, ?_⟩
  refine ⟨fun τ M1 => ∃ t, τ = [some (.ref x), some names', some kinds', some .non, some t] ∧ Sub M M1 ∧ Knd M1 t ks, ?_, ?_⟩
  · obtain ⟨a, kvs, rfl, r⟩ := hk
    walk_at "w"
    exact ⟨_, rfl, .refl, a, kvs, rfl, r⟩
  · rintro τ M1 ⟨t, rfl, s1, k1⟩
    refine ⟨ks, k1, ok, fun M2 s2 => ?_⟩
    walk_at "w"
    refine ⟨x, fo, us, ws, ks, rfl, lb.sub (s1.trans s2), hc, hdp, hs.sub (s1.trans s2), hl, k1.sub s2, ok, fun M3 s3 => ?_⟩
    exact fin3.of (h M3 ((s1.trans s2).trans s3))
end
end L3
set_option Elab.async false
set_option linter.all false
set_option maxRecDepth 100000
set_option maxHeartbeats 1000000
namespace L3
open PySem PySem.Spec PyProof.Rows L2
local macro_rules | `(tactic| walk_at "w") => `(tactic| ((conv => whnf); try dsimp only))

def putD (ks : Kds) (n : Str) (l : List Str) : Kds := if (ks.any fun q => decide (q.1 = n)) = true then ks.map (fun q => if q.1 = n then (q.1, l) else q) else ks ++ [(n, l)]
theorem KvR.any {M : Mh} {n : Str} : ∀ {kvs : List (Key × T)} {ks : Kds}, KvR M kvs ks → (kvs.any fun kv => decide (kv.1 = .inr n)) = ks.any fun q => decide (q.1 = n)
  | _, _, .nil => rfl
  | _, _, .cons (n := m) h r => by
    rw [List.any_cons, List.any_cons, r.any]
    congr 1
    by_cases e : m = n
    · rw [decide_eq_true (by rw [e]), decide_eq_true e]
    · rw [decide_eq_false (fun z => e (Sum.inr.inj z)), decide_eq_false e]
theorem KvR.repl {M : Mh} {n : Str} {t : T} {l : List Str} (h : StrsIn M t l) : ∀ {kvs : List (Key × T)} {ks : Kds}, KvR M kvs ks → KvR M (kvs.map fun kv => if kv.1 = .inr n then (kv.1, t) else kv) (ks.map fun q => if q.1 = n then (q.1, l) else q)
  | _, _, .nil => .nil
  | _, _, .cons (n := m) h' r => by
    rw [List.map_cons, List.map_cons]
    by_cases e : m = n
    · rw [if_pos (by rw [e]), if_pos e]
      exact .cons h (r.repl h)
    · rw [if_neg (fun z => e (Sum.inr.inj z)), if_neg e]
      exact .cons h' (r.repl h)
theorem KvR.snoc {M : Mh} {n : Str} {t : T} {l : List Str} (h : StrsIn M t l) : ∀ {kvs : List (Key × T)} {ks : Kds}, KvR M kvs ks → KvR M (kvs ++ [(.inr n, t)]) (ks ++ [(n, l)])
  | _, _, .nil => .cons h .nil
  | _, _, .cons h' r => .cons h' (r.snoc h)
theorem KvR.put {M : Mh} {n : Str} {t : T} {l : List Str} {kvs : List (Key × T)} {ks : Kds} (r : KvR M kvs ks) (h : StrsIn M t l) : KvR M (putT kvs (.inr n) t) (putD ks n l) := by
  unfold putT putD
  rw [r.any]
  split
  · exact r.repl h
  · exact r.snoc h
theorem putD_in {ks : Kds} {n : Str} {l : List Str} {q : Str × List Str} (h : q ∈ putD ks n l) : (q.1 = n ∧ q.2 = l) ∨ q ∈ ks := by
  unfold putD at h
  split at h
  · obtain ⟨p, hp, e⟩ := List.mem_map.mp h
    by_cases g : p.1 = n
    · rw [if_pos g] at e
      subst e
      exact .inl ⟨g, rfl⟩
    · rw [if_neg g] at e
      subst e
      exact .inr hp
  · rcases List.mem_append.mp h with h | h
    · exact .inr h
    · rw [List.mem_singleton.mp h]
      exact .inl ⟨rfl, rfl⟩
theorem putD_len (ks : Kds) (n : Str) (l : List Str) : (putD ks n l).length ≤ ks.length + 1 := by
  unfold putD
  split
  · rw [List.length_map]; omega
  · rw [List.length_append]; exact Nat.le_refl _
/-- kinds, free or while a loop walks them -/
def KndL (M : Mh) (t : T) (ks : Kds) : Prop := ∃ a kvs, t = .ref a ∧ (M a = some (.dK kvs) ∨ ∃ od, M a = some (.lkK od kvs)) ∧ KvR M kvs ks
theorem KndL.sub {M M' : Mh} {t : T} {ks : Kds} (h : KndL M t ks) (s : Sub M M') : KndL M' t ks := by
  obtain ⟨a, kvs, e, ea, r⟩ := h
  exact ⟨a, kvs, e, ea.imp (fun q => s _ _ q) fun ⟨od, q⟩ => ⟨od, s _ _ q⟩, r.sub s⟩
theorem Knd.l {M : Mh} {t : T} {ks : Kds} (h : Knd M t ks) : KndL M t ks := let ⟨a, kvs, e, ea, r⟩ := h; ⟨a, kvs, e, .inl ea, r⟩
theorem KndL.look {M : Mh} {a : Addr} {ks : Kds} {kvs : List (Key × T)} {z : Str} (h : M a = some (.dK kvs) ∨ ∃ od, M a = some (.lkK od kvs)) : L3.look M (.ref a) (.str z) = some (valT kvs (.inr z)) := by
  unfold L3.look
  rcases h with h | ⟨od, h⟩ <;> simp only [h, toKey]
theorem eqv_nil : ∀ ws : List Str, PyData.eqvAll (ws.map PyData.str) [] = decide (ws = [])
  | [] => rfl
  | x :: r => by
    rw [decide_eq_false (fun z => by cases z)]
    rfl
/-- found, and still to be looked at -/
structure Clw (ks : Kds) (one : Str) (F ns : List Str) : Prop where
  nd : F.Nodup
  rF : ∀ x ∈ F, Rch ks one x
  rn : ∀ x ∈ ns, x = one ∨ x ∈ F
  s1 : ∀ x, x = one ∨ x ∈ F → x ∈ ns ∨ ∀ y ∈ gkd ks x, y ∈ F
theorem Clw.done {ks : Kds} {one : Str} {F : List Str} (h : Clw ks one F []) (x : Str) : x ∈ F ↔ Rch ks one x := by
  have s : ∀ x, x = one ∨ x ∈ F → ∀ y ∈ gkd ks x, y ∈ F := fun x hx => (h.s1 x hx).elim (fun z => by cases z) id
  refine ⟨h.rF x, fun r => ?_⟩
  induction r with
  | one g => exact s _ (.inl rfl) _ g
  | more _ g ih => exact s _ (.inr ih) _ g
/-- in the midst of a name's kinds: l is left of them -/
structure Clm (ks : Kds) (one z : Str) (F ns l : List Str) : Prop where
  nd : F.Nodup
  rF : ∀ x ∈ F, Rch ks one x
  rn : ∀ x ∈ ns, x = one ∨ x ∈ F
  hz : z = one ∨ z ∈ F
  s0 : ∀ y ∈ gkd ks z, y ∈ F ∨ y ∈ l
  hl : ∀ y ∈ l, y ∈ gkd ks z
  s1 : ∀ x, x = one ∨ x ∈ F → x ∈ ns ∨ x = z ∨ ∀ y ∈ gkd ks x, y ∈ F
theorem Clw.pop {ks : Kds} {one z : Str} {F ns : List Str} (h : Clw ks one F (ns ++ [z])) : Clm ks one z F ns (gkd ks z) :=
  ⟨h.nd, h.rF, fun x hx => h.rn x (List.mem_append.mpr (.inl hx)), h.rn z (List.mem_append.mpr (.inr (.head _))), fun _ q => .inr q, fun _ q => q, fun x hx => (h.s1 x hx).elim (fun q => (List.mem_append.mp q).elim .inl fun q => .inr (.inl (List.mem_singleton.mp q))) fun q => .inr (.inr q)⟩
theorem Clm.skip {ks : Kds} {one z y : Str} {F ns l : List Str} (h : Clm ks one z F ns (y :: l)) (hy : y ∈ F) : Clm ks one z F ns l :=
  ⟨h.nd, h.rF, h.rn, h.hz, fun x hx => (h.s0 x hx).elim .inl fun q => (List.mem_cons.mp q).elim (fun q => .inl (q ▸ hy)) .inr, fun x hx => h.hl x (.tail _ hx), h.s1⟩
theorem Clm.rz {ks : Kds} {one z y : Str} {F ns l : List Str} (h : Clm ks one z F ns l) (hy : y ∈ gkd ks z) : Rch ks one y := by
  rcases h.hz with e | q
  · rw [← e]; exact .one hy
  · exact .more (h.rF z q) hy
theorem Clm.take {ks : Kds} {one z y : Str} {F ns l : List Str} (h : Clm ks one z F ns (y :: l)) (hy : y ∉ F) : Clm ks one z (F ++ [y]) (ns ++ [y]) l := by
  have up : ∀ {x : Str}, x ∈ F → x ∈ F ++ [y] := fun q => List.mem_append.mpr (.inl q)
  have ys : y ∈ F ++ [y] := List.mem_append.mpr (.inr (.head _))
  refine ⟨?_, fun x hx => ?_, fun x hx => ?_, h.hz.imp id up, fun x hx => ?_, fun x hx => h.hl x (.tail _ hx), fun x hx => ?_⟩
  · refine List.nodup_append.mpr ⟨h.nd, List.pairwise_singleton _ _, fun a ha b hb e => hy ?_⟩
    rw [List.mem_singleton.mp hb] at e
    rw [← e]
    exact ha
  · rcases List.mem_append.mp hx with hx | hx
    · exact h.rF x hx
    · rw [List.mem_singleton.mp hx]
      exact h.rz (h.hl y (.head _))
  · rcases List.mem_append.mp hx with hx | hx
    · exact (h.rn x hx).imp id up
    · rw [List.mem_singleton.mp hx]
      exact .inr ys
  · exact (h.s0 x hx).elim (fun q => .inl (up q)) fun q => (List.mem_cons.mp q).elim (fun q => .inl (q ▸ ys)) .inr
  · have key : x = one ∨ x ∈ F → x ∈ ns ++ [y] ∨ x = z ∨ ∀ w ∈ gkd ks x, w ∈ F ++ [y] := fun hx => (h.s1 x hx).elim (fun q => .inl (List.mem_append.mpr (.inl q))) fun q => .inr (q.imp id fun q w hw => up (q w hw))
    rcases hx with hx | hx
    · exact key (.inl hx)
    · rcases List.mem_append.mp hx with hx | hx
      · exact key (.inr hx)
      · exact .inl (List.mem_append.mpr (.inr hx))
theorem Clm.end_ {ks : Kds} {one z : Str} {F ns : List Str} (h : Clm ks one z F ns []) : Clw ks one F ns :=
  ⟨h.nd, h.rF, h.rn, fun x hx => (h.s1 x hx).imp id fun q => q.elim (fun e y hy => (h.s0 y (e ▸ hy)).elim id fun z => by cases z) id⟩
theorem Clm.len {ks : Kds} {one z : Str} {F ns l : List Str} (ok : KdsOk ks) (h : Clm ks one z F ns l) : F.length ≤ 1600 := by
  have h1 := nodup_len F (uniK ks) h.nd fun x hx => (h.rF x hx).uni
  have h2 := uniK_len fun q hq => (ok.each q hq).2.1
  have h3 := ok.len
  omega
theorem rch_nm {ks : Kds} {x y : Str} (ok : KdsOk ks) (h : Rch ks x y) : NmOk y := by
  obtain ⟨q, hq, hy⟩ := List.mem_flatMap.mp h.uni
  exact (ok.each q hq).2.2 y hy
section
variable {P : Program} {w : World} {K : Fg} {mg : Str → Option Value} {base : Heap}
/-! ### _law_of -/
abbrev s__law_of : Stmt := topS 115
abbrev nm__law_of : List Str := ["_law_sorts", "_law_name_here", "_law_found", "_law_waiting", "_law_one"]
theorem sc__law_of : FnScope nm__law_of ["_law_sorts", "_law_name_here"] (defScope s__law_of) := ⟨rfl, rfl, rfl, by decide +kernel, rfl, by decide +kernel, by decide +kernel⟩
def sp__law_of : Sp3 := sp2 fun k o M R _ => ∃ (one : Str) (ks : Kds), o = .str one ∧ NmOk one ∧ KndL M k ks ∧ KdsOk ks ∧ ∀ (M' : Mh) (D : Addr) (F : List Str), Sub M M' → M' D = some (.lst (F.map T.str)) → (∀ x, x ∈ F ↔ Rch ks one x) → F.length ≤ 1600 → R (.ref D) M'
theorem ok__law_of {C_Label : Addr} {C_NoPath : Addr} {f : Addr} {fd : FuncData} (F : Fun K "_law_of" "_law_of" s__law_of f fd) (g : Glb K mg C_Label C_NoPath)  : FnOk P w K mg base CX0 1 f fd ["_law_sorts", "_law_name_here"] (lift (sp__law_of )) := by
  refine F.ok3 sc__law_of (fun ts M R E h => sp2_len h) (fun cdv A outer s H E ts M R E3 hr h0 => ?_)
  obtain ⟨sorts', name_here', rfl, h⟩ := sp2_of h0
  refine ⟨_, (ls_cons (ls_set (i := 2) sc__law_of.nd rfl (by first | exact Or.inl rfl | exact Or.inr rfl) (le_lst la_nil)) (ls_cons (ls_set (i := 3) sc__law_of.nd rfl (by first | exact Or.inl rfl | exact Or.inr rfl) (le_lst (la_cons (lv 1) la_nil))) (ls_cons (ls_while PassesOwn.never (lt_c (c_ne hr) (lv 3) (le_lst la_nil)) (ls_one (ls_for PassesOwn.never rfl (li_or (li_list (le_dget2 hr (lv 0) (le_pop (lv 3)) (le_tup la_nil))) (li_tup (le_dget2 hr (lv 0) (le_pop (lv 3)) (le_tup la_nil)))) (lg_name (i := 4) sc__law_of.nd rfl (by first | exact Or.inl rfl | exact Or.inr rfl)) (ls_one (ls_if (lt_c c_notinS (lv 4) (lv 2)) (ls_cons (ls_expr (le_append (lv 2) (la_cons (lv 4) la_nil))) (ls_one (ls_expr (le_append (lv 3) (la_cons (lv 4) la_nil))))) ls_nil))))) (ls_one (ls_ret (lv 2)))))), ?_⟩
  obtain ⟨one, ks, rfl, no, ⟨a, kvs, rfl, ea, kr⟩, ok, h⟩ := h
  intro q1 nq1
  have s1 : Sub M (up M q1 (.lst [])) := .new nq1
  have e1 : (up M q1 (.lst [])) q1 = some (.lst []) := up_same
  generalize up M q1 (.lst []) = M1 at s1 e1 ⊢
  intro q2 nq2
  have s2 : Sub M1 (up M1 q2 (.lst [.str one])) := .new nq2
  have e2 : (up M1 q2 (.lst [.str one])) q2 = some (.lst [.str one]) := up_same
  generalize up M1 q2 (.lst [.str one]) = M2 at s2 e2 ⊢
  have nq1M : M q1 = none := nq1
  have nq2M : M q2 = none := by
    cases e : M q2 with
    | none => rfl
    | some o => rw [s1 _ _ e] at nq2; cases nq2
  have nqq : q1 ≠ q2 := ne_free e1 nq2
  refine ⟨fun m τ M4 => ∃ F ns v, τ = [some (.ref a), some (.str one), some (.ref q1), some (.ref q2), v] ∧ M4 q1 = some (.lst (F.map T.str)) ∧ M4 q2 = some (.lst (ns.map T.str)) ∧ Sub M M4 ∧ Clw ks one F ns ∧ m = (1600 - F.length) * 2 + ns.length ∧ ns.length ≤ F.length + 1, ⟨_, [], [one], none, rfl, s2 _ _ e1, e2, s1.trans s2, ⟨.nil, (fun _ z => by cases z), fun x hx => .inl (List.mem_singleton.mp hx), fun x hx => hx.elim (fun e => .inl (e ▸ .head _)) fun z => by cases z⟩, rfl, Nat.le_refl _⟩, ?_⟩
  rintro m τ M4 ⟨F, ns, v, rfl, eF, en, s4, cl, rfl, hb⟩
  have hns : ∀ y ∈ ns, NmOk y := fun y hy => (cl.rn y hy).elim (fun e => e ▸ no) fun q => rch_nm ok (cl.rF y q)
  intro q5 nq5
  have s5 : Sub M4 (up M4 q5 (.lst [])) := .new nq5
  have e5 : (up M4 q5 (.lst [])) q5 = some (.lst []) := up_same
  generalize up M4 q5 (.lst []) = M5 at s5 e5 ⊢
  have eF := s5 _ _ eF
  have en := s5 _ _ en
  have s4 := s4.trans s5
  refine ⟨_, _, .lst en (dts_ws _), .lst e5 .nil, (shaped_ws hns).2, (shaped_ws (ws := []) (fun _ z => by cases z)).2, ?_⟩
  rw [show PyData.eqv (.list (ns.map PyData.str)) (.list []) = decide (ns = []) from eqv_nil ns]
  rcases List.eq_nil_or_concat ns with rfl | ⟨ns', z, rfl⟩
  · have lF : F.length ≤ 1600 := by
      have h1 := nodup_len F (uniK ks) cl.nd fun x hx => (cl.rF x hx).uni
      have h2 := uniK_len fun q hq => (ok.each q hq).2.1
      have h3 := ok.len
      omega
    exact fin3.of (h M5 q1 F s4 eF cl.done lF)
  · rw [decide_eq_false (fun q => by rw [List.concat_eq_append] at q; exact List.append_ne_nil_of_right_ne_nil _ (fun q => by cases q) q)]
    rw [List.concat_eq_append] at en cl hb ⊢
    have hb0 : ns'.length ≤ F.length := by
      rw [List.length_append] at hb
      exact Nat.le_of_succ_le_succ hb
    have cm := cl.pop
    have e6 : (up M5 q2 (.lst (ns'.map T.str))) q2 = some (.lst (ns'.map T.str)) := up_same
    have eF6 : (up M5 q2 (.lst (ns'.map T.str))) q1 = some (.lst (F.map T.str)) := by rw [up_ne nqq]; exact eF
    have s6 : Sub M (up M5 q2 (.lst (ns'.map T.str))) := fun c o e => by rw [up_ne (ne_free e nq2M)]; exact s4 _ _ e
    have key : StrsIn M ((valT kvs (.inr z)).getD (.tup [])) (gkd ks z) := kr.get (.inl rfl)
    have dc : ∀ {M' : Mh}, Sub M M' → isDc M' (.ref a) := fun {M'} q => ea.elim (fun e => .inl ⟨kvs, q _ _ e⟩) fun ⟨od, e⟩ => .inr (.inr ⟨od, kvs, q _ _ e⟩)
    have lk : L3.look (up M5 q2 (.lst (ns'.map T.str))) (.ref a) (.str z) = some (valT kvs (.inr z)) := KndL.look (ks := ks) (ea.imp (fun q => s6 _ _ q) fun ⟨od, q⟩ => ⟨od, s6 _ _ q⟩)
    rcases key with e | ⟨b, e, eb⟩
    · refine .inr ?_
      refine ⟨dc s4, ?_⟩
      walk_at "w"
      rw [en]
      refine ⟨ns'.map T.str, .str z, by rw [en, List.map_append]; rfl, ?_⟩
      generalize up M5 q2 (.lst (ns'.map T.str)) = M6 at e6 eF6 s6 lk ⊢
      walk_at "w"
      rw [lk]
      dsimp only
      rw [e]
      refine ⟨fun j τ M7 => ∃ F' ns'' v, τ = [some (.ref a), some (.str one), some (.ref q1), some (.ref q2), v] ∧ M7 q1 = some (.lst (F'.map T.str)) ∧ M7 q2 = some (.lst (ns''.map T.str)) ∧ Sub M M7 ∧ Clm ks one z F' ns'' ((gkd ks z).drop j) ∧ (1600 - F'.length) * 2 + ns''.length ≤ (1600 - F.length) * 2 + ns'.length ∧ ns''.length ≤ F'.length, ⟨F, ns', _, rfl, eF6, e6, s6, cm, Nat.le_refl _, hb0⟩, fun _ _ _ _ => trivial, ?_, ?_⟩
      · rintro j x τ M7 hx ⟨F', ns'', v, rfl, e1', e2', s7, cm, hm, hb'⟩
        rw [List.getElem?_map] at hx
        cases hy : (gkd ks z)[j]? with
        | none => rw [hy] at hx; cases hx
        | some y =>
          rw [hy] at hx
          cases hx
          have hlt := (List.getElem?_eq_some_iff.mp hy).1
          have hd : (gkd ks z).drop j = y :: (gkd ks z).drop (j + 1) := by
            rw [List.drop_eq_getElem_cons hlt, (List.getElem?_eq_some_iff.mp hy).2]
          rw [hd] at cm
          have lF := cm.len ok
          walk_at "w"
          rw [e1']
          refine ⟨F', rfl, ?_⟩
          walk_at "w"
          by_cases g : y ∈ F'
          · rw [decide_eq_true g]
            exact ⟨F', ns'', _, rfl, e1', e2', s7, cm.skip g, hm, hb'⟩
          · rw [decide_eq_false g]
            have cm2 := cm.take g
            have lF2 := cm2.len ok
            rw [List.length_append] at lF2
            have l1 : ([y] : List Str).length = 1 := rfl
            walk_at "w"
            rw [e1']
            walk_at "w"
            rw [e1']
            refine ⟨by rw [List.length_map]; exact Nat.lt_of_lt_of_le (show F'.length < 1601 by omega) (by decide), ?_⟩
            have e3 : (up M7 q1 (.lst (F'.map T.str ++ [.str y]))) q2 = some (.lst (ns''.map T.str)) := by rw [up_ne (Ne.symm nqq)]; exact e2'
            walk_at "w"
            rw [e3]
            walk_at "w"
            rw [e3]
            refine ⟨by rw [List.length_map]; exact Nat.lt_of_lt_of_le (show ns''.length < 1602 by omega) (by decide), F' ++ [y], ns'' ++ [y], _, rfl, by rw [up_ne nqq, up_same, List.map_append]; rfl, by rw [up_same, List.map_append]; rfl, fun c o e => ?_, cm2, ?_, ?_⟩
            · rw [up_ne (ne_free e nq2M), up_ne (ne_free e nq1M)]
              exact s7 _ _ e
            · rw [List.length_append, List.length_append]
              omega
            · rw [List.length_append, List.length_append]
              omega
      · rintro τ M7 ⟨F', ns'', v, rfl, e1', e2', s7, cm, hm, hb'⟩
        rw [List.length_map, List.drop_eq_nil_of_le (Nat.le_refl _)] at cm
        refine ⟨_, ?_, F', ns'', v, rfl, e1', e2', s7, cm.end_, rfl, by omega⟩
        rw [List.length_append]
        exact Nat.lt_succ_of_le hm
    · refine .inl ?_
      refine ⟨dc s4, ?_⟩
      walk_at "w"
      rw [en]
      refine ⟨ns'.map T.str, .str z, by rw [en, List.map_append]; rfl, ?_⟩
      generalize up M5 q2 (.lst (ns'.map T.str)) = M6 at e6 eF6 s6 lk ⊢
      walk_at "w"
      rw [lk]
      dsimp only
      rw [e]
      walk_at "w"
      rw [s6 _ _ eb]
      refine ⟨fun j τ M7 => ∃ F' ns'' v, τ = [some (.ref a), some (.str one), some (.ref q1), some (.ref q2), v] ∧ M7 q1 = some (.lst (F'.map T.str)) ∧ M7 q2 = some (.lst (ns''.map T.str)) ∧ Sub M M7 ∧ Clm ks one z F' ns'' ((gkd ks z).drop j) ∧ (1600 - F'.length) * 2 + ns''.length ≤ (1600 - F.length) * 2 + ns'.length ∧ ns''.length ≤ F'.length, ⟨F, ns', _, rfl, eF6, e6, s6, cm, Nat.le_refl _, hb0⟩, fun _ _ _ ⟨_, _, _, _, _, _, q, _⟩ => q _ _ eb, ?_, ?_⟩
      · rintro j x τ M7 hx ⟨F', ns'', v, rfl, e1', e2', s7, cm, hm, hb'⟩
        rw [List.getElem?_map] at hx
        cases hy : (gkd ks z)[j]? with
        | none => rw [hy] at hx; cases hx
        | some y =>
          rw [hy] at hx
          cases hx
          have hlt := (List.getElem?_eq_some_iff.mp hy).1
          have hd : (gkd ks z).drop j = y :: (gkd ks z).drop (j + 1) := by
            rw [List.drop_eq_getElem_cons hlt, (List.getElem?_eq_some_iff.mp hy).2]
          rw [hd] at cm
          have lF := cm.len ok
          walk_at "w"
          rw [e1']
          refine ⟨F', rfl, ?_⟩
          walk_at "w"
          by_cases g : y ∈ F'
          · rw [decide_eq_true g]
            exact ⟨F', ns'', _, rfl, e1', e2', s7, cm.skip g, hm, hb'⟩
          · rw [decide_eq_false g]
            have cm2 := cm.take g
            have lF2 := cm2.len ok
            rw [List.length_append] at lF2
            have l1 : ([y] : List Str).length = 1 := rfl
            walk_at "w"
            rw [e1']
            walk_at "w"
            rw [e1']
            refine ⟨by rw [List.length_map]; exact Nat.lt_of_lt_of_le (show F'.length < 1601 by omega) (by decide), ?_⟩
            have e3 : (up M7 q1 (.lst (F'.map T.str ++ [.str y]))) q2 = some (.lst (ns''.map T.str)) := by rw [up_ne (Ne.symm nqq)]; exact e2'
            walk_at "w"
            rw [e3]
            walk_at "w"
            rw [e3]
            refine ⟨by rw [List.length_map]; exact Nat.lt_of_lt_of_le (show ns''.length < 1602 by omega) (by decide), F' ++ [y], ns'' ++ [y], _, rfl, by rw [up_ne nqq, up_same, List.map_append]; rfl, by rw [up_same, List.map_append]; rfl, fun c o e => ?_, cm2, ?_, ?_⟩
            · rw [up_ne (ne_free e nq2M), up_ne (ne_free e nq1M)]
              exact s7 _ _ e
            · rw [List.length_append, List.length_append]
              omega
            · rw [List.length_append, List.length_append]
              omega
      · rintro τ M7 ⟨F', ns'', v, rfl, e1', e2', s7, cm, hm, hb'⟩
        rw [List.length_map, List.drop_eq_nil_of_le (Nat.le_refl _)] at cm
        refine ⟨_, ?_, F', ns'', v, rfl, e1', e2', s7, cm.end_, rfl, by omega⟩
        rw [List.length_append]
        exact Nat.lt_succ_of_le hm
end
end L3
set_option Elab.async false
set_option linter.all false
set_option maxRecDepth 100000
set_option maxHeartbeats 1000000
namespace L3
open PySem PySem.Spec PyProof.Rows L2
local macro_rules | `(tactic| walk_at "w") => `(tactic| ((conv => whnf); try dsimp only))

theorem rch_key {ks : Kds} {x y : Str} (h : Rch ks x y) : x ∈ ks.map (·.1) := by
  induction h with
  | one g => exact List.mem_map.mpr ⟨_, gkd_in (List.ne_nil_of_mem g), rfl⟩
  | more _ _ ih => exact ih
theorem KvR.kys {M : Mh} : ∀ {kvs : List (Key × T)} {ks : Kds}, KvR M kvs ks → L3.kys kvs = (ks.map (·.1)).map T.str
  | _, _, .nil => rfl
  | _, _, .cons h r => by
    have ih := r.kys
    unfold L3.kys at ih ⊢
    rw [List.map_cons, List.map_cons, List.map_cons, ih]
    rfl
theorem KvR.lists {M M' : Mh} (s : ∀ c xs, M c = some (.lst xs) → M' c = some (.lst xs)) : ∀ {kvs : List (Key × T)} {ks : Kds}, KvR M kvs ks → KvR M' kvs ks
  | _, _, .nil => .nil
  | _, _, .cons h r => .cons (h.imp id fun ⟨b, e, q⟩ => ⟨b, e, s _ _ q⟩) (r.lists s)
theorem take_mem {α : Type} {l : List α} {n : Nat} {y x : α} (h : l[n]? = some y) : x ∈ l.take (n + 1) ↔ x ∈ l.take n ∨ x = y := by
  rw [List.take_add_one, h, List.mem_append]
  exact or_congr_right List.mem_singleton
section
variable {P : Program} {w : World} {K : Fg} {mg : Str → Option Value} {base : Heap}
/-! ### _law_harmful -/
abbrev s__law_harmful : Stmt := topS 116
abbrev nm__law_harmful : List Str := ["_law_sorts", "_law_called", "_law_one", "_law_name_here"]
theorem sc__law_harmful : FnScope nm__law_harmful ["_law_sorts", "_law_called"] (defScope s__law_harmful) := ⟨rfl, rfl, rfl, by decide +kernel, rfl, by decide +kernel, by decide +kernel⟩
def sp__law_harmful : Sp3 := sp2 fun k c M R _ => ∃ (b : Addr) (ws : List Str) (ks : Kds), c = .ref b ∧ M b = some (.lst (ws.map T.str)) ∧ (∀ y ∈ ws, NmOk y) ∧ ws.length ≤ 100 ∧ Knd M k ks ∧ KdsOk ks ∧ ∀ (M' : Mh) (D : Addr) (B : List Str), Sub M M' → M' D = some (.lst (B.map T.str)) → (∀ z, z ∈ B ↔ hmf ks ws z = true) → R (.ref D) M'
theorem ok__law_harmful {C_Label : Addr} {C_NoPath : Addr} {f : Addr} {fd : FuncData} (F : Fun K "_law_harmful" "_law_harmful" s__law_harmful f fd) (g : Glb K mg C_Label C_NoPath) (c__law_of : Cl P w K mg base "_law_of" 1 ["_law_sorts", "_law_name_here"] (sp__law_of)) : FnOk P w K mg base CX0 2 f fd ["_law_sorts", "_law_called"] (lift (sp__law_harmful )) := by
  refine F.ok3 sc__law_harmful (fun ts M R E h => sp2_len h) (fun cdv A outer s H E ts M R E3 hr h0 => ?_)
  obtain ⟨sorts', called', rfl, h⟩ := sp2_of h0
  refine ⟨_, (ls_one (ls_ret (le_add (le_list (by rfl) g.m_list (la_cons (lv 1) la_nil)) (le_lockK (i := 0) (le_lc0 (own := [("_law_one", 2)]) rfl sc__law_harmful.nd (li_keys (lv 0)) (blkOk_by (own := [("_law_one", 2)]) (N := nm__law_harmful) (sc := defScope s__law_harmful) (by decide +kernel)) (sg_name 2) (only_name (by decide)) (fun _ _ _ _ _ => (pg_name (i := 2) sc__law_harmful.nd rfl (by first | exact Or.inl rfl | exact Or.inr rfl))) (fun _ _ _ _ _ => (lts_one (lt_c (c_ne hr) (le_lc0 (own := [("_law_name_here", 3)]) rfl sc__law_harmful.nd (li_list (le_call c__law_of (hr.mono (by decide)) (by rfl) (la_cons (lv 0) (la_cons (lv 2) la_nil)))) (blkOk_by (own := [("_law_name_here", 3)]) (N := nm__law_harmful) (by rfl)) (sg_name 3) (only_name (by decide)) (fun _ _ _ _ _ => (pg_name (i := 3) sc__law_harmful.nd rfl (by first | exact Or.inl rfl | exact Or.inr rfl))) (fun _ _ _ _ _ => (lts_one (lt_c c_inS (lv 3) (lv 1)))) (fun _ _ _ _ _ => (lv 3))) (le_lst la_nil)))) (fun _ _ _ _ _ => (lv 2))))))), ?_⟩
  obtain ⟨b, ws, ks, rfl, eb, hw, hl, ⟨a, kvs, rfl, ea, kr⟩, ok, h⟩ := h
  have hkl := ok.len
  have nba : b ≠ a := fun z => by rw [z, ea] at eb; cases eb
  walk_at "w"
  rw [eb]
  intro q1 nq1
  have s1 : Sub M (up M q1 (.lst (ws.map T.str))) := .new nq1
  have e1 : (up M q1 (.lst (ws.map T.str))) q1 = some (.lst (ws.map T.str)) := up_same
  generalize up M q1 (.lst (ws.map T.str)) = M1 at s1 e1 ⊢
  walk_at "w"
  rw [s1 _ _ ea]
  intro od
  have ea2 : (up M1 a (.lkK od kvs)) a = some (.lkK od kvs) := up_same
  have k2 : ∀ c o, c ≠ a → M1 c = some o → (up M1 a (.lkK od kvs)) c = some o := fun c o nc e => by rw [up_ne nc]; exact e
  have kr2 : KvR (up M1 a (.lkK od kvs)) kvs ks := (kr.sub s1).lists fun c xs e => by
    rw [up_ne (fun z => by rw [z, s1 _ _ ea] at e; cases e)]
    exact e
  generalize up M1 a (.lkK od kvs) = M2 at ea2 k2 kr2 ⊢
  walk_at "w"
  rw [ea2]
  dsimp only
  rw [kr2.kys]
  intro q3 nq3
  have eb2 := k2 _ _ nba (s1 _ _ eb)
  refine ⟨fun j M' => Sub M2 M' ∧ ∃ B : List Str, M' q3 = some (.lst (B.map T.str)) ∧ B.length ≤ j ∧ ∀ z, z ∈ B ↔ z ∈ (ks.map (·.1)).take j ∧ ∃ y ∈ ws, Rch ks z y, ⟨.new nq3, [], up_same, Nat.le_refl _, fun z => ⟨(fun q => by cases q), fun q => by cases q.1⟩⟩, fun _ _ _ => trivial, ?_, ?_⟩
  · rintro j x M3 hx ⟨s3, B, e3, hB, hBm⟩
    rw [List.getElem?_map] at hx
    cases hn : (ks.map (·.1))[j]? with
    | none => rw [hn] at hx; cases hx
    | some n =>
      rw [hn] at hx
      cases hx
      have hjl : j < ks.length := by
        have := (List.getElem?_eq_some_iff.mp hn).1
        rwa [List.length_map] at this
      have nn : NmOk n := by
        obtain ⟨q, hq, rfl⟩ := List.mem_map.mp (List.mem_of_getElem? hn)
        exact (ok.each q hq).1
      refine ⟨n, ks, rfl, nn, ⟨a, kvs, rfl, .inr ⟨od, s3 _ _ ea2⟩, kr2.sub s3⟩, ok, fun M4 D F s4 eD hF lF => ?_⟩
      have s24 := s3.trans s4
      walk_at "w"
      rw [eD]
      intro q5 nq5
      refine ⟨fun i M' => Sub M4 M' ∧ ∃ zs : List Str, M' q5 = some (.lst (zs.map T.str)) ∧ zs.length ≤ i ∧ ∀ y, y ∈ zs ↔ y ∈ F.take i ∧ y ∈ ws, ⟨.new nq5, [], up_same, Nat.le_refl _, fun z => ⟨(fun q => by cases q), fun q => by cases q.1⟩⟩, fun _ _ q => q.1 _ _ eD, ?_, ?_⟩
      · rintro i x M5 hx ⟨s5, zs, e5, hzl, hz⟩
        rw [List.getElem?_map] at hx
        cases hy : F[i]? with
        | none => rw [hy] at hx; cases hx
        | some y =>
          rw [hy] at hx
          cases hx
          have hil := (List.getElem?_eq_some_iff.mp hy).1
          walk_at "w"
          rw [s5 _ _ (s24 _ _ eb2)]
          refine ⟨ws, rfl, ?_⟩
          walk_at "w"
          by_cases g : y ∈ ws
          · rw [decide_eq_true g]
            walk_at "w"
            rw [e5]
            refine ⟨by rw [List.length_map]; exact Nat.lt_of_lt_of_le (show zs.length < 1601 by omega) (by decide), fun c o e => ?_, zs ++ [y], by rw [up_same, List.map_append]; rfl, by rw [List.length_append]; exact Nat.succ_le_succ hzl, fun v => ?_⟩
            · rw [up_ne (ne_free e nq5)]
              exact s5 _ _ e
            · rw [List.mem_append, List.mem_singleton, hz v, take_mem hy]
              exact ⟨fun q => q.elim (fun q => ⟨.inl q.1, q.2⟩) fun q => ⟨.inr q, q ▸ g⟩, fun q => q.1.elim (fun r => .inl ⟨r, q.2⟩) .inr⟩
          · rw [decide_eq_false g]
            refine ⟨s5, zs, e5, Nat.le_succ_of_le hzl, fun v => ?_⟩
            rw [hz v, take_mem hy]
            exact ⟨fun q => ⟨.inl q.1, q.2⟩, fun q => ⟨q.1.elim id fun r => absurd (r ▸ q.2) g, q.2⟩⟩
      · rintro M5 ⟨s5, zs, e5, hzl, hz⟩
        rw [List.length_map] at hz hzl
        rw [List.take_of_length_le (Nat.le_refl _)] at hz
        intro q6 nq6
        have s6 : Sub M5 (up M5 q6 (.lst [])) := .new nq6
        have e6 : (up M5 q6 (.lst [])) q6 = some (.lst []) := up_same
        generalize up M5 q6 (.lst []) = M6 at s6 e6 ⊢
        have hzs : ∀ y ∈ zs, NmOk y := fun y hy => hw y ((hz y).mp hy).2
        refine ⟨_, _, .lst (s6 _ _ e5) (dts_ws _), .lst e6 .nil, (shaped_ws hzs).2, (shaped_ws (ws := []) (fun _ z => by cases z)).2, ?_⟩
        rw [show PyData.eqv (.list (zs.map PyData.str)) (.list []) = decide (zs = []) from eqv_nil zs]
        have s36 := s4.trans (s5.trans s6)
        have e36 := s36 _ _ e3
        by_cases g : zs = []
        · rw [decide_eq_true g]
          refine ⟨s3.trans s36, B, e36, Nat.le_succ_of_le hB, fun v => ?_⟩
          rw [hBm v, take_mem hn]
          refine ⟨fun q => ⟨.inl q.1, q.2⟩, fun q => ⟨q.1.elim id fun r => ?_, q.2⟩⟩
          obtain ⟨y, hy, hr⟩ := q.2
          rw [r] at hr
          have := (hz y).mpr ⟨(hF y).mpr hr, hy⟩
          rw [g] at this
          cases this
        · rw [decide_eq_false g]
          walk_at "w"
          rw [e36]
          refine ⟨by rw [List.length_map]; exact Nat.lt_of_lt_of_le (show B.length < 1601 by omega) (by decide), fun c o e => ?_, B ++ [n], by rw [up_same, List.map_append]; rfl, by rw [List.length_append]; exact Nat.succ_le_succ hB, fun v => ?_⟩
          · rw [up_ne (ne_free e nq3)]
            exact s36 _ _ (s3 _ _ e)
          · rw [List.mem_append, List.mem_singleton, hBm v, take_mem hn]
            refine ⟨fun q => q.elim (fun q => ⟨.inl q.1, q.2⟩) fun q => ⟨.inr q, ?_⟩, fun q => q.1.elim (fun r => .inl ⟨r, q.2⟩) .inr⟩
            obtain ⟨y, hy⟩ := List.exists_mem_of_ne_nil zs g
            rw [q]
            exact ⟨y, ((hz y).mp hy).2, (hF y).mp ((hz y).mp hy).1⟩
  · rintro M3 ⟨s3, B, e3, hB, hBm⟩
    rw [List.length_map, List.length_map] at hB
    rw [List.length_map, List.take_of_length_le (Nat.le_refl _)] at hBm
    have nq3a : q3 ≠ a := Ne.symm (ne_free ea2 nq3)
    have nq1a : q1 ≠ a := Ne.symm (ne_free ea nq1)
    have e1' : (up M3 a (.dK kvs)) q1 = some (.lst (ws.map T.str)) := by rw [up_ne nq1a]; exact s3 _ _ (k2 _ _ nq1a e1)
    have e3' : (up M3 a (.dK kvs)) q3 = some (.lst (B.map T.str)) := by rw [up_ne nq3a]; exact e3
    have s4 : Sub M (up M3 a (.dK kvs)) := fun c o e => by
      by_cases z : c = a
      · rw [z, up_same]
        rw [z, ea] at e
        exact e
      · rw [up_ne z]
        exact s3 _ _ (k2 _ _ z (s1 _ _ e))
    generalize up M3 a (.dK kvs) = M4 at e1' e3' s4 ⊢
    walk_at "w"
    rw [e1', e3']
    refine ⟨by rw [List.length_map, List.length_map]; exact lineM (by omega), fun p np => ?_⟩
    refine fin3.of (h _ p (ws ++ B) (s4.trans (.new np)) (by rw [List.map_append]; exact up_same) fun z => ?_)
    rw [List.mem_append, hBm z]
    constructor
    · intro q
      exact hmf_t (q.imp id fun q => q.2)
    · intro q
      refine Classical.byContradiction fun n => ?_
      rw [hmf_f (fun r => n (r.imp id fun r => ⟨let ⟨_, _, w⟩ := r; rch_key w, r⟩))] at q
      cases q
end
end L3
set_option Elab.async false
set_option linter.all false
set_option maxRecDepth 100000
set_option maxHeartbeats 1000000
namespace L3
open PySem PySem.Spec PyProof.Rows L2
local macro_rules | `(tactic| walk_at "w") => `(tactic| ((conv => whnf); try dsimp only))

def LeS (x y : Str) : Prop := ltCps y.cps.toList x.cps.toList = false
theorem LeS.anti {x y : Str} (h1 : LeS x y) (h2 : LeS y x) : x = y := tl_inj (lt_tri _ _ h2 h1)
theorem LeS.trans {x y z : Str} (h1 : LeS x y) (h2 : LeS y z) : LeS x z := by
  unfold LeS at *
  cases e : ltCps z.cps.toList x.cps.toList with
  | false => rfl
  | true =>
    cases e2 : ltCps x.cps.toList y.cps.toList with
    | true => rw [lt_trans' _ _ _ e e2] at h2; cases h2
    | false =>
      have := tl_inj (lt_tri _ _ e2 h1)
      rw [this] at e
      rw [e] at h2
      cases h2
theorem rise_le : ∀ (r : List Str) (p : Str), risingS p r = true → (p :: r).Pairwise LeS
  | [], p, _ => List.pairwise_singleton _ _
  | x :: r, p, h => by
    have h : (!ltCps x.cps.toList p.cps.toList && risingS x r) = true := h
    rw [Bool.and_eq_true, Bool.not_eq_true'] at h
    have ih := rise_le r x h.2
    refine List.pairwise_cons.mpr ⟨fun y hy => ?_, ih⟩
    rcases List.mem_cons.mp hy with rfl | hy
    · exact h.1
    · exact LeS.trans h.1 ((List.pairwise_cons.mp ih).1 y hy)
theorem sorted_le {l : List Str} (h : sortedS l = true) : l.Pairwise LeS := by
  cases l with
  | nil => exact .nil
  | cons x r => exact rise_le r x h
theorem find_le {p : Str → Bool} : ∀ {l : List Str} {a b : Str}, l.Pairwise LeS → l.find? p = some a → b ∈ l → p b = true → LeS a b
  | [], _, _, _, h, _, _ => by cases h
  | x :: l, a, b, hp, h, hb, pb => by
    obtain ⟨h1, h2⟩ := List.pairwise_cons.mp hp
    rw [List.find?_cons] at h
    cases e : p x with
    | true =>
      rw [e] at h
      cases h
      rcases List.mem_cons.mp hb with rfl | hb
      · unfold LeS
        exact lt_irr _
      · exact h1 b hb
    | false =>
      rw [e] at h
      rcases List.mem_cons.mp hb with rfl | hb
      · rw [e] at pb; cases pb
      · exact find_le h2 h hb pb
theorem find_srt {p : Str → Bool} {l m : List Str} (h1 : sortedS l = true) (h2 : sortedS m = true) (h : ∀ k, k ∈ l ↔ k ∈ m) : l.find? p = m.find? p := by
  have g1 := sorted_le h1
  have g2 := sorted_le h2
  cases e1 : l.find? p with
  | none =>
    cases e2 : m.find? p with
    | none => rfl
    | some b => exact absurd (List.find?_some e2) (List.find?_eq_none.mp e1 b ((h b).mpr (List.mem_of_find?_eq_some e2)))
  | some a =>
    cases e2 : m.find? p with
    | none => exact absurd (List.find?_some e1) (List.find?_eq_none.mp e2 a ((h a).mp (List.mem_of_find?_eq_some e1)))
    | some b =>
      rw [LeS.anti (find_le g1 e1 ((h b).mpr (List.mem_of_find?_eq_some e2)) (List.find?_some e2)) (find_le g2 e2 ((h a).mp (List.mem_of_find?_eq_some e1)) (List.find?_some e1))]
theorem harm_due {fo : Fo} {ws ys : List Str} {p : Str → Bool} (so : SrtOk ws) (h1 : ys.Perm ws) (h2 : sortedS ys = true) : harmT fo ys p = harmT fo (srt ws) p := by
  unfold harmT
  rw [find_srt h2 so.1 fun k => h1.mem_iff.trans (so.2.2.1 k).symm]
def mayT (z : Str) : T := .tup [.str "may", .str z]
section
variable {P : Program} {w : World} {K : Fg} {mg : Str → Option Value} {base : Heap}
/-! ### _law_due -/
abbrev s__law_due : Stmt := topS 117
abbrev nm__law_due : List Str := ["_law_rows_here", "_law_words", "_law_bad", "_law_path", "_law_place", "_law_word_here"]
theorem sc__law_due : FnScope nm__law_due ["_law_rows_here", "_law_words", "_law_bad"] (defScope s__law_due) := ⟨rfl, rfl, rfl, by decide +kernel, rfl, by decide +kernel, by decide +kernel⟩
def sp__law_due : Sp3 := sp3 fun r w n M R _ => ∃ (p b c : Addr) (fo : Fo) (ws bs : List Str), r = .ref p ∧ w = .ref b ∧ n = .ref c ∧ M p = some (.lst ((gaF [] 0 fo).map pr)) ∧ M b = some (.lst (ws.map T.str)) ∧ M c = some (.lst (bs.map T.str)) ∧ fo.cnt ≤ 1000 ∧ ws.length < 64 ∧ SrtOk ws ∧ ∀ M', Sub M M' → R (harmT fo (srt ws) (fun z => decide (z ∈ bs))) M'
theorem ok__law_due {C_Label : Addr} {C_NoPath : Addr} {f : Addr} {fd : FuncData} (F : Fun K "_law_due" "_law_due" s__law_due f fd) (g : Glb K mg C_Label C_NoPath)  : FnOk P w K mg base CX0 1 f fd ["_law_rows_here", "_law_words", "_law_bad"] (lift (sp__law_due )) := by
  refine F.ok3 sc__law_due (fun ts M R E h => sp3_len h) (fun cdv A outer s H E ts M R E3 hr h0 => ?_)
  obtain ⟨rows_here', words', bad', rfl, h⟩ := sp3_of h0
  refine ⟨_, (ls_cons (ls_for PassesOwn.never rfl (li_list (lv 0)) (lg_tup (by rfl) (lgs_cons (lg_name (i := 3) sc__law_due.nd rfl (by first | exact Or.inl rfl | exact Or.inr rfl)) (lgs_cons (lg_name (i := 4) sc__law_due.nd rfl (by first | exact Or.inl rfl | exact Or.inr rfl)) lgs_nil))) (ls_one (ls_if (lt_c c_inS (le_at (lv 4) le_int) (lv 2)) (ls_one (ls_ret (le_tup (la_cons le_str (la_cons (lv 3) la_nil))))) ls_nil))) (ls_one (ls_ret (le_at (le_add (le_lc0 (own := [("_law_word_here", 5)]) rfl sc__law_due.nd (li_list (le_sortedS (by rfl) g.m_sorted (la_cons (lv 1) la_nil))) (blkOk_by (own := [("_law_word_here", 5)]) (N := nm__law_due) (sc := defScope s__law_due) (by decide +kernel)) (sg_name 5) (only_name (by decide)) (fun _ _ _ _ _ => (pg_name (i := 5) sc__law_due.nd rfl (by first | exact Or.inl rfl | exact Or.inr rfl))) (fun _ _ _ _ _ => (lts_one (lt_c c_inS (lv 5) (lv 2)))) (fun _ _ _ _ _ => (le_tup (la_cons le_str (la_cons (lv 5) la_nil))))) (le_lst (la_cons (le_tup (la_cons le_str (la_cons le_non la_nil))) la_nil))) le_int)))), ?_⟩
  obtain ⟨p, b, c, fo, ws, bs, rfl, rfl, rfl, ep, eb, ec, hc, hl, so, h⟩ := h
  walk_at "w"
  rw [ep]
  refine ⟨fun n τ M2 => M2 = M ∧ (∃ v3 v4 v5, τ = [some (.ref p), some (.ref b), some (.ref c), v3, v4, v5]) ∧ ∀ kv ∈ (gaF [] 0 fo).take n, hmB (fun z => decide (z ∈ bs)) kv = false, ⟨rfl, ⟨none, none, none, rfl⟩, fun _ z => by cases z⟩, fun _ _ _ q => by rw [q.1]; exact ep, ?_, ?_⟩
  · rintro n t τ M2 ht ⟨rfl, ⟨v3, v4, v5, rfl⟩, hno⟩
    rw [List.getElem?_map] at ht
    cases hz : (gaF [] 0 fo)[n]? with
    | none => rw [hz] at ht; cases ht
    | some y =>
      rw [hz] at ht
      cases ht
      obtain ⟨k, kn, cc, it, f1, f2, f3, f4, f5, f6, f7⟩ := gaF_way2 (List.mem_of_getElem? hz)
      have hB : hmB (fun z => decide (z ∈ bs)) y = decide (it.1 ∈ bs) := by
        unfold hmB
        rw [f2]
        rfl
      unfold pr
      rw [f2]
      walk_at "w"
      rw [ec]
      refine ⟨bs, rfl, ?_⟩
      walk_at "w"
      by_cases g : it.1 ∈ bs
      · rw [decide_eq_true g]
        refine fin3.of ?_
        have h' := h M2 .refl
        have hf : (gaF [] 0 fo).find? (hmB (fun z => decide (z ∈ bs))) = some y := find_at hz hno (by rw [hB]; exact decide_eq_true g)
        unfold harmT at h'
        rw [hf] at h'
        exact h'
      · rw [decide_eq_false g]
        refine ⟨rfl, ⟨_, _, _, rfl⟩, fun kv hkv => ?_⟩
        rw [List.take_add_one, hz] at hkv
        rcases List.mem_append.mp hkv with hkv | hkv
        · exact hno kv hkv
        · rw [List.mem_singleton.mp hkv, hB]
          exact decide_eq_false g
  · rintro τ M2 ⟨rfl, ⟨v3, v4, v5, rfl⟩, hno⟩
    have hf : (gaF [] 0 fo).find? (hmB (fun z => decide (z ∈ bs))) = none := List.find?_eq_none.mpr fun kv hkv => by
      rw [hno kv (by rw [List.length_map, List.take_of_length_le (Nat.le_refl _)]; exact hkv)]
      decide
    refine ⟨ws, eb, hl, fun ys y1 y2 p1 np1 => ?_⟩
    have s3 : Sub M2 (up M2 p1 (.lst (ys.map T.str))) := .new np1
    have e3 : (up M2 p1 (.lst (ys.map T.str))) p1 = some (.lst (ys.map T.str)) := up_same
    generalize up M2 p1 (.lst (ys.map T.str)) = M3 at s3 e3 ⊢
    have hyl : ys.length < 64 := y1.length_eq ▸ hl
    walk_at "w"
    rw [e3]
    intro q4 nq4
    refine ⟨fun n M' => Sub M3 M' ∧ M' q4 = some (.lst (((ys.take n).filter fun z => decide (z ∈ bs)).map mayT)), ⟨.new nq4, up_same⟩, fun _ _ q => q.1 _ _ e3, ?_, ?_⟩
    · rintro n x M4 hx ⟨s4, e4⟩
      rw [List.getElem?_map] at hx
      cases hz : ys[n]? with
      | none => rw [hz] at hx; cases hx
      | some z =>
        rw [hz] at hx
        cases hx
        have hlt := (List.getElem?_eq_some_iff.mp hz).1
        have hfl : ((ys.take n).filter fun z => decide (z ∈ bs)).length ≤ 64 := by
          have h1 := List.length_filter_le (fun z => decide (z ∈ bs)) (ys.take n)
          rw [List.length_take] at h1
          omega
        walk_at "w"
        rw [s4 _ _ (s3 _ _ ec)]
        refine ⟨bs, rfl, ?_⟩
        walk_at "w"
        by_cases g : z ∈ bs
        · rw [decide_eq_true g]
          walk_at "w"
          rw [e4]
          refine ⟨by rw [List.length_map]; exact Nat.lt_of_lt_of_le (show _ < 65 by omega) (by decide), fun c o e => ?_, ?_⟩
          · rw [up_ne (ne_free e nq4)]
            exact s4 _ _ e
          · rw [up_same, List.take_add_one, hz, List.filter_append, List.map_append]
            show _ = some (MO.lst (_ ++ ((([z] : List Str).filter fun z => decide (z ∈ bs)).map mayT)))
            rw [List.filter_cons, if_pos (decide_eq_true g)]
            rfl
        · rw [decide_eq_false g]
          refine ⟨s4, ?_⟩
          rw [e4, List.take_add_one, hz, List.filter_append]
          show _ = some (MO.lst ((_ ++ (([z] : List Str).filter fun z => decide (z ∈ bs))).map mayT))
          rw [List.filter_cons, if_neg (fun q => g (of_decide_eq_true q)), List.filter_nil, List.append_nil]
    · rintro M4 ⟨s4, e4⟩
      rw [List.length_map, List.take_of_length_le (Nat.le_refl _)] at e4
      have hfl : (ys.filter fun z => decide (z ∈ bs)).length ≤ 64 := by
        have h1 := List.length_filter_le (fun z => decide (z ∈ bs)) ys
        omega
      intro q5 nq5
      have s5 : Sub M4 (up M4 q5 (.lst [.tup [.str "not", .non]])) := .new nq5
      have e5 : (up M4 q5 (.lst [.tup [.str "not", .non]])) q5 = some (.lst [.tup [.str "not", .non]]) := up_same
      generalize up M4 q5 (.lst [.tup [.str "not", .non]]) = M5 at s5 e5 ⊢
      walk_at "w"
      rw [s5 _ _ e4, e5]
      refine ⟨by rw [List.length_map]; exact lineM (show _ + 1 ≤ 1000000 by omega), fun q6 nq6 => ?_⟩
      have h' := h _ ((s3.trans (s4.trans s5)).trans (.new (o := .lst ((ys.filter fun z => decide (z ∈ bs)).map mayT ++ [.tup [.str "not", .non]])) nq6))
      rw [← harm_due so y1 y2] at h'
      unfold harmT at h'
      rw [hf] at h'
      dsimp only at h'
      rw [← List.head?_filter] at h'
      walk_at "w"
      rw [up_same]
      cases hq : ys.filter fun z => decide (z ∈ bs) with
      | nil =>
        rw [hq] at h'
        exact fin3.of h'
      | cons z r =>
        rw [hq] at h'
        dsimp only
        rw [show atI (List.map mayT (z :: r) ++ [T.tup [T.str (Str.ofString "not"), T.non]]) (0 : Int) = some (mayT z) from atI_nat3 (n := 0) rfl]
        exact fin3.of h'
/-! ### _law_of_right -/
abbrev s__law_of_right : Stmt := topS 118
abbrev nm__law_of_right : List Str := ["_law_sorts", "_law_called", "_law_one", "_law_due_here", "_law_other", "_law_told"]
theorem sc__law_of_right : FnScope nm__law_of_right ["_law_sorts", "_law_called"] (defScope s__law_of_right) := ⟨rfl, rfl, rfl, by decide +kernel, rfl, by decide +kernel, by decide +kernel⟩
def sp__law_of_right : Sp3 := sp2 fun k c M R _ => ∃ (b : Addr) (ws : List Str) (ks : Kds), c = .ref b ∧ M b = some (.lst (ws.map T.str)) ∧ (∀ y ∈ ws, NmOk y) ∧ ws.length ≤ 100 ∧ Knd M k ks ∧ KdsOk ks ∧ ∀ M', Sub M M' → R (.bl true) M'
theorem ok__law_of_right {C_Label : Addr} {C_NoPath : Addr} {f : Addr} {fd : FuncData} (F : Fun K "_law_of_right" "_law_of_right" s__law_of_right f fd) (g : Glb K mg C_Label C_NoPath) (c_is_of : Cl P w K mg base "is_of" 2 ["kinds", "one", "other"] (sp_is_of)) (c__law_of : Cl P w K mg base "_law_of" 1 ["_law_sorts", "_law_name_here"] (sp__law_of)) : FnOk P w K mg base CX0 3 f fd ["_law_sorts", "_law_called"] (lift (sp__law_of_right )) := by
  refine F.ok3 sc__law_of_right (fun ts M R E h => sp2_len h) (fun cdv A outer s H E ts M R E3 hr h0 => ?_)
  obtain ⟨sorts', called', rfl, h⟩ := sp2_of h0
  refine ⟨_, (ls_cons (ls_for PassesOwn.never rfl (li_list (lv 1)) (lg_name (i := 2) sc__law_of_right.nd rfl (by first | exact Or.inl rfl | exact Or.inr rfl)) (ls_cons (ls_set (i := 3) sc__law_of_right.nd rfl (by first | exact Or.inl rfl | exact Or.inr rfl) (le_call c__law_of (hr.mono (by decide)) (by rfl) (la_cons (lv 0) (la_cons (lv 2) la_nil)))) (ls_one (ls_for PassesOwn.never rfl (li_list (le_add (lv 1) (le_lst (la_cons le_str (la_cons le_str la_nil))))) (lg_name (i := 4) sc__law_of_right.nd rfl (by first | exact Or.inl rfl | exact Or.inr rfl)) (ls_cons (ls_set (i := 5) sc__law_of_right.nd rfl (by first | exact Or.inl rfl | exact Or.inr rfl) (le_call c_is_of (hr.mono (by decide)) (by rfl) (la_cons (lv 0) (la_cons (lv 2) (la_cons (lv 4) la_nil))))) (ls_one (ls_if (lt_w (lw_or (lt_not (lt_val (le_isi .bl (by rfl) g.m_isinstance (lv 5) (by rfl) g.m_bool (by decide +kernel)))) (lw_or1 (lt_c (c_ne hr) (lv 5) (le_c c_inS (lv 4) (lv 3)))))) (ls_one (ls_ret le_bl)) ls_nil))))))) (ls_one (ls_ret le_bl))), ?_⟩
  obtain ⟨b, ws, ks, rfl, eb, hw, hl, hk, ok, h⟩ := h
  walk_at "w"
  rw [eb]
  refine ⟨fun n τ M1 => (∃ v2 v3 v4 v5, τ = [some sorts', some (.ref b), v2, v3, v4, v5]) ∧ Sub M M1, ⟨⟨none, none, none, none, rfl⟩, .refl⟩, fun _ _ _ q => q.2 _ _ eb, ?_, ?_⟩
  · rintro n t τ M1 ht ⟨⟨v2, v3, v4, v5, rfl⟩, s1⟩
    obtain ⟨x, hx, rfl⟩ := List.mem_map.mp (List.mem_of_getElem? ht)
    refine ⟨x, ks, rfl, hw x hx, (hk.sub s1).l, ok, fun M2 D F s2 eD hF lF => ?_⟩
    have s02 := s1.trans s2
    intro q3 nq3
    have s3 : Sub M2 (up M2 q3 (.lst [.str "zz", .str "rye"])) := .new nq3
    have e3 : (up M2 q3 (.lst [.str "zz", .str "rye"])) q3 = some (.lst [.str "zz", .str "rye"]) := up_same
    generalize up M2 q3 (.lst [.str "zz", .str "rye"]) = M3 at s3 e3 ⊢
    walk_at "w"
    rw [s3 _ _ (s02 _ _ eb), e3]
    refine ⟨by rw [List.length_map]; exact lineM (show ws.length + 2 ≤ 1000000 by omega), fun q4 nq4 => ?_⟩
    have e0 : ws.map T.str ++ [T.str "zz", T.str "rye"] = (ws ++ ([("zz" : Str), ("rye" : Str)] : List Str)).map T.str := by rw [List.map_append]; rfl
    rw [e0]
    have s4 : Sub M3 (up M3 q4 (.lst ((ws ++ ([("zz" : Str), ("rye" : Str)] : List Str)).map T.str))) := .new nq4
    have e4 : (up M3 q4 (.lst ((ws ++ ([("zz" : Str), ("rye" : Str)] : List Str)).map T.str))) q4 = some (.lst ((ws ++ ([("zz" : Str), ("rye" : Str)] : List Str)).map T.str)) := up_same
    generalize up M3 q4 (.lst ((ws ++ ([("zz" : Str), ("rye" : Str)] : List Str)).map T.str)) = M4 at s4 e4 ⊢
    have s24 := s3.trans s4
    walk_at "w"
    rw [e4]
    refine ⟨fun j τ M5 => (∃ v4 v5, τ = [some sorts', some (.ref b), some (.str x), some (.ref D), v4, v5]) ∧ Sub M4 M5, ⟨⟨_, _, rfl⟩, .refl⟩, fun _ _ _ q => q.2 _ _ e4, ?_, ?_⟩
    · rintro j t τ M5 ht ⟨⟨v4, v5, rfl⟩, s5⟩
      obtain ⟨y, hy, rfl⟩ := List.mem_map.mp (List.mem_of_getElem? ht)
      have s05 := s02.trans (s24.trans s5)
      refine ⟨x, y, ks, rfl, rfl, hk.sub s05, ok, fun M6 s6 => ?_⟩
      have eD6 := s6 _ _ (s5 _ _ (s24 _ _ eD))
      have hB : isOf ks x y = decide (y ∈ F) := by
        by_cases g : y ∈ F
        · rw [decide_eq_true g]
          exact isOf_t ((hF y).mp g)
        · rw [decide_eq_false g]
          exact isOf_f fun q => g ((hF y).mpr q)
      walk_at "w"
      rw [eD6]
      refine ⟨F, rfl, ?_⟩
      rw [hB]
      walk_at "w"
      rw [show decide (decide (y ∈ F) = id (decide (y ∈ F))) = true from decide_eq_true rfl]
      exact ⟨⟨_, _, rfl⟩, s5.trans s6⟩
    · rintro τ M5 ⟨⟨v4, v5, rfl⟩, s5⟩
      exact ⟨⟨_, _, _, _, rfl⟩, s02.trans (s24.trans s5)⟩
  · rintro τ M1 ⟨⟨v2, v3, v4, v5, rfl⟩, s1⟩
    exact fin3.of (h M1 s1)
end
end L3
set_option Elab.async false
set_option linter.all false
set_option maxRecDepth 100000
set_option maxHeartbeats 1000000
namespace L3
open PySem PySem.Spec PyProof.Rows L2
local macro_rules | `(tactic| walk_at "w") => `(tactic| ((conv => whnf); try dsimp only))

/-- texts drawn one behind the other -/
theorem lc_draws {items : List T} {Gd : Mh → Prop} {τ : Ts} {vs : List Nat} {i : Nat} {me : E3} {M : Mh} {a p : Addr} {R : K3} (P : Str → Prop) (np : M p = none) (hp : Pt M a) (hn : items.length ≤ 100) (hG : ∀ M, Gd M)
    (he : ∀ x ∈ items, ∀ (M1 : Mh) (K : K3), Kp a M M1 → Pt M1 a → (∀ (M2 : Mh) (z : Str), Kp a M1 M2 → Pt M2 a → P z → K (.str z) M2) → me ((wip τ vs).set i (some x)) M1 K)
    (q : ∀ (M' : Mh) (ws : List Str), Kp a M M' → Pt M' a → M' p = some (.lst (ws.map T.str)) → ws.length = items.length → (∀ y ∈ ws, P y) → R (.ref p) M') : lcBody items Gd (gNm i) bYes me vs τ M p R := by
  have npa : p ≠ a := fun z => hp.ne np z.symm
  refine ⟨fun n M' => Kp a M M' ∧ Pt M' a ∧ ∃ ws : List Str, M' p = some (.lst (ws.map T.str)) ∧ ws.length = n ∧ ∀ y ∈ ws, P y, ⟨.of (.new np), hp.sub (.new np), [], up_same, rfl, fun _ z => by cases z⟩, fun _ _ _ => hG _, ?_, ?_⟩
  · rintro n x M1 hx ⟨k1, p1, ws, e1, hl, hw⟩
    have hlt := (List.getElem?_eq_some_iff.mp hx).1
    refine he x (List.mem_of_getElem? hx) M1 _ k1 p1 fun M2 z k2 p2 hz => ?_
    rw [k2 _ _ npa e1]
    refine ⟨by rw [List.length_map, hl]; exact Nat.lt_of_lt_of_le (show n < 101 by omega) (by decide), fun c o nc e => ?_, p2.upn npa, ws ++ [z], by rw [up_same, List.map_append]; rfl, by rw [List.length_append, hl]; rfl, fun y hy => ?_⟩
    · rw [up_ne (ne_free e np)]
      exact k2 _ _ nc (k1 _ _ nc e)
    · rcases List.mem_append.mp hy with hy | hy
      · exact hw y hy
      · rw [List.mem_singleton.mp hy]
        exact hz
  · rintro M1 ⟨k1, p1, ws, e1, hl, hw⟩
    exact q M1 ws k1 p1 e1 hl hw
theorem Kp.free {a D : Addr} {M M' : Mh} (k : Kp a M M') (p : Pt M' a) (n : M' D = none) : M D = none := by
  cases e : M D with
  | none => rfl
  | some o =>
    rw [k D o (fun z => p.ne n z.symm) e] at n
    cases n
theorem KvR.strs {M M' : Mh} (s : ∀ c (ws : List Str), M c = some (.lst (ws.map T.str)) → M' c = some (.lst (ws.map T.str))) : ∀ {kvs : List (Key × T)} {ks : Kds}, KvR M kvs ks → KvR M' kvs ks
  | _, _, .nil => .nil
  | _, _, .cons h r => .cons (h.imp id fun ⟨b, e, q⟩ => ⟨b, e, s _ _ q⟩) (r.strs s)
theorem KvR.kp {M M' : Mh} {a : Addr} {kvs : List (Key × T)} {ks : Kds} (r : KvR M kvs ks) (p : Pt M a) (k : Kp a M M') : KvR M' kvs ks := r.strs fun c ws e => k _ _ (fun z => p.strs e z.symm) e
/-- kinds as they are drawn -/
structure KdW (ks : Kds) (n : Nat) : Prop where
  len : ks.length ≤ n
  each : ∀ q ∈ ks, NmOk q.1 ∧ q.2.length ≤ 4 ∧ ∀ y ∈ q.2, NmOk y
theorem KdW.ok {ks : Kds} {n : Nat} (h : KdW ks n) (hn : n ≤ 40) : KdsOk ks := ⟨Nat.le_trans h.len hn, fun q hq => let ⟨a, b, c⟩ := h.each q hq; ⟨a, by omega, c⟩⟩
theorem KdW.put {ks : Kds} {n : Nat} {x : Str} {l : List Str} (h : KdW ks n) (hx : NmOk x) (hl : l.length ≤ 4) (hy : ∀ y ∈ l, NmOk y) : KdW (putD ks x l) (n + 1) := ⟨Nat.le_trans (putD_len ks x l) (Nat.succ_le_succ h.len), fun q hq => by
  rcases putD_in hq with ⟨e1, e2⟩ | hq
  · rw [e1, e2]; exact ⟨hx, hl, hy⟩
  · exact h.each q hq⟩
section
variable {P : Program} {w : World} {K : Fg} {mg : Str → Option Value} {base : Heap}
/-! ### _law_kinds -/
abbrev s__law_kinds : Stmt := topS 114
abbrev nm__law_kinds : List Str := ["_law_pot_here", "_law_called", "_law_k", "_law_sorts", "_law_name_here", "_law_some"]
theorem sc__law_kinds : FnScope nm__law_kinds ["_law_pot_here"] (defScope s__law_kinds) := ⟨rfl, rfl, rfl, by decide +kernel, rfl, by decide +kernel, by decide +kernel⟩
def sp__law_kinds : Sp3 := sp1 fun p M R _ => ∃ a : Addr, p = .ref a ∧ Pt M a ∧ ∀ (M' : Mh) (c d : Addr) (ws : List Str) (ks : Kds) (kvs : List (Key × T)), Kp a M M' → Pt M' a → M' c = some (.lst (ws.map T.str)) → (∀ y ∈ ws, NmOk y) → 1 ≤ ws.length → ws.length ≤ 8 → M' d = some (.dK kvs) → KvR M' kvs ks → KdW ks 8 → R (.tup [.ref c, .ref d]) M'
theorem ok__law_kinds {C_Label : Addr} {C_NoPath : Addr} {f : Addr} {fd : FuncData} (F : Fun K "_law_kinds" "_law_kinds" s__law_kinds f fd) (g : Glb K mg C_Label C_NoPath) (c__law_take : Cl P w K mg base "_law_take" 1 ["_law_pot_here", "_law_many_here"] (sp__law_take)) (c__law_word : Cl P w K mg base "_law_word" 2 ["_law_pot_here"] (sp__law_word)) (c__law_name : Cl P w K mg base "_law_name" 3 ["_law_pot_here", "_law_taken"] (sp__law_name)) : FnOk P w K mg base CX0 4 f fd ["_law_pot_here"] (lift (sp__law_kinds )) := by
  refine F.ok3 sc__law_kinds (fun ts M R E h => sp1_len h) (fun cdv A outer s H E ts M R E3 hr h0 => ?_)
  obtain ⟨pot_here', rfl, h⟩ := sp1_of h0
  refine ⟨_, (ls_cons (ls_set (i := 1) sc__law_kinds.nd rfl (by first | exact Or.inl rfl | exact Or.inr rfl) (le_lst la_nil)) (ls_cons (ls_for PassesOwn.never rfl (li_range1 (by rfl) g.m_range (la_cons (le_add le_int (le_call c__law_take (hr.mono (by decide)) (by rfl) (la_cons (lv 0) (la_cons le_int la_nil)))) la_nil)) (lg_name (i := 2) sc__law_kinds.nd rfl (by first | exact Or.inl rfl | exact Or.inr rfl)) (ls_one (ls_expr (le_append (lv 1) (la_cons (le_call c__law_name (hr.mono (by decide)) (by rfl) (la_cons (lv 0) (la_cons (lv 1) la_nil))) la_nil))))) (ls_cons (ls_set (i := 3) sc__law_kinds.nd rfl (by first | exact Or.inl rfl | exact Or.inr rfl) le_newK) (ls_cons (ls_for PassesOwn.never rfl (li_list (lv 1)) (lg_name (i := 4) sc__law_kinds.nd rfl (by first | exact Or.inl rfl | exact Or.inr rfl)) (ls_cut (ls_lc0 (i := 5) (own := [("_law_k", 2)]) rfl sc__law_kinds.nd rfl rfl (sw_true rfl rfl rfl (by decide +kernel)) (li_range1 (by rfl) g.m_range (la_cons (le_call c__law_take (hr.mono (by decide)) (by rfl) (la_cons (lv 0) (la_cons le_int la_nil))) la_nil)) (blkOk_by (own := [("_law_k", 2)]) (N := nm__law_kinds) (sc := defScope s__law_kinds) (by decide +kernel)) (sg_name 2) (only_name (by decide)) (fun _ _ _ _ _ => (pg_name (i := 2) sc__law_kinds.nd rfl (by first | exact Or.inl rfl | exact Or.inr rfl))) (fun _ _ _ _ _ => lts_nil) (fun _ _ _ _ _ => (le_at (lv 1) (le_call c__law_take (hr.mono (by decide)) (by rfl) (la_cons (lv 0) (la_cons (le_len (by rfl) g.m_len (la_cons (lv 1) la_nil)) la_nil)))))) (ls_cut (ls_if (lt_c (c_eq hr) (le_call c__law_take (hr.mono (by decide)) (by rfl) (la_cons (lv 0) (la_cons le_int la_nil))) le_int) (ls_one (ls_expr (le_append (lv 5) (la_cons (le_call c__law_word (hr.mono (by decide)) (by rfl) (la_cons (lv 0) la_nil)) la_nil)))) ls_nil) (ls_one (ls_if (lt_c c_gt (le_call c__law_take (hr.mono (by decide)) (by rfl) (la_cons (lv 0) (la_cons le_int la_nil))) le_int) (ls_one (ls_put hr (lv 3) (lv 4) (le_if (lt_c (c_eq hr) (le_call c__law_take (hr.mono (by decide)) (by rfl) (la_cons (lv 0) (la_cons le_int la_nil))) le_int) (le_tuple (by rfl) g.m_tuple (la_cons (lv 5) la_nil)) (lv 5)))) ls_nil))))) (ls_one (ls_ret (le_tup (la_cons (lv 1) (la_cons (lv 3) la_nil))))))))), ?_⟩
  obtain ⟨a, rfl, hp, h⟩ := h
  intro q1 nq1
  have s1 : Sub M (up M q1 (.lst [])) := .new nq1
  have e1 : (up M q1 (.lst [])) q1 = some (.lst []) := up_same
  generalize up M q1 (.lst []) = M1 at s1 e1 ⊢
  have nq1a : q1 ≠ a := fun z => hp.ne nq1 z.symm
  refine ⟨a, 8, rfl, rfl, (hp.sub s1), by decide, by decide, fun M2 d2 k2 p2 l2 u2 => ?_⟩
  walk_at "w"
  refine ⟨⟨by show -(2 ^ 62 : Int) ≤ 1 + d2; omega, by show 1 + d2 < (2 ^ 62 : Int); omega⟩, fun n τ M3 => ∃ (ws : List Str) (v2 : Option T), τ = [some (.ref a), some (.ref q1), v2, none, none, none] ∧ Kp a M M3 ∧ Pt M3 a ∧ M3 q1 = some (.lst (ws.map T.str)) ∧ ws.length = n ∧ ∀ y ∈ ws, NmOk y, ⟨[], none, rfl, (Kp.of s1).trans k2, p2, k2 _ _ nq1a e1, rfl, fun _ z => by cases z⟩, fun _ _ _ _ => trivial, ?_, ?_⟩
  · rintro n x τ M3 hx ⟨ws, v2, rfl, k3, p3, e3, hl, hw⟩
    have hn : n < 8 := by
      have := (List.getElem?_eq_some_iff.mp hx).1
      rw [rng_len] at this
      omega
    walk_at "w"
    rw [e3]
    refine ⟨a, q1, ws, rfl, rfl, p3, Ne.symm nq1a, e3, by omega, fun M4 z k4 p4 nz _ => ?_⟩
    have e4 := k4 _ _ nq1a e3
    walk_at "w"
    rw [e4]
    refine ⟨by rw [List.length_map, hl]; exact Nat.lt_of_lt_of_le hn (by decide), ws ++ [z], _, rfl, fun c o nc e => ?_, p4.upn nq1a, by rw [up_same, List.map_append]; rfl, by rw [List.length_append, hl]; rfl, fun y hy => ?_⟩
    · rw [up_ne (ne_free e nq1)]
      exact k4 _ _ nc (k3 _ _ nc e)
    · rcases List.mem_append.mp hy with hy | hy
      · exact hw y hy
      · rw [List.mem_singleton.mp hy]
        exact nz
  rintro τ M3 ⟨ws, v2, rfl, k3, p3, e3, hl, hw⟩
  rw [rng_len] at hl
  have hl1 : 1 ≤ ws.length ∧ ws.length ≤ 8 := by omega
  clear hl
  intro q4 nq4
  have s4 : Sub M3 (up M3 q4 (.dK [])) := .new nq4
  have e4 : (up M3 q4 (.dK [])) q4 = some (.dK []) := up_same
  generalize up M3 q4 (.dK []) = M4 at s4 e4 ⊢
  have n41 : q4 ≠ q1 := Ne.symm (ne_free e3 nq4)
  have n4a : q4 ≠ a := fun z => p3.ne nq4 z.symm
  walk_at "w"
  rw [s4 _ _ e3]
  refine ⟨fun n τ M5 => ∃ (ks : Kds) (kvs : List (Key × T)) (v2 v4 v5 : Option T), τ = [some (.ref a), some (.ref q1), v2, some (.ref q4), v4, v5] ∧ Kp a M M5 ∧ Pt M5 a ∧ M5 q1 = some (.lst (ws.map T.str)) ∧ M5 q4 = some (.dK kvs) ∧ KvR M5 kvs ks ∧ KdW ks n, ⟨[], [], _, _, _, rfl, k3.trans (.of s4), p3.sub s4, s4 _ _ e3, e4, .nil, ⟨Nat.le_refl _, fun _ z => by cases z⟩⟩, fun _ _ _ ⟨_, _, _, _, _, _, _, _, e, _⟩ => e, ?_, ?_⟩
  rotate_left
  · rintro τ M5 ⟨ks, kvs, v2, v4, v5, rfl, k5, p5, e5, eq5, kr, kw⟩
    rw [List.length_map] at kw
    exact fin3.of (h M5 q1 q4 ws ks kvs k5 p5 e5 hw hl1.1 hl1.2 eq5 kr ⟨Nat.le_trans kw.len hl1.2, kw.each⟩)
  rintro n x τ M5 hx ⟨ks, kvs, v2, v4, v5, rfl, k5, p5, e5, eq5, kr, kw⟩
  obtain ⟨nm, hnm, rfl⟩ := List.mem_map.mp (List.mem_of_getElem? hx)
  refine ⟨fun τ M6 => ∃ (q : Addr) (xs : List Str) (v2 : Option T), τ = [some (.ref a), some (.ref q1), v2, some (.ref q4), some (.str nm), some (.ref q)] ∧ Kp a M5 M6 ∧ Pt M6 a ∧ M5 q = none ∧ M6 q = some (.lst (xs.map T.str)) ∧ xs.length ≤ 3 ∧ ∀ y ∈ xs, NmOk y, ?_, ?_⟩
  · refine ⟨a, 4, rfl, rfl, p5, by decide, by decide, fun M6 d6 k6 p6 l6 u6 => ?_⟩
    refine ⟨⟨by show -(2 ^ 62 : Int) ≤ d6; omega, by show d6 < (2 ^ 62 : Int); omega⟩, fun D nD => ?_⟩
    refine lc_draws NmOk nD p6 (by rw [rng_len]; omega) (fun _ => trivial) (fun x hx M7 K k7 p7 q => ?_) fun M7 xs k7 p7 e7 hxl hx => ?_
    · have es7 := k7 _ _ nq1a (k6 _ _ nq1a e5)
      walk_at "w"
      rw [es7]
      refine ⟨a, (((ws.map T.str).length : Nat) : Int), rfl, rfl, p7, by rw [List.length_map]; omega, by rw [List.length_map]; omega, fun M8 d8 k8 p8 l8 u8 => ?_⟩
      obtain ⟨y, hy, ey⟩ := at_mem (xs := ws.map T.str) l8 u8
      walk_at "w"
      rw [k8 _ _ nq1a es7]
      walk_at "w"
      rw [ey]
      obtain ⟨z, hz, rfl⟩ := List.mem_map.mp hy
      exact q M8 z k8 p8 (hw z hz)
    · rw [rng_len] at hxl
      exact ⟨D, xs, _, rfl, k6.trans k7, p7, k6.free p6 nD, e7, by omega, hx⟩
  rintro τ M6 ⟨q, xs, v2', rfl, k6, p6, nq, e6, hxl, hxn⟩
  have nqa : q ≠ a := fun z => p5.ne nq z.symm
  refine ⟨fun τ M7 => ∃ (xs : List Str) (v2 : Option T), τ = [some (.ref a), some (.ref q1), v2, some (.ref q4), some (.str nm), some (.ref q)] ∧ Kp a M5 M7 ∧ Pt M7 a ∧ M7 q = some (.lst (xs.map T.str)) ∧ xs.length ≤ 4 ∧ ∀ y ∈ xs, NmOk y, ?_, ?_⟩
  · refine ⟨a, 4, rfl, rfl, p6, by decide, by decide, fun M7 d7 k7 p7 l7 u7 => ?_⟩
    walk_at "w"
    by_cases e : d7 = 0
    · rw [decide_eq_true e]
      have e7 := k7 _ _ nqa e6
      walk_at "w"
      rw [e7]
      refine ⟨a, rfl, p7, fun M8 z k8 p8 nz => ?_⟩
      have e8 := k8 _ _ nqa e7
      walk_at "w"
      rw [e8]
      refine ⟨by rw [List.length_map]; exact Nat.lt_of_lt_of_le (show xs.length < 4 by omega) (by decide), xs ++ [z], _, rfl, fun c o nc e => ?_, p8.upn nqa, by rw [up_same, List.map_append]; rfl, by rw [List.length_append]; exact Nat.succ_le_succ hxl, fun y hy => ?_⟩
      · rw [up_ne (ne_free e nq)]
        exact k8 _ _ nc (k7 _ _ nc (k6 _ _ nc e))
      · rcases List.mem_append.mp hy with hy | hy
        · exact hxn y hy
        · rw [List.mem_singleton.mp hy]
          exact nz
    · rw [decide_eq_false e]
      exact ⟨xs, _, rfl, k6.trans k7, p7, k7 _ _ nqa e6, by omega, hxn⟩
  clear e6 hxl hxn k6 p6 xs
  rintro τ M7 ⟨xs, v2'', rfl, k7, p7, e7, hxl, hxn⟩
  refine ⟨a, 5, rfl, rfl, p7, by decide, by decide, fun M8 d8 k8 p8 l8 u8 => ?_⟩
  have k58 := k7.trans k8
  walk_at "w"
  by_cases e : 0 < d8
  · rw [decide_eq_true e]
    refine ⟨a, 3, rfl, rfl, p8, by decide, by decide, fun M9 d9 k9 p9 l9 u9 => ?_⟩
    have k59 := k58.trans k9
    have eq9 := k59 _ _ n4a eq5
    have e9 := k9 _ _ nqa (k8 _ _ nqa e7)
    have kr9 := kr.kp p5 k59
    have fin : ∀ t, StrsIn M9 t xs → ∀ v2 : Option T, ∃ (ks : Kds) (kvs' : List (Key × T)) (v2' v4 v5 : Option T), ([some (.ref a), some (.ref q1), v2, some (.ref q4), some (.str nm), some (.ref q)] : Ts) = [some (.ref a), some (.ref q1), v2', some (.ref q4), v4, v5] ∧ Kp a M (up M9 q4 (.dK (putT kvs (.inr nm) t))) ∧ Pt (up M9 q4 (.dK (putT kvs (.inr nm) t))) a ∧ (up M9 q4 (.dK (putT kvs (.inr nm) t))) q1 = some (.lst (ws.map T.str)) ∧ (up M9 q4 (.dK (putT kvs (.inr nm) t))) q4 = some (.dK kvs') ∧ KvR (up M9 q4 (.dK (putT kvs (.inr nm) t))) kvs' ks ∧ KdW ks (n + 1) := fun t ht v2 => by
      refine ⟨putD ks nm xs, _, _, _, _, rfl, fun c o nc e => ?_, p9.upn n4a, by rw [up_ne (Ne.symm n41)]; exact k59 _ _ nq1a e5, up_same, ?_, kw.put (hw nm hnm) hxl hxn⟩
      · have n4 : c ≠ q4 := fun z => by
          have := k3 _ _ nc e
          rw [z, nq4] at this
          cases this
        rw [up_ne n4]
        exact k59 _ _ nc (k5 _ _ nc e)
      · refine (kr9.put ht).lists fun c xs e => ?_
        rw [up_ne (fun z => by rw [z, eq9] at e; cases e)]
        exact e
    have hkl : kvs.length < sizeLine := by
      rw [kr.len]
      exact Nat.lt_of_le_of_lt kw.len (Nat.lt_of_lt_of_le (show n < 9 by have := (List.getElem?_eq_some_iff.mp hx).1; rw [List.length_map] at this; omega) (by decide))
    walk_at "w"
    by_cases g : d9 = 0
    · rw [decide_eq_true g]
      walk_at "w"
      rw [e9]
      walk_at "w"
      rw [eq9]
      exact ⟨hkl, fin _ (.inl rfl) _⟩
    · rw [decide_eq_false g]
      walk_at "w"
      rw [eq9]
      exact ⟨hkl, fin _ (.inr ⟨q, rfl, e9⟩) _⟩
  · rw [decide_eq_false e]
    exact ⟨ks, kvs, _, _, _, rfl, k5.trans k58, p8, k58 _ _ nq1a e5, k58 _ _ n4a eq5, kr.kp p5 k58, Nat.le_succ_of_le kw.len, kw.each⟩
end
end L3
set_option Elab.async false
set_option linter.all false
set_option maxRecDepth 100000
set_option maxHeartbeats 1000000
set_option autoImplicit false
namespace L3
open PySem PySem.Spec PyProof.Rows L2
/-! ### what repr shows of things with dicts, and how long that is -/
mutual
theorem Dt.x {M : Mh} : ∀ {t : T} {d : PyData}, Dt M t d → Dx M t d
  | _, _, .non => .non
  | _, _, .bl b => .bl b
  | _, _, .int b => .int b
  | _, _, .str b => .str b
  | _, _, .lst e ds => .lst e (Dts.x ds)
  | _, _, .tup ds => .tup (Dts.x ds)
theorem Dts.x {M : Mh} : ∀ {ts : List T} {ds : List PyData}, Dts M ts ds → Dxs M ts ds
  | _, _, .nil => .nil
  | _, _, .cons d ds => .cons (Dt.x d) (Dts.x ds)
end
structure Sy (M : Mh) (t : T) (d : PyData) (k n : Nat) : Prop where
  dt : Dx M t d
  sh : d.showable = true
  dp : d.depth ≤ k
  len : d.shown.length ≤ n
structure Sys (M : Mh) (ts : List T) (ds : List PyData) (k n : Nat) : Prop where
  dt : Dxs M ts ds
  sh : PyData.showableAll ds = true
  dp : PyData.depthAll ds ≤ k
  len : ((PyData.shownAll ds).map (·.length)).sum ≤ n
  ln : (PyData.shownAll ds).length = ts.length
theorem Sw.y {M : Mh} {t : T} {d : PyData} {k n : Nat} (h : Sw M t d k n) : Sy M t d k n := ⟨h.dt.x, h.sh, h.dp, h.len⟩
theorem Sws.y {M : Mh} {t : List T} {d : List PyData} {k n : Nat} (h : Sws M t d k n) : Sys M t d k n := ⟨h.dt.x, h.sh, h.dp, h.len, h.ln⟩
theorem Sy.sub {M M' : Mh} {t : T} {d : PyData} {k n : Nat} (h : Sy M t d k n) (s : Sub M M') : Sy M' t d k n := ⟨h.dt.sub s, h.sh, h.dp, h.len⟩
theorem Sys.sub {M M' : Mh} {t : List T} {d : List PyData} {k n : Nat} (h : Sys M t d k n) (s : Sub M M') : Sys M' t d k n := ⟨h.dt.sub s, h.sh, h.dp, h.len, h.ln⟩
theorem Sy.mono {M : Mh} {t : T} {d : PyData} {k n k' n' : Nat} (h : Sy M t d k n) (hk : k ≤ k') (hn : n ≤ n') : Sy M t d k' n' := ⟨h.dt, h.sh, Nat.le_trans h.dp hk, Nat.le_trans h.len hn⟩
theorem sys_nil {M : Mh} {k : Nat} : Sys M [] [] k 0 := ⟨.nil, rfl, Nat.zero_le _, Nat.le_refl _, rfl⟩
theorem sys_cons {M : Mh} {t : T} {ts : List T} {d : PyData} {ds : List PyData} {k n m : Nat} (a : Sy M t d k n) (b : Sys M ts ds k m) : Sys M (t :: ts) (d :: ds) k (n + m) := by
  refine ⟨.cons a.dt b.dt, ?_, ?_, ?_, ?_⟩
  · show (d.showable && PyData.showableAll ds) = true
    rw [a.sh, b.sh]
    rfl
  · show max d.depth (PyData.depthAll ds) ≤ k
    have := a.dp
    have := b.dp
    omega
  · show d.shown.length + ((PyData.shownAll ds).map (·.length)).sum ≤ n + m
    have := a.len
    have := b.len
    omega
  · show (PyData.shownAll ds).length + 1 = ts.length + 1
    rw [b.ln]
theorem sy_lst {M : Mh} {a : Addr} {ts : List T} {ds : List PyData} {k n : Nat} (h : Sys M ts ds k n) (e : M a = some (.lst ts)) : Sy M (.ref a) (.list ds) (k + 1) (n + 2 * ts.length + 3) := by
  refine ⟨.lst e h.dt, h.sh, ?_, ?_⟩
  · show PyData.depthAll ds + 1 ≤ k + 1
    have := h.dp
    omega
  · have := listText_len_le (PyData.shownAll ds)
    rw [h.ln] at this
    have := h.len
    show (listText (PyData.shownAll ds)).length ≤ _
    omega
theorem Sy.shx {M : Mh} {a : Addr} {d : PyData} {k n : Nat} (h : Sy M (.ref a) d k n) (hk : k ≤ 50) (hn : n ≤ 1000000) : ShX M (.ref a) d.shown := ⟨a, d, rfl, h.dt, h.sh, Nat.le_trans h.dp hk, Nat.le_trans h.len (Nat.le_trans hn (by decide)), rfl⟩
/-- a dict of names -/
theorem nm_kv : ∀ {xs : List Str} {ds : List PyData} {k n : Nat}, (∀ x ∈ xs, (reprText x).length ≤ 2000) → ds.length = xs.length → PyData.showableAll ds = true → PyData.depthAll ds ≤ k → ((PyData.shownAll ds).map (·.length)).sum ≤ n →
    PyData.showableKv ((xs.map PyData.str).zip ds) = true ∧ PyData.depthKv ((xs.map PyData.str).zip ds) ≤ k ∧ ((PyData.shownKv ((xs.map PyData.str).zip ds)).map (·.length)).sum ≤ n + 2002 * xs.length ∧ (PyData.shownKv ((xs.map PyData.str).zip ds)).length = xs.length
  | [], [], _, _, _, _, _, _, _ => ⟨rfl, Nat.zero_le _, Nat.zero_le _, rfl⟩
  | [], _ :: _, _, _, _, h, _, _, _ => by cases h
  | _ :: _, [], _, _, _, h, _, _, _ => by cases h
  | x :: xs, d :: ds, k, n, hx, hl, hs, hd, hn => by
    have hs : (d.showable && PyData.showableAll ds) = true := hs
    rw [Bool.and_eq_true] at hs
    have hd : max d.depth (PyData.depthAll ds) ≤ k := hd
    have hn : d.shown.length + ((PyData.shownAll ds).map (·.length)).sum ≤ n := hn
    obtain ⟨h1, h2, h3, h4⟩ := nm_kv (xs := xs) (ds := ds) (k := k) (n := ((PyData.shownAll ds).map (·.length)).sum) (fun y hy => hx y (.tail _ hy)) (Nat.succ.inj hl) hs.2 (by omega) (Nat.le_refl _)
    have hx0 := hx x (.head _)
    refine ⟨?_, ?_, ?_, ?_⟩
    · show ((true && d.showable) && PyData.showableKv ((xs.map PyData.str).zip ds)) = true
      rw [hs.1, h1]
      rfl
    · show max (max 0 d.depth) (PyData.depthKv ((xs.map PyData.str).zip ds)) ≤ k
      omega
    · show (reprText x ++ ": " ++ d.shown : Str).length + ((PyData.shownKv ((xs.map PyData.str).zip ds)).map (·.length)).sum ≤ _
      rw [strLen_append, strLen_append, List.length_cons]
      have : (": " : Str).length = 2 := by decide +kernel
      omega
    · show (PyData.shownKv ((xs.map PyData.str).zip ds)).length + 1 = _
      rw [h4]
      rfl
theorem sy_dK {M : Mh} {a : Addr} {kvs : List (Key × T)} {xs : List Str} {ds : List PyData} {k n : Nat} (e : M a = some (.dK kvs)) (hk : kvs.map (·.1) = xs.map Sum.inr) (hx : ∀ x ∈ xs, NmOk x) (h : Sys M (kvs.map (·.2)) ds k n) :
    Sy M (.ref a) (.dict ((xs.map PyData.str).zip ds)) (k + 1) (n + 2004 * xs.length + 3) := by
  have hl : kvs.length = xs.length := by
    have := congrArg List.length hk
    rwa [List.length_map, List.length_map] at this
  have hd := h.dt.len
  rw [List.length_map] at hd
  obtain ⟨h1, h2, h3, h4⟩ := nm_kv (xs := xs) (ds := ds) (fun x q => by
    obtain ⟨d, hw⟩ := sx_nm (M := M) (k := 0) (hx x q)
    cases hw.dt
    exact hw.len) (by omega) h.sh h.dp h.len
  refine ⟨?_, h1, ?_, ?_⟩
  · have e2 : (kvs.map fun q => keyD q.1) = xs.map PyData.str := by
      rw [show (kvs.map fun q => keyD q.1) = (kvs.map (·.1)).map keyD by rw [List.map_map]; rfl, hk, List.map_map]
      rfl
    rw [← e2]
    exact .dK e h.dt
  · show PyData.depthKv _ + 1 ≤ k + 1
    omega
  · have := dictText_len_le (PyData.shownKv ((xs.map PyData.str).zip ds))
    rw [h4] at this
    show (dictText (PyData.shownKv _)).length ≤ _
    omega
end L3
set_option Elab.async false
set_option linter.all false
set_option maxRecDepth 100000
set_option maxHeartbeats 1000000
namespace L3
open PySem PySem.Spec PyProof.Rows L2
local macro_rules | `(tactic| walk_at "w") => `(tactic| ((conv => whnf); try dsimp only))

theorem nm_dec {z : Str} (h : nmB (.str z) = true) : NmOk z := h
theorem harm_tup (fo : Fo) (us : List Str) (p : Str → Bool) : ∃ xs, harmT fo us p = .tup xs := by
  unfold harmT
  split
  · exact ⟨_, rfl⟩
  · split <;> exact ⟨_, rfl⟩
theorem sx_in {M : Mh} {k n : Nat} {a b : T} (h1 : Sx M k n a) (h2 : Sx M k n b) : Sx M (k + 1) (2 * n + 7) (.tup [a, b]) := sx_tup (fun t ht => by
  simp only [List.mem_cons, List.not_mem_nil, or_false] at ht
  rcases ht with rfl | rfl
  · exact h1
  · exact h2) (Nat.le_refl _)
theorem harm_sx {M : Mh} {fo : Fo} {us : List Str} {p : Str → Bool} (g : GoodF fo) (h : ∀ y ∈ us, NmOk y) : Sx M 2 20000 (harmT fo us p) := by
  unfold harmT
  split
  · rename_i kv e
    exact (sx_in (k := 1) (n := 8100) (Sx.mono (sx_nm (k := 1) (z := "in") (nm_dec (by decide +kernel))) (Nat.le_refl _) (by decide)) (sx_path g (List.mem_of_find?_eq_some e))).mono (Nat.le_refl _) (by decide)
  · split
    · rename_i z e
      exact (sx_in (k := 1) (sx_nm (z := "may") (nm_dec (by decide +kernel))) (sx_nm (h z (List.mem_of_find?_eq_some e)))).mono (Nat.le_refl _) (by decide)
    · exact (sx_in (k := 1) (sx_nm (z := "not") (nm_dec (by decide +kernel))) sx_non).mono (Nat.le_refl _) (by decide)
/-- all but one thing -/
def del (M : Mh) (q : Addr) : Mh := fun x => if x = q then none else M x
theorem del_ne {M : Mh} {q x : Addr} (h : x ≠ q) : del M q x = M x := if_neg h
theorem del_of {M : Mh} {q x : Addr} {o : MO} (h : del M q x = some o) : x ≠ q ∧ M x = some o := by
  unfold del at h
  split at h
  · cases h
  · rename_i n
    exact ⟨n, h⟩
theorem KvR.keysS {M : Mh} : ∀ {kvs : List (Key × T)} {ks : Kds}, KvR M kvs ks → kvs.map (·.1) = (ks.map (·.1)).map Sum.inr
  | _, _, .nil => rfl
  | _, _, .cons h r => by
    rw [List.map_cons, List.map_cons, List.map_cons, r.keysS]
theorem KvR.sys {M : Mh} : ∀ {kvs : List (Key × T)} {ks : Kds}, KvR M kvs ks → (∀ q ∈ ks, q.2.length ≤ 4 ∧ ∀ y ∈ q.2, NmOk y) → ∃ ds, Sys M (kvs.map (·.2)) ds 1 (kvs.length * 9000)
  | _, _, .nil, _ => ⟨[], sys_nil⟩
  | _, _, .cons (t := t) (l := l) (kvs := kvs) h r, ok => by
    obtain ⟨ds, hd⟩ := r.sys fun q hq => ok q (.tail _ hq)
    obtain ⟨h1, h2⟩ := ok _ (.head _)
    dsimp only at h1 h2
    obtain ⟨dw, hw⟩ := sws_words (M := M) (ws := l) h2
    rw [List.length_map] at hw
    have one : ∃ d, Sy M t d 1 9000 := by
      rcases h with rfl | ⟨b, rfl, e⟩
      · exact ⟨_, (sw_tup hw).y.mono (Nat.le_refl _) (by rw [List.length_map]; omega)⟩
      · exact ⟨_, (sw_lst hw e).y.mono (Nat.le_refl _) (by rw [List.length_map]; omega)⟩
    obtain ⟨d, h3⟩ := one
    refine ⟨d :: ds, ?_⟩
    rw [List.map_cons, List.length_cons, Nat.succ_mul, Nat.add_comm]
    exact sys_cons h3 hd
/-- kinds and names, shown -/
theorem both_sys {M : Mh} {d q : Addr} {kvs : List (Key × T)} {ks : Kds} {bs : List Str} {n : Nat} (ed : M d = some (.dK kvs)) (kr : KvR M kvs ks) (kw : KdW ks n) (hn : n ≤ 20) (eq : M q = some (.lst (bs.map T.str))) (hb : ∀ y ∈ bs, NmOk y) (hl : bs.length ≤ 20) : ∃ ds, Sys M [.ref d, .ref q] ds 2 300000 := by
  have hkl := kw.len
  have hkv := kr.len
  obtain ⟨ds, hd⟩ := kr.sys fun x hx => ⟨(kw.each x hx).2.1, (kw.each x hx).2.2⟩
  have h1 := sy_dK ed kr.keysS (fun x hx => by
    obtain ⟨p, hp, rfl⟩ := List.mem_map.mp hx
    exact (kw.each p hp).1) hd
  rw [List.length_map] at h1
  obtain ⟨dw, hw⟩ := sws_words (M := M) hb
  rw [List.length_map] at hw
  have h2 := (sw_lst hw eq).y
  rw [List.length_map] at h2
  exact ⟨_, sys_cons (n := 250000) (m := 50000) (h1.mono (Nat.le_refl _) (by omega)) (sys_cons (n := 50000) (m := 0) (h2.mono (by decide) (by omega)) sys_nil)⟩
section
variable {P : Program} {w : World} {K : Fg} {mg : Str → Option Value} {base : Heap}
/-! ### _law_right -/
abbrev s__law_right : Stmt := topS 119
abbrev nm__law_right : List Str := ["_law_pot_here", "_law_called", "_law_sorts", "_law_places", "_law_words", "_law_k", "_law_label", "_law_bad", "_law_turn", "_law_kept", "_law_due_here", "_law_told"]
theorem sc__law_right : FnScope nm__law_right ["_law_pot_here"] (defScope s__law_right) := ⟨rfl, rfl, rfl, by decide +kernel, rfl, by decide +kernel, by decide +kernel⟩
def sp__law_right (C CN : Addr) : Sp3 := sp1 fun p M R _ => ∃ a : Addr, p = .ref a ∧ Pt M a ∧ ∀ M', R (.bl true) M'
theorem ok__law_right {C_Label : Addr} {C_NoPath : Addr} {f : Addr} {fd : FuncData} (F : Fun K "_law_right" "_law_right" s__law_right f fd) (g : Glb K mg C_Label C_NoPath) (c__law_take : Cl P w K mg base "_law_take" 1 ["_law_pot_here", "_law_many_here"] (sp__law_take)) (c__law_of_right : Cl P w K mg base "_law_of_right" 3 ["_law_sorts", "_law_called"] (sp__law_of_right)) (cnd_harm : ClND P w K mg base "harm" 1 ["names", "kinds"] 8 ["label", "names", "kinds", "limit"] [.non] (sp_harm C_Label C_NoPath)) (c3_harm : ClD P w K mg base "harm" 8 ["label", "names", "kinds", "limit"] [.non] (sp_harm C_Label C_NoPath)) (c__law_due : Cl P w K mg base "_law_due" 1 ["_law_rows_here", "_law_words", "_law_bad"] (sp__law_due)) (c__law_harmful : Cl P w K mg base "_law_harmful" 2 ["_law_sorts", "_law_called"] (sp__law_harmful)) (c__law_rows : Cl P w K mg base "_law_rows" (1 + 4) ["_law_places", "_law_path"] (sp__law_rows 4)) (c__law_word : Cl P w K mg base "_law_word" 2 ["_law_pot_here"] (sp__law_word)) (ci_Label : ClI P w K mg base C_Label "Label" 12 ["self", "places", "may"] [] (sp_init C_Label)) (c__law_list : Cl P w K mg base "_law_list" (5 + 4) ["_law_pot_here", "_law_share_here", "_law_room", "_law_around", "_law_making", "_law_path"] (sp__law_list 4)) (c__law_kinds : Cl P w K mg base "_law_kinds" 4 ["_law_pot_here"] (sp__law_kinds)) : G.FnG P w K mg base 14 f fd ["_law_pot_here"] (lift (sp__law_right C_Label C_NoPath)) := by
  refine F.ok3G sc__law_right (fun ts M R E h => sp1_len h) (fun cdv A outer s H E ts M R E3 gd hr h0 => ?_)
  obtain ⟨pot_here', rfl, h⟩ := sp1_of h0
  refine ⟨_, (ls_cons (ls_asg (le_call c__law_kinds (hr.mono (by decide)) (by rfl) (la_cons (lv 0) la_nil)) (lg_tup (by rfl) (lgs_cons (lg_name (i := 1) sc__law_right.nd rfl (by first | exact Or.inl rfl | exact Or.inr rfl)) (lgs_cons (lg_name (i := 2) sc__law_right.nd rfl (by first | exact Or.inl rfl | exact Or.inr rfl)) lgs_nil)))) (ls_cut (ls_set (i := 3) sc__law_right.nd rfl (by first | exact Or.inl rfl | exact Or.inr rfl) (le_call c__law_list (hr.mono (by decide)) (by rfl) (la_cons (lv 0) (la_cons (le_tup (la_cons le_int (la_cons le_int la_nil))) (la_cons (le_add le_int (le_call c__law_take (hr.mono (by decide)) (by rfl) (la_cons (lv 0) (la_cons le_int la_nil)))) (la_cons (le_lst la_nil) (la_cons le_newT (la_cons (le_tup la_nil) la_nil)))))))) (ls_cut (ls_lc0 (i := 4) (own := [("_law_k", 5)]) rfl sc__law_right.nd rfl rfl (sw_true rfl rfl rfl (by decide +kernel)) (li_range1 (by rfl) g.m_range (la_cons (le_call c__law_take (hr.mono (by decide)) (by rfl) (la_cons (lv 0) (la_cons le_int la_nil))) la_nil)) (blkOk_by (own := [("_law_k", 5)]) (N := nm__law_right) (sc := defScope s__law_right) (by decide +kernel)) (sg_name 5) (only_name (by decide)) (fun _ _ _ _ _ => (pg_name (i := 5) sc__law_right.nd rfl (by first | exact Or.inl rfl | exact Or.inr rfl))) (fun _ _ _ _ _ => lts_nil) (fun _ _ _ _ _ => (le_call c__law_word (hr.mono (by decide)) (by rfl) (la_cons (lv 0) la_nil)))) (ls_cut (ls_set (i := 6) sc__law_right.nd rfl (by first | exact Or.inl rfl | exact Or.inr rfl) (le_make ci_Label (hr.mono (by decide)) (by rfl) (la_cons (lv 3) (la_cons (lv 4) la_nil)))) (ls_cut (ls_set (i := 7) sc__law_right.nd rfl (by first | exact Or.inl rfl | exact Or.inr rfl) (le_add (le_lc0 (own := [("_law_k", 5)]) rfl sc__law_right.nd (li_range1 (by rfl) g.m_range (la_cons (le_call c__law_take (hr.mono (by decide)) (by rfl) (la_cons (lv 0) (la_cons le_int la_nil))) la_nil)) (blkOk_by (own := [("_law_k", 5)]) (N := nm__law_right) (sc := defScope s__law_right) (by decide +kernel)) (sg_name 5) (only_name (by decide)) (fun _ _ _ _ _ => (pg_name (i := 5) sc__law_right.nd rfl (by first | exact Or.inl rfl | exact Or.inr rfl))) (fun _ _ _ _ _ => lts_nil) (fun _ _ _ _ _ => (le_at (lv 1) (le_call c__law_take (hr.mono (by decide)) (by rfl) (la_cons (lv 0) (la_cons (le_len (by rfl) g.m_len (la_cons (lv 1) la_nil)) la_nil)))))) (le_lst (la_cons (le_call c__law_word (hr.mono (by decide)) (by rfl) (la_cons (lv 0) la_nil)) la_nil)))) (ls_cons (ls_for PassesOwn.never rfl (li_range1 (by rfl) g.m_range (la_cons le_int la_nil)) (lg_name (i := 8) sc__law_right.nd rfl (by first | exact Or.inl rfl | exact Or.inr rfl)) (ls_cons (ls_set (i := 9) sc__law_right.nd rfl (by first | exact Or.inl rfl | exact Or.inr rfl) (le_reprX g.sysM gd hr (by rfl) g.m_repr (la_cons (le_lst (la_cons (lv 2) (la_cons (lv 7) la_nil))) la_nil))) (ls_cons (ls_set (i := 10) sc__law_right.nd rfl (by first | exact Or.inl rfl | exact Or.inr rfl) (le_call c__law_due (hr.mono (by decide)) (by rfl) (la_cons (le_call c__law_rows (hr.mono (by decide)) (by rfl) (la_cons (lv 3) (la_cons (le_tup la_nil) la_nil))) (la_cons (lv 4) (la_cons (le_call c__law_harmful (hr.mono (by decide)) (by rfl) (la_cons (lv 2) (la_cons (lv 7) la_nil))) la_nil))))) (ls_cons (ls_set (i := 11) sc__law_right.nd rfl (by first | exact Or.inl rfl | exact Or.inr rfl) (le_lst (la_cons (le_callD c3_harm (hr.mono (by decide)) (by rfl) (la_cons (lv 6) (la_cons (lv 7) (la_cons (lv 2) la_nil)))) (la_cons (le_callND cnd_harm (hr.mono (by decide)) (by rfl) (la_cons (lv 6) la_nil) (lk_cons (lv 7) (lk_cons (lv 2) lk_nil))) la_nil)))) (ls_cons (ls_if (lt_cut (lt_w (lw_or (lt_not (lt_val (le_call c__law_of_right (hr.mono (by decide)) (by rfl) (la_cons (lv 2) (la_cons (lv 1) la_nil))))) (lw_or (lt_c (c_ne hr) (le_repr gd hr (by rfl) g.m_repr (la_cons (lv 11) la_nil)) (le_repr gd hr (by rfl) g.m_repr (la_cons (le_lst (la_cons (lv 10) (la_cons (lv 10) la_nil))) la_nil))) (lw_or1 (lt_c (c_ne hr) (le_reprX g.sysM gd hr (by rfl) g.m_repr (la_cons (le_lst (la_cons (lv 2) (la_cons (lv 7) la_nil))) la_nil)) (lv 9))))))) (ls_one (ls_ret le_bl)) ls_nil) (ls_one (ls_if (lt_c (c_eq hr) (le_mod (lv 8) le_int) le_int) (ls_one (ls_put hr (lv 2) (le_at (lv 1) (le_call c__law_take (hr.mono (by decide)) (by rfl) (la_cons (lv 0) (la_cons (le_len (by rfl) g.m_len (la_cons (lv 1) la_nil)) la_nil)))) (le_lst (la_cons (le_at (lv 1) (le_call c__law_take (hr.mono (by decide)) (by rfl) (la_cons (lv 0) (la_cons (le_len (by rfl) g.m_len (la_cons (lv 1) la_nil)) la_nil)))) la_nil)))) (ls_one (ls_expr (le_append (lv 7) (la_cons (le_at (lv 1) (le_call c__law_take (hr.mono (by decide)) (by rfl) (la_cons (lv 0) (la_cons (le_len (by rfl) g.m_len (la_cons (lv 1) la_nil)) la_nil)))) la_nil))))))))))) (ls_one (ls_ret le_bl)))))))), ?_⟩
  obtain ⟨a, rfl, hp, h⟩ := h
  refine ⟨a, rfl, hp, fun M1 c d ws ks kvs k1 p1 ec hw hw1 hw8 ed kr kw => ?_⟩
  have nca : c ≠ a := fun z => p1.strs ec z.symm
  have nda : d ≠ a := fun z => by
    obtain ⟨_, _, e, _⟩ := p1
    rw [z, e] at ed
    cases ed
  walk_at "w"
  refine ⟨fun τ M2 => ∃ fo : Fo, τ = [some (.ref a), some (.ref c), some (.ref d), some (.tup fo.ts), none, none, none, none, none, none, none, none] ∧ Kp a M1 M2 ∧ Pt M2 a ∧ GoodF fo, ?_, ?_⟩
  · refine ⟨a, 8, rfl, rfl, p1, by decide, by decide, fun M2 d2 k2 p2 l2 u2 => ?_⟩
    intro q3 nq3
    have s3 : Sub M2 (up M2 q3 (.lst [])) := .new nq3
    have e3 : (up M2 q3 (.lst [])) q3 = some (.lst []) := up_same
    generalize up M2 q3 (.lst []) = M3 at s3 e3 ⊢
    intro q4 nq4
    have s4 : Sub M3 (up M3 q4 (.dT [])) := .new nq4
    have e4 : (up M3 q4 (.dT [])) q4 = some (.dT []) := up_same
    generalize up M3 q4 (.dT []) = M4 at s4 e4 ⊢
    have s24 := s3.trans s4
    refine ⟨a, 1, 1, (1 + d2).toNat, q3, q4, [], [], [], rfl, rfl, congrArg T.int (by omega), rfl, rfl, rfl, p2.sub s24, ⟨by decide +kernel, by decide, by decide, by decide⟩, s4 _ _ e3, e4, rfl, by decide, rfl, by omega, by omega, (by show 0 + _ ≤ 1000; omega), fun M5 fo kvs' k5 p5 eD5 _ ne gd dp ct un => ?_⟩
    refine ⟨fo, rfl, fun c o nc e => ?_, p5, ⟨gd, ne, dp, by omega, un⟩⟩
    have e' := k2 _ _ nc e
    exact k5 _ _ nc (ne_free (s3 _ _ e') nq4) (s24 _ _ e')
  rintro τ M2 ⟨fo, rfl, k2, p2, gf⟩
  refine ⟨fun τ M3 => ∃ (b : Addr) (wd : List Str), τ = [some (.ref a), some (.ref c), some (.ref d), some (.tup fo.ts), some (.ref b), none, none, none, none, none, none, none] ∧ Kp a M1 M3 ∧ Pt M3 a ∧ M3 b = some (.lst (wd.map T.str)) ∧ (∀ y ∈ wd, NmOk y) ∧ wd.length ≤ 3, ?_, ?_⟩
  · refine ⟨a, 4, rfl, rfl, p2, by decide, by decide, fun M3 d3 k3 p3 l3 u3 => ?_⟩
    refine ⟨⟨by show -(2 ^ 62 : Int) ≤ d3; omega, by show d3 < (2 ^ 62 : Int); omega⟩, fun D nD => ?_⟩
    refine lc_draws NmOk nD p3 (by rw [rng_len]; omega) (fun _ => trivial) (fun x hx M4 K k4 p4 q => ⟨a, rfl, p4, q⟩) fun M4 wd k4 p4 e4 hl hwd => ?_
    rw [rng_len] at hl
    exact ⟨D, wd, rfl, (k2.trans k3).trans k4, p4, e4, hwd, by omega⟩
  rintro τ M4 ⟨b, wd, rfl, k4, p4, eb, hwd, hdl⟩
  have nba : b ≠ a := fun z => p4.strs eb z.symm
  refine ⟨fun τ M5 => ∃ lb : Addr, τ = [some (.ref a), some (.ref c), some (.ref d), some (.tup fo.ts), some (.ref b), none, some (.ref lb), none, none, none, none, none] ∧ Sub M4 M5 ∧ Lab C_Label M5 lb fo (srt wd) ∧ SrtOk wd, ?_, ?_⟩
  · walk_at "w"
    intro lb nlb
    refine ⟨lb, fo, wd, rfl, up_same, rfl, gf, .inr ⟨b, rfl, by rw [up_ne (ne_free eb nlb)]; exact eb⟩, hwd, by omega, fun D nD so => ⟨rfl, ?_⟩⟩
    have nDl : D ≠ lb := fun z => by rw [z, up_same] at nD; cases nD
    have nDM : M4 D = none := by rw [up_ne nDl] at nD; exact nD
    refine ⟨lb, rfl, fun x o e => ?_, ⟨D, up_same, by rw [up_ne nDl, up_same]⟩, so⟩
    rw [up_ne (ne_free e nlb), up_ne (ne_free e nDM), up_ne (ne_free e nlb)]
    exact e
  rintro τ M5 ⟨lb, rfl, s5, lab, so⟩
  have k15 := k4.trans (.of s5)
  have p5 := p4.sub s5
  have kr5 := kr.kp p1 k15
  have ec5 := k15 _ _ nca ec
  have ed5 := k15 _ _ nda ed
  have eb5 := s5 _ _ eb
  refine ⟨fun τ M6 => ∃ (q : Addr) (bs : List Str) (v5 : Option T), τ = [some (.ref a), some (.ref c), some (.ref d), some (.tup fo.ts), some (.ref b), v5, some (.ref lb), some (.ref q), none, none, none, none] ∧ Kp a M5 M6 ∧ Pt M6 a ∧ M5 q = none ∧ M6 q = some (.lst (bs.map T.str)) ∧ (∀ y ∈ bs, NmOk y) ∧ bs.length ≤ 3, ?_, ?_⟩
  · refine ⟨a, 3, rfl, rfl, p5, by decide, by decide, fun M6 d6 k6 p6 l6 u6 => ?_⟩
    refine ⟨⟨by show -(2 ^ 62 : Int) ≤ d6; omega, by show d6 < (2 ^ 62 : Int); omega⟩, fun D nD => ?_⟩
    refine lc_draws NmOk nD p6 (by rw [rng_len]; omega) (fun _ => trivial) (fun x hx M7 K k7 p7 q => ?_) fun M7 xs k7 p7 e7 hxl hx => ?_
    · have es7 := k7 _ _ nca (k6 _ _ nca ec5)
      walk_at "w"
      rw [es7]
      refine ⟨a, (((ws.map T.str).length : Nat) : Int), rfl, rfl, p7, by rw [List.length_map]; omega, by rw [List.length_map]; omega, fun M8 d8 k8 p8 l8 u8 => ?_⟩
      obtain ⟨y, hy, ey⟩ := at_mem (xs := ws.map T.str) l8 u8
      walk_at "w"
      rw [k8 _ _ nca es7]
      walk_at "w"
      rw [ey]
      obtain ⟨z, hz, rfl⟩ := List.mem_map.mp hy
      exact q M8 z k8 p8 (hw z hz)
    · rw [rng_len] at hxl
      have nDa : D ≠ a := fun z => p6.ne nD z.symm
      refine ⟨a, rfl, p7, fun M8 z k8 p8 nz => ?_⟩
      intro q9 nq9
      have s9 : Sub M8 (up M8 q9 (.lst [.str z])) := .new nq9
      have e9 : (up M8 q9 (.lst [.str z])) q9 = some (.lst [.str z]) := up_same
      generalize up M8 q9 (.lst [.str z]) = M9 at s9 e9 ⊢
      walk_at "w"
      rw [s9 _ _ (k8 _ _ nDa e7), e9]
      refine ⟨by rw [List.length_map]; exact lineM (show xs.length + 1 ≤ 1000000 by omega), fun q10 nq10 => ?_⟩
      have k58 := (k6.trans k7).trans k8
      have s810 : Sub M8 (up M9 q10 (.lst (xs.map T.str ++ [.str z]))) := s9.trans (.new nq10)
      have n8 : M8 q10 = none := by
        cases e : M8 q10 with
        | none => rfl
        | some o => rw [s9 _ _ e] at nq10; cases nq10
      refine ⟨q10, xs ++ [z], _, rfl, k58.trans (.of s810), p8.sub s810, k58.free p8 n8, by rw [List.map_append]; exact up_same, fun y hy => ?_, by rw [List.length_append]; exact Nat.succ_le_succ (by omega)⟩
      rcases List.mem_append.mp hy with hy | hy
      · exact hx y hy
      · rw [List.mem_singleton.mp hy]
        exact nz
  rintro τ M6 ⟨q, bs, v5, rfl, k6, p6, nq, eq6, hbs, hbl⟩
  have ncq : c ≠ q := ne_free ec5 nq
  have nbq : b ≠ q := ne_free eb5 nq
  have nqa : q ≠ a := fun z => p6.strs eq6 z.symm
  have ct := gf.ct
  have dp := gf.dp
  have kr6 : KvR (del M6 q) kvs ks := kr5.strs fun x us e => by
    rw [del_ne (ne_free e nq)]
    exact k6 _ _ (fun z => p5.strs e z.symm) e
  refine ⟨⟨by decide, by decide⟩, fun n τ M7 => ∃ (ks : Kds) (kvs : List (Key × T)) (bs : List Str) (v5 v8 v9 va vb : Option T), τ = [some (.ref a), some (.ref c), some (.ref d), some (.tup fo.ts), some (.ref b), v5, some (.ref lb), some (.ref q), v8, v9, va, vb] ∧ Pt M7 a ∧ M7 c = some (.lst (ws.map T.str)) ∧ M7 d = some (.dK kvs) ∧ KvR (del M7 q) kvs ks ∧ KdW ks (8 + n) ∧ M7 b = some (.lst (wd.map T.str)) ∧ Lab C_Label M7 lb fo (srt wd) ∧ M7 q = some (.lst (bs.map T.str)) ∧ (∀ y ∈ bs, NmOk y) ∧ bs.length ≤ 3 + n, ⟨ks, kvs, bs, _, _, _, _, _, rfl, p6, k6 _ _ nca ec5, k6 _ _ nda ed5, kr6, kw, k6 _ _ nba eb5, lab.kp p5 k6, eq6, hbs, hbl⟩, fun _ _ _ _ => trivial, ?_, ?_⟩
  rotate_left
  · rintro τ M7 ⟨_, _, _, _, _, _, _, _, rfl, _⟩
    exact fin3.of (h _)
  clear kr kw ec ed eb kr5 ec5 ed5 eb5 lab kr6 eq6 hbs hbl k6 p6 nq k15 p5 s5 k4 p4 k2 p2 k1 p1 hp v5 bs ks kvs
  rintro n x τ M7 hx ⟨ks, kvs, bs, v5, v8, v9, va, vb, rfl, p7, ec, ed, krd, kw, eb, lab, eq, hbs, hbl⟩
  obtain ⟨hn4, rfl⟩ := rng_of hx
  have hn4 : n < 4 := hn4
  have ndq : d ≠ q := fun z => by rw [z, eq] at ed; cases ed
  have kr : KvR M7 kvs ks := krd.strs fun x us e => (del_of e).2
  have ok : KdsOk ks := kw.ok (by omega)
  have knd : Knd M7 (.ref d) ks := ⟨d, kvs, rfl, ed, kr⟩
  obtain ⟨ds, hds⟩ := both_sys ed kr kw (by omega) eq hbs (by omega)
  have shx : ∀ {M' : Mh} {L : Addr}, Sub M7 M' → M' L = some (.lst [.ref d, .ref q]) → ShX M' (.ref L) (PyData.list ds).shown := fun s e => (sy_lst (hds.sub s) e).shx (by decide) (by show 300000 + 2 * 2 + 3 ≤ 1000000; decide)
  have hsw : ∀ y ∈ srt wd, NmOk y := fun y hy => hwd y ((so.2.2.1 y).mp hy)
  obtain ⟨xs, exs⟩ := harm_tup fo (srt wd) (hmf ks bs)
  have hsx : ∀ M', Sx M' 2 20000 (.tup xs) := fun M' => by rw [← exs]; exact harm_sx gf hsw
  intro q8 nq8
  have s8 : Sub M7 (up M7 q8 (.lst [.ref d, .ref q])) := .new nq8
  have e8 : (up M7 q8 (.lst [.ref d, .ref q])) q8 = some (.lst [.ref d, .ref q]) := up_same
  generalize up M7 q8 (.lst [.ref d, .ref q]) = M8 at s8 e8 ⊢
  refine ⟨_, shx s8 e8, ?_⟩
  refine ⟨fo, [], rfl, rfl, gf.ne, gf.dp, by decide, by omega, fun pr' npr => ?_⟩
  have s9 : Sub M8 (up M8 pr' (.lst ((gaF [] 0 fo).map pr))) := .new npr
  have e9 : (up M8 pr' (.lst ((gaF [] 0 fo).map pr))) pr' = some (.lst ((gaF [] 0 fo).map pr)) := up_same
  generalize up M8 pr' (.lst ((gaF [] 0 fo).map pr)) = M9 at s9 e9 ⊢
  have s79 := s8.trans s9
  refine ⟨q, bs, ks, rfl, s79 _ _ eq, hbs, by omega, knd.sub s79, ok, fun M10 D B s10 eD hB => ?_⟩
  have s7A := s79.trans s10
  refine ⟨pr', b, D, fo, wd, B, rfl, rfl, rfl, s10 _ _ e9, s7A _ _ eb, eD, by omega, by omega, so, fun M11 s11 => ?_⟩
  have hp' : (fun z => decide (z ∈ B)) = hmf ks bs := funext fun z => by
    cases e : hmf ks bs z with
    | true => exact decide_eq_true ((hB z).mpr e)
    | false => exact decide_eq_false fun r => by rw [(hB z).mp r] at e; cases e
  rw [hp', exs]
  have s7B := s7A.trans s11
  walk_at "w"
  refine ⟨lb, fo, srt wd, bs, ks, rfl, lab.sub s7B, by omega, by omega, .inr ⟨q, rfl, s7B _ _ eq⟩, hbs, by omega, knd.sub s7B, ok, rfl, fun M12 s12 => ?_⟩
  rw [exs]
  have s7C := s7B.trans s12
  refine ⟨lb, fo, srt wd, bs, ks, rfl, lab.sub s7C, by omega, by omega, .inr ⟨q, rfl, s7C _ _ eq⟩, hbs, by omega, knd.sub s7C, ok, rfl, fun M13 s13 => ?_⟩
  rw [exs]
  have s7D := s7C.trans s13
  intro q14 nq14
  have s14 : Sub M13 (up M13 q14 (.lst [.tup xs, .tup xs])) := .new nq14
  have e14 : (up M13 q14 (.lst [.tup xs, .tup xs])) q14 = some (.lst [.tup xs, .tup xs]) := up_same
  generalize up M13 q14 (.lst [.tup xs, .tup xs]) = M14 at s14 e14 ⊢
  have s7E := s7D.trans s14
  refine ⟨fun bb M15 => bb = false ∧ Sub M14 M15, ?_, ?_⟩
  · refine ⟨c, ws, ks, rfl, s7E _ _ ec, hw, by omega, knd.sub s7E, ok, fun M15 s15 => ?_⟩
    obtain ⟨dt, hdt⟩ := sxs (M := M15) (ts := [.tup xs, .tup xs]) (k := 2) (n := 20000) fun t ht => by
      simp only [List.mem_cons, List.not_mem_nil, or_false] at ht
      rcases ht with rfl | rfl <;> exact hsx _
    walk_at "w"
    refine ⟨_, shw_lst hdt (s15 _ _ e14) (by decide) (by show 2 * 20000 + 2 * 2 + 3 ≤ 1000000; decide), ?_⟩
    intro q16 nq16
    have s16 : Sub M15 (up M15 q16 (.lst [.tup xs, .tup xs])) := .new nq16
    have e16 : (up M15 q16 (.lst [.tup xs, .tup xs])) q16 = some (.lst [.tup xs, .tup xs]) := up_same
    generalize up M15 q16 (.lst [.tup xs, .tup xs]) = M16 at s16 e16 ⊢
    refine ⟨_, shw_lst (hdt.sub s16) e16 (by decide) (by show 2 * 20000 + 2 * 2 + 3 ≤ 1000000; decide), ?_⟩
    walk_at "w"
    rw [decide_eq_true rfl]
    intro q17 nq17
    have s17 : Sub M16 (up M16 q17 (.lst [.ref d, .ref q])) := .new nq17
    have e17 : (up M16 q17 (.lst [.ref d, .ref q])) q17 = some (.lst [.ref d, .ref q]) := up_same
    generalize up M16 q17 (.lst [.ref d, .ref q]) = M17 at s17 e17 ⊢
    have s7H := s7E.trans (s15.trans (s16.trans s17))
    refine ⟨_, shx s7H e17, ?_⟩
    walk_at "w"
    rw [decide_eq_true rfl]
    exact ⟨rfl, s15.trans (s16.trans s17)⟩
  rintro _ M15 ⟨rfl, s15⟩
  have s7F := s7E.trans s15
  have p15 := p7.sub s7F
  have krd15 : KvR (del M15 q) kvs ks := krd.strs fun x us e => by
    obtain ⟨e1, e2⟩ := del_of e
    rw [del_ne e1]
    exact s7F _ _ e2
  have ec := s7F _ _ ec
  have ed := s7F _ _ ed
  have eb := s7F _ _ eb
  have eq := s7F _ _ eq
  have lab := lab.sub s7F
  clear s7F s7E s7D s7C s7B s7A s79 s8 s9 s10 s11 s12 s13 s14 s15 hds shx krd kr knd p7
  have ncd : c ≠ d := fun z => by rw [z, ed] at ec; cases ec
  have nbd : b ≠ d := fun z => by rw [z, ed] at eb; cases eb
  have hln : ((ws.map T.str).length : Int) = (ws.length : Int) := by rw [List.length_map]
  walk_at "w"
  refine ⟨by decide, ?_⟩
  walk_at "w"
  by_cases g : (0 + (n : Int)).fmod 2 = 0
  · rw [decide_eq_true g]
    walk_at "w"
    rw [ec]
    refine ⟨a, (((ws.map T.str).length : Nat) : Int), rfl, rfl, p15, by omega, by omega, fun M16 d16 k16 p16 l16 u16 => ?_⟩
    obtain ⟨y, hy, ey⟩ := at_mem (xs := ws.map T.str) l16 u16
    have ec16 := k16 _ _ nca ec
    walk_at "w"
    rw [ec16]
    walk_at "w"
    rw [ey]
    obtain ⟨z, hz, rfl⟩ := List.mem_map.mp hy
    intro q17 nq17
    have s17 : Sub M16 (up M16 q17 (.lst [.str z])) := .new nq17
    have e17 : (up M16 q17 (.lst [.str z])) q17 = some (.lst [.str z]) := up_same
    generalize up M16 q17 (.lst [.str z]) = M17 at s17 e17 ⊢
    have ec17 := s17 _ _ ec16
    walk_at "w"
    rw [ec17]
    refine ⟨a, (((ws.map T.str).length : Nat) : Int), rfl, rfl, (p16.sub s17), by omega, by omega, fun M18 d18 k18 p18 l18 u18 => ?_⟩
    obtain ⟨y2, hy2, ey2⟩ := at_mem (xs := ws.map T.str) l18 u18
    have ec18 := k18 _ _ nca ec17
    have k518 : Kp a M15 M18 := (k16.trans (.of s17)).trans k18
    have ed18 := k518 _ _ nda ed
    have nq17a : q17 ≠ a := fun z => p16.ne nq17 z.symm
    have nq17q : q17 ≠ q := fun z => by
      have := k16 _ _ nqa eq
      rw [← z, nq17] at this
      cases this
    walk_at "w"
    rw [ec18]
    walk_at "w"
    rw [ey2]
    obtain ⟨z2, hz2, rfl⟩ := List.mem_map.mp hy2
    walk_at "w"
    rw [ed18]
    have lk : kvs.length < sizeLine := by
      rw [krd15.len]
      exact Nat.lt_of_le_of_lt kw.len (Nat.lt_of_lt_of_le (show 8 + n < 13 by omega) (by decide))
    have kr18 : KvR (del M18 q) kvs ks := krd15.strs fun x us e => by
      obtain ⟨f1, f2⟩ := del_of e
      rw [del_ne f1]
      exact k518 _ _ (fun z => p15.strs f2 z.symm) f2
    have sv : StrsIn (del M18 q) (.ref q17) [z] := .inr ⟨q17, rfl, by rw [del_ne nq17q]; exact k18 _ _ nq17a e17⟩
    obtain ⟨D, f1, f2⟩ := lab.kp p15 k518
    refine ⟨lk, putD ks z2 [z], putT kvs (.inr z2) (.ref q17), bs, _, _, _, _, _, rfl, p18.upn nda, by rw [up_ne ncd]; exact ec18, up_same, ?_, kw.put (hw z2 hz2) (show 1 ≤ 4 by decide) (fun y hy => by rw [List.mem_singleton.mp hy]; exact hw z hz), by rw [up_ne nbd]; exact k518 _ _ nba eb, ⟨D, by rw [up_ne (fun z => by rw [z, ed18] at f1; cases f1)]; exact f1, by rw [up_ne (fun z => by rw [z, ed18] at f2; cases f2)]; exact f2⟩, by rw [up_ne (Ne.symm ndq)]; exact k518 _ _ nqa eq, hbs, by omega⟩
    refine (kr18.put sv).lists fun x us e => ?_
    obtain ⟨g1, g2⟩ := del_of e
    rw [del_ne g1, up_ne (fun z => by rw [z, ed18] at g2; cases g2)]
    exact g2
  · rw [decide_eq_false g]
    walk_at "w"
    rw [eq]
    walk_at "w"
    rw [ec]
    refine ⟨a, (((ws.map T.str).length : Nat) : Int), rfl, rfl, p15, by omega, by omega, fun M16 d16 k16 p16 l16 u16 => ?_⟩
    obtain ⟨y, hy, ey⟩ := at_mem (xs := ws.map T.str) l16 u16
    have ec16 := k16 _ _ nca ec
    walk_at "w"
    rw [ec16]
    walk_at "w"
    rw [ey]
    obtain ⟨z, hz, rfl⟩ := List.mem_map.mp hy
    have eq16 := k16 _ _ nqa eq
    walk_at "w"
    rw [eq16]
    obtain ⟨D, f1, f2⟩ := lab.kp p15 k16
    refine ⟨by rw [List.length_map]; exact Nat.lt_of_lt_of_le (show bs.length < 8 by omega) (by decide), ks, kvs, bs ++ [z], _, _, _, _, _, rfl, p16.upn nqa, by rw [up_ne ncq]; exact ec16, by rw [up_ne ndq]; exact k16 _ _ nda ed, ?_, ⟨Nat.le_succ_of_le kw.len, kw.each⟩, by rw [up_ne nbq]; exact k16 _ _ nba eb, ⟨D, by rw [up_ne (fun z => by rw [z, eq16] at f1; cases f1)]; exact f1, by rw [up_ne (fun z => by rw [z, eq16] at f2; cases f2)]; exact f2⟩, by rw [up_same, List.map_append]; rfl, fun y hy => ?_, by rw [List.length_append]; exact Nat.succ_le_succ hbl⟩
    · exact krd15.strs fun x us e => by
        obtain ⟨g1, g2⟩ := del_of e
        rw [del_ne g1, up_ne g1]
        exact k16 _ _ (fun z => p15.strs g2 z.symm) g2
    · rcases List.mem_append.mp hy with hy | hy
      · exact hbs y hy
      · rw [List.mem_singleton.mp hy]
        exact hw z hz
end
end L3
set_option Elab.async false
set_option linter.all false
set_option maxRecDepth 100000
set_option maxHeartbeats 1000000
namespace L3
open PySem PySem.Spec PyProof.Rows L2
local macro_rules | `(tactic| walk_at "w") => `(tactic| ((conv => whnf); try dsimp only))

section
variable {P : Program} {w : World} {K : Fg} {mg : Str → Option Value} {base : Heap}
/-! ### law -/
abbrev s_law : Stmt := topS 120
abbrev nm_law : List Str := ["_law_script", "_law_k"]
theorem sc_law : FnScope nm_law ["_law_script"] (defScope s_law) := ⟨rfl, rfl, rfl, by decide +kernel, rfl, by decide +kernel, by decide +kernel⟩
def sp_law (K : Fg) : Sp3 := sp1 fun s M R _ => ∃ ns : List Int, s = .scr K ns ∧ ∀ M', R (.bl true) M'
theorem ok_law {C_Label : Addr} {C_NoPath : Addr} {f : Addr} {fd : FuncData} (F : Fun K "law" "law" s_law f fd) (g : Glb K mg C_Label C_NoPath) (c__law_right : ClG P w K mg base "_law_right" 14 ["_law_pot_here"] (sp__law_right C_Label C_NoPath)) (c__law_pot : Cl P w K mg base "_law_pot" 2 ["_law_script", "_law_k"] (sp__law_pot K)) : G.FnG P w K mg base 15 f fd ["_law_script"] (lift (sp_law K)) := by
  refine F.ok3G sc_law (fun ts M R E h => sp1_len h) (fun cdv A outer s H E ts M R E3 gd hr h0 => ?_)
  obtain ⟨script', rfl, h⟩ := sp1_of h0
  refine ⟨_, (ls_cons (ls_for PassesOwn.never rfl (li_range1 (by rfl) g.m_range (la_cons (le_max rfl (by rfl) g.m_max (la_cons le_int (la_cons (le_min rfl (by rfl) g.m_min (la_cons le_int (la_cons (le_lenS (by rfl) g.m_len (la_cons (lv 0) la_nil)) la_nil))) la_nil))) la_nil)) (lg_name (i := 1) sc_law.nd rfl (by first | exact Or.inl rfl | exact Or.inr rfl)) (ls_one (ls_if (lt_not (lt_val (le_callG c__law_right gd (hr.mono (by decide)) (by rfl) (la_cons (le_call c__law_pot (hr.mono (by decide)) (by rfl) (la_cons (lv 0) (la_cons (lv 1) la_nil))) la_nil)))) (ls_one (ls_ret le_bl)) ls_nil))) (ls_one (ls_ret le_bl))), ?_⟩
  obtain ⟨ns, rfl, h⟩ := h
  refine ⟨rfl, ?_⟩
  walk_at "w"
  refine ⟨⟨by split <;> split <;> omega, by split <;> split <;> omega⟩, fun i τ M1 => ∃ v1, τ = [some (.scr K ns), v1], ⟨none, rfl⟩, fun _ _ _ _ => trivial, ?_, ?_⟩
  rotate_left
  · rintro τ M1 ⟨v1, rfl⟩
    exact fin3.of (h _)
  rintro i x τ M1 hx ⟨v1, rfl⟩
  obtain ⟨hi, rfl⟩ := rng_of hx
  have hi4 : i < 64 := by
    refine Nat.lt_of_lt_of_le hi ?_
    split <;> split <;> omega
  refine ⟨ns, i, rfl, by rw [Int.zero_add], hi4, fun a o na hp => ?_⟩
  refine ⟨a, rfl, hp, fun M2 => ?_⟩
  walk_at "w"
  exact ⟨_, rfl⟩
end
end L3
set_option Elab.async false
set_option linter.all false
set_option maxRecDepth 100000
set_option maxHeartbeats 1000000
set_option autoImplicit false
/-! a law's end over a head by facts, where repr is asked -/
namespace G
open PySem PySem.Spec PyProof.Rows L2
theorem walk_ofGE {l : PySem.W.OpenLaw} {n k : Nat} {q : Program} {loose : List Str} {XP : (Str → Option Value) → Heap → Prop} {YP : World → Heap → Prop} {d : DefRec} {x : Str}
    (hn : l.most = some n) (hn2 : n ≤ sizeLine) (hdf : d.params.defaults = []) (hr : Room k callerA)
    (F : ∀ (w : World) (mg : Str → Option Value) (fa : Addr) (h : Heap), YP w h → h.Ns mainGlobals mg → mg d.name = some (.ref fa) →
      ∃ (K : PySem.W.Frag) (fd : FuncData) (sp : Sp), K.In h ∧ (∀ (s : Shared) (u : Value), BindsTo s fd ⟨[u], []⟩ [(x, u)]) ∧
        (∀ (H : Hp) (a : Addr) (ns : List Int), ns.length ≤ n → Only H → SqL K H a (ns.map V.int) → sp [.ref a] H (fun v _ => v = .bl true) fun _ _ _ => False) ∧
        ∀ base : Heap, K.In base → base.Ns mainGlobals mg → FnG l.prog w K mg base k fa fd [x] sp) :
    PySem.W.WalkO q loose XP YP l.row.toRowW d [] (fun f vs => PySem.call f vs) := by
  refine Att.attach_call hn hdf fun w s₀ s₁ mg mb fa o pm cd doc a vs ns G Y ho hd hcd hmg hobj hints hlen hg => ?_
  obtain ⟨K, fd, sp, KX, hb, hsp, hF⟩ := F w mg fa _ Y G.T.g hmg
  exact law_callG KX G.T.g G.T.b G.T.builtins G.T.nolimit hg hobj hints (Nat.le_trans hlen hn2) hr hF hb fun H hO hS => hsp H a ns hlen hO hS
theorem fun_of {K : PySem.W.Frag} {x qual : Str} {st : Stmt} {f : Addr} {fd : FuncData} (F : FunD K x qual (defArgs st) (defBody st) (defScope st) [] [] f fd) : Fun K x qual st f fd := by
  obtain ⟨oc, od, dV, kV, doc, pm, an, cdv, ct, osl, e, lk, hcd, hD, hK⟩ := F.ex
  rcases hD with ⟨_, rfl⟩ | ⟨e, _⟩
  · exact ⟨⟨oc, od, kV, doc, pm, an, cdv, ct, osl, e, lk, hcd⟩, F.kp⟩
  · exact absurd rfl e
theorem fun_law {K : PySem.W.Frag} {x qual a : Str} {st : Stmt} {f : Addr} {fd : FuncData} (F : Fun K x qual st f fd)
    (h : ∀ (kV doc pm : Value) (an : Option Addr) (cdv ct : Value) (us : List Value), us.length = [a].length → bindArgs (PySem.W.fnOf x qual (defArgs st) (defBody st) (defScope st) .none kV doc pm an cdv ct) ⟨us, []⟩ = pure ([a].zip us)) (s : Shared) (v : Value) : BindsTo s fd ⟨[v], []⟩ [(a, v)] := by
  obtain ⟨oc, od, kV, doc, pm, an, cdv, ct, osl, rfl, lk, hcd⟩ := F.ex
  exact .of_eq (h kV doc pm an cdv ct [v] rfl)
end G
/-! the head's facts, looked at by names: what they reach alone, each list laid out once -/
namespace He
open PySem PySem.Spec PyProof.Rows L2
def frL {α : Type} : List Addr → (List Addr → α) → α
  | [], k => k []
  | a :: r, k => HandSHeadRun.frNat a fun a => frL r fun r => k (a :: r)
theorem frL_eq {α : Type} : ∀ (as : List Addr) (k : List Addr → α), frL as k = k as
  | [], k => rfl
  | a :: r, k => by
    show HandSHeadRun.frNat a (fun a => frL r fun r => k (a :: r)) = _
    rw [HandSHeadRun.frNat_eq, frL_eq r]
def mkK {α : Type} (g : Addr → Option Obj) : List Addr → (PySem.W.Frag → α) → α
  | [], k => k []
  | a :: r, k => match g a with
    | some o => mkK g r fun K => k ((a, o) :: K)
    | none => mkK g r k
theorem mkK_eq {α : Type} (g : Addr → Option Obj) : ∀ (as : List Addr) (k : PySem.W.Frag → α), mkK g as k = k (frG g as)
  | [], k => rfl
  | a :: r, k => by
    unfold mkK frG
    rw [List.filterMap_cons]
    cases e : g a with
    | none => exact mkK_eq g r k
    | some o => exact mkK_eq g r _
/-- a def's code and defaults, a class's names and bases -/
def rfD (o : Obj) : List Addr := match o.data with
  | .func fd => refV fd.code ++ refV fd.defaults
  | .cls cd => cd.ns :: cd.mro.flatMap refV
  | _ => []
/-- a class's methods, a base's names -/
def rfN (o : Obj) : List Addr := match o.data with
  | .dict es _ => es.toList.flatMap fun e => refV e.val
  | .cls cd => [cd.ns]
  | _ => []
def stepA (g : Addr → Option Obj) (rf : Obj → List Addr) (as : List Addr) : List Addr := as.flatMap fun a => match g a with
  | some o => rf o
  | none => []
def asL (g : Addr → Option Obj) (xs : List Str) : List Addr :=
  let l1 := xs.map (ga (frG g [mainGlobals]))
  let l2 := stepA g rfD l1
  let l3 := stepA g rfN l2
  mainGlobals :: sysModules :: (l1 ++ (l2 ++ (l3 ++ stepA g rfD l3)))
def asF {α : Type} (g : Addr → Option Obj) (xs : List Str) (k : List Addr → α) : α :=
  mkK g [mainGlobals] fun K0 => frL (xs.map (ga K0)) fun l1 => frL (stepA g rfD l1) fun l2 => frL (stepA g rfN l2) fun l3 => frL (stepA g rfD l3) fun l4 => frL (mainGlobals :: sysModules :: (l1 ++ (l2 ++ (l3 ++ l4)))) k
theorem asF_eq {α : Type} (g : Addr → Option Obj) (xs : List Str) (k : List Addr → α) : asF g xs k = k (asL g xs) := by
  unfold asF
  rw [mkK_eq, frL_eq, frL_eq, frL_eq, frL_eq, frL_eq]
  rfl
abbrev AlN : Type := AlD × Bool
def obsS (fa : List Fa) (fn : List DefD) (K : PySem.W.Frag) : AlN := (obsD fa fn K, (K.lookup sysModules).isSome)
def SaysN (fa : List Fa) (fn : List DefD) (K : PySem.W.Frag) : Prop := obsS fa fn K = (valD fn, true)
theorem SaysN.d {fa : List Fa} {fn : List DefD} {K : PySem.W.Frag} (c : SaysN fa fn K) : SaysD fa fn K := congrArg (fun z : AlN => z.1) c
theorem SaysN.sys {fa : List Fa} {fn : List DefD} {K : PySem.W.Frag} (c : SaysN fa fn K) : ∃ o, K.lookup sysModules = some o := Option.isSome_iff_exists.mp (congrArg (fun z : AlN => z.2) c)
def obsN (xs : List Str) (fa : List Fa) (fn : List DefD) (g : Addr → Option Obj) : AlN := asF g xs fun as => mkK g as fun K => obsS fa fn K
theorem obsN_eq (xs : List Str) (fa : List Fa) (fn : List DefD) (g : Addr → Option Obj) : obsN xs fa fn g = obsS fa fn (frG g (asL g xs)) := by
  unfold obsN
  rw [asF_eq, mkK_eq]
def hookN (xs : List Str) (fa : List Fa) (fn : List DefD) : PySem.W.Hook where
  α := AlN
  obs := fun s => obsN xs fa fn s.heap.get?
  val := fun _ => (valD fn, true)
  says := fun _ h => ∃ K : PySem.W.Frag, K.In h ∧ SaysN fa fn K
  of := fun _ _ e => ⟨_, frG_in, (obsN_eq _ _ _ _).symm.trans e⟩
  keeps := fun _ _ _ ⟨K, hK, c⟩ k => ⟨K, PySem.W.Frag.In.keeps hK k, c⟩
theorem obsNG_eq {xs : List Str} {fa : List Fa} {fn : List DefD} {g : Addr → Option Obj} {s : Shared} (h : ∀ a, g a = s.heap.get? a) : obsN xs fa fn g = (hookN xs fa fn).obs s := by
  have e : g = s.heap.get? := funext h
  rw [e] <;> rfl
end He
set_option Elab.async false
set_option linter.all false
set_option maxRecDepth 100000
set_option maxHeartbeats 4000000
namespace L3
open PySem PySem.Spec PyProof.Rows L2
theorem sqR_of {K : Fg} {H : Hp} {a : Addr} {ns : List Int} (hO : L2.Only H) (hS : SqL K H a (ns.map V.int)) : SqR K H a ns := by
  rcases hS with (h | h) | h
  · rcases hO a with e | ⟨o, xs, e⟩ <;> (rw [e] at h; cases h)
  · exact .inl h
  · exact .inr h
theorem all_mk {l : PySem.W.OpenLaw} {w : World} {K : Fg} {mg : Str → Option Value} {fa C_Label C_NoPath : Addr} (hfa : mg "law" = some (.ref fa))
    {f_is_whole f_common_measure f_is_less f_is_fraction f_is_name f_is_stretch f_is_path f_is_filled f_is_formed f_check_list f_check_places f_check_names f_gather f_init f_Label_places f_Label_may f_Label_paths f_Label_has_path f_Label_place_at f_Label_name_at f_Label_told_at f_Label_many_in f__law_at f__law_pot f__law_take f__law_frac f__law_plus f__law_minus f__law_times f__law_word f__law_name f__law_stretch f__law_many f__law_list f__law_rows f_kinds_of f_is_of f_is_harmful f_are_names f_check_kinds f_harmful_path f_harmful_word f_harm_at_all f_harm f__law_of f__law_harmful f__law_due f__law_of_right f__law_kinds f__law_right f_law : Addr} {fd_is_whole fd_common_measure fd_is_less fd_is_fraction fd_is_name fd_is_stretch fd_is_path fd_is_filled fd_is_formed fd_check_list fd_check_places fd_check_names fd_gather fd_init fd_Label_places fd_Label_may fd_Label_paths fd_Label_has_path fd_Label_place_at fd_Label_name_at fd_Label_told_at fd_Label_many_in fd__law_at fd__law_pot fd__law_take fd__law_frac fd__law_plus fd__law_minus fd__law_times fd__law_word fd__law_name fd__law_stretch fd__law_many fd__law_list fd__law_rows fd_kinds_of fd_is_of fd_is_harmful fd_are_names fd_check_kinds fd_harmful_path fd_harmful_word fd_harm_at_all fd_harm fd__law_of fd__law_harmful fd__law_due fd__law_of_right fd__law_kinds fd__law_right fd_law : FuncData}
    (aC_Label : mg "Label" = some (.ref C_Label))
    (aC_NoPath : mg "NoPath" = some (.ref C_NoPath))
    (a_is_whole : mg "is_whole" = some (.ref f_is_whole))
    (F_is_whole : Fun K "is_whole" "is_whole" s_is_whole f_is_whole fd_is_whole)
    (a_common_measure : mg "common_measure" = some (.ref f_common_measure))
    (F_common_measure : Fun K "common_measure" "common_measure" s_common_measure f_common_measure fd_common_measure)
    (a_is_less : mg "is_less" = some (.ref f_is_less))
    (F_is_less : Fun K "is_less" "is_less" s_is_less f_is_less fd_is_less)
    (a_is_fraction : mg "is_fraction" = some (.ref f_is_fraction))
    (F_is_fraction : Fun K "is_fraction" "is_fraction" s_is_fraction f_is_fraction fd_is_fraction)
    (a_is_name : mg "is_name" = some (.ref f_is_name))
    (F_is_name : Fun K "is_name" "is_name" s_is_name f_is_name fd_is_name)
    (a_is_stretch : mg "is_stretch" = some (.ref f_is_stretch))
    (F_is_stretch : Fun K "is_stretch" "is_stretch" s_is_stretch f_is_stretch fd_is_stretch)
    (a_is_path : mg "is_path" = some (.ref f_is_path))
    (F_is_path : Fun K "is_path" "is_path" s_is_path f_is_path fd_is_path)
    (a_is_filled : mg "is_filled" = some (.ref f_is_filled))
    (F_is_filled : Fun K "is_filled" "is_filled" s_is_filled f_is_filled fd_is_filled)
    (a_is_formed : mg "is_formed" = some (.ref f_is_formed))
    (F_is_formed : Fun K "is_formed" "is_formed" s_is_formed f_is_formed fd_is_formed)
    (a_check_list : mg "check_list" = some (.ref f_check_list))
    (F_check_list : Fun K "check_list" "check_list" s_check_list f_check_list fd_check_list)
    (a_check_places : mg "check_places" = some (.ref f_check_places))
    (F_check_places : Fun K "check_places" "check_places" s_check_places f_check_places fd_check_places)
    (a_check_names : mg "check_names" = some (.ref f_check_names))
    (F_check_names : Fun K "check_names" "check_names" s_check_names f_check_names fd_check_names)
    (a_gather : mg "gather" = some (.ref f_gather))
    (F_gather : Fun K "gather" "gather" s_gather f_gather fd_gather)
    (a_init : PySem.W.findIn K (.ref C_Label) "__init__" = some (some (.ref f_init)))
    (i_init : PySem.W.isFn K (.ref f_init) = true)
    (F_init : FunD K "__init__" "Label.__init__" (defArgs s_init) (defBody s_init) (defScope s_init) [.non] [] f_init fd_init)
    (a_Label_places : PySem.W.findIn K (.ref C_Label) "places" = some (some (.ref f_Label_places)))
    (i_Label_places : PySem.W.isFn K (.ref f_Label_places) = true)
    (F_Label_places : Fun K "places" "Label.places" s_Label_places f_Label_places fd_Label_places)
    (a_Label_may : PySem.W.findIn K (.ref C_Label) "may" = some (some (.ref f_Label_may)))
    (i_Label_may : PySem.W.isFn K (.ref f_Label_may) = true)
    (F_Label_may : Fun K "may" "Label.may" s_Label_may f_Label_may fd_Label_may)
    (a_Label_paths : PySem.W.findIn K (.ref C_Label) "paths" = some (some (.ref f_Label_paths)))
    (i_Label_paths : PySem.W.isFn K (.ref f_Label_paths) = true)
    (F_Label_paths : Fun K "paths" "Label.paths" s_Label_paths f_Label_paths fd_Label_paths)
    (a_Label_has_path : PySem.W.findIn K (.ref C_Label) "has_path" = some (some (.ref f_Label_has_path)))
    (i_Label_has_path : PySem.W.isFn K (.ref f_Label_has_path) = true)
    (F_Label_has_path : Fun K "has_path" "Label.has_path" s_Label_has_path f_Label_has_path fd_Label_has_path)
    (a_Label_place_at : PySem.W.findIn K (.ref C_Label) "place_at" = some (some (.ref f_Label_place_at)))
    (i_Label_place_at : PySem.W.isFn K (.ref f_Label_place_at) = true)
    (F_Label_place_at : Fun K "place_at" "Label.place_at" s_Label_place_at f_Label_place_at fd_Label_place_at)
    (a_Label_name_at : PySem.W.findIn K (.ref C_Label) "name_at" = some (some (.ref f_Label_name_at)))
    (i_Label_name_at : PySem.W.isFn K (.ref f_Label_name_at) = true)
    (F_Label_name_at : Fun K "name_at" "Label.name_at" s_Label_name_at f_Label_name_at fd_Label_name_at)
    (a_Label_told_at : PySem.W.findIn K (.ref C_Label) "told_at" = some (some (.ref f_Label_told_at)))
    (i_Label_told_at : PySem.W.isFn K (.ref f_Label_told_at) = true)
    (F_Label_told_at : Fun K "told_at" "Label.told_at" s_Label_told_at f_Label_told_at fd_Label_told_at)
    (a_Label_many_in : PySem.W.findIn K (.ref C_Label) "many_in" = some (some (.ref f_Label_many_in)))
    (i_Label_many_in : PySem.W.isFn K (.ref f_Label_many_in) = true)
    (F_Label_many_in : Fun K "many_in" "Label.many_in" s_Label_many_in f_Label_many_in fd_Label_many_in)
    (a__law_at : mg "_law_at" = some (.ref f__law_at))
    (F__law_at : Fun K "_law_at" "_law_at" s__law_at f__law_at fd__law_at)
    (a__law_pot : mg "_law_pot" = some (.ref f__law_pot))
    (F__law_pot : Fun K "_law_pot" "_law_pot" s__law_pot f__law_pot fd__law_pot)
    (a__law_take : mg "_law_take" = some (.ref f__law_take))
    (F__law_take : Fun K "_law_take" "_law_take" s__law_take f__law_take fd__law_take)
    (a__law_frac : mg "_law_frac" = some (.ref f__law_frac))
    (F__law_frac : Fun K "_law_frac" "_law_frac" s__law_frac f__law_frac fd__law_frac)
    (a__law_plus : mg "_law_plus" = some (.ref f__law_plus))
    (F__law_plus : Fun K "_law_plus" "_law_plus" s__law_plus f__law_plus fd__law_plus)
    (a__law_minus : mg "_law_minus" = some (.ref f__law_minus))
    (F__law_minus : Fun K "_law_minus" "_law_minus" s__law_minus f__law_minus fd__law_minus)
    (a__law_times : mg "_law_times" = some (.ref f__law_times))
    (F__law_times : Fun K "_law_times" "_law_times" s__law_times f__law_times fd__law_times)
    (a__law_word : mg "_law_word" = some (.ref f__law_word))
    (F__law_word : Fun K "_law_word" "_law_word" s__law_word f__law_word fd__law_word)
    (a__law_name : mg "_law_name" = some (.ref f__law_name))
    (F__law_name : Fun K "_law_name" "_law_name" s__law_name f__law_name fd__law_name)
    (a__law_stretch : mg "_law_stretch" = some (.ref f__law_stretch))
    (F__law_stretch : Fun K "_law_stretch" "_law_stretch" s__law_stretch f__law_stretch fd__law_stretch)
    (a__law_many : mg "_law_many" = some (.ref f__law_many))
    (F__law_many : Fun K "_law_many" "_law_many" s__law_many f__law_many fd__law_many)
    (a__law_list : mg "_law_list" = some (.ref f__law_list))
    (F__law_list : Fun K "_law_list" "_law_list" s__law_list f__law_list fd__law_list)
    (a__law_rows : mg "_law_rows" = some (.ref f__law_rows))
    (F__law_rows : Fun K "_law_rows" "_law_rows" s__law_rows f__law_rows fd__law_rows)
    (a_kinds_of : mg "kinds_of" = some (.ref f_kinds_of))
    (F_kinds_of : Fun K "kinds_of" "kinds_of" s_kinds_of f_kinds_of fd_kinds_of)
    (a_is_of : mg "is_of" = some (.ref f_is_of))
    (F_is_of : Fun K "is_of" "is_of" s_is_of f_is_of fd_is_of)
    (a_is_harmful : mg "is_harmful" = some (.ref f_is_harmful))
    (F_is_harmful : Fun K "is_harmful" "is_harmful" s_is_harmful f_is_harmful fd_is_harmful)
    (a_are_names : mg "are_names" = some (.ref f_are_names))
    (F_are_names : Fun K "are_names" "are_names" s_are_names f_are_names fd_are_names)
    (a_check_kinds : mg "check_kinds" = some (.ref f_check_kinds))
    (F_check_kinds : Fun K "check_kinds" "check_kinds" s_check_kinds f_check_kinds fd_check_kinds)
    (a_harmful_path : mg "harmful_path" = some (.ref f_harmful_path))
    (F_harmful_path : Fun K "harmful_path" "harmful_path" s_harmful_path f_harmful_path fd_harmful_path)
    (a_harmful_word : mg "harmful_word" = some (.ref f_harmful_word))
    (F_harmful_word : Fun K "harmful_word" "harmful_word" s_harmful_word f_harmful_word fd_harmful_word)
    (a_harm_at_all : mg "harm_at_all" = some (.ref f_harm_at_all))
    (F_harm_at_all : Fun K "harm_at_all" "harm_at_all" s_harm_at_all f_harm_at_all fd_harm_at_all)
    (a_harm : mg "harm" = some (.ref f_harm))
    (F_harm : FunD K "harm" "harm" (defArgs s_harm) (defBody s_harm) (defScope s_harm) [.non, .non] [] f_harm fd_harm)
    (a__law_of : mg "_law_of" = some (.ref f__law_of))
    (F__law_of : Fun K "_law_of" "_law_of" s__law_of f__law_of fd__law_of)
    (a__law_harmful : mg "_law_harmful" = some (.ref f__law_harmful))
    (F__law_harmful : Fun K "_law_harmful" "_law_harmful" s__law_harmful f__law_harmful fd__law_harmful)
    (a__law_due : mg "_law_due" = some (.ref f__law_due))
    (F__law_due : Fun K "_law_due" "_law_due" s__law_due f__law_due fd__law_due)
    (a__law_of_right : mg "_law_of_right" = some (.ref f__law_of_right))
    (F__law_of_right : Fun K "_law_of_right" "_law_of_right" s__law_of_right f__law_of_right fd__law_of_right)
    (a__law_kinds : mg "_law_kinds" = some (.ref f__law_kinds))
    (F__law_kinds : Fun K "_law_kinds" "_law_kinds" s__law_kinds f__law_kinds fd__law_kinds)
    (a__law_right : mg "_law_right" = some (.ref f__law_right))
    (F__law_right : Fun K "_law_right" "_law_right" s__law_right f__law_right fd__law_right)
    (a_law : mg "law" = some (.ref f_law))
    (F_law : Fun K "law" "law" s_law f_law fd_law)
    (pg_Label : PySem.W.plainGet K C_Label Str.empty = true)
    (hd_Label : PySem.W.hasDictIn K C_Label = true)
    (po_Label : PySem.W.plainOver K C_Label = true)
    (sa_Label : PySem.W.findIn K (.ref C_Label) "__setattr__" = some (some (.builtin "object.__setattr__")))
    (n_Label_listed : PySem.W.findIn K (.ref C_Label) "listed" = some none)
    (n_Label_words : PySem.W.findIn K (.ref C_Label) "words" = some none)
    (n_Label_by_path : PySem.W.findIn K (.ref C_Label) "by_path" = some none)
    (mk_Label : PySem.W.makesIn K C_Label = true)
    (kc_Label : PySem.W.keepIn K (.ref C_Label) = true)
    (v_MOST_DEPTH : ∃ t, mg "MOST_DEPTH" = some (.int 4 t))
    (v_MOST_LETTERS : ∃ t, mg "MOST_LETTERS" = some (.int 8 t))
    (v_MOST_PLACES : ∃ t, mg "MOST_PLACES" = some (.int 12 t))
    (z_abs : mg "abs" = none)
    (z_all : mg "all" = none)
    (z_any : mg "any" = none)
    (z_bool : mg "bool" = none)
    (z_dict : mg "dict" = none)
    (z_divmod : mg "divmod" = none)
    (z_enumerate : mg "enumerate" = none)
    (z_int : mg "int" = none)
    (z_isinstance : mg "isinstance" = none)
    (z_len : mg "len" = none)
    (z_list : mg "list" = none)
    (z_max : mg "max" = none)
    (z_min : mg "min" = none)
    (z_range : mg "range" = none)
    (z_repr : mg "repr" = none)
    (z_set : mg "set" = none)
    (z_sorted : mg "sorted" = none)
    (z_str : mg "str" = none)
    (z_sum : mg "sum" = none)
    (z_tuple : mg "tuple" = none)
    (xP_NoPath : PySem.W.excIn K C_NoPath [.type "ValueError", .type "Exception", .type "BaseException", .type "object"] "ValueError.__new__" = true)
    (kP_NoPath : PySem.W.keepIn K (.ref C_NoPath) = true)
    (bP_NoPath : PySem.W.subIn K (.ref C_NoPath) (.type "BaseException") = some true)
    (tP_NoPath : PySem.W.typeIn K (.ref C_NoPath) = some (.type "type"))
    (hsys : ∃ o, K.lookup sysModules = some o) :
    ∃ fd : FuncData, (∀ (s : Shared) (v : Value), BindsTo s fd ⟨[v], []⟩ [("_law_script", v)]) ∧ ∀ base : Heap, K.In base → base.Ns mainGlobals mg → G.FnG l.prog w K mg base 15 fa fd ["_law_script"] (lift (sp_law K)) := by
  have e := hfa.symm.trans a_law
  cases e
  have g : Glb K mg C_Label C_NoPath := { k_MOST_DEPTH := v_MOST_DEPTH, k_MOST_LETTERS := v_MOST_LETTERS, k_MOST_PLACES := v_MOST_PLACES, m_abs := z_abs, m_all := z_all, m_any := z_any, m_bool := z_bool, m_dict := z_dict, m_divmod := z_divmod, m_enumerate := z_enumerate, m_int := z_int, m_isinstance := z_isinstance, m_len := z_len, m_list := z_list, m_max := z_max, m_min := z_min, m_range := z_range, m_repr := z_repr, m_set := z_set, m_sorted := z_sorted, m_str := z_str, m_sum := z_sum, m_tuple := z_tuple, cl_Label := ⟨pg_Label, hd_Label, po_Label, sa_Label⟩, n_Label_listed := n_Label_listed, n_Label_words := n_Label_words, n_Label_by_path := n_Label_by_path, x_NoPath := ⟨xP_NoPath, aC_NoPath, kP_NoPath, bP_NoPath, tP_NoPath⟩, sysM := hsys }
  have b_is_whole := F_is_whole.binds (ps := ["thing"]) fun _ _ _ _ _ _ us hl => match us, hl with | [_], _ => rfl
  have q_is_whole := a_is_whole
  have b_common_measure := F_common_measure.binds (ps := ["one", "other"]) fun _ _ _ _ _ _ us hl => match us, hl with | [_, _], _ => rfl
  have q_common_measure := a_common_measure
  have b_is_less := F_is_less.binds (ps := ["one", "other"]) fun _ _ _ _ _ _ us hl => match us, hl with | [_, _], _ => rfl
  have q_is_less := a_is_less
  have b_is_fraction := F_is_fraction.binds (ps := ["thing"]) fun _ _ _ _ _ _ us hl => match us, hl with | [_], _ => rfl
  have q_is_fraction := a_is_fraction
  have b_is_name := F_is_name.binds (ps := ["thing"]) fun _ _ _ _ _ _ us hl => match us, hl with | [_], _ => rfl
  have q_is_name := a_is_name
  have b_is_stretch := F_is_stretch.binds (ps := ["thing"]) fun _ _ _ _ _ _ us hl => match us, hl with | [_], _ => rfl
  have q_is_stretch := a_is_stretch
  have b_is_path := F_is_path.binds (ps := ["thing"]) fun _ _ _ _ _ _ us hl => match us, hl with | [_], _ => rfl
  have q_is_path := a_is_path
  have b_is_filled := F_is_filled.binds (ps := ["thing"]) fun _ _ _ _ _ _ us hl => match us, hl with | [_], _ => rfl
  have q_is_filled := a_is_filled
  have b_is_formed := F_is_formed.binds (ps := ["thing"]) fun _ _ _ _ _ _ us hl => match us, hl with | [_], _ => rfl
  have q_is_formed := a_is_formed
  have b_check_list := F_check_list.binds (ps := ["places", "above", "around"]) fun _ _ _ _ _ _ us hl => match us, hl with | [_, _, _], _ => rfl
  have q_check_list := a_check_list
  have b_check_places := F_check_places.binds (ps := ["places"]) fun _ _ _ _ _ _ us hl => match us, hl with | [_], _ => rfl
  have q_check_places := a_check_places
  have b_check_names := F_check_names.binds (ps := ["names"]) fun _ _ _ _ _ _ us hl => match us, hl with | [_], _ => rfl
  have q_check_names := a_check_names
  have b_gather := F_gather.binds (ps := ["places", "above", "found"]) fun _ _ _ _ _ _ us hl => match us, hl with | [_, _, _], _ => rfl
  have q_gather := a_gather
  obtain ⟨d3_init, r3_init, b3_init⟩ := F_init.binds1 (ps := ["self", "places", "may"]) 3 1 (by decide) rfl fun _ _ _ _ _ _ _ us its hu hi => match us, its, hu, hi with | [_, _, _], [_], _, _ => ⟨_, rfl, rfl⟩
  have b_Label_places := F_Label_places.binds (ps := ["self"]) fun _ _ _ _ _ _ us hl => match us, hl with | [_], _ => rfl
  have b_Label_may := F_Label_may.binds (ps := ["self"]) fun _ _ _ _ _ _ us hl => match us, hl with | [_], _ => rfl
  have b_Label_paths := F_Label_paths.binds (ps := ["self"]) fun _ _ _ _ _ _ us hl => match us, hl with | [_], _ => rfl
  have b_Label_has_path := F_Label_has_path.binds (ps := ["self", "thing"]) fun _ _ _ _ _ _ us hl => match us, hl with | [_, _], _ => rfl
  have b_Label_place_at := F_Label_place_at.binds (ps := ["self", "path"]) fun _ _ _ _ _ _ us hl => match us, hl with | [_, _], _ => rfl
  have b_Label_name_at := F_Label_name_at.binds (ps := ["self", "path"]) fun _ _ _ _ _ _ us hl => match us, hl with | [_, _], _ => rfl
  have b_Label_told_at := F_Label_told_at.binds (ps := ["self", "path"]) fun _ _ _ _ _ _ us hl => match us, hl with | [_, _], _ => rfl
  have b_Label_many_in := F_Label_many_in.binds (ps := ["self", "path"]) fun _ _ _ _ _ _ us hl => match us, hl with | [_, _], _ => rfl
  have b__law_at := F__law_at.binds (ps := ["_law_script", "_law_k"]) fun _ _ _ _ _ _ us hl => match us, hl with | [_, _], _ => rfl
  have q__law_at := a__law_at
  have b__law_pot := F__law_pot.binds (ps := ["_law_script", "_law_k"]) fun _ _ _ _ _ _ us hl => match us, hl with | [_, _], _ => rfl
  have q__law_pot := a__law_pot
  have b__law_take := F__law_take.binds (ps := ["_law_pot_here", "_law_many_here"]) fun _ _ _ _ _ _ us hl => match us, hl with | [_, _], _ => rfl
  have q__law_take := a__law_take
  have b__law_frac := F__law_frac.binds (ps := ["_law_top", "_law_bottom"]) fun _ _ _ _ _ _ us hl => match us, hl with | [_, _], _ => rfl
  have q__law_frac := a__law_frac
  have b__law_plus := F__law_plus.binds (ps := ["_law_one", "_law_other"]) fun _ _ _ _ _ _ us hl => match us, hl with | [_, _], _ => rfl
  have q__law_plus := a__law_plus
  have b__law_minus := F__law_minus.binds (ps := ["_law_one", "_law_other"]) fun _ _ _ _ _ _ us hl => match us, hl with | [_, _], _ => rfl
  have q__law_minus := a__law_minus
  have b__law_times := F__law_times.binds (ps := ["_law_one", "_law_other"]) fun _ _ _ _ _ _ us hl => match us, hl with | [_, _], _ => rfl
  have q__law_times := a__law_times
  have b__law_word := F__law_word.binds (ps := ["_law_pot_here"]) fun _ _ _ _ _ _ us hl => match us, hl with | [_], _ => rfl
  have q__law_word := a__law_word
  have b__law_name := F__law_name.binds (ps := ["_law_pot_here", "_law_taken"]) fun _ _ _ _ _ _ us hl => match us, hl with | [_, _], _ => rfl
  have q__law_name := a__law_name
  have b__law_stretch := F__law_stretch.binds (ps := ["_law_pot_here", "_law_share_here"]) fun _ _ _ _ _ _ us hl => match us, hl with | [_, _], _ => rfl
  have q__law_stretch := a__law_stretch
  have b__law_many := F__law_many.binds (ps := ["_law_places"]) fun _ _ _ _ _ _ us hl => match us, hl with | [_], _ => rfl
  have q__law_many := a__law_many
  have b__law_list := F__law_list.binds (ps := ["_law_pot_here", "_law_share_here", "_law_room", "_law_around", "_law_making", "_law_path"]) fun _ _ _ _ _ _ us hl => match us, hl with | [_, _, _, _, _, _], _ => rfl
  have q__law_list := a__law_list
  have b__law_rows := F__law_rows.binds (ps := ["_law_places", "_law_path"]) fun _ _ _ _ _ _ us hl => match us, hl with | [_, _], _ => rfl
  have q__law_rows := a__law_rows
  have b_kinds_of := F_kinds_of.binds (ps := ["kinds", "one"]) fun _ _ _ _ _ _ us hl => match us, hl with | [_, _], _ => rfl
  have q_kinds_of := a_kinds_of
  have b_is_of := F_is_of.binds (ps := ["kinds", "one", "other"]) fun _ _ _ _ _ _ us hl => match us, hl with | [_, _, _], _ => rfl
  have q_is_of := a_is_of
  have b_is_harmful := F_is_harmful.binds (ps := ["name", "names", "kinds"]) fun _ _ _ _ _ _ us hl => match us, hl with | [_, _, _], _ => rfl
  have q_is_harmful := a_is_harmful
  have b_are_names := F_are_names.binds (ps := ["thing"]) fun _ _ _ _ _ _ us hl => match us, hl with | [_], _ => rfl
  have q_are_names := a_are_names
  have b_check_kinds := F_check_kinds.binds (ps := ["kinds"]) fun _ _ _ _ _ _ us hl => match us, hl with | [_], _ => rfl
  have q_check_kinds := a_check_kinds
  have b_harmful_path := F_harmful_path.binds (ps := ["label", "names", "kinds"]) fun _ _ _ _ _ _ us hl => match us, hl with | [_, _, _], _ => rfl
  have q_harmful_path := a_harmful_path
  have b_harmful_word := F_harmful_word.binds (ps := ["label", "names", "kinds"]) fun _ _ _ _ _ _ us hl => match us, hl with | [_, _, _], _ => rfl
  have q_harmful_word := a_harmful_word
  have b_harm_at_all := F_harm_at_all.binds (ps := ["label", "names", "kinds"]) fun _ _ _ _ _ _ us hl => match us, hl with | [_, _, _], _ => rfl
  have q_harm_at_all := a_harm_at_all
  have q_harm := a_harm
  obtain ⟨d3_harm, r3_harm, b3_harm⟩ := F_harm.binds1 (ps := ["label", "names", "kinds", "limit"]) 3 1 (by decide) rfl fun _ _ _ _ _ _ _ us its hu hi => match us, its, hu, hi with | [_, _, _], [_, _], _, _ => ⟨_, rfl, rfl⟩
  obtain ⟨dk_harm, kd_harm⟩ := kbn_dfl (ps := ["label", "names", "kinds", "limit"]) F_harm 1 ["names", "kinds"] 1 (by decide) fun _ _ _ _ _ _ _ us its ws hu hi hw => match us, its, ws, hu, hi, hw with | [_], [_, _], [_, _], _, _, _ => ⟨_, rfl, rfl⟩
  have b__law_of := F__law_of.binds (ps := ["_law_sorts", "_law_name_here"]) fun _ _ _ _ _ _ us hl => match us, hl with | [_, _], _ => rfl
  have q__law_of := a__law_of
  have b__law_harmful := F__law_harmful.binds (ps := ["_law_sorts", "_law_called"]) fun _ _ _ _ _ _ us hl => match us, hl with | [_, _], _ => rfl
  have q__law_harmful := a__law_harmful
  have b__law_due := F__law_due.binds (ps := ["_law_rows_here", "_law_words", "_law_bad"]) fun _ _ _ _ _ _ us hl => match us, hl with | [_, _, _], _ => rfl
  have q__law_due := a__law_due
  have b__law_of_right := F__law_of_right.binds (ps := ["_law_sorts", "_law_called"]) fun _ _ _ _ _ _ us hl => match us, hl with | [_, _], _ => rfl
  have q__law_of_right := a__law_of_right
  have b__law_kinds := F__law_kinds.binds (ps := ["_law_pot_here"]) fun _ _ _ _ _ _ us hl => match us, hl with | [_], _ => rfl
  have q__law_kinds := a__law_kinds
  have b__law_right := F__law_right.binds (ps := ["_law_pot_here"]) fun _ _ _ _ _ _ us hl => match us, hl with | [_], _ => rfl
  have q__law_right := a__law_right
  have q_law := a_law
  refine ⟨fd_law, G.fun_law F_law fun _ _ _ _ _ _ us hl => match us, hl with | [_], _ => rfl, fun base _ _ => ?_⟩
  have Hc_is_whole : Cl l.prog w K mg base "is_whole" 1 ["thing"] (sp_is_whole ) := ⟨_, f_is_whole, _, ok_is_whole (P := l.prog) (w := w) (mg := mg) (base := base) F_is_whole g  , fun _ _ _ _ _ z => z, q_is_whole, F_is_whole.kp, b_is_whole⟩
  have Hc_common_measure : Cl l.prog w K mg base "common_measure" 1 ["one", "other"] (sp_common_measure ) := ⟨_, f_common_measure, _, ok_common_measure (P := l.prog) (w := w) (mg := mg) (base := base) F_common_measure g  , fun _ _ _ _ _ z => z, q_common_measure, F_common_measure.kp, b_common_measure⟩
  have Hc_is_less : Cl l.prog w K mg base "is_less" 1 ["one", "other"] (sp_is_less ) := ⟨_, f_is_less, _, ok_is_less (P := l.prog) (w := w) (mg := mg) (base := base) F_is_less g  , fun _ _ _ _ _ z => z, q_is_less, F_is_less.kp, b_is_less⟩
  have Hc_is_fraction : Cl l.prog w K mg base "is_fraction" 2 ["thing"] (sp_is_fraction ) := ⟨_, f_is_fraction, _, ok_is_fraction (P := l.prog) (w := w) (mg := mg) (base := base) F_is_fraction g Hc_common_measure Hc_is_whole , fun _ _ _ _ _ z => z, q_is_fraction, F_is_fraction.kp, b_is_fraction⟩
  have Hc_is_name : Cl l.prog w K mg base "is_name" 2 ["thing"] (sp_is_name ) := ⟨_, f_is_name, _, ok_is_name (P := l.prog) (w := w) (mg := mg) (base := base) F_is_name g  , fun _ _ _ _ _ z => z, q_is_name, F_is_name.kp, b_is_name⟩
  have Hc_is_stretch : Cl l.prog w K mg base "is_stretch" 3 ["thing"] (sp_is_stretch ) := ⟨_, f_is_stretch, _, ok_is_stretch (P := l.prog) (w := w) (mg := mg) (base := base) F_is_stretch g Hc_is_less Hc_is_fraction , fun _ _ _ _ _ z => z, q_is_stretch, F_is_stretch.kp, b_is_stretch⟩
  have Hc_is_path : Cl l.prog w K mg base "is_path" 2 ["thing"] (sp_is_path ) := ⟨_, f_is_path, _, ok_is_path (P := l.prog) (w := w) (mg := mg) (base := base) F_is_path g Hc_is_whole , fun _ _ _ _ _ z => z, q_is_path, F_is_path.kp, b_is_path⟩
  have Hc_is_filled : Cl l.prog w K mg base "is_filled" 1 ["thing"] (sp_is_filled ) := ⟨_, f_is_filled, _, ok_is_filled (P := l.prog) (w := w) (mg := mg) (base := base) F_is_filled g  , fun _ _ _ _ _ z => z, q_is_filled, F_is_filled.kp, b_is_filled⟩
  have Hc_is_formed : Cl l.prog w K mg base "is_formed" 4 ["thing"] (sp_is_formed ) := ⟨_, f_is_formed, _, ok_is_formed (P := l.prog) (w := w) (mg := mg) (base := base) F_is_formed g Hc_is_filled Hc_is_stretch Hc_is_name , fun _ _ _ _ _ z => z, q_is_formed, F_is_formed.kp, b_is_formed⟩
  have Hc_check_list : Cl l.prog w K mg base "check_list" (5 + 4) ["places", "above", "around"] (sp_check_list 4) := ⟨_, f_check_list, _, ok_check_list (P := l.prog) (w := w) (mg := mg) (base := base) F_check_list g b_check_list q_check_list Hc_is_formed  4, fun _ _ _ _ _ z => z, q_check_list, F_check_list.kp, b_check_list⟩
  have Hc_check_places : Cl l.prog w K mg base "check_places" 10 ["places"] (sp_check_places ) := ⟨_, f_check_places, _, ok_check_places (P := l.prog) (w := w) (mg := mg) (base := base) F_check_places g Hc_check_list Hc_is_filled , fun _ _ _ _ _ z => z, q_check_places, F_check_places.kp, b_check_places⟩
  have Hc_check_names : Cl l.prog w K mg base "check_names" 3 ["names"] (sp_check_names ) := ⟨_, f_check_names, _, ok_check_names (P := l.prog) (w := w) (mg := mg) (base := base) F_check_names g Hc_is_name , fun _ _ _ _ _ z => z, q_check_names, F_check_names.kp, b_check_names⟩
  have Hc_gather : Cl l.prog w K mg base "gather" (1 + 4) ["places", "above", "found"] (sp_gather 4) := ⟨_, f_gather, _, ok_gather (P := l.prog) (w := w) (mg := mg) (base := base) F_gather g b_gather q_gather   4, fun _ _ _ _ _ z => z, q_gather, F_gather.kp, b_gather⟩
  have Hci_Label : ClI l.prog w K mg base C_Label "Label" 12 ["self", "places", "may"] [] (sp_init C_Label) := ⟨_, f_init, _, _, _, ok_init (P := l.prog) (w := w) (mg := mg) (base := base) F_init g Hc_check_names Hc_gather Hc_check_places , fun _ _ _ _ _ z => z, ⟨mk_Label, a_init, i_init, kc_Label⟩, aC_Label, b3_init, r3_init, fun _ => .nil⟩
  have Hc_Label_places : ClM l.prog w K mg base C_Label "places" 1 ["self"] (sp_Label_places C_Label) := ⟨_, f_Label_places, _, ok_Label_places (P := l.prog) (w := w) (mg := mg) (base := base) F_Label_places g  , fun _ _ _ _ _ z => z, g.cl_Label, ⟨a_Label_places, i_Label_places, F_Label_places.kp⟩, b_Label_places⟩
  have Hc_Label_may : ClM l.prog w K mg base C_Label "may" 1 ["self"] (sp_Label_may C_Label) := ⟨_, f_Label_may, _, ok_Label_may (P := l.prog) (w := w) (mg := mg) (base := base) F_Label_may g  , fun _ _ _ _ _ z => z, g.cl_Label, ⟨a_Label_may, i_Label_may, F_Label_may.kp⟩, b_Label_may⟩
  have Hc_Label_paths : ClM l.prog w K mg base C_Label "paths" 1 ["self"] (sp_Label_paths C_Label) := ⟨_, f_Label_paths, _, ok_Label_paths (P := l.prog) (w := w) (mg := mg) (base := base) F_Label_paths g  , fun _ _ _ _ _ z => z, g.cl_Label, ⟨a_Label_paths, i_Label_paths, F_Label_paths.kp⟩, b_Label_paths⟩
  have Hc_Label_has_path : ClM l.prog w K mg base C_Label "has_path" 3 ["self", "thing"] (sp_Label_has_path C_Label) := ⟨_, f_Label_has_path, _, ok_Label_has_path (P := l.prog) (w := w) (mg := mg) (base := base) F_Label_has_path g Hc_is_path , fun _ _ _ _ _ z => z, g.cl_Label, ⟨a_Label_has_path, i_Label_has_path, F_Label_has_path.kp⟩, b_Label_has_path⟩
  have Hc_Label_place_at : ClMX l.prog w K mg base C_Label "place_at" 4 ["self", "path"] (sp_Label_place_at C_Label C_NoPath) := ⟨f_Label_place_at, _, ok_Label_place_at (P := l.prog) (w := w) (mg := mg) (base := base) F_Label_place_at g Hc_Label_has_path , g.cl_Label, ⟨a_Label_place_at, i_Label_place_at, F_Label_place_at.kp⟩, b_Label_place_at⟩
  have Hc_Label_name_at : ClMX l.prog w K mg base C_Label "name_at" 5 ["self", "path"] (sp_Label_name_at C_Label C_NoPath) := ⟨f_Label_name_at, _, ok_Label_name_at (P := l.prog) (w := w) (mg := mg) (base := base) F_Label_name_at g Hc_Label_place_at , g.cl_Label, ⟨a_Label_name_at, i_Label_name_at, F_Label_name_at.kp⟩, b_Label_name_at⟩
  have Hc_Label_told_at : ClMX l.prog w K mg base C_Label "told_at" 5 ["self", "path"] (sp_Label_told_at C_Label C_NoPath) := ⟨f_Label_told_at, _, ok_Label_told_at (P := l.prog) (w := w) (mg := mg) (base := base) F_Label_told_at g Hc_Label_place_at , g.cl_Label, ⟨a_Label_told_at, i_Label_told_at, F_Label_told_at.kp⟩, b_Label_told_at⟩
  have Hc_Label_many_in : ClMX l.prog w K mg base C_Label "many_in" 5 ["self", "path"] (sp_Label_many_in C_Label C_NoPath) := ⟨f_Label_many_in, _, ok_Label_many_in (P := l.prog) (w := w) (mg := mg) (base := base) F_Label_many_in g Hc_Label_place_at , g.cl_Label, ⟨a_Label_many_in, i_Label_many_in, F_Label_many_in.kp⟩, b_Label_many_in⟩
  have Hc__law_at : Cl l.prog w K mg base "_law_at" 1 ["_law_script", "_law_k"] (sp__law_at K) := ⟨_, f__law_at, _, ok__law_at (P := l.prog) (w := w) (mg := mg) (base := base) F__law_at g  , fun _ _ _ _ _ z => z, q__law_at, F__law_at.kp, b__law_at⟩
  have Hc__law_pot : Cl l.prog w K mg base "_law_pot" 2 ["_law_script", "_law_k"] (sp__law_pot K) := ⟨_, f__law_pot, _, ok__law_pot (P := l.prog) (w := w) (mg := mg) (base := base) F__law_pot g Hc__law_at , fun _ _ _ _ _ z => z, q__law_pot, F__law_pot.kp, b__law_pot⟩
  have Hc__law_take : Cl l.prog w K mg base "_law_take" 1 ["_law_pot_here", "_law_many_here"] (sp__law_take ) := ⟨_, f__law_take, _, ok__law_take (P := l.prog) (w := w) (mg := mg) (base := base) F__law_take g  , fun _ _ _ _ _ z => z, q__law_take, F__law_take.kp, b__law_take⟩
  have Hc__law_frac : Cl l.prog w K mg base "_law_frac" 1 ["_law_top", "_law_bottom"] (sp__law_frac ) := ⟨_, f__law_frac, _, ok__law_frac (P := l.prog) (w := w) (mg := mg) (base := base) F__law_frac g  , fun _ _ _ _ _ z => z, q__law_frac, F__law_frac.kp, b__law_frac⟩
  have Hc__law_plus : Cl l.prog w K mg base "_law_plus" 2 ["_law_one", "_law_other"] (sp__law_plus ) := ⟨_, f__law_plus, _, ok__law_plus (P := l.prog) (w := w) (mg := mg) (base := base) F__law_plus g Hc__law_frac , fun _ _ _ _ _ z => z, q__law_plus, F__law_plus.kp, b__law_plus⟩
  have Hc__law_minus : Cl l.prog w K mg base "_law_minus" 2 ["_law_one", "_law_other"] (sp__law_minus ) := ⟨_, f__law_minus, _, ok__law_minus (P := l.prog) (w := w) (mg := mg) (base := base) F__law_minus g Hc__law_frac , fun _ _ _ _ _ z => z, q__law_minus, F__law_minus.kp, b__law_minus⟩
  have Hc__law_times : Cl l.prog w K mg base "_law_times" 2 ["_law_one", "_law_other"] (sp__law_times ) := ⟨_, f__law_times, _, ok__law_times (P := l.prog) (w := w) (mg := mg) (base := base) F__law_times g Hc__law_frac , fun _ _ _ _ _ z => z, q__law_times, F__law_times.kp, b__law_times⟩
  have Hc__law_word : Cl l.prog w K mg base "_law_word" 2 ["_law_pot_here"] (sp__law_word ) := ⟨_, f__law_word, _, ok__law_word (P := l.prog) (w := w) (mg := mg) (base := base) F__law_word g Hc__law_take , fun _ _ _ _ _ z => z, q__law_word, F__law_word.kp, b__law_word⟩
  have Hc__law_name : Cl l.prog w K mg base "_law_name" 3 ["_law_pot_here", "_law_taken"] (sp__law_name ) := ⟨_, f__law_name, _, ok__law_name (P := l.prog) (w := w) (mg := mg) (base := base) F__law_name g Hc__law_word , fun _ _ _ _ _ z => z, q__law_name, F__law_name.kp, b__law_name⟩
  have Hc__law_stretch : Cl l.prog w K mg base "_law_stretch" 3 ["_law_pot_here", "_law_share_here"] (sp__law_stretch ) := ⟨_, f__law_stretch, _, ok__law_stretch (P := l.prog) (w := w) (mg := mg) (base := base) F__law_stretch g Hc__law_plus Hc__law_frac Hc__law_take Hc__law_minus , fun _ _ _ _ _ z => z, q__law_stretch, F__law_stretch.kp, b__law_stretch⟩
  have Hc__law_many : Cl l.prog w K mg base "_law_many" (1 + 4) ["_law_places"] (sp__law_many 4) := ⟨_, f__law_many, _, ok__law_many (P := l.prog) (w := w) (mg := mg) (base := base) F__law_many g b__law_many q__law_many   4, fun _ _ _ _ _ z => z, q__law_many, F__law_many.kp, b__law_many⟩
  have Hc__law_list : Cl l.prog w K mg base "_law_list" (5 + 4) ["_law_pot_here", "_law_share_here", "_law_room", "_law_around", "_law_making", "_law_path"] (sp__law_list 4) := ⟨_, f__law_list, _, ok__law_list (P := l.prog) (w := w) (mg := mg) (base := base) F__law_list g b__law_list q__law_list Hc__law_stretch Hc__law_take Hc__law_many Hc__law_name Hc__law_times Hc__law_frac  4, fun _ _ _ _ _ z => z, q__law_list, F__law_list.kp, b__law_list⟩
  have Hc__law_rows : Cl l.prog w K mg base "_law_rows" (1 + 4) ["_law_places", "_law_path"] (sp__law_rows 4) := ⟨_, f__law_rows, _, ok__law_rows (P := l.prog) (w := w) (mg := mg) (base := base) F__law_rows g b__law_rows q__law_rows   4, fun _ _ _ _ _ z => z, q__law_rows, F__law_rows.kp, b__law_rows⟩
  have Hc_kinds_of : Cl l.prog w K mg base "kinds_of" 1 ["kinds", "one"] (sp_kinds_of ) := ⟨_, f_kinds_of, _, ok_kinds_of (P := l.prog) (w := w) (mg := mg) (base := base) F_kinds_of g  , fun _ _ _ _ _ z => z, q_kinds_of, F_kinds_of.kp, b_kinds_of⟩
  have Hc_is_of : Cl l.prog w K mg base "is_of" 2 ["kinds", "one", "other"] (sp_is_of ) := ⟨_, f_is_of, _, ok_is_of (P := l.prog) (w := w) (mg := mg) (base := base) F_is_of g Hc_kinds_of , fun _ _ _ _ _ z => z, q_is_of, F_is_of.kp, b_is_of⟩
  have Hc_is_harmful : Cl l.prog w K mg base "is_harmful" 2 ["name", "names", "kinds"] (sp_is_harmful ) := ⟨_, f_is_harmful, _, ok_is_harmful (P := l.prog) (w := w) (mg := mg) (base := base) F_is_harmful g Hc_kinds_of , fun _ _ _ _ _ z => z, q_is_harmful, F_is_harmful.kp, b_is_harmful⟩
  have Hc_are_names : Cl l.prog w K mg base "are_names" 3 ["thing"] (sp_are_names ) := ⟨_, f_are_names, _, ok_are_names (P := l.prog) (w := w) (mg := mg) (base := base) F_are_names g Hc_is_name , fun _ _ _ _ _ z => z, q_are_names, F_are_names.kp, b_are_names⟩
  have Hc_check_kinds : Cl l.prog w K mg base "check_kinds" 4 ["kinds"] (sp_check_kinds ) := ⟨_, f_check_kinds, _, ok_check_kinds (P := l.prog) (w := w) (mg := mg) (base := base) F_check_kinds g Hc_are_names Hc_is_name , fun _ _ _ _ _ z => z, q_check_kinds, F_check_kinds.kp, b_check_kinds⟩
  have Hc_harmful_path : Cl l.prog w K mg base "harmful_path" 6 ["label", "names", "kinds"] (sp_harmful_path C_Label C_NoPath) := ⟨_, f_harmful_path, _, ok_harmful_path (P := l.prog) (w := w) (mg := mg) (base := base) F_harmful_path g Hc_Label_paths Hc_is_harmful Hc_Label_name_at , fun _ _ _ _ _ z => z, q_harmful_path, F_harmful_path.kp, b_harmful_path⟩
  have Hc_harmful_word : Cl l.prog w K mg base "harmful_word" 6 ["label", "names", "kinds"] (sp_harmful_word C_Label) := ⟨_, f_harmful_word, _, ok_harmful_word (P := l.prog) (w := w) (mg := mg) (base := base) F_harmful_word g Hc_Label_may Hc_is_harmful , fun _ _ _ _ _ z => z, q_harmful_word, F_harmful_word.kp, b_harmful_word⟩
  have Hc_harm_at_all : Cl l.prog w K mg base "harm_at_all" 7 ["label", "names", "kinds"] (sp_harm_at_all C_Label C_NoPath) := ⟨_, f_harm_at_all, _, ok_harm_at_all (P := l.prog) (w := w) (mg := mg) (base := base) F_harm_at_all g Hc_harmful_word Hc_harmful_path , fun _ _ _ _ _ z => z, q_harm_at_all, F_harm_at_all.kp, b_harm_at_all⟩
  have Hc3_harm : ClD l.prog w K mg base "harm" 8 ["label", "names", "kinds", "limit"] [.non] (sp_harm C_Label C_NoPath) := ⟨_, f_harm, _, _, _, ok_harm (P := l.prog) (w := w) (mg := mg) (base := base) F_harm g Hc_harm_at_all Hc_check_kinds Hc_check_names , fun _ _ _ _ _ z => z, q_harm, F_harm.kp, b3_harm, r3_harm, fun _ => (.cons .non .nil)⟩
  have Hcnd_harm : ClND l.prog w K mg base "harm" 1 ["names", "kinds"] 8 ["label", "names", "kinds", "limit"] [.non] (sp_harm C_Label C_NoPath) := ⟨_, f_harm, _, _, _, ok_harm (P := l.prog) (w := w) (mg := mg) (base := base) F_harm g Hc_harm_at_all Hc_check_kinds Hc_check_names , fun _ _ _ _ _ z => z, q_harm, F_harm.kp, kd_harm, fun _ => (.cons .non .nil)⟩
  have Hc__law_of : Cl l.prog w K mg base "_law_of" 1 ["_law_sorts", "_law_name_here"] (sp__law_of ) := ⟨_, f__law_of, _, ok__law_of (P := l.prog) (w := w) (mg := mg) (base := base) F__law_of g  , fun _ _ _ _ _ z => z, q__law_of, F__law_of.kp, b__law_of⟩
  have Hc__law_harmful : Cl l.prog w K mg base "_law_harmful" 2 ["_law_sorts", "_law_called"] (sp__law_harmful ) := ⟨_, f__law_harmful, _, ok__law_harmful (P := l.prog) (w := w) (mg := mg) (base := base) F__law_harmful g Hc__law_of , fun _ _ _ _ _ z => z, q__law_harmful, F__law_harmful.kp, b__law_harmful⟩
  have Hc__law_due : Cl l.prog w K mg base "_law_due" 1 ["_law_rows_here", "_law_words", "_law_bad"] (sp__law_due ) := ⟨_, f__law_due, _, ok__law_due (P := l.prog) (w := w) (mg := mg) (base := base) F__law_due g  , fun _ _ _ _ _ z => z, q__law_due, F__law_due.kp, b__law_due⟩
  have Hc__law_of_right : Cl l.prog w K mg base "_law_of_right" 3 ["_law_sorts", "_law_called"] (sp__law_of_right ) := ⟨_, f__law_of_right, _, ok__law_of_right (P := l.prog) (w := w) (mg := mg) (base := base) F__law_of_right g Hc_is_of Hc__law_of , fun _ _ _ _ _ z => z, q__law_of_right, F__law_of_right.kp, b__law_of_right⟩
  have Hc__law_kinds : Cl l.prog w K mg base "_law_kinds" 4 ["_law_pot_here"] (sp__law_kinds ) := ⟨_, f__law_kinds, _, ok__law_kinds (P := l.prog) (w := w) (mg := mg) (base := base) F__law_kinds g Hc__law_take Hc__law_word Hc__law_name , fun _ _ _ _ _ z => z, q__law_kinds, F__law_kinds.kp, b__law_kinds⟩
  have Hc__law_right : ClG l.prog w K mg base "_law_right" 14 ["_law_pot_here"] (sp__law_right C_Label C_NoPath) := ⟨f__law_right, _, ok__law_right (P := l.prog) (w := w) (mg := mg) (base := base) F__law_right g Hc__law_take Hc__law_of_right Hcnd_harm Hc3_harm Hc__law_due Hc__law_harmful Hc__law_rows Hc__law_word Hci_Label Hc__law_list Hc__law_kinds , fun ts M R E h => sp1_len h, q__law_right, F__law_right.kp, b__law_right⟩
  exact ok_law (P := l.prog) (w := w) (mg := mg) (base := base) F_law g Hc__law_right Hc__law_pot 
end L3
set_option Elab.async false
set_option linter.all false
set_option maxRecDepth 100000
set_option maxHeartbeats 0
namespace L3
open PySem PySem.Spec PyProof.Rows L2
def dd_is_whole : He.DefD := ⟨("is_whole", none), "is_whole", "is_whole", defArgs s_is_whole, defBody s_is_whole, defScope s_is_whole, [], []⟩
def dd_common_measure : He.DefD := ⟨("common_measure", none), "common_measure", "common_measure", defArgs s_common_measure, defBody s_common_measure, defScope s_common_measure, [], []⟩
def dd_is_less : He.DefD := ⟨("is_less", none), "is_less", "is_less", defArgs s_is_less, defBody s_is_less, defScope s_is_less, [], []⟩
def dd_is_fraction : He.DefD := ⟨("is_fraction", none), "is_fraction", "is_fraction", defArgs s_is_fraction, defBody s_is_fraction, defScope s_is_fraction, [], []⟩
def dd_is_name : He.DefD := ⟨("is_name", none), "is_name", "is_name", defArgs s_is_name, defBody s_is_name, defScope s_is_name, [], []⟩
def dd_is_stretch : He.DefD := ⟨("is_stretch", none), "is_stretch", "is_stretch", defArgs s_is_stretch, defBody s_is_stretch, defScope s_is_stretch, [], []⟩
def dd_is_path : He.DefD := ⟨("is_path", none), "is_path", "is_path", defArgs s_is_path, defBody s_is_path, defScope s_is_path, [], []⟩
def dd_is_filled : He.DefD := ⟨("is_filled", none), "is_filled", "is_filled", defArgs s_is_filled, defBody s_is_filled, defScope s_is_filled, [], []⟩
def dd_is_formed : He.DefD := ⟨("is_formed", none), "is_formed", "is_formed", defArgs s_is_formed, defBody s_is_formed, defScope s_is_formed, [], []⟩
def dd_check_list : He.DefD := ⟨("check_list", none), "check_list", "check_list", defArgs s_check_list, defBody s_check_list, defScope s_check_list, [], []⟩
def dd_check_places : He.DefD := ⟨("check_places", none), "check_places", "check_places", defArgs s_check_places, defBody s_check_places, defScope s_check_places, [], []⟩
def dd_check_names : He.DefD := ⟨("check_names", none), "check_names", "check_names", defArgs s_check_names, defBody s_check_names, defScope s_check_names, [], []⟩
def dd_gather : He.DefD := ⟨("gather", none), "gather", "gather", defArgs s_gather, defBody s_gather, defScope s_gather, [], []⟩
def dd_init : He.DefD := ⟨("Label", some "__init__"), "__init__", "Label.__init__", defArgs s_init, defBody s_init, defScope s_init, [.non], []⟩
def dd_Label_places : He.DefD := ⟨("Label", some "places"), "places", "Label.places", defArgs s_Label_places, defBody s_Label_places, defScope s_Label_places, [], []⟩
def dd_Label_may : He.DefD := ⟨("Label", some "may"), "may", "Label.may", defArgs s_Label_may, defBody s_Label_may, defScope s_Label_may, [], []⟩
def dd_Label_paths : He.DefD := ⟨("Label", some "paths"), "paths", "Label.paths", defArgs s_Label_paths, defBody s_Label_paths, defScope s_Label_paths, [], []⟩
def dd_Label_has_path : He.DefD := ⟨("Label", some "has_path"), "has_path", "Label.has_path", defArgs s_Label_has_path, defBody s_Label_has_path, defScope s_Label_has_path, [], []⟩
def dd_Label_place_at : He.DefD := ⟨("Label", some "place_at"), "place_at", "Label.place_at", defArgs s_Label_place_at, defBody s_Label_place_at, defScope s_Label_place_at, [], []⟩
def dd_Label_name_at : He.DefD := ⟨("Label", some "name_at"), "name_at", "Label.name_at", defArgs s_Label_name_at, defBody s_Label_name_at, defScope s_Label_name_at, [], []⟩
def dd_Label_told_at : He.DefD := ⟨("Label", some "told_at"), "told_at", "Label.told_at", defArgs s_Label_told_at, defBody s_Label_told_at, defScope s_Label_told_at, [], []⟩
def dd_Label_many_in : He.DefD := ⟨("Label", some "many_in"), "many_in", "Label.many_in", defArgs s_Label_many_in, defBody s_Label_many_in, defScope s_Label_many_in, [], []⟩
def dd__law_at : He.DefD := ⟨("_law_at", none), "_law_at", "_law_at", defArgs s__law_at, defBody s__law_at, defScope s__law_at, [], []⟩
def dd__law_pot : He.DefD := ⟨("_law_pot", none), "_law_pot", "_law_pot", defArgs s__law_pot, defBody s__law_pot, defScope s__law_pot, [], []⟩
def dd__law_take : He.DefD := ⟨("_law_take", none), "_law_take", "_law_take", defArgs s__law_take, defBody s__law_take, defScope s__law_take, [], []⟩
def dd__law_frac : He.DefD := ⟨("_law_frac", none), "_law_frac", "_law_frac", defArgs s__law_frac, defBody s__law_frac, defScope s__law_frac, [], []⟩
def dd__law_plus : He.DefD := ⟨("_law_plus", none), "_law_plus", "_law_plus", defArgs s__law_plus, defBody s__law_plus, defScope s__law_plus, [], []⟩
def dd__law_minus : He.DefD := ⟨("_law_minus", none), "_law_minus", "_law_minus", defArgs s__law_minus, defBody s__law_minus, defScope s__law_minus, [], []⟩
def dd__law_times : He.DefD := ⟨("_law_times", none), "_law_times", "_law_times", defArgs s__law_times, defBody s__law_times, defScope s__law_times, [], []⟩
def dd__law_word : He.DefD := ⟨("_law_word", none), "_law_word", "_law_word", defArgs s__law_word, defBody s__law_word, defScope s__law_word, [], []⟩
def dd__law_name : He.DefD := ⟨("_law_name", none), "_law_name", "_law_name", defArgs s__law_name, defBody s__law_name, defScope s__law_name, [], []⟩
def dd__law_stretch : He.DefD := ⟨("_law_stretch", none), "_law_stretch", "_law_stretch", defArgs s__law_stretch, defBody s__law_stretch, defScope s__law_stretch, [], []⟩
def dd__law_many : He.DefD := ⟨("_law_many", none), "_law_many", "_law_many", defArgs s__law_many, defBody s__law_many, defScope s__law_many, [], []⟩
def dd__law_list : He.DefD := ⟨("_law_list", none), "_law_list", "_law_list", defArgs s__law_list, defBody s__law_list, defScope s__law_list, [], []⟩
def dd__law_rows : He.DefD := ⟨("_law_rows", none), "_law_rows", "_law_rows", defArgs s__law_rows, defBody s__law_rows, defScope s__law_rows, [], []⟩
def dd_kinds_of : He.DefD := ⟨("kinds_of", none), "kinds_of", "kinds_of", defArgs s_kinds_of, defBody s_kinds_of, defScope s_kinds_of, [], []⟩
def dd_is_of : He.DefD := ⟨("is_of", none), "is_of", "is_of", defArgs s_is_of, defBody s_is_of, defScope s_is_of, [], []⟩
def dd_is_harmful : He.DefD := ⟨("is_harmful", none), "is_harmful", "is_harmful", defArgs s_is_harmful, defBody s_is_harmful, defScope s_is_harmful, [], []⟩
def dd_are_names : He.DefD := ⟨("are_names", none), "are_names", "are_names", defArgs s_are_names, defBody s_are_names, defScope s_are_names, [], []⟩
def dd_check_kinds : He.DefD := ⟨("check_kinds", none), "check_kinds", "check_kinds", defArgs s_check_kinds, defBody s_check_kinds, defScope s_check_kinds, [], []⟩
def dd_harmful_path : He.DefD := ⟨("harmful_path", none), "harmful_path", "harmful_path", defArgs s_harmful_path, defBody s_harmful_path, defScope s_harmful_path, [], []⟩
def dd_harmful_word : He.DefD := ⟨("harmful_word", none), "harmful_word", "harmful_word", defArgs s_harmful_word, defBody s_harmful_word, defScope s_harmful_word, [], []⟩
def dd_harm_at_all : He.DefD := ⟨("harm_at_all", none), "harm_at_all", "harm_at_all", defArgs s_harm_at_all, defBody s_harm_at_all, defScope s_harm_at_all, [], []⟩
def dd_harm : He.DefD := ⟨("harm", none), "harm", "harm", defArgs s_harm, defBody s_harm, defScope s_harm, [.non, .non], []⟩
def dd__law_of : He.DefD := ⟨("_law_of", none), "_law_of", "_law_of", defArgs s__law_of, defBody s__law_of, defScope s__law_of, [], []⟩
def dd__law_harmful : He.DefD := ⟨("_law_harmful", none), "_law_harmful", "_law_harmful", defArgs s__law_harmful, defBody s__law_harmful, defScope s__law_harmful, [], []⟩
def dd__law_due : He.DefD := ⟨("_law_due", none), "_law_due", "_law_due", defArgs s__law_due, defBody s__law_due, defScope s__law_due, [], []⟩
def dd__law_of_right : He.DefD := ⟨("_law_of_right", none), "_law_of_right", "_law_of_right", defArgs s__law_of_right, defBody s__law_of_right, defScope s__law_of_right, [], []⟩
def dd__law_kinds : He.DefD := ⟨("_law_kinds", none), "_law_kinds", "_law_kinds", defArgs s__law_kinds, defBody s__law_kinds, defScope s__law_kinds, [], []⟩
def dd__law_right : He.DefD := ⟨("_law_right", none), "_law_right", "_law_right", defArgs s__law_right, defBody s__law_right, defScope s__law_right, [], []⟩
def dd_law : He.DefD := ⟨("law", none), "law", "law", defArgs s_law, defBody s_law, defScope s_law, [], []⟩
def dds : List He.DefD := [dd_is_whole, dd_common_measure, dd_is_less, dd_is_fraction, dd_is_name, dd_is_stretch, dd_is_path, dd_is_filled, dd_is_formed, dd_check_list, dd_check_places, dd_check_names, dd_gather, dd_init, dd_Label_places, dd_Label_may, dd_Label_paths, dd_Label_has_path, dd_Label_place_at, dd_Label_name_at, dd_Label_told_at, dd_Label_many_in, dd__law_at, dd__law_pot, dd__law_take, dd__law_frac, dd__law_plus, dd__law_minus, dd__law_times, dd__law_word, dd__law_name, dd__law_stretch, dd__law_many, dd__law_list, dd__law_rows, dd_kinds_of, dd_is_of, dd_is_harmful, dd_are_names, dd_check_kinds, dd_harmful_path, dd_harmful_word, dd_harm_at_all, dd_harm, dd__law_of, dd__law_harmful, dd__law_due, dd__law_of_right, dd__law_kinds, dd__law_right, dd_law]
def ffs0 : List He.Fa := [.glo "Label", .glo "NoPath", .glo "is_whole", .glo "common_measure", .glo "is_less", .glo "is_fraction", .glo "is_name", .glo "is_stretch", .glo "is_path", .glo "is_filled", .glo "is_formed", .glo "check_list", .glo "check_places", .glo "check_names", .glo "gather", .meth "Label" "__init__", .meth "Label" "places", .meth "Label" "may", .meth "Label" "paths", .meth "Label" "has_path", .meth "Label" "place_at", .meth "Label" "name_at", .meth "Label" "told_at", .meth "Label" "many_in", .glo "_law_at", .glo "_law_pot", .glo "_law_take", .glo "_law_frac", .glo "_law_plus", .glo "_law_minus"]
def ffs1 : List He.Fa := [.glo "_law_times", .glo "_law_word", .glo "_law_name", .glo "_law_stretch", .glo "_law_many", .glo "_law_list", .glo "_law_rows", .glo "kinds_of", .glo "is_of", .glo "is_harmful", .glo "are_names", .glo "check_kinds", .glo "harmful_path", .glo "harmful_word", .glo "harm_at_all", .glo "harm", .glo "_law_of", .glo "_law_harmful", .glo "_law_due", .glo "_law_of_right", .glo "_law_kinds", .glo "_law_right", .glo "law", .cls "Label", .noat "Label" "listed", .noat "Label" "words", .noat "Label" "by_path", .mkr "Label", .int "MOST_DEPTH" 4, .int "MOST_LETTERS" 8]
def ffs2 : List He.Fa := [.int "MOST_PLACES" 12, .free "abs", .free "all", .free "any", .free "bool", .free "dict", .free "divmod", .free "enumerate", .free "int", .free "isinstance", .free "len", .free "list", .free "max", .free "min", .free "range", .free "repr", .free "set", .free "sorted", .free "str", .free "sum", .free "tuple", .exc "NoPath"]
def ffs : List He.Fa := ffs0 ++ ffs1 ++ ffs2
def nms0 : List PySem.Str := ["own_copy", "StuffError", "NoFraction", "NoPlace", "TooMany", "NoName", "NoPath", "NoPrices", "NoMaking", "Never", "NoKinds", "NoLimit", "is_whole", "common_measure", "fraction", "plus", "minus", "times", "is_less", "is_fraction", "is_from_nought", "total", "figures", "fraction_text", "WORDS_AHEAD", "told_text", "entry_text", "place_text", "list_text", "words_text"]
def nms1 : List PySem.Str := ["row_text", "MOST_LETTERS", "MOST_DEPTH", "MOST_PLACES", "is_name", "is_stretch", "is_path", "is_filled", "is_formed", "check_list", "check_places", "are_names", "check_names", "gather", "Label", "holders", "paths_in", "in_whole_numbers", "turned", "Grid", "first_rows", "lacking", "least_corner", "has_shares", "is_filled_by", "is_falling", "is_as_told", "is_making", "check_prices", "check_making"]
def nms2 : List PySem.Str := ["cost", "LEAST", "MOST", "is_from", "ends_of", "sum_row", "list_row", "rest_row", "rows_of", "wants_of", "costs_of", "making_by", "paper_by", "in_fractions", "least", "counted_paths", "priced", "spread", "kinds_of", "is_of", "is_harmful", "check_kinds", "check_limit", "harmful_path", "harmful_word", "harm_at_all", "harm_beyond", "harm", "_law_at", "_law_pot"]
def nms3 : List PySem.Str := ["_law_take", "_law_frac", "_law_plus", "_law_minus", "_law_times", "_law_word", "_law_name", "_law_stretch", "_law_list", "_law_many", "_law_rows", "_law_counted", "_law_share", "_law_kinds", "_law_of", "_law_harmful", "_law_due", "_law_of_right", "_law_right"]
def nms : List PySem.Str := nms0 ++ nms1 ++ nms2 ++ nms3
def xns0 : List PySem.Str := ["Label", "NoPath", "is_whole", "common_measure", "is_less", "is_fraction", "is_name", "is_stretch", "is_path", "is_filled", "is_formed", "check_list", "check_places", "check_names", "gather", "_law_at", "_law_pot", "_law_take", "_law_frac", "_law_plus", "_law_minus", "_law_times", "_law_word", "_law_name", "_law_stretch", "_law_many", "_law_list", "_law_rows", "kinds_of", "is_of"]
def xns1 : List PySem.Str := ["is_harmful", "are_names", "check_kinds", "harmful_path", "harmful_word", "harm_at_all", "harm", "_law_of", "_law_harmful", "_law_due", "_law_of_right", "_law_kinds", "_law_right", "law"]
def xns : List PySem.Str := xns0 ++ xns1
abbrev RR : PySem.W.OpenRow := PySem.W.OpenLaw.row PySem.Challenge.rw_stufflists_k82_kinds_of_kinds
abbrev hk : PySem.W.Hook := He.hookN xns ffs dds
def ob (s : PySem.W.SharedT) : He.AlN := He.obsN xns ffs dds (HandSHeadRun.getT s)
theorem ob_eq (s : PySem.W.SharedT) : ob s = hk.obs s.abs := He.obsNG_eq (HandSHeadRun.getT_eq s)
theorem run (w : World) : HandSHeadRun.RunEq RR (PySem.W.view RR.prog [120]) hk ob 12000 nms w := by
  intro os
  kernel_rfl
theorem facts {l : PySem.W.OpenLaw} {w : World} {K : Fg} {h : Heap} {mg : Str → Option Value} {fa : Addr} (X : K.In h) (GN : h.Ns mainGlobals mg) (hfa : mg "law" = some (.ref fa)) (c0 : He.SaysN ffs dds K) :
    ∃ fd : FuncData, (∀ (s : Shared) (v : Value), BindsTo s fd ⟨[v], []⟩ [("_law_script", v)]) ∧ ∀ base : Heap, K.In base → base.Ns mainGlobals mg → G.FnG l.prog w K mg base 15 fa fd ["_law_script"] (lift (sp_law K)) := by
  have c := c0.d
  obtain ⟨fd_is_whole, E_is_whole⟩ := c.def_ 0 (d := dd_is_whole) rfl
  obtain ⟨fd_common_measure, E_common_measure⟩ := c.def_ 1 (d := dd_common_measure) rfl
  obtain ⟨fd_is_less, E_is_less⟩ := c.def_ 2 (d := dd_is_less) rfl
  obtain ⟨fd_is_fraction, E_is_fraction⟩ := c.def_ 3 (d := dd_is_fraction) rfl
  obtain ⟨fd_is_name, E_is_name⟩ := c.def_ 4 (d := dd_is_name) rfl
  obtain ⟨fd_is_stretch, E_is_stretch⟩ := c.def_ 5 (d := dd_is_stretch) rfl
  obtain ⟨fd_is_path, E_is_path⟩ := c.def_ 6 (d := dd_is_path) rfl
  obtain ⟨fd_is_filled, E_is_filled⟩ := c.def_ 7 (d := dd_is_filled) rfl
  obtain ⟨fd_is_formed, E_is_formed⟩ := c.def_ 8 (d := dd_is_formed) rfl
  obtain ⟨fd_check_list, E_check_list⟩ := c.def_ 9 (d := dd_check_list) rfl
  obtain ⟨fd_check_places, E_check_places⟩ := c.def_ 10 (d := dd_check_places) rfl
  obtain ⟨fd_check_names, E_check_names⟩ := c.def_ 11 (d := dd_check_names) rfl
  obtain ⟨fd_gather, E_gather⟩ := c.def_ 12 (d := dd_gather) rfl
  obtain ⟨fd_init, E_init⟩ := c.def_ 13 (d := dd_init) rfl
  obtain ⟨fd_Label_places, E_Label_places⟩ := c.def_ 14 (d := dd_Label_places) rfl
  obtain ⟨fd_Label_may, E_Label_may⟩ := c.def_ 15 (d := dd_Label_may) rfl
  obtain ⟨fd_Label_paths, E_Label_paths⟩ := c.def_ 16 (d := dd_Label_paths) rfl
  obtain ⟨fd_Label_has_path, E_Label_has_path⟩ := c.def_ 17 (d := dd_Label_has_path) rfl
  obtain ⟨fd_Label_place_at, E_Label_place_at⟩ := c.def_ 18 (d := dd_Label_place_at) rfl
  obtain ⟨fd_Label_name_at, E_Label_name_at⟩ := c.def_ 19 (d := dd_Label_name_at) rfl
  obtain ⟨fd_Label_told_at, E_Label_told_at⟩ := c.def_ 20 (d := dd_Label_told_at) rfl
  obtain ⟨fd_Label_many_in, E_Label_many_in⟩ := c.def_ 21 (d := dd_Label_many_in) rfl
  obtain ⟨fd__law_at, E__law_at⟩ := c.def_ 22 (d := dd__law_at) rfl
  obtain ⟨fd__law_pot, E__law_pot⟩ := c.def_ 23 (d := dd__law_pot) rfl
  obtain ⟨fd__law_take, E__law_take⟩ := c.def_ 24 (d := dd__law_take) rfl
  obtain ⟨fd__law_frac, E__law_frac⟩ := c.def_ 25 (d := dd__law_frac) rfl
  obtain ⟨fd__law_plus, E__law_plus⟩ := c.def_ 26 (d := dd__law_plus) rfl
  obtain ⟨fd__law_minus, E__law_minus⟩ := c.def_ 27 (d := dd__law_minus) rfl
  obtain ⟨fd__law_times, E__law_times⟩ := c.def_ 28 (d := dd__law_times) rfl
  obtain ⟨fd__law_word, E__law_word⟩ := c.def_ 29 (d := dd__law_word) rfl
  obtain ⟨fd__law_name, E__law_name⟩ := c.def_ 30 (d := dd__law_name) rfl
  obtain ⟨fd__law_stretch, E__law_stretch⟩ := c.def_ 31 (d := dd__law_stretch) rfl
  obtain ⟨fd__law_many, E__law_many⟩ := c.def_ 32 (d := dd__law_many) rfl
  obtain ⟨fd__law_list, E__law_list⟩ := c.def_ 33 (d := dd__law_list) rfl
  obtain ⟨fd__law_rows, E__law_rows⟩ := c.def_ 34 (d := dd__law_rows) rfl
  obtain ⟨fd_kinds_of, E_kinds_of⟩ := c.def_ 35 (d := dd_kinds_of) rfl
  obtain ⟨fd_is_of, E_is_of⟩ := c.def_ 36 (d := dd_is_of) rfl
  obtain ⟨fd_is_harmful, E_is_harmful⟩ := c.def_ 37 (d := dd_is_harmful) rfl
  obtain ⟨fd_are_names, E_are_names⟩ := c.def_ 38 (d := dd_are_names) rfl
  obtain ⟨fd_check_kinds, E_check_kinds⟩ := c.def_ 39 (d := dd_check_kinds) rfl
  obtain ⟨fd_harmful_path, E_harmful_path⟩ := c.def_ 40 (d := dd_harmful_path) rfl
  obtain ⟨fd_harmful_word, E_harmful_word⟩ := c.def_ 41 (d := dd_harmful_word) rfl
  obtain ⟨fd_harm_at_all, E_harm_at_all⟩ := c.def_ 42 (d := dd_harm_at_all) rfl
  obtain ⟨fd_harm, E_harm⟩ := c.def_ 43 (d := dd_harm) rfl
  obtain ⟨fd__law_of, E__law_of⟩ := c.def_ 44 (d := dd__law_of) rfl
  obtain ⟨fd__law_harmful, E__law_harmful⟩ := c.def_ 45 (d := dd__law_harmful) rfl
  obtain ⟨fd__law_due, E__law_due⟩ := c.def_ 46 (d := dd__law_due) rfl
  obtain ⟨fd__law_of_right, E__law_of_right⟩ := c.def_ 47 (d := dd__law_of_right) rfl
  obtain ⟨fd__law_kinds, E__law_kinds⟩ := c.def_ 48 (d := dd__law_kinds) rfl
  obtain ⟨fd__law_right, E__law_right⟩ := c.def_ 49 (d := dd__law_right) rfl
  obtain ⟨fd_law, E_law⟩ := c.def_ 50 (d := dd_law) rfl
  exact all_mk hfa (He.glo_ok X GN (c.fact 0 (f := .glo "Label") rfl)) (He.glo_ok X GN (c.fact 1 (f := .glo "NoPath") rfl)) (He.glo_ok X GN (c.fact 2 (f := .glo "is_whole") rfl)) (G.fun_of (st := s_is_whole) E_is_whole) (He.glo_ok X GN (c.fact 3 (f := .glo "common_measure") rfl)) (G.fun_of (st := s_common_measure) E_common_measure) (He.glo_ok X GN (c.fact 4 (f := .glo "is_less") rfl)) (G.fun_of (st := s_is_less) E_is_less) (He.glo_ok X GN (c.fact 5 (f := .glo "is_fraction") rfl)) (G.fun_of (st := s_is_fraction) E_is_fraction) (He.glo_ok X GN (c.fact 6 (f := .glo "is_name") rfl)) (G.fun_of (st := s_is_name) E_is_name) (He.glo_ok X GN (c.fact 7 (f := .glo "is_stretch") rfl)) (G.fun_of (st := s_is_stretch) E_is_stretch) (He.glo_ok X GN (c.fact 8 (f := .glo "is_path") rfl)) (G.fun_of (st := s_is_path) E_is_path) (He.glo_ok X GN (c.fact 9 (f := .glo "is_filled") rfl)) (G.fun_of (st := s_is_filled) E_is_filled) (He.glo_ok X GN (c.fact 10 (f := .glo "is_formed") rfl)) (G.fun_of (st := s_is_formed) E_is_formed) (He.glo_ok X GN (c.fact 11 (f := .glo "check_list") rfl)) (G.fun_of (st := s_check_list) E_check_list) (He.glo_ok X GN (c.fact 12 (f := .glo "check_places") rfl)) (G.fun_of (st := s_check_places) E_check_places) (He.glo_ok X GN (c.fact 13 (f := .glo "check_names") rfl)) (G.fun_of (st := s_check_names) E_check_names) (He.glo_ok X GN (c.fact 14 (f := .glo "gather") rfl)) (G.fun_of (st := s_gather) E_gather) (He.eqO_ok (He.ba (c.fact 15 (f := .meth "Label" "__init__") rfl)).1) (He.ba (He.ba (c.fact 15 (f := .meth "Label" "__init__") rfl)).2).1 E_init (He.eqO_ok (He.ba (c.fact 16 (f := .meth "Label" "places") rfl)).1) (He.ba (He.ba (c.fact 16 (f := .meth "Label" "places") rfl)).2).1 (G.fun_of (st := s_Label_places) E_Label_places) (He.eqO_ok (He.ba (c.fact 17 (f := .meth "Label" "may") rfl)).1) (He.ba (He.ba (c.fact 17 (f := .meth "Label" "may") rfl)).2).1 (G.fun_of (st := s_Label_may) E_Label_may) (He.eqO_ok (He.ba (c.fact 18 (f := .meth "Label" "paths") rfl)).1) (He.ba (He.ba (c.fact 18 (f := .meth "Label" "paths") rfl)).2).1 (G.fun_of (st := s_Label_paths) E_Label_paths) (He.eqO_ok (He.ba (c.fact 19 (f := .meth "Label" "has_path") rfl)).1) (He.ba (He.ba (c.fact 19 (f := .meth "Label" "has_path") rfl)).2).1 (G.fun_of (st := s_Label_has_path) E_Label_has_path) (He.eqO_ok (He.ba (c.fact 20 (f := .meth "Label" "place_at") rfl)).1) (He.ba (He.ba (c.fact 20 (f := .meth "Label" "place_at") rfl)).2).1 (G.fun_of (st := s_Label_place_at) E_Label_place_at) (He.eqO_ok (He.ba (c.fact 21 (f := .meth "Label" "name_at") rfl)).1) (He.ba (He.ba (c.fact 21 (f := .meth "Label" "name_at") rfl)).2).1 (G.fun_of (st := s_Label_name_at) E_Label_name_at) (He.eqO_ok (He.ba (c.fact 22 (f := .meth "Label" "told_at") rfl)).1) (He.ba (He.ba (c.fact 22 (f := .meth "Label" "told_at") rfl)).2).1 (G.fun_of (st := s_Label_told_at) E_Label_told_at) (He.eqO_ok (He.ba (c.fact 23 (f := .meth "Label" "many_in") rfl)).1) (He.ba (He.ba (c.fact 23 (f := .meth "Label" "many_in") rfl)).2).1 (G.fun_of (st := s_Label_many_in) E_Label_many_in) (He.glo_ok X GN (c.fact 24 (f := .glo "_law_at") rfl)) (G.fun_of (st := s__law_at) E__law_at) (He.glo_ok X GN (c.fact 25 (f := .glo "_law_pot") rfl)) (G.fun_of (st := s__law_pot) E__law_pot) (He.glo_ok X GN (c.fact 26 (f := .glo "_law_take") rfl)) (G.fun_of (st := s__law_take) E__law_take) (He.glo_ok X GN (c.fact 27 (f := .glo "_law_frac") rfl)) (G.fun_of (st := s__law_frac) E__law_frac) (He.glo_ok X GN (c.fact 28 (f := .glo "_law_plus") rfl)) (G.fun_of (st := s__law_plus) E__law_plus) (He.glo_ok X GN (c.fact 29 (f := .glo "_law_minus") rfl)) (G.fun_of (st := s__law_minus) E__law_minus) (He.glo_ok X GN (c.fact 30 (f := .glo "_law_times") rfl)) (G.fun_of (st := s__law_times) E__law_times) (He.glo_ok X GN (c.fact 31 (f := .glo "_law_word") rfl)) (G.fun_of (st := s__law_word) E__law_word) (He.glo_ok X GN (c.fact 32 (f := .glo "_law_name") rfl)) (G.fun_of (st := s__law_name) E__law_name) (He.glo_ok X GN (c.fact 33 (f := .glo "_law_stretch") rfl)) (G.fun_of (st := s__law_stretch) E__law_stretch) (He.glo_ok X GN (c.fact 34 (f := .glo "_law_many") rfl)) (G.fun_of (st := s__law_many) E__law_many) (He.glo_ok X GN (c.fact 35 (f := .glo "_law_list") rfl)) (G.fun_of (st := s__law_list) E__law_list) (He.glo_ok X GN (c.fact 36 (f := .glo "_law_rows") rfl)) (G.fun_of (st := s__law_rows) E__law_rows) (He.glo_ok X GN (c.fact 37 (f := .glo "kinds_of") rfl)) (G.fun_of (st := s_kinds_of) E_kinds_of) (He.glo_ok X GN (c.fact 38 (f := .glo "is_of") rfl)) (G.fun_of (st := s_is_of) E_is_of) (He.glo_ok X GN (c.fact 39 (f := .glo "is_harmful") rfl)) (G.fun_of (st := s_is_harmful) E_is_harmful) (He.glo_ok X GN (c.fact 40 (f := .glo "are_names") rfl)) (G.fun_of (st := s_are_names) E_are_names) (He.glo_ok X GN (c.fact 41 (f := .glo "check_kinds") rfl)) (G.fun_of (st := s_check_kinds) E_check_kinds) (He.glo_ok X GN (c.fact 42 (f := .glo "harmful_path") rfl)) (G.fun_of (st := s_harmful_path) E_harmful_path) (He.glo_ok X GN (c.fact 43 (f := .glo "harmful_word") rfl)) (G.fun_of (st := s_harmful_word) E_harmful_word) (He.glo_ok X GN (c.fact 44 (f := .glo "harm_at_all") rfl)) (G.fun_of (st := s_harm_at_all) E_harm_at_all) (He.glo_ok X GN (c.fact 45 (f := .glo "harm") rfl)) E_harm (He.glo_ok X GN (c.fact 46 (f := .glo "_law_of") rfl)) (G.fun_of (st := s__law_of) E__law_of) (He.glo_ok X GN (c.fact 47 (f := .glo "_law_harmful") rfl)) (G.fun_of (st := s__law_harmful) E__law_harmful) (He.glo_ok X GN (c.fact 48 (f := .glo "_law_due") rfl)) (G.fun_of (st := s__law_due) E__law_due) (He.glo_ok X GN (c.fact 49 (f := .glo "_law_of_right") rfl)) (G.fun_of (st := s__law_of_right) E__law_of_right) (He.glo_ok X GN (c.fact 50 (f := .glo "_law_kinds") rfl)) (G.fun_of (st := s__law_kinds) E__law_kinds) (He.glo_ok X GN (c.fact 51 (f := .glo "_law_right") rfl)) (G.fun_of (st := s__law_right) E__law_right) (He.glo_ok X GN (c.fact 52 (f := .glo "law") rfl)) (G.fun_of (st := s_law) E_law) (He.ba (c.fact 53 (f := .cls "Label") rfl)).1 (He.ba (He.ba (c.fact 53 (f := .cls "Label") rfl)).2).1 (He.ba (He.ba (He.ba (c.fact 53 (f := .cls "Label") rfl)).2).2).1 (He.eqO_ok (He.ba (He.ba (He.ba (c.fact 53 (f := .cls "Label") rfl)).2).2).2) (He.eqO_ok (c.fact 54 (f := .noat "Label" "listed") rfl)) (He.eqO_ok (c.fact 55 (f := .noat "Label" "words") rfl)) (He.eqO_ok (c.fact 56 (f := .noat "Label" "by_path") rfl)) (He.ba (c.fact 57 (f := .mkr "Label") rfl)).1 (He.ba (He.ba (He.ba (c.fact 57 (f := .mkr "Label") rfl)).2).2).2 (He.int_ok X GN (c.fact 58 (f := .int "MOST_DEPTH" 4) rfl)) (He.int_ok X GN (c.fact 59 (f := .int "MOST_LETTERS" 8) rfl)) (He.int_ok X GN (c.fact 60 (f := .int "MOST_PLACES" 12) rfl)) (He.free_ok X GN (c.fact 61 (f := .free "abs") rfl)) (He.free_ok X GN (c.fact 62 (f := .free "all") rfl)) (He.free_ok X GN (c.fact 63 (f := .free "any") rfl)) (He.free_ok X GN (c.fact 64 (f := .free "bool") rfl)) (He.free_ok X GN (c.fact 65 (f := .free "dict") rfl)) (He.free_ok X GN (c.fact 66 (f := .free "divmod") rfl)) (He.free_ok X GN (c.fact 67 (f := .free "enumerate") rfl)) (He.free_ok X GN (c.fact 68 (f := .free "int") rfl)) (He.free_ok X GN (c.fact 69 (f := .free "isinstance") rfl)) (He.free_ok X GN (c.fact 70 (f := .free "len") rfl)) (He.free_ok X GN (c.fact 71 (f := .free "list") rfl)) (He.free_ok X GN (c.fact 72 (f := .free "max") rfl)) (He.free_ok X GN (c.fact 73 (f := .free "min") rfl)) (He.free_ok X GN (c.fact 74 (f := .free "range") rfl)) (He.free_ok X GN (c.fact 75 (f := .free "repr") rfl)) (He.free_ok X GN (c.fact 76 (f := .free "set") rfl)) (He.free_ok X GN (c.fact 77 (f := .free "sorted") rfl)) (He.free_ok X GN (c.fact 78 (f := .free "str") rfl)) (He.free_ok X GN (c.fact 79 (f := .free "sum") rfl)) (He.free_ok X GN (c.fact 80 (f := .free "tuple") rfl)) (He.ba (c.fact 81 (f := .exc "NoPath") rfl)).1 (He.ba (He.ba (c.fact 81 (f := .exc "NoPath") rfl)).2).1 (of_decide_eq_true (He.ba (He.ba (He.ba (c.fact 81 (f := .exc "NoPath") rfl)).2).2).1) (of_decide_eq_true (He.ba (He.ba (He.ba (c.fact 81 (f := .exc "NoPath") rfl)).2).2).2) c0.sys
end L3
open PySem PySem.W PySem.Calls PyProof.Rows
set_option maxRecDepth 100000 in
set_option maxHeartbeats 0 in
theorem PySem.Challenge.cw_stufflists_k82_kinds_of_kinds_holds : PySem.Challenge.rw_stufflists_k82_kinds_of_kinds.Holds := by
  w_on; o_law
  refine HandSHeadRun.head_any (r := OpenLaw.row PySem.Challenge.rw_stufflists_k82_kinds_of_kinds) (q := view (OpenLaw.row PySem.Challenge.rw_stufflists_k82_kinds_of_kinds).prog [120]) (H := L3.hk) (ob := L3.ob) (M := 12000) (loose := L3.nms) (d := HandSHeadRun.topDef (OpenLaw.row PySem.Challenge.rw_stufflists_k82_kinds_of_kinds).prog 120) (kwd := []) L3.ob_eq
    (by kernel_rfl) (fun s => by kernel_rfl) L3.run (by kernel_rfl) (by kernel_rfl) (by kernel_rfl) (by rfl) (by first | assumption | decide +kernel) (by decide +kernel) ⟨rfl, rfl, rfl, rfl, rfl, by decide +kernel⟩ ?hw ?hc
  case hw => w_witness2
  case hc =>
    refine G.walk_ofGE (l := PySem.Challenge.rw_stufflists_k82_kinds_of_kinds) (n := 63) (k := 15) (x := "_law_script") rfl (by decide) (by kernel_rfl) ⟨rfl, by decide, by decide⟩ ?F
    intro w mg fa h Y GN hmg0
    obtain ⟨K, KX, c⟩ := Y
    have hmg : mg ("law" : PySem.Str) = some (.ref fa) := by
      have e : (HandSHeadRun.topDef (OpenLaw.row PySem.Challenge.rw_stufflists_k82_kinds_of_kinds).prog 120).name = ("law" : PySem.Str) := by kernel_rfl
      rw [← e]
      exact hmg0
    obtain ⟨fd, hb, hF⟩ := L3.facts (l := PySem.Challenge.rw_stufflists_k82_kinds_of_kinds) (w := w) KX GN hmg c
    exact ⟨K, fd, L3.lift (L3.sp_law K), KX, hb, fun H a ns hl hO hS => ⟨[.scr _ ns], fun _ => none, fun v _ => v = .bl true, fun _ _ _ => False, .cons (.scr (L3.sqR_of hO hS)) .nil, (fun _ _ z => by cases z), ⟨ns, rfl, fun _ => rfl⟩, (fun v H' tv M' _ r _ q => by subst q; cases r; rfl), fun _ _ _ _ _ _ z => z⟩, hF⟩
