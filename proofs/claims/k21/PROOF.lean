import PyProof.Rows.All
import Wide.All
import OpenK.AllK
import Wide.FinOn
import HandS.ForMost
import HandS.ForExc
import HandS.Wide
import HandS.WideBits
import HandS.IsInst
import HandS.ExcIs
import HandS.CallSlots
import HandS.Defaults
import HandS.StrMore
import HandS.Style
import HandS.Flow
import HandS.Walk
import HandS.Codes
import KE.GoesEnum
import HandS.Set
import HandS.SetFor
import HandS.Strs
import HandS.More
import KE.KCallOwn
import KE.KFmtOwn
import HandS.FStr
import HandS.TupAny
import HandS.TupLen
import HandS.Conv
import HandS.RaiseMore
import PySem.Challenge.RW_stufflists_k21_rows_written
set_option Elab.async false
set_option linter.all false
set_option maxRecDepth 100000
namespace G
open PySem PySem.Spec PyProof.Rows L2
/-! ### numbers -/
def CDivG (_ j : Int) : Prop := j ≠ 0 ∧ j.natAbs.log2 < 9000
theorem op_fdivG {X : Cx} : OpR X (binaryOp .FloorDiv) (rI CDivG fun i j => .int (i.fdiv j)) := opI fun _ _ _ _ _ _ _ hc q => floordiv_int hc.1 q (.inl (PyProof.noPylong_of_log2 hc.2))
theorem CDivG.of {i j : Int} {b : Nat} (h : j ≠ 0) (hb : j.natAbs < 2 ^ b) (h0 : 0 < b) (h9 : b ≤ 9000) : CDivG i j := ⟨h, Nat.lt_of_lt_of_le (PySem.Flt.log2_lt_of h0 hb) h9⟩
def gc (a b : Int) : Nat := Nat.gcd a.natAbs b.natAbs
def ms (a b : Int) : Int := if b < 0 then -(gc a b : Int) else (gc a b : Int)
def low1 (a b : Int) : Int := a.fdiv (ms a b)
def low2 (a b : Int) : Int := b.fdiv (ms a b)
def isFr (a b : Int) : Bool := decide (0 < b) && decide (gc a b = 1)
theorem gc_pos {a b : Int} (h : b ≠ 0) : 0 < gc a b := Nat.gcd_pos_of_pos_right _ (by omega)
theorem ms_ne {a b : Int} (h : b ≠ 0) : ms a b ≠ 0 := by
  have := gc_pos (a := a) h
  unfold ms
  split <;> omega
theorem gc_dvd1 (a b : Int) : (gc a b : Int) ∣ a := Int.ofNat_dvd_left.mpr (Nat.gcd_dvd_left _ _)
theorem gc_dvd2 (a b : Int) : (gc a b : Int) ∣ b := Int.ofNat_dvd_left.mpr (Nat.gcd_dvd_right _ _)
theorem ms_dvd1 (a b : Int) : ms a b ∣ a := by
  unfold ms
  split
  · exact Int.neg_dvd.mpr (gc_dvd1 a b)
  · exact gc_dvd1 a b
theorem ms_dvd2 (a b : Int) : ms a b ∣ b := by
  unfold ms
  split
  · exact Int.neg_dvd.mpr (gc_dvd2 a b)
  · exact gc_dvd2 a b
theorem low1_mul (a b : Int) : ms a b * low1 a b = a := by
  unfold low1
  rw [Int.fdiv_eq_ediv_of_dvd (ms_dvd1 a b)]
  exact Int.mul_ediv_cancel' (ms_dvd1 a b)
theorem low2_mul (a b : Int) : ms a b * low2 a b = b := by
  unfold low2
  rw [Int.fdiv_eq_ediv_of_dvd (ms_dvd2 a b)]
  exact Int.mul_ediv_cancel' (ms_dvd2 a b)
theorem ms_natAbs (a b : Int) : (ms a b).natAbs = gc a b := by
  unfold ms
  split <;> omega
theorem low_cross (a b : Int) (h : b ≠ 0) : low1 a b * b = low2 a b * a := by
  have e1 := low1_mul a b
  have e2 := low2_mul a b
  have : low1 a b * (ms a b * low2 a b) = low2 a b * (ms a b * low1 a b) := by
    rw [← Int.mul_assoc, ← Int.mul_assoc, Int.mul_comm (low1 a b) (ms a b), Int.mul_comm (low2 a b) (ms a b), Int.mul_assoc, Int.mul_assoc, Int.mul_comm (low1 a b)]
  rw [e1, e2] at this
  exact this
theorem low2_pos {a b : Int} (h : b ≠ 0) : 0 < low2 a b := by
  have e2 := low2_mul a b
  have g := gc_pos (a := a) h
  by_cases hb : b < 0
  · have em : ms a b = -(gc a b : Int) := if_pos hb
    rw [em] at e2
    by_cases hz : 0 < low2 a b
    · exact hz
    · have h1 : 0 ≤ (gc a b : Int) * -(low2 a b) := Int.mul_nonneg (by omega) (by omega)
      rw [Int.mul_neg] at h1
      rw [Int.neg_mul] at e2
      omega
  · have em : ms a b = (gc a b : Int) := if_neg hb
    rw [em] at e2
    by_cases hz : 0 < low2 a b
    · exact hz
    · have h1 : 0 ≤ (gc a b : Int) * -(low2 a b) := Int.mul_nonneg (by omega) (by omega)
      rw [Int.mul_neg] at h1
      omega
theorem low1_abs (a b : Int) : gc a b * (low1 a b).natAbs = a.natAbs := by
  have e := congrArg Int.natAbs (low1_mul a b)
  rw [Int.natAbs_mul, ms_natAbs] at e
  exact e
theorem low2_abs (a b : Int) : gc a b * (low2 a b).natAbs = b.natAbs := by
  have e := congrArg Int.natAbs (low2_mul a b)
  rw [Int.natAbs_mul, ms_natAbs] at e
  exact e
theorem low_gc {a b : Int} (h : b ≠ 0) : gc (low1 a b) (low2 a b) = 1 := by
  have g := gc_pos (a := a) h
  have e1 := low1_abs a b
  have e2 := low2_abs a b
  have f1 : (low1 a b).natAbs = a.natAbs / gc a b := by
    rw [← e1, Nat.mul_div_cancel_left _ g]
  have f2 : (low2 a b).natAbs = b.natAbs / gc a b := by
    rw [← e2, Nat.mul_div_cancel_left _ g]
  show Nat.gcd (low1 a b).natAbs (low2 a b).natAbs = 1
  rw [f1, f2]
  exact Nat.gcd_div_gcd_div_gcd_of_pos_right (by omega)
theorem low1_le {a b : Int} (h : b ≠ 0) : (low1 a b).natAbs ≤ a.natAbs := by
  have g := gc_pos (a := a) h
  have e1 := low1_abs a b
  calc (low1 a b).natAbs ≤ gc a b * (low1 a b).natAbs := Nat.le_mul_of_pos_left _ g
    _ = a.natAbs := e1
theorem low2_le {a b : Int} (h : b ≠ 0) : (low2 a b).natAbs ≤ b.natAbs := by
  have g := gc_pos (a := a) h
  have e1 := low2_abs a b
  calc (low2 a b).natAbs ≤ gc a b * (low2 a b).natAbs := Nat.le_mul_of_pos_left _ g
    _ = b.natAbs := e1
theorem low_fr {a b : Int} (h : b ≠ 0) : isFr (low1 a b) (low2 a b) = true := by
  unfold isFr
  rw [decide_eq_true (low2_pos h), decide_eq_true (low_gc h)]
  rfl
/-- of a fraction the lowest terms are itself -/
theorem low_self {a b : Int} (hb : 0 < b) : (low1 a b = a ∧ low2 a b = b) ↔ gc a b = 1 := by
  have e1 := low1_mul a b
  have e2 := low2_mul a b
  have em : ms a b = (gc a b : Int) := if_neg (by omega)
  rw [em] at e1 e2
  constructor
  · rintro ⟨_, h2⟩
    rw [h2] at e2
    have : ((gc a b : Int) - 1) * b = 0 := by
      rw [Int.sub_mul, e2]
      omega
    rcases Int.mul_eq_zero.mp this with h | h
    · omega
    · omega
  · intro h
    rw [h] at e1 e2
    omega
theorem gc_step {x y : Int} (hx : 0 ≤ x) (hy : 0 < y) : gc y (x % y) = gc x y := by
  have h1 : (x % y).natAbs = x.natAbs % y.natAbs := Int.natAbs_emod_of_nonneg hx y
  unfold gc
  rw [h1, Nat.gcd_comm x.natAbs y.natAbs, Nat.gcd_rec y.natAbs x.natAbs, Nat.gcd_comm]
/-! ### heaps -/
theorem same_upd {H : Hp} {p : Addr} {o : HO} (h : H p = none) : Same H (upd H p o) := fun b x e => by
  rw [upd_ne (ne_of_none e h)]
  exact e
def Keep (p : Addr) (H H' : Hp) : Prop := ∀ b o, b ≠ p → H b = some o → H' b = some o
def Pot (H : Hp) (p : Addr) : Prop := ∃ a b : Int, H p = some (.lst [.int a, .int b]) ∧ 0 ≤ a ∧ 0 ≤ b ∧ b < 2147483647
theorem Keep.refl {p : Addr} {H : Hp} : Keep p H H := fun _ _ _ h => h
theorem Keep.trans {p : Addr} {H H1 H2 : Hp} (a : Keep p H H1) (b : Keep p H1 H2) : Keep p H H2 := fun c o n h => b c o n (a c o n h)
theorem same_keep {p : Addr} {H H1 : Hp} (a : Same H H1) : Keep p H H1 := fun c o _ h => a c o h
theorem Pot.same {p : Addr} {H H1 : Hp} (h : Pot H p) (a : Same H H1) : Pot H1 p := by
  obtain ⟨x, y, e, r⟩ := h
  exact ⟨x, y, a _ _ e, r⟩
theorem Pot.ne {p q : Addr} {H : Hp} (h : Pot H p) (n : H q = none) : p ≠ q := by
  obtain ⟨x, y, e, r⟩ := h
  exact ne_of_none e n
theorem keep_upd {p : Addr} {H : Hp} {o : HO} : Keep p H (upd H p o) := fun b x n e => by
  rw [upd_ne n]
  exact e
/-- a new thing behind draws is none that was -/
theorem Keep.free {p q : Addr} {H H' : Hp} (k : Keep p H H') (h : Pot H' p) (n : H' q = none) : H q = none := by
  cases e : H q with
  | none => rfl
  | some o =>
    by_cases z : q = p
    · subst z
      obtain ⟨_, _, f, _⟩ := h
      rw [f] at n
      cases n
    · rw [k q o z e] at n
      cases n
/-! ### things whose kind is known -/
inductive Kd (H : Hp) : V → Prop where
  | non : Kd H .non
  | bl (b : Bool) : Kd H (.bl b)
  | int (i : Int) : Kd H (.int i)
  | str (x : Str) : Kd H (.str x)
  | lst {a : Addr} {xs : List V} : H a = some (.lst xs) → Kd H (.ref a)
  | tup {a : Addr} {xs : List V} : H a = some (.tup xs) → (∀ x ∈ xs, Kd H x) → Kd H (.ref a)
  | dK {a : Addr} {kvs : List (Key × V)} : H a = some (.dK kvs) → Kd H (.ref a)
theorem Kd.same {H H' : Hp} {x : V} (k : Kd H x) (s : Same H H') : Kd H' x := by
  induction k with
  | non => exact .non
  | bl b => exact .bl b
  | int i => exact .int i
  | str x => exact .str x
  | lst e => exact .lst (s _ _ e)
  | tup e _ ih => exact .tup (s _ _ e) ih
  | dK e => exact .dK (s _ _ e)
def tyN (H : Hp) : V → String
  | .non => "NoneType"
  | .bl _ => "bool"
  | .int _ => "int"
  | .str _ => "str"
  | .ref a => match H a with
    | some (.lst _) => "list"
    | some (.tup _) => "tuple"
    | _ => "dict"
  | _ => "dict"
theorem tyN_lst {H : Hp} {a : Addr} {xs : List V} (e : H a = some (.lst xs)) : tyN H (.ref a) = "list" := by simp only [tyN, e]
theorem tyN_tup {H : Hp} {a : Addr} {xs : List V} (e : H a = some (.tup xs)) : tyN H (.ref a) = "tuple" := by simp only [tyN, e]
theorem tyN_dK {H : Hp} {a : Addr} {kvs : List (Key × V)} (e : H a = some (.dK kvs)) : tyN H (.ref a) = "dict" := by simp only [tyN, e]
theorem Kd.ty {K : PySem.W.Frag} {H : Hp} {x : V} (k : Kd H x) : TyX K H x (.type (tyN H x)) := by
  cases k with
  | non => exact .base .non
  | bl b => exact .base (.bl b)
  | int i => exact .base (.int i)
  | str z => exact .base (.str z)
  | lst e =>
    rw [tyN_lst e]
    exact .base (.lst e)
  | tup e _ =>
    rw [tyN_tup e]
    exact .base (.tup e)
  | dK e =>
    rw [tyN_dK e]
    exact .base (.dK e)
theorem Kd.tyN_mem {H : Hp} {x : V} (k : Kd H x) : tyN H x ∈ ["NoneType", "bool", "int", "str", "list", "tuple", "dict"] := by
  cases k with
  | non => exact .head _
  | bl b => exact .tail _ (.head _)
  | int i => exact .tail _ (.tail _ (.head _))
  | str z => exact .tail _ (.tail _ (.tail _ (.head _)))
  | lst e =>
    rw [tyN_lst e]
    decide
  | tup e _ =>
    rw [tyN_tup e]
    decide
  | dK e =>
    rw [tyN_dK e]
    decide
def sub (t n : String) : Bool := t == n || (t == "bool" && n == "int")
theorem kit7 {t n : String} (ht : t ∈ ["NoneType", "bool", "int", "str", "list", "tuple", "dict"]) (hn : n ∈ ["bool", "int", "str", "tuple", "list", "dict"]) : kitB t n = some (sub t n) := by
  simp only [List.mem_cons, List.not_mem_nil, or_false] at ht hn
  rcases ht with rfl | rfl | rfl | rfl | rfl | rfl | rfl <;> rcases hn with rfl | rfl | rfl | rfl | rfl | rfl <;> decide +kernel
/-- isinstance(x, n) of such a thing -/
theorem isi {K : PySem.W.Frag} {H : Hp} {x : V} {n : String} {Q : VK} (k : Kd H x) (hn : n ∈ ["bool", "int", "str", "tuple", "list", "dict"]) (q : Q (.bl (sub (tyN H x) n)) H) : rIsi K [x, .ty n] H Q :=
  ⟨x, .ty n, _, _, _, rfl, .ty n, k.ty, kit_ty (kit7 k.tyN_mem hn), q⟩
/-- whether it is a fraction -/
def frB (H : Hp) : V → Bool
  | .ref a => match H a with
    | some (.tup [.int i, .int j]) => isFr i j
    | _ => false
  | _ => false
end G
set_option Elab.async false
set_option linter.all false
set_option maxRecDepth 100000
set_option maxHeartbeats 1000000
/-! repr of data, where no repr is under way: a def's promise for such arounds alone, and a law's end by it -/
namespace G
open PySem PySem.Spec PyProof.Rows L2
theorem cr_repr {X : Cx} (hg : X.A.guards = some []) (hu : X.A.units + 64 < cLine) : CallR X (.builtin "repr") (fun xs H Q => ∃ (a : Addr) (d : PyData), xs = [.ref a] ∧ Dp X.K H (.ref a) d ∧ d.showable = true ∧ d.hasDict = false ∧ d.depth ≤ 50 ∧ d.shown.length ≤ sizeLine ∧ Q (.str d.shown) H) := by
  intro pins s σ H xs us Q I r h
  obtain ⟨a, d, rfl, hd, hs, hn, hdp, hz, q⟩ := h
  obtain ⟨u, rfl, ru⟩ := vals1 r
  cases ru
  obtain ⟨as, rd⟩ := Dp.reads I d (.ref a) (.ref a) hd rfl
  exact repr_of_reads' rd hs (fun z => by rw [hn] at z; cases z) hg (by omega) (fun _ _ e => e) (fun h' u tk hk => ⟨.str d.shown, H, I.kept (t' := tk) hk, ⟨u, rfl⟩, q⟩) hz
structure FnG (P : Program) (w : World) (K : PySem.W.Frag) (mg : Str → Option Value) (base : Heap) (k : Nat) (f : Addr) (fd : FuncData) (ps : List Str) (sp : Sp) : Prop where
  run : ∀ (A : Around) (outer : List Env) (s : Shared) (H : Hp) (args : Args) (us : List Value) (vs : List V) (Q : VK) (E : XK), A.guards = some [] → Room k A → Env0 P w K mg base A outer s H → BindsTo s fd args (ps.zip us) → Vals vs us → sp vs H Q E →
    codeAny (model P w) A (.call (.ref f) args) (CR CX0 outer P w H s Q E) s
theorem Fun.okG {P : Program} {w : World} {K : PySem.W.Frag} {mg : Str → Option Value} {base : Heap} {x qual : Str} {st : Stmt} {f : Addr} {fd : FuncData} {N ps : List Str} {k : Nat} {sp : Sp} (F : L2.Fun K x qual st f fd) (S : FnScope N ps (defScope st)) (len : ∀ vs H Q E, sp vs H Q E → vs.length = ps.length)
    (hbody : ∀ (cdv : Value) (A : Around) (outer : List Env) (s : Shared) (H : Hp) (vs : List V) (Q : VK) (E : XK), (A.deeper (envOfC qual (defScope st) s.heap.objs.size f cdv)).guards = some [] → Room k (A.deeper (envOfC qual (defScope st) s.heap.objs.size f cdv)) → sp vs H Q E →
      ∃ t, PSs (cxOf CX0 P w K mg base N qual (defScope st) f cdv A outer s H E).nox (defBody st) t ∧ t { nx := fun _ H' => Q .non H', rt := Q } (start N vs) H) : FnG P w K mg base (k + 1) f fd ps sp := by
  obtain ⟨c0, d0, k0, dc, pm, an, cdv, ct, sl, rfl, lk, hcd⟩ := F.ex
  refine ⟨fun A outer s H args us vs Q E gA hr e0 hb r hsp => ?_⟩
  have kin : K.In s.heap := e0.mod.kin.keeps fun b o e => (e0.bs b o e).1
  have lim : s.heap.NoLimit := e0.mod.nolimit.keeps fun b o e => (e0.bs b o e).1
  have kinds : ∀ y ∈ ps.zip us, (defScope st).names.lookup y.1 = some .local ∨ ((defScope st).names.lookup y.1 = some .cell ∧ ((cellsFrom (s.heap.objs.size + 1) (defScope st).names []).lookup y.1).isSome = true) := fun ⟨n, v⟩ hy =>
    (S.par n (List.of_mem_zip hy).1).elim .inl fun q => .inr ⟨q, PySem.W.cellsFrom_some _ _ _ (.inl q)⟩
  refine codeAny_call_function hr.depth (kin _ _ lk) rfl S.co S.gen rfl (PySem.W.codeRec_of kin hcd) (hb _ _ _ _ (wpAny_newFunctionEnv_cells S.kind kinds fun env he s1 x => ?_))
  subst he
  obtain ⟨t, ht, hq⟩ := hbody cdv A outer s H vs Q E gA (hr.deeper _) hsp
  have I : Inv (cxOf CX0 P w K mg base N qual (defScope st) f cdv A outer s H E) [] (start N vs) H s1 := inv_start S hr.hd e0 (len _ _ _ _ hsp) r x
  refine ⟨lim.keeps x.toInCall.keep, codeAny_func (wpAny_mono (ht.nox.run [] s1 (start N vs) H _ I hq) (fun fl s' hs => ?_) fun e s' hs => hs)⟩
  cases fl with
  | brk => exact hs.elim fun _ hs => hs.elim fun _ hs => hs.2.elim
  | cont => exact hs.elim fun _ hs => hs.elim fun _ hs => hs.2.elim
  | ret u =>
    obtain ⟨v, σ', H', J, rv, q⟩ := hs
    exact ⟨v, H', J.os, J.bare, J.base, J.hok, rv, q⟩
  | next =>
    obtain ⟨σ', H', J, q⟩ := hs
    exact ⟨.non, H', J.os, J.bare, J.base, J.hok, rfl, q⟩
theorem law_callG {P : Program} {w : World} {K : PySem.W.Frag} {mg mb : Str → Option Value} {k : Nat} {fa a : Addr} {fd : FuncData} {x : Str} {sp : Sp} {s₁ : Shared} {vs : List Value} {ns : List Int}
    (kin : K.In s₁.heap) (hns : s₁.heap.Ns mainGlobals mg) (hb : s₁.heap.Ns builtinsNs mb) (hbb : ∀ x : Str, x ≠ "__name__" → mb x = bootBuiltins x) (hlim : s₁.heap.NoLimit) (hg : s₁.gens = #[]) (ha : s₁.heap.get? a = some { cls := .type "list", data := .seq vs.toArray }) (hi : IntsAre vs ns) (hl : ns.length ≤ sizeLine) (hr : Room k callerA)
    (F : ∀ base : Heap, K.In base → base.Ns mainGlobals mg → FnG P w K mg base k fa fd [x] sp) (hbind : ∀ (s : Shared) (u : Value), BindsTo s fd ⟨[u], []⟩ [(x, u)]) (hsp : ∀ H : Hp, Only H → SqL K H a (ns.map V.int) → sp [.ref a] H (fun v _ => v = .bl true) fun _ _ _ => False) :
    codeAny (model P w) callerA (.call (.ref fa) ⟨[.ref a], []⟩) (fun r s' => r = .ok (.ret (.bool true)) ∧ OldK s₁.heap s'.heap ∧ s'.os = s₁.os ∧ AllBare s'.gens) s₁ := by
  have rv := vals_ints hi
  have lv := hi.length
  suffices core : ∀ H : Hp, Only H → SqL K H a (ns.map V.int) → HOk P w H s₁.heap → (∀ b, H b ≠ none → b = a) → (H a ≠ none → K.lookup a = none) → codeAny (model P w) callerA (.call (.ref fa) ⟨[.ref a], []⟩) (fun r s' => r = .ok (.ret (.bool true)) ∧ OldK s₁.heap s'.heap ∧ s'.os = s₁.os ∧ AllBare s'.gens) s₁ by
    cases hk : K.lookup a with
    | some o =>
      have e := kin a o hk
      rw [ha] at e
      cases e
      refine core (fun _ => none) (fun _ => .inl rfl) (.inr ⟨_, vs.toArray, _, hk, rfl, rfl, rfl, ?_, by simpa using rv⟩) (fun b u z => by cases (show (none : Option HO) = some u from z)) (fun b z => (z rfl).elim) fun z => (z rfl).elim
      rw [List.size_toArray, lv]
      exact hl
    | none =>
      have at1 : ∀ b, b = a → (if b = a then some (HO.frz { cls := .type "list", data := .seq vs.toArray } (.lst (ns.map V.int))) else none) = some (HO.frz { cls := .type "list", data := .seq vs.toArray } (.lst (ns.map V.int))) := fun b z => if_pos z
      have at0 : ∀ b, b ≠ a → (if b = a then some (HO.frz { cls := .type "list", data := .seq vs.toArray } (.lst (ns.map V.int))) else none) = none := fun b z => if_neg z
      refine core (fun b => if b = a then some (.frz { cls := .type "list", data := .seq vs.toArray } (.lst (ns.map V.int))) else none) (fun b => ?_) (.inl (.inr ⟨_, at1 a rfl⟩)) (fun b u z => ?_) (fun b z => ?_) fun _ => hk
      · by_cases q : b = a
        · exact .inr ⟨_, _, at1 b q⟩
        · exact .inl (at0 b q)
      · by_cases q : b = a
        · cases (at1 b q).symm.trans z
          subst q
          exact ⟨ha, by rw [List.length_map]; exact hl, vs, _, rv, ha⟩
        · cases (at0 b q).symm.trans z
      · by_cases q : b = a
        · exact q
        · exact absurd (at0 b q) z
  intro H hO hS hok hA hK
  have below : ∀ {b : Addr} {o : Obj}, s₁.heap.get? b = some o → H b = none → (hidT s₁.heap H).get? b = some o := fun e n => hidT_get e n
  have isA : ∀ {b : Addr} {u : HO}, H b = some u → b = a := fun {b u} q => hA b (by rw [q]; simp)
  have dicts : ∀ {b : Addr} {o : Obj} {es : Array DictEntry} {ep : Nat}, s₁.heap.get? b = some o → o.data = .dict es ep → H b = none := fun {b o es ep} e d => by
    cases q : H b with
    | none => rfl
    | some u =>
      have z := isA q
      subst z
      rw [ha] at e
      cases e
      cases (show Data.seq vs.toArray _ = Data.dict es ep from d)
  have spaces : ∀ {b : Addr} {m : Str → Option Value}, s₁.heap.Ns b m → (hidT s₁.heap H).Ns b m := fun {b m} ⟨o, es, ep, e, d, r⟩ => ⟨o, es, ep, below e (dicts e d), d, r⟩
  have kinB : K.In (hidT s₁.heap H) := fun b o e => below (kin b o e) (by
    cases q : H b with
    | none => rfl
    | some u =>
      have z := isA q
      subst z
      rw [hK (by rw [q]; simp)] at e
      cases e)
  have md : Mod K mg (hidT s₁.heap H) := ⟨kinB, spaces hns, ⟨mb, spaces hb, hbb⟩, let ⟨mc, h1, h2⟩ := hlim; ⟨mc, spaces h1, h2⟩⟩
  have ev : Env0 P w K mg (hidT s₁.heap H) callerA [] s₁ H := ⟨rfl, md, fun b o e => of_hidT e, Nat.le_of_eq (hidT_size _ _), trivial, fun b hb => (by cases (show b ∈ ([] : List Addr) from hb)), hok, .of_eq hg⟩
  refine codeAny_mono ((F _ kinB (spaces hns)).run callerA [] s₁ H ⟨[.ref a], []⟩ [.ref a] [.ref a] _ _ rfl hr ev (hbind s₁ (.ref a)) (.cons rfl .nil) (hsp H hO hS)) fun r s' h => ?_
  cases r with
  | error e => exact h.elim
  | ok fl =>
    cases fl with
    | ret u =>
      obtain ⟨v, H', os, bare, un, hok', r', q⟩ := h
      cases (show v = .bl true from q)
      cases (show u = Value.bool true from r')
      refine ⟨rfl, OldK.of_keep fun b o e => ?_, os, bare⟩
      rcases hO b with z | ⟨ob, xs, z⟩
      · exact un.keep b o e z (fun y => by cases (show b ∈ ([] : List Addr) from y)) (by simp)
      · obtain ⟨e1, _⟩ := hok b _ z
        obtain ⟨e2, _⟩ := hok' b _ (un.frzs b ob _ z)
        rw [e] at e1
        cases e1
        exact e2
    | _ => exact h.elim
theorem walk_ofG {l : PySem.W.OpenLaw} {n k : Nat} {q : Program} {loose : List Str} {XP : (Str → Option Value) → Heap → Prop} {YP : World → Heap → Prop} {d : DefRec} {K : Params → PySem.W.Frag} {sp : World → Sp} {x : Str} (hn : l.most = some n) (hn2 : n ≤ sizeLine) (hdf : d.params.defaults = []) (hr : Room k callerA) (hY : ∀ (w : World) (h : Heap), YP w h → (K w.params).In h)
    (F : ∀ (w : World) (mg : Str → Option Value) (fa : Addr) (h : Heap), (K w.params).In h → h.Ns mainGlobals mg → mg d.name = some (.ref fa) → ∃ fd : FuncData, (∀ (s : Shared) (u : Value), BindsTo s fd ⟨[u], []⟩ [(x, u)]) ∧ ∀ base : Heap, (K w.params).In base → base.Ns mainGlobals mg → FnG l.prog w (K w.params) mg base k fa fd [x] (sp w))
    (hsp : ∀ (w : World) (H : Hp) (a : Addr) (ns : List Int), ns.length ≤ n → Only H → SqL (K w.params) H a (ns.map V.int) → sp w [.ref a] H (fun v _ => v = .bl true) fun _ _ _ => False) : PySem.W.WalkO q loose XP YP l.row.toRowW d [] (fun f vs => PySem.call f vs) := by
  refine Att.attach_call hn hdf fun w s₀ s₁ mg mb fa o pm cd doc a vs ns G Y ho hd hcd hmg hobj hints hlen hg => ?_
  have kin := hY w _ Y
  obtain ⟨fd, hb, hF⟩ := F w mg fa _ kin G.T.g hmg
  exact law_callG kin G.T.g G.T.b G.T.builtins G.T.nolimit hg hobj hints (Nat.le_trans hlen hn2) hr hF hb fun H hO hS => hsp w H a ns hlen hO hS
end G
set_option Elab.async false
set_option linter.all false
set_option maxRecDepth 100000
set_option maxHeartbeats 1000000
namespace G
open PySem PySem.Spec PyProof.Rows L2
/-! ### t[::-1], t a tuple of two -/
section
variable {prog : Program} {w : World} {A : Around} {E : Value → Shared → Prop} {s : Shared}
theorem rev_applied {sl : Addr} {vl vu vs : Value} {Q : Int × Int × Nat → Shared → Prop} (hs : s.heap.IsSliceOf sl vl vu vs) (pl : IsPart vl none) (pu : IsPart vu none) (pt : IsPart vs (some (-1))) (h : Q (1, -1, 2) s) : wpAny (model prog w) A (Builtin.Slice.sliceApplied (.ref sl) (pure (2 : Int))) Q E s := by
  obtain ⟨o, ho, _, hd⟩ := id hs
  unfold Builtin.Slice.sliceApplied Builtin.Slice.sliceFields
  refine wpAny_bind (wpAny_bind (wpAny_field ho hd (x := vl) rfl (wpAny_bind (wpAny_field ho hd (x := vu) rfl (wpAny_bind (wpAny_field ho hd (x := vs) rfl (wpAny_pure (wpAny_bind (HT.slicePart_ pt ?_)))))))))
  show wpAny _ _ (if ((-1 : Int) == 0) = true then _ else _) _ _ s
  rw [if_neg (by decide)]
  exact wpAny_bind (HT.slicePart_ pl (wpAny_bind (HT.slicePart_ pu (wpAny_bind (wpAny_pure (wpAny_pure h))))))
theorem getItem_rev2 {t sl : Addr} {x y vl vu vs : Value} {Q : Value → Shared → Prop} (ht : IsTup s.heap t #[x, y]) (hs : s.heap.IsSliceOf sl vl vu vs) (pl : IsPart vl none) (pu : IsPart vu none) (pt : IsPart vs (some (-1)))
    (h : Q (.ref s.heap.objs.size) { s with heap := s.heap.push { cls := .type "tuple", data := .seq #[y, x] } }) : wpAny (model prog w) A (getItem (.ref t) (.ref sl)) Q E s := by
  have fit : sizeOk (.seq #[y, x]) := by show 2 ≤ sizeLine; decide
  obtain ⟨o, ho, hc, hd⟩ := id hs
  have hT : s.TypeIs (.ref sl) "slice" := ⟨o, ho, hc⟩
  unfold getItem
  first | (with_reducible refine wpAny_holding ?_) | skip
  first | refine wpAny_bind (wpAny_pure ?_) | skip
  refine wpAny_bind (wpAny_sequenceKey ht.typeIs (by decide) (wpAny_bind (wpAny_callSpecial?_slot (name := Str.ofString "__getitem__") ht.typeIs PyProof.Rows.slot_tuple_getitem (wpAny_call_entry PyProof.Rows.slot_tuple_getitem ht.typeIs entry_tuple_getitem ?_ (args_tuple_getitem _ _)))))
  show wpAny _ _ (Builtin.Tuple.tupleItemsOf (.ref t) >>= _) _ _ s
  refine wpAny_bind (tupleItemsOf_ ht (wpAny_bind (wpAny_typeOf hT ?_)))
  rw [if_pos (by decide)]
  refine wpAny_bind (rev_applied hs pl pu pt ?_)
  show wpAny _ _ (if ((1 : Int) == 0 && (-1 : Int) == 1 && (2 : Nat) == 2) = true then _ else _) _ _ s
  rw [if_neg (by decide)]
  first
    | exact wpAny_bind (m := Builtin.Tuple.tupleExact #[y, x]) (wpAny_newObj_type (wpAny_pure ⟨_, rfl, wpAny_pure h⟩) fit)
    | exact wpAny_bind (m := Builtin.Tuple.tupleExact #[y, x]) (wpAny_newObj_type (wpAny_bind (wpAny_pure (wpAny_pure ⟨_, rfl, wpAny_pure h⟩))) fit)
    | exact wpAny_bind (wpAny_bind (m := Builtin.Tuple.tupleExact #[y, x]) (wpAny_newObj_type (wpAny_pure (wpAny_pure ⟨_, rfl, wpAny_pure h⟩)) fit))
    | exact wpAny_bind (wpAny_bind (m := Builtin.Tuple.tupleExact #[y, x]) (wpAny_newObj_type (wpAny_pure ⟨_, rfl, wpAny_pure h⟩) fit))
end
def tRevT (K : PySem.W.Frag) (te : TE) : TE := fun σ H Q => te σ H fun x H1 => ∃ a u v, x = .ref a ∧ SqT K H1 a [u, v] ∧ ∀ p, H1 p = none → Q (.ref p) (upd H1 p (.tup [v, u]))
theorem pe_revT {X : Cx} {e : Expr} {te : TE} {k : Nat} {p1 p2 p3 pos : Pos} (he : PE X e te) : PE X (.Subscript e (.Slice none none (some (.UnaryOp .USub (.Constant (.int 1) k p1) p2)) p3) pos) (tRevT X.K te) := by
  refine ⟨fun pins s σ H Q I h => Subscript_ (thn (he.run pins s σ H _ I h) fun v s1 ⟨x, H1, I1, r1, q1⟩ => ?_)⟩
  obtain ⟨a, y, z, rfl, hx, q⟩ := q1
  cases r1
  have ht : PO X (some (.UnaryOp .USub (.Constant (.int 1) k p1) p2)) (tPart (tUn (rU fun i => .int (-i)) (tC (.int 1)))) := po_some (pe_un un_neg pe_int)
  refine wpAny_Slice (thn (po_none.run pins s1 σ H1 (fun o H2 => o = none ∧ H2 = H1) I1 ⟨rfl, rfl⟩) fun vl s2 ⟨l, H2, I2, pl, el, e2⟩ => ?_)
  subst el e2
  refine thn (po_none.run pins s2 σ H2 (fun o H3 => o = none ∧ H3 = H2) I2 ⟨rfl, rfl⟩) fun vu s3 ⟨u, H3, I3, pu, eu, e3⟩ => ?_
  subst eu e3
  refine thn (ht.run pins s3 σ H3 (fun o H4 => o = some (-1) ∧ H4 = H3) I3 ⟨1, rfl, -1, rfl, rfl, rfl⟩) fun vs s4 ⟨o, H4, I4, pt, eo, e4⟩ => ?_
  subst eo e4
  have J : Inv X pins σ H4 { s4 with heap := s4.heap.push { cls := .type "slice", data := .fields #[vl, vu, vs] } } := I4.kept (t' := s4.toks) fun b ob e => Heap.get?_push_of_some _ e
  obtain ⟨its, r, hT, hz⟩ := J.tuple hx
  cases r with
  | cons ra r =>
    cases r with
    | cons rb r =>
      cases r
      show wpAny (model X.prog X.w) X.A (subscriptTail e (.Slice none none (some (.UnaryOp .USub (.Constant (.int 1) k p1) p2)) p3) (.ref a) (.ref s4.heap.objs.size)) _ _ _
      refine tail_any (ops := [.ref a, .ref s4.heap.objs.size]) hT.typeIs PyProof.Rows.slot_tuple_getitem.lookup (getItem_rev2 hT (Heap.IsSliceOf.new _ vl vu vs) pl pu pt ?_) (by with_unfolding_all rfl)
      refine ⟨.ref _, _, J.laid (t' := s4.toks) (o := .tup [z, y]) (fun b ob e => Heap.get?_push_of_some _ e) (Nat.le_refl _) ?_, rfl, q _ (J.hok.fresh (Nat.le_refl _))⟩
      exact ⟨by show 2 ≤ sizeLine; decide, _, .cons rb (.cons ra .nil), IsTup.new _ _⟩
end G
set_option Elab.async false
set_option linter.all false
set_option maxRecDepth 100000
set_option maxHeartbeats 1000000
namespace G
open PySem PySem.Spec PyProof.Rows L2 TL
theorem ifF {b : Bool} {A B : Prop} (hb : b = false) (h : B) : if b = true then A else B := by
  subst hb
  exact iteF h
theorem ifT {b : Bool} {A B : Prop} (hb : b = true) (h : A) : if b = true then A else B := by
  subst hb
  exact iteT h
theorem same_keep_new {H H1 H2 : Hp} {p : Addr} (s : Same H H1) (n : H p = none) (k : Keep p H1 H2) : Same H H2 := fun b o e => k b o (ne_of_none e n) (s b o e)
def topS (i : Nat) : Stmt := PySem.Challenge.pw_stufflists_k21_rows_written.main.body.getD i (.Pass ⟨0, 0, 0, 0⟩)
section
variable {P : Program} {w : World} {K : PySem.W.Frag} {mg : Str → Option Value} {base : Heap}
abbrev sMeas : Stmt := topS 8
theorem scMeas : FnScope ["one", "other"] ["one", "other"] (defScope sMeas) := ⟨rfl, rfl, rfl, by decide +kernel, rfl, by decide +kernel, by decide +kernel⟩
def spMeas : Sp := fun vs H Q _ => ∃ a b : Int, vs = [.int a, .int b] ∧ 0 ≤ a ∧ 0 ≤ b ∧ Q (.int (gc a b)) H
theorem ok_meas {f : Addr} {fd : FuncData} (F : Fun K "common_measure" "common_measure" sMeas f fd) : FnOk P w K mg base CX0 1 f fd ["one", "other"] spMeas := by
  refine F.ok scMeas (fun vs H Q E h => ?_) (fun cdv A outer s H vs Q E hr h => ?_)
  · obtain ⟨a, b, rfl, _⟩ := h
    rfl
  · obtain ⟨a, b, rfl, ha, hb, q⟩ := h
    refine ⟨_, pss_cons (ps_while PassesOwn.never (pt_cmpR op_gt (pv 1) pe_int (nomark _))
        (pss_one (ps_par (i := 0) (j := 1) (by rfl) scMeas.nd rfl rfl (by decide) rfl rfl (pa_cons (pv 1) (pa_cons (pe_op op_mod (pv 0) (pv 1)) pa_nil)) (by rfl))))
      (pss_one (ps_ret (pv 0))), ?_⟩
    refine ⟨fun m σ H' => ∃ x y : Int, σ = [some (.int x), some (.int y)] ∧ 0 ≤ x ∧ 0 ≤ y ∧ gc x y = gc a b ∧ m = y.toNat ∧ H' = H, ⟨_, a, b, rfl, ha, hb, rfl, rfl, rfl⟩, ?_⟩
    rintro m σ H' ⟨x, y, rfl, hx, hy, hg, rfl, rfl⟩
    refine ⟨_, rfl, y, 0, rfl, rfl, _, rfl, ite2 (fun e => ?_) (fun e => ?_)⟩
    · have e0 : 0 < y := of_decide_eq_true e
      refine ⟨fun σ' H2 => ∃ x' y' : Int, σ' = [some (.int x'), some (.int y')] ∧ 0 ≤ x' ∧ 0 ≤ y' ∧ gc x' y' = gc a b ∧ y' < y ∧ H2 = H', fun σ' H2 hN => ?_, ?_⟩
      · obtain ⟨x', y', h1, h2, h3, h4, h5, h6⟩ := hN
        exact ⟨_, by omega, x', y', h1, h2, h3, h4, rfl, h6⟩
      · refine ⟨_, rfl, _, rfl, _, rfl, x, y, rfl, rfl, e0, _, _, rfl, y, x % y, rfl, hy, Int.emod_nonneg _ (by omega), (gc_step hx e0).trans hg, Int.emod_lt_of_pos _ e0, rfl⟩
    · have e0 : ¬ 0 < y := fun z => e (decide_eq_true z)
      have e1 : y = 0 := by omega
      subst e1
      refine ⟨_, rfl, ?_⟩
      have : (x : Int) = (gc a b : Int) := by
        rw [← hg]
        unfold gc
        rw [Int.natAbs_zero, Nat.gcd_zero_right]
        omega
      rw [this]
      exact q
theorem abs_nn (a : Int) : 0 ≤ (if a < 0 then -a else a) := by split <;> omega
theorem gc_abs (a b : Int) : gc (if a < 0 then -a else a) (if b < 0 then -b else b) = gc a b := by
  unfold gc
  have h : ∀ x : Int, (if x < 0 then -x else x).natAbs = x.natAbs := fun x => by split <;> omega
  rw [h, h]
theorem gc_lt {a b : Int} {n : Nat} (h : b ≠ 0) (hb : b.natAbs < n) : gc a b < n := Nat.lt_of_le_of_lt (Nat.le_of_dvd (by omega) (Nat.gcd_dvd_right _ _)) hb
def spFrac : Sp := fun vs H Q _ => ∃ a b : Int, vs = [.int a, .int b] ∧ b ≠ 0 ∧ b.natAbs < 2 ^ 8000 ∧ ∀ p, H p = none → Q (.ref p) (upd H p (.tup [.int (low1 a b), .int (low2 a b)]))
/-! ### is_whole -/
abbrev sWhole : Stmt := topS 7
theorem scWhole : FnScope ["thing"] ["thing"] (defScope sWhole) := ⟨rfl, rfl, rfl, by decide +kernel, rfl, by decide +kernel, by decide +kernel⟩
def isW : V → Bool
  | .int _ => true
  | _ => false
def spWhole : Sp := fun vs H Q _ => ∃ x : V, vs = [x] ∧ Kd H x ∧ Q (.bl (isW x)) H
theorem ok_whole {f : Addr} {fd : FuncData} (F : Fun K "is_whole" "is_whole" sWhole f fd) (mI : mg "isinstance" = none) (mInt : mg "int" = none) (mB : mg "bool" = none) : FnOk P w K mg base CX0 1 f fd ["thing"] spWhole := by
  refine F.ok scWhole (fun vs H Q E h => ?_) (fun cdv A outer s H vs Q E hr h => ?_)
  · obtain ⟨x, rfl, _⟩ := h
    rfl
  · obtain ⟨x, rfl, k, q⟩ := h
    refine ⟨_, pss_one (ps_ret (pe_and (pe_callB call_isi (by rfl) mI (by decide +kernel) (pa_cons (pv 0) (pa_cons (pe_bltn (v := .ty "int") (by rfl) mInt (by decide +kernel) rfl) pa_nil)))
      (pe_one (pe_not (pe_callB call_isi (by rfl) mI (by decide +kernel) (pa_cons (pv 0) (pa_cons (pe_bltn (v := .ty "bool") (by rfl) mB (by decide +kernel) rfl) pa_nil))))))), ?_⟩
    refine ⟨x, rfl, x, .ty "int", _, _, _, rfl, .ty _, k.ty, kit_ty (kit7 k.tyN_mem (by decide)), _, rfl, ite2 (fun e => ?_) (fun e => ?_)⟩
    · refine ⟨x, rfl, x, .ty "bool", _, _, _, rfl, .ty _, k.ty, kit_ty (kit7 k.tyN_mem (by decide)), _, rfl, ?_⟩
      have : (!sub (tyN H x) "bool") = isW x := by
        cases k with
        | non => cases e
        | bl b => rfl
        | int i => rfl
        | str z => cases e
        | lst h =>
          rw [tyN_lst h] at e
          cases e
        | tup h _ =>
          rw [tyN_tup h] at e
          cases e
        | dK h =>
          rw [tyN_dK h] at e
          cases e
      rw [this]
      exact q
    · have : false = isW x := by
        cases k with
        | int i => exact absurd rfl e
        | _ => rfl
      rw [this]
      exact q
end
theorem Kd.cases_tup {H : Hp} {x : V} (k : Kd H x) : (∃ t, (∀ K, TyX K H x (.type t)) ∧ kitB t "tuple" = some false ∧ frB H x = false) ∨ (∃ a xs, x = .ref a ∧ H a = some (.tup xs) ∧ ∀ y ∈ xs, Kd H y) := by
  cases k with
  | non => exact .inl ⟨_, fun K => .base .non, by decide +kernel, rfl⟩
  | bl b => exact .inl ⟨_, fun K => .base (.bl b), by decide +kernel, rfl⟩
  | int i => exact .inl ⟨_, fun K => .base (.int i), by decide +kernel, rfl⟩
  | str z => exact .inl ⟨_, fun K => .base (.str z), by decide +kernel, rfl⟩
  | lst e => exact .inl ⟨_, fun K => .base (.lst e), by decide +kernel, by simp only [frB, e]⟩
  | dK e => exact .inl ⟨_, fun K => .base (.dK e), by decide +kernel, by simp only [frB, e]⟩
  | tup e h => exact .inr ⟨_, _, rfl, e, h⟩
theorem two_of {xs : List V} (h : xs.length = 2) : ∃ u v, xs = [u, v] := by
  match xs, h with
  | [u, v], _ => exact ⟨u, v, rfl⟩
theorem frB_len {H : Hp} {a : Addr} {xs : List V} (e : H a = some (.tup xs)) (h : xs.length ≠ 2) : frB H (.ref a) = false := by
  simp only [frB, e]
  split
  · rename_i z
    injection z with z
    injection z with z
    subst z
    exact absurd rfl h
  · rfl
theorem frB_ints {H : Hp} {a : Addr} {i j : Int} (e : H a = some (.tup [.int i, .int j])) : frB H (.ref a) = isFr i j := by simp only [frB, e]
theorem frB_no {H : Hp} {a : Addr} {u v : V} (e : H a = some (.tup [u, v])) (h : isW u = false ∨ isW v = false) : frB H (.ref a) = false := by
  simp only [frB, e]
  split
  · rename_i z
    injection z with z
    injection z with z
    injection z with z1 z2
    injection z2 with z2 z3
    subst z1 z2
    rcases h with h | h <;> cases h
  · rfl
theorem isW_int {u : V} (h : isW u = true) : ∃ i, u = .int i := by
  cases u with
  | int i => exact ⟨i, rfl⟩
  | _ => cases h
section
variable {P : Program} {w : World} {K : PySem.W.Frag} {mg : Str → Option Value} {base : Heap}
/-! ### is_fraction -/
abbrev sIsF : Stmt := topS 10
theorem scIsF : FnScope ["thing", "top", "bottom"] ["thing"] (defScope sIsF) := ⟨rfl, rfl, rfl, by decide +kernel, rfl, by decide +kernel, by decide +kernel⟩
def spIsF : Sp := fun vs H Q _ => ∃ x : V, vs = [x] ∧ Kd H x ∧ Q (.bl (frB H x)) H
theorem ok_isF {f fM fW : Addr} {fd fdM fdW : FuncData} (F : Fun K "is_fraction" "is_fraction" sIsF f fd) (FM : Fun K "common_measure" "common_measure" sMeas fM fdM) (bM : Binds K fdM ["one", "other"] []) (gM : mg "common_measure" = some (.ref fM))
    (FW : Fun K "is_whole" "is_whole" sWhole fW fdW) (bW : Binds K fdW ["thing"] []) (gW : mg "is_whole" = some (.ref fW))
    (mA : mg "abs" = none) (mI : mg "isinstance" = none) (mInt : mg "int" = none) (mB : mg "bool" = none) (mT : mg "tuple" = none) (mL : mg "len" = none) :
    FnOk P w K mg base CX0 2 f fd ["thing"] spIsF := by
  have GM : FnOk P w K mg base CX0 1 fM fdM ["one", "other"] spMeas := ok_meas FM
  have GW : FnOk P w K mg base CX0 1 fW fdW ["thing"] spWhole := ok_whole FW mI mInt mB
  refine F.ok scIsF (fun vs H Q E h => ?_) (fun cdv A outer s H vs Q E hr h => ?_)
  · obtain ⟨x, rfl, _⟩ := h
    rfl
  · obtain ⟨x, rfl, k, q⟩ := h
    refine ⟨_, pss_cons (ps_if (PW.pt (pw_or (pt_not (pt_val (pe_callB call_isi (by rfl) mI (by decide +kernel) (pa_cons (pv 0) (pa_cons (pe_bltn (v := .ty "tuple") (by rfl) mT (by decide +kernel) rfl) pa_nil)))))
          (pw_or1 (pt_cmpR op_ne (pe_callB call_len_seq (by rfl) mL PySem.boot_len (pa_cons (pv 0) pa_nil)) pe_int (nomark _))))) (pss_one (ps_ret pe_bl)) pss_nil)
      (pss_cons (ps_asg (pv 0) (pg_tup (by rfl) (pgs_cons (pg_name (i := 1) scIsF.nd rfl (.inl rfl)) (pgs_cons (pg_name (i := 2) scIsF.nd rfl (.inl rfl)) pgs_nil))))
      (pss_cons (ps_if (PW.pt (pw_or (pt_not (pt_val (pe_call GW hr (by rfl) gW FW.kp bW .nil pass0 (pa_cons (pv 1) pa_nil)))) (pw_or (pt_not (pt_val (pe_call GW hr (by rfl) gW FW.kp bW .nil pass0 (pa_cons (pv 2) pa_nil)))) (pw_or1 (pt_cmpR op_le (pv 2) pe_int (nomark _))))))
        (pss_one (ps_ret pe_bl)) pss_nil)
      (pss_one (ps_ret (pe_cmpR op_eq (pe_call GM hr (by rfl) gM FM.kp bM .nil pass0 (pa_cons (pe_callB call_abs (by rfl) mA (by decide +kernel) (pa_cons (pv 1) pa_nil)) (pa_cons (pv 2) pa_nil))) pe_int (nomark _)))))), ?_⟩
    rcases k.cases_tup with ⟨t, ty, kt, ef⟩ | ⟨a, xs, rfl, e, hk⟩
    · rw [ef] at q
      exact ⟨x, rfl, x, .ty "tuple", _, _, _, rfl, .ty _, ty K, kit_ty kt, _, rfl, iteT (iteT q)⟩
    · refine ⟨.ref a, rfl, _, .ty "tuple", _, _, _, rfl, .ty _, .base (.tup e), kit_ty (b := "tuple") (r := true) (by decide +kernel), _, rfl, iteF ?_⟩
      refine ⟨.ref a, rfl, a, xs, rfl, .inr (SqT.of e), rfl, _, rfl, ?_⟩
      by_cases hl : xs.length = 2
      · obtain ⟨u, v, rfl⟩ := two_of hl
        refine iteF ?_
        refine ⟨.ref a, rfl, a, [u, v], rfl, SqT.of e, rfl, u, [v], rfl, v, [], rfl, rfl, ?_⟩
        have ku : Kd H u := hk u (.head _)
        have kv : Kd H v := hk v (.tail _ (.head _))
        refine ⟨u, rfl, u, rfl, ku, _, rfl, ?_⟩
        cases wu : isW u with
        | false =>
          rw [frB_no e (.inl wu)] at q
          exact iteT (iteT q)
        | true =>
          refine iteF ?_
          refine ⟨v, rfl, v, rfl, kv, _, rfl, ?_⟩
          cases wv : isW v with
          | false =>
            rw [frB_no e (.inr wv)] at q
            exact iteT (iteT q)
          | true =>
            refine iteF ?_
            obtain ⟨i, rfl⟩ := isW_int wu
            obtain ⟨j, rfl⟩ := isW_int wv
            rw [frB_ints e] at q
            refine ⟨_, rfl, j, 0, rfl, rfl, _, rfl, ite2 (fun z => ?_) (fun z => ?_)⟩
            · have z0 : j ≤ 0 := of_decide_eq_true z
              have : isFr i j = false := by
                unfold isFr
                rw [decide_eq_false (by omega)]
                rfl
              rw [this] at q
              exact q
            · have z0 : ¬ j ≤ 0 := fun y => z (decide_eq_true y)
              refine ⟨_, rfl, i, rfl, _, rfl, _, _, rfl, abs_nn i, by omega, rfl, ?_⟩
              have : gc (if i < 0 then -i else i) j = gc i j := by
                have h2 := gc_abs i j
                rw [if_neg (show ¬ j < 0 by omega)] at h2
                exact h2
              rw [this]
              have : decide (V.int (gc i j : Nat) = V.int 1) = isFr i j := by
                unfold isFr
                rw [decide_eq_true (show 0 < j by omega), Bool.true_and]
                refine decide_eq_decide.mpr ⟨fun y => ?_, fun y => ?_⟩
                · have := V.int.inj y
                  omega
                · rw [y]
                  rfl
              rw [this]
              exact q
      · rw [frB_len e hl] at q
        have : (!decide (V.int (xs.length : Int) = V.int 2)) = true := by
          rw [decide_eq_false (fun y => hl (by have := V.int.inj y; omega))]
          rfl
        rw [this]
        exact iteT q
end
theorem ten7 : ((10 : Int) ^ (7 : Int).toNat) = 10000000 := by decide +kernel
theorem ten18 : ((10 : Int) ^ (18 : Int).toNat) = 1000000000000000000 := by decide +kernel
theorem ten20 : ((10 : Int) ^ (20 : Int).toNat) = 100000000000000000000 := by decide +kernel
theorem eqv_two (a b c d : Int) : PyData.eqv (.tuple [.int a, .int b]) (.tuple [.int c, .int d]) = (a == c && b == d) := by
  simp [PyData.eqv, PyData.eqvAll]
theorem isFr_low {i j : Int} (hj : 0 < j) : (low1 i j == i && low2 i j == j) = isFr i j := by
  unfold isFr
  rw [decide_eq_true hj, Bool.true_and]
  by_cases h : gc i j = 1
  · obtain ⟨h1, h2⟩ := (low_self hj).mpr h
    rw [h1, h2, decide_eq_true h, beq_self_eq_true, beq_self_eq_true]
    rfl
  · rw [decide_eq_false h]
    refine Bool.eq_false_iff.mpr fun z => h ((low_self hj).mp ?_)
    rw [Bool.and_eq_true] at z
    exact ⟨eq_of_beq z.1, eq_of_beq z.2⟩
theorem same_app {H H' H2 : Hp} {D : Addr} {o : HO} (s : Same H H') (n : H D = none) (h : Same H' H2) : Same H (upd H2 D o) := fun b u e => by
  rw [upd_ne (ne_of_none e n)]
  exact h b u (s b u e)
def Bd (H : Hp) (x : V) : Prop := ∀ a i j, x = .ref a → H a = some (.tup [.int i, .int j]) → j.natAbs < 2 ^ 8000
theorem frB_same {H H' : Hp} {a : Addr} {xs : List V} (e : H a = some (.tup xs)) (s : Same H H') : frB H' (.ref a) = frB H (.ref a) := by
  simp only [frB, e, s _ _ e]
section
variable {P : Program} {w : World} {K : PySem.W.Frag} {mg : Str → Option Value} {base : Heap}

--SZ
end
/-! ### sizes, by powers of two -/
def Sz (n : Nat) (i : Int) : Prop := i.natAbs < 2 ^ n
theorem Sz.mul {a b : Nat} {i j : Int} (h : Sz a i) (g : Sz b j) : Sz (a + b) (i * j) := wide_lt h g
theorem Sz.mono {a b : Nat} {i : Int} (h : Sz a i) (g : a ≤ b) : Sz b i := Nat.lt_of_lt_of_le h (Nat.pow_le_pow_right (by decide) g)
theorem Sz.add {a : Nat} {i j : Int} (h : Sz a i) (g : Sz a j) : Sz (a + 1) (i + j) := by
  unfold Sz at *
  rw [Nat.pow_succ]
  omega
theorem Sz.sub {a : Nat} {i j : Int} (h : Sz a i) (g : Sz a j) : Sz (a + 1) (i - j) := by
  unfold Sz at *
  rw [Nat.pow_succ]
  omega
theorem Sz.cm {a b : Nat} {i j : Int} (h : Sz a i) (g : Sz b j) (h0 : 0 < a) (h1 : 0 < b) (hs : a + b ≤ 1000000) : CMulW i j := wide_mul h g h0 h1 hs
theorem Sz.of_le {a : Nat} {i : Int} {m : Nat} (h : i.natAbs ≤ m) (g : m < 2 ^ a) : Sz a i := Nat.lt_of_le_of_lt h g
/-- two parts of a fraction -/
structure Fr (n : Nat) (i j : Int) : Prop where
  a : Sz n i
  b : Sz n j
  p : 0 < j
theorem Fr.low {n : Nat} {i j : Int} (h1 : Sz n i) (h2 : Sz n j) (h0 : j ≠ 0) : Fr n (low1 i j) (low2 i j) := ⟨Nat.lt_of_le_of_lt (low1_le h0) h1, Nat.lt_of_le_of_lt (low2_le h0) h2, low2_pos h0⟩
theorem mul_ne {a b : Int} (h : 0 < a) (g : 0 < b) : a * b ≠ 0 := by
  have := Int.mul_pos h g
  omega
section
theorem pot_upd {H : Hp} {p t : Addr} {o : HO} (h : Pot H p) (n : H t = none) : Pot (upd H t o) p := h.same (same_upd n)
theorem three {d : Int} (h0 : 0 ≤ d) (h3 : d < 3) : d = 0 ∨ d = 1 ∨ d = 2 := by omega
theorem kd_two {H : Hp} {a : Addr} {i j : Int} (e : H a = some (.tup [.int i, .int j])) : Kd H (.ref a) := .tup e fun x hx => by
  rcases List.mem_cons.mp hx with rfl | hx
  · exact .int i
  · rcases List.mem_cons.mp hx with rfl | hx
    · exact .int j
    · cases hx
theorem bd_two {H : Hp} {a : Addr} {i j : Int} (e : H a = some (.tup [.int i, .int j])) (h : j.natAbs < 2 ^ 8000) : Bd H (.ref a) := fun a' i' j' ea e' => by
  cases ea
  rw [e] at e'
  injection e' with e'
  injection e' with e'
  injection e' with _ e'
  injection e' with e' _
  injection e' with e'
  rw [← e']
  exact h
theorem keep_new {p t : Addr} {H : Hp} {o u : HO} (n : H t = none) : Keep p H (upd (upd H t o) p u) := fun b x nb e => by
  rw [upd_ne nb, upd_ne (ne_of_none e n)]
  exact e
end
end G
set_option Elab.async false
set_option linter.all false
set_option maxRecDepth 100000
set_option maxHeartbeats 1000000
namespace G
open PySem PySem.Spec PyProof.Rows L2 TL
/-! ### names -/
def okC (c : Nat) : Bool := decide (97 ≤ c) && decide (c ≤ 122)
def nmB : V → Bool
  | .str z => decide (1 ≤ z.length) && decide (z.length ≤ 8) && z.cps.toList.all okC
  | _ => false
theorem one_lt (c d : Nat) : (([c] : List Nat) < [d]) ↔ c < d := by
  rw [List.cons_lt_cons_iff]
  exact ⟨fun h => h.elim id fun h => absurd h.2 (List.not_lt_nil _), .inl⟩
theorem a_tl : (Str.ofString "a").cps.toList = [97] := by decide +kernel
theorem z_tl : (Str.ofString "z").cps.toList = [122] := by decide +kernel
theorem abc_tl : (Str.ofString "abcdefghijklmnopqrstuvwxyz").cps.toList = [97, 98, 99, 100, 101, 102, 103, 104, 105, 106, 107, 108, 109, 110, 111, 112, 113, 114, 115, 116, 117, 118, 119, 120, 121, 122] := by decide +kernel
theorem abc_in (c : Nat) : decide (c ∈ (Str.ofString "abcdefghijklmnopqrstuvwxyz").cps.toList) = okC c := by
  rw [abc_tl]
  unfold okC
  rw [← Bool.decide_and]
  refine decide_eq_decide.mpr ?_
  simp only [List.mem_cons, List.not_mem_nil, or_false]
  omega
theorem le_a (c : Nat) : (!decide ((⟨#[c]⟩ : Str).cps.toList < (Str.ofString "a").cps.toList)) = decide (97 ≤ c) := by
  rw [a_tl]
  show (!decide ([c] < [97])) = _
  rw [decide_eq_decide.mpr (one_lt c 97), ← decide_not]
  exact decide_eq_decide.mpr (by omega)
theorem le_z (c : Nat) : (!decide ((Str.ofString "z").cps.toList < (⟨#[c]⟩ : Str).cps.toList)) = decide (c ≤ 122) := by
  rw [z_tl]
  show (!decide ([122] < [c])) = _
  rw [decide_eq_decide.mpr (one_lt 122 c), ← decide_not]
  exact decide_eq_decide.mpr (by omega)
theorem Kd.cases_str {H : Hp} {x : V} (k : Kd H x) : (∃ z, x = .str z) ∨ (∃ t, (∀ K, TyX K H x (.type t)) ∧ kitB t "str" = some false ∧ nmB x = false) := by
  cases k with
  | non => exact .inr ⟨_, fun K => .base .non, by decide +kernel, rfl⟩
  | bl b => exact .inr ⟨_, fun K => .base (.bl b), by decide +kernel, rfl⟩
  | int i => exact .inr ⟨_, fun K => .base (.int i), by decide +kernel, rfl⟩
  | str z => exact .inl ⟨z, rfl⟩
  | lst e => exact .inr ⟨_, fun K => .base (.lst e), by decide +kernel, rfl⟩
  | dK e => exact .inr ⟨_, fun K => .base (.dK e), by decide +kernel, rfl⟩
  | tup e h => exact .inr ⟨_, fun K => .base (.tup e), by decide +kernel, rfl⟩
theorem at_cps {z : Str} {i c : Nat} (h : z.cps[i]? = some c) : z.cps.toList[i]? = some c := by
  rw [Array.getElem?_toList]
  exact h
def Tx (x : V) : Prop := ∀ z, x = .str z → z.length ≤ 100000
def rLeS : R2 := fun x y H Q => ∃ i j, x = .str i ∧ y = .str j ∧ Q (.bl (!decide (j.cps.toList < i.cps.toList))) H
def rInS : R2 := fun x y H Q => ∃ (c : Nat) (z : Str), x = .str ⟨#[c]⟩ ∧ y = .str z ∧ Q (.bl (decide (c ∈ z.cps.toList))) H
def spNm : Sp := fun vs H Q _ => ∃ x : V, vs = [x] ∧ Kd H x ∧ Tx x ∧ ∀ H', Same H H' → Q (.bl (nmB x)) H'
theorem nm_short {z : Str} (h : ¬ (1 ≤ z.length ∧ z.length ≤ 8)) : nmB (.str z) = false := by
  show (decide (1 ≤ z.length) && decide (z.length ≤ 8) && z.cps.toList.all okC) = false
  rw [← Bool.decide_and, decide_eq_false h, Bool.false_and]
theorem nm_long {z : Str} (h1 : 1 ≤ z.length) (h2 : z.length ≤ 8) : nmB (.str z) = (z.cps.toList.map okC).all id := by
  show (decide (1 ≤ z.length) && decide (z.length ≤ 8) && z.cps.toList.all okC) = _
  rw [decide_eq_true h1, decide_eq_true h2, List.all_map]
  rfl
theorem take_one {z : Str} {i c : Nat} (h : z.cps[i]? = some c) : (z.cps.toList.take (i + 1)).map (fun c => V.bl (okC c)) = (z.cps.toList.take i).map (fun c => V.bl (okC c)) ++ [.bl (okC c)] := by
  rw [List.take_add_one, at_cps h, List.map_append]
  rfl
theorem take_all (z : Str) : (z.cps.toList.take z.cps.size).map (fun c => V.bl (okC c)) = (z.cps.toList.map okC).map V.bl := by
  rw [List.take_of_length_le (by rw [Array.length_toList]; exact Nat.le_refl _), List.map_map]
  rfl
theorem take_sz {z : Str} {i : Nat} (hz : z.length ≤ 100000) : ((z.cps.toList.take i).map (fun c => V.bl (okC c))).length < sizeLine := by
  rw [List.length_map, List.length_take]
  have : z.cps.toList.length = z.length := (len_tl z).symm
  exact Nat.lt_of_le_of_lt (Nat.le_trans (Nat.min_le_right _ _) (by rw [this]; exact hz)) (by decide)
section
variable {P : Program} {w : World} {K : PySem.W.Frag} {mg : Str → Option Value} {base : Heap}
abbrev sNm : Stmt := topS 25
abbrev nNm : List Str := ["thing", "sign"]
theorem scNm : FnScope nNm ["thing"] (defScope sNm) := ⟨rfl, rfl, rfl, by decide +kernel, rfl, by decide +kernel, by decide +kernel⟩
theorem ok_nm {f : Addr} {fd : FuncData} {tk : Tok} (F : Fun K "is_name" "is_name" sNm f fd) (mI : mg "isinstance" = none) (mS : mg "str" = none) (mL : mg "len" = none) (mAll : mg "all" = none) (mM : mg "MOST_LETTERS" = some (.int 8 tk)) : FnOk P w K mg base CX0 1 f fd ["thing"] spNm := by
  refine F.ok scNm (fun vs H Q E h => ?_) (fun cdv A outer s H vs Q E hr h => ?_)
  · obtain ⟨x, rfl, _⟩ := h
    rfl
  · obtain ⟨x, rfl, k, tx, q⟩ := h
    refine ⟨_, pss_cons (ps_if (PW.pt (pw_or (pt_not (pt_val (pe_callB call_isi (by rfl) mI (by decide +kernel) (pa_cons (pv 0) (pa_cons (pe_bltn (v := .ty "str") (by rfl) mS (by decide +kernel) rfl) pa_nil)))))
          (pw_or (pt_cmpR op_lt (pe_callB call_len_str (by rfl) mL PySem.boot_len (pa_cons (pv 0) pa_nil)) pe_int (nomark _)) (pw_or1 (pt_cmpR op_gt (pe_callB call_len_str (by rfl) mL PySem.boot_len (pa_cons (pv 0) pa_nil)) (pe_glob (v := .int 8) (by rfl) mM ⟨tk, rfl⟩) (nomark _)))))) (pss_one (ps_ret pe_bl)) pss_nil)
      (pss_one (ps_ret (pe_callB (cr_all rfl) (by rfl) mAll (by decide +kernel) (pa_cons (pe_lc (own := [("sign", 1)]) (g := gName 1) (tt := tYes) (te := tChain rLeS rLeS (tC (.str "a")) (tVar 1) (tC (.str "z"))) (by rfl) scNm.nd (pi_str (pv 0)) (blkOk_by (own := [("sign", 1)]) (N := nNm) (sc := defScope sNm) (by decide +kernel))
          (fun _ _ _ _ _ => pg_name (i := 1) scNm.nd rfl (.inl rfl)) (fun _ _ _ _ _ => pts_nil) (fun _ _ _ _ _ => pe_chain op_le_str op_le_str pe_str (pv 1) pe_str)) pa_nil)))), ?_⟩
    rcases k.cases_str with ⟨z, rfl⟩ | ⟨t, ty, kt, ef⟩
    · have hz := tx z rfl
      have hzl : z.length ≤ sizeLine := Nat.le_trans hz (by decide)
      refine ⟨_, rfl, _, .ty "str", _, _, _, rfl, .ty _, .base (.str z), kit_ty (b := "str") (r := true) (by decide +kernel), _, rfl, iteF ?_⟩
      refine ⟨_, rfl, z, rfl, hzl, _, 1, rfl, rfl, _, rfl, ite2 (fun e => ?_) (fun e => ?_)⟩
      · have e0 : (z.length : Int) < 1 := of_decide_eq_true e
        have q := q H (.refl _)
        rw [nm_short (by omega)] at q
        exact iteT q
      · have e0 : ¬ (z.length : Int) < 1 := fun y => e (decide_eq_true y)
        refine ⟨_, rfl, z, rfl, hzl, _, 8, rfl, rfl, _, rfl, ite2 (fun e => ?_) (fun e => ?_)⟩
        · have e1 : (8 : Int) < (z.length : Int) := of_decide_eq_true e
          have q := q H (.refl _)
          rw [nm_short (by omega)] at q
          exact q
        · have e1 : ¬ (8 : Int) < (z.length : Int) := fun y => e (decide_eq_true y)
          refine ⟨_, rfl, z, rfl, fun D nD => ?_⟩
          refine lc_it walk_str (fun n H' => Same H H' ∧ H' D = some (.lst ((z.cps.toList.take n).map fun c => .bl (okC c)))) ⟨same_upd nD, upd_same⟩ (fun _ _ _ _ => trivial) ?_ ?_
          · rintro n y H8 H9 hn ⟨t8, e8⟩ ⟨rfl, c, hc, rfl⟩
            refine ⟨rfl, _, rfl, _, _, rfl, rfl, _, rfl, ite2 (fun e => ?_) (fun e => ?_)⟩
            · rw [le_a] at e
              refine ⟨_, _, rfl, rfl, _, e8, take_sz hz, same_app t8 nD (.refl _), ?_⟩
              rw [upd_same, take_one hc, le_z]
              have : okC c = decide (c ≤ 122) := by
                unfold okC
                rw [e, Bool.true_and]
              rw [this]
            · rw [le_a] at e
              refine ⟨_, e8, take_sz hz, same_app t8 nD (.refl _), ?_⟩
              rw [upd_same, take_one hc]
              have : okC c = false := by
                unfold okC
                rw [Bool.not_eq_true] at e
                rw [e, Bool.false_and]
              rw [this]
          · rintro H8 ⟨t8, e8⟩
            rw [take_all] at e8
            refine ⟨D, _, rfl, SqL.of e8, ?_⟩
            rw [← nm_long (by omega) (by omega)]
            exact q _ t8
    · have q := q H (.refl _)
      rw [ef] at q
      exact ⟨x, rfl, x, .ty "str", _, _, _, rfl, .ty _, ty K, kit_ty kt, _, rfl, iteT (iteT q)⟩
end
end G
set_option Elab.async false
set_option linter.all false
set_option maxRecDepth 100000
set_option maxHeartbeats 1000000
namespace G
open PySem PySem.Spec PyProof.Rows L2 TL
abbrev Two (H : Hp) (a : Addr) (i j : Int) : Prop := H a = some (.tup [.int i, .int j])
def prs (H : Hp) : V → Option (Int × Int)
  | .ref a => match H a with
    | some (.tup [.int i, .int j]) => some (i, j)
    | _ => none
  | _ => none
def stP (o u : Option (Int × Int)) : Bool := match o, u with
  | some (a, b), some (c, d) => isFr a b && isFr c d && (decide (0 ≤ a) && decide (a * d ≤ c * b) && decide (c ≤ d))
  | _, _ => false
def stB (H : Hp) : V → Bool
  | .ref a => match H a with
    | some (.tup [u, v]) => stP (prs H u) (prs H v)
    | _ => false
  | _ => false
theorem prs_two {H : Hp} {a : Addr} {i j : Int} (e : Two H a i j) : prs H (.ref a) = some (i, j) := by simp only [prs, e]
theorem frB_prs {H : Hp} {u : V} (h : frB H u = true) : ∃ a i j, u = .ref a ∧ Two H a i j ∧ isFr i j = true := by
  cases u with
  | ref a =>
    cases e : H a with
    | none => simp [frB, e] at h
    | some o =>
      simp only [frB, e] at h
      split at h
      · rename_i i j z
        injection z with z
        subst z
        exact ⟨a, i, j, rfl, e, h⟩
      · cases h
  | _ => cases h
theorem stP_of {H : Hp} {u v : V} (h : stP (prs H u) (prs H v) = true) : frB H u = true ∧ frB H v = true := by
  have key : ∀ {u : V} {i j : Int}, prs H u = some (i, j) → isFr i j = true → frB H u = true := by
    intro u i j hp hf
    cases u with
    | ref a =>
      cases e : H a with
      | none => simp [prs, e] at hp
      | some o =>
        simp only [prs, e] at hp
        split at hp
        · rename_i i' j' z
          injection z with z
          subst z
          cases hp
          rw [frB_ints e]
          exact hf
        · cases hp
    | _ => cases hp
  cases hu : prs H u with
  | none => rw [hu] at h; cases h
  | some p =>
    cases hv : prs H v with
    | none => rw [hu, hv] at h; obtain ⟨_, _⟩ := p; cases h
    | some r =>
      obtain ⟨a, b⟩ := p
      obtain ⟨c, d⟩ := r
      rw [hu, hv] at h
      have h' : (isFr a b && isFr c d && (decide (0 ≤ a) && decide (a * d ≤ c * b) && decide (c ≤ d))) = true := h
      rw [Bool.and_eq_true, Bool.and_eq_true] at h'
      exact ⟨key hu h'.1.1, key hv h'.1.2⟩
theorem stB_two {H : Hp} {a : Addr} {u v : V} (e : H a = some (.tup [u, v])) : stB H (.ref a) = stP (prs H u) (prs H v) := by simp only [stB, e]
theorem stB_no {H : Hp} {a : Addr} {u v : V} (e : H a = some (.tup [u, v])) (h : frB H u = false ∨ frB H v = false) : stB H (.ref a) = false := by
  rw [stB_two e]
  refine Bool.eq_false_iff.mpr fun z => ?_
  obtain ⟨h1, h2⟩ := stP_of z
  rcases h with h | h
  · rw [h] at h1; cases h1
  · rw [h] at h2; cases h2
theorem stB_len {H : Hp} {a : Addr} {xs : List V} (e : H a = some (.tup xs)) (h : xs.length ≠ 2) : stB H (.ref a) = false := by
  simp only [stB, e]
  split
  · rename_i z
    injection z with z
    injection z with z
    subst z
    exact absurd rfl h
  · rfl
theorem Kd.cases_st {H : Hp} {x : V} (k : Kd H x) : (∃ t, (∀ K, TyX K H x (.type t)) ∧ kitB t "tuple" = some false ∧ stB H x = false) ∨ (∃ a xs, x = .ref a ∧ H a = some (.tup xs) ∧ ∀ y ∈ xs, Kd H y) := by
  cases k with
  | non => exact .inl ⟨_, fun K => .base .non, by decide +kernel, rfl⟩
  | bl b => exact .inl ⟨_, fun K => .base (.bl b), by decide +kernel, rfl⟩
  | int i => exact .inl ⟨_, fun K => .base (.int i), by decide +kernel, rfl⟩
  | str z => exact .inl ⟨_, fun K => .base (.str z), by decide +kernel, rfl⟩
  | lst e => exact .inl ⟨_, fun K => .base (.lst e), by decide +kernel, by simp only [stB, e]⟩
  | dK e => exact .inl ⟨_, fun K => .base (.dK e), by decide +kernel, by simp only [stB, e]⟩
  | tup e h => exact .inr ⟨_, _, rfl, e, h⟩
def PB (H : Hp) (u : V) : Prop := ∀ a i j, u = .ref a → Two H a i j → Sz 1000 i ∧ Sz 1000 j
def BB (H : Hp) (x : V) : Prop := ∀ a u v, x = .ref a → H a = some (.tup [u, v]) → PB H u ∧ PB H v
theorem PB.bd {H : Hp} {u : V} (h : PB H u) : Bd H u := fun a i j e1 e2 => (h a i j e1 e2).2.mono (show 1000 ≤ 8000 by decide)
theorem isFr_pos {i j : Int} (h : isFr i j = true) : 0 < j := by
  unfold isFr at h
  rw [Bool.and_eq_true] at h
  exact of_decide_eq_true h.1
def spSt : Sp := fun vs H Q _ => ∃ x : V, vs = [x] ∧ Kd H x ∧ BB H x ∧ ∀ H', Same H H' → Q (.bl (stB H x)) H'
section
variable {P : Program} {w : World} {K : PySem.W.Frag} {mg : Str → Option Value} {base : Heap}
abbrev sLess : Stmt := topS 9
theorem scLess : FnScope ["one", "other"] ["one", "other"] (defScope sLess) := ⟨rfl, rfl, rfl, by decide +kernel, rfl, by decide +kernel, by decide +kernel⟩
def spLess : Sp := fun vs H Q _ => ∃ (a b : Addr) (i j k l : Int), vs = [.ref a, .ref b] ∧ Two H a i j ∧ Two H b k l ∧ Fr 1000 i j ∧ Fr 1000 k l ∧ Q (.bl (decide (i * l < k * j))) H
theorem ok_less {f : Addr} {fd : FuncData} (F : Fun K "is_less" "is_less" sLess f fd) : FnOk P w K mg base CX0 1 f fd ["one", "other"] spLess := by
  refine F.ok scLess (fun vs H Q E h => ?_) (fun cdv A outer s H vs Q E hr h => ?_)
  · obtain ⟨a, b, i, j, k, l, rfl, _⟩ := h
    rfl
  · obtain ⟨a, b, i, j, k, l, rfl, ea, eb, f1, f2, q⟩ := h
    refine ⟨_, pss_one (ps_ret (pe_cmpR op_lt (pe_op op_mulW (pe_ix ix_tup (pv 0) pe_int (fun _ _ => rfl)) (pe_ix ix_tup (pv 1) pe_int (fun _ _ => rfl))) (pe_op op_mulW (pe_ix ix_tup (pv 1) pe_int (fun _ _ => rfl)) (pe_ix ix_tup (pv 0) pe_int (fun _ _ => rfl))) (nomark _))), ?_⟩
    refine ⟨.ref a, rfl, a, _, 0, _, rfl, rfl, SqT.of ea, atI_nat (j := 0) rfl, .ref b, rfl, b, _, 1, _, rfl, rfl, SqT.of eb, atI_nat (j := 1) rfl, i, l, rfl, rfl, f1.a.cm f2.b (by decide) (by decide) (by decide), ?_⟩
    exact ⟨.ref b, rfl, b, _, 0, _, rfl, rfl, SqT.of eb, atI_nat (j := 0) rfl, .ref a, rfl, a, _, 1, _, rfl, rfl, SqT.of ea, atI_nat (j := 1) rfl, k, j, rfl, rfl, f2.a.cm f1.b (by decide) (by decide) (by decide), _, _, rfl, rfl, q⟩
/-! ### is_stretch -/
abbrev sSt : Stmt := topS 26
theorem scSt : FnScope ["thing", "least", "most"] ["thing"] (defScope sSt) := ⟨rfl, rfl, rfl, by decide +kernel, rfl, by decide +kernel, by decide +kernel⟩
theorem fr01 : Fr 1000 0 1 := ⟨by show Nat.lt _ _; exact Nat.two_pow_pos _, Nat.lt_of_lt_of_le (show 1 < 2 ^ 1 by decide) (Nat.pow_le_pow_right (by decide) (by decide)), by decide⟩
theorem fr11 : Fr 1000 1 1 := ⟨fr01.b, fr01.b, by decide⟩
theorem ok_st {f fF fL : Addr} {fd fdF fdL : FuncData} (F : Fun K "is_stretch" "is_stretch" sSt f fd) (FF : Fun K "is_fraction" "is_fraction" sIsF fF fdF) (bF : Binds K fdF ["thing"] []) (gF : mg "is_fraction" = some (.ref fF)) (GF : FnOk P w K mg base CX0 2 fF fdF ["thing"] spIsF)
    (FL : Fun K "is_less" "is_less" sLess fL fdL) (bL : Binds K fdL ["one", "other"] []) (gL : mg "is_less" = some (.ref fL)) (mI : mg "isinstance" = none) (mT : mg "tuple" = none) (mL : mg "len" = none) : FnOk P w K mg base CX0 3 f fd ["thing"] spSt := by
  have GL : FnOk P w K mg base CX0 1 fL fdL ["one", "other"] spLess := ok_less FL
  refine F.ok scSt (fun vs H Q E h => ?_) (fun cdv A outer s H vs Q E hr h => ?_)
  · obtain ⟨x, rfl, _⟩ := h
    rfl
  · obtain ⟨x, rfl, k, hbb, q⟩ := h
    have hr1 := hr.mono (show 1 ≤ 2 by decide)
    refine ⟨_, pss_cons (ps_if (PW.pt (pw_or (pt_not (pt_val (pe_callB call_isi (by rfl) mI (by decide +kernel) (pa_cons (pv 0) (pa_cons (pe_bltn (v := .ty "tuple") (by rfl) mT (by decide +kernel) rfl) pa_nil)))))
          (pw_or1 (pt_cmpR op_ne (pe_callB call_len_seq (by rfl) mL PySem.boot_len (pa_cons (pv 0) pa_nil)) pe_int (nomark _))))) (pss_one (ps_ret pe_bl)) pss_nil)
      (pss_cons (ps_asg (pv 0) (pg_tup (by rfl) (pgs_cons (pg_name (i := 1) scSt.nd rfl (.inl rfl)) (pgs_cons (pg_name (i := 2) scSt.nd rfl (.inl rfl)) pgs_nil))))
      (pss_cons (ps_if (PW.pt (pw_or (pt_not (pt_val (pe_call GF hr (by rfl) gF FF.kp bF .nil pass0 (pa_cons (pv 1) pa_nil)))) (pw_or1 (pt_not (pt_val (pe_call GF hr (by rfl) gF FF.kp bF .nil pass0 (pa_cons (pv 2) pa_nil))))))) (pss_one (ps_ret pe_bl)) pss_nil)
      (pss_one (ps_ret (pe_and (pe_not (pe_call GL hr1 (by rfl) gL FL.kp bL .nil pass0 (pa_cons (pv 1) (pa_cons (pe_tup (pa_cons pe_int (pa_cons pe_int pa_nil))) pa_nil))))
        (pe_and (pe_not (pe_call GL hr1 (by rfl) gL FL.kp bL .nil pass0 (pa_cons (pv 2) (pa_cons (pv 1) pa_nil)))) (pe_one (pe_not (pe_call GL hr1 (by rfl) gL FL.kp bL .nil pass0 (pa_cons (pe_tup (pa_cons pe_int (pa_cons pe_int pa_nil))) (pa_cons (pv 2) pa_nil))))))))))), ?_⟩
    rcases k.cases_st with ⟨t, ty, kt, ef⟩ | ⟨a, xs, rfl, e, hk⟩
    · have q := q H (.refl _)
      rw [ef] at q
      exact ⟨x, rfl, x, .ty "tuple", _, _, _, rfl, .ty _, ty K, kit_ty kt, _, rfl, iteT (iteT q)⟩
    · refine ⟨.ref a, rfl, _, .ty "tuple", _, _, _, rfl, .ty _, .base (.tup e), kit_ty (b := "tuple") (r := true) (by decide +kernel), _, rfl, iteF ?_⟩
      refine ⟨.ref a, rfl, a, xs, rfl, .inr (SqT.of e), rfl, _, rfl, ?_⟩
      by_cases hl : xs.length = 2
      · obtain ⟨u, v, rfl⟩ := two_of hl
        refine iteF ?_
        refine ⟨.ref a, rfl, a, [u, v], rfl, SqT.of e, rfl, u, [v], rfl, v, [], rfl, rfl, ?_⟩
        have ku : Kd H u := hk u (.head _)
        have kv : Kd H v := hk v (.tail _ (.head _))
        obtain ⟨pu, pv'⟩ := hbb a u v rfl e
        refine ⟨u, rfl, u, rfl, ku, _, rfl, ?_⟩
        cases wu : frB H u with
        | false =>
          have q := q H (.refl _)
          rw [stB_no e (.inl wu)] at q
          exact iteT (iteT q)
        | true =>
          refine iteF ?_
          refine ⟨v, rfl, v, rfl, kv, _, rfl, ?_⟩
          cases wv : frB H v with
          | false =>
            have q := q H (.refl _)
            rw [stB_no e (.inr wv)] at q
            exact iteT q
          | true =>
            refine iteF ?_
            obtain ⟨a1, i, j, rfl, e1, h1⟩ := frB_prs wu
            obtain ⟨a2, c, d, rfl, e2, h2⟩ := frB_prs wv
            have f1 : Fr 1000 i j := ⟨(pu a1 i j rfl e1).1, (pu a1 i j rfl e1).2, isFr_pos h1⟩
            have f2 : Fr 1000 c d := ⟨(pv' a2 c d rfl e2).1, (pv' a2 c d rfl e2).2, isFr_pos h2⟩
            have es : stB H (.ref a) = (decide (0 ≤ i) && decide (i * d ≤ c * j) && decide (c ≤ d)) := by
              rw [stB_two e, prs_two e1, prs_two e2]
              show (isFr i j && isFr c d && (decide (0 ≤ i) && decide (i * d ≤ c * j) && decide (c ≤ d))) = _
              rw [h1, h2]
              rfl
            refine ⟨.ref a1, rfl, (by show 2 ≤ sizeLine; decide), fun p np => ?_⟩
            have s1 := same_upd (o := .tup [.int 0, .int 1]) np
            refine ⟨a1, p, i, j, 0, 1, rfl, s1 _ _ e1, upd_same, f1, fr01, _, rfl, _, rfl, ite2 (fun z => ?_) (fun z => ?_)⟩
            · have z0 : 0 ≤ i := by
                rw [Bool.not_eq_true', decide_eq_false_iff_not] at z
                omega
              refine ⟨.ref a2, rfl, .ref a1, rfl, a2, a1, c, d, i, j, rfl, s1 _ _ e2, s1 _ _ e1, f2, f1, _, rfl, _, rfl, ite2 (fun z => ?_) (fun z => ?_)⟩
              · have z1 : i * d ≤ c * j := by
                  rw [Bool.not_eq_true', decide_eq_false_iff_not] at z
                  omega
                refine ⟨(by show 2 ≤ sizeLine; decide), fun p2 np2 => ?_⟩
                have s2 := same_upd (o := .tup [.int 1, .int 1]) np2
                refine ⟨.ref a2, rfl, p2, a2, 1, 1, c, d, rfl, upd_same, s2 _ _ (s1 _ _ e2), fr11, f2, _, rfl, ?_⟩
                have : (!decide (1 * d < c * 1)) = stB H (.ref a) := by
                  rw [es, decide_eq_true z0, decide_eq_true z1, Bool.true_and, Bool.true_and, ← decide_not]
                  exact decide_eq_decide.mpr (by omega)
                rw [this]
                exact q _ (s1.trans s2)
              · have z1 : ¬ i * d ≤ c * j := by
                  rw [Bool.not_eq_true', decide_eq_false_iff_not] at z
                  omega
                have : stB H (.ref a) = false := by rw [es, decide_eq_false z1, Bool.and_false, Bool.false_and]
                rw [this] at q
                exact q _ s1
            · have z0 : ¬ 0 ≤ i := by
                rw [Bool.not_eq_true', decide_eq_false_iff_not] at z
                omega
              have : stB H (.ref a) = false := by rw [es, decide_eq_false z0, Bool.false_and, Bool.false_and]
              rw [this] at q
              exact q _ s1
      · have q := q H (.refl _)
        rw [stB_len e hl] at q
        refine ifT ?_ q
        rw [decide_eq_false (fun y => hl (by have := V.int.inj y; omega))]
        rfl
/-! ### _law_is_stretch -/

end
end G
set_option Elab.async false
set_option linter.all false
set_option maxRecDepth 100000
set_option maxHeartbeats 1000000
namespace G
open PySem PySem.Spec PyProof.Rows L2 TL
/-! ### texts of numbers -/
def Tn (n : Nat) : Str := Str.ofString (toString ((n : Nat) : Int))
theorem tl_Tn (n : Nat) : tl (Tn n) = numL n := tl_num n
abbrev big : Nat := 100000000000000000000
theorem numL_20 {n : Nat} (h : n < big) : (numL n).length ≤ 20 := numL_len (by decide) (Nat.lt_of_lt_of_le h (by decide))
theorem Tn_len {n : Nat} (h : n < big) : (Tn n).length ≤ 20 := by
  rw [len_tl, tl_Tn]
  exact numL_20 h
theorem log_20 {n : Nat} (h : n < big) : ((n : Nat) : Int).natAbs.log2 < 1920 := by
  refine PySem.Flt.log2_lt_of (by decide) ?_
  rw [Int.natAbs_natCast]
  exact Nat.lt_of_lt_of_le h (Nat.le_trans (show big ≤ 2 ^ 100 by decide) (Nat.pow_le_pow_right (by decide) (by decide)))
theorem join_one (y x : Str) : Txt.join y [x] = x := by
  rw [join_eq]
  rfl
def sg (i : Int) : Str := if i < 0 then "-" else ""
def bl (j : Int) : Str := if j = 1 then "" else "/" ++ Tn j.natAbs
def fT (i j : Int) : Str := (sg i ++ Tn i.natAbs) ++ bl j
theorem sg_len (i : Int) : (sg i).length ≤ 1 := by
  unfold sg
  split <;> decide +kernel
theorem app_len (x y : Str) : (x ++ y).length = x.length + y.length := by
  rw [len_tl, len_tl, len_tl, tl_append, List.length_append]
theorem bl_len {j : Int} (h : j.natAbs < big) : (bl j).length ≤ 21 := by
  unfold bl
  split
  · decide +kernel
  · rw [app_len]
    have h1 := Tn_len h
    have h2 : (Str.ofString "/").length = 1 := by decide +kernel
    omega
theorem line_ok {n : Nat} (h : n ≤ 100) : n ≤ sizeLine := Nat.le_trans h (by decide)
section
variable {P : Program} {w : World} {K : PySem.W.Frag} {mg : Str → Option Value} {base : Heap}
/-! ### figures -/
abbrev sFig : Stmt := topS 11
theorem scFig : FnScope ["number", "groups", "low"] ["number"] (defScope sFig) := ⟨rfl, rfl, rfl, by decide +kernel, rfl, by decide +kernel, by decide +kernel⟩
def spFig : Sp := fun vs H Q _ => ∃ n : Nat, vs = [.int (n : Int)] ∧ n < big ∧ ∀ H', Same H H' → Q (.str (Tn n)) H'
theorem ok_fig {f : Addr} {fd : FuncData} (F : Fun K "figures" "figures" sFig f fd) (mS : mg "str" = none) : FnOk P w K mg base CX0 1 f fd ["number"] spFig := by
  refine F.ok scFig (fun vs H Q E h => ?_) (fun cdv A outer s H vs Q E hr h => ?_)
  · obtain ⟨n, rfl, _⟩ := h
    rfl
  · obtain ⟨n, rfl, hn, q⟩ := h
    refine ⟨_, pss_cons (ps_set (i := 1) scFig.nd rfl (.inl rfl) (pe_lst pa_nil))
      (pss_cons (ps_while PassesOwn.never (pt_cmpR op_ge (pv 0) (pe_op op_pow pe_int pe_int) (nomark _)) pss_never)
      (pss_cons (ps_expr (pe_bm PySem.F.plainAttrs_list PySem.F.slot_list_append PySem.F.type_list_append mt_append (pv 1) (pa_cons (pe_callTy call_str_int (by rfl) mS (by decide +kernel) (pa_cons (pv 0) pa_nil)) pa_nil)))
      (pss_one (ps_ret (pe_join pe_str (pe_revL (pv 1))))))), ?_⟩
    refine ⟨Nat.zero_le _, fun g ng => ?_⟩
    refine ⟨fun m σ H' => σ = [some (.int (n : Int)), some (.ref g), none] ∧ H' = upd H g (.lst []), ⟨0, rfl, rfl⟩, ?_⟩
    rintro m σ H' ⟨rfl, rfl⟩
    refine ⟨_, rfl, 10, 60, rfl, rfl, ⟨by decide, by decide, by decide⟩, (n : Int), _, rfl, rfl, _, rfl, ite2 (fun e => ?_) (fun _ => ?_)⟩
    · have e0 : (10 : Int) ^ (60 : Int).toNat ≤ (n : Int) := of_decide_eq_true e
      have e1 : (10 : Int) ^ (60 : Int).toNat = ((10 ^ 60 : Nat) : Int) := by decide +kernel
      rw [e1] at e0
      have e2 : big < 10 ^ 60 := by decide
      omega
    · refine ⟨.ref g, rfl, .inl ⟨rfl, _, SqL.of upd_same⟩, _, rfl, n, rfl, log_20 hn, g, _, _, rfl, rfl, upd_same, (by show 0 < sizeLine; decide), ?_⟩
      have s1 : Same H (upd (upd H g (.lst [])) g (.lst ([] ++ [.str (Tn n)]))) := fun b u e => by
        rw [upd_ne (ne_of_none e ng), upd_ne (ne_of_none e ng)]
        exact e
      refine ⟨⟨_, rfl⟩, .ref g, rfl, g, _, rfl, SqL.of upd_same, fun r nr => ?_⟩
      refine ⟨_, r, [Tn n], rfl, rfl, .inl (SqL.of upd_same), ?_, ?_⟩
      · have h1 := Tn_len hn
        have h2 : (Str.ofString "").length = 0 := by decide +kernel
        show (Tn n).length + 0 + 1 * (Str.ofString "").length ≤ 16777216
        omega
      · rw [join_one]
        exact q _ (s1.trans (same_upd nr))
/-! ### fraction_text -/
abbrev sFT : Stmt := topS 12
theorem scFT : FnScope ["one", "top", "bottom", "sign", "below"] ["one"] (defScope sFT) := ⟨rfl, rfl, rfl, by decide +kernel, rfl, by decide +kernel, by decide +kernel⟩
def spFT : Sp := fun vs H Q _ => ∃ (a : Addr) (i j : Int), vs = [.ref a] ∧ H a = some (.tup [.int i, .int j]) ∧ i.natAbs < big ∧ 0 < j ∧ j.natAbs < big ∧ ∀ H', Same H H' → Q (.str (fT i j)) H'
theorem abs_cast (i : Int) : (if i < 0 then -i else i) = ((i.natAbs : Nat) : Int) := by split <;> omega
theorem ok_FT {f fG : Addr} {fd fdG : FuncData} (F : Fun K "fraction_text" "fraction_text" sFT f fd) (FG : Fun K "figures" "figures" sFig fG fdG) (bG : Binds K fdG ["number"] []) (gG : mg "figures" = some (.ref fG)) (mS : mg "str" = none) (mA : mg "abs" = none) : FnOk P w K mg base CX0 2 f fd ["one"] spFT := by
  have GG : FnOk P w K mg base CX0 1 fG fdG ["number"] spFig := ok_fig FG mS
  refine F.ok scFT (fun vs H Q E h => ?_) (fun cdv A outer s H vs Q E hr h => ?_)
  · obtain ⟨a, i, j, rfl, _⟩ := h
    rfl
  · obtain ⟨a, i, j, rfl, ea, hi, hj0, hj, q⟩ := h
    refine ⟨_, pss_cons (ps_asg (pv 0) (pg_tup (by rfl) (pgs_cons (pg_name (i := 1) scFT.nd rfl (.inl rfl)) (pgs_cons (pg_name (i := 2) scFT.nd rfl (.inl rfl)) pgs_nil))))
      (pss_cons (ps_set (i := 3) scFT.nd rfl (.inl rfl) (pe_ifExp (pt_cmpR op_lt (pv 1) pe_int (nomark _)) pe_str pe_str))
      (pss_cons (ps_set (i := 4) scFT.nd rfl (.inl rfl) (pe_ifExp (pt_cmpR op_eq (pv 2) pe_int (nomark _)) pe_str (pe_op op_add_str pe_str (pe_call GG hr (by rfl) gG FG.kp bG .nil pass0 (pa_cons (pv 2) pa_nil)))))
      (pss_one (ps_ret (pe_op op_add_str (pe_op op_add_str (pv 3) (pe_call GG hr (by rfl) gG FG.kp bG .nil pass0 (pa_cons (pe_callB call_abs (by rfl) mA (by decide +kernel) (pa_cons (pv 1) pa_nil)) pa_nil))) (pv 4)))))), ?_⟩
    have cat : ∀ x y : Str, x.length ≤ 40 → y.length ≤ 40 → x.length + y.length ≤ sizeLine := fun x y h1 h2 => line_ok (by omega)
    have fin : ∀ (H1 : Hp), Same H H1 → (tRet (tOp (fun x y H Q => ∃ i j, x = .str i ∧ y = .str j ∧ i.length + j.length ≤ sizeLine ∧ Q (.str (i ++ j)) H) (tOp (fun x y H Q => ∃ i j, x = .str i ∧ y = .str j ∧ i.length + j.length ≤ sizeLine ∧ Q (.str (i ++ j)) H) (tVar 3) (tCall spFig [] E0 (tCons (tCB (fun xs H Q => ∃ i, xs = [.int i] ∧ Q (.int (if i < 0 then -i else i)) H) (tCons (tVar 1) tNil)) tNil))) (tVar 4)))
        { nx := fun _ H' => Q .non H', rt := Q } [some (.ref a), some (.int i), some (.int j), some (.str (sg i)), some (.str (bl j))] H1 := by
      intro H1 s1
      refine ⟨_, rfl, _, rfl, i, rfl, i.natAbs, by rw [abs_cast]; rfl, hi, fun H2 s2 => ?_⟩
      refine ⟨_, _, rfl, rfl, cat _ _ (Nat.le_trans (sg_len i) (by decide)) (Nat.le_trans (Tn_len hi) (by decide)), _, rfl, _, _, rfl, rfl, ?_, q _ (s1.trans s2)⟩
      have h1 := sg_len i
      have h2 := Tn_len hi
      have h3 := bl_len hj
      rw [app_len]
      exact line_ok (by omega)
    have mid : ∀ (H1 : Hp), Same H H1 → (tSeq (tAsg (tIf (tTest (tOp rEq (tVar 2) (tC (.int 1)))) (tC (.str "")) (tOp (fun x y H Q => ∃ i j, x = .str i ∧ y = .str j ∧ i.length + j.length ≤ sizeLine ∧ Q (.str (i ++ j)) H) (tC (.str "/")) (tCall spFig [] E0 (tCons (tVar 2) tNil)))) (gName 4))
        (tRet (tOp (fun x y H Q => ∃ i j, x = .str i ∧ y = .str j ∧ i.length + j.length ≤ sizeLine ∧ Q (.str (i ++ j)) H) (tOp (fun x y H Q => ∃ i j, x = .str i ∧ y = .str j ∧ i.length + j.length ≤ sizeLine ∧ Q (.str (i ++ j)) H) (tVar 3) (tCall spFig [] E0 (tCons (tCB (fun xs H Q => ∃ i, xs = [.int i] ∧ Q (.int (if i < 0 then -i else i)) H) (tCons (tVar 1) tNil)) tNil))) (tVar 4))))
        { nx := fun _ H' => Q .non H', rt := Q } [some (.ref a), some (.int i), some (.int j), some (.str (sg i)), none] H1 := by
      intro H1 s1
      refine ⟨_, rfl, rfl, _, rfl, ite2 (fun e => ?_) (fun e => ?_)⟩
      · have e0 : j = 1 := V.int.inj (of_decide_eq_true e)
        have eb : bl j = "" := if_pos e0
        have := fin H1 s1
        rw [eb] at this
        exact this
      · have e0 : ¬ j = 1 := fun z => e (decide_eq_true (by rw [z]))
        have eb : bl j = "/" ++ Tn j.natAbs := if_neg e0
        refine ⟨_, rfl, j.natAbs, by rw [show ((j.natAbs : Nat) : Int) = j by omega]; rfl, hj, fun H2 s2 => ?_⟩
        refine ⟨_, _, rfl, rfl, cat _ _ (by decide +kernel) (Nat.le_trans (Tn_len hj) (by decide)), ?_⟩
        have := fin H2 (s1.trans s2)
        rw [eb] at this
        exact this
    refine ⟨.ref a, rfl, a, _, rfl, SqT.of ea, rfl, _, _, rfl, _, _, rfl, rfl, ?_⟩
    refine ⟨_, rfl, i, 0, rfl, rfl, _, rfl, ite2 (fun e => ?_) (fun e => ?_)⟩
    · have e0 : i < 0 := of_decide_eq_true e
      have es : sg i = "-" := if_pos e0
      have := mid H (.refl _)
      rw [es] at this
      exact this
    · have e0 : ¬ i < 0 := fun z => e (decide_eq_true z)
      have es : sg i = "" := if_neg e0
      have := mid H (.refl _)
      rw [es] at this
      exact this

end
end G
set_option Elab.async false
set_option linter.all false
set_option maxRecDepth 100000
set_option maxHeartbeats 2000000
/-! for i, x in enumerate(t), t a tuple -/
namespace G
open PySem PySem.Spec PyProof.Rows L2
theorem meets_enum1 {v : Value} {o : Obj} {W : Heap → Prop} (B : Begins v o W) :
    Meets (Builtin.«enumerate.__new__» ⟨[.type "enumerate", v], []⟩) (fun _ R s => W s.heap ∧ R (.ok (.ret (.ref (s.heap.push o).objs.size))) { s with heap := (s.heap.push o).push { cls := .type "enumerate", data := .fields #[.none, .bool false, .ref s.heap.objs.size, rawInt 0, .none, .none] } }) :=
  .of_wp fun prog w A R s h => by
    obtain ⟨hp, g, d, tk, os⟩ := s
    obtain ⟨h1, h⟩ := h
    have hs0 := sub_enumerate
    have begun : ∀ {A' : Around} {E : Value → Shared → Prop} {Q : Value → Shared → Prop}, Q (.ref hp.objs.size) ⟨hp.push o, g, d, tk, os⟩ → wpAny (model prog w) A' (pyIter v) Q E ⟨hp, g, d, tk, os⟩ := fun q => B.iter prog w _ _ ⟨hp, g, d, tk, os⟩ _ h1 q
    wp_walk using begun
    refine wpAny_stack_any fun st => wpAny_pure ?_
    split
    · rename_i c _ _ _ _ _
      cases (c == Value.type "enumerate") <;> (wp_walk using begun; exact ⟨_, rfl, h⟩)
    · wp_walk using begun
      exact ⟨_, rfl, h⟩
theorem enum1 {prog : Program} {w : World} {A : Around} {E : Value → Shared → Prop} {s : Shared} {v : Value} {o : Obj} {W : Heap → Prop} {Q : Value → Shared → Prop} (B : Begins v o W) (h1 : W s.heap)
    (h : ∀ h', IsEnum h' (s.heap.objs.size + 1) s.heap.objs.size 0 .none → h'.get? s.heap.objs.size = some o → (∀ b o, s.heap.get? b = some o → h'.get? b = some o) → Q (.ref (s.heap.objs.size + 1)) { s with heap := h' }) : wpAny (model prog w) A (call (.type "enumerate") [v]) Q E s := by
  refine callType_new F.called_enumerate (by decide) (F.typeCall_enumerate_1 _) (F.newCall_enumerate_1 _) (fun obj => F.args_object_init_2 obj _) F.entry_enumerate_new (meets_enum1 B) ⟨h1, ?_⟩
  have hz : (s.heap.push o).objs.size = s.heap.objs.size + 1 := Heap.size_push ..
  show _ ∧ _
  rw [hz]
  have he : IsEnum ((s.heap.push o).push { cls := .type "enumerate", data := .fields #[.none, .bool false, .ref s.heap.objs.size, rawInt 0, .none, .none] }) (s.heap.objs.size + 1) s.heap.objs.size 0 .none := by
    have z := Heap.get?_push_size (s.heap.push o) (o := { cls := .type "enumerate", data := .fields #[.none, .bool false, .ref s.heap.objs.size, rawInt 0, .none, .none] }) rfl
    rw [hz] at z
    exact z
  exact ⟨⟨_, he, rfl⟩, h _ he (Heap.get?_push_of_some _ (Heap.get?_push_size _ B.free)) fun b o x => Heap.get?_push_of_some _ (Heap.get?_push_of_some _ x)⟩
def IteT (K : PySem.W.Frag) (a : Addr) : It :=
  ⟨fun i H => ∃ (xs : List V) (x : V), SqT K H a xs ∧ xs[i]? = some x, fun i H v H' => ∃ T x, v = .ref T ∧ H T = none ∧ H' = upd H T (.tup [.int (i : Nat), x]) ∧ ∀ xs, SqT K H a xs → xs[i]? = some x, fun i H => ∃ xs : List V, SqT K H a xs ∧ xs.length ≤ i⟩
theorem turn_enumT {P : Program} {w : World} {K : PySem.W.Frag} {elts : List Expr} {kk : Nat} {tpos : Pos} (a e it : Addr) :
    Turn P w K (.Tuple elts kk tpos) (IteT K a) [e, it] e (fun i h => (∃ old, IsEnum h e it ((i : Nat) : Int) old) ∧ h.IsTupleIter it a i ∧ e ≠ it ∧ e ≠ a ∧ a ≠ it) where
  mem := by simp
  obj := fun i h st b hb => by
    obtain ⟨⟨old, he⟩, ⟨o, ho, hc, hd⟩, _⟩ := st
    rcases (show b = e ∨ b = it by simpa using hb) with z | z
    · rw [z]
      exact ⟨_, he, fun v q => nomatch q⟩
    · rw [z]
      exact ⟨o, ho, fun v q => by rw [hd] at q; cases q⟩
  keep := fun i h h' st k => let ⟨⟨old, he⟩, hi, hne⟩ := st; ⟨⟨old, k e (by simp) _ he⟩, hi.at fun o q => k it (by simp) o q, hne⟩
  item := by
    intro X hP hw hK hc i pins s σ H E I hf st hg
    subst hP hw hK
    obtain ⟨⟨old, he⟩, hit, hne, hea, hai⟩ := st
    obtain ⟨xs, x, hq, hx⟩ := hg
    obtain ⟨its, rv, p, hz⟩ := I.tuple hq
    obtain ⟨u, hu, ru⟩ := rv.get hx
    have hil : it < s.heap.objs.size := by
      obtain ⟨_, q, _⟩ := hit
      exact Heap.lt_size q
    have hel : e < s.heap.objs.size := Heap.lt_size he
    have hlt : i < its.toArray.size := by
      rw [List.size_toArray]
      exact (List.getElem?_eq_some_iff.mp hu).1
    refine wpAny_pyNext_enum_itemD (Draws.tuple (A := X.A.in1) (show X.A.in1.handled = none from I.ok.hd hc) it a hai its.toArray) he ⟨hit, p⟩ hlt hne (by simp [hne, hea]) fun y h' tk hy ho st' hT hsz hk => ?_
    have ey : y = u := by
      have z : its.toArray[i]? = some u := by simpa using hu
      rw [z] at hy
      exact (Option.some.inj hy).symm
    subst ey
    refine ⟨_, rfl, wpAny_letOwnedTupleGo_enum (s := { s with heap := h', toks := tk + 1 }) ho fun h'' he' sb => ?_⟩
    have hT2 : h''.get? s.heap.objs.size = some { cls := .type "tuple", data := .seq #[.int i tk, y] } := (sb.2 _ (Nat.ne_of_gt hel)).trans hT
    have new : ObjOk X.prog X.w (upd H s.heap.objs.size (.tup [.int (i : Nat), x])) h'' s.heap.objs.size (.tup [.int (i : Nat), x]) := ⟨by show 2 ≤ sizeLine; decide, [.int i tk, y], .cons ⟨_, rfl⟩ (.cons ru .nil), ⟨_, hT2, rfl, _, rfl⟩⟩
    have J : Inv X pins σ (upd H s.heap.objs.size (.tup [.int (i : Nat), x])) { s with heap := h'', toks := tk + 1 } :=
      I.turnedNew (ch := [e, it]) (fun b ob hb q => (sb.2 b (fun z => hb (by simp [z]))).trans (hk b ob (fun z => hb (by simp [z])) (fun z => hb (by simp [z])) q)) hf (Nat.le_refl _) new
    refine ⟨.ref s.heap.objs.size, _, J, rfl, ⟨_, x, rfl, I.hok.fresh (Nat.le_refl _), rfl, fun ys hy => ?_⟩, ⟨⟨y, ?_⟩, st'.1.at fun o q => (sb.2 it (Ne.symm hne)).trans q, hne, hea, hai⟩, fun b hb => ?_⟩
    · rw [I.tuple_inj hy hq]
      exact hx
    · rw [show ((i + 1 : Nat) : Int) = (i : Int) + 1 by omega]
      exact he'
    · have hb' : b < s.heap.objs.size := by
        rcases (show b = e ∨ b = it by simpa using hb) with z | z
        · rw [z]; exact hel
        · rw [z]; exact hil
      rw [upd_ne (Nat.ne_of_lt hb')]
      exact (hf b hb).1
  done := by
    intro X hP hw hK hc i pins s σ H E I hf st hg
    subst hP hw hK
    obtain ⟨⟨old, he⟩, hit, hne, hea, hai⟩ := st
    obtain ⟨xs, hq, hx⟩ := hg
    obtain ⟨its, rv, p, hz⟩ := I.tuple hq
    obtain ⟨f0, f1, f2, f3, f4, f5⟩ := hf it (by simp)
    have hl := rv.length
    have hn : its.toArray[i]? = none := by
      have z : its[i]? = none := List.getElem?_eq_none_iff.mpr (by omega)
      simpa using z
    have hh : X.A.in1.handled = none := I.ok.hd hc
    have D : Draws X.prog X.w X.A.in1 it [it, a] i (fun _ _ => True) (fun k h => k = i ∧ h.IsTupleIter it a i ∧ h.IsTuple a its.toArray) :=
      { live := fun _ _ st => let ⟨o, ho, _⟩ := st.2.1; ⟨o, ho⟩
        frame := fun _ _ _ st hk => ⟨st.1, st.2.1.at fun o e => hk it (by simp) o e, st.2.2.at fun o e => hk a (by simp) o e⟩
        item := fun k s Q E hk st _ => absurd st.1 (by omega)
        done := fun s Q E st hE => wpAny_nextOf_tuple_end hh st.2.1 st.2.2 hn hE }
    exact wpAny_pyNext_enum_endD D he ⟨rfl, hit, p⟩ fun h' eb => ⟨rfl, I.turned (t' := s.toks) (fun b o hb q => eb b o hb q) f0 f1 f3 f4 f5⟩
  self := fun A i s Q E st h => let ⟨⟨_, he⟩, _⟩ := st; wpAny_pyIter_enum he h
def iEnumT (K : PySem.W.Frag) (ta : TA) : TI := fun σ H R => ta σ H fun vs H1 => ∃ a xs, vs = [.ref a] ∧ SqT K H1 a xs ∧ R (IteT K a) H1
theorem pi_enumT {X : Cx} {e : Expr} {ta : TA} {p pos tpos : Pos} {elts : List Expr} {kk : Nat} (hg : Gl X "enumerate") (hm : X.mg "enumerate" = none) (ha : PA X [e] ta) (hs : starEach [e] X.env = [(false, eval e X.env)] := by rfl) : PI X (.Tuple elts kk tpos) (.Call (.Name "enumerate" p) [e] [] pos) (iEnumT X.K ta) := by
  refine ⟨fun pins s σ H R I h => Call_ (ld_blt I hg hm boot_enumerate (PyProof.Rows.callWith_type1 (thn (ha.run pos pins s σ H _ I h) fun us s1 ⟨vs, H1, I1, r1, q1⟩ => ?_) hs rfl))⟩
  obtain ⟨a, xs, rfl, hq, q⟩ := q1
  obtain ⟨u, rfl, ru⟩ := vals1 r1
  cases ru
  obtain ⟨its, rv, pt, hz⟩ := I1.tuple hq
  have hal : a < s1.heap.objs.size := pt.lt
  refine enum1 (begins_tuple a its.toArray) pt fun h' he hit hk => wpAny_pyIter_enum he ?_
  have I2 : Inv X pins σ H1 { s1 with heap := h' } := I1.kept (t' := s1.toks) hk
  refine ⟨s1.heap.objs.size + 1, [s1.heap.objs.size + 1, s1.heap.objs.size], _, _, H1, rfl, I2, turn_enumT a (s1.heap.objs.size + 1) s1.heap.objs.size, ⟨⟨.none, he⟩, ⟨_, hit, rfl, rfl⟩, Nat.succ_ne_self _, Nat.ne_of_gt (Nat.lt_succ_of_lt hal), Nat.ne_of_lt hal⟩, fun b hb => ?_, q⟩
  have hle : s1.heap.objs.size ≤ b := by
    rcases (show b = s1.heap.objs.size + 1 ∨ b = s1.heap.objs.size by simpa using hb) with z | z
    · rw [z]; exact Nat.le_add_right _ _
    · rw [z]; exact Nat.le_refl _
  exact I1.fpOk hle (I1.hok.fresh hle)
theorem walk_enumT {K : PySem.W.Frag} {a : Addr} {xs : List V} : Walk (IteT K a) xs.length (fun H => SqT K H a xs) (YPair (fun i => some (.int (i : Nat))) (fun i => xs[i]?)) :=
  ⟨fun i H hi q => ⟨xs, xs[i], q, List.getElem?_eq_getElem hi⟩, fun H q => ⟨xs, q, Nat.le_refl _⟩, fun i H x H' hi q y => by
    obtain ⟨T, z, e1, n, e2, hx⟩ := y
    exact ⟨T, _, z, e1, n, e2, rfl, hx xs q⟩⟩
end G
set_option Elab.async false
set_option linter.all false
set_option maxRecDepth 100000
set_option maxHeartbeats 4000000
/-! sets of keys of one kind that can be walked: set(xs), sorted(set(texts)) -/
namespace G
open PySem PySem.Spec PyProof.Rows L2
section
variable {P : Program} {w : World} {κ : Type} [DecidableEq κ]
/-- no two of them are one key -/
def Apart (kd : PySem.KeyKind P w κ) (l : List (Int × Value)) : Prop := l.Pairwise fun x y => ∀ k, kd.is k x.2 = true → kd.is k y.2 = true → False
theorem Apart.perm {kd : PySem.KeyKind P w κ} {l m : List (Int × Value)} (h : Apart kd l) (p : m.Perm l) : Apart kd m :=
  (p.pairwise_iff fun {x y} z k a b => z k b a).mpr h
/-- the set at a, with all that a walk needs -/
def SetG (kd : PySem.KeyKind P w κ) (h : Heap) (a : Addr) (S : κ → Bool) (n : Nat) : Prop :=
  ∃ o es ep t, h.get? a = some o ∧ o.ExactSet ∧ o.data = .set es ep t ∧ ElemsOf kd es.toList ∧ Apart kd es.toList ∧ (∀ k, S k = true ↔ ∃ e ∈ es.toList, kd.is k e.2 = true) ∧
    (es.size < scanBound ∧ t.fits es.size = true ∧ es.size = n) ∧ Ris t.place.toList ∧ (w.params.followText "set-order" = true ∨ t.led = true)
theorem SetG.at {kd : PySem.KeyKind P w κ} {h h2 : Heap} {a : Addr} {S : κ → Bool} {n : Nat} (R : SetG kd h a S n) (k : ∀ o, h.get? a = some o → h2.get? a = some o) : SetG kd h2 a S n :=
  let ⟨o, es, ep, t, ho, r⟩ := R
  ⟨o, es, ep, t, k o ho, r⟩
theorem SetG.of_eq {kd : PySem.KeyKind P w κ} {h : Heap} {a : Addr} {S S2 : κ → Bool} {n : Nat} (R : SetG kd h a S n) (e : ∀ k, S2 k = S k) : SetG kd h a S2 n := by
  obtain rfl : S2 = S := funext e
  exact R
def setOb (w : World) : Obj := { cls := .type "set", dict := none, data := .set #[] 0 (.fresh 0 0 (!w.params.followText "set-order")) }
theorem setG_new {kd : PySem.KeyKind P w κ} {h : Heap} {a : Addr} (ho : h.get? a = some (setOb w)) : SetG kd h a (fun _ => false) 0 := by
  refine ⟨_, #[], 0, _, ho, ⟨rfl, rfl, rfl⟩, rfl, fun e he => (by cases he), .nil, fun k => ⟨fun z => (by cases z), fun ⟨e, he, _⟩ => (by cases he)⟩, ⟨by decide, rfl, rfl⟩, .nil, ?_⟩
  show _ ∨ (!w.params.followText "set-order") = true
  cases w.params.followText "set-order" <;> simp
section
variable {A : Around} {E : Value → Shared → Prop} {s : Shared} {a : Addr}
theorem setG_tail {kd : PySem.KeyKind P w κ} {g : Bool → Sem Unit} (hg : ∀ (b : Bool) (s1 : Shared) (Q1 : Unit → Shared → Prop), Q1 () s1 → wpAny (model P w) A (g b) Q1 E s1)
    {o : Obj} {es : Array (Int × Value)} {ep : Nat} {t : SetTable} (ho : s.heap.get? a = some o) (ex : o.ExactSet) (dt : o.data = .set es ep t)
    {fs : Array (Int × Value)} {u : SetTable} {S : κ → Bool} (el : ElemsOf kd fs.toList) (ap : Apart kd fs.toList) (mm : ∀ k, S k = true ↔ ∃ e ∈ fs.toList, kd.is k e.2 = true)
    (bd : fs.size < scanBound) (ft : u.fits fs.size = true) (rs : Ris u.place.toList) (ld : w.params.followText "set-order" = true ∨ u.led = true) {wd : Bool} {R : Option Bool → Shared → Prop}
    (fin : ∀ h2, Heap.SameBut a s.heap h2 → SetG kd h2 a S fs.size → R (some true) { s with heap := h2 }) :
    wpAny (model P w) A (do
        storeSet a fs u
        if (!wd && u.tooFull) = true then do
            g (relayAll u fs (SetTable.grown fs.size)).2.2
            storeSet a (relayAll u fs (SetTable.grown fs.size)).1 (relayAll u fs (SetTable.grown fs.size)).2.1
            pure (some true)
          else pure (some true)) R E s := by
  refine wpAny_bind (wpAny_storeSet_of ho dt ?_ (fits_of_scanBound bd))
  have o1 := store_at (es' := fs) (t' := u) ho dt
  have b1 := Heap.SameBut.update s.heap a (Obj.putSet fs u)
  split
  · have pm := relayAll_perm u fs (SetTable.grown fs.size)
    have f3 := relayAll_fits u fs (SetTable.grown fs.size)
    have r3 := relayAll_ris u fs (SetTable.grown fs.size)
    have l3 := relayAll_led u fs (SetTable.grown fs.size)
    generalize relayAll u fs (SetTable.grown fs.size) = Z at pm f3 r3 l3 ⊢
    obtain ⟨gs, v, gave⟩ := Z
    dsimp only at pm f3 r3 l3 ⊢
    have sz : gs.size = fs.size := by rw [← Array.length_toList, pm.length_eq, Array.length_toList]
    have bd2 : gs.size < scanBound := by rw [sz]; exact bd
    refine wpAny_bind (hg _ _ _ (wpAny_bind (wpAny_storeSet_of o1 rfl ?_ (fits_of_scanBound bd2))))
    refine wpAny_pure (fin _ (b1.trans (Heap.SameBut.update _ a _)) ⟨_, gs, _, v, store_at (es' := gs) (t' := v) o1 rfl, ex, rfl, el.perm pm, ap.perm pm, fun k => (mm k).trans ?_, ⟨bd2, f3, sz⟩, r3, ld.imp id fun z => l3.trans z⟩)
    exact ⟨fun ⟨e, he, q⟩ => ⟨e, pm.mem_iff.mpr he, q⟩, fun ⟨e, he, q⟩ => ⟨e, pm.mem_iff.mp he, q⟩⟩
  · exact wpAny_pure (fin _ b1 ⟨_, fs, _, u, o1, ex, rfl, el, ap, mm, ⟨bd, ft, rfl⟩, rs, ld⟩)
theorem setG_add {kd : PySem.KeyKind P w κ} {S : κ → Bool} {n : Nat} {k : κ} {x : Value} {Q : Bool → Shared → Prop} (hk : kd.is k x = true) (sc : x.scannable = true) (R : SetG kd s.heap a S n) (room : n + 1 < scanBound)
    (fin : ∀ h2, Heap.SameBut a s.heap h2 → SetG kd h2 a (fun j => S j || decide (j = k)) (if S k = true then n else n + 1) → Q (!S k) { s with heap := h2 }) :
    wpAny (model P w) A (setAddHashed a x (kd.hash k)) Q E s := by
  obtain ⟨o, es, ep, t, ho, ex, dt, el, ap, mm, ⟨bd, ft, sz⟩, rs, ld⟩ := R
  unfold setAddHashed setAddHashedIn
  refine wpAny_holding (wpAny_bind (wpAny_setState_of ho dt ft ?_))
  dsimp only
  rw [byScan_of sc bd el]
  simp only [↓reduceIte]
  unfold setAddByScan
  refine wpAny_bind (wpAny_bind (wpAny_rule (wpAny_bind (wpAny_setScan_of hk ho dt ft el ?_))))
  cases fi : List.findIdx? (fun e => kd.is k e.2) es.toList with
  | some j =>
    dsimp only
    obtain ⟨hj, pj, _⟩ := List.findIdx?_eq_some_iff_getElem.mp fi
    have Sk : S k = true := (mm k).mpr ⟨es.toList[j], List.getElem_mem hj, pj⟩
    have q := fin s.heap (Heap.SameBut.refl a s.heap) ⟨o, es, ep, t, ho, ex, dt, el, ap, fun i => by
      rw [Bool.or_eq_true, decide_eq_true_eq, ← mm i]
      exact ⟨fun z => z.elim id fun y => y ▸ Sk, .inl⟩, ⟨bd, ft, by rw [if_pos Sk]; exact sz⟩, rs, ld⟩
    rw [Sk] at q
    exact wpAny_pure (wpAny_pure q)
  | none =>
    dsimp only
    have no : ∀ e ∈ es.toList, kd.is k e.2 = true → False := fun e he q => by
      have c := List.findIdx?_eq_none_iff.mp fi e he
      rw [q] at c
      cases c
    have Sk : S k = false := by
      cases q : S k with
      | false => rfl
      | true =>
        obtain ⟨e, he, r⟩ := (mm k).mp q
        exact (no e he r).elim
    have gw : ∀ (b : Bool) {s1 : Shared} {Q1 : Unit → Shared → Prop}, Q1 () s1 → wpAny (model P w) A (match b with | true => rule "set.scan.the-table-gave-way" | false => pure ()) Q1 E s1 :=
      fun b s1 Q1 q => by cases b <;> first | exact wpAny_pure q | exact wpAny_rule q
    have pm := layNew_perm t es (kd.hash k) x
    have f1 := layNew_fits t es (kd.hash k) x
    have r1 := layNew_ris t es (kd.hash k) x rs
    have l1 := layNew_led t es (kd.hash k) x
    generalize layNew t es (kd.hash k) x = Z at pm f1 r1 l1 ⊢
    obtain ⟨fs, u, wd, gave⟩ := Z
    dsimp only at pm f1 r1 l1 ⊢
    rw [Array.toList_push] at pm
    have el1 : ElemsOf kd fs.toList := (el.push hk sc).perm pm
    have ap1 : Apart kd fs.toList := by
      refine Apart.perm (List.pairwise_cons.mpr ⟨fun e he k' q1 q2 => ?_, ap⟩) (pm.trans (List.perm_append_singleton _ _))
      have : k' = k := kd.inj _ _ _ q1 hk
      subst this
      exact no e he q2
    have mm1 : ∀ i, (S i || decide (i = k)) = true ↔ ∃ e ∈ fs.toList, kd.is i e.2 = true := mem_push_iff hk mm pm
    have sz1 : fs.size = n + 1 := by
      have z := pm.length_eq
      rw [List.length_append, Array.length_toList, Array.length_toList, sz] at z
      exact z
    have bd1 : fs.size < scanBound := by rw [sz1]; exact room
    have ld1 : w.params.followText "set-order" = true ∨ u.led = true := ld.imp id fun z => l1.trans z
    have fin1 : ∀ h2, Heap.SameBut a s.heap h2 → SetG kd h2 a (fun j => S j || decide (j = k)) fs.size → Q true { s with heap := h2 } := fun h2 sb r => by
      have q := fin h2 sb
      rw [Sk] at q
      rw [sz1] at r
      exact q r
    refine wpAny_bind (gw _ ?_)
    split
    · refine wpAny_bind ?_
      rw [hashByValue_scannable 8 sc]
      refine wpAny_pure (setG_tail ?_ ho ex dt el1 ap1 mm1 bd1 ?_ ?_ ?_ ?_)
      · intro b s1 Q1 q
        cases b <;> first | exact wpAny_pure q | exact wpAny_rule q
      · first | (split <;> first | exact f1 | exact SetTable.fits_plain_off f1) | exact f1
      · first | (split <;> exact r1) | exact r1
      · first | (split <;> exact ld1) | exact ld1
      · intro h2 sb r
        dsimp only
        exact wpAny_pure (fin1 h2 sb r)
    · refine wpAny_bind (wpAny_pure ?_)
      simp only [↓reduceIte]
      refine setG_tail ?_ ho ex dt el1 ap1 mm1 bd1 f1 r1 ld1 ?_
      · intro b s1 Q1 q
        cases b <;> first | exact wpAny_pure q | exact wpAny_rule q
      · intro h2 sb r
        dsimp only
        exact wpAny_pure (fin1 h2 sb r)
/-- the walk of set.update -/
theorem setG_loop {kd : PySem.KeyKind P w κ} {I : Addr} {fp wr : List Addr} {G : Array GenState → Array GenState → Prop} {n : Nat} {Pv : Nat → Value → Prop} {St : Nat → Shared → Prop} {R : Result → Shared → Prop}
    (W : WalksS P w A.in1 I fp wr G n Pv St) (S : Addr) (nf : S ∉ fp) (ks : List κ) (hn : n = ks.length) (bd : ks.length + 1 < scanBound) (hv : ∀ i v, Pv i v → ∃ k, ks[i]? = some k ∧ kd.is k v = true ∧ v.scannable = true) :
    ∀ (m i : Nat) (s : Shared), n - i = m → i ≤ n → St i s → (∃ c, c ≤ i ∧ SetG kd s.heap S (fun j => decide (j ∈ ks.take i)) c) →
      (∀ s2 c, Moved (S :: wr) G s s2 → c ≤ n → SetG kd s2.heap S (fun j => decide (j ∈ ks)) c → R (.ok (.ret .none)) s2) →
      codeAny (model P w) A (.builtin "set.update.loop" ⟨[.ref S, .ref I], []⟩) R s := by
  have nw : S ∉ wr := fun z => nf (W.sub _ z)
  have up : ∀ b ∈ wr, b ∈ S :: wr := fun b z => .tail _ z
  intro m
  induction m with
  | zero =>
    rintro i s e0 e1 st ⟨c, hc, hS⟩ fin
    obtain rfl : i = n := by omega
    refine codeAny_builtin F.entry_set_update_loop ?_
    rw [Around.under_plainId F.plain_set_update_loop _]
    show wpAny _ A.in1 (pyNext (.ref I) >>= _) _ _ s
    rw [List.take_of_length_le (Nat.le_of_eq hn.symm)] at hS
    refine wpAny_bind (W.done s _ _ st fun s2 mv => ?_)
    show wpAny _ A.in1 (ret Value.none) _ _ s2
    exact wpAny_pure (fin s2 c (mv.mono up) hc (hS.at fun o e => mv.heap S o nw e))
  | succ m ih =>
    rintro i s e0 e1 st ⟨c, hc, hS⟩ fin
    have lt : i < n := by omega
    refine codeAny_builtin F.entry_set_update_loop ?_
    rw [Around.under_plainId F.plain_set_update_loop _]
    show wpAny _ A.in1 (pyNext (.ref I) >>= _) _ _ s
    refine wpAny_bind (W.item i s _ _ lt st fun v s2 pv st2 mv => ?_)
    obtain ⟨k, ek, ik, sk⟩ := hv i v pv
    have hS2 : SetG kd s2.heap S (fun j => decide (j ∈ ks.take i)) c := hS.at fun o e => mv.heap S o nw e
    show wpAny _ A.in1 (holding [v] (setAdd S v) >>= _) _ _ s2
    refine wpAny_bind (wpAny_holding ?_)
    unfold setAdd
    refine wpAny_holding (wpAny_bind (kd.pyHash (k := k) ik (setG_add (s := { s2 with toks := s2.toks + 1 }) ik sk hS2 (by omega) fun h2 sb hS3 => ?_)))
    have hS4 : SetG kd h2 S (fun j => decide (j ∈ ks.take (i + 1))) (if decide (k ∈ ks.take i) = true then c else c + 1) := hS3.of_eq fun j => by
      rw [List.take_add_one, ek]
      simp [List.mem_append]
    have hc4 : (if decide (k ∈ ks.take i) = true then c else c + 1) ≤ i + 1 := by split <;> omega
    have oth : ∀ b, b ≠ S → h2.get? b = s2.heap.get? b := fun b z => sb.2 b z
    refine wpAny_pure ⟨plainId_quiet F.plain_set_update_loop _, ih (i + 1) _ (by omega) lt (W.frame _ s2 _ _ st2 (Nat.le_succ _) fun b hb o e => (oth b fun z => nf (z ▸ hb)).trans e) ⟨_, hc4, hS4⟩ fun s3 c3 mv3 hc3 hS5 => ?_⟩
    exact fin s3 c3 (Moved.trans W.gtrans ((mv.mono up).then_heap (Nat.le_succ _) fun b o hb e => (oth b fun z => hb (z ▸ .head _)).trans e) mv3) hc3 hS5
theorem setG_of_tuple {kd : PySem.KeyKind P w κ} {l : Addr} {items : Array Value} (ks : List κ) {Q : Value → Shared → Prop} (hh : A.handled = none) (hl : s.heap.IsTuple l items) (sz : items.size = ks.length) (hv : ∀ (i : Nat) (v : Value), items[i]? = some v → ∃ k, ks[i]? = some k ∧ kd.is k v = true ∧ v.scannable = true) (bd : ks.length + 1 < scanBound)
    (fin : ∀ (h2 : Heap) (tk c : Nat), SetG kd h2 s.heap.objs.size (fun j => decide (j ∈ ks)) c → c ≤ ks.length → (∀ b o, s.heap.get? b = some o → h2.get? b = some o) → Q (.ref s.heap.objs.size) { s with heap := h2, toks := tk }) :
    wpAny (model P w) A (call (.type "set") [.ref l]) Q E s := by
  obtain ⟨c, tl, mro⟩ := F.called_set.mro
  have made := F.called_set.made
  have sub := F.called_set.sub
  refine wpAny_call (codeAny_of_tree ?_)
  show wpAny _ _ (callAny (.type "set") _) _ _ _
  refine wpAny_pure ⟨Code.quiet_builtin _ (by decide +kernel), codeAny_builtin F.entry_type_call ?_⟩
  rw [Around.under_plain (weight_type_call_type "set" [.ref l] []) rfl]
  have t1 := F.called_set.notType
  have t2 := F.called_set.canCreate
  have t3 := F.typeCall_set_1 (.ref l)
  repeat (any_goals (first | assumption | wp_step))
  refine codeAny_mono (code_set_led1 (.ref l) (E := E) (Q₁ := fun ob s1 => ob = .ref s.heap.objs.size ∧ s1 = { s with heap := s.heap.push (setOb w) }) ⟨rfl, rfl⟩) fun r s1 hr => ?_
  cases r with
  | error e => exact hr
  | ok fl =>
    cases fl with
    | ret obj =>
      obtain ⟨rfl, rfl⟩ := hr
      have new : (s.heap.push (setOb w)).get? s.heap.objs.size = some (setOb w) := Heap.get?_push_size _ rfl
      have tyS : Shared.TypeIs { s with heap := s.heap.push (setOb w) } (.ref s.heap.objs.size) "set" := ⟨_, new, rfl⟩
      have i1 := F.called_set.init.lookup
      have i2 := F.called_set.init.bind (.ref s.heap.objs.size)
      repeat (any_goals (first | assumption | wp_step))
      refine codeAny_mono (codeAny_call_builtin (R := wants (fun r s2 => r = .none ∧ ∃ h2 tk c, s2 = { s with heap := h2, toks := tk } ∧ SetG kd h2 s.heap.objs.size (fun j => decide (j ∈ ks)) c ∧ c ≤ ks.length ∧
          (∀ b o, s.heap.get? b = some o → h2.get? b = some o)) E) F.called_set.init.plain F.entry_set_init (check_set_init_1 tyS ?_)) fun r2 s2 hr2 => ?_
      · obtain ⟨ol, hol, hcl, nl, hdl⟩ := hl
        obtain ⟨ocls, odict, odata, oslots⟩ := ol
        simp only at hcl hdl
        subst hcl; subst hdl
        have hol2 : (s.heap.push (setOb w)).get? l = some { cls := .type "tuple", dict := odict, data := .seq items nl, slots := oslots } := Heap.get?_push_of_some _ hol
        have u1 := F.sub_tuple_set
        have u2 := F.sub_tuple_frozenset
        have u3 : (Value.type "tuple" == Value.type "dict") = false := by decide
        have hl1 : (s.heap.push (setOb w)).IsTuple l items := ⟨_, hol2, rfl, nl, rfl⟩
        unfold Builtin.«set.__init__» noKeywords Builtin.Frozenset.updateFrom
        generalize hPI : pyIter = PI
        wp_walk
        subst hPI
        refine wpAny_pyIter_tuple hl1 (wpAny_bind (wpAny_runValue ?_))
        have lS : l < s.heap.objs.size := Heap.lt_size hol
        have hh3 : A.in1.in1.in1.handled = none := by simp [hh]
        have lI : l ≠ (s.heap.push (setOb w)).objs.size := by rw [Heap.size_push]; exact Nat.ne_of_lt (Nat.lt_succ_of_lt lS)
        have nS : s.heap.objs.size ∉ [(s.heap.push (setOb w)).objs.size, l] := by
          rw [Heap.size_push]
          intro z
          rcases List.mem_cons.mp z with z | z
          · exact absurd z (Nat.ne_of_lt (Nat.lt_succ_self _))
          · exact absurd (List.mem_singleton.mp z) (Nat.ne_of_gt lS)
        refine setG_loop ((Walks.tuple hh3 _ l lI items).toS) s.heap.objs.size nS ks sz bd hv (items.size - 0) 0 _ (by omega) (Nat.zero_le _) ⟨⟨_, Heap.get?_push_size _ rfl, rfl, rfl⟩, (hl1.push _)⟩
          ⟨0, Nat.le_refl 0, (setG_new (Heap.get?_push_of_some _ new)).of_eq fun k => (by rw [List.take_zero]; exact decide_eq_false List.not_mem_nil)⟩ fun s3 c3 mv hc hS => ?_
        obtain ⟨h2, g2, d2, tk2, os2⟩ := s3
        obtain rfl : g2 = s.gens := mv.gens
        obtain rfl : d2 = s.drawn := mv.drawn
        obtain rfl : os2 = s.os := mv.os
        rw [sz] at hc
        show wpAny _ _ _ _ _ _
        refine wpAny_pure ?_
        show wpAny _ _ (ret Value.none) _ _ _
        refine wpAny_pure ⟨rfl, h2, tk2, c3, rfl, hS, hc, fun b o e => ?_⟩
        have b0 : b < s.heap.objs.size := Heap.lt_size e
        refine mv.heap b o (fun z => ?_) (Heap.get?_push_of_some _ (Heap.get?_push_of_some _ e))
        rcases List.mem_cons.mp z with z | z
        · exact absurd z (Nat.ne_of_lt b0)
        · have z := List.mem_singleton.mp z
          rw [Heap.size_push] at z
          exact absurd z (Nat.ne_of_lt (Nat.lt_succ_of_lt b0))
      · cases r2 with
        | error e => exact hr2
        | ok fl2 =>
          cases fl2 with
          | ret r =>
            obtain ⟨rfl, h2, tk, c3, rfl, hS, hc, ol⟩ := hr2
            repeat (any_goals (first | assumption | wp_step))
            exact fin _ _ _ hS hc ol
          | _ => exact hr2.elim
    | _ => exact hr.elim
theorem setG_of_list {kd : PySem.KeyKind P w κ} {l : Addr} {items : Array Value} (ks : List κ) {Q : Value → Shared → Prop} (hh : A.handled = none) (hl : s.heap.IsList l items) (sz : items.size = ks.length) (hv : ∀ (i : Nat) (v : Value), items[i]? = some v → ∃ k, ks[i]? = some k ∧ kd.is k v = true ∧ v.scannable = true) (bd : ks.length + 1 < scanBound)
    (fin : ∀ (h2 : Heap) (tk c : Nat), SetG kd h2 s.heap.objs.size (fun j => decide (j ∈ ks)) c → c ≤ ks.length → (∀ b o, s.heap.get? b = some o → h2.get? b = some o) → Q (.ref s.heap.objs.size) { s with heap := h2, toks := tk }) :
    wpAny (model P w) A (call (.type "set") [.ref l]) Q E s := by
  obtain ⟨c, tl, mro⟩ := F.called_set.mro
  have made := F.called_set.made
  have sub := F.called_set.sub
  refine wpAny_call (codeAny_of_tree ?_)
  show wpAny _ _ (callAny (.type "set") _) _ _ _
  refine wpAny_pure ⟨Code.quiet_builtin _ (by decide +kernel), codeAny_builtin F.entry_type_call ?_⟩
  rw [Around.under_plain (weight_type_call_type "set" [.ref l] []) rfl]
  have t1 := F.called_set.notType
  have t2 := F.called_set.canCreate
  have t3 := F.typeCall_set_1 (.ref l)
  repeat (any_goals (first | assumption | wp_step))
  refine codeAny_mono (code_set_led1 (.ref l) (E := E) (Q₁ := fun ob s1 => ob = .ref s.heap.objs.size ∧ s1 = { s with heap := s.heap.push (setOb w) }) ⟨rfl, rfl⟩) fun r s1 hr => ?_
  cases r with
  | error e => exact hr
  | ok fl =>
    cases fl with
    | ret obj =>
      obtain ⟨rfl, rfl⟩ := hr
      have new : (s.heap.push (setOb w)).get? s.heap.objs.size = some (setOb w) := Heap.get?_push_size _ rfl
      have tyS : Shared.TypeIs { s with heap := s.heap.push (setOb w) } (.ref s.heap.objs.size) "set" := ⟨_, new, rfl⟩
      have i1 := F.called_set.init.lookup
      have i2 := F.called_set.init.bind (.ref s.heap.objs.size)
      repeat (any_goals (first | assumption | wp_step))
      refine codeAny_mono (codeAny_call_builtin (R := wants (fun r s2 => r = .none ∧ ∃ h2 tk c, s2 = { s with heap := h2, toks := tk } ∧ SetG kd h2 s.heap.objs.size (fun j => decide (j ∈ ks)) c ∧ c ≤ ks.length ∧
          (∀ b o, s.heap.get? b = some o → h2.get? b = some o)) E) F.called_set.init.plain F.entry_set_init (check_set_init_1 tyS ?_)) fun r2 s2 hr2 => ?_
      · obtain ⟨ol, hol, hcl, nl, hdl⟩ := hl
        obtain ⟨ocls, odict, odata, oslots⟩ := ol
        simp only at hcl hdl
        subst hcl; subst hdl
        have hol2 : (s.heap.push (setOb w)).get? l = some { cls := .type "list", dict := odict, data := .seq items nl, slots := oslots } := Heap.get?_push_of_some _ hol
        have u1 := F.sub_list_set
        have u2 := F.sub_list_frozenset
        have u3 : (Value.type "list" == Value.type "dict") = false := by decide
        have hl1 : (s.heap.push (setOb w)).IsList l items := ⟨_, hol2, rfl, nl, rfl⟩
        unfold Builtin.«set.__init__» noKeywords Builtin.Frozenset.updateFrom
        generalize hPI : pyIter = PI
        wp_walk
        subst hPI
        refine wpAny_pyIter_list hl1 (wpAny_bind (wpAny_runValue ?_))
        have lS : l < s.heap.objs.size := Heap.lt_size hol
        have hh3 : A.in1.in1.in1.handled = none := by simp [hh]
        have lI : l ≠ (s.heap.push (setOb w)).objs.size := by rw [Heap.size_push]; exact Nat.ne_of_lt (Nat.lt_succ_of_lt lS)
        have nS : s.heap.objs.size ∉ [(s.heap.push (setOb w)).objs.size, l] := by
          rw [Heap.size_push]
          intro z
          rcases List.mem_cons.mp z with z | z
          · exact absurd z (Nat.ne_of_lt (Nat.lt_succ_self _))
          · exact absurd (List.mem_singleton.mp z) (Nat.ne_of_gt lS)
        refine setG_loop ((Walks.list hh3 _ l lI items).toS) s.heap.objs.size nS ks sz bd hv (items.size - 0) 0 _ (by omega) (Nat.zero_le _) ⟨⟨_, Heap.get?_push_size _ rfl, rfl, rfl⟩, (hl1.push _)⟩
          ⟨0, Nat.le_refl 0, (setG_new (Heap.get?_push_of_some _ new)).of_eq fun k => (by rw [List.take_zero]; exact decide_eq_false List.not_mem_nil)⟩ fun s3 c3 mv hc hS => ?_
        obtain ⟨h2, g2, d2, tk2, os2⟩ := s3
        obtain rfl : g2 = s.gens := mv.gens
        obtain rfl : d2 = s.drawn := mv.drawn
        obtain rfl : os2 = s.os := mv.os
        rw [sz] at hc
        show wpAny _ _ _ _ _ _
        refine wpAny_pure ?_
        show wpAny _ _ (ret Value.none) _ _ _
        refine wpAny_pure ⟨rfl, h2, tk2, c3, rfl, hS, hc, fun b o e => ?_⟩
        have b0 : b < s.heap.objs.size := Heap.lt_size e
        refine mv.heap b o (fun z => ?_) (Heap.get?_push_of_some _ (Heap.get?_push_of_some _ e))
        rcases List.mem_cons.mp z with z | z
        · exact absurd z (Nat.ne_of_lt b0)
        · have z := List.mem_singleton.mp z
          rw [Heap.size_push] at z
          exact absurd z (Nat.ne_of_lt (Nat.lt_succ_of_lt b0))
      · cases r2 with
        | error e => exact hr2
        | ok fl2 =>
          cases fl2 with
          | ret r =>
            obtain ⟨rfl, h2, tk, c3, rfl, hS, hc, ol⟩ := hr2
            repeat (any_goals (first | assumption | wp_step))
            exact fin _ _ _ hS hc ol
          | _ => exact hr2.elim
    | _ => exact hr.elim
end
end
/-! ### of texts -/
def txOf (v : Value) : Str := match v with
  | .str x _ => x
  | _ => Str.empty
theorem strs_of : ∀ (l : List Value), (∀ v ∈ l, ∃ x t, v = Value.str x t) → StrsAre l (l.map txOf)
  | [], _ => .nil
  | v :: l, h => by
    obtain ⟨x, t, rfl⟩ := h v (.head _)
    exact .cons x t (strs_of l fun u hu => h u (.tail _ hu))
theorem is_tx {P : Program} {w : World} {k : Str} {v : Value} (h : (PySem.strKind P w).is k v = true) : txOf v = k ∧ ∃ t, v = .str k t := by
  obtain ⟨t, rfl⟩ := Value.isStrOf_shape h
  exact ⟨rfl, t, rfl⟩
def SetS (P : Program) (w : World) (a : Addr) (S : Str → Bool) (n : Nat) : HO := .ext fun h => SetG (PySem.strKind P w) h a S n
theorem setS_new {w : World} {P : Program} {H : Hp} {h : Heap} {a : Addr} {S : Str → Bool} {n : Nat} (R : SetG (PySem.strKind P w) h a S n) : ObjOk P w H h a (SetS P w a S n) := by
  have ⟨o, _, _, _, ho, _⟩ := R
  exact ⟨R, ⟨o, ho⟩, fun _ _ p k => SetG.at p k⟩
section
variable {X : Cx}
/-- set(xs) of a list or tuple of texts -/
def rSetS (K : PySem.W.Frag) (P : Program) (w : World) : List V → Hp → VK → Prop := fun vs H Q => ∃ (l : Addr) (ks : List Str), vs = [.ref l] ∧ (SqL K H l (ks.map V.str) ∨ SqT K H l (ks.map V.str)) ∧ ks.length + 1 < scanBound ∧
  ∀ p c, H p = none → c ≤ ks.length → Q (.ref p) (upd H p (SetS P w p (fun j => decide (j ∈ ks)) c))
theorem vals_tx {ks : List Str} {us : List Value} (r : Vals (ks.map V.str) us) {P : Program} {w : World} (i : Nat) (v : Value) (h : us.toArray[i]? = some v) : ∃ k, ks[i]? = some k ∧ (PySem.strKind P w).is k v = true ∧ v.scannable = true := by
  have e : us[i]? = some v := by simpa using h
  have hi : i < (ks.map V.str).length := by
    rw [r.length]
    exact (List.getElem?_eq_some_iff.mp e).1
  have hi2 : i < ks.length := by simpa using hi
  obtain ⟨u, eu, ru⟩ := r.get (i := i) (x := .str ks[i]) (by rw [List.getElem?_map, List.getElem?_eq_getElem hi2]; rfl)
  rw [e] at eu
  cases eu
  obtain ⟨t, rfl⟩ := ru
  exact ⟨ks[i], List.getElem?_eq_getElem hi2, strKind_is _ _ _ _, rfl⟩
theorem cr_setS (hc : X.calm = true) : CallR X (.type "set") (rSetS X.K X.prog X.w) := by
  intro pins s σ H vs us Q I r h
  obtain ⟨l, ks, rfl, hq, bd, q⟩ := h
  obtain ⟨u, rfl, ru⟩ := vals1 r
  cases ru
  have fin : ∀ (h2 : Heap) (tk c : Nat), SetG (PySem.strKind X.prog X.w) h2 s.heap.objs.size (fun j => decide (j ∈ ks)) c → c ≤ ks.length → (∀ b o, s.heap.get? b = some o → h2.get? b = some o) →
      ∃ v H1, Inv X pins σ H1 { s with heap := h2, toks := tk } ∧ RelV v (.ref s.heap.objs.size) ∧ Q v H1 := fun h2 tk c hS hc ol =>
    ⟨.ref s.heap.objs.size, _, I.laid (t' := tk) ol (Nat.le_refl _) (setS_new hS), rfl, q _ c (I.hok.fresh (Nat.le_refl _)) hc⟩
  rcases hq with hq | hq
  · obtain ⟨its, rv, p, hz⟩ := I.list hq
    exact setG_of_list ks (I.ok.hd hc) p.isList (by rw [List.size_toArray, ← rv.length, List.length_map]) (fun i v e => vals_tx rv i v e) bd fin
  · obtain ⟨its, rv, p, hz⟩ := I.tuple hq
    exact setG_of_tuple ks (I.ok.hd hc) p (by rw [List.size_toArray, ← rv.length, List.length_map]) (fun i v e => vals_tx rv i v e) bd fin
/-- sorted(s), s such a set of fewer than 64 -/
def rSortS (P : Program) (w : World) : List V → Hp → VK → Prop := fun vs H Q => ∃ (a : Addr) (S : Str → Bool) (n : Nat), vs = [.ref a] ∧ H a = some (SetS P w a S n) ∧ n < 64 ∧
  ∀ (ys : List Str) (p : Addr), sortedS ys = true → ys.Nodup → (∀ k, k ∈ ys ↔ S k = true) → ys.length = n → H p = none → Q (.ref p) (upd H p (.lst (ys.map V.str)))
theorem cr_sortS (hc : X.calm = true) : CallR X (.builtin "sorted") (rSortS X.prog X.w) := by
  intro pins s σ H vs us Q I r h
  obtain ⟨a, S, n, rfl, ha, h64, q⟩ := h
  obtain ⟨u, rfl, ru⟩ := vals1 r
  cases ru
  obtain ⟨o, es, ep, t, ho, ex, dt, el, ap, mm, ⟨bd, ft, sz⟩, rs, ld⟩ := (I.hok a _ ha).1
  refine Calls.call_function_entry kind_sorted plain_sorted entry_sorted (args_sorted1 _) ?_
  unfold Builtin.«sorted»
  refine wpAny_bind (m := checkCount "sorted" 1 1 _) (wpAny_pure (wpAny_bind (collect_set (A := X.A.in1) (I.ok.hd hc) ⟨o, ho, ex.1, dt⟩ ft bd rs ld fun s1 xs k1 hz g1 o1 pm => ?_)))
  have len : xs.length = n := by rw [pm.length_eq, List.length_map, Array.length_toList]; exact sz
  have key : ∀ e ∈ es.toList, ∃ x tk, e.2 = Value.str x tk := fun e he => by
    obtain ⟨⟨k, ik, _⟩, _⟩ := el e he
    obtain ⟨_, tk, ev⟩ := is_tx ik
    exact ⟨k, tk, ev⟩
  have hS : StrsAre xs (xs.map txOf) := strs_of xs fun v hv => by
    obtain ⟨e, he, ev⟩ := List.mem_map.mp (pm.mem_iff.mp hv)
    obtain ⟨x, tk, ex⟩ := key e he
    exact ⟨x, tk, ev.symm.trans ex⟩
  have pk : (xs.map txOf).Perm (es.toList.map fun e => txOf e.2) := by
    have z := pm.map txOf
    rw [List.map_map] at z
    exact z
  have nd : (es.toList.map fun e => txOf e.2).Nodup := by
    refine List.pairwise_map.mpr (List.Pairwise.imp_of_mem (fun {x y} hx hy z e => ?_) ap)
    obtain ⟨a1, t1, e1⟩ := key x hx
    obtain ⟨a2, t2, e2⟩ := key y hy
    rw [e1, e2] at z e
    obtain rfl : a1 = a2 := e
    exact z a1 (strKind_is _ _ _ _) (strKind_is _ _ _ _)
  have mem : ∀ k, k ∈ xs.map txOf ↔ S k = true := fun k => by
    rw [pk.mem_iff, mm k, List.mem_map]
    constructor
    · rintro ⟨e, he, rfl⟩
      obtain ⟨a1, t1, e1⟩ := key e he
      exact ⟨e, he, by rw [e1]; exact strKind_is _ _ _ _⟩
    · rintro ⟨e, he, ik⟩
      exact ⟨e, he, (is_tx ik).1⟩
  refine wpAny_bind (wpAny_newList ?_ (by rw [len, sizeLine_eq]; omega))
  have oL : (s1.heap.push (seqObj "list" xs.toArray 0)).get? s1.heap.objs.size = some (seqObj "list" xs.toArray 0) := Heap.get?_push_size _ rfl
  refine wpAny_bind (wpAny_holding (wpAny_call_entry slot_list_sort ⟨_, oL, rfl⟩ entry_list_sort (list_sort_treeK strKind_oneLt oL hS.keysOf (fun v1 v2 rest e => keyKind_strs (by rw [← e]; exact hS)) (by rw [len]; exact h64) fun st2 p1 p2 => ⟨_, rfl, ?_⟩) (args_list_sort _)))
  obtain ⟨ys, g2, g3, g4⟩ := sorted_out_str hS p1 p2
  obtain ⟨c, hcx⟩ := sortedHeap_at (vs := xs) (out := (arrOf st2).map (·.2)) oL
  have ly : ys.length = n := by rw [g3.length_eq, List.length_map]; exact len
  have hlen : (ys.map V.str).length ≤ sizeLine := by rw [List.length_map, ly, sizeLine_eq]; omega
  have fr : H s1.heap.objs.size = none := I.hok.fresh hz
  have kp : ∀ b u, s.heap.get? b = some u → (sortedHeap (s1.heap.push (seqObj "list" xs.toArray 0)) s1.heap.objs.size xs ((arrOf st2).map (·.2))).get? b = some u := fun b u e => by
    have y := k1 b u e
    have lt := Heap.lt_size y
    rw [sortedHeap_old (Nat.ne_of_lt lt) (by rw [size_push']; exact Nat.lt_succ_of_lt lt)]
    exact Heap.get?_push_of_some _ y
  have J : Inv X pins σ (upd H s1.heap.objs.size (.lst (ys.map V.str))) { s with heap := sortedHeap (s1.heap.push (seqObj "list" xs.toArray 0)) s1.heap.objs.size xs ((arrOf st2).map (·.2)), gens := s1.gens, drawn := s1.drawn, toks := s1.toks } :=
    I.call (ch := []) (Un.laid kp hz fr) (I.hok.laid kp hz ⟨hlen, ((arrOf st2).map (·.2)).toList, c, vals_of_strs g2, by rw [Array.toArray_toList]; exact hcx⟩) (by rw [g1]; exact I.bare) (fun _ z => nomatch z)
  refine wpAny_pure ⟨_, rfl, .ref s1.heap.objs.size, _, ?_, rfl, q ys _ g4 ((g3.trans pk).nodup_iff.mpr nd) (fun k => by rw [g3.mem_iff]; exact mem k) ly fr⟩
  rw [← o1] at J
  exact J
end
end G
set_option Elab.async false
set_option linter.all false
set_option maxRecDepth 100000
set_option maxHeartbeats 2000000
/-! str(o), repr(o), len(o) of an own instance, by the class's own defs -/
namespace G
open PySem PySem.Spec PyProof.Rows L2
section
variable {X : Cx} {C f : Addr} {k : Nat} {fd : FuncData} {ps : List Str} {sp : Sp}
theorem inst_at {pins : List (Addr × Obj)} {σ : L2.St} {H : Hp} {s : Shared} {a dx : Addr} {fs : List (Str × V)} (I : L2.Inv X pins σ H s) (e : H a = some (.ins C dx fs)) : ∃ od, PySem.W.InstAt s.heap a (PySem.W.instObj C dx) C (some od) := by
  obtain ⟨mA, O, r, _, _, _⟩ := ins_get I.hok e
  obtain ⟨od, h, _⟩ := O.look
  exact ⟨od, h⟩
/-- what a def of the class, called with the object alone, leaves -/
def rOwn (C : Addr) (sp : Sp) (R : V → Hp → VK → Prop) : List V → Hp → VK → Prop := fun xs H Q => ∃ (a dx : Addr) (fs : List (Str × V)), xs = [.ref a] ∧ H a = some (.ins C dx fs) ∧ sp [.ref a] H (fun v H2 => R v H2 Q) E0
def isT : V → Hp → VK → Prop := fun v H Q => ∃ y : Str, v = .str y ∧ Q (.str y) H
theorem own_run {p : Str} {A : Around} (F : FnOk X.prog X.w X.K X.mg X.base CX0 k f fd [p] sp) (hr : Room k A) (fr : A.frames = X.A.frames) (hb : Binds X.K fd [p] []) {pins : List (Addr × Obj)} {σ : L2.St} {H : Hp} {s : Shared} {a : Addr} {Q : VK} {T : Value → Shared → Prop} (I : L2.Inv X pins σ H s)
    (h : sp [.ref a] H Q E0) (fin : ∀ u s', EP X pins σ Q u s' → T u s') : wpAny (model X.prog X.w) A (call (.ref f) [.ref a]) T X.xe s := by
  have e0 : Env0 X.prog X.w X.K X.mg X.base A X.stack s H := { I.env0 with frames := fr.trans I.env0.frames }
  refine wpAny_call (codeAny_mono (F.run A X.stack s H ⟨[.ref a], []⟩ [.ref a] [.ref a] Q E0 hr e0 (hb s [.ref a] I.kIn rfl) (.cons rfl .nil) h) fun r s' hq => ?_)
  cases r with
  | error e => exact hq.elim
  | ok fl =>
    cases fl with
    | ret u => exact fin u s' (I.after hq)
    | _ => exact hq.elim
theorem cr_strOwn {p : Str} (hs : PySem.W.findIn X.K (.ref C) "__str__" = some (some (.ref f))) (hf : PySem.W.isFn X.K (.ref f) = true) (F : FnOk X.prog X.w X.K X.mg X.base CX0 k f fd [p] sp) (hb : Binds X.K fd [p] []) (hr : Room (k + 2) X.A) : CallR X (.type "str") (rOwn C sp isT) := by
  intro pins s σ H xs us Q I r h
  obtain ⟨a, dx, fs, rfl, ha, q⟩ := h
  obtain ⟨u, rfl, ru⟩ := vals1 r
  cases ru
  obtain ⟨od, ia⟩ := inst_at I ha
  have hr2 : Room k X.A.in1.in1 := hr.in1.in1
  refine PySem.W.kso_call (by have := hr2.un; omega) I.kIn ia hs hf (own_run F hr2 rfl hb I q fun u s' he => ?_)
  obtain ⟨v, H2, J, rv, y, rfl, q2⟩ := he
  obtain ⟨t, rfl⟩ := rv
  exact ⟨.str y, H2, J, ⟨t, rfl⟩, q2⟩
theorem cr_reprOwn {p : Str} (hs : PySem.W.findIn X.K (.ref C) "__repr__" = some (some (.ref f))) (hf : PySem.W.isFn X.K (.ref f) = true) (F : FnOk X.prog X.w X.K X.mg X.base CX0 k f fd [p] sp) (hb : Binds X.K fd [p] []) (hr : Room (k + 1) X.A) : CallR X (.builtin "repr") (rOwn C sp isT) := by
  intro pins s σ H xs us Q I r h
  obtain ⟨a, dx, fs, rfl, ha, q⟩ := h
  obtain ⟨u, rfl, ru⟩ := vals1 r
  cases ru
  obtain ⟨od, ia⟩ := inst_at I ha
  have hr2 : Room k X.A.in1 := hr.in1
  refine Calls.call_function_entry PySem.F.kind_repr PySem.F.plain_repr PySem.F.entry_repr (PySem.F.args_repr1 _) ?_
  unfold Builtin.«repr»
  refine wpAny_bind (m := oneArg "repr" _) (wpAny_pure (wpAny_bind (m := cRoomFor _ _) (wpAny_cRoomFor (by have := hr2.un; omega) ?_)))
  refine wpAny_bind (m := specialOf _ _) (wpAny_bind (ia.type.here ((PySem.W.looks_findIn I.kIn hs).here ?_)))
  refine wpAny_bind (m := callSpecialIfBound? (.ref a) (Str.ofString "__repr__") _) (PySem.W.ifBound_K I.kIn ia hs hf (own_run F hr2 rfl hb I q fun u s' he => ?_))
  obtain ⟨v, H2, J, rv, y, rfl, q2⟩ := he
  obtain ⟨t, rfl⟩ := rv
  refine wpAny_bind (wpAny_isInstance (T := "str") (b := true) rfl isSubtype_str_str ?_)
  exact wpAny_pure ⟨_, rfl, .str y, H2, J, ⟨t, rfl⟩, q2⟩
end
end G
set_option Elab.async false
set_option linter.all false
set_option maxRecDepth 100000
set_option maxHeartbeats 1000000
namespace G
open PySem PySem.Spec PyProof.Rows L2 TL
/-! ### texts -/
theorem tl_inj {x y : Str} (h : tl x = tl y) : x = y := by
  obtain ⟨a⟩ := x
  obtain ⟨b⟩ := y
  exact congrArg Str.mk (Array.toList_inj.mp h)
theorem app_assoc (x y z : Str) : (x ++ y) ++ z = x ++ (y ++ z) := tl_inj (by rw [tl_append, tl_append, tl_append, tl_append, List.append_assoc])
theorem app_nil (x : Str) : x ++ (Str.ofString "") = x := tl_inj (by
  rw [tl_append]
  have e : tl (Str.ofString "") = [] := by decide +kernel
  rw [e, List.append_nil])
theorem joinL_le (s : List Nat) : ∀ ps : List (List Nat), (joinL s ps).length ≤ (ps.map List.length).sum + ps.length * s.length
  | [] => Nat.zero_le _
  | [p] => by simp [joinL]
  | p :: q :: r => by
    have ih := joinL_le s (q :: r)
    show (p ++ (s ++ joinL s (q :: r))).length ≤ _
    rw [List.length_append, List.length_append, List.map_cons, List.sum_cons, List.length_cons, Nat.succ_mul]
    omega
theorem join_le (s : Str) (ys : List Str) : (Txt.join s ys).length ≤ (ys.map (·.length)).sum + ys.length * s.length := by
  rw [join_eq, len_tl, tl_join, len_tl]
  have h := joinL_le (tl s) (ys.map tl)
  rw [List.map_map, List.length_map] at h
  have e : (ys.map (List.length ∘ tl)) = ys.map (·.length) := List.map_congr_left fun y _ => (len_tl y).symm
  rw [e] at h
  exact h
/-! ### lists of places -/
structure Sh where
  a : Int
  b : Int
  c : Int
  d : Int
inductive Fo where
  | nil
  | cons (nm : Str) (td : Option Sh) (i r : Fo)
namespace Fo
def depth : Fo → Nat
  | nil => 0
  | cons _ _ i r => max (1 + i.depth) r.depth
def cnt : Fo → Nat
  | nil => 0
  | cons _ _ i r => 1 + i.cnt + r.cnt
def items : Fo → List (Str × Option Sh × Fo)
  | nil => []
  | cons nm td i r => (nm, td, i) :: r.items
def snoc : Fo → Str → Option Sh → Fo → Fo
  | nil, nm, td, i => cons nm td i nil
  | cons a b c r, nm, td, i => cons a b c (r.snoc nm td i)
def names (f : Fo) : List Str := f.items.map (·.1)
def isNil : Fo → Bool
  | nil => true
  | _ => false
end Fo
def ShOk (s : Sh) : Prop := (isFr s.a s.b = true ∧ isFr s.c s.d = true) ∧ (0 ≤ s.a ∧ s.a * s.d ≤ s.c * s.b ∧ s.c ≤ s.d) ∧ (s.a.natAbs < big ∧ s.b.natAbs < big ∧ s.c.natAbs < big ∧ s.d.natAbs < big)
def NmOk (z : Str) : Prop := nmB (.str z) = true
theorem NmOk.len {z : Str} (h : NmOk z) : 1 ≤ z.length ∧ z.length ≤ 8 := by
  have h : (decide (1 ≤ z.length) && decide (z.length ≤ 8) && z.cps.toList.all okC) = true := h
  rw [Bool.and_eq_true, Bool.and_eq_true] at h
  exact ⟨of_decide_eq_true h.1.1, of_decide_eq_true h.1.2⟩
/-- names and told shares are as they should be -/
def Gd : Fo → Prop
  | .nil => True
  | .cons nm td i r => NmOk nm ∧ (∀ s, td = some s → ShOk s) ∧ Gd i ∧ Gd r
/-- no name twice in a list, or of a place around it -/
def Ns : List Str → List Str → Fo → Prop
  | _, _, .nil => True
  | ar, ah, .cons nm _ i r => nm ∉ ah ∧ nm ∉ ar ∧ Ns (ar ++ [nm]) [] i ∧ Ns ar (ah ++ [nm]) r
abbrev It3 := Str × Option Sh × Fo
theorem Fo.items_snoc : ∀ (f : Fo) (nm : Str) (td : Option Sh) (i : Fo), (f.snoc nm td i).items = f.items ++ [(nm, td, i)]
  | .nil, _, _, _ => rfl
  | .cons a b c r, nm, td, i => by
    show (a, b, c) :: (r.snoc nm td i).items = (a, b, c) :: r.items ++ [(nm, td, i)]
    rw [Fo.items_snoc r nm td i]
    rfl
theorem Fo.names_snoc (f : Fo) (nm : Str) (td : Option Sh) (i : Fo) : (f.snoc nm td i).names = f.names ++ [nm] := by
  unfold Fo.names
  rw [Fo.items_snoc, List.map_append]
  rfl
theorem Fo.cnt_snoc : ∀ (f : Fo) (nm : Str) (td : Option Sh) (i : Fo), (f.snoc nm td i).cnt = f.cnt + 1 + i.cnt
  | .nil, _, _, i => by show 1 + i.cnt + 0 = 0 + 1 + i.cnt; omega
  | .cons a b c r, nm, td, i => by
    show 1 + c.cnt + (r.snoc nm td i).cnt = 1 + c.cnt + r.cnt + 1 + i.cnt
    rw [Fo.cnt_snoc r nm td i]
    omega
theorem Fo.depth_snoc : ∀ (f : Fo) (nm : Str) (td : Option Sh) (i : Fo), (f.snoc nm td i).depth = max f.depth (1 + i.depth)
  | .nil, _, _, i => by show max (1 + i.depth) 0 = max 0 (1 + i.depth); omega
  | .cons a b c r, nm, td, i => by
    show max (1 + c.depth) (r.snoc nm td i).depth = max (max (1 + c.depth) r.depth) (1 + i.depth)
    rw [Fo.depth_snoc r nm td i]
    omega
theorem Gd.snoc : ∀ {f : Fo} {nm : Str} {td : Option Sh} {i : Fo}, Gd f → NmOk nm → (∀ s, td = some s → ShOk s) → Gd i → Gd (f.snoc nm td i)
  | .nil, _, _, _, _, h1, h2, h3 => ⟨h1, h2, h3, True.intro⟩
  | .cons a b c r, _, _, _, h, h1, h2, h3 => ⟨h.1, h.2.1, h.2.2.1, Gd.snoc h.2.2.2 h1 h2 h3⟩
theorem Ns.snoc : ∀ {f : Fo} {ar ah : List Str} {nm : Str} {td : Option Sh} {i : Fo}, Ns ar ah f → nm ∉ ah ++ f.names → nm ∉ ar → Ns (ar ++ [nm]) [] i → Ns ar ah (f.snoc nm td i)
  | .nil, ar, ah, nm, td, i, _, h1, h2, h3 => ⟨fun z => h1 (List.mem_append_left _ z), h2, h3, True.intro⟩
  | .cons a b c r, ar, ah, nm, td, i, h, h1, h2, h3 => by
    refine ⟨h.1, h.2.1, h.2.2.1, Ns.snoc h.2.2.2 (fun z => h1 ?_) h2 h3⟩
    show nm ∈ ah ++ (a :: r.names)
    rw [List.append_assoc] at z
    exact z
theorem Fo.len_cnt : ∀ f : Fo, f.items.length ≤ f.cnt
  | .nil => Nat.le_refl _
  | .cons _ _ c r => by
    have := Fo.len_cnt r
    show r.items.length + 1 ≤ 1 + c.cnt + r.cnt
    omega
theorem Fo.at_cnt : ∀ {f : Fo} {n : Nat} {x : It3}, f.items[n]? = some x → x.2.2.cnt + 1 ≤ f.cnt ∧ 1 + x.2.2.depth ≤ f.depth
  | .nil, n, x, h => by cases h
  | .cons nm td i r, 0, x, h => by
    have h : (nm, td, i) = x := Option.some.inj h
    subst h
    show i.cnt + 1 ≤ 1 + i.cnt + r.cnt ∧ 1 + i.depth ≤ max (1 + i.depth) r.depth
    omega
  | .cons nm td i r, n + 1, x, h => by
    have q := Fo.at_cnt (f := r) (n := n) (x := x) h
    show x.2.2.cnt + 1 ≤ 1 + i.cnt + r.cnt ∧ 1 + x.2.2.depth ≤ max (1 + i.depth) r.depth
    omega
theorem Gd.at : ∀ {f : Fo} {n : Nat} {x : It3}, Gd f → f.items[n]? = some x → NmOk x.1 ∧ (∀ s, x.2.1 = some s → ShOk s) ∧ Gd x.2.2
  | .nil, n, x, _, h => by cases h
  | .cons nm td i r, 0, x, g, h => by
    have h : (nm, td, i) = x := Option.some.inj h
    subst h
    exact ⟨g.1, g.2.1, g.2.2.1⟩
  | .cons nm td i r, n + 1, x, g, h => Gd.at (f := r) (n := n) g.2.2.2 h
theorem Ns.at : ∀ {f : Fo} {n : Nat} {ar ah : List Str} {x : It3}, Ns ar ah f → f.items[n]? = some x → x.1 ∉ ah ++ f.names.take n ∧ x.1 ∉ ar ∧ Ns (ar ++ [x.1]) [] x.2.2
  | .nil, n, _, _, x, _, h => by cases h
  | .cons nm td i r, 0, ar, ah, x, g, h => by
    have h : (nm, td, i) = x := Option.some.inj h
    subst h
    refine ⟨fun z => g.1 ?_, g.2.1, g.2.2.1⟩
    rw [List.take_zero, List.append_nil] at z
    exact z
  | .cons nm td i r, n + 1, ar, ah, x, g, h => by
    obtain ⟨h1, h2⟩ := Ns.at (f := r) (n := n) g.2.2.2 h
    refine ⟨fun z => h1 ?_, h2⟩
    rw [List.append_assoc]
    exact z
theorem Fo.ne_of_len {f : Fo} (h : f ≠ .nil) : 0 < f.items.length ∧ 0 < f.depth := by
  cases f with
  | nil => exact absurd rfl h
  | cons a b c r => exact ⟨Nat.succ_pos _, by show 0 < max (1 + c.depth) r.depth; omega⟩
theorem Fo.nil_of_depth {f : Fo} (h : f.depth = 0) : f = .nil := by
  cases f with
  | nil => rfl
  | cons a b c r =>
    have h : max (1 + c.depth) r.depth = 0 := h
    omega
/-! ### in memory -/
def TdV (H : Hp) (tv : V) : Option Sh → Prop
  | none => tv = .non
  | some s => ∃ t lo hi, tv = .ref t ∧ H t = some (.tup [.ref lo, .ref hi]) ∧ Two H lo s.a s.b ∧ Two H hi s.c s.d
def Rep (H : Hp) : Fo → List V → Prop
  | .nil, xs => xs = []
  | .cons nm td i r, xs => ∃ p tv iv ys, xs = .ref p :: ys ∧ H p = some (.tup [.str nm, tv, iv]) ∧ TdV H tv td ∧ ((i = .nil ∧ iv = .non) ∨ (i ≠ .nil ∧ ∃ q zs, iv = .ref q ∧ H q = some (.tup zs) ∧ Rep H i zs)) ∧ Rep H r ys
def InV (H : Hp) (iv : V) (i : Fo) : Prop := (i = .nil ∧ iv = .non) ∨ (i ≠ .nil ∧ ∃ q zs, iv = .ref q ∧ H q = some (.tup zs) ∧ Rep H i zs)
def Plc (H : Hp) (x : V) (t : It3) : Prop := ∃ p tv iv, x = .ref p ∧ H p = some (.tup [.str t.1, tv, iv]) ∧ TdV H tv t.2.1 ∧ InV H iv t.2.2
/-- tuples stand -/
def Tups (H H' : Hp) : Prop := ∀ a xs, H a = some (.tup xs) → H' a = some (.tup xs)
theorem Tups.of_same {H H' : Hp} (s : Same H H') : Tups H H' := fun a xs e => s a _ e
theorem Tups.of_keep {p : Addr} {H H' : Hp} (k : Keep p H H') (h : ∀ xs, H p ≠ some (.tup xs)) : Tups H H' := fun a xs e => by
  by_cases z : a = p
  · rw [z] at e
    exact absurd e (h xs)
  · exact k a _ z e
theorem Tups.of_pot {p : Addr} {H H' : Hp} (k : Keep p H H') (h : Pot H p) : Tups H H' := .of_keep k fun xs e => by
  obtain ⟨a, b, e2, _⟩ := h
  rw [e2] at e
  cases e
theorem Tups.trans {H H1 H2 : Hp} (a : Tups H H1) (b : Tups H1 H2) : Tups H H2 := fun x xs e => b x xs (a x xs e)
theorem TdV.mv {H H' : Hp} {tv : V} {td : Option Sh} (h : TdV H tv td) (t : Tups H H') : TdV H' tv td := by
  cases td with
  | none => exact h
  | some s =>
    obtain ⟨a, lo, hi, e, e1, e2, e3⟩ := h
    exact ⟨a, lo, hi, e, t _ _ e1, t _ _ e2, t _ _ e3⟩
theorem Rep.mv {H H' : Hp} (t : Tups H H') : ∀ {f : Fo} {xs : List V}, Rep H f xs → Rep H' f xs
  | .nil, xs, h => h
  | .cons nm td i r, xs, h => by
    obtain ⟨p, tv, iv, ys, e, e1, e2, e3, e4⟩ := h
    refine ⟨p, tv, iv, ys, e, t _ _ e1, e2.mv t, ?_, Rep.mv t e4⟩
    rcases e3 with e3 | ⟨n, q, zs, e5, e6, e7⟩
    · exact .inl e3
    · exact .inr ⟨n, q, zs, e5, t _ _ e6, Rep.mv t e7⟩
theorem InV.mv {H H' : Hp} {iv : V} {i : Fo} (h : InV H iv i) (t : Tups H H') : InV H' iv i := by
  rcases h with h | ⟨n, q, zs, e5, e6, e7⟩
  · exact .inl h
  · exact .inr ⟨n, q, zs, e5, t _ _ e6, e7.mv t⟩
theorem Plc.mv {H H' : Hp} {x : V} {y : It3} (h : Plc H x y) (t : Tups H H') : Plc H' x y := by
  obtain ⟨p, tv, iv, e, e1, e2, e3⟩ := h
  exact ⟨p, tv, iv, e, t _ _ e1, e2.mv t, e3.mv t⟩
theorem Rep.at {H : Hp} : ∀ {f : Fo} {xs : List V} {n : Nat} {x : V}, Rep H f xs → xs[n]? = some x → ∃ t, f.items[n]? = some t ∧ Plc H x t
  | .nil, xs, n, x, h, e => by
    rw [show xs = [] from h] at e
    cases e
  | .cons nm td i r, xs, n, x, h, e => by
    obtain ⟨p, tv, iv, ys, rfl, e1, e2, e3, e4⟩ := h
    cases n with
    | zero =>
      obtain rfl : V.ref p = x := Option.some.inj e
      exact ⟨(nm, td, i), rfl, p, tv, iv, rfl, e1, e2, e3⟩
    | succ n => exact Rep.at (f := r) e4 e
theorem Rep.len {H : Hp} : ∀ {f : Fo} {xs : List V}, Rep H f xs → xs.length = f.items.length
  | .nil, xs, h => by rw [show xs = [] from h]; rfl
  | .cons nm td i r, xs, h => by
    obtain ⟨p, tv, iv, ys, rfl, e1, e2, e3, e4⟩ := h
    rw [List.length_cons, Rep.len e4]
    rfl
theorem Rep.snoc {H : Hp} {nm : Str} {td : Option Sh} {i : Fo} {x : V} (hx : Plc H x (nm, td, i)) : ∀ {f : Fo} {xs : List V}, Rep H f xs → Rep H (f.snoc nm td i) (xs ++ [x])
  | .nil, xs, h => by
    rw [show xs = [] from h]
    obtain ⟨p, tv, iv, e, e1, e2, e3⟩ := hx
    exact ⟨p, tv, iv, [], by rw [e]; rfl, e1, e2, e3, rfl⟩
  | .cons a b c r, xs, h => by
    obtain ⟨p, tv, iv, ys, rfl, e1, e2, e3, e4⟩ := h
    exact ⟨p, tv, iv, ys ++ [x], rfl, e1, e2, e3, Rep.snoc hx e4⟩
/-! ### the texts -/
def stT (s : Sh) : Str := if s.a = s.c ∧ s.b = s.d then fT s.a s.b else (fT s.a s.b ++ Str.ofString " to ") ++ fT s.c s.d
def tdT : Option Sh → Str
  | none => Str.ofString ""
  | some s => Str.ofString " " ++ stT s
def itT : Fo → List Str
  | .nil => []
  | .cons nm td i r => ((nm ++ tdT td) ++ (if i.isNil = true then (Str.ofString "") else (Str.ofString " (" ++ Txt.join ", " (itT i)) ++ Str.ofString ")")) :: itT r
def liT (f : Fo) : Str := Txt.join ", " (itT f)
def inT (i : Fo) : Str := if i.isNil = true then (Str.ofString "") else (Str.ofString " (" ++ liT i) ++ Str.ofString ")"
def plT (t : It3) : Str := (t.1 ++ tdT t.2.1) ++ inT t.2.2
theorem itT_items : ∀ f : Fo, itT f = f.items.map plT
  | .nil => rfl
  | .cons nm td i r => by
    show plT (nm, td, i) :: itT r = plT (nm, td, i) :: r.items.map plT
    rw [itT_items r]
theorem fT_len {i j : Int} (h1 : i.natAbs < big) (h2 : j.natAbs < big) : (fT i j).length ≤ 42 := by
  have a := sg_len i
  have b := Tn_len h1
  have c := bl_len h2
  unfold fT
  rw [app_len, app_len]
  omega
theorem to_len : (Str.ofString " to ").length = 4 := by decide +kernel
theorem stT_len {s : Sh} (h : ShOk s) : (stT s).length ≤ 88 := by
  have a := fT_len h.2.2.1 h.2.2.2.1
  have b := fT_len h.2.2.2.2.1 h.2.2.2.2.2
  unfold stT
  split
  · omega
  · rw [app_len, app_len, to_len]
    omega
theorem tdT_len {td : Option Sh} (h : ∀ s, td = some s → ShOk s) : (tdT td).length ≤ 89 := by
  cases td with
  | none => decide +kernel
  | some s =>
    have a := stT_len (h s rfl)
    have e : (Str.ofString " ").length = 1 := by decide +kernel
    show ((Str.ofString " ") ++ stT s).length ≤ _
    rw [app_len, e]
    omega
theorem comma_len : (Str.ofString ", ").length = 2 := by decide +kernel
theorem itT_sum : ∀ {f : Fo}, Gd f → ((itT f).map (·.length)).sum + (itT f).length * 2 ≤ 110 * f.cnt
  | .nil, _ => Nat.zero_le _
  | .cons nm td i r, g => by
    have h1 := itT_sum g.2.2.1
    have h2 := itT_sum g.2.2.2
    have h3 := tdT_len g.2.1
    have h4 := (NmOk.len g.1).2
    have e1 : (Str.ofString " (").length = 2 := by decide +kernel
    have e2 : (Str.ofString ")").length = 1 := by decide +kernel
    have hj := join_le ", " (itT i)
    rw [comma_len] at hj
    have hi : (if i.isNil = true then (Str.ofString "") else ((Str.ofString " (") ++ Txt.join ", " (itT i)) ++ (Str.ofString ")")).length ≤ 3 + 110 * i.cnt := by
      split
      · have : (Str.ofString "").length = 0 := by decide +kernel
        omega
      · rw [app_len, app_len, e1, e2]
        omega
    show (((((nm ++ tdT td) ++ (if i.isNil = true then (Str.ofString "") else ((Str.ofString " (") ++ Txt.join ", " (itT i)) ++ (Str.ofString ")"))).length) :: (itT r).map (·.length)).sum) + ((itT r).length + 1) * 2 ≤ 110 * (1 + i.cnt + r.cnt)
    rw [List.sum_cons, app_len, app_len]
    omega
theorem liT_len {f : Fo} (g : Gd f) : (liT f).length ≤ 110 * f.cnt := by
  have h := itT_sum g
  have hj := join_le ", " (itT f)
  rw [comma_len] at hj
  unfold liT
  omega
theorem plT_len {t : It3} (h1 : NmOk t.1) (h2 : ∀ s, t.2.1 = some s → ShOk s) (h3 : Gd t.2.2) : (plT t).length ≤ 100 + 110 * t.2.2.cnt ∧ (t.1 ++ tdT t.2.1).length ≤ 97 ∧ (inT t.2.2).length ≤ 3 + 110 * t.2.2.cnt ∧ ((Str.ofString " (") ++ liT t.2.2).length ≤ 2 + 110 * t.2.2.cnt := by
  have a := (NmOk.len h1).2
  have b := tdT_len h2
  have c := liT_len h3
  have e1 : (Str.ofString " (").length = 2 := by decide +kernel
  have e2 : (Str.ofString ")").length = 1 := by decide +kernel
  have hi : (inT t.2.2).length ≤ 3 + 110 * t.2.2.cnt := by
    unfold inT
    split
    · have : (Str.ofString "").length = 0 := by decide +kernel
      omega
    · rw [app_len, app_len, e1, e2]
      omega
  unfold plT
  rw [app_len, app_len, app_len, e1]
  omega
end G
set_option Elab.async false
set_option linter.all false
set_option maxRecDepth 100000
set_option maxHeartbeats 1000000
namespace G
open PySem PySem.Spec PyProof.Rows L2 TL
theorem lineM {n : Nat} (h : n ≤ 1000000) : n ≤ sizeLine := Nat.le_trans h (by decide)
section
variable {P : Program} {w : World} {K : PySem.W.Frag} {mg : Str → Option Value} {base : Heap}
/-! ### told_text -/
abbrev sTT : Stmt := topS 15
theorem scTT : FnScope ["told", "least", "most"] ["told"] (defScope sTT) := ⟨rfl, rfl, rfl, by decide +kernel, rfl, by decide +kernel, by decide +kernel⟩
def spTT : Sp := fun vs H Q _ => ∃ (t lo hi : Addr) (s : Sh), vs = [.ref t] ∧ H t = some (.tup [.ref lo, .ref hi]) ∧ Two H lo s.a s.b ∧ Two H hi s.c s.d ∧ ShOk s ∧ ∀ H', Same H H' → Q (.str (stT s)) H'
theorem ok_TT {f fF : Addr} {fd fdF : FuncData} (F : Fun K "told_text" "told_text" sTT f fd) (FF : Fun K "fraction_text" "fraction_text" sFT fF fdF) (bF : Binds K fdF ["one"] []) (gF : mg "fraction_text" = some (.ref fF)) (GF : FnOk P w K mg base CX0 2 fF fdF ["one"] spFT) : FnOk P w K mg base CX0 3 f fd ["told"] spTT := by
  refine F.ok scTT (fun vs H Q E h => ?_) (fun cdv A outer s H vs Q E hr h => ?_)
  · obtain ⟨t, lo, hi, s, rfl, _⟩ := h
    rfl
  · obtain ⟨t, lo, hi, s, rfl, et, e1, e2, ok, q⟩ := h
    have pb := isFr_pos ok.1.1
    have pd := isFr_pos ok.1.2
    obtain ⟨la, lb, lc, ld⟩ := ok.2.2
    refine ⟨_, pss_cons (ps_asg (pv 0) (pg_tup (by rfl) (pgs_cons (pg_name (i := 1) scTT.nd rfl (.inl rfl)) (pgs_cons (pg_name (i := 2) scTT.nd rfl (.inl rfl)) pgs_nil))))
      (pss_cons (ps_if (pt_cmpR (op_eqD hr.units) (pv 1) (pv 2) (nomark _)) (pss_one (ps_ret (pe_call GF hr (by rfl) gF FF.kp bF .nil pass0 (pa_cons (pv 1) pa_nil)))) pss_nil)
      (pss_one (ps_ret (pe_op op_add_str (pe_op op_add_str (pe_call GF hr (by rfl) gF FF.kp bF .nil pass0 (pa_cons (pv 1) pa_nil)) pe_str) (pe_call GF hr (by rfl) gF FF.kp bF .nil pass0 (pa_cons (pv 2) pa_nil)))))), ?_⟩
    refine ⟨.ref t, rfl, t, _, rfl, SqT.of et, rfl, _, _, rfl, _, _, rfl, rfl, ?_⟩
    refine ⟨_, rfl, _, rfl, _, _, .tup (SqT.of e1) (.cons (.int _) (.cons (.int _) .nil)), .tup (SqT.of e2) (.cons (.int _) (.cons (.int _) .nil)), rfl, rfl, _, rfl, ?_⟩
    rw [eqv_two]
    refine ite2 (fun e => ?_) (fun e => ?_)
    · rw [Bool.and_eq_true, beq_iff_eq, beq_iff_eq] at e
      refine ⟨_, rfl, lo, _, _, rfl, e1, la, pb, lb, fun H1 s1 => ?_⟩
      have q := q H1 s1
      unfold stT at q
      rw [if_pos e] at q
      exact q
    · have e0 : ¬ (s.a = s.c ∧ s.b = s.d) := fun z => e (by rw [Bool.and_eq_true, beq_iff_eq, beq_iff_eq]; exact z)
      have h1 := fT_len la lb
      have h2 := fT_len lc ld
      refine ⟨_, rfl, lo, _, _, rfl, e1, la, pb, lb, fun H1 s1 => ?_⟩
      refine ⟨_, _, rfl, rfl, lineM (by rw [to_len]; omega), _, rfl, hi, _, _, rfl, s1 _ _ e2, lc, pd, ld, fun H2 s2 => ?_⟩
      refine ⟨_, _, rfl, rfl, lineM (by rw [app_len, to_len]; omega), ?_⟩
      have q := q H2 (s1.trans s2)
      unfold stT at q
      rw [if_neg e0] at q
      exact q
/-! ### entry_text -/
theorem app_assocS (x y z : Str) : (x ++ y) ++ z = x ++ (y ++ z) := tl_inj (by
  rw [tl_append, tl_append, tl_append, tl_append, List.append_assoc])
theorem app_emptyS (x : Str) : x ++ Str.ofString "" = x := tl_inj (by
  rw [tl_append]
  have e : tl (Str.ofString "") = [] := by decide +kernel
  rw [e, List.append_nil])
abbrev sET : Stmt := topS 16
theorem scET : FnScope ["name", "told"] ["name", "told"] (defScope sET) := ⟨rfl, rfl, rfl, by decide +kernel, rfl, by decide +kernel, by decide +kernel⟩
def spET : Sp := fun vs H Q _ => ∃ (nm : Str) (tv : V) (td : Option Sh), vs = [.str nm, tv] ∧ TdV H tv td ∧ NmOk nm ∧ (∀ s, td = some s → ShOk s) ∧ ∀ H', Same H H' → Q (.str (nm ++ tdT td)) H'
theorem ok_ET {f fT : Addr} {fd fdT : FuncData} (F : Fun K "entry_text" "entry_text" sET f fd) (FT : Fun K "told_text" "told_text" sTT fT fdT) (bT : Binds K fdT ["told"] []) (gT : mg "told_text" = some (.ref fT)) (GT : FnOk P w K mg base CX0 3 fT fdT ["told"] spTT) : FnOk P w K mg base CX0 4 f fd ["name", "told"] spET := by
  refine F.ok scET (fun vs H Q E h => ?_) (fun cdv A outer s H vs Q E hr h => ?_)
  · obtain ⟨nm, tv, td, rfl, _⟩ := h
    rfl
  · obtain ⟨nm, tv, td, rfl, ht, n1, s1, q⟩ := h
    have a := (NmOk.len n1).2
    refine ⟨_, pss_one (ps_ret (pe_ifExp (pt_cmpR op_isN (pv 1) pe_non (nomark _)) (pv 0) (pe_op op_add_str (pe_op op_add_str (pv 0) pe_str) (pe_call GT hr (by rfl) gT FT.kp bT .nil pass0 (pa_cons (pv 1) pa_nil))))), ?_⟩
    cases td with
    | none =>
      obtain rfl : tv = .non := ht
      have q := q H (.refl _)
      unfold tdT at q
      rw [app_emptyS] at q
      exact ⟨_, rfl, rfl, _, rfl, iteT ⟨_, rfl, q⟩⟩
    | some sh =>
      obtain ⟨t, lo, hi', rfl, et, e1, e2⟩ := ht
      have hl := stT_len (s1 sh rfl)
      have e : (Str.ofString " ").length = 1 := by decide +kernel
      refine ⟨_, rfl, rfl, _, rfl, iteF ?_⟩
      refine ⟨_, rfl, _, _, rfl, rfl, lineM (by rw [e]; omega), _, rfl, t, lo, hi', sh, rfl, et, e1, e2, s1 sh rfl, fun H2 s2 => ?_⟩
      refine ⟨_, _, rfl, rfl, lineM (by rw [app_len, e]; omega), ?_⟩
      have q := q H2 s2
      unfold tdT at q
      rw [← app_assocS] at q
      exact q
/-! ### place_text, list_text -/
abbrev sPT : Stmt := topS 17
abbrev sLT : Stmt := topS 18
theorem scPT : FnScope ["place", "name", "told", "inside", "within"] ["place"] (defScope sPT) := ⟨rfl, rfl, rfl, by decide +kernel, rfl, by decide +kernel, by decide +kernel⟩
abbrev nLT : List Str := ["places", "place"]
theorem scLT : FnScope nLT ["places"] (defScope sLT) := ⟨rfl, rfl, rfl, by decide +kernel, rfl, by decide +kernel, by decide +kernel⟩
def spPT (d : Nat) : Sp := fun vs H Q _ => ∃ (x : V) (t : It3), vs = [x] ∧ Plc H x t ∧ NmOk t.1 ∧ (∀ s, t.2.1 = some s → ShOk s) ∧ Gd t.2.2 ∧ t.2.2.depth ≤ d ∧ t.2.2.cnt ≤ 1000 ∧ ∀ H', Same H H' → Q (.str (plT t)) H'
def spLT (d : Nat) : Sp := fun vs H Q _ => ∃ (a : Addr) (xs : List V) (fo : Fo), vs = [.ref a] ∧ H a = some (.tup xs) ∧ Rep H fo xs ∧ Gd fo ∧ fo ≠ .nil ∧ fo.depth ≤ d ∧ fo.cnt ≤ 1000 ∧ ∀ H', Same H H' → Q (.str (liT fo)) H'
theorem isN_no (x : V) (h : x ≠ .non) : decide (x = V.non) = false := decide_eq_false h
theorem ok_PT {d k : Nat} {f fE fL : Addr} {fd fdE fdL : FuncData} (F : Fun K "place_text" "place_text" sPT f fd) (FE : Fun K "entry_text" "entry_text" sET fE fdE) (bE : Binds K fdE ["name", "told"] []) (gE : mg "entry_text" = some (.ref fE)) (GE : FnOk P w K mg base CX0 4 fE fdE ["name", "told"] spET)
    (FL : Fun K "list_text" "list_text" sLT fL fdL) (bL : Binds K fdL ["places"] []) (gL : mg "list_text" = some (.ref fL)) (GL : FnOk P w K mg base CX0 k fL fdL ["places"] (spLT d)) (hk : 4 ≤ k) : FnOk P w K mg base CX0 (k + 1) f fd ["place"] (spPT d) := by
  refine F.ok scPT (fun vs H Q E h => ?_) (fun cdv A outer s H vs Q E hr h => ?_)
  · obtain ⟨x, t, rfl, _⟩ := h
    rfl
  · obtain ⟨x, ⟨nm, td, ins⟩, rfl, ⟨p, tv, iv, rfl, ep, ht, hi⟩, n1, s1, g1, dp, ct, q⟩ := h
    obtain ⟨pl, pn, pi, pq⟩ := plT_len (t := (nm, td, ins)) n1 s1 g1
    dsimp only at ep ht hi n1 s1 g1 dp ct pl pn pi pq
    refine ⟨_, pss_cons (ps_asg (pv 0) (pg_tup (by rfl) (pgs_cons (pg_name (i := 1) scPT.nd rfl (.inl rfl)) (pgs_cons (pg_name (i := 2) scPT.nd rfl (.inl rfl)) (pgs_cons (pg_name (i := 3) scPT.nd rfl (.inl rfl)) pgs_nil)))))
      (C8.pss_cut (ps_set (i := 4) scPT.nd rfl (.inl rfl) (pe_ifExp (pt_cmpR op_isN (pv 3) pe_non (nomark _)) pe_str (pe_op op_add_str (pe_op op_add_str pe_str (pe_call GL hr (by rfl) gL FL.kp bL .nil pass0 (pa_cons (pv 3) pa_nil))) pe_str)))
      (pss_one (ps_ret (pe_op op_add_str (pe_call GE (hr.mono hk) (by rfl) gE FE.kp bE .nil pass0 (pa_cons (pv 1) (pa_cons (pv 2) pa_nil))) (pv 4))))), ?_⟩
    refine ⟨.ref p, rfl, p, _, rfl, SqT.of ep, rfl, _, _, rfl, _, _, rfl, _, _, rfl, rfl, ?_⟩
    refine ⟨fun σ H2 => σ = [some (.ref p), some (.str nm), some tv, some iv, some (.str (inT ins))] ∧ Same H H2, ?_, ?_⟩
    · rcases hi with ⟨rfl, rfl⟩ | ⟨ne, a, zs, rfl, ea, rp⟩
      · exact ⟨_, rfl, rfl, _, rfl, iteT ⟨rfl, .refl _⟩⟩
      · refine ⟨_, rfl, rfl, _, rfl, iteF ?_⟩
        refine ⟨_, rfl, a, zs, ins, rfl, ea, rp, g1, ne, dp, ct, fun H2 t2 => ?_⟩
        have hl := liT_len g1
        have e1 : (Str.ofString " (").length = 2 := by decide +kernel
        have e2 : (Str.ofString ")").length = 1 := by decide +kernel
        refine ⟨_, _, rfl, rfl, lineM (by rw [e1]; omega), ?_⟩
        refine ⟨_, _, rfl, rfl, lineM (by rw [app_len, e1, e2]; omega), ?_, t2⟩
        have en : inT ins = (Str.ofString " (" ++ liT ins) ++ Str.ofString ")" := by
          unfold inT
          cases ins with
          | nil => exact absurd rfl ne
          | cons a b c r => exact if_neg (by intro z; cases z)
        rw [en]
        rfl
    · rintro σ H2 ⟨rfl, t2⟩
      have a := (NmOk.len n1).2
      have b := tdT_len s1
      refine ⟨_, rfl, _, rfl, nm, tv, td, rfl, ht.mv (.of_same t2), n1, s1, fun H3 t3 => ?_⟩
      exact ⟨_, rfl, _, _, rfl, rfl, lineM (by omega), q H3 (t2.trans t3)⟩
theorem take_succ_map {α β : Type} {l : List α} {n : Nat} {x : α} (g : α → β) (h : l[n]? = some x) : (l.take (n + 1)).map g = (l.take n).map g ++ [g x] := by
  rw [List.take_add_one, h, List.map_append]
  rfl
theorem ok_LT {d k : Nat} {f fP : Addr} {fd fdP : FuncData} (F : Fun K "list_text" "list_text" sLT f fd) (FP : Fun K "place_text" "place_text" sPT fP fdP) (bP : Binds K fdP ["place"] []) (gP : mg "place_text" = some (.ref fP)) (GP : FnOk P w K mg base CX0 k fP fdP ["place"] (spPT d)) : FnOk P w K mg base CX0 (k + 1) f fd ["places"] (spLT (d + 1)) := by
  refine F.ok scLT (fun vs H Q E h => ?_) (fun cdv A outer s H vs Q E hr h => ?_)
  · obtain ⟨a, xs, fo, rfl, _⟩ := h
    rfl
  · obtain ⟨a, xs, fo, rfl, ea, rp, g1, ne, dp, ct, q⟩ := h
    refine ⟨_, pss_one (ps_ret (pe_join pe_str (pe_lc (own := [("place", 1)]) (g := gName 1) (tt := tYes) (te := tCall (spPT d) [] E0 (tCons (tVar 1) tNil)) (by rfl) scLT.nd (pi_tup (pv 0)) (blkOk_by (own := [("place", 1)]) (N := nLT) (sc := defScope sLT) (by decide +kernel))
          (fun _ _ _ _ _ => pg_name (i := 1) scLT.nd rfl (.inl rfl)) (fun _ _ _ _ _ => pts_nil) (fun _ _ _ _ _ => pe_call GP hr (by rfl) gP FP.kp bP .nil pass0 (pa_cons (pv 1) pa_nil))))), ?_⟩
    have sum := itT_sum g1
    have lcnt := Fo.len_cnt fo
    have lxs := rp.len
    refine ⟨⟨_, rfl⟩, .ref a, rfl, a, rfl, ⟨_, SqT.of ea⟩, fun D nD => ?_⟩
    refine lc_it (walk_tup (xs := xs)) (fun n H' => Same H H' ∧ H' D = some (.lst ((fo.items.take n).map fun t => V.str (plT t)))) ⟨same_upd nD, upd_same⟩ (fun _ H' _ h => SqT.of (h.1 _ _ ea)) ?_ ?_
    · rintro n x H8 H9 hn ⟨t8, e8⟩ ⟨rfl, hx⟩
      obtain ⟨t, ht, pl⟩ := rp.at hx
      obtain ⟨k1, k2⟩ := Fo.at_cnt ht
      obtain ⟨h1, h2, h3⟩ := g1.at ht
      refine ⟨rfl, _, rfl, x, t, rfl, pl.mv (.of_same t8), h1, h2, h3, by omega, by omega, fun H2 t2 => ?_⟩
      refine ⟨_, t2 _ _ e8, ?_, same_app t8 nD t2, ?_⟩
      · rw [List.length_map, List.length_take]
        exact Nat.lt_of_lt_of_le (show min n fo.items.length < 1000000 by omega) (by decide)
      · rw [upd_same, take_succ_map (fun t => V.str (plT t)) ht]
    · rintro H8 ⟨t8, e8⟩
      rw [lxs, List.take_of_length_le (Nat.le_refl _)] at e8
      have e : fo.items.map (fun t => V.str (plT t)) = (itT fo).map V.str := by
        rw [itT_items, List.map_map]
        rfl
      rw [e] at e8
      refine ⟨_, D, itT fo, rfl, rfl, .inl (SqL.of e8), ?_, q _ t8⟩
      rw [comma_len]
      omega
/-- the two of them, by depth -/
theorem ok_texts {fP fE fL : Addr} {fdP fdE fdL : FuncData} (FP : Fun K "place_text" "place_text" sPT fP fdP) (bP : Binds K fdP ["place"] []) (gP : mg "place_text" = some (.ref fP)) (FE : Fun K "entry_text" "entry_text" sET fE fdE) (bE : Binds K fdE ["name", "told"] []) (gE : mg "entry_text" = some (.ref fE)) (GE : FnOk P w K mg base CX0 4 fE fdE ["name", "told"] spET)
    (FL : Fun K "list_text" "list_text" sLT fL fdL) (bL : Binds K fdL ["places"] []) (gL : mg "list_text" = some (.ref fL)) : ∀ d, FnOk P w K mg base CX0 (4 + 2 * d) fL fdL ["places"] (spLT d)
  | 0 => by
    refine ⟨fun vs H Q E h => ?_, fun A outer s H args us vs Q E hr e0 hb r h => ?_⟩
    · obtain ⟨a, xs, fo, rfl, _⟩ := h
      rfl
    · obtain ⟨a, xs, fo, rfl, _, _, _, ne, dp, _⟩ := h
      exact absurd (Fo.nil_of_depth (Nat.le_zero.mp dp)) ne
  | d + 1 => ok_LT FL FP bP gP (ok_PT FP FE bE gE GE FL bL gL (ok_texts FP bP gP FE bE gE GE FL bL gL d) (Nat.le_add_right 4 _))
/-! ### row_text -/
abbrev sRT : Stmt := topS 20
theorem scRT : FnScope ["places", "words"] ["places", "words"] (defScope sRT) := ⟨rfl, rfl, rfl, by decide +kernel, rfl, by decide +kernel, by decide +kernel⟩
def roT (f : Fo) (ws : List Str) : Str := if ws.length = 0 then liT f else (liT f ++ Str.ofString "; may hold ") ++ Txt.join ", " ws
/-- words as they may be -/
def WsOk (ws : List Str) : Prop := (∀ y ∈ ws, y.length ≤ 8) ∧ ws.length ≤ 1000
theorem ws_sum : ∀ {ws : List Str}, (∀ y ∈ ws, y.length ≤ 8) → (ws.map (·.length)).sum ≤ 8 * ws.length
  | [], _ => Nat.zero_le _
  | y :: r, h => by
    have h1 := h y (.head _)
    have h2 := ws_sum (ws := r) fun z hz => h z (.tail _ hz)
    rw [List.map_cons, List.sum_cons, List.length_cons]
    omega
theorem ws_join {ws : List Str} (h : WsOk ws) : (Txt.join ", " ws).length ≤ 10000 := by
  have h1 := join_le ", " ws
  have h2 := ws_sum h.1
  have h3 := h.2
  rw [comma_len] at h1
  omega
/-! ### words_text -/
abbrev sWT : Stmt := topS 19
theorem scWT : FnScope ["words"] ["words"] (defScope sWT) := ⟨rfl, rfl, rfl, by decide +kernel, rfl, by decide +kernel, by decide +kernel⟩
def spWT : Sp := fun vs H Q _ => ∃ (b : Addr) (ws : List Str), vs = [.ref b] ∧ H b = some (.tup (ws.map V.str)) ∧ WsOk ws ∧ Q (.str (Str.ofString "may hold " ++ Txt.join ", " ws)) H
theorem may_len : (Str.ofString "may hold ").length = 9 := by decide +kernel
theorem ok_WT {tkW : Tok} {f : Addr} {fd : FuncData} (F : Fun K "words_text" "words_text" sWT f fd) (gW : mg "WORDS_AHEAD" = some (.str (Str.ofString "may hold ") tkW)) : FnOk P w K mg base CX0 1 f fd ["words"] spWT := by
  refine F.ok scWT (fun vs H Q E h => ?_) (fun cdv A outer s H vs Q E hr h => ?_)
  · obtain ⟨b, ws, rfl, _⟩ := h
    rfl
  · obtain ⟨b, ws, rfl, eb, wk, q⟩ := h
    have h2 := ws_sum wk.1
    have h3 := wk.2
    have h4 := ws_join wk
    refine ⟨_, pss_one (ps_ret (pe_op op_add_str (pe_glob (v := .str (Str.ofString "may hold ")) (by rfl) gW ⟨_, rfl⟩) (pe_join pe_str (pv 0)))), ?_⟩
    refine ⟨⟨_, rfl⟩, _, rfl, _, b, ws, rfl, rfl, .inr (SqT.of eb), (by rw [comma_len]; omega), ?_⟩
    exact ⟨_, _, rfl, rfl, lineM (by rw [may_len]; omega), q⟩
theorem hold_len : (Str.ofString "; may hold ").length = 11 := by decide +kernel
theorem roT_len {f : Fo} {ws : List Str} (g : Gd f) (h : WsOk ws) : (roT f ws).length ≤ 110 * f.cnt + 10011 := by
  have h1 := liT_len g
  have h2 := ws_join h
  unfold roT
  split
  · omega
  · rw [app_len, app_len, hold_len]
    omega
def spRT (d : Nat) : Sp := fun vs H Q _ => ∃ (a b : Addr) (xs : List V) (fo : Fo) (ws : List Str), vs = [.ref a, .ref b] ∧ H a = some (.tup xs) ∧ Rep H fo xs ∧ Gd fo ∧ fo ≠ .nil ∧ fo.depth ≤ d ∧ fo.cnt ≤ 1000 ∧ H b = some (.tup (ws.map V.str)) ∧ WsOk ws ∧ ∀ H', Same H H' → Q (.str (roT fo ws)) H'
theorem ok_RT {d k : Nat} {f fL : Addr} {fd fdL : FuncData} (F : Fun K "row_text" "row_text" sRT f fd) (FL : Fun K "list_text" "list_text" sLT fL fdL) (bL : Binds K fdL ["places"] []) (gL : mg "list_text" = some (.ref fL)) (GL : FnOk P w K mg base CX0 k fL fdL ["places"] (spLT d)) {fW : Addr} {fdW : FuncData} (FW : Fun K "words_text" "words_text" sWT fW fdW) (bW : Binds K fdW ["words"] []) (gW : mg "words_text" = some (.ref fW)) (GW : FnOk P w K mg base CX0 1 fW fdW ["words"] spWT) (hk : 1 ≤ k) (mL : mg "len" = none) : FnOk P w K mg base CX0 (k + 1) f fd ["places", "words"] (spRT d) := by
  refine F.ok scRT (fun vs H Q E h => ?_) (fun cdv A outer s H vs Q E hr h => ?_)
  · obtain ⟨a, b, xs, fo, ws, rfl, _⟩ := h
    rfl
  · obtain ⟨a, b, xs, fo, ws, rfl, ea, rp, g1, ne, dp, ct, eb, wk, q⟩ := h
    refine ⟨_, pss_cons (ps_if (pt_cmpR op_eq (pe_callB call_len_seq (by rfl) mL PySem.boot_len (pa_cons (pv 1) pa_nil)) pe_int (nomark _)) (pss_one (ps_ret (pe_call GL hr (by rfl) gL FL.kp bL .nil pass0 (pa_cons (pv 0) pa_nil)))) pss_nil)
      (pss_one (ps_ret (pe_op op_add_str (pe_op op_add_str (pe_call GL hr (by rfl) gL FL.kp bL .nil pass0 (pa_cons (pv 0) pa_nil)) pe_str) (pe_call GW (hr.mono hk) (by rfl) gW FW.kp bW .nil pass0 (pa_cons (pv 1) pa_nil))))), ?_⟩
    have h1 := liT_len g1
    have h2 := ws_sum wk.1
    have h3 := wk.2
    have h4 := ws_join wk
    refine ⟨_, rfl, b, _, rfl, .inr (SqT.of eb), rfl, _, rfl, ite2 (fun e => ?_) (fun e => ?_)⟩
    · have e0 : ws.length = 0 := by
        have e := V.int.inj (of_decide_eq_true e)
        rw [List.length_map] at e
        omega
      refine ⟨_, rfl, a, xs, fo, rfl, ea, rp, g1, ne, dp, ct, fun H1 t1 => ?_⟩
      have q := q H1 t1
      unfold roT at q
      rw [if_pos e0] at q
      exact q
    · have e0 : ¬ ws.length = 0 := fun z => e (decide_eq_true (by rw [List.length_map, z]; rfl))
      refine ⟨_, rfl, a, xs, fo, rfl, ea, rp, g1, ne, dp, ct, fun H1 t1 => ?_⟩
      have l2 : (Str.ofString "; ").length = 2 := by decide +kernel
      refine ⟨_, _, rfl, rfl, lineM (by rw [l2]; omega), _, rfl, b, ws, rfl, t1 _ _ eb, wk, ?_⟩
      refine ⟨_, _, rfl, rfl, lineM (by rw [app_len, app_len, l2, may_len]; omega), ?_⟩
      have q := q H1 t1
      unfold roT at q
      rw [if_neg e0] at q
      have e9 : Str.ofString "; may hold " = Str.ofString "; " ++ Str.ofString "may hold " := by decide +kernel
      rw [e9, ← app_assocS, app_assocS] at q
      exact q
end
end G
set_option Elab.async false
set_option linter.all false
set_option maxRecDepth 100000
set_option maxHeartbeats 1000000
namespace G
open PySem PySem.Spec PyProof.Rows L2 TL
theorem sz_big {i : Int} (h : i.natAbs < big) : Sz 1000 i := Nat.lt_of_lt_of_le h (Nat.le_trans (show big ≤ 2 ^ 67 by decide) (Nat.pow_le_pow_right (by decide) (by decide)))
theorem inV_str (z : Str) : ∀ ns : List Str, inV (.str z) (ns.map V.str) = decide (z ∈ ns)
  | [] => rfl
  | y :: r => by
    show (eqV (.str y) (.str z) || inV (.str z) (r.map V.str)) = _
    rw [inV_str z r]
    have e : eqV (.str y) (.str z) = decide (y = z) := by first | rfl | (show (y == z) = _; exact beq_eq_decide y z)
    rw [e, ← Bool.decide_or]
    refine decide_eq_decide.mpr ?_
    rw [List.mem_cons]
    exact ⟨fun h => h.imp Eq.symm id, fun h => h.imp Eq.symm id⟩
theorem stB_ok {H : Hp} {t lo hi : Addr} {s : Sh} (et : H t = some (.tup [.ref lo, .ref hi])) (e1 : Two H lo s.a s.b) (e2 : Two H hi s.c s.d) (ok : ShOk s) : stB H (.ref t) = true := by
  rw [stB_two et, prs_two e1, prs_two e2]
  show (isFr s.a s.b && isFr s.c s.d && (decide (0 ≤ s.a) && decide (s.a * s.d ≤ s.c * s.b) && decide (s.c ≤ s.d))) = true
  rw [ok.1.1, ok.1.2, decide_eq_true ok.2.1.1, decide_eq_true ok.2.1.2.1, decide_eq_true ok.2.1.2.2]
  rfl
theorem kd_st {H : Hp} {t lo hi : Addr} {s : Sh} (et : H t = some (.tup [.ref lo, .ref hi])) (e1 : Two H lo s.a s.b) (e2 : Two H hi s.c s.d) : Kd H (.ref t) := .tup et fun x hx => by
  rcases List.mem_cons.mp hx with z | z
  · rw [z]; exact kd_two e1
  · rw [List.mem_singleton.mp z]; exact kd_two e2
theorem bb_st {H : Hp} {t lo hi : Addr} {s : Sh} (et : H t = some (.tup [.ref lo, .ref hi])) (e1 : Two H lo s.a s.b) (e2 : Two H hi s.c s.d) (ok : ShOk s) : BB H (.ref t) := fun a u v ea e => by
  cases ea
  rw [et] at e
  cases e
  refine ⟨fun b i j eb e => ?_, fun b i j eb e => ?_⟩
  · cases eb
    have z := e1.symm.trans e
    cases z
    exact ⟨sz_big ok.2.2.1, sz_big ok.2.2.2.1⟩
  · cases eb
    have z := e2.symm.trans e
    cases z
    exact ⟨sz_big ok.2.2.2.2.1, sz_big ok.2.2.2.2.2⟩
/-- above + (at,) -/
theorem path_ok {K : PySem.W.Frag} {σ : L2.St} {H : Hp} {i j : Nat} {ab : Addr} {ks : List V} {n : Int} {Q : VK} (e1 : σ[i]? = some (some (.ref ab))) (e4 : σ[j]? = some (some (.int n))) (ea : H ab = some (.tup ks)) (hl : ks.length ≤ 100)
    (q : ∀ H' b, Same H H' → H' b = some (.tup (ks ++ [.int n])) → Q (.ref b) H') : tOp (rCatA K) (tVar i) (tTup (tCons (tVar j) tNil)) σ H Q := by
  refine ⟨_, e1, _, e4, (by show 1 ≤ sizeLine; decide), fun p np => ?_⟩
  refine ⟨ab, p, ks, _, rfl, rfl, SqT.of (same_upd np _ _ ea), SqT.of upd_same, lineM (by show ks.length + 1 ≤ _; omega), fun e => ?_, (fun _ e => by cases e), fun _ _ b nb => ?_⟩
  · refine q _ _ (same_upd np) ?_
    rw [e, upd_same]
    rfl
  · exact q _ _ ((same_upd np).trans (same_upd nb)) upd_same
section
variable {P : Program} {w : World} {K : PySem.W.Frag} {mg : Str → Option Value} {base : Heap}
/-! ### is_filled, of a tuple -/
abbrev sFi : Stmt := topS 27
theorem scFi : FnScope ["thing"] ["thing"] (defScope sFi) := ⟨rfl, rfl, rfl, by decide +kernel, rfl, by decide +kernel, by decide +kernel⟩
def spFi : Sp := fun vs H Q _ => ∃ (a : Addr) (xs : List V), vs = [.ref a] ∧ H a = some (.tup xs) ∧ 0 < xs.length ∧ Q (.bl true) H
theorem ok_fi {f : Addr} {fd : FuncData} (F : Fun K "is_filled" "is_filled" sFi f fd) (mI : mg "isinstance" = none) (mT : mg "tuple" = none) (mL : mg "len" = none) : FnOk P w K mg base CX0 1 f fd ["thing"] spFi := by
  refine F.ok scFi (fun vs H Q E h => ?_) (fun cdv A outer s H vs Q E hr h => ?_)
  · obtain ⟨a, xs, rfl, _⟩ := h
    rfl
  · obtain ⟨a, xs, rfl, e, hl, q⟩ := h
    refine ⟨_, pss_one (ps_ret (pe_and (pe_callB call_isi (by rfl) mI (by decide +kernel) (pa_cons (pv 0) (pa_cons (pe_bltn (v := .ty "tuple") (by rfl) mT (by decide +kernel) rfl) pa_nil))) (pe_one (pe_cmpR op_gt (pe_callB call_len_seq (by rfl) mL PySem.boot_len (pa_cons (pv 0) pa_nil)) pe_int (nomark _))))), ?_⟩
    refine ⟨.ref a, rfl, _, .ty "tuple", _, _, _, rfl, .ty _, .base (.tup e), kit_ty (b := "tuple") (r := true) (by decide +kernel), _, rfl, iteT ?_⟩
    refine ⟨.ref a, rfl, a, xs, rfl, .inr (SqT.of e), _, 0, rfl, rfl, ?_⟩
    show Q (.bl (decide ((0 : Int) < (xs.length : Int)))) H
    rw [decide_eq_true (show (0 : Int) < (xs.length : Int) by omega)]
    exact q
/-! ### is_formed, of a place -/
abbrev sFm : Stmt := topS 28
theorem scFm : FnScope ["thing", "name", "told", "inside"] ["thing"] (defScope sFm) := ⟨rfl, rfl, rfl, by decide +kernel, rfl, by decide +kernel, by decide +kernel⟩
def spFm : Sp := fun vs H Q _ => ∃ (x : V) (t : It3), vs = [x] ∧ Plc H x t ∧ NmOk t.1 ∧ (∀ s, t.2.1 = some s → ShOk s) ∧ ∀ H', Same H H' → Q (.bl true) H'
theorem ok_fm {f fN fS fF : Addr} {fd fdN fdS fdF : FuncData} (F : Fun K "is_formed" "is_formed" sFm f fd) (FN : Fun K "is_name" "is_name" sNm fN fdN) (bN : Binds K fdN ["thing"] []) (gN : mg "is_name" = some (.ref fN)) (GN : FnOk P w K mg base CX0 1 fN fdN ["thing"] spNm)
    (FS : Fun K "is_stretch" "is_stretch" sSt fS fdS) (bS : Binds K fdS ["thing"] []) (gS : mg "is_stretch" = some (.ref fS)) (GS : FnOk P w K mg base CX0 3 fS fdS ["thing"] spSt) (FF : Fun K "is_filled" "is_filled" sFi fF fdF) (bF : Binds K fdF ["thing"] []) (gF : mg "is_filled" = some (.ref fF))
    (mI : mg "isinstance" = none) (mT : mg "tuple" = none) (mL : mg "len" = none) : FnOk P w K mg base CX0 4 f fd ["thing"] spFm := by
  have GF : FnOk P w K mg base CX0 1 fF fdF ["thing"] spFi := ok_fi FF mI mT mL
  refine F.ok scFm (fun vs H Q E h => ?_) (fun cdv A outer s H vs Q E hr h => ?_)
  · obtain ⟨x, t, rfl, _⟩ := h
    rfl
  · obtain ⟨x, ⟨nm, td, ins⟩, rfl, ⟨p, tv, iv, rfl, ep, ht, hi⟩, n1, s1, q⟩ := h
    dsimp only at ep ht hi n1 s1
    have hr1 := hr.mono (show 1 ≤ 3 by decide)
    refine ⟨_, pss_cons (ps_if (PW.pt (pw_or (pt_not (pt_val (pe_callB call_isi (by rfl) mI (by decide +kernel) (pa_cons (pv 0) (pa_cons (pe_bltn (v := .ty "tuple") (by rfl) mT (by decide +kernel) rfl) pa_nil)))))
          (pw_or1 (pt_cmpR op_ne (pe_callB call_len_seq (by rfl) mL PySem.boot_len (pa_cons (pv 0) pa_nil)) pe_int (nomark _))))) (pss_one ps_never) pss_nil)
      (pss_cons (ps_asg (pv 0) (pg_tup (by rfl) (pgs_cons (pg_name (i := 1) scFm.nd rfl (.inl rfl)) (pgs_cons (pg_name (i := 2) scFm.nd rfl (.inl rfl)) (pgs_cons (pg_name (i := 3) scFm.nd rfl (.inl rfl)) pgs_nil)))))
      (pss_cons (ps_if (pt_not (pt_val (pe_call GN hr1 (by rfl) gN FN.kp bN .nil pass0 (pa_cons (pv 1) pa_nil)))) (pss_one ps_never) pss_nil)
      (C8.pss_cut (ps_if (PW.pt (pw_and (pt_cmpR op_notN (pv 2) pe_non (nomark _)) (pw_and1 (pt_not (pt_val (pe_call GS hr (by rfl) gS FS.kp bS .nil pass0 (pa_cons (pv 2) pa_nil))))))) (pss_one ps_never) pss_nil)
      (pss_one (ps_ret (pe_or (pe_cmpR op_isN (pv 3) pe_non (nomark _)) (pe_one (pe_call GF hr1 (by rfl) gF FF.kp bF .nil pass0 (pa_cons (pv 3) pa_nil))))))))), ?_⟩
    refine ⟨.ref p, rfl, _, .ty "tuple", _, _, _, rfl, .ty _, .base (.tup ep), kit_ty (b := "tuple") (r := true) (by decide +kernel), _, rfl, iteF ?_⟩
    refine ⟨.ref p, rfl, p, _, rfl, .inr (SqT.of ep), rfl, _, rfl, iteF ?_⟩
    refine ⟨.ref p, rfl, p, _, rfl, SqT.of ep, rfl, _, _, rfl, _, _, rfl, _, _, rfl, rfl, ?_⟩
    have nl := (NmOk.len n1).2
    refine ⟨_, rfl, _, rfl, .str nm, fun z hz => (by cases hz; omega), fun H1 t1 => ⟨_, rfl, ?_⟩⟩
    refine ifF (by rw [show nmB (.str nm) = true from n1]; rfl) ?_
    refine ⟨fun σ H2 => σ = [some (.ref p), some (.str nm), some tv, some iv] ∧ Same H H2, ?_, ?_⟩
    · cases td with
      | none =>
        obtain rfl : tv = .non := ht
        exact ⟨_, rfl, rfl, _, rfl, iteF ⟨rfl, t1⟩⟩
      | some sh =>
        obtain ⟨t, lo, hi', rfl, et, e1, e2⟩ := ht
        refine ⟨_, rfl, rfl, _, rfl, iteT ?_⟩
        refine ⟨_, rfl, _, rfl, (kd_st (s := sh) et e1 e2).same t1, bb_st (s := sh) (t1 _ _ et) (t1 _ _ e1) (t1 _ _ e2) (s1 sh rfl), fun H2 t2 => ⟨_, rfl, ?_⟩⟩
        rw [stB_ok (s := sh) (t1 _ _ et) (t1 _ _ e1) (t1 _ _ e2) (s1 sh rfl)]
        exact iteF ⟨rfl, t1.trans t2⟩
    · rintro σ H2 ⟨rfl, t2⟩
      rcases hi with ⟨rfl, rfl⟩ | ⟨ne, a, zs, rfl, ea, rp⟩
      · exact ⟨_, rfl, rfl, _, rfl, iteT (q H2 t2)⟩
      · refine ⟨_, rfl, rfl, _, rfl, iteF ?_⟩
        refine ⟨_, rfl, a, zs, rfl, t2 _ _ ea, ?_, q H2 t2⟩
        rw [rp.len]
        exact (Fo.ne_of_len ne).1
end
end G
set_option Elab.async false
set_option linter.all false
set_option maxRecDepth 100000
set_option maxHeartbeats 1000000
namespace G
open PySem PySem.Spec PyProof.Rows L2 TL
theorem Fo.names_at {f : Fo} {n : Nat} {t : It3} (h : f.items[n]? = some t) : f.names[n]? = some t.1 := by
  unfold Fo.names
  rw [List.getElem?_map, h]
  rfl
theorem names_succ {f : Fo} {n : Nat} {t : It3} (h : f.items[n]? = some t) : (f.names.take (n + 1)).map V.str = (f.names.take n).map V.str ++ [.str t.1] := take_succ_map V.str (Fo.names_at h)
section
variable {P : Program} {w : World} {K : PySem.W.Frag} {mg : Str → Option Value} {base : Heap}
/-! ### check_list -/
abbrev sCL : Stmt := topS 29
theorem scCL : FnScope ["places", "above", "around", "ahead", "at", "place", "path", "name", "told", "inside"] ["places", "above", "around"] (defScope sCL) := ⟨rfl, rfl, rfl, by decide +kernel, rfl, by decide +kernel, by decide +kernel⟩
def spCL (d : Nat) : Sp := fun vs H Q _ => ∃ (a ab ar : Addr) (xs ks : List V) (ns : List Str) (fo : Fo), vs = [.ref a, .ref ab, .ref ar] ∧ H a = some (.tup xs) ∧ Rep H fo xs ∧ Gd fo ∧ fo ≠ .nil ∧ fo.depth ≤ d ∧ fo.cnt ≤ 1000 ∧
  H ab = some (.tup ks) ∧ ks.length + d ≤ 4 ∧ H ar = some (.lst (ns.map V.str)) ∧ ns.length + d ≤ 10 ∧ Ns ns [] fo ∧ ∀ H', Same H H' → Q .non H'
theorem ok_CL {d k : Nat} {tk : Tok} {f fF : Addr} {fd fdF : FuncData} (F : Fun K "check_list" "check_list" sCL f fd) (bC : Binds K fd ["places", "above", "around"] []) (gC : mg "check_list" = some (.ref f)) (GC : FnOk P w K mg base CX0 k f fd ["places", "above", "around"] (spCL d))
    (FF : Fun K "is_formed" "is_formed" sFm fF fdF) (bF : Binds K fdF ["thing"] []) (gF : mg "is_formed" = some (.ref fF)) (GF : FnOk P w K mg base CX0 4 fF fdF ["thing"] spFm) (hk : 4 ≤ k) (mE : mg "enumerate" = none) (mL : mg "len" = none) (mD : mg "MOST_DEPTH" = some (.int 4 tk)) : FnOk P w K mg base CX0 (k + 1) f fd ["places", "above", "around"] (spCL (d + 1)) := by
  refine F.ok scCL (fun vs H Q E h => ?_) (fun cdv A outer s H vs Q E hr h => ?_)
  · obtain ⟨a, ab, ar, xs, ks, ns, fo, rfl, _⟩ := h
    rfl
  · obtain ⟨a, ab, ar, xs, ks, ns, fo, rfl, ea, rp, g1, ne, dp, ct, eb, hks, er, hns, un, q⟩ := h
    refine ⟨_, pss_cons (ps_set (i := 3) scCL.nd rfl (.inl rfl) (pe_lst pa_nil))
      (pss_one (ps_for PassesOwn.never rfl (pi_enumT (by rfl) mE (pa_cons (pv 0) pa_nil)) (pg_tup (by rfl) (pgs_cons (pg_name (i := 4) scCL.nd rfl (.inl rfl)) (pgs_cons (pg_name (i := 5) scCL.nd rfl (.inl rfl)) pgs_nil)))
        (pss_cons (ps_set (i := 6) scCL.nd rfl (.inl rfl) (pe_op op_catA (pv 1) (pe_tup (pa_cons (pv 4) pa_nil))))
        (pss_cons (ps_if (PW.pt (pw_or (pt_cmpR op_gt (pe_callB call_len_seq (by rfl) mL PySem.boot_len (pa_cons (pv 6) pa_nil)) (pe_glob (v := .int 4) (by rfl) mD ⟨tk, rfl⟩) (nomark _)) (pw_or1 (pt_not (pt_val (pe_call GF (hr.mono hk) (by rfl) gF FF.kp bF .nil pass0 (pa_cons (pv 5) pa_nil))))))) (pss_one ps_never) pss_nil)
        (pss_cons (ps_asg (pv 5) (pg_tup (by rfl) (pgs_cons (pg_name (i := 7) scCL.nd rfl (.inl rfl)) (pgs_cons (pg_name (i := 8) scCL.nd rfl (.inl rfl)) (pgs_cons (pg_name (i := 9) scCL.nd rfl (.inl rfl)) pgs_nil)))))
        (pss_cons (ps_if (PW.pt (pw_or (pt_cmpR op_in_seq (pv 7) (pv 3) (by rfl)) (pw_or1 (pt_cmpR op_in_seq (pv 7) (pv 2) (by rfl))))) (pss_one ps_never) pss_nil)
        (pss_cons (ps_expr (pe_bm PySem.F.plainAttrs_list PySem.F.slot_list_append PySem.F.type_list_append mt_append (pv 3) (pa_cons (pv 7) pa_nil)))
        (pss_one (ps_if (pt_cmpR op_notN (pv 9) pe_non (nomark _)) (pss_one (ps_expr (pe_call GC hr (by rfl) gC F.kp bC .nil pass0 (pa_cons (pv 9) (pa_cons (pv 6) (pa_cons (pe_op op_cat (pv 2) (pe_lst (pa_cons (pv 7) pa_nil))) pa_nil)))))) pss_nil))))))))), ?_⟩
    have lcnt := Fo.len_cnt fo
    have lxs := rp.len
    refine ⟨(by show 0 ≤ sizeLine; exact Nat.zero_le _), fun D nD => ?_⟩
    have sD := same_upd (o := .lst []) nD
    refine ⟨_, rfl, a, xs, rfl, SqT.of (sD _ _ ea), for_it (walk_enumT (K := K) (a := a) (xs := xs)) (fun n σ H1 => ∃ v4 v5 v6 v7 v8 v9, σ = [some (.ref a), some (.ref ab), some (.ref ar), some (.ref D), v4, v5, v6, v7, v8, v9] ∧ Same H H1 ∧ H1 D = some (.lst ((fo.names.take n).map V.str)))
      ⟨none, none, none, none, none, none, rfl, sD, upd_same⟩ (fun n σ H1 _ h => ?_) ?_ ?_⟩
    · obtain ⟨_, _, _, _, _, _, _, s1, _⟩ := h
      exact SqT.of (s1 _ _ ea)
    · rintro n x σ H1 H2 hn ⟨v4, v5, v6, v7, v8, v9, rfl, s1, e1⟩ ⟨T, u, v, rfl, nT, rfl, hu, hv⟩
      obtain rfl : V.int (n : Nat) = u := Option.some.inj hu
      obtain ⟨t, ht, pl⟩ := rp.at hv
      obtain ⟨k1, k2⟩ := Fo.at_cnt ht
      obtain ⟨h1, h2, h3⟩ := g1.at ht
      obtain ⟨u1, u2, u3⟩ := un.at ht
      have sT := same_upd (o := .tup [V.int (n : Nat), v]) nT
      refine ⟨T, _, rfl, SqT.of upd_same, rfl, _, _, rfl, _, _, rfl, rfl, ?_⟩
      refine path_ok (ab := ab) (ks := ks) (n := (n : Nat)) rfl rfl (sT _ _ (s1 _ _ eb)) (by omega) fun H3 b s3 e3 => ?_
      have s13 : Same H H3 := (s1.trans sT).trans s3
      refine ⟨_, rfl, b, _, rfl, .inr (SqT.of e3), _, 4, rfl, rfl, _, rfl, ifF ?_ ?_⟩
      · rw [List.length_append]
        exact decide_eq_false (by show ¬ (4 : Int) < ((ks.length + 1 : Nat) : Int); omega)
      refine ⟨_, rfl, v, t, rfl, pl.mv (.of_same s13), h1, h2, fun H4 s4 => ⟨_, rfl, iteF ?_⟩⟩
      have s14 := s13.trans s4
      obtain ⟨p, tv, iv, rfl, ep, htd, hin⟩ := pl.mv (.of_same s14)
      refine ⟨_, rfl, p, _, rfl, SqT.of ep, rfl, _, _, rfl, _, _, rfl, _, _, rfl, rfl, ?_⟩
      have e4 : H4 D = some (.lst ((fo.names.take n).map V.str)) := s4 _ _ (s3 _ _ (sT _ _ e1))
      have r4 : H4 ar = some (.lst (ns.map V.str)) := s14 _ _ er
      refine ⟨_, rfl, _, rfl, D, _, rfl, .inl (SqL.of e4), rfl, flat_strs _, _, rfl, ifF ?_ ?_⟩
      · show inV (.str t.1) ((fo.names.take n).map V.str) = false
        rw [inV_str]
        exact decide_eq_false u1
      refine ⟨_, rfl, _, rfl, ar, _, rfl, .inl (SqL.of r4), rfl, flat_strs _, _, rfl, ifF ?_ ?_⟩
      · show inV (.str t.1) (ns.map V.str) = false
        rw [inV_str]
        exact decide_eq_false u2
      refine ⟨_, rfl, .inl ⟨rfl, _, SqL.of e4⟩, _, rfl, D, _, _, rfl, rfl, e4, ?_, ?_⟩
      · rw [List.length_map, List.length_take]
        exact Nat.lt_of_lt_of_le (show min n fo.names.length < 1000000 by unfold Fo.names; rw [List.length_map]; omega) (by decide)
      have nDr : ar ≠ D := ne_of_none er nD
      have s15 : Same H (upd H4 D (.lst ((fo.names.take n).map V.str ++ [.str t.1]))) := same_app s14 nD (.refl _)
      have e5 : (upd H4 D (.lst ((fo.names.take n).map V.str ++ [.str t.1]))) D = some (.lst ((fo.names.take (n + 1)).map V.str)) := by rw [upd_same, names_succ ht]
      have nDb : b ≠ D := fun z => by
        rw [z, s3 _ _ (sT _ _ e1)] at e3
        cases e3
      have eb5 : (upd H4 D (.lst ((fo.names.take n).map V.str ++ [.str t.1]))) b = some (.tup (ks ++ [.int (n : Nat)])) := by
        rw [upd_ne nDb]
        exact s4 _ _ e3
      have pl5 := pl.mv (.of_same s15)
      rcases hin with ⟨ei, rfl⟩ | ⟨nei, qa, zs, rfl, eq, rpi⟩
      · exact ⟨_, rfl, rfl, _, rfl, iteF ⟨_, _, _, _, _, _, rfl, s15, e5⟩⟩
      · refine ⟨_, rfl, rfl, _, rfl, iteT ?_⟩
        have nDq : qa ≠ D := fun z => by
          rw [z, e4] at eq
          cases eq
        have tps : Tups H4 (upd H4 D (.lst ((fo.names.take n).map V.str ++ [.str t.1]))) := .of_keep (p := D) keep_upd fun ys z => by
          rw [e4] at z
          cases z
        refine ⟨_, rfl, _, rfl, _, rfl, _, rfl, (by show 1 ≤ sizeLine; decide), fun l nl => ?_⟩
        have s5l := same_upd (o := .lst [V.str t.1]) nl
        refine ⟨ar, l, ns.map V.str, [.str t.1], rfl, rfl, s5l _ _ (s15 _ _ er), upd_same, lineM (by rw [List.length_map]; show ns.length + 1 ≤ _; omega), fun m nm => ?_⟩
        have s6 := s5l.trans (same_upd (o := .lst (ns.map V.str ++ [V.str t.1])) nm)
        refine ⟨qa, b, m, zs, ks ++ [.int (n : Nat)], ns ++ [t.1], t.2.2, rfl, s6 _ _ (tps _ _ eq), (rpi.mv tps).mv (.of_same s6), h3, nei, by omega, by omega, s6 _ _ eb5, by rw [List.length_append]; show ks.length + 1 + d ≤ 4; omega, ?_, by rw [List.length_append]; show ns.length + 1 + d ≤ 10; omega, u3, fun H7 s7 => ?_⟩
        · rw [upd_same, List.map_append]
          rfl
        · exact ⟨_, _, _, _, _, _, rfl, s15.trans (s6.trans s7), s7 _ _ (s6 _ _ e5)⟩
    · rintro σ H1 ⟨v4, v5, v6, v7, v8, v9, rfl, s1, e1⟩
      exact q _ s1
/-- by depth -/
theorem ok_check {tk : Tok} {f fF : Addr} {fd fdF : FuncData} (F : Fun K "check_list" "check_list" sCL f fd) (bC : Binds K fd ["places", "above", "around"] []) (gC : mg "check_list" = some (.ref f))
    (FF : Fun K "is_formed" "is_formed" sFm fF fdF) (bF : Binds K fdF ["thing"] []) (gF : mg "is_formed" = some (.ref fF)) (GF : FnOk P w K mg base CX0 4 fF fdF ["thing"] spFm) (mE : mg "enumerate" = none) (mL : mg "len" = none) (mD : mg "MOST_DEPTH" = some (.int 4 tk)) : ∀ d, FnOk P w K mg base CX0 (4 + d) f fd ["places", "above", "around"] (spCL d)
  | 0 => by
    refine ⟨fun vs H Q E h => ?_, fun A outer s H args us vs Q E hr e0 hb r h => ?_⟩
    · obtain ⟨a, ab, ar, xs, ks, ns, fo, rfl, _⟩ := h
      rfl
    · obtain ⟨a, ab, ar, xs, ks, ns, fo, rfl, _, _, _, ne, dp, _⟩ := h
      exact absurd (Fo.nil_of_depth (Nat.le_zero.mp dp)) ne
  | d + 1 => ok_CL F bC gC (ok_check F bC gC FF bF gF GF mE mL mD d) FF bF gF GF (Nat.le_add_right 4 _) mE mL mD
/-! ### check_places -/
abbrev sCP : Stmt := topS 30
theorem scCP : FnScope ["places"] ["places"] (defScope sCP) := ⟨rfl, rfl, rfl, by decide +kernel, rfl, by decide +kernel, by decide +kernel⟩
/-- a list that is to be taken -/
structure Good (H : Hp) (a : Addr) (fo : Fo) : Prop where
  at_ : ∃ xs, H a = some (.tup xs) ∧ Rep H fo xs
  gd : Gd fo
  ne : fo ≠ .nil
  dp : fo.depth ≤ 4
  ct : fo.cnt ≤ 12
  un : Ns [] [] fo
theorem Good.mv {H H' : Hp} {a : Addr} {fo : Fo} (g : Good H a fo) (t : Tups H H') : Good H' a fo := by
  obtain ⟨⟨xs, e, r⟩, b, c, d, e2, f⟩ := g
  exact ⟨⟨xs, t _ _ e, r.mv t⟩, b, c, d, e2, f⟩
def spCP : Sp := fun vs H Q _ => ∃ (a : Addr) (fo : Fo), vs = [.ref a] ∧ Good H a fo ∧ ∀ H', Same H H' → Q .non H'
theorem ok_CP {f fF fC : Addr} {fd fdF fdC : FuncData} (F : Fun K "check_places" "check_places" sCP f fd) (FF : Fun K "is_filled" "is_filled" sFi fF fdF) (bF : Binds K fdF ["thing"] []) (gF : mg "is_filled" = some (.ref fF)) (GF : FnOk P w K mg base CX0 1 fF fdF ["thing"] spFi)
    (FC : Fun K "check_list" "check_list" sCL fC fdC) (bC : Binds K fdC ["places", "above", "around"] []) (gC : mg "check_list" = some (.ref fC)) (GC : FnOk P w K mg base CX0 8 fC fdC ["places", "above", "around"] (spCL 4)) : FnOk P w K mg base CX0 9 f fd ["places"] spCP := by
  refine F.ok scCP (fun vs H Q E h => ?_) (fun cdv A outer s H vs Q E hr h => ?_)
  · obtain ⟨a, fo, rfl, _⟩ := h
    rfl
  · obtain ⟨a, fo, rfl, ⟨⟨xs, ea, rp⟩, g1, ne, dp, ct, un⟩, q⟩ := h
    refine ⟨_, pss_cons (ps_if (pt_not (pt_val (pe_call GF (hr.mono (by decide)) (by rfl) gF FF.kp bF .nil pass0 (pa_cons (pv 0) pa_nil)))) (pss_one ps_never) pss_nil)
      (pss_one (ps_expr (pe_call GC hr (by rfl) gC FC.kp bC .nil pass0 (pa_cons (pv 0) (pa_cons (pe_tup pa_nil) (pa_cons (pe_lst pa_nil) pa_nil)))))), ?_⟩
    refine ⟨_, rfl, a, xs, rfl, ea, by rw [rp.len]; exact (Fo.ne_of_len ne).1, _, rfl, iteF ?_⟩
    refine ⟨_, rfl, (by show 0 ≤ sizeLine; exact Nat.zero_le _), fun b nb => ?_⟩
    have s1 := same_upd (o := .tup []) nb
    refine ⟨(by show 0 ≤ sizeLine; exact Nat.zero_le _), fun c nc => ?_⟩
    have s2 := same_upd (o := .lst []) nc
    refine ⟨a, b, c, xs, [], [], fo, rfl, s2 _ _ (s1 _ _ ea), rp.mv (.of_same (s1.trans s2)), g1, ne, dp, by omega, s2 _ _ upd_same, by decide, upd_same, by decide, un, fun H3 s3 => q _ ((s1.trans s2).trans s3)⟩
/-! ### check_names -/
abbrev sCN : Stmt := topS 31
theorem scCN : FnScope ["names", "number", "name"] ["names"] (defScope sCN) := ⟨rfl, rfl, rfl, by decide +kernel, rfl, by decide +kernel, by decide +kernel⟩
def spCN (K : PySem.W.Frag) : Sp := fun vs H Q _ => ∃ (a : Addr) (ws : List Str), vs = [.ref a] ∧ (H a = some (.lst (ws.map V.str)) ∨ H a = some (.tup (ws.map V.str))) ∧ (∀ y ∈ ws, NmOk y) ∧ ws.length ≤ 1000 ∧ ∀ H', Same H H' → Q .non H'
end
end G
set_option Elab.async false
set_option linter.all false
set_option maxRecDepth 100000
set_option maxHeartbeats 1000000
namespace G
open PySem PySem.Spec PyProof.Rows L2 TL
theorem map_at {ws : List Str} {n : Nat} {v : V} (h : (ws.map V.str)[n]? = some v) : ∃ y, ws[n]? = some y ∧ v = .str y := by
  rw [List.getElem?_map] at h
  cases e : ws[n]? with
  | none => rw [e] at h; cases h
  | some y => rw [e] at h; exact ⟨y, rfl, (Option.some.inj h).symm⟩
theorem kit_lt {K : PySem.W.Frag} {t : String} (h : t = "list" ∨ t = "tuple") : PySem.W.kitAny K (.type t) [.type "list", .type "tuple"] = some true := by
  rcases h with rfl | rfl
  · exact kitAny_cons (b := true) (kit_ty (by decide +kernel)) (fun z => by cases z) (fun _ => rfl)
  · exact kitAny_cons (b := false) (kit_ty (by decide +kernel)) (fun _ => kitAny_cons (b := true) (kit_ty (by decide +kernel)) (fun z => by cases z) (fun _ => rfl)) (fun z => by cases z)
section
variable {P : Program} {w : World} {K : PySem.W.Frag} {mg : Str → Option Value} {base : Heap}
theorem ok_CN {f fN : Addr} {fd fdN : FuncData} (F : Fun K "check_names" "check_names" sCN f fd) (FN : Fun K "is_name" "is_name" sNm fN fdN) (bN : Binds K fdN ["thing"] []) (gN : mg "is_name" = some (.ref fN)) (GN : FnOk P w K mg base CX0 1 fN fdN ["thing"] spNm)
    (mI : mg "isinstance" = none) (mLi : mg "list" = none) (mT : mg "tuple" = none) (mE : mg "enumerate" = none) : FnOk P w K mg base CX0 2 f fd ["names"] (spCN K) := by
  refine F.ok scCN (fun vs H Q E h => ?_) (fun cdv A outer s H vs Q E hr h => ?_)
  · obtain ⟨a, ws, rfl, _⟩ := h
    rfl
  · obtain ⟨a, ws, rfl, ha, hw, hl, q⟩ := h
    have turn : ∀ (n : Nat) (v : V) (H2 : Hp) (v1 v2 : Option V), (ws.map V.str)[n]? = some v → Same H H2 → (tIfS (tNot (tB (tCall spNm [] E0 (tCons (tVar 2) tNil)))) tNever tNext) { nx := fun σ H1 => ∃ v1 v2, σ = [some (.ref a), v1, v2] ∧ Same H H1, rt := Q } [some (.ref a), v1, some v] H2 := by
      intro n v H2 v1 v2 hv s2
      obtain ⟨y, hy, rfl⟩ := map_at hv
      have ok := hw y (List.mem_of_getElem? hy)
      have nl := ok.len.2
      refine ⟨_, rfl, _, rfl, .str y, fun z hz => (by cases hz; omega), fun H3 t3 => ⟨_, rfl, ?_⟩⟩
      refine ifF (by rw [show nmB (.str y) = true from ok]; rfl) ?_
      exact ⟨_, _, rfl, s2.trans t3⟩
    rcases ha with ha | ha
    · refine ⟨_, pss_cons (ps_if (pt_not (pt_val (pe_callB call_isiT (by rfl) mI (by decide +kernel) (pa_cons (pv 0) (pa_cons (pe_tup (pa_cons (pe_bltn (v := .ty "list") (by rfl) mLi (by decide +kernel) rfl) (pa_cons (pe_bltn (v := .ty "tuple") (by rfl) mT (by decide +kernel) rfl) pa_nil))) pa_nil))))) (pss_one ps_never) pss_nil)
        (pss_one (ps_for PassesOwn.never rfl (pi_enum (by rfl) mE (pa_cons (pv 0) pa_nil)) (pg_tup (by rfl) (pgs_cons (pg_name (i := 1) scCN.nd rfl (.inl rfl)) (pgs_cons (pg_name (i := 2) scCN.nd rfl (.inl rfl)) pgs_nil)))
          (pss_one (ps_if (pt_not (pt_val (pe_call GN hr (by rfl) gN FN.kp bN .nil pass0 (pa_cons (pv 2) pa_nil)))) (pss_one ps_never) pss_nil)))), ?_⟩
      refine ⟨_, rfl, (by show 2 ≤ sizeLine; decide), fun T nT => ?_⟩
      have sT := same_upd (o := .tup [V.ty "list", V.ty "tuple"]) nT
      refine ⟨_, T, _, _, _, _, rfl, upd_same, .cons (.ty _) (.cons (.ty _) .nil), .base (.lst (sT _ _ ha)), kit_lt (.inl rfl), _, rfl, iteF ?_⟩
      refine ⟨_, rfl, a, _, rfl, SqL.of (sT _ _ ha), for_it (walk_enum (K := K) (a := a) (xs := ws.map V.str)) (fun n σ H1 => ∃ v1 v2, σ = [some (.ref a), v1, v2] ∧ Same H H1) ⟨none, none, rfl, sT⟩ (fun n σ H1 _ h => ?_) ?_ ?_⟩
      · obtain ⟨_, _, _, s1⟩ := h
        exact SqL.of (s1 _ _ ha)
      · rintro n x σ H1 H2 hn ⟨v1, v2, rfl, s1⟩ ⟨U, u, v, rfl, nU, rfl, hu, hv⟩
        refine ⟨U, _, rfl, SqT.of upd_same, rfl, _, _, rfl, _, _, rfl, rfl, ?_⟩
        exact turn n v _ _ v2 hv (s1.trans (same_upd nU))
      · rintro σ H1 ⟨v1, v2, rfl, s1⟩
        exact q _ s1
    · refine ⟨_, pss_cons (ps_if (pt_not (pt_val (pe_callB call_isiT (by rfl) mI (by decide +kernel) (pa_cons (pv 0) (pa_cons (pe_tup (pa_cons (pe_bltn (v := .ty "list") (by rfl) mLi (by decide +kernel) rfl) (pa_cons (pe_bltn (v := .ty "tuple") (by rfl) mT (by decide +kernel) rfl) pa_nil))) pa_nil))))) (pss_one ps_never) pss_nil)
        (pss_one (ps_for PassesOwn.never rfl (pi_enumT (by rfl) mE (pa_cons (pv 0) pa_nil)) (pg_tup (by rfl) (pgs_cons (pg_name (i := 1) scCN.nd rfl (.inl rfl)) (pgs_cons (pg_name (i := 2) scCN.nd rfl (.inl rfl)) pgs_nil)))
          (pss_one (ps_if (pt_not (pt_val (pe_call GN hr (by rfl) gN FN.kp bN .nil pass0 (pa_cons (pv 2) pa_nil)))) (pss_one ps_never) pss_nil)))), ?_⟩
      refine ⟨_, rfl, (by show 2 ≤ sizeLine; decide), fun T nT => ?_⟩
      have sT := same_upd (o := .tup [V.ty "list", V.ty "tuple"]) nT
      refine ⟨_, T, _, _, _, _, rfl, upd_same, .cons (.ty _) (.cons (.ty _) .nil), .base (.tup (sT _ _ ha)), kit_lt (.inr rfl), _, rfl, iteF ?_⟩
      refine ⟨_, rfl, a, _, rfl, SqT.of (sT _ _ ha), for_it (walk_enumT (K := K) (a := a) (xs := ws.map V.str)) (fun n σ H1 => ∃ v1 v2, σ = [some (.ref a), v1, v2] ∧ Same H H1) ⟨none, none, rfl, sT⟩ (fun n σ H1 _ h => ?_) ?_ ?_⟩
      · obtain ⟨_, _, _, s1⟩ := h
        exact SqT.of (s1 _ _ ha)
      · rintro n x σ H1 H2 hn ⟨v1, v2, rfl, s1⟩ ⟨U, u, v, rfl, nU, rfl, hu, hv⟩
        refine ⟨U, _, rfl, SqT.of upd_same, rfl, _, _, rfl, _, _, rfl, rfl, ?_⟩
        exact turn n v _ _ v2 hv (s1.trans (same_upd nU))
      · rintro σ H1 ⟨v1, v2, rfl, s1⟩
        exact q _ s1
/-! ### gather: how many -/
abbrev sGa : Stmt := topS 32
theorem scGa : FnScope ["places", "above", "found", "at", "place", "path"] ["places", "above", "found"] (defScope sGa) := ⟨rfl, rfl, rfl, by decide +kernel, rfl, by decide +kernel, by decide +kernel⟩
def iK : Int → Key := Sum.inl
def spGa (d : Nat) : Sp := fun vs H Q _ => ∃ (a ab D : Addr) (xs : List V) (ks : List Int) (kvs : List (List Key × V)) (fo : Fo), vs = [.ref a, .ref ab, .ref D] ∧ H a = some (.tup xs) ∧ Rep H fo xs ∧ fo ≠ .nil ∧ fo.depth ≤ d ∧
  H ab = some (.tup (ks.map V.int)) ∧ ks.length ≤ 50 ∧ ks.length + d ≤ 50 ∧ H D = some (.dT kvs) ∧ kvs.length + fo.cnt ≤ 1000 ∧ ∀ H' kvs', Keep D H H' → H' D = some (.dT kvs') → kvs'.length ≤ kvs.length + fo.cnt → Q .non H'
def cntTo : Fo → Nat → Nat
  | .nil, _ => 0
  | .cons _ _ _ _, 0 => 0
  | .cons _ _ i r, n + 1 => 1 + i.cnt + cntTo r n
theorem cntTo_all : ∀ f : Fo, cntTo f f.items.length = f.cnt
  | .nil => rfl
  | .cons _ _ i r => by
    show 1 + i.cnt + cntTo r r.items.length = 1 + i.cnt + r.cnt
    rw [cntTo_all r]
theorem cntTo_zero : ∀ f : Fo, cntTo f 0 = 0
  | .nil => rfl
  | .cons _ _ _ _ => rfl
theorem cntTo_succ : ∀ {f : Fo} {n : Nat} {t : It3}, f.items[n]? = some t → cntTo f (n + 1) = cntTo f n + 1 + t.2.2.cnt
  | .nil, n, t, h => by cases h
  | .cons nm td i r, 0, t, h => by
    have h : (nm, td, i) = t := Option.some.inj h
    subst h
    show 1 + i.cnt + cntTo r 0 = 0 + 1 + i.cnt
    rw [cntTo_zero]
    omega
  | .cons nm td i r, n + 1, t, h => by
    have q := cntTo_succ (f := r) (n := n) h
    show 1 + i.cnt + cntTo r (n + 1) = 1 + i.cnt + cntTo r n + 1 + t.2.2.cnt
    omega
theorem cntTo_le : ∀ (f : Fo) (n : Nat), cntTo f n ≤ f.cnt
  | .nil, _ => Nat.zero_le _
  | .cons _ _ _ _, 0 => Nat.zero_le _
  | .cons _ _ i r, n + 1 => by
    have := cntTo_le r n
    show 1 + i.cnt + cntTo r n ≤ 1 + i.cnt + r.cnt
    omega
theorem map_ints (ks : List Int) (n : Int) : ks.map V.int ++ [V.int n] = ((ks ++ [n]).map iK).map kV := by
  rw [List.map_append, List.map_append, List.map_map]
  rfl
theorem ok_GaS {d k : Nat} {f : Addr} {fd : FuncData} (F : Fun K "gather" "gather" sGa f fd) (bG : Binds K fd ["places", "above", "found"] []) (gG : mg "gather" = some (.ref f)) (GG : FnOk P w K mg base CX0 k f fd ["places", "above", "found"] (spGa d)) (mE : mg "enumerate" = none) : FnOk P w K mg base CX0 (k + 1) f fd ["places", "above", "found"] (spGa (d + 1)) := by
  refine F.ok scGa (fun vs H Q E h => ?_) (fun cdv A outer s H vs Q E hr h => ?_)
  · obtain ⟨a, ab, D, xs, ks, kvs, fo, rfl, _⟩ := h
    rfl
  · obtain ⟨a, ab, D, xs, ks, kvs, fo, rfl, ea, rp, ne, dp, eb, hks, hkd, eD, hct, q⟩ := h
    have hu := hu_of hr
    refine ⟨_, pss_one (ps_for PassesOwn.never rfl (pi_enumT (by rfl) mE (pa_cons (pv 0) pa_nil)) (pg_tup (by rfl) (pgs_cons (pg_name (i := 3) scGa.nd rfl (.inl rfl)) (pgs_cons (pg_name (i := 4) scGa.nd rfl (.inl rfl)) pgs_nil)))
        (pss_cons (ps_set (i := 5) scGa.nd rfl (.inl rfl) (pe_op op_catA (pv 1) (pe_tup (pa_cons (pv 3) pa_nil))))
        (pss_cons (ps_dput hu (pv 2) (pv 5) (pv 4) rfl)
        (pss_one (ps_if (pt_cmpR op_notN (pe_ix ix_tup (pv 4) pe_int (fun _ _ => rfl)) pe_non (nomark _)) (pss_one (ps_expr (pe_call GG hr (by rfl) gG F.kp bG .nil pass0 (pa_cons (pe_ix ix_tup (pv 4) pe_int (fun _ _ => rfl)) (pa_cons (pv 5) (pa_cons (pv 2) pa_nil)))))) pss_nil))))), ?_⟩
    have lxs := rp.len
    have noT : ∀ H1 : Hp, (∃ z, H1 D = some (.dT z)) → ∀ ys, H1 D ≠ some (.tup ys) := fun H1 ⟨z, e⟩ ys e2 => by
      rw [e] at e2
      cases e2
    have tp : ∀ {H1 : Hp}, Keep D H H1 → Tups H H1 := fun k => .of_keep k (noT H ⟨_, eD⟩)
    refine ⟨_, rfl, a, xs, rfl, SqT.of ea, for_it (walk_enumT (K := K) (a := a) (xs := xs)) (fun n σ H1 => ∃ v3 v4 v5 kvs1, σ = [some (.ref a), some (.ref ab), some (.ref D), v3, v4, v5] ∧ Keep D H H1 ∧ H1 D = some (.dT kvs1) ∧ kvs1.length ≤ kvs.length + cntTo fo n)
      ⟨none, none, none, kvs, rfl, .refl, eD, by omega⟩ (fun n σ H1 _ h => ?_) ?_ ?_⟩
    · obtain ⟨_, _, _, _, _, k1, _⟩ := h
      exact SqT.of (tp k1 _ _ ea)
    · rintro n x σ H1 H2 hn ⟨v3, v4, v5, kvs1, rfl, k1, e1, l1⟩ ⟨T, u, v, rfl, nT, rfl, hu', hv⟩
      obtain rfl : V.int (n : Nat) = u := Option.some.inj hu'
      obtain ⟨t, ht, pl⟩ := rp.at hv
      obtain ⟨c1, c2⟩ := Fo.at_cnt ht
      have cs := cntTo_succ ht
      have cl := cntTo_le fo (n + 1)
      have sT := same_upd (o := .tup [V.int (n : Nat), v]) nT
      refine ⟨T, _, rfl, SqT.of upd_same, rfl, _, _, rfl, _, _, rfl, rfl, ?_⟩
      refine path_ok (ab := ab) (ks := ks.map V.int) (n := (n : Nat)) rfl rfl (sT _ _ (tp k1 _ _ eb)) (by rw [List.length_map]; omega) fun H3 b s3 e3 => ?_
      have k3 : Keep D H H3 := k1.trans (same_keep (sT.trans s3))
      have e4 : H3 D = some (.dT kvs1) := s3 _ _ (sT _ _ e1)
      rw [map_ints] at e3
      refine ⟨_, rfl, _, rfl, _, rfl, D, _, rfl, DPut.t e4 e3 (small1000 (by omega)), ?_⟩
      have k4 : Keep D H (upd H3 D (.dT (putK kvs1 ((ks ++ [((n : Nat) : Int)]).map iK) v))) := k3.trans keep_upd
      have l4 := length_putK kvs1 ((ks ++ [((n : Nat) : Int)]).map iK) v
      obtain ⟨p, tv, iv, rfl, ep, htd, hin⟩ := pl.mv (tp k4)
      rcases hin with ⟨ei, rfl⟩ | ⟨nei, qa, zs, rfl, eq, rpi⟩
      · refine ⟨_, rfl, p, _, 2, _, rfl, rfl, SqT.of ep, atI_nat (j := 2) rfl, rfl, _, rfl, iteF ⟨_, _, _, _, rfl, k4, upd_same, by omega⟩⟩
      · refine ⟨_, rfl, p, _, 2, _, rfl, rfl, SqT.of ep, atI_nat (j := 2) rfl, rfl, _, rfl, iteT ?_⟩
        refine ⟨_, rfl, p, _, 2, _, rfl, rfl, SqT.of ep, atI_nat (j := 2) rfl, _, rfl, _, rfl, ?_⟩
        have nbD : b ≠ D := fun z => by
          rw [z, e4] at e3
          cases e3
        refine ⟨qa, b, D, zs, ks ++ [((n : Nat) : Int)], _, t.2.2, rfl, eq, rpi, nei, by omega, ?_, by rw [List.length_append]; show ks.length + 1 ≤ 50; omega, by rw [List.length_append]; show ks.length + 1 + d ≤ 50; omega, upd_same, by omega, fun H5 kvs5 k5 e5 l5 => ?_⟩
        · rw [upd_ne nbD, e3, List.map_map]
          rfl
        · exact ⟨_, _, _, _, rfl, k4.trans k5, e5, by omega⟩
    · rintro σ H1 ⟨v3, v4, v5, kvs1, rfl, k1, e1, l1⟩
      rw [lxs, cntTo_all] at l1
      exact q _ _ k1 e1 l1
theorem ok_Ga {f : Addr} {fd : FuncData} (F : Fun K "gather" "gather" sGa f fd) (bG : Binds K fd ["places", "above", "found"] []) (gG : mg "gather" = some (.ref f)) (mE : mg "enumerate" = none) : ∀ d, FnOk P w K mg base CX0 d f fd ["places", "above", "found"] (spGa d)
  | 0 => by
    refine ⟨fun vs H Q E h => ?_, fun A outer s H args us vs Q E hr e0 hb r h => ?_⟩
    · obtain ⟨a, ab, D, xs, ks, kvs, fo, rfl, _⟩ := h
      rfl
    · obtain ⟨a, ab, D, xs, ks, kvs, fo, rfl, _, _, ne, dp, _⟩ := h
      exact absurd (Fo.nil_of_depth (Nat.le_zero.mp dp)) ne
  | d + 1 => ok_GaS F bG gG (ok_Ga F bG gG mE d) mE
end
end G
set_option Elab.async false
set_option linter.all false
set_option maxRecDepth 100000
set_option maxHeartbeats 1000000
namespace G
open PySem PySem.Spec PyProof.Rows L2 TL
/-! ### a label in memory -/
def lbF (a wa D : Addr) : List (Str × V) := putF "by_path" (.ref D) (putF "words" (.ref wa) (putF "listed" (.ref a) []))
theorem lb1 : ¬ (("listed" : Str) = "words") := by decide +kernel
theorem lb2 : ¬ (("listed" : Str) = "by_path") := by decide +kernel
theorem lb3 : ¬ (("words" : Str) = "by_path") := by decide +kernel
theorem lbF_listed (a wa D : Addr) : (lbF a wa D).lookup ("listed" : Str) = some (.ref a) := by
  unfold lbF
  rw [lookup_putF, if_neg lb2, lookup_putF, if_neg lb1, lookup_putF, if_pos rfl]
theorem lbF_words (a wa D : Addr) : (lbF a wa D).lookup ("words" : Str) = some (.ref wa) := by
  unfold lbF
  rw [lookup_putF, if_neg lb3, lookup_putF, if_pos rfl]
theorem lbF_paths (a wa D : Addr) : (lbF a wa D).lookup ("by_path" : Str) = some (.ref D) := by
  unfold lbF
  rw [lookup_putF, if_pos rfl]
theorem lbF_no (a wa D : Addr) {m : Str} (h1 : ¬ m = "by_path") (h2 : ¬ m = "words") (h3 : ¬ m = "listed") : (lbF a wa D).lookup m = none := by
  unfold lbF
  rw [lookup_putF, if_neg h1, lookup_putF, if_neg h2, lookup_putF, if_neg h3]
  rfl
/-- the words, as a label has them -/
def WsOf (ws ys : List Str) : Prop := sortedS ys = true ∧ ys.Nodup ∧ (∀ k, k ∈ ys ↔ k ∈ ws) ∧ ys.length ≤ ws.length
structure LabAt (C : Addr) (H : Hp) (x : Addr) (fo : Fo) (ys : List Str) : Prop where
  ob : ∃ dx a wa D kvs, H x = some (.ins C dx (lbF a wa D)) ∧ Good H a fo ∧ H wa = some (.tup (ys.map V.str)) ∧ H D = some (.dT kvs) ∧ kvs.length ≤ 12
  ok : WsOk ys
theorem LabAt.same {C : Addr} {H H' : Hp} {x : Addr} {fo : Fo} {ys : List Str} (h : LabAt C H x fo ys) (s : Same H H') : LabAt C H' x fo ys := by
  obtain ⟨⟨dx, a, wa, D, kvs, e1, e2, e3, e4, e5⟩, o⟩ := h
  exact ⟨⟨dx, a, wa, D, kvs, s _ _ e1, e2.mv (.of_same s), s _ _ e3, s _ _ e4, e5⟩, o⟩
structure LTxt (K : PySem.W.Frag) (C : Addr) : Prop where
  cl : Cls K C
  nL : NoAttr K C "listed"
  nW : NoAttr K C "words"
  nP : NoAttr K C "by_path"
section
variable {P : Program} {w : World} {K : PySem.W.Frag} {mg : Str → Option Value} {base : Heap}
abbrev sIn : Stmt := inClass (topS 33) 0
abbrev sMy : Stmt := inClass (topS 33) 2
abbrev sPa : Stmt := inClass (topS 33) 3
abbrev sSr : Stmt := inClass (topS 33) 11
abbrev sRp : Stmt := inClass (topS 33) 12
theorem scIn : FnScope ["self", "places", "may", "found", "words"] ["self", "places", "may"] (defScope sIn) := ⟨rfl, rfl, rfl, by decide +kernel, rfl, by decide +kernel, by decide +kernel⟩
theorem scMy : FnScope ["self"] ["self"] (defScope sMy) := ⟨rfl, rfl, rfl, by decide +kernel, rfl, by decide +kernel, by decide +kernel⟩
theorem scPa : FnScope ["self"] ["self"] (defScope sPa) := ⟨rfl, rfl, rfl, by decide +kernel, rfl, by decide +kernel, by decide +kernel⟩
theorem scSr : FnScope ["self"] ["self"] (defScope sSr) := ⟨rfl, rfl, rfl, by decide +kernel, rfl, by decide +kernel, by decide +kernel⟩
theorem scRp : FnScope ["self"] ["self"] (defScope sRp) := ⟨rfl, rfl, rfl, by decide +kernel, rfl, by decide +kernel, by decide +kernel⟩
/-- the words as they are handed in -/
def Hnd (H : Hp) (hv : V) (ws : List Str) : Prop := (hv = .non ∧ ws = []) ∨ ∃ b, hv = .ref b ∧ (H b = some (.lst (ws.map V.str)) ∨ H b = some (.tup (ws.map V.str)))
def spIn (C : Addr) : Sp := fun vs H Q _ => ∃ (x dx a : Addr) (hv : V) (fo : Fo) (ws : List Str), vs = [.ref x, .ref a, hv] ∧ H x = some (.ins C dx []) ∧ Good H a fo ∧ Hnd H hv ws ∧ (∀ y ∈ ws, NmOk y) ∧ ws.length < 60 ∧
  ∀ H' ys, Keep x H H' → WsOf ws ys → LabAt C H' x fo ys → Q .non H'
theorem ok_in {tk : Tok} {f C fP fG fN : Addr} {fd fdP fdG fdN : FuncData} (F : FunD K "__init__" "Label.__init__" (defArgs sIn) (defBody sIn) (defScope sIn) [.non] [] f fd) (T : LTxt K C) (FP : Fun K "check_places" "check_places" sCP fP fdP) (bP : Binds K fdP ["places"] []) (gP : mg "check_places" = some (.ref fP)) (GP : FnOk P w K mg base CX0 9 fP fdP ["places"] spCP)
    (FG : Fun K "gather" "gather" sGa fG fdG) (bG : Binds K fdG ["places", "above", "found"] []) (gG : mg "gather" = some (.ref fG)) (GG : FnOk P w K mg base CX0 4 fG fdG ["places", "above", "found"] (spGa 4)) (FN : Fun K "check_names" "check_names" sCN fN fdN) (bN : Binds K fdN ["names"] []) (gN : mg "check_names" = some (.ref fN)) (GN : FnOk P w K mg base CX0 2 fN fdN ["names"] (spCN K))
    (mL : mg "len" = none) (mM : mg "MOST_PLACES" = some (.int 12 tk)) (mT : mg "tuple" = none) (mS : mg "sorted" = none) (mSe : mg "set" = none) : FnOk P w K mg base CX0 10 f fd ["self", "places", "may"] (spIn C) := by
  refine F.ok scIn (fun vs H Q E h => ?_) (fun cdv A outer s H vs Q E hr h => ?_)
  · obtain ⟨x, dx, a, hv, fo, ws, rfl, _⟩ := h
    rfl
  · obtain ⟨x, dx, a, hv, fo, ws, rfl, ex, gd, hn, ok, len, q⟩ := h
    refine ⟨_, PSs.nox (pss_cons (ps_expr (pe_call GP hr (by rfl) gP FP.kp bP .nil pass0 (pa_cons (pv 1) pa_nil)))
      (pss_cons (ps_set (i := 3) scIn.nd rfl (.inl rfl) pe_dnewT)
      (pss_cons (ps_expr (pe_call GG (hr.mono (by decide)) (by rfl) gG FG.kp bG .nil pass0 (pa_cons (pv 1) (pa_cons (pe_tup pa_nil) (pa_cons (pv 3) pa_nil)))))
      (pss_cons (ps_if (pt_cmpR op_gt (pe_callB call_len_dT (by rfl) mL PySem.boot_len (pa_cons (pv 3) pa_nil)) (pe_glob (v := .int 12) (by rfl) mM ⟨tk, rfl⟩) (nomark _)) (pss_one ps_never) pss_nil)
      (C8.pss_cut (ps_set (i := 4) scIn.nd rfl (.inl rfl) (pe_ifExp (pt_cmpR op_isN (pv 2) pe_non (nomark _)) (pe_lst pa_nil) (pv 2)))
      (pss_cons (ps_expr (pe_call GN (hr.mono (by decide)) (by rfl) gN FN.kp bN .nil pass0 (pa_cons (pv 4) pa_nil)))
      (pss_cons (ps_fld (pv 0) (pv 1) rfl)
      (pss_cons (ps_fld (pv 0) (pe_callTy call_tuple_of (by rfl) mT (by decide +kernel) (pa_cons (pe_callB (cr_sortS rfl) (by rfl) mS (by decide +kernel) (pa_cons (pe_callTy (cr_setS rfl) (by rfl) mSe (by decide +kernel) (pa_cons (pv 4) pa_nil)) pa_nil)) pa_nil)) rfl)
      (pss_one (ps_fld (pv 0) (pv 3) rfl)))))))))), ?_⟩
    refine ⟨_, rfl, a, fo, rfl, gd, fun H1 s1 => ?_⟩
    intro D nD
    have sD := same_upd (o := .dT []) nD
    have gd2 := gd.mv (.of_same (s1.trans sD))
    refine ⟨_, rfl, (by show 0 ≤ sizeLine; exact Nat.zero_le _), fun t nt => ?_⟩
    have st := same_upd (o := .tup []) nt
    obtain ⟨⟨xs, ea, rp⟩, g1, ne, dp, ct, un⟩ := gd.mv (.of_same ((s1.trans sD).trans st))
    refine ⟨_, rfl, a, t, D, xs, [], [], fo, rfl, ea, rp, ne, dp, upd_same, by decide, by decide, st _ _ upd_same, by show 0 + fo.cnt ≤ 1000; omega, fun H2 kvs k2 e2 l2 => ?_⟩
    have l2' : kvs.length ≤ 12 := by
      have : kvs.length ≤ 0 + fo.cnt := l2
      omega
    have nHD : H D = none := by
      cases e : H D with
      | none => rfl
      | some o => rw [s1 _ _ e] at nD; cases nD
    have s2 : Same H H2 := fun b o e => k2 b o (ne_of_none e nHD) (st _ _ (sD _ _ (s1 _ _ e)))
    refine ⟨_, rfl, D, kvs, rfl, e2, _, 12, rfl, rfl, _, rfl, ifF (decide_eq_false (by omega)) ?_⟩
    refine ⟨fun σ H3 => ∃ wb, σ = [some (.ref x), some (.ref a), some hv, some (.ref D), some (.ref wb)] ∧ Same H2 H3 ∧ (H3 wb = some (.lst (ws.map V.str)) ∨ H3 wb = some (.tup (ws.map V.str))), ?_, ?_⟩
    · rcases hn with ⟨rfl, rfl⟩ | ⟨b, rfl, hb⟩
      · refine ⟨_, rfl, rfl, _, rfl, iteT ?_⟩
        exact ⟨(by show 0 ≤ sizeLine; exact Nat.zero_le _), fun l nl => ⟨l, rfl, same_upd nl, .inl upd_same⟩⟩
      · refine ⟨_, rfl, rfl, _, rfl, iteF ?_⟩
        exact ⟨_, rfl, b, rfl, .refl _, hb.imp (s2 _ _) (s2 _ _)⟩
    · rintro σ H3 ⟨wb, rfl, s3, hb⟩
      refine ⟨_, rfl, wb, ws, rfl, hb, ok, by omega, fun H4 s4 => ?_⟩
      have s24 := s2.trans (s3.trans s4)
      refine ⟨_, rfl, _, rfl, x, C, dx, [], rfl, s24 _ _ ex, T.cl, T.nL, (by show 0 < 1000; decide), ?_⟩
      have nxw : wb ≠ x := fun z => by
        rw [z, (s2.trans s3) _ _ ex] at hb
        rcases hb with hb | hb <;> cases hb
      have hb5 : (upd H4 x (.ins C dx (putF "listed" (.ref a) []))) wb = some (.lst (ws.map V.str)) ∨ (upd H4 x (.ins C dx (putF "listed" (.ref a) []))) wb = some (.tup (ws.map V.str)) := by
        rw [upd_ne nxw]
        exact hb.imp (s4 _ _) (s4 _ _)
      refine ⟨_, rfl, wb, ws, rfl, hb5.imp SqL.of SqT.of, by unfold scanBound; omega, fun p c np hc => ?_⟩
      have sp := same_upd (o := SetS P w p (fun j => decide (j ∈ ws)) c) np
      refine ⟨p, _, c, rfl, upd_same, by omega, fun ys l h1 h2 h3 h4 nl => ?_⟩
      have sl := same_upd (o := .lst (ys.map V.str)) nl
      refine ⟨l, _, rfl, .inl ⟨SqL.of upd_same, fun wa nwa => ?_⟩⟩
      have swa := same_upd (o := .tup (ys.map V.str)) nwa
      have s59 : Same (upd H4 x (.ins C dx (putF "listed" (.ref a) []))) _ := (sp.trans sl).trans swa
      have ex9 := s59 _ _ upd_same
      refine ⟨_, rfl, x, C, dx, _, rfl, ex9, T.cl, T.nW, (by show 1 < 1000; decide), ?_⟩
      refine ⟨_, rfl, _, rfl, x, C, dx, _, rfl, upd_same, T.cl, T.nP, ?_, ?_⟩
      · have l1 := length_putF "words" (.ref wa) (putF "listed" (V.ref a) [])
        have l2 := length_putF "listed" (.ref a) []
        have : (([] : List (Str × V))).length = 0 := rfl
        omega
      have kx : Keep x H4 (upd H4 x (.ins C dx (putF "listed" (.ref a) []))) := keep_upd
      have k9 := (kx.trans (same_keep s59)).trans ((keep_upd (p := x) (o := .ins C dx (putF "words" (.ref wa) (putF "listed" (V.ref a) [])))).trans (keep_upd (p := x) (o := .ins C dx (lbF a wa D))))
      have nDx : D ≠ x := fun z => by
        rw [z, s2 _ _ ex] at e2
        cases e2
      have nwx : wa ≠ x := fun z => by
        rw [z, (sp.trans sl) _ _ upd_same] at nwa
        cases nwa
      have tu : Tups H4 _ := .of_keep k9 fun zs z => by
        rw [s24 _ _ ex] at z
        cases z
      have hws : ∀ k, k ∈ ys ↔ k ∈ ws := fun k => by rw [h3 k, decide_eq_true_eq]
      refine q _ ys ((same_keep s24).trans k9) ⟨h1, h2, hws, by omega⟩ ⟨⟨dx, a, wa, D, kvs, upd_same, (gd.mv (.of_same s24)).mv tu, ?_, k9 _ _ nDx (s4 _ _ (s3 _ _ e2)), l2'⟩, fun y hy => ((ok y ((hws y).mp hy)).len).2, by omega⟩
      rw [upd_ne nwx, upd_ne nwx, upd_same]
/-! ### may, paths -/
def spMy (C : Addr) : Sp := fun vs H Q _ => ∃ (x : Addr) (fo : Fo) (ys : List Str), vs = [.ref x] ∧ LabAt C H x fo ys ∧ ∀ l, H l = none → Q (.ref l) (upd H l (.lst (ys.map V.str)))
theorem ok_my {f C : Addr} {fd : FuncData} (F : Fun K "may" "Label.may" sMy f fd) (T : LTxt K C) (mLi : mg "list" = none) : FnOk P w K mg base CX0 1 f fd ["self"] (spMy C) := by
  refine F.ok scMy (fun vs H Q E h => ?_) (fun cdv A outer s H vs Q E hr h => ?_)
  · obtain ⟨x, fo, ys, rfl, _⟩ := h
    rfl
  · obtain ⟨x, fo, ys, rfl, ⟨⟨dx, a, wa, D, kvs, e1, e2, e3, e4, e5⟩, ok⟩, q⟩ := h
    refine ⟨_, pss_one (ps_ret (pe_callTy call_list_of (by rfl) mLi (by decide +kernel) (pa_cons (pe_fld (pv 0) rfl) pa_nil))), ?_⟩
    exact ⟨_, rfl, x, C, dx, _, _, rfl, e1, T.cl, T.nW, lbF_words _ _ _, wa, _, rfl, .inr (SqT.of e3), fun l nl => q l nl⟩
def spPa (C : Addr) : Sp := fun vs H Q _ => ∃ (x : Addr) (fo : Fo) (ys : List Str), vs = [.ref x] ∧ LabAt C H x fo ys ∧ ∀ l bs, H l = none → bs.length ≤ 12 → Q (.ref l) (upd H l (.lst bs))
theorem paired_len {α β : Type} {R : α → β → Prop} : ∀ {l : List α} {m : List β}, Paired R l m → l.length = m.length
  | _, _, .nil => rfl
  | _, _, .cons _ t => congrArg Nat.succ (paired_len t)
theorem ok_pa {f C : Addr} {fd : FuncData} (F : Fun K "paths" "Label.paths" sPa f fd) (T : LTxt K C) (mLi : mg "list" = none) : FnOk P w K mg base CX0 1 f fd ["self"] (spPa C) := by
  refine F.ok scPa (fun vs H Q E h => ?_) (fun cdv A outer s H vs Q E hr h => ?_)
  · obtain ⟨x, fo, ys, rfl, _⟩ := h
    rfl
  · obtain ⟨x, fo, ys, rfl, ⟨⟨dx, a, wa, D, kvs, e1, e2, e3, e4, e5⟩, ok⟩, q⟩ := h
    refine ⟨_, pss_one (ps_ret (pe_callTy (call_list_dT rfl) (by rfl) mLi (by decide +kernel) (pa_cons (pe_fld (pv 0) rfl) pa_nil))), ?_⟩
    refine ⟨_, rfl, x, C, dx, _, _, rfl, e1, T.cl, T.nP, lbF_paths _ _ _, D, kvs, rfl, .inl e4, fun l bs nl ks => q l _ nl ?_⟩
    have := paired_len ks
    rw [List.length_map]
    omega
/-! ### __str__, __repr__ -/
def spSr (C : Addr) (g : Str → Str) : Sp := fun vs H Q _ => ∃ (x : Addr) (fo : Fo) (ys : List Str), vs = [.ref x] ∧ LabAt C H x fo ys ∧ ∀ H', Same H H' → Q (.str (g (roT fo ys))) H'
theorem ok_sr {k : Nat} {f C fR : Addr} {fd fdR : FuncData} (F : Fun K "__str__" "Label.__str__" sSr f fd) (T : LTxt K C) (FR : Fun K "row_text" "row_text" sRT fR fdR) (bR : Binds K fdR ["places", "words"] []) (gR : mg "row_text" = some (.ref fR)) (GR : FnOk P w K mg base CX0 k fR fdR ["places", "words"] (spRT 4)) (mS : mg "str" = none) : FnOk P w K mg base CX0 (k + 1) f fd ["self"] (spSr C fun z => z) := by
  refine F.ok scSr (fun vs H Q E h => ?_) (fun cdv A outer s H vs Q E hr h => ?_)
  · obtain ⟨x, fo, ys, rfl, _⟩ := h
    rfl
  · obtain ⟨x, fo, ys, rfl, ⟨⟨dx, a, wa, D, kvs, e1, ⟨⟨xs, ea, rp⟩, g1, ne, dp, ct, un⟩, e3, e4, e5⟩, ok⟩, q⟩ := h
    refine ⟨_, pss_one (ps_ret (pe_callTy SkE.call_str_str (by rfl) mS (by decide +kernel) (pa_cons (pe_call GR hr (by rfl) gR FR.kp bR .nil pass0 (pa_cons (pe_fld (pv 0) rfl) (pa_cons (pe_fld (pv 0) rfl) pa_nil))) pa_nil))), ?_⟩
    refine ⟨_, rfl, x, C, dx, _, _, rfl, e1, T.cl, T.nL, lbF_listed _ _ _, _, rfl, x, C, dx, _, _, rfl, e1, T.cl, T.nW, lbF_words _ _ _, ?_⟩
    exact ⟨a, wa, xs, fo, ys, rfl, ea, rp, g1, ne, dp, by omega, e3, ok, fun H1 s1 => ⟨_, rfl, q H1 s1⟩⟩
def rpT (z : Str) : Str := (Str.ofString "Label(" ++ z) ++ Str.ofString ")"
theorem empty_app (x : Str) : Str.empty ++ x = x := tl_inj (by
  rw [tl_append]
  have e : tl Str.empty = [] := by decide +kernel
  rw [e, List.nil_append])
theorem ok_rp {k : Nat} {f C fR : Addr} {fd fdR : FuncData} (F : Fun K "__repr__" "Label.__repr__" sRp f fd) (T : LTxt K C) (FR : Fun K "row_text" "row_text" sRT fR fdR) (bR : Binds K fdR ["places", "words"] []) (gR : mg "row_text" = some (.ref fR)) (GR : FnOk P w K mg base CX0 k fR fdR ["places", "words"] (spRT 4)) : FnOk P w K mg base CX0 (k + 1) f fd ["self"] (spSr C rpT) := by
  refine F.ok scRp (fun vs H Q E h => ?_) (fun cdv A outer s H vs Q E hr h => ?_)
  · obtain ⟨x, fo, ys, rfl, _⟩ := h
    rfl
  · obtain ⟨x, fo, ys, rfl, ⟨⟨dx, a, wa, D, kvs, e1, ⟨⟨xs, ea, rp⟩, g1, ne, dp, ct, un⟩, e3, e4, e5⟩, ok⟩, q⟩ := h
    refine ⟨_, pss_one (ps_ret (pe_joined (.cons pe_str (.cons (pe_fmt (pe_call GR hr (by rfl) gR FR.kp bR .nil pass0 (pa_cons (pe_fld (pv 0) rfl) (pa_cons (pe_fld (pv 0) rfl) pa_nil)))) (.cons pe_str .nil))))), ?_⟩
    have rl := roT_len g1 ok
    refine ⟨_, rfl, lineM (by decide +kernel), ?_⟩
    refine ⟨_, rfl, x, C, dx, _, _, rfl, e1, T.cl, T.nL, lbF_listed _ _ _, _, rfl, x, C, dx, _, _, rfl, e1, T.cl, T.nW, lbF_words _ _ _, ?_⟩
    refine ⟨a, wa, xs, fo, ys, rfl, ea, rp, g1, ne, dp, by omega, e3, ok, fun H1 s1 => .inl ⟨_, rfl, lineM (by omega), ?_⟩⟩
    have l6 : (Str.ofString "Label(").length = 6 := by decide +kernel
    have l1 : (Str.ofString ")").length = 1 := by decide +kernel
    refine ⟨_, rfl, ?_, _, rfl, ?_, ?_⟩
    · rw [empty_app, app_len, l6]
      exact lineM (by omega)
    · rw [empty_app, app_len, app_len, l6, l1]
      exact lineM (by omega)
    · have q := q H1 s1
      rw [empty_app]
      exact q
end
end G
set_option Elab.async false
set_option linter.all false
set_option maxRecDepth 100000
set_option maxHeartbeats 1000000
namespace G
open PySem PySem.Spec PyProof.Rows L2 TL
theorem at_memA {α : Type} {xs : List α} {d : Int} (h0 : 0 ≤ d) (h1 : d < xs.length) : ∃ x ∈ xs, atI xs d = some x := by
  obtain ⟨n, rfl⟩ : ∃ n : Nat, d = n := ⟨d.toNat, by omega⟩
  have hn : n < xs.length := by omega
  refine ⟨xs[n], List.getElem_mem hn, ?_⟩
  unfold atI ixN
  rw [if_pos h0, if_pos h1]
  exact List.getElem?_eq_getElem hn
theorem cdp {i j : Int} (h : 0 < j) (hb : j < 1000000000000000000000) : CDivP i j := ⟨h, PyProof.noPylong_of_log2 (Nat.lt_of_lt_of_le (PySem.Flt.log2_lt_of (k := 100) (by decide) (Nat.lt_of_lt_of_le (show j.natAbs < 1000000000000000000000 by omega) (by decide))) (by decide))⟩
section
variable {P : Program} {w : World} {K : PySem.W.Frag} {mg : Str → Option Value} {base : Heap}
/-! ### _law_cell, _law_pot, _law_draw -/
abbrev sCe : Stmt := topS 35
theorem scCe : FnScope ["_law_script", "_law_k"] ["_law_script", "_law_k"] (defScope sCe) := ⟨rfl, rfl, rfl, by decide +kernel, rfl, by decide +kernel, by decide +kernel⟩
def spCe (K : PySem.W.Frag) : Sp := fun vs H Q _ => ∃ (a : Addr) (ns : List Int) (k : Nat), vs = [.ref a, .int k] ∧ SqL K H a (ns.map V.int) ∧ ∀ c, Q (.int c) H
theorem ok_ce {f : Addr} {fd : FuncData} (F : Fun K "_law_cell" "_law_cell" sCe f fd) (mL : mg "len" = none) : FnOk P w K mg base CX0 1 f fd ["_law_script", "_law_k"] (spCe K) := by
  refine F.ok scCe (fun vs H Q E h => ?_) (fun cdv A outer s H vs Q E hr h => ?_)
  · obtain ⟨a, ns, k, rfl, _⟩ := h
    rfl
  · obtain ⟨a, ns, k, rfl, hS, q⟩ := h
    refine ⟨_, pss_cons (ps_if (pt_cmpR op_lt (pv 1) (pe_callB call_len_seq (by rfl) mL PySem.boot_len (pa_cons (pv 0) pa_nil)) (nomark _))
        (pss_one (ps_ret (pe_ix ix_list (pv 0) (pv 1) (fun _ _ => rfl)))) pss_nil)
      (pss_one (ps_ret pe_int)), ?_⟩
    refine ⟨_, rfl, .ref a, rfl, a, _, rfl, .inl hS, _, _, rfl, rfl, _, rfl, ite2 (fun e => ?_) (fun e => ?_)⟩
    · have e0 : (k : Int) < ((ns.map V.int).length : Nat) := of_decide_eq_true e
      rw [List.length_map] at e0
      have e1 : k < ns.length := by omega
      have g : (ns.map V.int)[k]? = some (.int ns[k]) := by
        rw [List.getElem?_map, List.getElem?_eq_getElem e1]
        rfl
      exact ⟨.ref a, rfl, _, rfl, a, _, _, _, rfl, rfl, hS, atI_nat g, q _⟩
    · exact q 0
abbrev sPo : Stmt := topS 36
theorem scPo : FnScope ["_law_cell_here"] ["_law_cell_here"] (defScope sPo) := ⟨rfl, rfl, rfl, by decide +kernel, rfl, by decide +kernel, by decide +kernel⟩
def spPo : Sp := fun vs H Q _ => ∃ c : Int, vs = [.int c] ∧ ∀ H' p, Same H H' → H p = none → Pot H' p → Q (.ref p) H'
theorem ok_po {f : Addr} {fd : FuncData} (F : Fun K "_law_pot" "_law_pot" sPo f fd) (mA : mg "abs" = none) (mM : mg "max" = none) : FnOk P w K mg base CX0 1 f fd ["_law_cell_here"] spPo := by
  refine F.ok scPo (fun vs H Q E h => ?_) (fun cdv A outer s H vs Q E hr h => ?_)
  · obtain ⟨c, rfl, _⟩ := h
    rfl
  · obtain ⟨c, rfl, q⟩ := h
    refine ⟨_, pss_one (ps_ret (pe_lst (pa_cons (pe_callB (call_max2 rfl) (by rfl) mM (by decide +kernel) (pa_cons pe_int (pa_cons (pe_op op_sub (pe_callB call_abs (by rfl) mA (by decide +kernel) (pa_cons (pv 0) pa_nil)) (pe_op op_pow pe_int pe_int)) pa_nil)))
        (pa_cons (pe_op op_add (pe_op op_mod (pe_callB call_abs (by rfl) mA (by decide +kernel) (pa_cons (pv 0) pa_nil)) pe_int) pe_int) pa_nil)))), ?_⟩
    refine ⟨_, rfl, c, rfl, 10, 18, rfl, rfl, ⟨by decide, by decide, by decide⟩, _, _, rfl, rfl, 0, _, rfl, ?_⟩
    refine ⟨_, rfl, c, rfl, _, 2147483629, rfl, rfl, (show (0 : Int) < 2147483629 by decide), _, 1, rfl, rfl, (by show 2 ≤ sizeLine; decide), fun p np => q _ p (same_upd np) np ?_⟩
    refine ⟨_, _, upd_same, ?_, ?_, ?_⟩
    · split <;> omega
    · have := Int.emod_nonneg (if c < 0 then -c else c) (show (2147483629 : Int) ≠ 0 by decide)
      omega
    · have := Int.emod_lt_of_pos (if c < 0 then -c else c) (show (0 : Int) < 2147483629 by decide)
      omega
abbrev sDw : Stmt := topS 37
theorem scDw : FnScope ["_law_pot_here", "_law_many_here", "_law_digit"] ["_law_pot_here", "_law_many_here"] (defScope sDw) := ⟨rfl, rfl, rfl, by decide +kernel, rfl, by decide +kernel, by decide +kernel⟩
def spDw : Sp := fun vs H Q _ => ∃ (p : Addr) (m : Int), vs = [.ref p, .int m] ∧ Pot H p ∧ 0 < m ∧ m < 1000000000000000000000 ∧ ∀ H' d, Keep p H H' → Pot H' p → 0 ≤ d → d < m → Q (.int d) H'
theorem ok_dw {f : Addr} {fd : FuncData} (F : Fun K "_law_draw" "_law_draw" sDw f fd) (mD : mg "divmod" = none) : FnOk P w K mg base CX0 1 f fd ["_law_pot_here", "_law_many_here"] spDw := by
  refine F.ok scDw (fun vs H Q E h => ?_) (fun cdv A outer s H vs Q E hr h => ?_)
  · obtain ⟨p, m, rfl, _⟩ := h
    rfl
  · obtain ⟨p, m, rfl, ⟨a, b, ep, ha, hb, hb2⟩, hm, hm2, q⟩ := h
    refine ⟨_, pss_cons (ps_if (pt_cmpR op_gt (pe_ix ix_list (pv 0) pe_int (fun _ _ => rfl)) pe_int (nomark _))
        (pss_cons (ps_asg (pe_callB call_divmodW (by rfl) mD (by decide +kernel) (pa_cons (pe_ix ix_list (pv 0) pe_int (fun _ _ => rfl)) (pa_cons (pv 1) pa_nil)))
            (pg_tup (by rfl) (pgs_cons (pg_sub (pv 0) pe_int set_list) (pgs_cons (pg_name (i := 2) scDw.nd rfl (.inl rfl)) pgs_nil))))
          (pss_one (ps_ret (pv 2)))) pss_nil)
      (pss_cons (ps_asg (pe_op op_mod (pe_op op_add (pe_op op_mul (pe_ix ix_list (pv 0) pe_int (fun _ _ => rfl)) pe_int) pe_int) pe_int) (pg_sub (pv 0) pe_int set_list))
      (pss_one (ps_ret (pe_op op_mod (pe_op op_fdiv (pe_op op_mod (pe_op op_mul (pe_ix ix_list (pv 0) pe_int (fun _ _ => rfl)) (pe_ix ix_list (pv 0) pe_int (fun _ _ => rfl))) pe_int) pe_int) (pv 1))))), ?_⟩
    refine ⟨.ref p, rfl, p, _, 0, .int a, rfl, rfl, SqL.of ep, atI_nat (j := 0) rfl, a, 0, rfl, rfl, _, rfl, ite2 (fun e => ?_) (fun e => ?_)⟩
    · refine ⟨.ref p, rfl, p, _, 0, .int a, rfl, rfl, SqL.of ep, atI_nat (j := 0) rfl, _, rfl, a, m, rfl, cdp hm hm2, fun t nt => ?_⟩
      have npt : p ≠ t := ne_of_none ep nt
      refine ⟨t, _, rfl, SqT.of upd_same, rfl, _, _, rfl, ?_⟩
      refine ⟨.ref p, rfl, p, [.int a, .int b], 0, 0, rfl, rfl, (upd_ne npt).trans ep, rfl, ?_⟩
      refine ⟨_, _, rfl, rfl, _, rfl, ?_⟩
      refine q _ _ (keep_new nt) ⟨a / m, b, upd_same, Int.ediv_nonneg ha (by omega), hb, hb2⟩ (Int.emod_nonneg _ (by omega)) (Int.emod_lt_of_pos _ hm)
    · refine ⟨.ref p, rfl, p, _, 1, .int b, rfl, rfl, SqL.of ep, atI_nat (j := 1) rfl, b, 48271, rfl, rfl, .inr ⟨by decide, by decide⟩, _, 11, rfl, rfl, _, 2147483647, rfl, rfl, (show (0 : Int) < 2147483647 by decide), ?_⟩
      refine ⟨.ref p, rfl, p, _, 1, 1, rfl, rfl, ep, rfl, ?_⟩
      have h1 : 0 ≤ (b * 48271 + 11) % 2147483647 := Int.emod_nonneg _ (by decide)
      have h2 : (b * 48271 + 11) % 2147483647 < 2147483647 := Int.emod_lt_of_pos _ (by decide)
      refine ⟨.ref p, rfl, p, _, 1, _, rfl, rfl, SqL.of upd_same, atI_nat (j := 1) rfl, .ref p, rfl, p, _, 1, _, rfl, rfl, SqL.of upd_same, atI_nat (j := 1) rfl, (b * 48271 + 11) % 2147483647, (b * 48271 + 11) % 2147483647, rfl, rfl, .inl ⟨by omega, by omega⟩, _, 2147483629, rfl, rfl, (show (0 : Int) < 2147483629 by decide), _, 3, rfl, rfl, ⟨by decide, by decide⟩, _, rfl, _, m, rfl, rfl, hm, ?_⟩
      exact q _ _ keep_upd ⟨a, (b * 48271 + 11) % 2147483647, upd_same, ha, h1, h2⟩ (Int.emod_nonneg _ (by omega)) (Int.emod_lt_of_pos _ hm)
/-! ### _law_lowest -/
abbrev sLo : Stmt := topS 38
theorem scLo : FnScope ["_law_top", "_law_bottom", "_law_one", "_law_other"] ["_law_top", "_law_bottom"] (defScope sLo) := ⟨rfl, rfl, rfl, by decide +kernel, rfl, by decide +kernel, by decide +kernel⟩
def spLo : Sp := fun vs H Q _ => ∃ a b : Int, vs = [.int a, .int b] ∧ 0 ≤ a ∧ 0 < b ∧ b.natAbs < 2 ^ 8000 ∧ ∀ p, H p = none → Q (.ref p) (upd H p (.tup [.int (low1 a b), .int (low2 a b)]))
theorem ok_lo {f : Addr} {fd : FuncData} (F : Fun K "_law_lowest" "_law_lowest" sLo f fd) : FnOk P w K mg base CX0 1 f fd ["_law_top", "_law_bottom"] spLo := by
  refine F.ok scLo (fun vs H Q E h => ?_) (fun cdv A outer s H vs Q E hr h => ?_)
  · obtain ⟨a, b, rfl, _⟩ := h
    rfl
  · obtain ⟨a, b, rfl, ha, hb, hz, q⟩ := h
    have hb0 : b ≠ 0 := by omega
    refine ⟨_, pss_cons (ps_par (i := 2) (j := 3) (by rfl) scLo.nd rfl rfl (by decide) rfl rfl (pa_cons (pv 0) (pa_cons (pv 1) pa_nil)) (by rfl))
      (pss_cons (ps_while PassesOwn.never (pt_cmpR op_gt (pv 3) pe_int (nomark _))
        (pss_one (ps_par (i := 2) (j := 3) (by rfl) scLo.nd rfl rfl (by decide) rfl rfl (pa_cons (pv 3) (pa_cons (pe_op op_mod (pv 2) (pv 3)) pa_nil)) (by rfl))))
      (pss_one (ps_ret (pe_tup (pa_cons (pe_op op_fdivG (pv 0) (pv 2)) (pa_cons (pe_op op_fdivG (pv 1) (pv 2)) pa_nil)))))), ?_⟩
    refine ⟨_, rfl, _, rfl, _, _, rfl, ?_⟩
    refine ⟨fun m σ H' => ∃ x y : Int, σ = [some (.int a), some (.int b), some (.int x), some (.int y)] ∧ 0 ≤ x ∧ 0 ≤ y ∧ gc x y = gc a b ∧ m = y.toNat ∧ H' = H, ⟨_, _, _, rfl, ha, Int.le_of_lt hb, rfl, rfl, rfl⟩, ?_⟩
    rintro m σ H' ⟨x, y, rfl, hx, hy, hg, rfl, rfl⟩
    refine ⟨_, rfl, y, 0, rfl, rfl, _, rfl, ite2 (fun e => ?_) (fun e => ?_)⟩
    · have e0 : 0 < y := of_decide_eq_true e
      refine ⟨fun σ' H2 => ∃ x' y' : Int, σ' = [some (.int a), some (.int b), some (.int x'), some (.int y')] ∧ 0 ≤ x' ∧ 0 ≤ y' ∧ gc x' y' = gc a b ∧ y' < y ∧ H2 = H', fun σ' H2 hN => ?_, ?_⟩
      · obtain ⟨x', y', h1, h2, h3, h4, h5, h6⟩ := hN
        exact ⟨_, by omega, x', y', h1, h2, h3, h4, rfl, h6⟩
      · refine ⟨_, rfl, _, rfl, _, rfl, x, y, rfl, rfl, e0, _, _, rfl, y, x % y, rfl, hy, Int.emod_nonneg _ (by omega), (gc_step hx e0).trans hg, Int.emod_lt_of_pos _ e0, rfl⟩
    · have e0 : ¬ 0 < y := fun z => e (decide_eq_true z)
      have e1 : y = 0 := by omega
      subst e1
      have hxe : x = ms a b := by
        have em : ms a b = (gc a b : Int) := if_neg (by omega)
        rw [em, ← hg]
        unfold gc
        rw [Int.natAbs_zero, Nat.gcd_zero_right]
        omega
      subst hxe
      have hd : ∀ i, CDivG i (ms a b) := fun i => CDivG.of (b := 8000) (ms_ne hb0) (by rw [ms_natAbs]; exact gc_lt hb0 hz) (by decide) (by decide)
      exact ⟨_, rfl, _, rfl, a, _, rfl, rfl, hd a, _, rfl, _, rfl, b, _, rfl, rfl, hd b, by show 2 ≤ sizeLine; decide, fun p np => q p np⟩
/-! ### _law_share -/
abbrev sSh : Stmt := topS 39
theorem scSh : FnScope ["_law_pot_here", "_law_bottom"] ["_law_pot_here"] (defScope sSh) := ⟨rfl, rfl, rfl, by decide +kernel, rfl, by decide +kernel, by decide +kernel⟩
/-- a share from 0 to 1 -/
def FrU (i j : Int) : Prop := isFr i j = true ∧ 0 ≤ i ∧ i ≤ j ∧ i.natAbs < big ∧ j.natAbs < big
def spSh : Sp := fun vs H Q _ => ∃ p : Addr, vs = [.ref p] ∧ Pot H p ∧ ∀ H' t i j, Keep p H H' → Pot H' p → Two H' t i j → FrU i j → Q (.ref t) H'
theorem low_fru {a b : Int} (ha : 0 ≤ a) (hb : 0 < b) (hab : a ≤ b) (hbig : b < 100000000000000000000) : FrU (low1 a b) (low2 a b) := by
  have hb0 : b ≠ 0 := by omega
  have em : ms a b = (gc a b : Int) := if_neg (by omega)
  have g := gc_pos (a := a) hb0
  have e1 := low1_mul a b
  have e2 := low2_mul a b
  rw [em] at e1 e2
  have p2 := low2_pos (a := a) hb0
  have p1 : 0 ≤ low1 a b := by
    by_cases z : 0 ≤ low1 a b
    · exact z
    · have h1 : 0 < (gc a b : Int) * -(low1 a b) := Int.mul_pos (by omega) (by omega)
      rw [Int.mul_neg] at h1
      omega
  have le : low1 a b ≤ low2 a b := by
    by_cases z : low1 a b ≤ low2 a b
    · exact z
    · have h1 : 0 < (gc a b : Int) * (low1 a b - low2 a b) := Int.mul_pos (by omega) (by omega)
      rw [Int.mul_sub] at h1
      omega
  have l1 := low1_le (a := a) hb0
  have l2 := low2_le (a := a) hb0
  have hbg : big = 100000000000000000000 := rfl
  exact ⟨low_fr hb0, p1, le, by omega, by omega⟩
theorem ten20m : ((10 : Int) ^ (20 : Int).toNat) - 1 = 99999999999999999999 := by decide +kernel
theorem ok_sh {f fD fL : Addr} {fd fdD fdL : FuncData} (F : Fun K "_law_share" "_law_share" sSh f fd) (FD : Fun K "_law_draw" "_law_draw" sDw fD fdD) (bD : Binds K fdD ["_law_pot_here", "_law_many_here"] []) (gD : mg "_law_draw" = some (.ref fD)) (FL : Fun K "_law_lowest" "_law_lowest" sLo fL fdL) (bL : Binds K fdL ["_law_top", "_law_bottom"] []) (gL : mg "_law_lowest" = some (.ref fL)) (mD : mg "divmod" = none) : FnOk P w K mg base CX0 2 f fd ["_law_pot_here"] spSh := by
  have GD : FnOk P w K mg base CX0 1 fD fdD ["_law_pot_here", "_law_many_here"] spDw := ok_dw FD mD
  have GL : FnOk P w K mg base CX0 1 fL fdL ["_law_top", "_law_bottom"] spLo := ok_lo FL
  refine F.ok scSh (fun vs H Q E h => ?_) (fun cdv A outer s H vs Q E hr h => ?_)
  · obtain ⟨p, rfl, _⟩ := h
    rfl
  · obtain ⟨p, rfl, hp, q⟩ := h
    refine ⟨_, pss_cons (ps_set (i := 1) scSh.nd rfl (.inl rfl) (pe_op op_add pe_int (pe_call GD hr (by rfl) gD FD.kp bD .nil pass0 (pa_cons (pv 0) (pa_cons (pe_ix ix_list (pe_lst (pa_cons pe_int (pa_cons pe_int (pa_cons pe_int (pa_cons (pe_op op_sub (pe_op op_pow pe_int pe_int) pe_int) pa_nil))))) (pe_call GD hr (by rfl) gD FD.kp bD .nil pass0 (pa_cons (pv 0) (pa_cons pe_int pa_nil))) (fun _ _ => rfl)) pa_nil)))))
      (pss_one (ps_ret (pe_call GL hr (by rfl) gL FL.kp bL .nil pass0 (pa_cons (pe_call GD hr (by rfl) gD FD.kp bD .nil pass0 (pa_cons (pv 0) (pa_cons (pe_op op_add (pv 1) pe_int) pa_nil))) (pa_cons (pv 1) pa_nil))))), ?_⟩
    refine ⟨.ref p, rfl, 10, 20, rfl, rfl, ⟨by decide, by decide, by decide⟩, _, 1, rfl, rfl, (by show 4 ≤ sizeLine; decide), fun l nl => ?_⟩
    have npl : l ≠ p := fun z => hp.ne nl z.symm
    refine ⟨.ref p, rfl, p, 4, rfl, pot_upd hp nl, by decide, by decide, fun H1 d k1 p1 ld ud => ?_⟩
    have el := k1 _ _ npl upd_same
    obtain ⟨x, hx, ex⟩ := at_memA (xs := [V.int 8, .int 8, .int 1000, .int ((10 : Int) ^ (20 : Int).toNat - 1)]) ld ud
    obtain ⟨m, rfl, m0, m1⟩ : ∃ m : Int, x = .int m ∧ 0 < m ∧ m ≤ 99999999999999999999 := by
      rw [ten20m] at hx
      simp only [List.mem_cons, List.not_mem_nil, or_false] at hx
      rcases hx with rfl | rfl | rfl | rfl
      · exact ⟨_, rfl, by decide, by decide⟩
      · exact ⟨_, rfl, by decide, by decide⟩
      · exact ⟨_, rfl, by decide, by decide⟩
      · exact ⟨_, rfl, by decide, by decide⟩
    refine ⟨l, _, d, _, rfl, rfl, SqL.of el, ex, p, m, rfl, p1, m0, by omega, fun H2 e k2 p2 le ue => ?_⟩
    refine ⟨1, e, rfl, rfl, ?_⟩
    refine ⟨.ref p, rfl, _, rfl, 1 + e, 1, rfl, rfl, p, 1 + e + 1, rfl, p2, by omega, by omega, fun H3 g k3 p3 lg ug => ?_⟩
    have fr := low_fru (a := g) (b := 1 + e) lg (by omega) (by omega) (by omega)
    refine ⟨_, rfl, g, 1 + e, rfl, lg, by omega, ?_, fun t nt => ?_⟩
    · exact Nat.lt_of_lt_of_le (show (1 + e).natAbs < 100000000000000000000 by omega) (Nat.le_trans (show 100000000000000000000 ≤ 2 ^ 70 by decide) (Nat.pow_le_pow_right (by decide) (by decide)))
    · exact q _ t _ _ ((((same_keep (same_upd nl)).trans k1).trans (k2.trans k3)).trans (same_keep (same_upd nt))) (pot_upd p3 nt) upd_same fr
/-! ### _law_told -/
abbrev sTo : Stmt := topS 40
theorem scTo : FnScope ["_law_pot_here", "_law_way", "_law_one", "_law_other"] ["_law_pot_here"] (defScope sTo) := ⟨rfl, rfl, rfl, by decide +kernel, rfl, by decide +kernel, by decide +kernel⟩
def spTo : Sp := fun vs H Q _ => ∃ p : Addr, vs = [.ref p] ∧ Pot H p ∧ ∀ H' tv td, Keep p H H' → Pot H' p → TdV H' tv td → (∀ s, td = some s → ShOk s) → Q tv H'
theorem two_ne {H : Hp} {t p : Addr} {i j : Int} (e : Two H t i j) (h : Pot H p) : t ≠ p := fun z => by
  obtain ⟨a, b, e2, _⟩ := h
  rw [z] at e
  have := e2.symm.trans e
  cases this
theorem ok_to {f fD fS : Addr} {fd fdD fdS : FuncData} (F : Fun K "_law_told" "_law_told" sTo f fd) (FD : Fun K "_law_draw" "_law_draw" sDw fD fdD) (bD : Binds K fdD ["_law_pot_here", "_law_many_here"] []) (gD : mg "_law_draw" = some (.ref fD)) (FS : Fun K "_law_share" "_law_share" sSh fS fdS) (bS : Binds K fdS ["_law_pot_here"] []) (gS : mg "_law_share" = some (.ref fS)) (GS : FnOk P w K mg base CX0 2 fS fdS ["_law_pot_here"] spSh) (mD : mg "divmod" = none) : FnOk P w K mg base CX0 3 f fd ["_law_pot_here"] spTo := by
  have GD : FnOk P w K mg base CX0 1 fD fdD ["_law_pot_here", "_law_many_here"] spDw := ok_dw FD mD
  refine F.ok scTo (fun vs H Q E h => ?_) (fun cdv A outer s H vs Q E hr h => ?_)
  · obtain ⟨p, rfl, _⟩ := h
    rfl
  · obtain ⟨p, rfl, hp, q⟩ := h
    refine ⟨_, pss_cons (ps_set (i := 1) scTo.nd rfl (.inl rfl) (pe_call GD (hr.mono (by decide)) (by rfl) gD FD.kp bD .nil pass0 (pa_cons (pv 0) (pa_cons pe_int pa_nil))))
      (pss_cons (ps_if (pt_cmpR op_lt (pv 1) pe_int (nomark _)) (pss_one (ps_ret pe_non)) pss_nil)
      (pss_cons (ps_par (i := 2) (j := 3) (by rfl) scTo.nd rfl rfl (by decide) rfl rfl (pa_cons (pe_call GS hr (by rfl) gS FS.kp bS .nil pass0 (pa_cons (pv 0) pa_nil)) (pa_cons (pe_call GS hr (by rfl) gS FS.kp bS .nil pass0 (pa_cons (pv 0) pa_nil)) pa_nil)) (by rfl))
      (pss_cons (ps_if (pt_cmpR op_eq (pv 1) pe_int (nomark _)) (pss_one (ps_ret (pe_tup (pa_cons (pv 2) (pa_cons (pv 2) pa_nil))))) pss_nil)
      (pss_cons (ps_if (pt_cmpR op_gt (pe_op op_mulW (pe_ix ix_tup (pv 2) pe_int (fun _ _ => rfl)) (pe_ix ix_tup (pv 3) pe_int (fun _ _ => rfl))) (pe_op op_mulW (pe_ix ix_tup (pv 3) pe_int (fun _ _ => rfl)) (pe_ix ix_tup (pv 2) pe_int (fun _ _ => rfl))) (nomark _)) (pss_one (ps_ret (pe_tup (pa_cons (pv 3) (pa_cons (pv 2) pa_nil))))) pss_nil)
      (pss_one (ps_ret (pe_tup (pa_cons (pv 2) (pa_cons (pv 3) pa_nil))))))))), ?_⟩
    refine ⟨.ref p, rfl, p, 5, rfl, hp, by decide, by decide, fun H1 d k1 p1 ld ud => ?_⟩
    refine ⟨_, rfl, d, 2, rfl, rfl, _, rfl, ite2 (fun e => ?_) (fun e => ?_)⟩
    · exact q H1 .non none k1 p1 rfl (fun s z => by cases z)
    · refine ⟨.ref p, rfl, p, rfl, p1, fun H2 t i j k2 p2 e2 f2 => ?_⟩
      refine ⟨.ref p, rfl, p, rfl, p2, fun H3 u k l k3 p3 e3 f3 => ?_⟩
      have e2' : Two H3 t i j := k3 _ _ (two_ne e2 p2) e2
      have K3 := (k1.trans k2).trans k3
      refine ⟨_, _, rfl, ?_⟩
      have mk : ∀ {x y : Addr} {a b c d : Int}, Two H3 x a b → Two H3 y c d → FrU a b → FrU c d → a * d ≤ c * b → (∀ T, H3 T = none → Q (.ref T) (upd H3 T (.tup [.ref x, .ref y]))) := by
        intro x y a b c d ex ey fx fy hle T nT
        have sT := same_upd (o := .tup [V.ref x, .ref y]) nT
        refine q _ (.ref T) (some ⟨a, b, c, d⟩) (K3.trans (same_keep sT)) (p3.same sT) ⟨T, x, y, rfl, upd_same, sT _ _ ex, sT _ _ ey⟩ fun s z => ?_
        cases z
        exact ⟨⟨fx.1, fy.1⟩, ⟨fx.2.1, hle, fy.2.2.1⟩, fx.2.2.2.1, fx.2.2.2.2, fy.2.2.2.1, fy.2.2.2.2⟩
      refine ⟨_, rfl, rfl, _, rfl, ite2 (fun e => ?_) (fun e => ?_)⟩
      · exact ⟨_, rfl, _, rfl, (by show 2 ≤ sizeLine; decide), mk e2' e2' f2 f2 (Int.le_refl _)⟩
      · have z1 := sz_big f2.2.2.2.1
        have z2 := sz_big f2.2.2.2.2
        have z3 := sz_big f3.2.2.2.1
        have z4 := sz_big f3.2.2.2.2
        refine ⟨_, rfl, t, _, 0, _, rfl, rfl, SqT.of e2', atI_nat (j := 0) rfl, _, rfl, u, _, 1, _, rfl, rfl, SqT.of e3, atI_nat (j := 1) rfl, i, l, rfl, rfl, z1.cm z4 (by decide) (by decide) (by decide), ?_⟩
        refine ⟨_, rfl, u, _, 0, _, rfl, rfl, SqT.of e3, atI_nat (j := 0) rfl, _, rfl, t, _, 1, _, rfl, rfl, SqT.of e2', atI_nat (j := 1) rfl, k, j, rfl, rfl, z3.cm z2 (by decide) (by decide) (by decide), ?_⟩
        refine ⟨_, _, rfl, rfl, _, rfl, ite2 (fun e => ?_) (fun e => ?_)⟩
        · have e0 : k * j < i * l := of_decide_eq_true e
          exact ⟨_, rfl, _, rfl, (by show 2 ≤ sizeLine; decide), mk e3 e2' f3 f2 (Int.le_of_lt e0)⟩
        · have e0 : ¬ k * j < i * l := fun z => e (decide_eq_true z)
          exact ⟨_, rfl, _, rfl, (by show 2 ≤ sizeLine; decide), mk e2' e3 f2 f3 (by omega)⟩
end
end G
set_option Elab.async false
set_option linter.all false
set_option maxRecDepth 100000
set_option maxHeartbeats 1000000
namespace G
open PySem PySem.Spec PyProof.Rows L2 TL
theorem nodup_len {α : Type} [DecidableEq α] : ∀ (l D : List α), l.Nodup → (∀ x ∈ l, x ∈ D) → l.length ≤ D.length
  | [], _, _, _ => Nat.zero_le _
  | x :: l, D, nd, sb => by
    obtain ⟨h1, h2⟩ := List.nodup_cons.mp nd
    have hx : x ∈ D := sb x (.head _)
    have ih := nodup_len l (D.erase x) h2 fun y hy => by
      have hne : y ≠ x := fun e => h1 (e ▸ hy)
      exact (List.mem_erase_of_ne hne).2 (sb y (.tail _ hy))
    have e := List.length_erase_of_mem hx
    have hp : 0 < D.length := List.length_pos_of_mem hx
    rw [List.length_cons]
    omega
abbrev abc : List Nat := (Str.ofString "abcdefghijklmnopqrstuvwxyz").cps.toList
def one (c : Nat) : Str := ⟨#[c]⟩
theorem one_inj {a b : Nat} (h : one a = one b) : a = b := by
  have := congrArg tl h
  cases this
  rfl
theorem abc_nodup : (abc.map one).Nodup := by
  refine List.pairwise_map.mpr ?_
  have h : abc.Pairwise (fun a b => a ≠ b) := by
    show ((Str.ofString "abcdefghijklmnopqrstuvwxyz").cps.toList).Pairwise _
    rw [abc_tl]
    decide
  exact h.imp fun {a b} n e => n (one_inj e)
theorem abc_len : abc.length = 26 := by decide +kernel
/-- a letter is left -/
theorem left_over {ts : List Str} (h : ts.length < 26) : ∃ c r, abc.filter (fun c => decide (one c ∉ ts)) = c :: r ∧ c ∈ abc ∧ one c ∉ ts := by
  cases e : abc.filter (fun c => decide (one c ∉ ts)) with
  | nil =>
    have a : ∀ x ∈ abc.map one, x ∈ ts := fun x hx => by
      obtain ⟨c, hc, rfl⟩ := List.mem_map.mp hx
      by_cases z : one c ∈ ts
      · exact z
      · have : c ∈ abc.filter (fun c => decide (one c ∉ ts)) := List.mem_filter.mpr ⟨hc, decide_eq_true z⟩
        rw [e] at this
        cases this
    have b := nodup_len _ ts abc_nodup a
    rw [List.length_map, abc_len] at b
    omega
  | cons c r =>
    have : c ∈ abc.filter (fun c => decide (one c ∉ ts)) := by rw [e]; exact .head _
    obtain ⟨h1, h2⟩ := List.mem_filter.mp this
    exact ⟨c, r, rfl, h1, of_decide_eq_true h2⟩
theorem ok_abc {c : Nat} (h : c ∈ abc) : okC c = true := by
  rw [← abc_in]
  exact decide_eq_true h
theorem nm_of {z : Str} (h1 : 1 ≤ (tl z).length) (h2 : (tl z).length ≤ 8) (h3 : ∀ c ∈ tl z, okC c = true) : NmOk z := by
  show (decide (1 ≤ z.length) && decide (z.length ≤ 8) && z.cps.toList.all okC) = true
  rw [len_tl, decide_eq_true h1, decide_eq_true h2]
  exact List.all_eq_true.mpr h3
theorem nm_one {c : Nat} (h : c ∈ abc) : NmOk (one c) := nm_of (Nat.le_refl 1) (show 1 ≤ 8 by decide) fun x hx => by
  rw [List.mem_singleton.mp (show x ∈ [c] from hx)]
  exact ok_abc h
theorem joinL_flat : ∀ ps : List (List Nat), joinL [] ps = ps.flatten
  | [] => rfl
  | [p] => by simp [joinL]
  | p :: q :: r => by
    have ih := joinL_flat (q :: r)
    show p ++ ([] ++ joinL [] (q :: r)) = _
    rw [List.nil_append, ih]
    rfl
theorem nm_join {cs : List Nat} (h1 : 1 ≤ cs.length) (h2 : cs.length ≤ 8) (h3 : ∀ c ∈ cs, c ∈ abc) : NmOk (Txt.join (Str.ofString "") (cs.map one)) := by
  have e : tl (Txt.join (Str.ofString "") (cs.map one)) = cs := by
    rw [join_eq, tl_join, show tl (Str.ofString "") = [] by decide +kernel, joinL_flat, List.map_map]
    induction cs with
    | nil => rfl
    | cons c r ih =>
      by_cases hr : r = []
      · subst hr
        rfl
      · have hl : 0 < r.length := List.length_pos_iff.mpr hr
        rw [List.map_cons, List.flatten_cons, ih hl (by rw [List.length_cons] at h2; omega) fun c hc => h3 c (.tail _ hc)]
        rfl
  refine nm_of (by rw [e]; exact h1) (by rw [e]; exact h2) fun c hc => ?_
  rw [e] at hc
  exact ok_abc (h3 c hc)
theorem filter_take {ts : List Str} {n c : Nat} (h : abc[n]? = some c) : ((abc.take (n + 1)).filter (fun c => decide (one c ∉ ts))).map (fun c => V.str (one c)) = ((abc.take n).filter (fun c => decide (one c ∉ ts))).map (fun c => V.str (one c)) ++ (if one c ∈ ts then [] else [V.str (one c)]) := by
  rw [List.take_add_one, h, List.filter_append, List.map_append]
  congr 1
  show ((([c] : List Nat).filter (fun c => decide (one c ∉ ts))).map (fun c => V.str (one c))) = _
  by_cases z : one c ∈ ts
  · rw [if_pos z, List.filter_cons_of_neg (by simpa using z)]
    rfl
  · rw [if_neg z, List.filter_cons_of_pos (by simpa using z)]
    rfl
section
variable {P : Program} {w : World} {K : PySem.W.Frag} {mg : Str → Option Value} {base : Heap}
abbrev sNa : Stmt := topS 41
abbrev nNa : List Str := ["_law_pot_here", "_law_taken", "_law_letters", "_law_menu", "_law_name_here", "_law_k", "_law_letter"]
theorem scNa : FnScope nNa ["_law_pot_here", "_law_taken"] (defScope sNa) := ⟨rfl, rfl, rfl, by decide +kernel, rfl, by decide +kernel, by decide +kernel⟩
def spNa : Sp := fun vs H Q _ => ∃ (p tk : Addr) (ts : List Str), vs = [.ref p, .ref tk] ∧ Pot H p ∧ H tk = some (.lst (ts.map V.str)) ∧ p ≠ tk ∧ ts.length < 26 ∧ ∀ H' z, Keep p H H' → Pot H' p → NmOk z → z ∉ ts → Q (.str z) H'
abbrev menu : List Str := [Str.ofString "to", Str.ofString "may", Str.ofString "hold", Str.ofString "water", Str.ofString "a", Str.ofString "b"]
theorem ok_menu : ∀ z ∈ menu, NmOk z := by
  intro z hz
  simp only [menu, List.mem_cons, List.not_mem_nil, or_false] at hz
  unfold NmOk
  rcases hz with rfl | rfl | rfl | rfl | rfl | rfl <;> decide +kernel
theorem ok_na {f fD : Addr} {fd fdD : FuncData} (F : Fun K "_law_name" "_law_name" sNa f fd) (FD : Fun K "_law_draw" "_law_draw" sDw fD fdD) (bD : Binds K fdD ["_law_pot_here", "_law_many_here"] []) (gD : mg "_law_draw" = some (.ref fD)) (mD : mg "divmod" = none) (mR : mg "range" = none) : FnOk P w K mg base CX0 2 f fd ["_law_pot_here", "_law_taken"] spNa := by
  have GD : FnOk P w K mg base CX0 1 fD fdD ["_law_pot_here", "_law_many_here"] spDw := ok_dw FD mD
  refine F.ok scNa (fun vs H Q E h => ?_) (fun cdv A outer s H vs Q E hr h => ?_)
  · obtain ⟨p, tk, ts, rfl, _⟩ := h
    rfl
  · obtain ⟨p, tk, ts, rfl, hp, et, npt, hl, q⟩ := h
    refine ⟨_, pss_cons (ps_set (i := 2) scNa.nd rfl (.inr rfl) pe_str)
      (pss_cons (ps_set (i := 3) scNa.nd rfl (.inl rfl) (pe_lst (pa_cons pe_str (pa_cons pe_str (pa_cons pe_str (pa_cons pe_str (pa_cons pe_str (pa_cons pe_str pa_nil))))))))
      (pss_cons (ps_set (i := 4) scNa.nd rfl (.inl rfl) (pe_join pe_str (pe_lc (own := [("_law_k", 5)]) (g := gName 5) (tt := tYes) (te := tOp rIxS (tVar 2) (tCall spDw [] E0 (tCons (tVar 0) (tCons (tC (.int 26)) tNil)))) (by rfl) scNa.nd (pi_range1 (by rfl) mR (pa_cons (pe_op op_add pe_int (pe_call GD hr (by rfl) gD FD.kp bD .nil pass0 (pa_cons (pv 0) (pa_cons pe_int pa_nil)))) pa_nil)) (blkOk_by (own := [("_law_k", 5)]) (N := nNa) (sc := defScope sNa) (by decide +kernel))
          (fun _ _ _ _ _ => pg_name (i := 5) scNa.nd rfl (.inl rfl)) (fun _ _ _ _ _ => pts_nil) (fun _ _ _ _ _ => pe_ix ix_str (pv 2) (pe_call GD hr (by rfl) gD FD.kp bD .nil pass0 (pa_cons (pv 0) (pa_cons pe_int pa_nil))) (fun _ _ => rfl)))))
      (C8.pss_cut (ps_if (pt_cmpR op_eq (pe_call GD hr (by rfl) gD FD.kp bD .nil pass0 (pa_cons (pv 0) (pa_cons pe_int pa_nil))) pe_int (nomark _)) (pss_one (ps_set (i := 4) scNa.nd rfl (.inl rfl) (pe_ix ix_list (pv 3) (pe_call GD hr (by rfl) gD FD.kp bD .nil pass0 (pa_cons (pv 0) (pa_cons pe_int pa_nil))) (fun _ _ => rfl)))) pss_nil)
      (pss_cons (ps_if (pt_cmpR op_in_seq (pv 4) (pv 1) (by rfl)) (pss_one (ps_ret (pe_ix ix_list (pe_lc (own := [("_law_letter", 6)]) (g := gName 6) (tt := tTest (tOp (rIn K true) (tVar 6) (tVar 1))) (te := tVar 6) (by rfl) scNa.nd (pi_str (pv 2)) (blkOk_by (own := [("_law_letter", 6)]) (N := nNa) (sc := defScope sNa) (by decide +kernel))
          (fun _ _ _ _ _ => pg_name (i := 6) scNa.nd rfl (.inl rfl)) (fun _ _ _ _ _ => pts_one (pt_cmpR op_notIn_seq (pv 6) (pv 1) (by rfl))) (fun _ _ _ _ _ => pv 6)) pe_int (fun _ _ => rfl)))) pss_nil)
      (pss_one (ps_ret (pv 4))))))), ?_⟩
    refine ⟨(by show 6 ≤ sizeLine; decide), fun mn nm => ?_⟩
    have sm := same_upd (o := .lst [V.str "to", V.str "may", V.str "hold", V.str "water", V.str "a", V.str "b"]) nm
    have hp1 := hp.same sm
    have nmp : mn ≠ p := fun z => hp.ne nm z.symm
    refine ⟨⟨_, rfl⟩, .ref p, rfl, p, 8, rfl, hp1, by decide, by decide, fun H1 d k1 p1 ld ud => ?_⟩
    refine ⟨1, d, rfl, rfl, 1 + d, rfl, by omega, by omega, fun D nD => ?_⟩
    have nDp : D ≠ p := fun z => p1.ne nD z.symm
    refine lc_range (lo := 0) (n := (1 + d).toNat) (fun n H' => Keep p H1 H' ∧ Pot H' p ∧ ∃ cs : List Nat, cs.length = n ∧ (∀ c ∈ cs, c ∈ abc) ∧ H' D = some (.lst ((cs.map one).map V.str))) ⟨same_keep (same_upd nD), pot_upd p1 nD, [], rfl, (fun y hy => by cases hy), upd_same⟩ ?_ ?_
    · rintro n H' hn ⟨kk, pp, cs, cl, ca, eD⟩
      refine ⟨rfl, _, rfl, .ref p, rfl, p, 26, rfl, pp, by decide, by decide, fun H2 e k2 p2 le ue => ?_⟩
      obtain ⟨c, hcm, hc⟩ := at_memA (xs := abc) le (by rw [abc_len]; exact ue)
      refine ⟨_, e, c, rfl, rfl, lineM (by decide +kernel), hc, ?_⟩
      refine ⟨_, k2 _ _ nDp eD, ?_, ?_, ?_, cs ++ [c], ?_, ?_, ?_⟩
      · rw [List.length_map, List.length_map, cl]
        exact Nat.lt_of_lt_of_le (show n < 11 by omega) (by decide)
      · exact fun b o nb e' => by
          rw [upd_ne (ne_of_none e' nD)]
          exact k2 b o nb (kk b o nb e')
      · obtain ⟨x, y, ex, hx⟩ := p2
        exact ⟨x, y, by rw [upd_ne (fun z => nDp z.symm)]; exact ex, hx⟩
      · rw [List.length_append, cl]
        rfl
      · intro y hy
        rcases List.mem_append.mp hy with hy | hy
        · exact ca y hy
        · rw [List.mem_singleton.mp hy]
          exact hcm
      · rw [upd_same, List.map_append, List.map_append]
        rfl
    · rintro H2 ⟨kk, pp, cs, cl, ca, eD⟩
      have hcs : 1 ≤ cs.length ∧ cs.length ≤ 8 := by omega
      refine ⟨_, D, cs.map one, rfl, rfl, .inl (SqL.of eD), ?_, ?_⟩
      · have : (Str.ofString "").length = 0 := by decide +kernel
        have l1 : ((cs.map one).map (·.length)).sum ≤ 8 * (cs.map one).length := ws_sum fun y hy => by
          obtain ⟨c, _, rfl⟩ := List.mem_map.mp hy
          show 1 ≤ 8
          decide
        rw [this]
        rw [List.length_map] at l1 ⊢
        omega
      have nj := nm_join hcs.1 hcs.2 ca
      generalize Txt.join (Str.ofString "") (cs.map one) = z0 at nj
      have k02 : Keep p H H2 := ((same_keep sm).trans k1).trans kk
      have em2 : H2 mn = some (.lst (menu.map V.str)) := kk _ _ nmp (k1 _ _ nmp upd_same)
      refine ⟨fun σ H3 => ∃ z, σ = [some (.ref p), some (.ref tk), some (.str "abcdefghijklmnopqrstuvwxyz"), some (.ref mn), some (.str z), none, none] ∧ NmOk z ∧ Keep p H H3 ∧ Pot H3 p, ?_, ?_⟩
      · refine ⟨.ref p, rfl, p, 3, rfl, pp, by decide, by decide, fun H3 e k3 p3 le ue => ?_⟩
        refine ⟨rfl, _, rfl, ite2 (fun _ => ?_) (fun _ => ⟨z0, rfl, nj, k02.trans k3, p3⟩)⟩
        refine ⟨_, rfl, .ref p, rfl, p, 6, rfl, p3, by decide, by decide, fun H4 g k4 p4 lg ug => ?_⟩
        have em4 := k4 _ _ nmp (k3 _ _ nmp em2)
        obtain ⟨x, hx, ex⟩ := at_memA (xs := menu.map V.str) lg ug
        obtain ⟨y, hy, rfl⟩ := List.mem_map.mp hx
        exact ⟨mn, _, g, _, rfl, rfl, SqL.of em4, ex, y, rfl, ok_menu y hy, (k02.trans k3).trans k4, p4⟩
      · rintro σ H3 ⟨z, rfl, nz, k3, p3⟩
        have et3 := k3 _ _ (fun y => npt y.symm) et
        refine ⟨_, rfl, _, rfl, tk, _, rfl, .inl (SqL.of et3), rfl, flat_strs _, _, rfl, ite2 (fun e => ?_) (fun e => ?_)⟩
        · obtain ⟨c0, r0, ef, c0a, c0t⟩ := left_over hl
          refine ⟨_, rfl, _, rfl, fun D2 nD2 => ?_⟩
          have nDt : tk ≠ D2 := ne_of_none et3 nD2
          refine lc_it walk_str (fun n H' => Same H3 H' ∧ H' D2 = some (.lst (((abc.take n).filter (fun c => decide (one c ∉ ts))).map fun c => V.str (one c)))) ⟨same_upd nD2, upd_same⟩ (fun _ _ _ _ => trivial) ?_ ?_
          · rintro n y H8 H9 hn ⟨t8, e8⟩ ⟨rfl, c, hc, rfl⟩
            have hc2 : abc[n]? = some c := at_cps hc
            have ft := filter_take (ts := ts) hc2
            refine ⟨rfl, _, rfl, _, rfl, tk, _, rfl, .inl (SqL.of (t8 _ _ et3)), rfl, flat_strs _, _, rfl, ?_⟩
            have hv : (!inV (.str (⟨#[c]⟩ : Str)) (ts.map V.str)) = decide (one c ∉ ts) := by
              rw [inV_str]
              show (!decide (one c ∈ ts)) = _
              rw [decide_not]
            by_cases z : one c ∈ ts
            · refine ifF (hv.trans (decide_eq_false (by simpa using z))) ⟨t8, ?_⟩
              rw [if_pos z, List.append_nil] at ft
              rw [ft]
              exact e8
            · refine ifT (hv.trans (decide_eq_true z)) ?_
              rw [if_neg z] at ft
              refine ⟨_, rfl, _, e8, ?_, same_app t8 nD2 (.refl _), ?_⟩
              · rw [List.length_map]
                have l1 := List.length_filter_le (fun c => decide (one c ∉ ts)) (abc.take n)
                rw [List.length_take] at l1
                exact Nat.lt_of_lt_of_le (show _ < 1000000 by have := abc_len; omega) (by decide)
              · rw [upd_same, ft]
                rfl
          · rintro H8 ⟨t8, e8⟩
            have es : (Str.ofString "abcdefghijklmnopqrstuvwxyz").cps.size = abc.length := by rw [Array.length_toList]
            rw [es, List.take_of_length_le (Nat.le_refl _), ef] at e8
            refine ⟨D2, _, 0, _, rfl, rfl, SqL.of e8, atI_nat (j := 0) rfl, ?_⟩
            obtain ⟨x, y, exy, hxy⟩ := p3
            exact q _ _ (k3.trans (same_keep t8)) ⟨x, y, t8 _ _ exy, hxy⟩ (nm_one c0a) c0t
        · have e0 : z ∉ ts := fun y => e (by
            show inV (.str z) (ts.map V.str) = true
            rw [inV_str]
            exact decide_eq_true y)
          exact ⟨_, rfl, q _ z k3 p3 nz e0⟩
end
end G
set_option Elab.async false
set_option linter.all false
set_option maxRecDepth 100000
set_option maxHeartbeats 1000000
namespace G
open PySem PySem.Spec PyProof.Rows L2 TL
def mI (t : It3) : Int := 1 + (t.2.2.cnt : Int)
theorem sum_cnt : ∀ f : Fo, (f.items.map mI).sum = (f.cnt : Int)
  | .nil => rfl
  | .cons nm td i r => by
    show ((mI (nm, td, i)) :: r.items.map mI).sum = ((1 + i.cnt + r.cnt : Nat) : Int)
    rw [List.sum_cons, sum_cnt r]
    unfold mI
    push_cast
    rfl
section
variable {P : Program} {w : World} {K : PySem.W.Frag} {mg : Str → Option Value} {base : Heap}
/-! ### _law_many -/
abbrev sMa : Stmt := topS 43
abbrev nMa : List Str := ["_law_places_here", "_law_name_here", "_law_told_here", "_law_inside"]
theorem scMa : FnScope nMa ["_law_places_here"] (defScope sMa) := ⟨rfl, rfl, rfl, by decide +kernel, rfl, by decide +kernel, by decide +kernel⟩
def spMa (d : Nat) : Sp := fun vs H Q _ => ∃ (a : Addr) (xs : List V) (fo : Fo), vs = [.ref a] ∧ H a = some (.tup xs) ∧ Rep H fo xs ∧ fo ≠ .nil ∧ fo.depth ≤ d ∧ fo.cnt ≤ 1000 ∧ ∀ H', Same H H' → Q (.int fo.cnt) H'
theorem ok_maS {d k : Nat} {f : Addr} {fd : FuncData} (F : Fun K "_law_many" "_law_many" sMa f fd) (bM : Binds K fd ["_law_places_here"] []) (gM : mg "_law_many" = some (.ref f)) (GM : FnOk P w K mg base CX0 k f fd ["_law_places_here"] (spMa d)) (mS : mg "sum" = none) : FnOk P w K mg base CX0 (k + 1) f fd ["_law_places_here"] (spMa (d + 1)) := by
  refine F.ok scMa (fun vs H Q E h => ?_) (fun cdv A outer s H vs Q E hr h => ?_)
  · obtain ⟨a, xs, fo, rfl, _⟩ := h
    rfl
  · obtain ⟨a, xs, fo, rfl, ea, rp, ne, dp, ct, q⟩ := h
    refine ⟨_, pss_one (ps_ret (pe_callB (cr_sum rfl) (by rfl) mS (by decide +kernel) (pa_cons (pe_lc (own := [("_law_name_here", 1), ("_law_told_here", 2), ("_law_inside", 3)]) (g := gTup K 3 (gCons (gName 1) (gCons (gName 2) (gCons (gName 3) gNil)))) (tt := tYes) (te := tIf (tTest (tOp (fun x y H Q => y = .non ∧ Q (.bl (decide (x = .non))) H) (tVar 3) (tC .non))) (tC (.int 1)) (tOp (rI0 fun i j => .int (i + j)) (tC (.int 1)) (tCall (spMa d) [] E0 (tCons (tVar 3) tNil)))) (by rfl) scMa.nd (pi_tup (pv 0)) (blkOk_by (own := [("_law_name_here", 1), ("_law_told_here", 2), ("_law_inside", 3)]) (N := nMa) (sc := defScope sMa) (by decide +kernel))
          (fun _ _ _ _ _ => pg_tup (by rfl) (pgs_cons (pg_name (i := 1) scMa.nd rfl (.inl rfl)) (pgs_cons (pg_name (i := 2) scMa.nd rfl (.inl rfl)) (pgs_cons (pg_name (i := 3) scMa.nd rfl (.inl rfl)) pgs_nil)))) (fun _ _ _ _ _ => pts_nil) (fun _ _ _ _ _ => pe_ifExp (pt_cmpR op_isN (pv 3) pe_non (nomark _)) pe_int (pe_op op_add pe_int (pe_call GM hr (by rfl) gM F.kp bM .nil pass0 (pa_cons (pv 3) pa_nil))))) pa_nil))), ?_⟩
    have lcnt := Fo.len_cnt fo
    have lxs := rp.len
    refine ⟨.ref a, rfl, a, rfl, ⟨_, SqT.of ea⟩, fun D nD => ?_⟩
    refine lc_it (walk_tup (xs := xs)) (fun n H' => Same H H' ∧ H' D = some (.lst ((fo.items.take n).map fun t => V.int (mI t)))) ⟨same_upd nD, upd_same⟩ (fun _ H' _ h => SqT.of (h.1 _ _ ea)) ?_ ?_
    · rintro n x H8 H9 hn ⟨t8, e8⟩ ⟨rfl, hx⟩
      obtain ⟨t, ht, pl⟩ := rp.at hx
      obtain ⟨k1, k2⟩ := Fo.at_cnt ht
      obtain ⟨p, tv, iv, rfl, ep, htd, hin⟩ := pl.mv (.of_same t8)
      have sz : ((fo.items.take n).map fun t => V.int (mI t)).length < sizeLine := by
        rw [List.length_map, List.length_take]
        exact Nat.lt_of_lt_of_le (show min n fo.items.length < 1000000 by omega) (by decide)
      refine ⟨p, _, rfl, SqT.of ep, rfl, _, _, rfl, _, _, rfl, _, _, rfl, rfl, rfl, ?_⟩
      have ts := take_succ_map (fun t => V.int (mI t)) ht
      rcases hin with ⟨ei, rfl⟩ | ⟨nei, qa, zs, rfl, eq, rpi⟩
      · refine ⟨_, rfl, rfl, _, rfl, iteT ⟨_, e8, sz, same_app t8 nD (.refl _), ?_⟩⟩
        rw [upd_same, ts]
        show some (HO.lst (_ ++ [V.int 1])) = some (HO.lst (_ ++ [V.int (1 + (t.2.2.cnt : Int))]))
        rw [ei]
        rfl
      · refine ⟨_, rfl, rfl, _, rfl, iteF ?_⟩
        refine ⟨_, rfl, qa, zs, t.2.2, rfl, eq, rpi, nei, by omega, by omega, fun H2 t2 => ?_⟩
        refine ⟨1, _, rfl, rfl, _, t2 _ _ e8, sz, same_app t8 nD t2, ?_⟩
        rw [upd_same, ts]
        rfl
    · rintro H8 ⟨t8, e8⟩
      rw [lxs, List.take_of_length_le (Nat.le_refl _)] at e8
      have e : fo.items.map (fun t => V.int (mI t)) = (fo.items.map mI).map V.int := by
        rw [List.map_map]
        rfl
      rw [e] at e8
      refine ⟨D, _, rfl, SqL.of e8, ?_⟩
      rw [sum_cnt]
      exact q _ t8
theorem ok_ma {f : Addr} {fd : FuncData} (F : Fun K "_law_many" "_law_many" sMa f fd) (bM : Binds K fd ["_law_places_here"] []) (gM : mg "_law_many" = some (.ref f)) (mS : mg "sum" = none) : ∀ d, FnOk P w K mg base CX0 d f fd ["_law_places_here"] (spMa d)
  | 0 => by
    refine ⟨fun vs H Q E h => ?_, fun A outer s H args us vs Q E hr e0 hb r h => ?_⟩
    · obtain ⟨a, xs, fo, rfl, _⟩ := h
      rfl
    · obtain ⟨a, xs, fo, rfl, _, _, ne, dp, _⟩ := h
      exact absurd (Fo.nil_of_depth (Nat.le_zero.mp dp)) ne
  | d + 1 => ok_maS F bM gM (ok_ma F bM gM mS d) mS
/-! ### _law_places -/
abbrev sPl : Stmt := topS 42
abbrev nPl : List Str := ["_law_pot_here", "_law_room", "_law_around", "_law_many_here", "_law_left", "_law_found", "_law_k", "_law_name_here", "_law_told_here", "_law_inside", "_law_place"]
theorem scPl : FnScope nPl ["_law_pot_here", "_law_room", "_law_around"] (defScope sPl) := ⟨rfl, rfl, rfl, by decide +kernel, rfl, by decide +kernel, by decide +kernel⟩
def spPl (d : Nat) : Sp := fun vs H Q _ => ∃ (p ar : Addr) (r : Int) (ns : List Str), vs = [.ref p, .int r, .ref ar] ∧ Pot H p ∧ H ar = some (.lst (ns.map V.str)) ∧ p ≠ ar ∧ 1 ≤ r ∧ r ≤ 12 ∧ ns.length + d = 4 ∧ 0 < d ∧
  ∀ H' a xs fo, Keep p H H' → Pot H' p → H' a = some (.tup xs) → Rep H' fo xs → Gd fo → fo ≠ .nil → fo.depth ≤ d → (fo.cnt : Int) ≤ r → Ns ns [] fo → Q (.ref a) H'
theorem ok_plS {d k : Nat} {f fD fN fT fM : Addr} {fd fdD fdN fdT fdM : FuncData} (F : Fun K "_law_places" "_law_places" sPl f fd) (bP : Binds K fd ["_law_pot_here", "_law_room", "_law_around"] []) (gP : mg "_law_places" = some (.ref f)) (GP : FnOk P w K mg base CX0 k f fd ["_law_pot_here", "_law_room", "_law_around"] (spPl d)) (hk : 4 ≤ k) (hd4 : d ≤ 4)
    (FD : Fun K "_law_draw" "_law_draw" sDw fD fdD) (bD : Binds K fdD ["_law_pot_here", "_law_many_here"] []) (gD : mg "_law_draw" = some (.ref fD)) (FN : Fun K "_law_name" "_law_name" sNa fN fdN) (bN : Binds K fdN ["_law_pot_here", "_law_taken"] []) (gN : mg "_law_name" = some (.ref fN)) (GN : FnOk P w K mg base CX0 2 fN fdN ["_law_pot_here", "_law_taken"] spNa)
    (FT : Fun K "_law_told" "_law_told" sTo fT fdT) (bT : Binds K fdT ["_law_pot_here"] []) (gT : mg "_law_told" = some (.ref fT)) (GT : FnOk P w K mg base CX0 3 fT fdT ["_law_pot_here"] spTo) (FM : Fun K "_law_many" "_law_many" sMa fM fdM) (bM : Binds K fdM ["_law_places_here"] []) (gM : mg "_law_many" = some (.ref fM)) (GM : FnOk P w K mg base CX0 d fM fdM ["_law_places_here"] (spMa d))
    (mD : mg "divmod" = none) (mR : mg "range" = none) (mMin : mg "min" = none) (mL : mg "len" = none) (mT : mg "tuple" = none) : FnOk P w K mg base CX0 (k + 1) f fd ["_law_pot_here", "_law_room", "_law_around"] (spPl (d + 1)) := by
  have GD : FnOk P w K mg base CX0 1 fD fdD ["_law_pot_here", "_law_many_here"] spDw := ok_dw FD mD
  refine F.ok scPl (fun vs H Q E h => ?_) (fun cdv A outer s H vs Q E hr h => ?_)
  · obtain ⟨p, ar, r, ns, rfl, _⟩ := h
    rfl
  · obtain ⟨p, ar, r, ns, rfl, hp, er, npr, r1, r2, hns, _, q⟩ := h
    have hr1 := hr.mono (show 1 ≤ k by omega)
    have hr2 := hr.mono (show 2 ≤ k by omega)
    have hr3 := hr.mono (show 3 ≤ k by omega)
    have hrd := hr.mono (show d ≤ k by omega)
    refine ⟨_, pss_cons (ps_set (i := 3) scPl.nd rfl (.inl rfl) (pe_op op_add pe_int (pe_call GD hr1 (by rfl) gD FD.kp bD .nil pass0 (pa_cons (pv 0) (pa_cons (pe_callB (call_min2 rfl) (by rfl) mMin (by decide +kernel) (pa_cons (pv 1) (pa_cons (pe_ix ix_list (pe_lst (pa_cons pe_int (pa_cons pe_int (pa_cons pe_int (pa_cons pe_int pa_nil))))) (pe_call GD hr1 (by rfl) gD FD.kp bD .nil pass0 (pa_cons (pv 0) (pa_cons pe_int pa_nil))) (fun _ _ => rfl)) pa_nil))) pa_nil)))))
      (pss_cons (ps_set (i := 4) scPl.nd rfl (.inl rfl) (pe_op op_sub (pv 1) (pv 3)))
      (pss_cons (ps_set (i := 5) scPl.nd rfl (.inl rfl) (pe_lst pa_nil))
      (pss_cons (ps_for PassesOwn.never rfl (pi_range1 (by rfl) mR (pa_cons (pv 3) pa_nil)) (pg_name (i := 6) scPl.nd rfl (.inl rfl))
        (pss_cons (ps_set (i := 7) scPl.nd rfl (.inl rfl) (pe_call GN hr2 (by rfl) gN FN.kp bN .nil pass0 (pa_cons (pv 0) (pa_cons (pe_op op_cat (pv 2) (pe_lc (own := [("_law_place", 10)]) (g := gName 10) (tt := tYes) (te := tOp (rIxT K) (tVar 10) (tC (.int 0))) (by rfl) scPl.nd (pi_list (pv 5)) (blkOk_by (own := [("_law_place", 10)]) (N := nPl) (sc := defScope sPl) (by decide +kernel))
            (fun _ _ _ _ _ => pg_name (i := 10) scPl.nd rfl (.inl rfl)) (fun _ _ _ _ _ => pts_nil) (fun _ _ _ _ _ => pe_ix ix_tup (pv 10) pe_int (fun _ _ => rfl)))) pa_nil))))
        (pss_cons (ps_set (i := 8) scPl.nd rfl (.inl rfl) (pe_call GT hr3 (by rfl) gT FT.kp bT .nil pass0 (pa_cons (pv 0) pa_nil)))
        (pss_cons (ps_set (i := 9) scPl.nd rfl (.inl rfl) pe_non)
        (C8.pss_cut (ps_if (PW.pt (pw_and (pt_cmpR op_gt (pv 4) pe_int (nomark _)) (pw_and (pt_cmpR op_lt (pe_callB call_len_seq (by rfl) mL PySem.boot_len (pa_cons (pv 2) pa_nil)) pe_int (nomark _)) (pw_and1 (pt_cmpR op_lt (pe_call GD hr1 (by rfl) gD FD.kp bD .nil pass0 (pa_cons (pv 0) (pa_cons pe_int pa_nil))) pe_int (nomark _))))))
            (pss_cons (ps_set (i := 9) scPl.nd rfl (.inl rfl) (pe_call GP hr (by rfl) gP F.kp bP .nil pass0 (pa_cons (pv 0) (pa_cons (pv 4) (pa_cons (pe_op op_cat (pv 2) (pe_lst (pa_cons (pv 7) pa_nil))) pa_nil)))))
            (pss_one (ps_set (i := 4) scPl.nd rfl (.inl rfl) (pe_op op_sub (pv 4) (pe_call GM hrd (by rfl) gM FM.kp bM .nil pass0 (pa_cons (pv 9) pa_nil)))))) pss_nil)
        (pss_one (ps_expr (pe_bm PySem.F.plainAttrs_list PySem.F.slot_list_append PySem.F.type_list_append mt_append (pv 5) (pa_cons (pe_tup (pa_cons (pv 7) (pa_cons (pv 8) (pa_cons (pv 9) pa_nil)))) pa_nil)))))))))
      (pss_one (ps_ret (pe_callTy call_tuple_of (by rfl) mT (by decide +kernel) (pa_cons (pv 5) pa_nil))))))), ?_⟩
    refine ⟨.ref p, rfl, _, rfl, (by show 4 ≤ sizeLine; decide), fun l nl => ?_⟩
    have npl : l ≠ p := fun z => hp.ne nl z.symm
    refine ⟨.ref p, rfl, p, 4, rfl, pot_upd hp nl, by decide, by decide, fun H1 g k1 p1 lg ug => ?_⟩
    have el := k1 _ _ npl upd_same
    obtain ⟨x, hx, ex⟩ := at_memA (xs := [V.int 4, .int 4, .int 4, .int 12]) lg ug
    obtain ⟨m, rfl, m0, m1⟩ : ∃ m : Int, x = .int m ∧ 1 ≤ m ∧ m ≤ 12 := by
      simp only [List.mem_cons, List.not_mem_nil, or_false] at hx
      rcases hx with rfl | rfl | rfl | rfl
      · exact ⟨_, rfl, by decide, by decide⟩
      · exact ⟨_, rfl, by decide, by decide⟩
      · exact ⟨_, rfl, by decide, by decide⟩
      · exact ⟨_, rfl, by decide, by decide⟩
    refine ⟨l, _, g, _, rfl, rfl, SqL.of el, ex, r, m, rfl, ?_⟩
    obtain ⟨c, ec, c1, c2⟩ : ∃ c : Int, (if m < r then m else r) = c ∧ 1 ≤ c ∧ c ≤ r := ⟨_, rfl, by split <;> omega, by split <;> omega⟩
    rw [ec]
    refine ⟨p, c, rfl, p1, by omega, by omega, fun H2 e k2 p2 le ue => ?_⟩
    refine ⟨1, e, rfl, rfl, _, rfl, _, rfl, r, 1 + e, rfl, rfl, (by show 0 ≤ sizeLine; exact Nat.zero_le _), fun Fd nF => ?_⟩
    obtain ⟨mh, hmh⟩ : ∃ mh : Nat, (mh : Int) = 1 + e := ⟨(1 + e).toNat, by omega⟩
    have nFp : Fd ≠ p := fun z => p2.ne nF z.symm
    have k02 : Keep p H H2 := ((same_keep (same_upd nl)).trans k1).trans k2
    have nHF : H Fd = none := k02.free p2 nF
    have er2 : H2 ar = some (.lst (ns.map V.str)) := k02 _ _ (fun z => npr z.symm) er
    have nFr : ar ≠ Fd := ne_of_none er2 nF
    have sF := same_upd (o := .lst []) nF
    refine ⟨_, rfl, 1 + e, rfl, by omega, by omega, ?_⟩
    refine for_range (lo := 0) (n := (1 + e).toNat) (fun n σ H3 => ∃ (lf : Int) (xs : List V) (fo : Fo) (v6 v7 v8 v9 : Option V), σ = [some (.ref p), some (.int r), some (.ref ar), some (.int (1 + e)), some (.int lf), some (.ref Fd), v6, v7, v8, v9, none] ∧
        Keep p H H3 ∧ Pot H3 p ∧ H3 Fd = some (.lst xs) ∧ Rep H3 fo xs ∧ Gd fo ∧ fo.depth ≤ d + 1 ∧ Ns ns [] fo ∧ fo.items.length = n ∧ 0 ≤ lf ∧ (fo.cnt : Int) + lf + ((mh : Int) - n) ≤ r)
      ⟨r - (1 + e), [], .nil, none, none, none, none, rfl, k02.trans (same_keep sF), p2.same sF, upd_same, rfl, True.intro, Nat.zero_le _, True.intro, rfl, by omega, by show (0 : Int) + (r - (1 + e)) + ((mh : Int) - 0) ≤ r; omega⟩ ?_ ?_
    · rintro n σ H3 hn ⟨lf, xs, fo, v6, v7, v8, v9, rfl, k3, p3, e3, rp, g3, dp, un, ln, lf0, cn⟩
      have er3 : H3 ar = some (.lst (ns.map V.str)) := k3 _ _ (fun z => npr z.symm) er
      have lxs := rp.len
      have n12 : n < 12 := by omega
      refine ⟨_, rfl, _, rfl, _, rfl, Fd, rfl, ⟨_, SqL.of e3⟩, fun D nD => ?_⟩
      have nDp : D ≠ p := fun z => p3.ne nD z.symm
      refine lc_it (walk_list (xs := xs)) (fun j H' => Same H3 H' ∧ H' D = some (.lst ((fo.names.take j).map V.str))) ⟨same_upd nD, upd_same⟩ (fun _ H' _ h => SqL.of (h.1 _ _ e3)) ?_ ?_
      · rintro j x H8 H9 hj ⟨t8, e8⟩ ⟨rfl, hx⟩
        obtain ⟨t, ht, pl⟩ := rp.at hx
        obtain ⟨pa, tv, iv, rfl, ep, htd, hin⟩ := pl.mv (.of_same t8)
        refine ⟨rfl, _, rfl, pa, _, 0, _, rfl, rfl, SqT.of ep, atI_nat (j := 0) rfl, _, e8, ?_, same_app t8 nD (.refl _), ?_⟩
        · rw [List.length_map, List.length_take]
          exact Nat.lt_of_lt_of_le (show min j fo.names.length < 1000000 by unfold Fo.names; rw [List.length_map]; omega) (by decide)
        · rw [upd_same, names_succ ht]
      · rintro H8 ⟨t8, e8⟩
        rw [lxs, List.take_of_length_le (by unfold Fo.names; rw [List.length_map]; exact Nat.le_refl _)] at e8
        have nml : fo.names.length = n := by unfold Fo.names; rw [List.length_map]; exact ln
        refine ⟨ar, D, _, _, rfl, rfl, t8 _ _ er3, e8, lineM (by rw [List.length_map, List.length_map]; omega), fun L nL => ?_⟩
        have sL := same_upd (o := .lst (ns.map V.str ++ fo.names.map V.str)) nL
        have p8 := p3.same t8
        have nLp : p ≠ L := p8.ne nL
        refine ⟨p, L, ns ++ fo.names, rfl, p8.same sL, by rw [upd_same, List.map_append], nLp, by rw [List.length_append]; omega, fun H4 z k4 p4 nz zt => ?_⟩
        have zn : z ∉ ns ∧ z ∉ fo.names := ⟨fun y => zt (List.mem_append_left _ y), fun y => zt (List.mem_append_right _ y)⟩
        refine ⟨.ref p, rfl, p, rfl, p4, fun H5 tv td k5 p5 td5 sh => ?_⟩
        have k35 : Keep p H3 H5 := ((same_keep (t8.trans sL)).trans k4).trans k5
        have e5 := k35 _ _ nFp e3
        have er5 := k35 _ _ (fun z => npr z.symm) er3
        have rp5 := rp.mv (.of_pot k35 p3)
        refine ⟨fun σ H6 => ∃ (lf' : Int) (iv : V) (ins : Fo), σ = [some (.ref p), some (.int r), some (.ref ar), some (.int (1 + e)), some (.int lf'), some (.ref Fd), some (.int (0 + (n : Nat))), some (.str z), some tv, some iv, none] ∧
          Keep p H5 H6 ∧ Pot H6 p ∧ InV H6 iv ins ∧ Gd ins ∧ ins.depth ≤ d ∧ Ns (ns ++ [z]) [] ins ∧ 0 ≤ lf' ∧ (ins.cnt : Int) + lf' ≤ lf, ?_, ?_⟩
        · refine ⟨_, rfl, lf, 0, rfl, rfl, _, rfl, ite2 (fun e0 => ?_) (fun e0 => ?_)⟩
          · have l0 : 0 < lf := of_decide_eq_true e0
            refine ⟨_, rfl, ar, _, rfl, .inl (SqL.of er5), _, 3, rfl, rfl, _, rfl, ite2 (fun e1 => ?_) (fun e1 => ?_)⟩
            · have l3 : ((ns.map V.str).length : Int) < 3 := of_decide_eq_true e1
              rw [List.length_map] at l3
              refine ⟨.ref p, rfl, p, 5, rfl, p5, by decide, by decide, fun H6 e6 k6 p6 _ _ => ?_⟩
              refine ⟨e6, 2, rfl, rfl, _, rfl, ite2 (fun e2 => ?_) (fun e2 => ?_)⟩
              · have er6 := k6 _ _ (fun z => npr z.symm) er5
                refine ⟨_, rfl, _, rfl, _, rfl, _, rfl, (by show 1 ≤ sizeLine; decide), fun A1 nA1 => ?_⟩
                have s1 := same_upd (o := .lst [V.str z]) nA1
                refine ⟨ar, A1, _, _, rfl, rfl, s1 _ _ er6, upd_same, lineM (by rw [List.length_map]; show ns.length + 1 ≤ _; omega), fun A2 nA2 => ?_⟩
                have s2 := s1.trans (same_upd (o := .lst (ns.map V.str ++ [V.str z])) nA2)
                have p7 := p6.same s2
                refine ⟨p, A2, lf, ns ++ [z], rfl, p7, by rw [upd_same, List.map_append]; rfl, (p6.same s1).ne nA2, by omega, by omega, by rw [List.length_append]; show ns.length + 1 + d = 4; omega, by omega, fun H8' a8 xs8 f8 k8 p8' e8' rp8 g8 ne8 d8 c8 u8 => ?_⟩
                refine ⟨_, rfl, _, rfl, a8, xs8, f8, rfl, e8', rp8, ne8, d8, by omega, fun H9 s9 => ?_⟩
                refine ⟨lf, _, rfl, rfl, lf - (f8.cnt : Int), .ref a8, f8, rfl, (((k6.trans (same_keep s2)).trans k8).trans (same_keep s9)), p8'.same s9, .inr ⟨ne8, a8, xs8, rfl, s9 _ _ e8', rp8.mv (.of_same s9)⟩, g8, d8, u8, by omega, by omega⟩
              · exact ⟨lf, .non, .nil, rfl, k6, p6, .inl ⟨rfl, rfl⟩, True.intro, Nat.zero_le _, True.intro, lf0, by show (0 : Int) + lf ≤ lf; omega⟩
            · exact ⟨lf, .non, .nil, rfl, .refl, p5, .inl ⟨rfl, rfl⟩, True.intro, Nat.zero_le _, True.intro, lf0, by show (0 : Int) + lf ≤ lf; omega⟩
          · exact ⟨lf, .non, .nil, rfl, .refl, p5, .inl ⟨rfl, rfl⟩, True.intro, Nat.zero_le _, True.intro, lf0, by show (0 : Int) + lf ≤ lf; omega⟩
        · rintro σ H6 ⟨lf', iv, ins, rfl, k6, p6, iv6, g6, d6, u6, lf0', cn'⟩
          have e6 := k6 _ _ nFp e5
          refine ⟨_, rfl, .inl ⟨rfl, _, SqL.of e6⟩, _, rfl, _, rfl, _, rfl, (by show 3 ≤ sizeLine; decide), fun T nT => ?_⟩
          have sT := same_upd (o := .tup [V.str z, tv, iv]) nT
          refine ⟨Fd, _, _, rfl, rfl, sT _ _ e6, ?_, ?_⟩
          · rw [lxs, ln]
            exact Nat.lt_of_lt_of_le (show n < 1000000 by omega) (by decide)
          have nTF : T ≠ Fd := fun y => by
            rw [y, e6] at nT
            cases nT
          have k37 : Keep p H (upd (upd H6 T (.tup [V.str z, tv, iv])) Fd (.lst (xs ++ [.ref T]))) := fun b o nb hb => by
            rw [upd_ne (ne_of_none hb nHF)]
            exact sT _ _ (k6 _ _ nb (k35 _ _ nb (k3 _ _ nb hb)))
          have tF : Tups (upd H6 T (.tup [V.str z, tv, iv])) (upd (upd H6 T (.tup [V.str z, tv, iv])) Fd (.lst (xs ++ [.ref T]))) := .of_keep (p := Fd) keep_upd fun ys y => by
            rw [sT _ _ e6] at y
            cases y
          have tA : Tups H3 (upd (upd H6 T (.tup [V.str z, tv, iv])) Fd (.lst (xs ++ [.ref T]))) := ((Tups.of_pot k35 p3).trans ((Tups.of_pot k6 p5).trans (.of_same sT))).trans tF
          have tB : Tups H5 (upd (upd H6 T (.tup [V.str z, tv, iv])) Fd (.lst (xs ++ [.ref T]))) := ((Tups.of_pot k6 p5).trans (.of_same sT)).trans tF
          have pl : Plc (upd (upd H6 T (.tup [V.str z, tv, iv])) Fd (.lst (xs ++ [.ref T]))) (.ref T) (z, td, ins) := ⟨T, tv, iv, rfl, by rw [upd_ne nTF, upd_same], td5.mv tB, iv6.mv ((Tups.of_same sT).trans tF)⟩
          have p7 : Pot (upd (upd H6 T (.tup [V.str z, tv, iv])) Fd (.lst (xs ++ [.ref T]))) p := by
            obtain ⟨x, y, exy, hxy⟩ := p6.same sT
            exact ⟨x, y, by rw [upd_ne (fun w => nFp w.symm)]; exact exy, hxy⟩
          refine ⟨lf', xs ++ [.ref T], fo.snoc z td ins, _, _, _, _, rfl, k37, p7, upd_same, (rp.mv tA).snoc pl, g3.snoc nz sh g6, ?_, un.snoc (by rw [List.nil_append]; exact zn.2) zn.1 u6, ?_, lf0', ?_⟩
          · rw [Fo.depth_snoc]
            omega
          · rw [Fo.items_snoc, List.length_append, ln]
            rfl
          · rw [Fo.cnt_snoc]
            push_cast
            omega
    · rintro σ H3 ⟨lf, xs, fo, v6, v7, v8, v9, rfl, k3, p3, e3, rp, g3, dp, un, ln, lf0, cn⟩
      refine ⟨_, rfl, Fd, _, rfl, .inl ⟨SqL.of e3, fun T nT => ?_⟩⟩
      have sT := same_upd (o := .tup xs) nT
      refine q _ T xs fo (k3.trans (same_keep sT)) (p3.same sT) upd_same (rp.mv (.of_same sT)) g3 ?_ dp ?_ un
      · rintro rfl
        have : (0 : Nat) = (1 + e).toNat := ln
        omega
      · omega
end
end G
set_option Elab.async false
set_option linter.all false
set_option maxRecDepth 100000
set_option maxHeartbeats 1000000
namespace G
open PySem PySem.Spec PyProof.Rows L2 TL
section
variable {P : Program} {w : World} {K : PySem.W.Frag} {mg : Str → Option Value} {base : Heap}
theorem ok_pl {f fD fN fT fM : Addr} {fd fdD fdN fdT fdM : FuncData} (F : Fun K "_law_places" "_law_places" sPl f fd) (bP : Binds K fd ["_law_pot_here", "_law_room", "_law_around"] []) (gP : mg "_law_places" = some (.ref f))
    (FD : Fun K "_law_draw" "_law_draw" sDw fD fdD) (bD : Binds K fdD ["_law_pot_here", "_law_many_here"] []) (gD : mg "_law_draw" = some (.ref fD)) (FN : Fun K "_law_name" "_law_name" sNa fN fdN) (bN : Binds K fdN ["_law_pot_here", "_law_taken"] []) (gN : mg "_law_name" = some (.ref fN)) (GN : FnOk P w K mg base CX0 2 fN fdN ["_law_pot_here", "_law_taken"] spNa)
    (FT : Fun K "_law_told" "_law_told" sTo fT fdT) (bT : Binds K fdT ["_law_pot_here"] []) (gT : mg "_law_told" = some (.ref fT)) (GT : FnOk P w K mg base CX0 3 fT fdT ["_law_pot_here"] spTo) (FM : Fun K "_law_many" "_law_many" sMa fM fdM) (bM : Binds K fdM ["_law_places_here"] []) (gM : mg "_law_many" = some (.ref fM)) (mS : mg "sum" = none)
    (mD : mg "divmod" = none) (mR : mg "range" = none) (mMin : mg "min" = none) (mL : mg "len" = none) (mT : mg "tuple" = none) : FnOk P w K mg base CX0 8 f fd ["_law_pot_here", "_law_room", "_law_around"] (spPl 4) := by
  have G0 : FnOk P w K mg base CX0 4 f fd ["_law_pot_here", "_law_room", "_law_around"] (spPl 0) := by
    refine ⟨fun vs H Q E h => ?_, fun A outer s H args us vs Q E hr e0 hb r h => ?_⟩
    · obtain ⟨p, ar, r, ns, rfl, _⟩ := h
      rfl
    · obtain ⟨p, ar, r, ns, rfl, _, _, _, _, _, _, z, _⟩ := h
      exact absurd z (by decide)
  have G1 := ok_plS F bP gP G0 (by decide) (by decide) FD bD gD FN bN gN GN FT bT gT GT FM bM gM (ok_ma FM bM gM mS 0) mD mR mMin mL mT
  have G2 := ok_plS F bP gP G1 (by decide) (by decide) FD bD gD FN bN gN GN FT bT gT GT FM bM gM (ok_ma FM bM gM mS 1) mD mR mMin mL mT
  have G3 := ok_plS F bP gP G2 (by decide) (by decide) FD bD gD FN bN gN GN FT bT gT GT FM bM gM (ok_ma FM bM gM mS 2) mD mR mMin mL mT
  exact ok_plS F bP gP G3 (by decide) (by decide) FD bD gD FN bN gN GN FT bT gT GT FM bM gM (ok_ma FM bM gM mS 3) mD mR mMin mL mT
/-! ### _law_words -/
abbrev sWo : Stmt := topS 44
theorem scWo : FnScope ["_law_pot_here", "_law_found", "_law_k"] ["_law_pot_here"] (defScope sWo) := ⟨rfl, rfl, rfl, by decide +kernel, rfl, by decide +kernel, by decide +kernel⟩
def spWo : Sp := fun vs H Q _ => ∃ p : Addr, vs = [.ref p] ∧ Pot H p ∧ ∀ H' l (ws : List Str), Keep p H H' → Pot H' p → H l = none → H' l = some (.lst (ws.map V.str)) → (∀ y ∈ ws, NmOk y) → ws.Nodup → ws.length ≤ 20 → Q (.ref l) H'
theorem ok_wo {f fD fN : Addr} {fd fdD fdN : FuncData} (F : Fun K "_law_words" "_law_words" sWo f fd) (FD : Fun K "_law_draw" "_law_draw" sDw fD fdD) (bD : Binds K fdD ["_law_pot_here", "_law_many_here"] []) (gD : mg "_law_draw" = some (.ref fD)) (FN : Fun K "_law_name" "_law_name" sNa fN fdN) (bN : Binds K fdN ["_law_pot_here", "_law_taken"] []) (gN : mg "_law_name" = some (.ref fN)) (GN : FnOk P w K mg base CX0 2 fN fdN ["_law_pot_here", "_law_taken"] spNa)
    (mD : mg "divmod" = none) (mR : mg "range" = none) : FnOk P w K mg base CX0 3 f fd ["_law_pot_here"] spWo := by
  have GD : FnOk P w K mg base CX0 1 fD fdD ["_law_pot_here", "_law_many_here"] spDw := ok_dw FD mD
  refine F.ok scWo (fun vs H Q E h => ?_) (fun cdv A outer s H vs Q E hr h => ?_)
  · obtain ⟨p, rfl, _⟩ := h
    rfl
  · obtain ⟨p, rfl, hp, q⟩ := h
    refine ⟨_, pss_cons (ps_set (i := 1) scWo.nd rfl (.inl rfl) (pe_lst pa_nil))
      (pss_cons (ps_for PassesOwn.never rfl (pi_range1 (by rfl) mR (pa_cons (pe_ix ix_list (pe_lst (pa_cons pe_int (pa_cons pe_int (pa_cons pe_int (pa_cons pe_int (pa_cons pe_int (pa_cons pe_int (pa_cons pe_int (pa_cons pe_int pa_nil))))))))) (pe_call GD (hr.mono (by decide)) (by rfl) gD FD.kp bD .nil pass0 (pa_cons (pv 0) (pa_cons pe_int pa_nil))) (fun _ _ => rfl)) pa_nil)) (pg_name (i := 2) scWo.nd rfl (.inl rfl))
        (pss_one (ps_expr (pe_bm PySem.F.plainAttrs_list PySem.F.slot_list_append PySem.F.type_list_append mt_append (pv 1) (pa_cons (pe_call GN hr (by rfl) gN FN.kp bN .nil pass0 (pa_cons (pv 0) (pa_cons (pv 1) pa_nil))) pa_nil)))))
      (pss_one (ps_ret (pv 1)))), ?_⟩
    refine ⟨(by show 0 ≤ sizeLine; exact Nat.zero_le _), fun l nl => ?_⟩
    have sl := same_upd (o := .lst []) nl
    have nlp : l ≠ p := fun z => hp.ne nl z.symm
    refine ⟨(by show 8 ≤ sizeLine; decide), fun m nm => ?_⟩
    have p1 := hp.same sl
    have sm := same_upd (o := .lst [V.int 0, .int 0, .int 1, .int 2, .int 4, .int 1, .int 0, .int 20]) nm
    have nmp : m ≠ p := fun z => p1.ne nm z.symm
    refine ⟨.ref p, rfl, p, 8, rfl, p1.same sm, by decide, by decide, fun H1 g k1 p2 lg ug => ?_⟩
    have em := k1 _ _ nmp upd_same
    obtain ⟨x, hx, ex⟩ := at_memA (xs := [V.int 0, .int 0, .int 1, .int 2, .int 4, .int 1, .int 0, .int 20]) lg ug
    obtain ⟨c, rfl, c0, c1⟩ : ∃ c : Int, x = .int c ∧ 0 ≤ c ∧ c ≤ 20 := by
      simp only [List.mem_cons, List.not_mem_nil, or_false] at hx
      rcases hx with rfl | rfl | rfl | rfl | rfl | rfl | rfl | rfl <;> exact ⟨_, rfl, by decide, by decide⟩
    refine ⟨m, _, g, _, rfl, rfl, SqL.of em, ex, c, rfl, by omega, by omega, ?_⟩
    have k01 : Keep p H H1 := (same_keep (sl.trans sm)).trans k1
    have el1 := k1 _ _ nlp (sm _ _ upd_same)
    refine for_range (lo := 0) (n := c.toNat) (fun n σ H3 => ∃ (ws : List Str) (v2 : Option V), σ = [some (.ref p), some (.ref l), v2] ∧ Keep p H H3 ∧ Pot H3 p ∧ H3 l = some (.lst (ws.map V.str)) ∧ (∀ y ∈ ws, NmOk y) ∧ ws.Nodup ∧ ws.length = n)
      ⟨[], none, rfl, k01, p2, el1, (fun y hy => by cases hy), List.nodup_nil, rfl⟩ ?_ ?_
    · rintro n σ H3 hn ⟨ws, v2, rfl, k3, p3, e3, w1, w2, w3⟩
      refine ⟨_, rfl, .inl ⟨rfl, _, SqL.of e3⟩, _, rfl, _, rfl, p, l, ws, rfl, p3, e3, fun z => nlp z.symm, by omega, fun H4 z k4 p4 nz zt => ?_⟩
      have e4 := k4 _ _ nlp e3
      refine ⟨l, _, _, rfl, rfl, e4, ?_, ws ++ [z], _, rfl, fun b o nb hb => ?_, ?_, ?_, ?_, ?_, ?_⟩
      · rw [List.length_map, w3]
        exact Nat.lt_of_lt_of_le (show n < 1000000 by omega) (by decide)
      · rw [upd_ne (ne_of_none hb nl)]
        exact k4 _ _ nb (k3 _ _ nb hb)
      · obtain ⟨x, y, exy, hxy⟩ := p4
        exact ⟨x, y, by rw [upd_ne (fun w => nlp w.symm)]; exact exy, hxy⟩
      · rw [upd_same, List.map_append]
        rfl
      · intro y hy
        rcases List.mem_append.mp hy with hy | hy
        · exact w1 y hy
        · rw [List.mem_singleton.mp hy]
          exact nz
      · refine List.nodup_append.mpr ⟨w2, List.pairwise_singleton _ _, fun a ha b hb e => zt ?_⟩
        rw [List.mem_singleton.mp hb] at e
        exact e ▸ ha
      · rw [List.length_append, w3]
        rfl
    · rintro σ H3 ⟨ws, v2, rfl, k3, p3, e3, w1, w2, w3⟩
      exact ⟨_, rfl, q _ l ws k3 p3 nl e3 w1 w2 (by omega)⟩
/-! ### _law_number -/
abbrev sNu : Stmt := topS 45
theorem scNu : FnScope ["_law_share_here"] ["_law_share_here"] (defScope sNu) := ⟨rfl, rfl, rfl, by decide +kernel, rfl, by decide +kernel, by decide +kernel⟩
def spNu : Sp := fun vs H Q _ => ∃ (a : Addr) (i j : Int), vs = [.ref a] ∧ Two H a i j ∧ 0 ≤ i ∧ 0 < j ∧ i.natAbs < big ∧ j.natAbs < big ∧ Q (.str (fT i j)) H
theorem str_Tn {i : Int} (h : 0 ≤ i) : (Str.ofString (toString i)) = Tn i.natAbs := by
  unfold Tn
  rw [show ((i.natAbs : Nat) : Int) = i by omega]
theorem nil_app (x : Str) : Str.ofString "" ++ x = x := tl_inj (by
  rw [tl_append]
  have e : tl (Str.ofString "") = [] := by decide +kernel
  rw [e, List.nil_append])
theorem fT_one {i : Int} (h : 0 ≤ i) : fT i 1 = Tn i.natAbs := by
  unfold fT sg bl
  rw [if_neg (by omega), if_pos rfl]
  show (Str.ofString "" ++ Tn i.natAbs) ++ Str.ofString "" = _
  rw [nil_app, app_nil]
theorem fT_two {i j : Int} (h : 0 ≤ i) (hj : j ≠ 1) : fT i j = (Tn i.natAbs ++ Str.ofString "/") ++ Tn j.natAbs := by
  unfold fT sg bl
  rw [if_neg (by omega), if_neg hj]
  show (Str.ofString "" ++ Tn i.natAbs) ++ (Str.ofString "/" ++ Tn j.natAbs) = _
  rw [nil_app, app_assoc]
theorem ok_nu {f : Addr} {fd : FuncData} (F : Fun K "_law_number" "_law_number" sNu f fd) (mS : mg "str" = none) : FnOk P w K mg base CX0 1 f fd ["_law_share_here"] spNu := by
  refine F.ok scNu (fun vs H Q E h => ?_) (fun cdv A outer s H vs Q E hr h => ?_)
  · obtain ⟨a, i, j, rfl, _⟩ := h
    rfl
  · obtain ⟨a, i, j, rfl, e, i0, j0, hi, hj, q⟩ := h
    have li : i.natAbs.log2 < 1920 := by
      have := log_20 hi
      rw [Int.natAbs_natCast] at this
      exact this
    have lj : j.natAbs.log2 < 1920 := by
      have := log_20 hj
      rw [Int.natAbs_natCast] at this
      exact this
    refine ⟨_, pss_cons (ps_if (pt_cmpR op_eq (pe_ix ix_tup (pv 0) pe_int (fun _ _ => rfl)) pe_int (nomark _)) (pss_one (ps_ret (pe_callTy call_str_int (by rfl) mS (by decide +kernel) (pa_cons (pe_ix ix_tup (pv 0) pe_int (fun _ _ => rfl)) pa_nil)))) pss_nil)
      (pss_one (ps_ret (pe_op op_add_str (pe_op op_add_str (pe_callTy call_str_int (by rfl) mS (by decide +kernel) (pa_cons (pe_ix ix_tup (pv 0) pe_int (fun _ _ => rfl)) pa_nil)) pe_str) (pe_callTy call_str_int (by rfl) mS (by decide +kernel) (pa_cons (pe_ix ix_tup (pv 0) pe_int (fun _ _ => rfl)) pa_nil))))), ?_⟩
    refine ⟨_, rfl, a, _, 1, _, rfl, rfl, SqT.of e, atI_nat (j := 1) rfl, rfl, _, rfl, ite2 (fun e1 => ?_) (fun e1 => ?_)⟩
    · have ej : j = 1 := V.int.inj (of_decide_eq_true e1)
      subst ej
      rw [fT_one i0] at q
      refine ⟨_, rfl, a, _, 0, _, rfl, rfl, SqT.of e, atI_nat (j := 0) rfl, i, rfl, li, ?_⟩
      rw [str_Tn i0]
      exact q
    · have ej : j ≠ 1 := fun z => e1 (decide_eq_true (by rw [z]))
      rw [fT_two i0 ej] at q
      refine ⟨_, rfl, a, _, 0, _, rfl, rfl, SqT.of e, atI_nat (j := 0) rfl, i, rfl, li, ?_⟩
      rw [str_Tn i0]
      have h1 := Tn_len hi
      have h2 := Tn_len hj
      have h3 : (Str.ofString "/").length = 1 := by decide +kernel
      refine ⟨_, _, rfl, rfl, lineM (by rw [h3]; omega), _, rfl, a, _, 1, _, rfl, rfl, SqT.of e, atI_nat (j := 1) rfl, j, rfl, lj, ?_⟩
      rw [str_Tn (by omega)]
      exact ⟨_, _, rfl, rfl, lineM (by rw [app_len, h3]; omega), q⟩
/-! ### _law_behind -/
abbrev sBh : Stmt := topS 46
theorem scBh : FnScope ["_law_told_here"] ["_law_told_here"] (defScope sBh) := ⟨rfl, rfl, rfl, by decide +kernel, rfl, by decide +kernel, by decide +kernel⟩
def spBh : Sp := fun vs H Q _ => ∃ (tv : V) (td : Option Sh), vs = [tv] ∧ TdV H tv td ∧ (∀ s, td = some s → ShOk s) ∧ Q (.str (tdT td)) H
theorem sh_c {s : Sh} (h : ShOk s) : 0 ≤ s.c := by
  have pb := isFr_pos h.1.1
  have pd := isFr_pos h.1.2
  by_cases z : 0 ≤ s.c
  · exact z
  · have h1 : 0 ≤ s.a * s.d := Int.mul_nonneg h.2.1.1 (by omega)
    have h2 : 0 < -s.c * s.b := Int.mul_pos (by omega) pb
    rw [Int.neg_mul] at h2
    have := h.2.1.2.1
    omega
theorem ok_bh {f fN : Addr} {fd fdN : FuncData} (F : Fun K "_law_behind" "_law_behind" sBh f fd) (FN : Fun K "_law_number" "_law_number" sNu fN fdN) (bN : Binds K fdN ["_law_share_here"] []) (gN : mg "_law_number" = some (.ref fN)) (mS : mg "str" = none) : FnOk P w K mg base CX0 2 f fd ["_law_told_here"] spBh := by
  have GN : FnOk P w K mg base CX0 1 fN fdN ["_law_share_here"] spNu := ok_nu FN mS
  refine F.ok scBh (fun vs H Q E h => ?_) (fun cdv A outer s H vs Q E hr h => ?_)
  · obtain ⟨tv, td, rfl, _⟩ := h
    rfl
  · obtain ⟨tv, td, rfl, ht, ok, q⟩ := h
    refine ⟨_, pss_cons (ps_if (pt_cmpR op_isN (pv 0) pe_non (nomark _)) (pss_one (ps_ret pe_str)) pss_nil)
      (pss_cons (ps_if (pt_cmpR (op_eqD hr.units) (pe_ix ix_tup (pv 0) pe_int (fun _ _ => rfl)) (pe_ix ix_tup (pv 0) pe_int (fun _ _ => rfl)) (nomark _)) (pss_one (ps_ret (pe_op op_add_str pe_str (pe_call GN hr (by rfl) gN FN.kp bN .nil pass0 (pa_cons (pe_ix ix_tup (pv 0) pe_int (fun _ _ => rfl)) pa_nil))))) pss_nil)
      (pss_one (ps_ret (pe_op op_add_str (pe_op op_add_str (pe_op op_add_str pe_str (pe_call GN hr (by rfl) gN FN.kp bN .nil pass0 (pa_cons (pe_ix ix_tup (pv 0) pe_int (fun _ _ => rfl)) pa_nil))) pe_str) (pe_call GN hr (by rfl) gN FN.kp bN .nil pass0 (pa_cons (pe_ix ix_tup (pv 0) pe_int (fun _ _ => rfl)) pa_nil)))))), ?_⟩
    cases td with
    | none =>
      obtain rfl : tv = .non := ht
      exact ⟨_, rfl, rfl, _, rfl, iteT q⟩
    | some sh =>
      obtain ⟨t, lo, hi, rfl, et, e1, e2⟩ := ht
      have k := ok sh rfl
      have pb := isFr_pos k.1.1
      have pd := isFr_pos k.1.2
      have pc := sh_c k
      obtain ⟨la, lb, lc, ld⟩ := k.2.2
      have h1 := fT_len la lb
      have h2 := fT_len lc ld
      have h3 : (Str.ofString " ").length = 1 := by decide +kernel
      refine ⟨_, rfl, rfl, _, rfl, iteF ?_⟩
      refine ⟨_, rfl, t, _, 0, _, rfl, rfl, SqT.of et, atI_nat (j := 0) rfl, _, rfl, t, _, 1, _, rfl, rfl, SqT.of et, atI_nat (j := 1) rfl, _, _, .tup (SqT.of e1) (.cons (.int _) (.cons (.int _) .nil)), .tup (SqT.of e2) (.cons (.int _) (.cons (.int _) .nil)), rfl, rfl, _, rfl, ?_⟩
      rw [eqv_two]
      refine ite2 (fun e => ?_) (fun e => ?_)
      · rw [Bool.and_eq_true, beq_iff_eq, beq_iff_eq] at e
        refine ⟨_, rfl, t, _, 0, _, rfl, rfl, SqT.of et, atI_nat (j := 0) rfl, lo, _, _, rfl, e1, k.2.1.1, pb, la, lb, _, _, rfl, rfl, lineM (by rw [h3]; omega), ?_⟩
        have q : Q (.str (Str.ofString " " ++ stT sh)) H := q
        unfold stT at q
        rw [if_pos e] at q
        exact q
      · have e0 : ¬ (sh.a = sh.c ∧ sh.b = sh.d) := fun z => e (by rw [Bool.and_eq_true, beq_iff_eq, beq_iff_eq]; exact z)
        refine ⟨_, rfl, t, _, 0, _, rfl, rfl, SqT.of et, atI_nat (j := 0) rfl, lo, _, _, rfl, e1, k.2.1.1, pb, la, lb, _, _, rfl, rfl, lineM (by rw [h3]; omega), ?_⟩
        refine ⟨_, _, rfl, rfl, lineM (by rw [app_len, h3, to_len]; omega), ?_⟩
        refine ⟨_, rfl, t, _, 1, _, rfl, rfl, SqT.of et, atI_nat (j := 1) rfl, hi, _, _, rfl, e2, pc, pd, lc, ld, _, _, rfl, rfl, lineM (by rw [app_len, app_len, h3, to_len]; omega), ?_⟩
        have q : Q (.str (Str.ofString " " ++ stT sh)) H := q
        unfold stT at q
        rw [if_neg e0, ← app_assoc, ← app_assoc] at q
        exact q
/-! ### _law_part -/
abbrev sPr : Stmt := topS 47
theorem scPr : FnScope ["_law_places_here", "_law_found", "_law_name_here", "_law_told_here", "_law_inside", "_law_text"] ["_law_places_here"] (defScope sPr) := ⟨rfl, rfl, rfl, by decide +kernel, rfl, by decide +kernel, by decide +kernel⟩
theorem ok_prS {d k : Nat} {f fB : Addr} {fd fdB : FuncData} (F : Fun K "_law_part" "_law_part" sPr f fd) (bP : Binds K fd ["_law_places_here"] []) (gP : mg "_law_part" = some (.ref f)) (GP : FnOk P w K mg base CX0 k f fd ["_law_places_here"] (spLT d)) (hk : 2 ≤ k)
    (FB : Fun K "_law_behind" "_law_behind" sBh fB fdB) (bB : Binds K fdB ["_law_told_here"] []) (gB : mg "_law_behind" = some (.ref fB)) (GB : FnOk P w K mg base CX0 2 fB fdB ["_law_told_here"] spBh) : FnOk P w K mg base CX0 (k + 1) f fd ["_law_places_here"] (spLT (d + 1)) := by
  refine F.ok scPr (fun vs H Q E h => ?_) (fun cdv A outer s H vs Q E hr h => ?_)
  · obtain ⟨a, xs, fo, rfl, _⟩ := h
    rfl
  · obtain ⟨a, xs, fo, rfl, ea, rp, g1, ne, dp, ct, q⟩ := h
    refine ⟨_, pss_cons (ps_set (i := 1) scPr.nd rfl (.inl rfl) (pe_lst pa_nil))
      (pss_cons (ps_for PassesOwn.never rfl (pi_tup (pv 0)) (pg_tup (by rfl) (pgs_cons (pg_name (i := 2) scPr.nd rfl (.inl rfl)) (pgs_cons (pg_name (i := 3) scPr.nd rfl (.inl rfl)) (pgs_cons (pg_name (i := 4) scPr.nd rfl (.inl rfl)) pgs_nil))))
        (pss_cons (ps_set (i := 5) scPr.nd rfl (.inl rfl) (pe_op op_add_str (pv 2) (pe_call GB (hr.mono hk) (by rfl) gB FB.kp bB .nil pass0 (pa_cons (pv 3) pa_nil))))
        (C8.pss_cut (ps_if (pt_cmpR op_notN (pv 4) pe_non (nomark _)) (pss_one (ps_set (i := 5) scPr.nd rfl (.inl rfl) (pe_op op_add_str (pe_op op_add_str (pe_op op_add_str (pv 5) pe_str) (pe_call GP hr (by rfl) gP F.kp bP .nil pass0 (pa_cons (pv 4) pa_nil))) pe_str))) pss_nil)
        (pss_one (ps_expr (pe_bm PySem.F.plainAttrs_list PySem.F.slot_list_append PySem.F.type_list_append mt_append (pv 1) (pa_cons (pv 5) pa_nil)))))))
      (pss_one (ps_ret (pe_join pe_str (pv 1))))), ?_⟩
    have sum := itT_sum g1
    have lcnt := Fo.len_cnt fo
    have lxs := rp.len
    refine ⟨(by show 0 ≤ sizeLine; exact Nat.zero_le _), fun D nD => ?_⟩
    have sD := same_upd (o := .lst []) nD
    refine ⟨_, rfl, a, rfl, ⟨_, SqT.of (sD _ _ ea)⟩, ?_⟩
    refine for_it (walk_tup (K := K) (a := a) (xs := xs)) (fun n σ H1 => ∃ v2 v3 v4 v5, σ = [some (.ref a), some (.ref D), v2, v3, v4, v5] ∧ Same H H1 ∧ H1 D = some (.lst ((fo.items.take n).map fun t => V.str (plT t)))) ⟨none, none, none, none, rfl, sD, upd_same⟩ (fun n σ H1 _ h => ?_) ?_ ?_
    · obtain ⟨_, _, _, _, _, s1, _⟩ := h
      exact SqT.of (s1 _ _ ea)
    · rintro n x σ H1 H2 hn ⟨v2, v3, v4, v5, rfl, s1, e1⟩ ⟨rfl, hx⟩
      obtain ⟨t, ht, pl⟩ := rp.at hx
      obtain ⟨k1, k2⟩ := Fo.at_cnt ht
      obtain ⟨h1, h2, h3⟩ := g1.at ht
      obtain ⟨l1, l2, l3, l4⟩ := plT_len h1 h2 h3
      obtain ⟨p, tv, iv, rfl, ep, htd, hin⟩ := pl.mv (.of_same s1)
      refine ⟨p, _, rfl, SqT.of ep, rfl, _, _, rfl, _, _, rfl, _, _, rfl, rfl, ?_⟩
      have nl := (NmOk.len h1).2
      have tl1 := tdT_len h2
      refine ⟨_, rfl, _, rfl, tv, t.2.1, rfl, htd, h2, _, _, rfl, rfl, lineM (by omega), ?_⟩
      refine ⟨fun σ H3 => σ = [some (.ref a), some (.ref D), some (.str t.1), some tv, some iv, some (.str (plT t))] ∧ Same H H3 ∧ H3 D = some (.lst ((fo.items.take n).map fun t => V.str (plT t))), ?_, ?_⟩
      · rcases hin with ⟨ei, rfl⟩ | ⟨nei, qa, zs, rfl, eq, rpi⟩
        · refine ⟨_, rfl, rfl, _, rfl, iteF ⟨?_, s1, e1⟩⟩
          have : plT t = t.1 ++ tdT t.2.1 := by
            unfold plT inT
            rw [ei]
            show (t.1 ++ tdT t.2.1) ++ Str.ofString "" = _
            rw [app_nil]
          rw [this]
          rfl
        · refine ⟨_, rfl, rfl, _, rfl, iteT ?_⟩
          have hl := liT_len h3
          have c1 : (Str.ofString " (").length = 2 := by decide +kernel
          have c2 : (Str.ofString ")").length = 1 := by decide +kernel
          refine ⟨_, rfl, _, _, rfl, rfl, lineM (by rw [c1]; omega), _, rfl, qa, zs, t.2.2, rfl, eq, rpi, h3, nei, by omega, by omega, fun H3 s3 => ?_⟩
          refine ⟨_, _, rfl, rfl, lineM (by rw [app_len, c1]; omega), _, _, rfl, rfl, lineM (by rw [app_len, app_len, c1, c2]; omega), ?_, s1.trans s3, s3 _ _ e1⟩
          have : plT t = (((t.1 ++ tdT t.2.1) ++ Str.ofString " (") ++ liT t.2.2) ++ Str.ofString ")" := by
            unfold plT inT
            have ni : ¬ t.2.2.isNil = true := by
              cases ez : t.2.2 with
              | nil => exact absurd ez nei
              | cons a b c r => intro z; cases z
            rw [if_neg ni, ← app_assoc, ← app_assoc]
          rw [this]
          rfl
      · rintro σ H3 ⟨rfl, s3, e3⟩
        refine ⟨_, rfl, .inl ⟨rfl, _, SqL.of e3⟩, _, rfl, D, _, _, rfl, rfl, e3, ?_, _, _, _, _, rfl, same_app s3 nD (.refl _), ?_⟩
        · rw [List.length_map, List.length_take]
          exact Nat.lt_of_lt_of_le (show min n fo.items.length < 1000000 by omega) (by decide)
        · rw [upd_same, take_succ_map (fun t => V.str (plT t)) ht]
    · rintro σ H1 ⟨v2, v3, v4, v5, rfl, s1, e1⟩
      rw [lxs, List.take_of_length_le (Nat.le_refl _)] at e1
      have e : fo.items.map (fun t => V.str (plT t)) = (itT fo).map V.str := by
        rw [itT_items, List.map_map]
        rfl
      rw [e] at e1
      refine ⟨⟨_, rfl⟩, _, rfl, _, D, itT fo, rfl, rfl, .inl (SqL.of e1), ?_, q _ s1⟩
      rw [comma_len]
      omega
theorem ok_pr {f fB : Addr} {fd fdB : FuncData} (F : Fun K "_law_part" "_law_part" sPr f fd) (bP : Binds K fd ["_law_places_here"] []) (gP : mg "_law_part" = some (.ref f)) (FB : Fun K "_law_behind" "_law_behind" sBh fB fdB) (bB : Binds K fdB ["_law_told_here"] []) (gB : mg "_law_behind" = some (.ref fB)) (GB : FnOk P w K mg base CX0 2 fB fdB ["_law_told_here"] spBh) : ∀ d, FnOk P w K mg base CX0 (2 + d) f fd ["_law_places_here"] (spLT d)
  | 0 => by
    refine ⟨fun vs H Q E h => ?_, fun A outer s H args us vs Q E hr e0 hb r h => ?_⟩
    · obtain ⟨a, xs, fo, rfl, _⟩ := h
      rfl
    · obtain ⟨a, xs, fo, rfl, _, _, _, ne, dp, _⟩ := h
      exact absurd (Fo.nil_of_depth (Nat.le_zero.mp dp)) ne
  | d + 1 => ok_prS F bP gP (ok_pr F bP gP FB bB gB GB d) (Nat.le_add_right 2 _) FB bB gB GB
end
end G
set_option Elab.async false
set_option linter.all false
set_option maxRecDepth 100000
set_option maxHeartbeats 1000000
namespace G
open PySem PySem.Spec PyProof.Rows L2 TL
/-! ### the order of texts -/
theorem lt_irr : ∀ a : List Nat, ltCps a a = false
  | [] => rfl
  | x :: r => by
    show (decide (x < x) || (x == x && ltCps r r)) = false
    rw [lt_irr r, decide_eq_false (Nat.lt_irrefl x), Bool.and_false]
    rfl
theorem lt_tri : ∀ a b : List Nat, ltCps a b = false → ltCps b a = false → a = b
  | [], [], _, _ => rfl
  | [], _ :: _, h, _ => by cases h
  | _ :: _, [], _, h => by cases h
  | x :: r, y :: t, h1, h2 => by
    have h1 : (decide (x < y) || (x == y && ltCps r t)) = false := h1
    have h2 : (decide (y < x) || (y == x && ltCps t r)) = false := h2
    rw [Bool.or_eq_false_iff] at h1 h2
    have a1 : ¬ x < y := of_decide_eq_false h1.1
    have a2 : ¬ y < x := of_decide_eq_false h2.1
    obtain rfl : x = y := by omega
    have b1 := h1.2
    have b2 := h2.2
    rw [beq_self_eq_true, Bool.true_and] at b1 b2
    rw [lt_tri r t b1 b2]
theorem lt_trans' : ∀ a b c : List Nat, ltCps a b = true → ltCps b c = true → ltCps a c = true
  | [], [], _, h, _ => by cases h
  | [], _ :: _, [], _, h => by cases h
  | [], _ :: _, _ :: _, _, _ => rfl
  | _ :: _, [], _, h, _ => by cases h
  | _ :: _, _ :: _, [], _, h => by cases h
  | x :: r, y :: t, z :: u, h1, h2 => by
    have g1 : (decide (x < y) || (x == y && ltCps r t)) = true := h1
    have g2 : (decide (y < z) || (y == z && ltCps t u)) = true := h2
    show (decide (x < z) || (x == z && ltCps r u)) = true
    rw [Bool.or_eq_true, decide_eq_true_eq, Bool.and_eq_true, beq_iff_eq] at g1 g2 ⊢
    rcases g1 with g1 | ⟨e1, g1⟩
    · rcases g2 with g2 | ⟨e2, g2⟩
      · exact .inl (by omega)
      · exact .inl (by omega)
    · rcases g2 with g2 | ⟨e2, g2⟩
      · exact .inl (by omega)
      · exact .inr ⟨e1.trans e2, lt_trans' r t u g1 g2⟩
def LtS (x y : Str) : Prop := ltCps (tl x) (tl y) = true
theorem rise_lt : ∀ (r : List Str) (p : Str), risingS p r = true → (p :: r).Nodup → (p :: r).Pairwise LtS
  | [], p, _, _ => List.pairwise_singleton _ _
  | x :: r, p, h, nd => by
    have h : (!ltCps (tl x) (tl p) && risingS x r) = true := h
    rw [Bool.and_eq_true, Bool.not_eq_true'] at h
    obtain ⟨n1, n2⟩ := List.nodup_cons.mp nd
    have ih := rise_lt r x h.2 n2
    have px : LtS p x := by
      cases e : ltCps (tl p) (tl x) with
      | true => exact e
      | false => exact absurd (tl_inj (lt_tri _ _ e h.1)) (fun z => n1 (z ▸ .head _))
    refine List.pairwise_cons.mpr ⟨fun y hy => ?_, ih⟩
    rcases List.mem_cons.mp hy with rfl | hy
    · exact px
    · exact lt_trans' _ _ _ px ((List.pairwise_cons.mp ih).1 y hy)
theorem sorted_lt {l : List Str} (h : sortedS l = true) (nd : l.Nodup) : l.Pairwise LtS := by
  cases l with
  | nil => exact .nil
  | cons x r => exact rise_lt r x h nd
theorem sorted_eq : ∀ {l m : List Str}, l.Pairwise LtS → m.Pairwise LtS → (∀ k, k ∈ l ↔ k ∈ m) → l = m
  | [], [], _, _, _ => rfl
  | [], y :: m, _, _, h => by cases (h y).mpr (.head _)
  | x :: l, [], _, _, h => by cases (h x).mp (.head _)
  | x :: l, y :: m, h1, h2, h => by
    obtain ⟨a1, a2⟩ := List.pairwise_cons.mp h1
    obtain ⟨b1, b2⟩ := List.pairwise_cons.mp h2
    have irr : ∀ z : Str, ¬ LtS z z := fun z e => by
      have := lt_irr (tl z)
      rw [show ltCps (tl z) (tl z) = true from e] at this
      cases this
    have exy : x = y := by
      rcases List.mem_cons.mp ((h x).mp (.head _)) with e | e
      · exact e
      · rcases List.mem_cons.mp ((h y).mpr (.head _)) with e' | e'
        · exact e'.symm
        · exact absurd (lt_trans' _ _ _ (b1 x e) (a1 y e')) (irr y)
    subst exy
    rw [sorted_eq a2 b2 fun k => ⟨fun hk => ?_, fun hk => ?_⟩]
    · rcases List.mem_cons.mp ((h k).mp (.tail _ hk)) with e | e
      · rw [e] at hk
        exact absurd (a1 x hk) (irr x)
      · exact e
    · rcases List.mem_cons.mp ((h k).mpr (.tail _ hk)) with e | e
      · rw [e] at hk
        exact absurd (b1 x hk) (irr x)
      · exact e
theorem wsOf_eq {ws vs ys zs : List Str} (h1 : WsOf ws ys) (h2 : WsOf vs zs) (h : ∀ k, k ∈ ws ↔ k ∈ vs) : ys = zs := sorted_eq (sorted_lt h1.1 h1.2.1) (sorted_lt h2.1 h2.2.1) fun k => (h1.2.2.1 k).trans ((h k).trans (h2.2.2.1 k).symm)
/-! ### lists of texts as data -/
theorem dp_strs {K : PySem.W.Frag} {H : Hp} : ∀ ws : List Str, DpAll K H (ws.map V.str) (ws.map PyData.str)
  | [] => .nil
  | y :: r => .cons (.str y) (dp_strs r)
theorem eqv_nil (ws : List Str) : PyData.eqv (.list (ws.map PyData.str)) (.list []) = decide (ws.length = 0) := by
  cases ws with
  | nil => simp [PyData.eqv, PyData.eqvAll]
  | cons y r => simp [PyData.eqv, PyData.eqvAll]
theorem strOk_nm {z : Str} (h : NmOk z) : PyData.strOk z = true := by
  have h : (decide (1 ≤ z.length) && decide (z.length ≤ 8) && z.cps.toList.all okC) = true := h
  rw [Bool.and_eq_true] at h
  unfold PyData.strOk
  rw [← Array.all_toList, List.all_eq_true]
  intro c hc
  have := List.all_eq_true.mp h.2 c hc
  unfold okC at this
  rw [Bool.and_eq_true, decide_eq_true_eq, decide_eq_true_eq] at this
  exact decide_eq_true (by omega)
theorem shaped_strs {ws : List Str} (h : ∀ y ∈ ws, NmOk y) : SeqAt.shaped (.list (ws.map PyData.str)) = true := by
  have a : ∀ l : List Str, (∀ y ∈ l, NmOk y) → PyData.canLayAll0 (l.map PyData.str) = true ∧ PyData.depthAll (l.map PyData.str) ≤ 1 := by
    intro l
    induction l with
    | nil => intro _; exact ⟨by simp [PyData.canLayAll0], by simp [PyData.depthAll]⟩
    | cons y r ih =>
      intro hl
      obtain ⟨i1, i2⟩ := ih fun z hz => hl z (.tail _ hz)
      refine ⟨?_, ?_⟩
      · rw [List.map_cons]
        simp only [PyData.canLayAll0, PyData.canLay0, strOk_nm (hl y (.head _)), i1, Bool.and_self]
      · rw [List.map_cons]
        simp only [PyData.depthAll, PyData.depth]
        omega
  obtain ⟨a1, a2⟩ := a ws h
  show (PyData.canLay0 (.list (ws.map PyData.str)) && decide (PyData.depth (.list (ws.map PyData.str)) ≤ 64)) = true
  rw [Bool.and_eq_true, decide_eq_true_eq]
  refine ⟨by simpa [PyData.canLay0] using a1, ?_⟩
  simp only [PyData.depth]
  omega
section
variable {P : Program} {w : World} {K : PySem.W.Frag} {mg : Str → Option Value} {base : Heap}
/-! ### _law_row -/
abbrev sRw : Stmt := topS 48
theorem scRw : FnScope ["_law_places_here", "_law_words_here"] ["_law_places_here", "_law_words_here"] (defScope sRw) := ⟨rfl, rfl, rfl, by decide +kernel, rfl, by decide +kernel, by decide +kernel⟩
def spRw : Sp := fun vs H Q _ => ∃ (a b : Addr) (fo : Fo) (ws : List Str), vs = [.ref a, .ref b] ∧ Good H a fo ∧ H b = some (.lst (ws.map V.str)) ∧ (∀ y ∈ ws, NmOk y) ∧ ws.Nodup ∧ ws.length < 60 ∧ ∀ H' zs, Same H H' → WsOf ws zs → Q (.str (roT fo zs)) H'
theorem ok_rw {k : Nat} {f fP : Addr} {fd fdP : FuncData} (F : Fun K "_law_row" "_law_row" sRw f fd) (FP : Fun K "_law_part" "_law_part" sPr fP fdP) (bP : Binds K fdP ["_law_places_here"] []) (gP : mg "_law_part" = some (.ref fP)) (GP : FnOk P w K mg base CX0 k fP fdP ["_law_places_here"] (spLT 4)) (mS : mg "sorted" = none) : FnOk P w K mg base CX0 (k + 1) f fd ["_law_places_here", "_law_words_here"] spRw := by
  refine F.ok scRw (fun vs H Q E h => ?_) (fun cdv A outer s H vs Q E hr h => ?_)
  · obtain ⟨a, b, fo, ws, rfl, _⟩ := h
    rfl
  · obtain ⟨a, b, fo, ws, rfl, ⟨⟨xs, ea, rp⟩, g1, ne, dp, ct, un⟩, eb, w1, w2, w3, q⟩ := h
    refine ⟨_, pss_cons (ps_if (pt_cmpR (op_eqD hr.units) (pv 1) (pe_lst pa_nil) (nomark _)) (pss_one (ps_ret (pe_call GP hr (by rfl) gP FP.kp bP .nil pass0 (pa_cons (pv 0) pa_nil)))) pss_nil)
      (pss_one (ps_ret (pe_op op_add_str (pe_op op_add_str (pe_call GP hr (by rfl) gP FP.kp bP .nil pass0 (pa_cons (pv 0) pa_nil)) pe_str) (pe_join pe_str (pe_callB cr_sortedS (by rfl) mS (by decide +kernel) (pa_cons (pv 1) pa_nil)))))), ?_⟩
    refine ⟨_, rfl, (by show 0 ≤ sizeLine; exact Nat.zero_le _), fun l nl => ?_⟩
    have sl := same_upd (o := .lst []) nl
    have hl := liT_len g1
    refine ⟨_, _, .lst (SqL.of (sl _ _ eb)) (dp_strs ws), .lst (SqL.of upd_same) .nil, shaped_strs w1, rfl, _, rfl, ?_⟩
    rw [eqv_nil]
    refine ite2 (fun e => ?_) (fun e => ?_)
    · have e0 : ws.length = 0 := of_decide_eq_true e
      obtain rfl : ws = [] := List.length_eq_zero_iff.mp e0
      refine ⟨_, rfl, a, xs, fo, rfl, sl _ _ ea, rp.mv (.of_same sl), g1, ne, dp, by omega, fun H1 t1 => ?_⟩
      have q := q H1 [] (sl.trans t1) ⟨rfl, List.nodup_nil, fun k => Iff.rfl, Nat.le_refl _⟩
      exact q
    · have e0 : ¬ ws.length = 0 := fun z => e (decide_eq_true z)
      refine ⟨_, rfl, a, xs, fo, rfl, sl _ _ ea, rp.mv (.of_same sl), g1, ne, dp, by omega, fun H1 t1 => ?_⟩
      refine ⟨_, _, rfl, rfl, lineM (by rw [hold_len]; omega), ⟨_, rfl⟩, _, rfl, b, ws, rfl, SqL.of (t1 _ _ (sl _ _ eb)), by omega, fun zs l2 pm so nl2 => ?_⟩
      have zl := pm.length_eq
      have z8 : ∀ y ∈ zs, y.length ≤ 8 := fun y hy => ((w1 y (pm.mem_iff.mp hy)).len).2
      have h2 := ws_sum z8
      have h4 := ws_join (ws := zs) ⟨z8, by omega⟩
      refine ⟨_, l2, zs, rfl, rfl, .inl (SqL.of upd_same), (by rw [comma_len]; omega), ?_⟩
      refine ⟨_, _, rfl, rfl, lineM (by rw [app_len, hold_len]; omega), ?_⟩
      have q := q _ zs ((sl.trans t1).trans (same_upd (o := .lst (zs.map V.str)) nl2)) ⟨so, pm.nodup_iff.mpr w2, fun k => pm.mem_iff, Nat.le_of_eq zl⟩
      unfold roT at q
      rw [if_neg (by rw [zl]; exact e0)] at q
      exact q
/-! ### _law_right -/
abbrev sRi : Stmt := topS 49
theorem scRi : FnScope ["_law_label", "_law_row_here", "_law_turn"] ["_law_label", "_law_row_here"] (defScope sRi) := ⟨rfl, rfl, rfl, by decide +kernel, rfl, by decide +kernel, by decide +kernel⟩
def spRi (C : Addr) : Sp := fun vs H Q _ => ∃ (x : Addr) (fo : Fo) (ys : List Str), vs = [.ref x, .str (roT fo ys)] ∧ LabAt C H x fo ys ∧ ∀ H', Same H H' → Q (.bl true) H'
theorem ok_ri {k : Nat} {f C fS fR fM fP : Addr} {fd fdS fdR fdM fdP : FuncData} (F : Fun K "_law_right" "_law_right" sRi f fd) (T : LTxt K C) (FS : Fun K "__str__" "Label.__str__" sSr fS fdS) (bS : Binds K fdS ["self"] []) (iS : Meth K C "__str__" fS) (GS : FnOk P w K mg base CX0 k fS fdS ["self"] (spSr C fun z => z))
    (FR : Fun K "__repr__" "Label.__repr__" sRp fR fdR) (bR : Binds K fdR ["self"] []) (iR : Meth K C "__repr__" fR) (GR : FnOk P w K mg base CX0 k fR fdR ["self"] (spSr C rpT)) (FM : Fun K "may" "Label.may" sMy fM fdM) (bM : Binds K fdM ["self"] []) (iM : Meth K C "may" fM) (FP : Fun K "paths" "Label.paths" sPa fP fdP) (bP : Binds K fdP ["self"] []) (iP : Meth K C "paths" fP)
    (mS : mg "str" = none) (mR : mg "repr" = none) (mRg : mg "range" = none) (mLi : mg "list" = none) : FnOk P w K mg base CX0 (k + 3) f fd ["_law_label", "_law_row_here"] (spRi C) := by
  have GM : FnOk P w K mg base CX0 1 fM fdM ["self"] (spMy C) := ok_my FM T mLi
  have GP : FnOk P w K mg base CX0 1 fP fdP ["self"] (spPa C) := ok_pa FP T mLi
  refine F.ok scRi (fun vs H Q E h => ?_) (fun cdv A outer s H vs Q E hr h => ?_)
  · obtain ⟨x, fo, ys, rfl, _⟩ := h
    rfl
  · obtain ⟨x, fo, ys, rfl, lb, q⟩ := h
    have hr1 := hr.mono (show 1 ≤ k + 2 by omega)
    refine ⟨_, pss_cons (ps_for PassesOwn.never rfl (pi_range1 (by rfl) mRg (pa_cons pe_int pa_nil)) (pg_name (i := 2) scRi.nd rfl (.inl rfl))
        (pss_cons (ps_if (PW.pt (pw_or (pt_cmpR op_ne (pe_callTy (cr_strOwn iS.at_ iS.fn GS bS hr) (by rfl) mS (by decide +kernel) (pa_cons (pv 0) pa_nil)) (pv 1) (nomark _)) (pw_or1 (pt_cmpR op_ne (pe_callB (cr_reprOwn iR.at_ iR.fn GR bR (hr.mono (by omega))) (by rfl) mR (by decide +kernel) (pa_cons (pv 0) pa_nil)) (pe_op op_add_str (pe_op op_add_str pe_str (pv 1)) pe_str) (nomark _))))) (pss_one ps_never) pss_nil)
        (pss_cons (ps_expr (pe_bm PySem.F.plainAttrs_list PySem.F.slot_list_append PySem.F.type_list_append mt_append (pe_meth0 (pv 0) T.cl iM GM hr1 bM .nil pass0) (pa_cons pe_str pa_nil)))
        (pss_one (ps_expr (pe_bm PySem.F.plainAttrs_list PySem.F.slot_list_append PySem.F.type_list_append mt_append (pe_meth0 (pv 0) T.cl iP GP hr1 bP .nil pass0) (pa_cons (pe_tup (pa_cons pe_int pa_nil)) pa_nil)))))))
      (pss_one (ps_ret pe_bl)), ?_⟩
    refine ⟨2, rfl, by decide, by decide, for_range (n := 2) (fun n σ H1 => ∃ v2, σ = [some (.ref x), some (.str (roT fo ys)), v2] ∧ Same H H1) ⟨none, rfl, .refl _⟩ ?_ ?_⟩
    · rintro n σ H1 hn ⟨v2, rfl, s1⟩
      have l1 := lb.same s1
      obtain ⟨⟨dx, a, wa, D, kvs, e1, gd, e3, e4, e5⟩, wk⟩ := l1
      have rl := roT_len gd.gd wk
      have ct := gd.ct
      refine ⟨_, rfl, x, dx, _, rfl, e1, x, fo, ys, rfl, lb.same s1, fun H2 s2 => ⟨_, rfl, ?_⟩⟩
      refine ⟨_, rfl, rfl, _, rfl, ifF (by rw [decide_eq_true rfl]; rfl) ?_⟩
      have s12 := s1.trans s2
      refine ⟨_, rfl, x, dx, _, rfl, s2 _ _ e1, x, fo, ys, rfl, lb.same s12, fun H3 s3 => ⟨_, rfl, ?_⟩⟩
      have l6 : (Str.ofString "Label(").length = 6 := by decide +kernel
      have l7 : (Str.ofString ")").length = 1 := by decide +kernel
      refine ⟨_, rfl, _, _, rfl, rfl, lineM (by rw [l6]; omega), _, _, rfl, rfl, lineM (by rw [app_len, l6, l7]; omega), rfl, _, rfl, ifF ?_ ?_⟩
      · show (!decide (V.str (rpT (roT fo ys)) = V.str (rpT (roT fo ys)))) = false
        rw [decide_eq_true rfl]
        rfl
      have s13 := s12.trans s3
      obtain ⟨⟨dx3, a3, wa3, D3, kvs3, f1, f2, f3, f4, f5⟩, wk3⟩ := lb.same s13
      refine ⟨_, rfl, x, dx3, _, rfl, f1, lbF_no _ _ _ (by decide +kernel) (by decide +kernel) (by decide +kernel), x, fo, ys, rfl, lb.same s13, fun l nl => ?_⟩
      have sl := same_upd (o := .lst (ys.map V.str)) nl
      refine ⟨.inl ⟨rfl, _, SqL.of upd_same⟩, l, _, _, rfl, rfl, upd_same, ?_, ?_⟩
      · rw [List.length_map]
        exact Nat.lt_of_lt_of_le (show ys.length < 1000000 by have := wk3.2; omega) (by decide)
      have nHl : H l = none := by
        cases e : H l with
        | none => rfl
        | some o => rw [s13 _ _ e] at nl; cases nl
      have s14 : Same H (upd (upd H3 l (.lst (ys.map V.str))) l (.lst (ys.map V.str ++ [V.str "zz"]))) := same_app (s13.trans sl) nHl (.refl _)
      obtain ⟨⟨dx4, a4, wa4, D4, kvs4, g1, g2, g3, g4, g5⟩, wk4⟩ := lb.same s14
      refine ⟨_, rfl, x, dx4, _, rfl, g1, lbF_no _ _ _ (by decide +kernel) (by decide +kernel) (by decide +kernel), x, fo, ys, rfl, lb.same s14, fun m bs nm hbs => ?_⟩
      have sm := same_upd (o := .lst bs) nm
      refine ⟨.inl ⟨rfl, _, SqL.of upd_same⟩, (by show 1 ≤ sizeLine; decide), fun t nt => ?_⟩
      have st := same_upd (o := .tup [V.int 99]) nt
      refine ⟨m, _, _, rfl, rfl, st _ _ upd_same, ?_, ?_⟩
      · exact Nat.lt_of_lt_of_le (show bs.length < 1000000 by omega) (by decide)
      have nHm : H m = none := by
        cases e : H m with
        | none => rfl
        | some o => rw [s14 _ _ e] at nm; cases nm
      exact ⟨_, rfl, same_app ((s14.trans sm).trans st) nHm (.refl _)⟩
    · rintro σ H1 ⟨v2, rfl, s1⟩
      exact q _ s1
end
end G
set_option Elab.async false
set_option linter.all false
set_option maxRecDepth 100000
set_option maxHeartbeats 1000000
namespace G
open PySem PySem.Spec PyProof.Rows L2 TL
/-- all but lists stands -/
def NL (H H' : Hp) : Prop := ∀ a o, H a = some o → (∀ zs, o ≠ .lst zs) → H' a = some o
theorem NL.of_same {H H' : Hp} (s : Same H H') : NL H H' := fun a o e _ => s a o e
theorem NL.trans {H H1 H2 : Hp} (a : NL H H1) (b : NL H1 H2) : NL H H2 := fun x o e n => b x o (a x o e n) n
theorem NL.tups {H H' : Hp} (n : NL H H') : Tups H H' := fun a xs e => n a _ e (fun zs z => by cases z)
theorem NL.of_pot {p : Addr} {H H' : Hp} (k : Keep p H H') (h : Pot H p) : NL H H' := fun a o e n => by
  have : a ≠ p := fun z => by
    obtain ⟨x, y, e2, _⟩ := h
    rw [z, e2] at e
    exact n _ (Option.some.inj e).symm
  exact k a o this e
theorem NL.upd {H : Hp} {b : Addr} {zs : List V} {o : HO} (e : H b = some (.lst zs)) : NL H (L2.upd H b o) := fun a u ea n => by
  have : a ≠ b := fun z => by
    rw [z, e] at ea
    exact n _ (Option.some.inj ea).symm
  rw [upd_ne this]
  exact ea
theorem LabAt.nl {C : Addr} {H H' : Hp} {x : Addr} {fo : Fo} {ys : List Str} (h : LabAt C H x fo ys) (s : NL H H') : LabAt C H' x fo ys := by
  obtain ⟨⟨dx, a, wa, D, kvs, e1, e2, e3, e4, e5⟩, o⟩ := h
  exact ⟨⟨dx, a, wa, D, kvs, s _ _ e1 (fun zs z => by cases z), e2.mv s.tups, s.tups _ _ e3, s _ _ e4 (fun zs z => by cases z), e5⟩, o⟩
/-- what went before -/
def Eld (C : Addr) (H : Hp) (v : V) : Prop := v = .non ∨ ∃ (el x : Addr) (fo : Fo) (ys : List Str), v = .ref el ∧ H el = some (.tup [.ref x, .str (roT fo ys)]) ∧ LabAt C H x fo ys
theorem Eld.nl {C : Addr} {H H' : Hp} {v : V} (h : Eld C H v) (s : NL H H') : Eld C H' v := by
  rcases h with h | ⟨el, x, fo, ys, e, e1, e2⟩
  · exact .inl h
  · exact .inr ⟨el, x, fo, ys, e, s.tups _ _ e1, e2.nl s⟩
theorem cut_strs (ws : List Str) (lo hi : Option Int) : ∃ vs : List Str, cutV (ws.map V.str) lo hi = vs.map V.str ∧ (∀ y ∈ vs, y ∈ ws) ∧ vs.length ≤ ws.length := by
  unfold cutV
  rw [← List.map_drop, ← List.map_take]
  refine ⟨_, rfl, fun y hy => List.mem_of_mem_drop (List.mem_of_mem_take hy), ?_⟩
  rw [List.length_take, List.length_drop]
  omega
theorem cut_ints (ns : List Int) (lo hi : Option Int) : ∃ ms : List Int, cutV (ns.map V.int) lo hi = ms.map V.int ∧ ms.length ≤ ns.length := by
  unfold cutV
  rw [← List.map_drop, ← List.map_take]
  refine ⟨_, rfl, ?_⟩
  rw [List.length_take, List.length_drop]
  omega
section
variable {P : Program} {w : World} {K : PySem.W.Frag} {mg : Str → Option Value} {base : Heap}
abbrev sLaw : Stmt := topS 50
theorem scLaw : FnScope ["_law_script", "_law_elder", "_law_number_here", "_law_pot_here", "_law_places_here", "_law_words_here", "_law_handed", "_law_label", "_law_row_here"] ["_law_script"] (defScope sLaw) := ⟨rfl, rfl, rfl, by decide +kernel, rfl, by decide +kernel, by decide +kernel⟩
def spLaw (K : PySem.W.Frag) : Sp := fun vs H Q _ => ∃ (a : Addr) (ns : List Int), vs = [.ref a] ∧ SqL K H a (ns.map V.int) ∧ ns.length ≤ 63 ∧ ∀ H', Q (.bl true) H'
theorem ok_law {f C fC fP fPl fW fD fR fRi fI : Addr} {fd fdC fdP fdPl fdW fdD fdR fdRi fdI : FuncData} {d1 : List Value} (F : Fun K "law" "law" sLaw f fd) (FC : Fun K "_law_cell" "_law_cell" sCe fC fdC) (bC : Binds K fdC ["_law_script", "_law_k"] []) (gC : mg "_law_cell" = some (.ref fC)) (GC : FnOk P w K mg base CX0 1 fC fdC ["_law_script", "_law_k"] (spCe K))
    (FP : Fun K "_law_pot" "_law_pot" sPo fP fdP) (bP : Binds K fdP ["_law_cell_here"] []) (gP : mg "_law_pot" = some (.ref fP)) (GP : FnOk P w K mg base CX0 1 fP fdP ["_law_cell_here"] spPo)
    (FPl : Fun K "_law_places" "_law_places" sPl fPl fdPl) (bPl : Binds K fdPl ["_law_pot_here", "_law_room", "_law_around"] []) (gPl : mg "_law_places" = some (.ref fPl)) (GPl : FnOk P w K mg base CX0 8 fPl fdPl ["_law_pot_here", "_law_room", "_law_around"] (spPl 4))
    (FW : Fun K "_law_words" "_law_words" sWo fW fdW) (bW : Binds K fdW ["_law_pot_here"] []) (gW : mg "_law_words" = some (.ref fW)) (GW : FnOk P w K mg base CX0 3 fW fdW ["_law_pot_here"] spWo) (FD : Fun K "_law_draw" "_law_draw" sDw fD fdD) (bD : Binds K fdD ["_law_pot_here", "_law_many_here"] []) (gD : mg "_law_draw" = some (.ref fD)) (GD : FnOk P w K mg base CX0 1 fD fdD ["_law_pot_here", "_law_many_here"] spDw)
    (FR : Fun K "_law_row" "_law_row" sRw fR fdR) (bR : Binds K fdR ["_law_places_here", "_law_words_here"] []) (gR : mg "_law_row" = some (.ref fR)) (GR : FnOk P w K mg base CX0 7 fR fdR ["_law_places_here", "_law_words_here"] spRw) (FRi : Fun K "_law_right" "_law_right" sRi fRi fdRi) (bRi : Binds K fdRi ["_law_label", "_law_row_here"] []) (gRi : mg "_law_right" = some (.ref fRi)) (GRi : FnOk P w K mg base CX0 17 fRi fdRi ["_law_label", "_law_row_here"] (spRi C))
    (M : Mk K C fI) (gL : mg "Label" = some (.ref C)) (GI : FnOk P w K mg base CX0 10 fI fdI ["self", "places", "may"] (spIn C)) (bI3 : Binds K fdI ["self", "places", "may"] []) (bI2 : Binds K fdI ["self", "places", "may"] d1) (hd1 : Vals [.non] d1)
    (mLi : mg "list" = none) (mT : mg "tuple" = none) (mI : mg "isinstance" = none) : FnOk P w K mg base CX0 18 f fd ["_law_script"] (spLaw K) := by
  refine F.ok scLaw (fun vs H Q E h => ?_) (fun cdv A outer s H vs Q E hr h => ?_)
  · obtain ⟨a, ns, rfl, _⟩ := h
    rfl
  · obtain ⟨a, ns, rfl, hS, hlen, q⟩ := h
    have hr1 := hr.mono (show 1 ≤ 17 by decide)
    have hr3 := hr.mono (show 3 ≤ 17 by decide)
    have hr7 := hr.mono (show 7 ≤ 17 by decide)
    have hr8 := hr.mono (show 8 ≤ 17 by decide)
    have hr11 := hr.mono (show 11 ≤ 17 by decide)
    refine ⟨_, pss_cons (ps_set (i := 1) scLaw.nd rfl (.inl rfl) pe_non)
      (pss_cons (ps_for PassesOwn.never rfl (pi_list (pe_op op_cat (pe_lst (pa_cons (pe_call GC hr1 (by rfl) gC FC.kp bC .nil pass0 (pa_cons (pv 0) (pa_cons pe_int pa_nil))) pa_nil)) (pe_slice sl_list (pv 0) (po_some pe_int) (po_some pe_int)))) (pg_name (i := 2) scLaw.nd rfl (.inl rfl))
        (pss_cons (ps_set (i := 3) scLaw.nd rfl (.inl rfl) (pe_call GP hr1 (by rfl) gP FP.kp bP .nil pass0 (pa_cons (pv 2) pa_nil)))
        (pss_cons (ps_set (i := 4) scLaw.nd rfl (.inl rfl) (pe_call GPl hr8 (by rfl) gPl FPl.kp bPl .nil pass0 (pa_cons (pv 3) (pa_cons pe_int (pa_cons (pe_lst pa_nil) pa_nil)))))
        (pss_cons (ps_set (i := 5) scLaw.nd rfl (.inl rfl) (pe_call GW hr3 (by rfl) gW FW.kp bW .nil pass0 (pa_cons (pv 3) pa_nil)))
        (C8.pss_cut (ps_set (i := 6) scLaw.nd rfl (.inl rfl) (pe_ix ix_list (pe_lst (pa_cons (pe_callTy call_list_of (by rfl) mLi (by decide +kernel) (pa_cons (pv 5) pa_nil)) (pa_cons (pe_callTy call_tuple_of (by rfl) mT (by decide +kernel) (pa_cons (pv 5) pa_nil)) (pa_cons (pe_op op_cat (pv 5) (pe_slice sl_list (pv 5) po_none (po_some pe_int))) pa_nil)))) (pe_call GD hr1 (by rfl) gD FD.kp bD .nil pass0 (pa_cons (pv 3) (pa_cons pe_int pa_nil))) (fun _ _ => rfl)))
        (C8.pss_cut (ps_set (i := 7) scLaw.nd rfl (.inl rfl) (pe_ifExp (pt_cmpR (op_neD hr.units) (pv 5) (pe_lst pa_nil) (nomark _)) (pe_make M GI hr11 (by rfl) gL bI3 .nil pass0 (pa_cons (pv 4) (pa_cons (pv 6) pa_nil))) (pe_make M GI hr11 (by rfl) gL bI2 hd1 pass0 (pa_cons (pv 4) pa_nil))))
        (pss_cons (ps_set (i := 8) scLaw.nd rfl (.inl rfl) (pe_call GR hr7 (by rfl) gR FR.kp bR .nil pass0 (pa_cons (pv 4) (pa_cons (pv 5) pa_nil))))
        (pss_cons (ps_if (pt_not (pt_val (pe_call GRi hr (by rfl) gRi FRi.kp bRi .nil pass0 (pa_cons (pv 7) (pa_cons (pv 8) pa_nil))))) (pss_one ps_never) pss_nil)
        (C8.pss_cut (ps_if (pt_val (pe_callB call_isi (by rfl) mI (by decide +kernel) (pa_cons (pv 6) (pa_cons (pe_bltn (v := .ty "list") (by rfl) mLi (by decide +kernel) rfl) pa_nil)))) (pss_one (ps_expr (pe_bm PySem.F.plainAttrs_list PySem.F.slot_list_append PySem.F.type_list_append mt_append (pv 6) (pa_cons pe_str pa_nil)))) pss_nil)
        (C8.pss_cut (ps_if (PW.pt (pw_or (pt_not (pt_val (pe_call GRi hr (by rfl) gRi FRi.kp bRi .nil pass0 (pa_cons (pv 7) (pa_cons (pv 8) pa_nil))))) (pw_or1 (PW.pt (pw_and (pt_cmpR op_notN (pv 1) pe_non (nomark _)) (pw_and1 (pt_not (pt_val (pe_call GRi hr (by rfl) gRi FRi.kp bRi .nil pass0 (pa_cons (pe_ix ix_tup (pv 1) pe_int (fun _ _ => rfl)) (pa_cons (pe_ix ix_tup (pv 1) pe_int (fun _ _ => rfl)) pa_nil))))))))))) (pss_one ps_never) pss_nil)
        (pss_one (ps_set (i := 1) scLaw.nd rfl (.inl rfl) (pe_tup (pa_cons (pv 7) (pa_cons (pv 8) pa_nil)))))))))))))))
      (pss_one (ps_ret pe_bl))), ?_⟩
    refine ⟨_, rfl, a, ns, 0, rfl, hS, fun c0 => ?_⟩
    refine ⟨(by show 1 ≤ sizeLine; decide), fun l1 n1 => ?_⟩
    have s1 := same_upd (o := .lst [V.int c0]) n1
    refine ⟨_, rfl, 1, rfl, 6, rfl, a, _, rfl, s1.seq hS, fun l2 n2 => ?_⟩
    obtain ⟨ms, ems, lms⟩ := cut_ints ns (some 1) (some 6)
    rw [ems]
    have s2 := same_upd (o := .lst (ms.map V.int)) n2
    refine ⟨l1, l2, [V.int c0], ms.map V.int, rfl, rfl, s2 _ _ upd_same, upd_same, lineM (by rw [List.length_map]; show 1 + ms.length ≤ _; omega), fun L nL => ?_⟩
    have sL := same_upd (o := .lst ([V.int c0] ++ ms.map V.int)) nL
    refine ⟨L, rfl, ⟨_, SqL.of upd_same⟩, ?_⟩
    have e0 : ([V.int c0] ++ ms.map V.int) = (c0 :: ms).map V.int := rfl
    refine for_it (walk_list (K := K) (a := L) (xs := (c0 :: ms).map V.int)) (fun n σ H1 => ∃ v1 v2 v3 v4 v5 v6 v7 v8, σ = [some (.ref a), some v1, v2, v3, v4, v5, v6, v7, v8] ∧ Eld C H1 v1 ∧ H1 L = some (.lst ((c0 :: ms).map V.int))) ⟨.non, none, none, none, none, none, none, none, rfl, .inl rfl, upd_same⟩ (fun n σ H1 _ h => ?_) ?_ ?_
    · obtain ⟨_, _, _, _, _, _, _, _, _, _, h⟩ := h
      exact SqL.of h
    · rintro n x σ Hq H1 hn ⟨v1, v2, v3, v4, v5, v6, v7, v8, rfl, hE, eL⟩ ⟨rfl, hx⟩
      obtain ⟨c, rfl⟩ : ∃ c, x = .int c := by
        rw [List.getElem?_map] at hx
        cases e : (c0 :: ms)[n]? with
        | none => rw [e] at hx; cases hx
        | some z => rw [e] at hx; exact ⟨z, (Option.some.inj hx).symm⟩
      refine ⟨_, rfl, c, rfl, fun H2 p t2 np p2 => ?_⟩
      -- places
      refine ⟨_, rfl, (by show 0 ≤ sizeLine; exact Nat.zero_le _), fun A0 nA => ?_⟩
      have sA := same_upd (o := .lst []) nA
      refine ⟨p, A0, 12, [], rfl, p2.same sA, upd_same, p2.ne nA, by decide, by decide, rfl, by decide, fun H3 pa xs fo k3 p3 ea rp g1 ne dp ct un => ?_⟩
      have gd3 : Good H3 pa fo := ⟨⟨xs, ea, rp⟩, g1, ne, dp, by omega, un⟩
      have t3 : Same H1 H3 := same_keep_new (t2.trans sA) np k3
      -- words
      refine ⟨_, rfl, p, rfl, p3, fun H4 wl ws k4 p4 nw ew w1 w2 w3 => ?_⟩
      have t4 : Same H1 H4 := same_keep_new t3 np k4
      have gd4 := gd3.mv (.of_pot k4 p3)
      -- handed
      refine ⟨fun σ H5 => ∃ (b : Addr) (hs : List Str), σ = [some (.ref a), some v1, some (.int c), some (.ref p), some (.ref pa), some (.ref wl), some (.ref b), v7, v8] ∧ Same H1 H5 ∧ NL H4 H5 ∧ H5 wl = some (.lst (ws.map V.str)) ∧ wl ≠ b ∧ H1 b = none ∧ (H5 b = some (.lst (hs.map V.str)) ∨ H5 b = some (.tup (hs.map V.str))) ∧ (∀ y, y ∈ hs ↔ y ∈ ws) ∧ hs.length ≤ 40, ?_, ?_⟩
      · refine ⟨_, rfl, wl, _, rfl, .inl (SqL.of ew), fun b1 nb1 => ?_⟩
        have u1 := same_upd (o := .lst (ws.map V.str)) nb1
        refine ⟨_, rfl, wl, _, rfl, .inl ⟨SqL.of (u1 _ _ ew), fun b2 nb2 => ?_⟩⟩
        have u2 := u1.trans (same_upd (o := .tup (ws.map V.str)) nb2)
        obtain ⟨us, eu, hu1, hu2⟩ := cut_strs ws none (some 1)
        refine ⟨_, rfl, _, rfl, 1, rfl, wl, _, rfl, SqL.of (u2 _ _ ew), fun sc nsc => ?_⟩
        rw [eu]
        have u3 := u2.trans (same_upd (o := .lst (us.map V.str)) nsc)
        refine ⟨wl, sc, _, _, rfl, rfl, u3 _ _ ew, upd_same, lineM (by rw [List.length_map, List.length_map]; omega), fun b3 nb3 => ?_⟩
        have u4 := u3.trans (same_upd (o := .lst (ws.map V.str ++ us.map V.str)) nb3)
        refine ⟨(by show 3 ≤ sizeLine; decide), fun dl ndl => ?_⟩
        have u5 := u4.trans (same_upd (o := .lst [V.ref b1, .ref b2, .ref b3]) ndl)
        have f1 : (upd (upd (upd (upd (upd H4 b1 (.lst (ws.map V.str))) b2 (.tup (ws.map V.str))) sc (.lst (us.map V.str))) b3 (.lst (ws.map V.str ++ us.map V.str))) dl (.lst [V.ref b1, .ref b2, .ref b3])) b1 = some (.lst (ws.map V.str)) := (same_upd ndl) _ _ ((same_upd nb3) _ _ ((same_upd nsc) _ _ ((same_upd nb2) _ _ upd_same)))
        have f2 : (upd (upd (upd (upd (upd H4 b1 (.lst (ws.map V.str))) b2 (.tup (ws.map V.str))) sc (.lst (us.map V.str))) b3 (.lst (ws.map V.str ++ us.map V.str))) dl (.lst [V.ref b1, .ref b2, .ref b3])) b2 = some (.tup (ws.map V.str)) := (same_upd ndl) _ _ ((same_upd nb3) _ _ ((same_upd nsc) _ _ upd_same))
        have f3 : (upd (upd (upd (upd (upd H4 b1 (.lst (ws.map V.str))) b2 (.tup (ws.map V.str))) sc (.lst (us.map V.str))) b3 (.lst (ws.map V.str ++ us.map V.str))) dl (.lst [V.ref b1, .ref b2, .ref b3])) b3 = some (.lst (ws.map V.str ++ us.map V.str)) := (same_upd ndl) _ _ upd_same
        have f4 : (upd (upd (upd (upd (upd H4 b1 (.lst (ws.map V.str))) b2 (.tup (ws.map V.str))) sc (.lst (us.map V.str))) b3 (.lst (ws.map V.str ++ us.map V.str))) dl (.lst [V.ref b1, .ref b2, .ref b3])) dl = some (.lst [V.ref b1, .ref b2, .ref b3]) := upd_same
        have q1 : p ≠ b1 := p4.ne nb1
        have q2 : p ≠ b2 := (p4.same u1).ne nb2
        have q3 : p ≠ b3 := (p4.same u3).ne nb3
        have qd : p ≠ dl := (p4.same u4).ne ndl
        have z1 := t4.free nb1
        have z2 := (t4.trans u1).free nb2
        have z3 := (t4.trans u3).free nb3
        have y1 : wl ≠ b1 := ne_of_none ew nb1
        have y2 : wl ≠ b2 := ne_of_none (u1 _ _ ew) nb2
        have y3 : wl ≠ b3 := ne_of_none (u3 _ _ ew) nb3
        generalize (upd (upd (upd (upd (upd H4 b1 (.lst (ws.map V.str))) b2 (.tup (ws.map V.str))) sc (.lst (us.map V.str))) b3 (.lst (ws.map V.str ++ us.map V.str))) dl (.lst [V.ref b1, .ref b2, .ref b3])) = H5 at u5 f1 f2 f3 f4
        refine ⟨.ref p, rfl, p, 3, rfl, p4.same u5, by decide, by decide, fun H6 g k6 p6 lg ug => ?_⟩
        obtain ⟨x, hx, ex⟩ := at_memA (xs := [V.ref b1, .ref b2, .ref b3]) lg ug
        refine ⟨dl, _, g, x, rfl, rfl, SqL.of (k6 _ _ (fun z => qd z.symm) f4), ex, ?_⟩
        have t6 : Same H1 H6 := same_keep_new (t4.trans u5) np k6
        have n6 : NL H4 H6 := (NL.of_same u5).trans (.of_pot k6 (p4.same u5))
        have ew6 : H6 wl = some (.lst (ws.map V.str)) := k6 _ _ (fun z => p3.ne nw z.symm) (u5 _ _ ew)
        simp only [List.mem_cons, List.not_mem_nil, or_false] at hx
        rcases hx with rfl | rfl | rfl
        · exact ⟨b1, ws, rfl, t6, n6, ew6, y1, z1, .inl (k6 _ _ (fun z => q1 z.symm) f1), fun y => Iff.rfl, by omega⟩
        · exact ⟨b2, ws, rfl, t6, n6, ew6, y2, z2, .inr (k6 _ _ (fun z => q2 z.symm) f2), fun y => Iff.rfl, by omega⟩
        · refine ⟨b3, ws ++ us, rfl, t6, n6, ew6, y3, z3, .inl ?_, fun y => ?_, by rw [List.length_append]; omega⟩
          · rw [k6 _ _ (fun z => q3 z.symm) f3, List.map_append]
          · rw [List.mem_append]
            exact ⟨fun z => z.elim id (hu1 y), .inl⟩
      · rintro σ H5 ⟨b, hs, rfl, t5, nl5, ew5, nwb, nHb, hb, hm, hl⟩
        have gd5 := gd4.mv nl5.tups
        have hok : ∀ y ∈ hs, NmOk y := fun y hy => w1 y ((hm y).mp hy)
        refine ⟨fun σ H6 => ∃ (x : Addr) (ys vs' : List Str), σ = [some (.ref a), some v1, some (.int c), some (.ref p), some (.ref pa), some (.ref wl), some (.ref b), some (.ref x), v8] ∧ Same H5 H6 ∧ LabAt C H6 x fo ys ∧ WsOf vs' ys ∧ (∀ y, y ∈ vs' ↔ y ∈ ws), ?_, ?_⟩
        · refine ⟨_, rfl, (by show 0 ≤ sizeLine; exact Nat.zero_le _), fun l nl => ?_⟩
          have sl := same_upd (o := .lst []) nl
          refine ⟨_, _, .lst (SqL.of (sl _ _ ew5)) (dp_strs ws), .lst (SqL.of upd_same) .nil, shaped_strs w1, rfl, _, rfl, ?_⟩
          rw [eqv_nil]
          have mk : ∀ (x dx : Addr), (upd H5 l (.lst [])) x = none → (upd H5 l (.lst [])) dx = none → dx ≠ x → Same (upd H5 l (.lst [])) (upd (upd (upd H5 l (.lst [])) dx (.own x)) x (.ins C dx [])) := fun x dx nx ndx nex b' o e => by
            rw [upd_ne (ne_of_none e nx), upd_ne (ne_of_none e ndx)]
            exact e
          refine ite2 (fun e => ?_) (fun e => ?_)
          · refine ⟨_, rfl, _, rfl, fun x dx nx ndx nex => ?_⟩
            have sN := mk x dx nx ndx nex
            refine ⟨x, dx, pa, .ref b, fo, hs, rfl, upd_same, gd5.mv (.of_same (sl.trans sN)), .inr ⟨b, rfl, hb.imp ((sl.trans sN) _ _) ((sl.trans sN) _ _)⟩, hok, by omega, fun H6 ys kx wo lb => ⟨rfl, x, ys, hs, rfl, fun b' o e' => ?_, lb, wo, hm⟩⟩
            exact kx _ _ (ne_of_none (sl _ _ e') nx) (sN _ _ (sl _ _ e'))
          · have e0 : ws.length = 0 := by
              by_cases z : ws.length = 0
              · exact z
              · exact absurd (by rw [decide_eq_false z]; rfl) e
            obtain rfl : ws = [] := List.length_eq_zero_iff.mp e0
            refine ⟨_, rfl, fun x dx nx ndx nex => ?_⟩
            have sN := mk x dx nx ndx nex
            refine ⟨x, dx, pa, .non, fo, [], rfl, upd_same, gd5.mv (.of_same (sl.trans sN)), .inl ⟨rfl, rfl⟩, (fun y hy => by cases hy), by decide, fun H6 ys kx wo lb => ⟨rfl, x, ys, [], rfl, fun b' o e' => ?_, lb, wo, fun y => Iff.rfl⟩⟩
            exact kx _ _ (ne_of_none (sl _ _ e') nx) (sN _ _ (sl _ _ e'))
        · rintro σ H6 ⟨x, ys, vs', rfl, t6, lb6, wo, hmv⟩
          refine ⟨_, rfl, _, rfl, pa, wl, fo, ws, rfl, gd5.mv (.of_same t6), t6 _ _ ew5, w1, w2, by omega, fun H7 zs t7 wz => ?_⟩
          obtain rfl : ys = zs := wsOf_eq wo wz hmv
          have lb7 := lb6.same t7
          refine ⟨_, rfl, _, rfl, x, fo, ys, rfl, lb7, fun H8 t8 => ⟨_, rfl, iteF ?_⟩⟩
          have lb8 := lb7.same t8
          have t58 := (t6.trans t7).trans t8
          have t18 := t5.trans t58
          have hb8 := hb.imp (t58 _ _) (t58 _ _)
          refine ⟨fun σ H9 => σ = [some (.ref a), some v1, some (.int c), some (.ref p), some (.ref pa), some (.ref wl), some (.ref b), some (.ref x), some (.str (roT fo ys))] ∧ NL H8 H9 ∧ Same H1 H9, ?_, ?_⟩
          · rcases hb8 with e8 | e8
            · refine ⟨_, rfl, _, .ty "list", _, _, _, rfl, .ty _, .base (.lst e8), kit_ty (b := "list") (r := true) (by decide +kernel), _, rfl, iteT ?_⟩
              refine ⟨_, rfl, .inl ⟨rfl, _, SqL.of e8⟩, b, _, _, rfl, rfl, e8, ?_, rfl, .upd e8, same_app t18 nHb (.refl _)⟩
              rw [List.length_map]
              exact Nat.lt_of_lt_of_le (show hs.length < 1000000 by omega) (by decide)
            · exact ⟨_, rfl, _, .ty "list", _, _, _, rfl, .ty _, .base (.tup e8), kit_ty (b := "list") (r := false) (by decide +kernel), _, rfl, iteF ⟨rfl, .of_same (.refl _), t18⟩⟩
          · rintro σ H9 ⟨rfl, n9, t9⟩
            have lb9 := lb8.nl n9
            refine ⟨fun σ H10 => σ = [some (.ref a), some v1, some (.int c), some (.ref p), some (.ref pa), some (.ref wl), some (.ref b), some (.ref x), some (.str (roT fo ys))] ∧ Same H9 H10, ?_, ?_⟩
            · refine ⟨_, rfl, _, rfl, x, fo, ys, rfl, lb9, fun H10 t10 => ⟨_, rfl, iteF ?_⟩⟩
              rcases hE.nl (.of_same (t9.trans t10)) with rfl | ⟨el, xo, fo', ys', rfl, ee, lo⟩
              · exact ⟨_, rfl, rfl, _, rfl, iteF ⟨rfl, t10⟩⟩
              · refine ⟨_, rfl, rfl, _, rfl, iteT ?_⟩
                refine ⟨_, rfl, el, _, 0, _, rfl, rfl, SqT.of ee, atI_nat (j := 0) rfl, _, rfl, el, _, 1, _, rfl, rfl, SqT.of ee, atI_nat (j := 1) rfl, xo, fo', ys', rfl, lo, fun H11 t11 => ⟨_, rfl, iteF ⟨rfl, t10.trans t11⟩⟩⟩
            · rintro σ H10 ⟨rfl, t10⟩
              refine ⟨_, rfl, _, rfl, (by show 2 ≤ sizeLine; decide), fun T nT => ?_⟩
              have sT := same_upd (o := .tup [V.ref x, .str (roT fo ys)]) nT
              exact ⟨.ref T, _, _, _, _, _, _, _, rfl, .inr ⟨T, x, fo, ys, rfl, upd_same, (lb9.same t10).same sT⟩, ((t9.trans t10).trans sT) _ _ eL⟩
    · rintro σ H1 ⟨v1, v2, v3, v4, v5, v6, v7, v8, rfl, hE, eL⟩
      exact q H1
end
end G
set_option Elab.async false
set_option linter.all false
set_option maxRecDepth 100000
set_option maxHeartbeats 4000000
namespace G
open PySem PySem.Spec PyProof.Rows L2 TL
theorem all_mk {l : PySem.W.OpenLaw} {w : World} {K : PySem.W.Frag} {h : Heap} {mg : Str → Option Value} {fa C T0 : Addr} {tk1 tk2 tk3 tkW : Tok} (X : K.In h) (G : h.Ns mainGlobals mg) (hfa : mg "law" = some (.ref fa))
    {f1 f2 f3 f4 f5 f6 f7 f8 f9 f10 f11 f12 f13 f14 f15 f16 f17 f18 f19 f20 f21 f22 f23 f24 f25 f26 f27 f28 f29 f30 f31 f32 f33 f34 f35 f36 g1 g2 g3 g4 gI : Addr}
    {od1 an1 od2 an2 od3 an3 od4 an4 od5 an5 od6 an6 od7 an7 od8 an8 od9 an9 od10 an10 od11 an11 od12 an12 od13 an13 od14 an14 od15 an15 od16 an16 od17 an17 od18 an18 od19 an19 od20 an20 od21 an21 od22 an22 od23 an23 od24 an24 od25 an25 od26 an26 od27 an27 od28 an28 od29 an29 od30 an30 od31 an31 od32 an32 od33 an33 od34 an34 od35 an35 od36 an36 odm1 anm1 odm2 anm2 odm3 anm3 odm4 anm4 odI anI odT : Option Addr} {sl1 sl2 sl3 sl4 sl5 sl6 sl7 sl8 sl9 sl10 sl11 sl12 sl13 sl14 sl15 sl16 sl17 sl18 sl19 sl20 sl21 sl22 sl23 sl24 sl25 sl26 sl27 sl28 sl29 sl30 sl31 sl32 sl33 sl34 sl35 sl36 slm1 slm2 slm3 slm4 slI slT : Array (Option Value)} {oc1 kV1 dc1 pm1 cd1 ct1 oc2 kV2 dc2 pm2 cd2 ct2 oc3 kV3 dc3 pm3 cd3 ct3 oc4 kV4 dc4 pm4 cd4 ct4 oc5 kV5 dc5 pm5 cd5 ct5 oc6 kV6 dc6 pm6 cd6 ct6 oc7 kV7 dc7 pm7 cd7 ct7 oc8 kV8 dc8 pm8 cd8 ct8 oc9 kV9 dc9 pm9 cd9 ct9 oc10 kV10 dc10 pm10 cd10 ct10 oc11 kV11 dc11 pm11 cd11 ct11 oc12 kV12 dc12 pm12 cd12 ct12 oc13 kV13 dc13 pm13 cd13 ct13 oc14 kV14 dc14 pm14 cd14 ct14 oc15 kV15 dc15 pm15 cd15 ct15 oc16 kV16 dc16 pm16 cd16 ct16 oc17 kV17 dc17 pm17 cd17 ct17 oc18 kV18 dc18 pm18 cd18 ct18 oc19 kV19 dc19 pm19 cd19 ct19 oc20 kV20 dc20 pm20 cd20 ct20 oc21 kV21 dc21 pm21 cd21 ct21 oc22 kV22 dc22 pm22 cd22 ct22 oc23 kV23 dc23 pm23 cd23 ct23 oc24 kV24 dc24 pm24 cd24 ct24 oc25 kV25 dc25 pm25 cd25 ct25 oc26 kV26 dc26 pm26 cd26 ct26 oc27 kV27 dc27 pm27 cd27 ct27 oc28 kV28 dc28 pm28 cd28 ct28 oc29 kV29 dc29 pm29 cd29 ct29 oc30 kV30 dc30 pm30 cd30 ct30 oc31 kV31 dc31 pm31 cd31 ct31 oc32 kV32 dc32 pm32 cd32 ct32 oc33 kV33 dc33 pm33 cd33 ct33 oc34 kV34 dc34 pm34 cd34 ct34 oc35 kV35 dc35 pm35 cd35 ct35 oc36 kV36 dc36 pm36 cd36 ct36 ocm1 kVm1 dcm1 pmm1 cdm1 ctm1 ocm2 kVm2 dcm2 pmm2 cdm2 ctm2 ocm3 kVm3 dcm3 pmm3 cdm3 ctm3 ocm4 kVm4 dcm4 pmm4 cdm4 ctm4 ocI kVI dcI pmI cdI ctI ocT : Value} {nT : Nat}
    (a1 : PySem.W.nsIn K mainGlobals "is_whole" = some (some (.ref f1))) (l1 : K.lookup f1 = some ⟨oc1, od1, .func (PySem.W.fnOf "is_whole" "is_whole" (defArgs sWhole) (defBody sWhole) (defScope sWhole) .none kV1 dc1 pm1 an1 cd1 ct1), sl1⟩) (c1 : PySem.W.codeIn K cd1 "is_whole" = true) (k1 : PySem.W.keepIn K (.ref f1) = true)
    (a2 : PySem.W.nsIn K mainGlobals "common_measure" = some (some (.ref f2))) (l2 : K.lookup f2 = some ⟨oc2, od2, .func (PySem.W.fnOf "common_measure" "common_measure" (defArgs sMeas) (defBody sMeas) (defScope sMeas) .none kV2 dc2 pm2 an2 cd2 ct2), sl2⟩) (c2 : PySem.W.codeIn K cd2 "common_measure" = true) (k2 : PySem.W.keepIn K (.ref f2) = true)
    (a3 : PySem.W.nsIn K mainGlobals "is_less" = some (some (.ref f3))) (l3 : K.lookup f3 = some ⟨oc3, od3, .func (PySem.W.fnOf "is_less" "is_less" (defArgs sLess) (defBody sLess) (defScope sLess) .none kV3 dc3 pm3 an3 cd3 ct3), sl3⟩) (c3 : PySem.W.codeIn K cd3 "is_less" = true) (k3 : PySem.W.keepIn K (.ref f3) = true)
    (a4 : PySem.W.nsIn K mainGlobals "is_fraction" = some (some (.ref f4))) (l4 : K.lookup f4 = some ⟨oc4, od4, .func (PySem.W.fnOf "is_fraction" "is_fraction" (defArgs sIsF) (defBody sIsF) (defScope sIsF) .none kV4 dc4 pm4 an4 cd4 ct4), sl4⟩) (c4 : PySem.W.codeIn K cd4 "is_fraction" = true) (k4 : PySem.W.keepIn K (.ref f4) = true)
    (a5 : PySem.W.nsIn K mainGlobals "figures" = some (some (.ref f5))) (l5 : K.lookup f5 = some ⟨oc5, od5, .func (PySem.W.fnOf "figures" "figures" (defArgs sFig) (defBody sFig) (defScope sFig) .none kV5 dc5 pm5 an5 cd5 ct5), sl5⟩) (c5 : PySem.W.codeIn K cd5 "figures" = true) (k5 : PySem.W.keepIn K (.ref f5) = true)
    (a6 : PySem.W.nsIn K mainGlobals "fraction_text" = some (some (.ref f6))) (l6 : K.lookup f6 = some ⟨oc6, od6, .func (PySem.W.fnOf "fraction_text" "fraction_text" (defArgs sFT) (defBody sFT) (defScope sFT) .none kV6 dc6 pm6 an6 cd6 ct6), sl6⟩) (c6 : PySem.W.codeIn K cd6 "fraction_text" = true) (k6 : PySem.W.keepIn K (.ref f6) = true)
    (a7 : PySem.W.nsIn K mainGlobals "told_text" = some (some (.ref f7))) (l7 : K.lookup f7 = some ⟨oc7, od7, .func (PySem.W.fnOf "told_text" "told_text" (defArgs sTT) (defBody sTT) (defScope sTT) .none kV7 dc7 pm7 an7 cd7 ct7), sl7⟩) (c7 : PySem.W.codeIn K cd7 "told_text" = true) (k7 : PySem.W.keepIn K (.ref f7) = true)
    (a8 : PySem.W.nsIn K mainGlobals "entry_text" = some (some (.ref f8))) (l8 : K.lookup f8 = some ⟨oc8, od8, .func (PySem.W.fnOf "entry_text" "entry_text" (defArgs sET) (defBody sET) (defScope sET) .none kV8 dc8 pm8 an8 cd8 ct8), sl8⟩) (c8 : PySem.W.codeIn K cd8 "entry_text" = true) (k8 : PySem.W.keepIn K (.ref f8) = true)
    (a9 : PySem.W.nsIn K mainGlobals "words_text" = some (some (.ref f9))) (l9 : K.lookup f9 = some ⟨oc9, od9, .func (PySem.W.fnOf "words_text" "words_text" (defArgs sWT) (defBody sWT) (defScope sWT) .none kV9 dc9 pm9 an9 cd9 ct9), sl9⟩) (c9 : PySem.W.codeIn K cd9 "words_text" = true) (k9 : PySem.W.keepIn K (.ref f9) = true)
    (a10 : PySem.W.nsIn K mainGlobals "place_text" = some (some (.ref f10))) (l10 : K.lookup f10 = some ⟨oc10, od10, .func (PySem.W.fnOf "place_text" "place_text" (defArgs sPT) (defBody sPT) (defScope sPT) .none kV10 dc10 pm10 an10 cd10 ct10), sl10⟩) (c10 : PySem.W.codeIn K cd10 "place_text" = true) (k10 : PySem.W.keepIn K (.ref f10) = true)
    (a11 : PySem.W.nsIn K mainGlobals "list_text" = some (some (.ref f11))) (l11 : K.lookup f11 = some ⟨oc11, od11, .func (PySem.W.fnOf "list_text" "list_text" (defArgs sLT) (defBody sLT) (defScope sLT) .none kV11 dc11 pm11 an11 cd11 ct11), sl11⟩) (c11 : PySem.W.codeIn K cd11 "list_text" = true) (k11 : PySem.W.keepIn K (.ref f11) = true)
    (a12 : PySem.W.nsIn K mainGlobals "row_text" = some (some (.ref f12))) (l12 : K.lookup f12 = some ⟨oc12, od12, .func (PySem.W.fnOf "row_text" "row_text" (defArgs sRT) (defBody sRT) (defScope sRT) .none kV12 dc12 pm12 an12 cd12 ct12), sl12⟩) (c12 : PySem.W.codeIn K cd12 "row_text" = true) (k12 : PySem.W.keepIn K (.ref f12) = true)
    (a13 : PySem.W.nsIn K mainGlobals "is_name" = some (some (.ref f13))) (l13 : K.lookup f13 = some ⟨oc13, od13, .func (PySem.W.fnOf "is_name" "is_name" (defArgs sNm) (defBody sNm) (defScope sNm) .none kV13 dc13 pm13 an13 cd13 ct13), sl13⟩) (c13 : PySem.W.codeIn K cd13 "is_name" = true) (k13 : PySem.W.keepIn K (.ref f13) = true)
    (a14 : PySem.W.nsIn K mainGlobals "is_stretch" = some (some (.ref f14))) (l14 : K.lookup f14 = some ⟨oc14, od14, .func (PySem.W.fnOf "is_stretch" "is_stretch" (defArgs sSt) (defBody sSt) (defScope sSt) .none kV14 dc14 pm14 an14 cd14 ct14), sl14⟩) (c14 : PySem.W.codeIn K cd14 "is_stretch" = true) (k14 : PySem.W.keepIn K (.ref f14) = true)
    (a15 : PySem.W.nsIn K mainGlobals "is_filled" = some (some (.ref f15))) (l15 : K.lookup f15 = some ⟨oc15, od15, .func (PySem.W.fnOf "is_filled" "is_filled" (defArgs sFi) (defBody sFi) (defScope sFi) .none kV15 dc15 pm15 an15 cd15 ct15), sl15⟩) (c15 : PySem.W.codeIn K cd15 "is_filled" = true) (k15 : PySem.W.keepIn K (.ref f15) = true)
    (a16 : PySem.W.nsIn K mainGlobals "is_formed" = some (some (.ref f16))) (l16 : K.lookup f16 = some ⟨oc16, od16, .func (PySem.W.fnOf "is_formed" "is_formed" (defArgs sFm) (defBody sFm) (defScope sFm) .none kV16 dc16 pm16 an16 cd16 ct16), sl16⟩) (c16 : PySem.W.codeIn K cd16 "is_formed" = true) (k16 : PySem.W.keepIn K (.ref f16) = true)
    (a17 : PySem.W.nsIn K mainGlobals "check_list" = some (some (.ref f17))) (l17 : K.lookup f17 = some ⟨oc17, od17, .func (PySem.W.fnOf "check_list" "check_list" (defArgs sCL) (defBody sCL) (defScope sCL) .none kV17 dc17 pm17 an17 cd17 ct17), sl17⟩) (c17 : PySem.W.codeIn K cd17 "check_list" = true) (k17 : PySem.W.keepIn K (.ref f17) = true)
    (a18 : PySem.W.nsIn K mainGlobals "check_places" = some (some (.ref f18))) (l18 : K.lookup f18 = some ⟨oc18, od18, .func (PySem.W.fnOf "check_places" "check_places" (defArgs sCP) (defBody sCP) (defScope sCP) .none kV18 dc18 pm18 an18 cd18 ct18), sl18⟩) (c18 : PySem.W.codeIn K cd18 "check_places" = true) (k18 : PySem.W.keepIn K (.ref f18) = true)
    (a19 : PySem.W.nsIn K mainGlobals "check_names" = some (some (.ref f19))) (l19 : K.lookup f19 = some ⟨oc19, od19, .func (PySem.W.fnOf "check_names" "check_names" (defArgs sCN) (defBody sCN) (defScope sCN) .none kV19 dc19 pm19 an19 cd19 ct19), sl19⟩) (c19 : PySem.W.codeIn K cd19 "check_names" = true) (k19 : PySem.W.keepIn K (.ref f19) = true)
    (a20 : PySem.W.nsIn K mainGlobals "gather" = some (some (.ref f20))) (l20 : K.lookup f20 = some ⟨oc20, od20, .func (PySem.W.fnOf "gather" "gather" (defArgs sGa) (defBody sGa) (defScope sGa) .none kV20 dc20 pm20 an20 cd20 ct20), sl20⟩) (c20 : PySem.W.codeIn K cd20 "gather" = true) (k20 : PySem.W.keepIn K (.ref f20) = true)
    (a21 : PySem.W.nsIn K mainGlobals "_law_cell" = some (some (.ref f21))) (l21 : K.lookup f21 = some ⟨oc21, od21, .func (PySem.W.fnOf "_law_cell" "_law_cell" (defArgs sCe) (defBody sCe) (defScope sCe) .none kV21 dc21 pm21 an21 cd21 ct21), sl21⟩) (c21 : PySem.W.codeIn K cd21 "_law_cell" = true) (k21 : PySem.W.keepIn K (.ref f21) = true)
    (a22 : PySem.W.nsIn K mainGlobals "_law_pot" = some (some (.ref f22))) (l22 : K.lookup f22 = some ⟨oc22, od22, .func (PySem.W.fnOf "_law_pot" "_law_pot" (defArgs sPo) (defBody sPo) (defScope sPo) .none kV22 dc22 pm22 an22 cd22 ct22), sl22⟩) (c22 : PySem.W.codeIn K cd22 "_law_pot" = true) (k22 : PySem.W.keepIn K (.ref f22) = true)
    (a23 : PySem.W.nsIn K mainGlobals "_law_draw" = some (some (.ref f23))) (l23 : K.lookup f23 = some ⟨oc23, od23, .func (PySem.W.fnOf "_law_draw" "_law_draw" (defArgs sDw) (defBody sDw) (defScope sDw) .none kV23 dc23 pm23 an23 cd23 ct23), sl23⟩) (c23 : PySem.W.codeIn K cd23 "_law_draw" = true) (k23 : PySem.W.keepIn K (.ref f23) = true)
    (a24 : PySem.W.nsIn K mainGlobals "_law_lowest" = some (some (.ref f24))) (l24 : K.lookup f24 = some ⟨oc24, od24, .func (PySem.W.fnOf "_law_lowest" "_law_lowest" (defArgs sLo) (defBody sLo) (defScope sLo) .none kV24 dc24 pm24 an24 cd24 ct24), sl24⟩) (c24 : PySem.W.codeIn K cd24 "_law_lowest" = true) (k24 : PySem.W.keepIn K (.ref f24) = true)
    (a25 : PySem.W.nsIn K mainGlobals "_law_share" = some (some (.ref f25))) (l25 : K.lookup f25 = some ⟨oc25, od25, .func (PySem.W.fnOf "_law_share" "_law_share" (defArgs sSh) (defBody sSh) (defScope sSh) .none kV25 dc25 pm25 an25 cd25 ct25), sl25⟩) (c25 : PySem.W.codeIn K cd25 "_law_share" = true) (k25 : PySem.W.keepIn K (.ref f25) = true)
    (a26 : PySem.W.nsIn K mainGlobals "_law_told" = some (some (.ref f26))) (l26 : K.lookup f26 = some ⟨oc26, od26, .func (PySem.W.fnOf "_law_told" "_law_told" (defArgs sTo) (defBody sTo) (defScope sTo) .none kV26 dc26 pm26 an26 cd26 ct26), sl26⟩) (c26 : PySem.W.codeIn K cd26 "_law_told" = true) (k26 : PySem.W.keepIn K (.ref f26) = true)
    (a27 : PySem.W.nsIn K mainGlobals "_law_name" = some (some (.ref f27))) (l27 : K.lookup f27 = some ⟨oc27, od27, .func (PySem.W.fnOf "_law_name" "_law_name" (defArgs sNa) (defBody sNa) (defScope sNa) .none kV27 dc27 pm27 an27 cd27 ct27), sl27⟩) (c27 : PySem.W.codeIn K cd27 "_law_name" = true) (k27 : PySem.W.keepIn K (.ref f27) = true)
    (a28 : PySem.W.nsIn K mainGlobals "_law_places" = some (some (.ref f28))) (l28 : K.lookup f28 = some ⟨oc28, od28, .func (PySem.W.fnOf "_law_places" "_law_places" (defArgs sPl) (defBody sPl) (defScope sPl) .none kV28 dc28 pm28 an28 cd28 ct28), sl28⟩) (c28 : PySem.W.codeIn K cd28 "_law_places" = true) (k28 : PySem.W.keepIn K (.ref f28) = true)
    (a29 : PySem.W.nsIn K mainGlobals "_law_many" = some (some (.ref f29))) (l29 : K.lookup f29 = some ⟨oc29, od29, .func (PySem.W.fnOf "_law_many" "_law_many" (defArgs sMa) (defBody sMa) (defScope sMa) .none kV29 dc29 pm29 an29 cd29 ct29), sl29⟩) (c29 : PySem.W.codeIn K cd29 "_law_many" = true) (k29 : PySem.W.keepIn K (.ref f29) = true)
    (a30 : PySem.W.nsIn K mainGlobals "_law_words" = some (some (.ref f30))) (l30 : K.lookup f30 = some ⟨oc30, od30, .func (PySem.W.fnOf "_law_words" "_law_words" (defArgs sWo) (defBody sWo) (defScope sWo) .none kV30 dc30 pm30 an30 cd30 ct30), sl30⟩) (c30 : PySem.W.codeIn K cd30 "_law_words" = true) (k30 : PySem.W.keepIn K (.ref f30) = true)
    (a31 : PySem.W.nsIn K mainGlobals "_law_number" = some (some (.ref f31))) (l31 : K.lookup f31 = some ⟨oc31, od31, .func (PySem.W.fnOf "_law_number" "_law_number" (defArgs sNu) (defBody sNu) (defScope sNu) .none kV31 dc31 pm31 an31 cd31 ct31), sl31⟩) (c31 : PySem.W.codeIn K cd31 "_law_number" = true) (k31 : PySem.W.keepIn K (.ref f31) = true)
    (a32 : PySem.W.nsIn K mainGlobals "_law_behind" = some (some (.ref f32))) (l32 : K.lookup f32 = some ⟨oc32, od32, .func (PySem.W.fnOf "_law_behind" "_law_behind" (defArgs sBh) (defBody sBh) (defScope sBh) .none kV32 dc32 pm32 an32 cd32 ct32), sl32⟩) (c32 : PySem.W.codeIn K cd32 "_law_behind" = true) (k32 : PySem.W.keepIn K (.ref f32) = true)
    (a33 : PySem.W.nsIn K mainGlobals "_law_part" = some (some (.ref f33))) (l33 : K.lookup f33 = some ⟨oc33, od33, .func (PySem.W.fnOf "_law_part" "_law_part" (defArgs sPr) (defBody sPr) (defScope sPr) .none kV33 dc33 pm33 an33 cd33 ct33), sl33⟩) (c33 : PySem.W.codeIn K cd33 "_law_part" = true) (k33 : PySem.W.keepIn K (.ref f33) = true)
    (a34 : PySem.W.nsIn K mainGlobals "_law_row" = some (some (.ref f34))) (l34 : K.lookup f34 = some ⟨oc34, od34, .func (PySem.W.fnOf "_law_row" "_law_row" (defArgs sRw) (defBody sRw) (defScope sRw) .none kV34 dc34 pm34 an34 cd34 ct34), sl34⟩) (c34 : PySem.W.codeIn K cd34 "_law_row" = true) (k34 : PySem.W.keepIn K (.ref f34) = true)
    (a35 : PySem.W.nsIn K mainGlobals "_law_right" = some (some (.ref f35))) (l35 : K.lookup f35 = some ⟨oc35, od35, .func (PySem.W.fnOf "_law_right" "_law_right" (defArgs sRi) (defBody sRi) (defScope sRi) .none kV35 dc35 pm35 an35 cd35 ct35), sl35⟩) (c35 : PySem.W.codeIn K cd35 "_law_right" = true) (k35 : PySem.W.keepIn K (.ref f35) = true)
    (a36 : PySem.W.nsIn K mainGlobals "law" = some (some (.ref f36))) (l36 : K.lookup f36 = some ⟨oc36, od36, .func (PySem.W.fnOf "law" "law" (defArgs sLaw) (defBody sLaw) (defScope sLaw) .none kV36 dc36 pm36 an36 cd36 ct36), sl36⟩) (c36 : PySem.W.codeIn K cd36 "law" = true) (k36 : PySem.W.keepIn K (.ref f36) = true)
    (aC : PySem.W.nsIn K mainGlobals "Label" = some (some (.ref C)))
    (am1 : PySem.W.findIn K (.ref C) "may" = some (some (.ref g1))) (im1 : PySem.W.isFn K (.ref g1) = true) (lm1 : K.lookup g1 = some ⟨ocm1, odm1, .func (PySem.W.fnOf "may" "Label.may" (defArgs sMy) (defBody sMy) (defScope sMy) .none kVm1 dcm1 pmm1 anm1 cdm1 ctm1), slm1⟩) (cm1 : PySem.W.codeIn K cdm1 "Label.may" = true) (km1 : PySem.W.keepIn K (.ref g1) = true)
    (am2 : PySem.W.findIn K (.ref C) "paths" = some (some (.ref g2))) (im2 : PySem.W.isFn K (.ref g2) = true) (lm2 : K.lookup g2 = some ⟨ocm2, odm2, .func (PySem.W.fnOf "paths" "Label.paths" (defArgs sPa) (defBody sPa) (defScope sPa) .none kVm2 dcm2 pmm2 anm2 cdm2 ctm2), slm2⟩) (cm2 : PySem.W.codeIn K cdm2 "Label.paths" = true) (km2 : PySem.W.keepIn K (.ref g2) = true)
    (am3 : PySem.W.findIn K (.ref C) "__str__" = some (some (.ref g3))) (im3 : PySem.W.isFn K (.ref g3) = true) (lm3 : K.lookup g3 = some ⟨ocm3, odm3, .func (PySem.W.fnOf "__str__" "Label.__str__" (defArgs sSr) (defBody sSr) (defScope sSr) .none kVm3 dcm3 pmm3 anm3 cdm3 ctm3), slm3⟩) (cm3 : PySem.W.codeIn K cdm3 "Label.__str__" = true) (km3 : PySem.W.keepIn K (.ref g3) = true)
    (am4 : PySem.W.findIn K (.ref C) "__repr__" = some (some (.ref g4))) (im4 : PySem.W.isFn K (.ref g4) = true) (lm4 : K.lookup g4 = some ⟨ocm4, odm4, .func (PySem.W.fnOf "__repr__" "Label.__repr__" (defArgs sRp) (defBody sRp) (defScope sRp) .none kVm4 dcm4 pmm4 anm4 cdm4 ctm4), slm4⟩) (cm4 : PySem.W.codeIn K cdm4 "Label.__repr__" = true) (km4 : PySem.W.keepIn K (.ref g4) = true)
    (aI : PySem.W.findIn K (.ref C) "__init__" = some (some (.ref gI))) (iI : PySem.W.isFn K (.ref gI) = true) (lI : K.lookup gI = some ⟨ocI, odI, .func (PySem.W.fnOf "__init__" "Label.__init__" (defArgs sIn) (defBody sIn) (defScope sIn) (.ref T0) kVI dcI pmI anI cdI ctI), slI⟩) (cI : PySem.W.codeIn K cdI "Label.__init__" = true) (kI : PySem.W.keepIn K (.ref gI) = true)
    (lT : K.lookup T0 = some ⟨ocT, odT, .seq #[.none] nT, slT⟩)
    (pg : PySem.W.plainGet K C Str.empty = true) (hd : PySem.W.hasDictIn K C = true) (po : PySem.W.plainOver K C = true) (sa : PySem.W.findIn K (.ref C) "__setattr__" = some (some (.builtin "object.__setattr__"))) (mk : PySem.W.makesIn K C = true) (kc : PySem.W.keepIn K (.ref C) = true)
    (nL : PySem.W.findIn K (.ref C) "listed" = some none) (nW : PySem.W.findIn K (.ref C) "words" = some none) (nP : PySem.W.findIn K (.ref C) "by_path" = some none)
    (z1 : PySem.W.nsIn K mainGlobals "abs" = some none)
    (z2 : PySem.W.nsIn K mainGlobals "isinstance" = some none)
    (z3 : PySem.W.nsIn K mainGlobals "int" = some none)
    (z4 : PySem.W.nsIn K mainGlobals "bool" = some none)
    (z5 : PySem.W.nsIn K mainGlobals "tuple" = some none)
    (z6 : PySem.W.nsIn K mainGlobals "len" = some none)
    (z7 : PySem.W.nsIn K mainGlobals "str" = some none)
    (z8 : PySem.W.nsIn K mainGlobals "divmod" = some none)
    (z9 : PySem.W.nsIn K mainGlobals "enumerate" = some none)
    (z10 : PySem.W.nsIn K mainGlobals "list" = some none)
    (z11 : PySem.W.nsIn K mainGlobals "sorted" = some none)
    (z12 : PySem.W.nsIn K mainGlobals "set" = some none)
    (z13 : PySem.W.nsIn K mainGlobals "range" = some none)
    (z14 : PySem.W.nsIn K mainGlobals "sum" = some none)
    (z15 : PySem.W.nsIn K mainGlobals "min" = some none)
    (z16 : PySem.W.nsIn K mainGlobals "max" = some none)
    (z17 : PySem.W.nsIn K mainGlobals "repr" = some none)
    (z18 : PySem.W.nsIn K mainGlobals "all" = some none)
    (v1 : PySem.W.nsIn K mainGlobals "MOST_LETTERS" = some (some (.int 8 tk1)))
    (v2 : PySem.W.nsIn K mainGlobals "MOST_DEPTH" = some (some (.int 4 tk2)))
    (v3 : PySem.W.nsIn K mainGlobals "MOST_PLACES" = some (some (.int 12 tk3)))
    (vW : PySem.W.nsIn K mainGlobals "WORDS_AHEAD" = some (some (.str (Str.ofString "may hold ") tkW))) :
    ∃ fd : FuncData, (∀ (s : Shared) (v : Value), BindsTo s fd ⟨[v], []⟩ [("_law_script", v)]) ∧ ∀ base : Heap, K.In base → base.Ns mainGlobals mg → FnOk l.prog w K mg base CX0 18 fa fd ["_law_script"] (spLaw K) := by
  have e := hfa.symm.trans (PySem.W.mg_of X G a36)
  cases e
  have F1 := fun_mk (st := sWhole) l1 c1 k1
  have F2 := fun_mk (st := sMeas) l2 c2 k2
  have F3 := fun_mk (st := sLess) l3 c3 k3
  have F4 := fun_mk (st := sIsF) l4 c4 k4
  have F5 := fun_mk (st := sFig) l5 c5 k5
  have F6 := fun_mk (st := sFT) l6 c6 k6
  have F7 := fun_mk (st := sTT) l7 c7 k7
  have F8 := fun_mk (st := sET) l8 c8 k8
  have F9 := fun_mk (st := sWT) l9 c9 k9
  have F10 := fun_mk (st := sPT) l10 c10 k10
  have F11 := fun_mk (st := sLT) l11 c11 k11
  have F12 := fun_mk (st := sRT) l12 c12 k12
  have F13 := fun_mk (st := sNm) l13 c13 k13
  have F14 := fun_mk (st := sSt) l14 c14 k14
  have F15 := fun_mk (st := sFi) l15 c15 k15
  have F16 := fun_mk (st := sFm) l16 c16 k16
  have F17 := fun_mk (st := sCL) l17 c17 k17
  have F18 := fun_mk (st := sCP) l18 c18 k18
  have F19 := fun_mk (st := sCN) l19 c19 k19
  have F20 := fun_mk (st := sGa) l20 c20 k20
  have F21 := fun_mk (st := sCe) l21 c21 k21
  have F22 := fun_mk (st := sPo) l22 c22 k22
  have F23 := fun_mk (st := sDw) l23 c23 k23
  have F24 := fun_mk (st := sLo) l24 c24 k24
  have F25 := fun_mk (st := sSh) l25 c25 k25
  have F26 := fun_mk (st := sTo) l26 c26 k26
  have F27 := fun_mk (st := sNa) l27 c27 k27
  have F28 := fun_mk (st := sPl) l28 c28 k28
  have F29 := fun_mk (st := sMa) l29 c29 k29
  have F30 := fun_mk (st := sWo) l30 c30 k30
  have F31 := fun_mk (st := sNu) l31 c31 k31
  have F32 := fun_mk (st := sBh) l32 c32 k32
  have F33 := fun_mk (st := sPr) l33 c33 k33
  have F34 := fun_mk (st := sRw) l34 c34 k34
  have F35 := fun_mk (st := sRi) l35 c35 k35
  have F36 := fun_mk (st := sLaw) l36 c36 k36
  have Fm1 := fun_mk (st := sMy) lm1 cm1 km1
  have bm1 := Fm1.binds (ps := ["self"]) fun _ _ _ _ _ _ us hl => match us, hl with | [_], _ => rfl
  have Fm2 := fun_mk (st := sPa) lm2 cm2 km2
  have bm2 := Fm2.binds (ps := ["self"]) fun _ _ _ _ _ _ us hl => match us, hl with | [_], _ => rfl
  have Fm3 := fun_mk (st := sSr) lm3 cm3 km3
  have bm3 := Fm3.binds (ps := ["self"]) fun _ _ _ _ _ _ us hl => match us, hl with | [_], _ => rfl
  have Fm4 := fun_mk (st := sRp) lm4 cm4 km4
  have bm4 := Fm4.binds (ps := ["self"]) fun _ _ _ _ _ _ us hl => match us, hl with | [_], _ => rfl
  have FI : FunD K "__init__" "Label.__init__" (defArgs sIn) (defBody sIn) (defScope sIn) [.non] [] gI (PySem.W.fnOf "__init__" "Label.__init__" (defArgs sIn) (defBody sIn) (defScope sIn) (.ref T0) kVI dcI pmI anI cdI ctI) := ⟨⟨_, _, _, _, _, _, _, _, _, _, rfl, lI, cI, .inr ⟨by decide, T0, _, [.none], nT, rfl, lT, rfl, .cons rfl .nil⟩, .inl rfl⟩, kI⟩
  obtain ⟨d3, r3, b3⟩ := FI.binds1 (ps := ["self", "places", "may"]) 3 1 (by decide) rfl fun _ _ _ _ _ _ _ us its hu hi => match us, its, hu, hi with | [_, _, _], [_], _, _ => ⟨_, rfl, rfl⟩
  obtain ⟨d2, r2, b2⟩ := FI.binds1 (ps := ["self", "places", "may"]) 2 0 (by decide) rfl fun _ _ _ _ _ _ _ us its hu hi => match us, its, hu, hi with | [_, _], [_], _, _ => ⟨_, rfl, rfl⟩
  cases r3
  have b1' := F1.binds (ps := ["thing"]) fun _ _ _ _ _ _ us hl => match us, hl with | [_], _ => rfl
  have q1 := PySem.W.mg_of X G a1
  have b2' := F2.binds (ps := ["one", "other"]) fun _ _ _ _ _ _ us hl => match us, hl with | [_, _], _ => rfl
  have q2 := PySem.W.mg_of X G a2
  have b3' := F3.binds (ps := ["one", "other"]) fun _ _ _ _ _ _ us hl => match us, hl with | [_, _], _ => rfl
  have q3 := PySem.W.mg_of X G a3
  have b4' := F4.binds (ps := ["thing"]) fun _ _ _ _ _ _ us hl => match us, hl with | [_], _ => rfl
  have q4 := PySem.W.mg_of X G a4
  have b5' := F5.binds (ps := ["number"]) fun _ _ _ _ _ _ us hl => match us, hl with | [_], _ => rfl
  have q5 := PySem.W.mg_of X G a5
  have b6' := F6.binds (ps := ["one"]) fun _ _ _ _ _ _ us hl => match us, hl with | [_], _ => rfl
  have q6 := PySem.W.mg_of X G a6
  have b7' := F7.binds (ps := ["told"]) fun _ _ _ _ _ _ us hl => match us, hl with | [_], _ => rfl
  have q7 := PySem.W.mg_of X G a7
  have b8' := F8.binds (ps := ["name", "told"]) fun _ _ _ _ _ _ us hl => match us, hl with | [_, _], _ => rfl
  have q8 := PySem.W.mg_of X G a8
  have b9' := F9.binds (ps := ["words"]) fun _ _ _ _ _ _ us hl => match us, hl with | [_], _ => rfl
  have q9 := PySem.W.mg_of X G a9
  have b10' := F10.binds (ps := ["place"]) fun _ _ _ _ _ _ us hl => match us, hl with | [_], _ => rfl
  have q10 := PySem.W.mg_of X G a10
  have b11' := F11.binds (ps := ["places"]) fun _ _ _ _ _ _ us hl => match us, hl with | [_], _ => rfl
  have q11 := PySem.W.mg_of X G a11
  have b12' := F12.binds (ps := ["places", "words"]) fun _ _ _ _ _ _ us hl => match us, hl with | [_, _], _ => rfl
  have q12 := PySem.W.mg_of X G a12
  have b13' := F13.binds (ps := ["thing"]) fun _ _ _ _ _ _ us hl => match us, hl with | [_], _ => rfl
  have q13 := PySem.W.mg_of X G a13
  have b14' := F14.binds (ps := ["thing"]) fun _ _ _ _ _ _ us hl => match us, hl with | [_], _ => rfl
  have q14 := PySem.W.mg_of X G a14
  have b15' := F15.binds (ps := ["thing"]) fun _ _ _ _ _ _ us hl => match us, hl with | [_], _ => rfl
  have q15 := PySem.W.mg_of X G a15
  have b16' := F16.binds (ps := ["thing"]) fun _ _ _ _ _ _ us hl => match us, hl with | [_], _ => rfl
  have q16 := PySem.W.mg_of X G a16
  have b17' := F17.binds (ps := ["places", "above", "around"]) fun _ _ _ _ _ _ us hl => match us, hl with | [_, _, _], _ => rfl
  have q17 := PySem.W.mg_of X G a17
  have b18' := F18.binds (ps := ["places"]) fun _ _ _ _ _ _ us hl => match us, hl with | [_], _ => rfl
  have q18 := PySem.W.mg_of X G a18
  have b19' := F19.binds (ps := ["names"]) fun _ _ _ _ _ _ us hl => match us, hl with | [_], _ => rfl
  have q19 := PySem.W.mg_of X G a19
  have b20' := F20.binds (ps := ["places", "above", "found"]) fun _ _ _ _ _ _ us hl => match us, hl with | [_, _, _], _ => rfl
  have q20 := PySem.W.mg_of X G a20
  have b21' := F21.binds (ps := ["_law_script", "_law_k"]) fun _ _ _ _ _ _ us hl => match us, hl with | [_, _], _ => rfl
  have q21 := PySem.W.mg_of X G a21
  have b22' := F22.binds (ps := ["_law_cell_here"]) fun _ _ _ _ _ _ us hl => match us, hl with | [_], _ => rfl
  have q22 := PySem.W.mg_of X G a22
  have b23' := F23.binds (ps := ["_law_pot_here", "_law_many_here"]) fun _ _ _ _ _ _ us hl => match us, hl with | [_, _], _ => rfl
  have q23 := PySem.W.mg_of X G a23
  have b24' := F24.binds (ps := ["_law_top", "_law_bottom"]) fun _ _ _ _ _ _ us hl => match us, hl with | [_, _], _ => rfl
  have q24 := PySem.W.mg_of X G a24
  have b25' := F25.binds (ps := ["_law_pot_here"]) fun _ _ _ _ _ _ us hl => match us, hl with | [_], _ => rfl
  have q25 := PySem.W.mg_of X G a25
  have b26' := F26.binds (ps := ["_law_pot_here"]) fun _ _ _ _ _ _ us hl => match us, hl with | [_], _ => rfl
  have q26 := PySem.W.mg_of X G a26
  have b27' := F27.binds (ps := ["_law_pot_here", "_law_taken"]) fun _ _ _ _ _ _ us hl => match us, hl with | [_, _], _ => rfl
  have q27 := PySem.W.mg_of X G a27
  have b28' := F28.binds (ps := ["_law_pot_here", "_law_room", "_law_around"]) fun _ _ _ _ _ _ us hl => match us, hl with | [_, _, _], _ => rfl
  have q28 := PySem.W.mg_of X G a28
  have b29' := F29.binds (ps := ["_law_places_here"]) fun _ _ _ _ _ _ us hl => match us, hl with | [_], _ => rfl
  have q29 := PySem.W.mg_of X G a29
  have b30' := F30.binds (ps := ["_law_pot_here"]) fun _ _ _ _ _ _ us hl => match us, hl with | [_], _ => rfl
  have q30 := PySem.W.mg_of X G a30
  have b31' := F31.binds (ps := ["_law_share_here"]) fun _ _ _ _ _ _ us hl => match us, hl with | [_], _ => rfl
  have q31 := PySem.W.mg_of X G a31
  have b32' := F32.binds (ps := ["_law_told_here"]) fun _ _ _ _ _ _ us hl => match us, hl with | [_], _ => rfl
  have q32 := PySem.W.mg_of X G a32
  have b33' := F33.binds (ps := ["_law_places_here"]) fun _ _ _ _ _ _ us hl => match us, hl with | [_], _ => rfl
  have q33 := PySem.W.mg_of X G a33
  have b34' := F34.binds (ps := ["_law_places_here", "_law_words_here"]) fun _ _ _ _ _ _ us hl => match us, hl with | [_, _], _ => rfl
  have q34 := PySem.W.mg_of X G a34
  have b35' := F35.binds (ps := ["_law_label", "_law_row_here"]) fun _ _ _ _ _ _ us hl => match us, hl with | [_, _], _ => rfl
  have q35 := PySem.W.mg_of X G a35
  have m1 := PySem.W.mg_none_of X G z1
  have m2 := PySem.W.mg_none_of X G z2
  have m3 := PySem.W.mg_none_of X G z3
  have m4 := PySem.W.mg_none_of X G z4
  have m5 := PySem.W.mg_none_of X G z5
  have m6 := PySem.W.mg_none_of X G z6
  have m7 := PySem.W.mg_none_of X G z7
  have m8 := PySem.W.mg_none_of X G z8
  have m9 := PySem.W.mg_none_of X G z9
  have m10 := PySem.W.mg_none_of X G z10
  have m11 := PySem.W.mg_none_of X G z11
  have m12 := PySem.W.mg_none_of X G z12
  have m13 := PySem.W.mg_none_of X G z13
  have m14 := PySem.W.mg_none_of X G z14
  have m15 := PySem.W.mg_none_of X G z15
  have m16 := PySem.W.mg_none_of X G z16
  have m17 := PySem.W.mg_none_of X G z17
  have m18 := PySem.W.mg_none_of X G z18
  refine ⟨PySem.W.fnOf "law" "law" (defArgs sLaw) (defBody sLaw) (defScope sLaw) .none kV36 dc36 pm36 an36 cd36 ct36, fun s v => .of_eq rfl, fun base _ _ => ?_⟩
  have TX : LTxt K C := ⟨⟨pg, hd, po, sa⟩, nL, nW, nP⟩
  have GisF := ok_isF (P := l.prog) (w := w) (mg := mg) (base := base) F4 F2 b2' q2 F1 b1' q1 m1 m2 m3 m4 m5 m6
  have GFT := ok_FT (P := l.prog) (w := w) (mg := mg) (base := base) F6 F5 b5' q5 m7 m1
  have GTT := ok_TT (P := l.prog) (w := w) (mg := mg) (base := base) F7 F6 b6' q6 GFT
  have GET := ok_ET (P := l.prog) (w := w) (mg := mg) (base := base) F8 F7 b7' q7 GTT
  have GLT := ok_texts (P := l.prog) (w := w) (mg := mg) (base := base) F10 b10' q10 F8 b8' q8 GET F11 b11' q11 4
  have GWT := ok_WT (P := l.prog) (w := w) (mg := mg) (base := base) F9 (PySem.W.mg_of X G vW)
  have GRT := ok_RT (P := l.prog) (w := w) (mg := mg) (base := base) F12 F11 b11' q11 GLT F9 b9' q9 GWT (by decide) m6
  have GNm := ok_nm (P := l.prog) (w := w) (mg := mg) (base := base) F13 m2 m7 m6 m18 (PySem.W.mg_of X G v1)
  have GSt := ok_st (P := l.prog) (w := w) (mg := mg) (base := base) F14 F4 b4' q4 GisF F3 b3' q3 m2 m5 m6
  have GFi := ok_fi (P := l.prog) (w := w) (mg := mg) (base := base) F15 m2 m5 m6
  have GFm := ok_fm (P := l.prog) (w := w) (mg := mg) (base := base) F16 F13 b13' q13 GNm F14 b14' q14 GSt F15 b15' q15 m2 m5 m6
  have GCL := ok_check (P := l.prog) (w := w) (mg := mg) (base := base) F17 b17' q17 F16 b16' q16 GFm m9 m6 (PySem.W.mg_of X G v2) 4
  have GCP := ok_CP (P := l.prog) (w := w) (mg := mg) (base := base) F18 F15 b15' q15 GFi F17 b17' q17 GCL
  have GCN := ok_CN (P := l.prog) (w := w) (mg := mg) (base := base) F19 F13 b13' q13 GNm m2 m10 m5 m9
  have GGa := ok_Ga (P := l.prog) (w := w) (mg := mg) (base := base) F20 b20' q20 m9 4
  have GIn := ok_in (P := l.prog) (w := w) (mg := mg) (base := base) FI TX F18 b18' q18 GCP F20 b20' q20 GGa F19 b19' q19 GCN m6 (PySem.W.mg_of X G v3) m5 m11 m12
  have GSr := ok_sr (P := l.prog) (w := w) (mg := mg) (base := base) Fm3 TX F12 b12' q12 GRT m7
  have GRp := ok_rp (P := l.prog) (w := w) (mg := mg) (base := base) Fm4 TX F12 b12' q12 GRT
  have GCe := ok_ce (P := l.prog) (w := w) (mg := mg) (base := base) F21 m6
  have GPo := ok_po (P := l.prog) (w := w) (mg := mg) (base := base) F22 m1 m16
  have GDw := ok_dw (P := l.prog) (w := w) (mg := mg) (base := base) F23 m8
  have GSh := ok_sh (P := l.prog) (w := w) (mg := mg) (base := base) F25 F23 b23' q23 F24 b24' q24 m8
  have GTo := ok_to (P := l.prog) (w := w) (mg := mg) (base := base) F26 F23 b23' q23 F25 b25' q25 GSh m8
  have GNa := ok_na (P := l.prog) (w := w) (mg := mg) (base := base) F27 F23 b23' q23 m8 m13
  have GPl := ok_pl (P := l.prog) (w := w) (mg := mg) (base := base) F28 b28' q28 F23 b23' q23 F27 b27' q27 GNa F26 b26' q26 GTo F29 b29' q29 m14 m8 m13 m15 m6 m5
  have GWo := ok_wo (P := l.prog) (w := w) (mg := mg) (base := base) F30 F23 b23' q23 F27 b27' q27 GNa m8 m13
  have GBh := ok_bh (P := l.prog) (w := w) (mg := mg) (base := base) F32 F31 b31' q31 m7
  have GPr := ok_pr (P := l.prog) (w := w) (mg := mg) (base := base) F33 b33' q33 F32 b32' q32 GBh 4
  have GRw := ok_rw (P := l.prog) (w := w) (mg := mg) (base := base) F34 F33 b33' q33 GPr m11
  have GRi := ok_ri (P := l.prog) (w := w) (mg := mg) (base := base) F35 TX Fm3 bm3 ⟨am3, im3, km3⟩ GSr Fm4 bm4 ⟨am4, im4, km4⟩ GRp Fm1 bm1 ⟨am1, im1, km1⟩ Fm2 bm2 ⟨am2, im2, km2⟩ m7 m17 m13 m10
  exact ok_law F36 F21 b21' q21 GCe F22 b22' q22 GPo F28 b28' q28 GPl F30 b30' q30 GWo F23 b23' q23 GDw F34 b34' q34 GRw F35 b35' q35 GRi ⟨mk, aI, iI, kc⟩ (PySem.W.mg_of X G aC) GIn b3 b2 r2 m10 m5 m2
end G
set_option Elab.async false
set_option linter.all false
open PySem PySem.W PyProof.Rows
set_option maxRecDepth 100000 in
set_option maxHeartbeats 0 in
theorem PySem.Challenge.cw_stufflists_k21_rows_written_holds : PySem.Challenge.rw_stufflists_k21_rows_written.Holds := by
  w_on; o_law; k_head; (case hw => w_witness2)
  k_fill
  refine L2.walk_of (l := PySem.Challenge.rw_stufflists_k21_rows_written) (n := 63) (k := 18) (x := "_law_script") (CX := fun _ => L2.CX0) (sp := fun w => G.spLaw _) rfl (by decide) rfl ⟨rfl, by decide, by decide⟩ (fun w h Y => PySem.W.kIn_of Y) ?F (fun _ _ a ns hl _ hS => ⟨a, ns, rfl, hS, hl, fun _ => rfl⟩) (fun _ _ _ _ _ h => h)
  case F =>
    intro w mg fa h KX GN hmg
    refine' G.all_mk KX GN hmg ?a1 ?l1 ?c1 ?k1 ?a2 ?l2 ?c2 ?k2 ?a3 ?l3 ?c3 ?k3 ?a4 ?l4 ?c4 ?k4 ?a5 ?l5 ?c5 ?k5 ?a6 ?l6 ?c6 ?k6 ?a7 ?l7 ?c7 ?k7 ?a8 ?l8 ?c8 ?k8 ?a9 ?l9 ?c9 ?k9 ?a10 ?l10 ?c10 ?k10 ?a11 ?l11 ?c11 ?k11 ?a12 ?l12 ?c12 ?k12 ?a13 ?l13 ?c13 ?k13 ?a14 ?l14 ?c14 ?k14 ?a15 ?l15 ?c15 ?k15 ?a16 ?l16 ?c16 ?k16 ?a17 ?l17 ?c17 ?k17 ?a18 ?l18 ?c18 ?k18 ?a19 ?l19 ?c19 ?k19 ?a20 ?l20 ?c20 ?k20 ?a21 ?l21 ?c21 ?k21 ?a22 ?l22 ?c22 ?k22 ?a23 ?l23 ?c23 ?k23 ?a24 ?l24 ?c24 ?k24 ?a25 ?l25 ?c25 ?k25 ?a26 ?l26 ?c26 ?k26 ?a27 ?l27 ?c27 ?k27 ?a28 ?l28 ?c28 ?k28 ?a29 ?l29 ?c29 ?k29 ?a30 ?l30 ?c30 ?k30 ?a31 ?l31 ?c31 ?k31 ?a32 ?l32 ?c32 ?k32 ?a33 ?l33 ?c33 ?k33 ?a34 ?l34 ?c34 ?k34 ?a35 ?l35 ?c35 ?k35 ?a36 ?l36 ?c36 ?k36 ?aC ?am1 ?im1 ?lm1 ?cm1 ?km1 ?am2 ?im2 ?lm2 ?cm2 ?km2 ?am3 ?im3 ?lm3 ?cm3 ?km3 ?am4 ?im4 ?lm4 ?cm4 ?km4 ?aI ?iI ?lI ?cI ?kI ?lT ?pg ?hd ?po ?sa ?mk ?kc ?nL ?nW ?nP ?z1 ?z2 ?z3 ?z4 ?z5 ?z6 ?z7 ?z8 ?z9 ?z10 ?z11 ?z12 ?z13 ?z14 ?z15 ?z16 ?z17 ?z18 ?v1 ?v2 ?v3 ?vW
    (case a1 => first | k_is | rfl)
    (case l1 => first | k_is | rfl)
    (case c1 => first | k_is | rfl)
    (case k1 => first | k_is | rfl)
    (case a2 => first | k_is | rfl)
    (case l2 => first | k_is | rfl)
    (case c2 => first | k_is | rfl)
    (case k2 => first | k_is | rfl)
    (case a3 => first | k_is | rfl)
    (case l3 => first | k_is | rfl)
    (case c3 => first | k_is | rfl)
    (case k3 => first | k_is | rfl)
    (case a4 => first | k_is | rfl)
    (case l4 => first | k_is | rfl)
    (case c4 => first | k_is | rfl)
    (case k4 => first | k_is | rfl)
    (case a5 => first | k_is | rfl)
    (case l5 => first | k_is | rfl)
    (case c5 => first | k_is | rfl)
    (case k5 => first | k_is | rfl)
    (case a6 => first | k_is | rfl)
    (case l6 => first | k_is | rfl)
    (case c6 => first | k_is | rfl)
    (case k6 => first | k_is | rfl)
    (case a7 => first | k_is | rfl)
    (case l7 => first | k_is | rfl)
    (case c7 => first | k_is | rfl)
    (case k7 => first | k_is | rfl)
    (case a8 => first | k_is | rfl)
    (case l8 => first | k_is | rfl)
    (case c8 => first | k_is | rfl)
    (case k8 => first | k_is | rfl)
    (case a9 => first | k_is | rfl)
    (case l9 => first | k_is | rfl)
    (case c9 => first | k_is | rfl)
    (case k9 => first | k_is | rfl)
    (case a10 => first | k_is | rfl)
    (case l10 => first | k_is | rfl)
    (case c10 => first | k_is | rfl)
    (case k10 => first | k_is | rfl)
    (case a11 => first | k_is | rfl)
    (case l11 => first | k_is | rfl)
    (case c11 => first | k_is | rfl)
    (case k11 => first | k_is | rfl)
    (case a12 => first | k_is | rfl)
    (case l12 => first | k_is | rfl)
    (case c12 => first | k_is | rfl)
    (case k12 => first | k_is | rfl)
    (case a13 => first | k_is | rfl)
    (case l13 => first | k_is | rfl)
    (case c13 => first | k_is | rfl)
    (case k13 => first | k_is | rfl)
    (case a14 => first | k_is | rfl)
    (case l14 => first | k_is | rfl)
    (case c14 => first | k_is | rfl)
    (case k14 => first | k_is | rfl)
    (case a15 => first | k_is | rfl)
    (case l15 => first | k_is | rfl)
    (case c15 => first | k_is | rfl)
    (case k15 => first | k_is | rfl)
    (case a16 => first | k_is | rfl)
    (case l16 => first | k_is | rfl)
    (case c16 => first | k_is | rfl)
    (case k16 => first | k_is | rfl)
    (case a17 => first | k_is | rfl)
    (case l17 => first | k_is | rfl)
    (case c17 => first | k_is | rfl)
    (case k17 => first | k_is | rfl)
    (case a18 => first | k_is | rfl)
    (case l18 => first | k_is | rfl)
    (case c18 => first | k_is | rfl)
    (case k18 => first | k_is | rfl)
    (case a19 => first | k_is | rfl)
    (case l19 => first | k_is | rfl)
    (case c19 => first | k_is | rfl)
    (case k19 => first | k_is | rfl)
    (case a20 => first | k_is | rfl)
    (case l20 => first | k_is | rfl)
    (case c20 => first | k_is | rfl)
    (case k20 => first | k_is | rfl)
    (case a21 => first | k_is | rfl)
    (case l21 => first | k_is | rfl)
    (case c21 => first | k_is | rfl)
    (case k21 => first | k_is | rfl)
    (case a22 => first | k_is | rfl)
    (case l22 => first | k_is | rfl)
    (case c22 => first | k_is | rfl)
    (case k22 => first | k_is | rfl)
    (case a23 => first | k_is | rfl)
    (case l23 => first | k_is | rfl)
    (case c23 => first | k_is | rfl)
    (case k23 => first | k_is | rfl)
    (case a24 => first | k_is | rfl)
    (case l24 => first | k_is | rfl)
    (case c24 => first | k_is | rfl)
    (case k24 => first | k_is | rfl)
    (case a25 => first | k_is | rfl)
    (case l25 => first | k_is | rfl)
    (case c25 => first | k_is | rfl)
    (case k25 => first | k_is | rfl)
    (case a26 => first | k_is | rfl)
    (case l26 => first | k_is | rfl)
    (case c26 => first | k_is | rfl)
    (case k26 => first | k_is | rfl)
    (case a27 => first | k_is | rfl)
    (case l27 => first | k_is | rfl)
    (case c27 => first | k_is | rfl)
    (case k27 => first | k_is | rfl)
    (case a28 => first | k_is | rfl)
    (case l28 => first | k_is | rfl)
    (case c28 => first | k_is | rfl)
    (case k28 => first | k_is | rfl)
    (case a29 => first | k_is | rfl)
    (case l29 => first | k_is | rfl)
    (case c29 => first | k_is | rfl)
    (case k29 => first | k_is | rfl)
    (case a30 => first | k_is | rfl)
    (case l30 => first | k_is | rfl)
    (case c30 => first | k_is | rfl)
    (case k30 => first | k_is | rfl)
    (case a31 => first | k_is | rfl)
    (case l31 => first | k_is | rfl)
    (case c31 => first | k_is | rfl)
    (case k31 => first | k_is | rfl)
    (case a32 => first | k_is | rfl)
    (case l32 => first | k_is | rfl)
    (case c32 => first | k_is | rfl)
    (case k32 => first | k_is | rfl)
    (case a33 => first | k_is | rfl)
    (case l33 => first | k_is | rfl)
    (case c33 => first | k_is | rfl)
    (case k33 => first | k_is | rfl)
    (case a34 => first | k_is | rfl)
    (case l34 => first | k_is | rfl)
    (case c34 => first | k_is | rfl)
    (case k34 => first | k_is | rfl)
    (case a35 => first | k_is | rfl)
    (case l35 => first | k_is | rfl)
    (case c35 => first | k_is | rfl)
    (case k35 => first | k_is | rfl)
    (case a36 => first | k_is | rfl)
    (case l36 => first | k_is | rfl)
    (case c36 => first | k_is | rfl)
    (case k36 => first | k_is | rfl)
    (case aC => first | k_is | rfl)
    (case am1 => first | k_is | rfl)
    (case im1 => first | k_is | rfl)
    (case lm1 => first | k_is | rfl)
    (case cm1 => first | k_is | rfl)
    (case km1 => first | k_is | rfl)
    (case am2 => first | k_is | rfl)
    (case im2 => first | k_is | rfl)
    (case lm2 => first | k_is | rfl)
    (case cm2 => first | k_is | rfl)
    (case km2 => first | k_is | rfl)
    (case am3 => first | k_is | rfl)
    (case im3 => first | k_is | rfl)
    (case lm3 => first | k_is | rfl)
    (case cm3 => first | k_is | rfl)
    (case km3 => first | k_is | rfl)
    (case am4 => first | k_is | rfl)
    (case im4 => first | k_is | rfl)
    (case lm4 => first | k_is | rfl)
    (case cm4 => first | k_is | rfl)
    (case km4 => first | k_is | rfl)
    (case aI => first | k_is | rfl)
    (case iI => first | k_is | rfl)
    (case lI => first | k_is | rfl)
    (case cI => first | k_is | rfl)
    (case kI => first | k_is | rfl)
    (case lT => first | k_is | rfl)
    (case pg => first | k_is | rfl)
    (case hd => first | k_is | rfl)
    (case po => first | k_is | rfl)
    (case sa => first | k_is | rfl)
    (case mk => first | k_is | rfl)
    (case kc => first | k_is | rfl)
    (case nL => first | k_is | rfl)
    (case nW => first | k_is | rfl)
    (case nP => first | k_is | rfl)
    (case z1 => first | k_is | rfl)
    (case z2 => first | k_is | rfl)
    (case z3 => first | k_is | rfl)
    (case z4 => first | k_is | rfl)
    (case z5 => first | k_is | rfl)
    (case z6 => first | k_is | rfl)
    (case z7 => first | k_is | rfl)
    (case z8 => first | k_is | rfl)
    (case z9 => first | k_is | rfl)
    (case z10 => first | k_is | rfl)
    (case z11 => first | k_is | rfl)
    (case z12 => first | k_is | rfl)
    (case z13 => first | k_is | rfl)
    (case z14 => first | k_is | rfl)
    (case z15 => first | k_is | rfl)
    (case z16 => first | k_is | rfl)
    (case z17 => first | k_is | rfl)
    (case z18 => first | k_is | rfl)
    (case v1 => first | k_is | rfl)
    (case v2 => first | k_is | rfl)
    (case v3 => first | k_is | rfl)
    (case vW => first | k_is | rfl)
