import PyProof.Rows.All
import Wide.All
import OpenK.AllK
import Wide.FinOn
import HandS.ForMost
import HandS.ForExc
import HandS.Wide
import HandS.WideBits
import HandS.IsInst
import HandS.ExcIs
import HandS.CallSlots
import HandS.Defaults
import HandS.StrMore
import HandS.Style
import HandS.Flow
import HandS.Walk
import HandS.Codes
import PySem.Challenge.RW_stufflists_k13_names_and_stretches_judge
set_option Elab.async false
set_option linter.all false
set_option maxRecDepth 100000
namespace G
open PySem PySem.Spec PyProof.Rows L2
/-! ### numbers -/
def CDivG (_ j : Int) : Prop := j ≠ 0 ∧ j.natAbs.log2 < 9000
theorem op_fdivG {X : Cx} : OpR X (binaryOp .FloorDiv) (rI CDivG fun i j => .int (i.fdiv j)) := opI fun _ _ _ _ _ _ _ hc q => floordiv_int hc.1 q (.inl (PyProof.noPylong_of_log2 hc.2))
theorem CDivG.of {i j : Int} {b : Nat} (h : j ≠ 0) (hb : j.natAbs < 2 ^ b) (h0 : 0 < b) (h9 : b ≤ 9000) : CDivG i j := ⟨h, Nat.lt_of_lt_of_le (PySem.Flt.log2_lt_of h0 hb) h9⟩
def gc (a b : Int) : Nat := Nat.gcd a.natAbs b.natAbs
def ms (a b : Int) : Int := if b < 0 then -(gc a b : Int) else (gc a b : Int)
def low1 (a b : Int) : Int := a.fdiv (ms a b)
def low2 (a b : Int) : Int := b.fdiv (ms a b)
def isFr (a b : Int) : Bool := decide (0 < b) && decide (gc a b = 1)
theorem gc_pos {a b : Int} (h : b ≠ 0) : 0 < gc a b := Nat.gcd_pos_of_pos_right _ (by omega)
theorem ms_ne {a b : Int} (h : b ≠ 0) : ms a b ≠ 0 := by
  have := gc_pos (a := a) h
  unfold ms
  split <;> omega
theorem gc_dvd1 (a b : Int) : (gc a b : Int) ∣ a := Int.ofNat_dvd_left.mpr (Nat.gcd_dvd_left _ _)
theorem gc_dvd2 (a b : Int) : (gc a b : Int) ∣ b := Int.ofNat_dvd_left.mpr (Nat.gcd_dvd_right _ _)
theorem ms_dvd1 (a b : Int) : ms a b ∣ a := by
  unfold ms
  split
  · exact Int.neg_dvd.mpr (gc_dvd1 a b)
  · exact gc_dvd1 a b
theorem ms_dvd2 (a b : Int) : ms a b ∣ b := by
  unfold ms
  split
  · exact Int.neg_dvd.mpr (gc_dvd2 a b)
  · exact gc_dvd2 a b
theorem low1_mul (a b : Int) : ms a b * low1 a b = a := by
  unfold low1
  rw [Int.fdiv_eq_ediv_of_dvd (ms_dvd1 a b)]
  exact Int.mul_ediv_cancel' (ms_dvd1 a b)
theorem low2_mul (a b : Int) : ms a b * low2 a b = b := by
  unfold low2
  rw [Int.fdiv_eq_ediv_of_dvd (ms_dvd2 a b)]
  exact Int.mul_ediv_cancel' (ms_dvd2 a b)
theorem ms_natAbs (a b : Int) : (ms a b).natAbs = gc a b := by
  unfold ms
  split <;> omega
theorem low_cross (a b : Int) (h : b ≠ 0) : low1 a b * b = low2 a b * a := by
  have e1 := low1_mul a b
  have e2 := low2_mul a b
  have : low1 a b * (ms a b * low2 a b) = low2 a b * (ms a b * low1 a b) := by
    rw [← Int.mul_assoc, ← Int.mul_assoc, Int.mul_comm (low1 a b) (ms a b), Int.mul_comm (low2 a b) (ms a b), Int.mul_assoc, Int.mul_assoc, Int.mul_comm (low1 a b)]
  rw [e1, e2] at this
  exact this
theorem low2_pos {a b : Int} (h : b ≠ 0) : 0 < low2 a b := by
  have e2 := low2_mul a b
  have g := gc_pos (a := a) h
  by_cases hb : b < 0
  · have em : ms a b = -(gc a b : Int) := if_pos hb
    rw [em] at e2
    by_cases hz : 0 < low2 a b
    · exact hz
    · have h1 : 0 ≤ (gc a b : Int) * -(low2 a b) := Int.mul_nonneg (by omega) (by omega)
      rw [Int.mul_neg] at h1
      rw [Int.neg_mul] at e2
      omega
  · have em : ms a b = (gc a b : Int) := if_neg hb
    rw [em] at e2
    by_cases hz : 0 < low2 a b
    · exact hz
    · have h1 : 0 ≤ (gc a b : Int) * -(low2 a b) := Int.mul_nonneg (by omega) (by omega)
      rw [Int.mul_neg] at h1
      omega
theorem low1_abs (a b : Int) : gc a b * (low1 a b).natAbs = a.natAbs := by
  have e := congrArg Int.natAbs (low1_mul a b)
  rw [Int.natAbs_mul, ms_natAbs] at e
  exact e
theorem low2_abs (a b : Int) : gc a b * (low2 a b).natAbs = b.natAbs := by
  have e := congrArg Int.natAbs (low2_mul a b)
  rw [Int.natAbs_mul, ms_natAbs] at e
  exact e
theorem low_gc {a b : Int} (h : b ≠ 0) : gc (low1 a b) (low2 a b) = 1 := by
  have g := gc_pos (a := a) h
  have e1 := low1_abs a b
  have e2 := low2_abs a b
  have f1 : (low1 a b).natAbs = a.natAbs / gc a b := by
    rw [← e1, Nat.mul_div_cancel_left _ g]
  have f2 : (low2 a b).natAbs = b.natAbs / gc a b := by
    rw [← e2, Nat.mul_div_cancel_left _ g]
  show Nat.gcd (low1 a b).natAbs (low2 a b).natAbs = 1
  rw [f1, f2]
  exact Nat.gcd_div_gcd_div_gcd_of_pos_right (by omega)
theorem low1_le {a b : Int} (h : b ≠ 0) : (low1 a b).natAbs ≤ a.natAbs := by
  have g := gc_pos (a := a) h
  have e1 := low1_abs a b
  calc (low1 a b).natAbs ≤ gc a b * (low1 a b).natAbs := Nat.le_mul_of_pos_left _ g
    _ = a.natAbs := e1
theorem low2_le {a b : Int} (h : b ≠ 0) : (low2 a b).natAbs ≤ b.natAbs := by
  have g := gc_pos (a := a) h
  have e1 := low2_abs a b
  calc (low2 a b).natAbs ≤ gc a b * (low2 a b).natAbs := Nat.le_mul_of_pos_left _ g
    _ = b.natAbs := e1
theorem low_fr {a b : Int} (h : b ≠ 0) : isFr (low1 a b) (low2 a b) = true := by
  unfold isFr
  rw [decide_eq_true (low2_pos h), decide_eq_true (low_gc h)]
  rfl
/-- of a fraction the lowest terms are itself -/
theorem low_self {a b : Int} (hb : 0 < b) : (low1 a b = a ∧ low2 a b = b) ↔ gc a b = 1 := by
  have e1 := low1_mul a b
  have e2 := low2_mul a b
  have em : ms a b = (gc a b : Int) := if_neg (by omega)
  rw [em] at e1 e2
  constructor
  · rintro ⟨_, h2⟩
    rw [h2] at e2
    have : ((gc a b : Int) - 1) * b = 0 := by
      rw [Int.sub_mul, e2]
      omega
    rcases Int.mul_eq_zero.mp this with h | h
    · omega
    · omega
  · intro h
    rw [h] at e1 e2
    omega
theorem gc_step {x y : Int} (hx : 0 ≤ x) (hy : 0 < y) : gc y (x % y) = gc x y := by
  have h1 : (x % y).natAbs = x.natAbs % y.natAbs := Int.natAbs_emod_of_nonneg hx y
  unfold gc
  rw [h1, Nat.gcd_comm x.natAbs y.natAbs, Nat.gcd_rec y.natAbs x.natAbs, Nat.gcd_comm]
/-! ### heaps -/
theorem same_upd {H : Hp} {p : Addr} {o : HO} (h : H p = none) : Same H (upd H p o) := fun b x e => by
  rw [upd_ne (ne_of_none e h)]
  exact e
def Keep (p : Addr) (H H' : Hp) : Prop := ∀ b o, b ≠ p → H b = some o → H' b = some o
def Pot (H : Hp) (p : Addr) : Prop := ∃ a b : Int, H p = some (.lst [.int a, .int b]) ∧ 0 ≤ a ∧ 0 ≤ b ∧ b < 2147483647
theorem Keep.refl {p : Addr} {H : Hp} : Keep p H H := fun _ _ _ h => h
theorem Keep.trans {p : Addr} {H H1 H2 : Hp} (a : Keep p H H1) (b : Keep p H1 H2) : Keep p H H2 := fun c o n h => b c o n (a c o n h)
theorem same_keep {p : Addr} {H H1 : Hp} (a : Same H H1) : Keep p H H1 := fun c o _ h => a c o h
theorem Pot.same {p : Addr} {H H1 : Hp} (h : Pot H p) (a : Same H H1) : Pot H1 p := by
  obtain ⟨x, y, e, r⟩ := h
  exact ⟨x, y, a _ _ e, r⟩
theorem Pot.ne {p q : Addr} {H : Hp} (h : Pot H p) (n : H q = none) : p ≠ q := by
  obtain ⟨x, y, e, r⟩ := h
  exact ne_of_none e n
theorem keep_upd {p : Addr} {H : Hp} {o : HO} : Keep p H (upd H p o) := fun b x n e => by
  rw [upd_ne n]
  exact e
/-- a new thing behind draws is none that was -/
theorem Keep.free {p q : Addr} {H H' : Hp} (k : Keep p H H') (h : Pot H' p) (n : H' q = none) : H q = none := by
  cases e : H q with
  | none => rfl
  | some o =>
    by_cases z : q = p
    · subst z
      obtain ⟨_, _, f, _⟩ := h
      rw [f] at n
      cases n
    · rw [k q o z e] at n
      cases n
/-! ### things whose kind is known -/
inductive Kd (H : Hp) : V → Prop where
  | non : Kd H .non
  | bl (b : Bool) : Kd H (.bl b)
  | int (i : Int) : Kd H (.int i)
  | str (x : Str) : Kd H (.str x)
  | lst {a : Addr} {xs : List V} : H a = some (.lst xs) → Kd H (.ref a)
  | tup {a : Addr} {xs : List V} : H a = some (.tup xs) → (∀ x ∈ xs, Kd H x) → Kd H (.ref a)
  | dK {a : Addr} {kvs : List (Key × V)} : H a = some (.dK kvs) → Kd H (.ref a)
theorem Kd.same {H H' : Hp} {x : V} (k : Kd H x) (s : Same H H') : Kd H' x := by
  induction k with
  | non => exact .non
  | bl b => exact .bl b
  | int i => exact .int i
  | str x => exact .str x
  | lst e => exact .lst (s _ _ e)
  | tup e _ ih => exact .tup (s _ _ e) ih
  | dK e => exact .dK (s _ _ e)
def tyN (H : Hp) : V → String
  | .non => "NoneType"
  | .bl _ => "bool"
  | .int _ => "int"
  | .str _ => "str"
  | .ref a => match H a with
    | some (.lst _) => "list"
    | some (.tup _) => "tuple"
    | _ => "dict"
  | _ => "dict"
theorem tyN_lst {H : Hp} {a : Addr} {xs : List V} (e : H a = some (.lst xs)) : tyN H (.ref a) = "list" := by simp only [tyN, e]
theorem tyN_tup {H : Hp} {a : Addr} {xs : List V} (e : H a = some (.tup xs)) : tyN H (.ref a) = "tuple" := by simp only [tyN, e]
theorem tyN_dK {H : Hp} {a : Addr} {kvs : List (Key × V)} (e : H a = some (.dK kvs)) : tyN H (.ref a) = "dict" := by simp only [tyN, e]
theorem Kd.ty {K : PySem.W.Frag} {H : Hp} {x : V} (k : Kd H x) : TyX K H x (.type (tyN H x)) := by
  cases k with
  | non => exact .base .non
  | bl b => exact .base (.bl b)
  | int i => exact .base (.int i)
  | str z => exact .base (.str z)
  | lst e =>
    rw [tyN_lst e]
    exact .base (.lst e)
  | tup e _ =>
    rw [tyN_tup e]
    exact .base (.tup e)
  | dK e =>
    rw [tyN_dK e]
    exact .base (.dK e)
theorem Kd.tyN_mem {H : Hp} {x : V} (k : Kd H x) : tyN H x ∈ ["NoneType", "bool", "int", "str", "list", "tuple", "dict"] := by
  cases k with
  | non => exact .head _
  | bl b => exact .tail _ (.head _)
  | int i => exact .tail _ (.tail _ (.head _))
  | str z => exact .tail _ (.tail _ (.tail _ (.head _)))
  | lst e =>
    rw [tyN_lst e]
    decide
  | tup e _ =>
    rw [tyN_tup e]
    decide
  | dK e =>
    rw [tyN_dK e]
    decide
def sub (t n : String) : Bool := t == n || (t == "bool" && n == "int")
theorem kit7 {t n : String} (ht : t ∈ ["NoneType", "bool", "int", "str", "list", "tuple", "dict"]) (hn : n ∈ ["bool", "int", "str", "tuple", "list", "dict"]) : kitB t n = some (sub t n) := by
  simp only [List.mem_cons, List.not_mem_nil, or_false] at ht hn
  rcases ht with rfl | rfl | rfl | rfl | rfl | rfl | rfl <;> rcases hn with rfl | rfl | rfl | rfl | rfl | rfl <;> decide +kernel
/-- isinstance(x, n) of such a thing -/
theorem isi {K : PySem.W.Frag} {H : Hp} {x : V} {n : String} {Q : VK} (k : Kd H x) (hn : n ∈ ["bool", "int", "str", "tuple", "list", "dict"]) (q : Q (.bl (sub (tyN H x) n)) H) : rIsi K [x, .ty n] H Q :=
  ⟨x, .ty n, _, _, _, rfl, .ty n, k.ty, kit_ty (kit7 k.tyN_mem hn), q⟩
/-- whether it is a fraction -/
def frB (H : Hp) : V → Bool
  | .ref a => match H a with
    | some (.tup [.int i, .int j]) => isFr i j
    | _ => false
  | _ => false
end G
set_option Elab.async false
set_option linter.all false
set_option maxRecDepth 100000
set_option maxHeartbeats 1000000
/-! repr of data, where no repr is under way: a def's promise for such arounds alone, and a law's end by it -/
namespace G
open PySem PySem.Spec PyProof.Rows L2
theorem cr_repr {X : Cx} (hg : X.A.guards = some []) (hu : X.A.units + 64 < cLine) : CallR X (.builtin "repr") (fun xs H Q => ∃ (a : Addr) (d : PyData), xs = [.ref a] ∧ Dp X.K H (.ref a) d ∧ d.showable = true ∧ d.hasDict = false ∧ d.depth ≤ 50 ∧ d.shown.length ≤ sizeLine ∧ Q (.str d.shown) H) := by
  intro pins s σ H xs us Q I r h
  obtain ⟨a, d, rfl, hd, hs, hn, hdp, hz, q⟩ := h
  obtain ⟨u, rfl, ru⟩ := vals1 r
  cases ru
  obtain ⟨as, rd⟩ := Dp.reads I d (.ref a) (.ref a) hd rfl
  exact repr_of_reads' rd hs (fun z => by rw [hn] at z; cases z) hg (by omega) (fun _ _ e => e) (fun h' u tk hk => ⟨.str d.shown, H, I.kept (t' := tk) hk, ⟨u, rfl⟩, q⟩) hz
structure FnG (P : Program) (w : World) (K : PySem.W.Frag) (mg : Str → Option Value) (base : Heap) (k : Nat) (f : Addr) (fd : FuncData) (ps : List Str) (sp : Sp) : Prop where
  run : ∀ (A : Around) (outer : List Env) (s : Shared) (H : Hp) (args : Args) (us : List Value) (vs : List V) (Q : VK) (E : XK), A.guards = some [] → Room k A → Env0 P w K mg base A outer s H → BindsTo s fd args (ps.zip us) → Vals vs us → sp vs H Q E →
    codeAny (model P w) A (.call (.ref f) args) (CR CX0 outer P w H s Q E) s
theorem Fun.okG {P : Program} {w : World} {K : PySem.W.Frag} {mg : Str → Option Value} {base : Heap} {x qual : Str} {st : Stmt} {f : Addr} {fd : FuncData} {N ps : List Str} {k : Nat} {sp : Sp} (F : L2.Fun K x qual st f fd) (S : FnScope N ps (defScope st)) (len : ∀ vs H Q E, sp vs H Q E → vs.length = ps.length)
    (hbody : ∀ (cdv : Value) (A : Around) (outer : List Env) (s : Shared) (H : Hp) (vs : List V) (Q : VK) (E : XK), (A.deeper (envOfC qual (defScope st) s.heap.objs.size f cdv)).guards = some [] → Room k (A.deeper (envOfC qual (defScope st) s.heap.objs.size f cdv)) → sp vs H Q E →
      ∃ t, PSs (cxOf CX0 P w K mg base N qual (defScope st) f cdv A outer s H E).nox (defBody st) t ∧ t { nx := fun _ H' => Q .non H', rt := Q } (start N vs) H) : FnG P w K mg base (k + 1) f fd ps sp := by
  obtain ⟨c0, d0, k0, dc, pm, an, cdv, ct, sl, rfl, lk, hcd⟩ := F.ex
  refine ⟨fun A outer s H args us vs Q E gA hr e0 hb r hsp => ?_⟩
  have kin : K.In s.heap := e0.mod.kin.keeps fun b o e => (e0.bs b o e).1
  have lim : s.heap.NoLimit := e0.mod.nolimit.keeps fun b o e => (e0.bs b o e).1
  have kinds : ∀ y ∈ ps.zip us, (defScope st).names.lookup y.1 = some .local ∨ ((defScope st).names.lookup y.1 = some .cell ∧ ((cellsFrom (s.heap.objs.size + 1) (defScope st).names []).lookup y.1).isSome = true) := fun ⟨n, v⟩ hy =>
    (S.par n (List.of_mem_zip hy).1).elim .inl fun q => .inr ⟨q, PySem.W.cellsFrom_some _ _ _ (.inl q)⟩
  refine codeAny_call_function hr.depth (kin _ _ lk) rfl S.co S.gen rfl (PySem.W.codeRec_of kin hcd) (hb _ _ _ _ (wpAny_newFunctionEnv_cells S.kind kinds fun env he s1 x => ?_))
  subst he
  obtain ⟨t, ht, hq⟩ := hbody cdv A outer s H vs Q E gA (hr.deeper _) hsp
  have I : Inv (cxOf CX0 P w K mg base N qual (defScope st) f cdv A outer s H E) [] (start N vs) H s1 := inv_start S hr.hd e0 (len _ _ _ _ hsp) r x
  refine ⟨lim.keeps x.toInCall.keep, codeAny_func (wpAny_mono (ht.nox.run [] s1 (start N vs) H _ I hq) (fun fl s' hs => ?_) fun e s' hs => hs)⟩
  cases fl with
  | brk => exact hs.elim fun _ hs => hs.elim fun _ hs => hs.2.elim
  | cont => exact hs.elim fun _ hs => hs.elim fun _ hs => hs.2.elim
  | ret u =>
    obtain ⟨v, σ', H', J, rv, q⟩ := hs
    exact ⟨v, H', J.os, J.bare, J.base, J.hok, rv, q⟩
  | next =>
    obtain ⟨σ', H', J, q⟩ := hs
    exact ⟨.non, H', J.os, J.bare, J.base, J.hok, rfl, q⟩
theorem law_callG {P : Program} {w : World} {K : PySem.W.Frag} {mg mb : Str → Option Value} {k : Nat} {fa a : Addr} {fd : FuncData} {x : Str} {sp : Sp} {s₁ : Shared} {vs : List Value} {ns : List Int}
    (kin : K.In s₁.heap) (hns : s₁.heap.Ns mainGlobals mg) (hb : s₁.heap.Ns builtinsNs mb) (hbb : ∀ x : Str, x ≠ "__name__" → mb x = bootBuiltins x) (hlim : s₁.heap.NoLimit) (hg : s₁.gens = #[]) (ha : s₁.heap.get? a = some { cls := .type "list", data := .seq vs.toArray }) (hi : IntsAre vs ns) (hl : ns.length ≤ sizeLine) (hr : Room k callerA)
    (F : ∀ base : Heap, K.In base → base.Ns mainGlobals mg → FnG P w K mg base k fa fd [x] sp) (hbind : ∀ (s : Shared) (u : Value), BindsTo s fd ⟨[u], []⟩ [(x, u)]) (hsp : ∀ H : Hp, Only H → SqL K H a (ns.map V.int) → sp [.ref a] H (fun v _ => v = .bl true) fun _ _ _ => False) :
    codeAny (model P w) callerA (.call (.ref fa) ⟨[.ref a], []⟩) (fun r s' => r = .ok (.ret (.bool true)) ∧ OldK s₁.heap s'.heap ∧ s'.os = s₁.os ∧ AllBare s'.gens) s₁ := by
  have rv := vals_ints hi
  have lv := hi.length
  suffices core : ∀ H : Hp, Only H → SqL K H a (ns.map V.int) → HOk P w H s₁.heap → (∀ b, H b ≠ none → b = a) → (H a ≠ none → K.lookup a = none) → codeAny (model P w) callerA (.call (.ref fa) ⟨[.ref a], []⟩) (fun r s' => r = .ok (.ret (.bool true)) ∧ OldK s₁.heap s'.heap ∧ s'.os = s₁.os ∧ AllBare s'.gens) s₁ by
    cases hk : K.lookup a with
    | some o =>
      have e := kin a o hk
      rw [ha] at e
      cases e
      refine core (fun _ => none) (fun _ => .inl rfl) (.inr ⟨_, vs.toArray, _, hk, rfl, rfl, rfl, ?_, by simpa using rv⟩) (fun b u z => by cases (show (none : Option HO) = some u from z)) (fun b z => (z rfl).elim) fun z => (z rfl).elim
      rw [List.size_toArray, lv]
      exact hl
    | none =>
      have at1 : ∀ b, b = a → (if b = a then some (HO.frz { cls := .type "list", data := .seq vs.toArray } (.lst (ns.map V.int))) else none) = some (HO.frz { cls := .type "list", data := .seq vs.toArray } (.lst (ns.map V.int))) := fun b z => if_pos z
      have at0 : ∀ b, b ≠ a → (if b = a then some (HO.frz { cls := .type "list", data := .seq vs.toArray } (.lst (ns.map V.int))) else none) = none := fun b z => if_neg z
      refine core (fun b => if b = a then some (.frz { cls := .type "list", data := .seq vs.toArray } (.lst (ns.map V.int))) else none) (fun b => ?_) (.inl (.inr ⟨_, at1 a rfl⟩)) (fun b u z => ?_) (fun b z => ?_) fun _ => hk
      · by_cases q : b = a
        · exact .inr ⟨_, _, at1 b q⟩
        · exact .inl (at0 b q)
      · by_cases q : b = a
        · cases (at1 b q).symm.trans z
          subst q
          exact ⟨ha, by rw [List.length_map]; exact hl, vs, _, rv, ha⟩
        · cases (at0 b q).symm.trans z
      · by_cases q : b = a
        · exact q
        · exact absurd (at0 b q) z
  intro H hO hS hok hA hK
  have below : ∀ {b : Addr} {o : Obj}, s₁.heap.get? b = some o → H b = none → (hidT s₁.heap H).get? b = some o := fun e n => hidT_get e n
  have isA : ∀ {b : Addr} {u : HO}, H b = some u → b = a := fun {b u} q => hA b (by rw [q]; simp)
  have dicts : ∀ {b : Addr} {o : Obj} {es : Array DictEntry} {ep : Nat}, s₁.heap.get? b = some o → o.data = .dict es ep → H b = none := fun {b o es ep} e d => by
    cases q : H b with
    | none => rfl
    | some u =>
      have z := isA q
      subst z
      rw [ha] at e
      cases e
      cases (show Data.seq vs.toArray _ = Data.dict es ep from d)
  have spaces : ∀ {b : Addr} {m : Str → Option Value}, s₁.heap.Ns b m → (hidT s₁.heap H).Ns b m := fun {b m} ⟨o, es, ep, e, d, r⟩ => ⟨o, es, ep, below e (dicts e d), d, r⟩
  have kinB : K.In (hidT s₁.heap H) := fun b o e => below (kin b o e) (by
    cases q : H b with
    | none => rfl
    | some u =>
      have z := isA q
      subst z
      rw [hK (by rw [q]; simp)] at e
      cases e)
  have md : Mod K mg (hidT s₁.heap H) := ⟨kinB, spaces hns, ⟨mb, spaces hb, hbb⟩, let ⟨mc, h1, h2⟩ := hlim; ⟨mc, spaces h1, h2⟩⟩
  have ev : Env0 P w K mg (hidT s₁.heap H) callerA [] s₁ H := ⟨rfl, md, fun b o e => of_hidT e, Nat.le_of_eq (hidT_size _ _), trivial, fun b hb => (by cases (show b ∈ ([] : List Addr) from hb)), hok, .of_eq hg⟩
  refine codeAny_mono ((F _ kinB (spaces hns)).run callerA [] s₁ H ⟨[.ref a], []⟩ [.ref a] [.ref a] _ _ rfl hr ev (hbind s₁ (.ref a)) (.cons rfl .nil) (hsp H hO hS)) fun r s' h => ?_
  cases r with
  | error e => exact h.elim
  | ok fl =>
    cases fl with
    | ret u =>
      obtain ⟨v, H', os, bare, un, hok', r', q⟩ := h
      cases (show v = .bl true from q)
      cases (show u = Value.bool true from r')
      refine ⟨rfl, OldK.of_keep fun b o e => ?_, os, bare⟩
      rcases hO b with z | ⟨ob, xs, z⟩
      · exact un.keep b o e z (fun y => by cases (show b ∈ ([] : List Addr) from y)) (by simp)
      · obtain ⟨e1, _⟩ := hok b _ z
        obtain ⟨e2, _⟩ := hok' b _ (un.frzs b ob _ z)
        rw [e] at e1
        cases e1
        exact e2
    | _ => exact h.elim
theorem walk_ofG {l : PySem.W.OpenLaw} {n k : Nat} {q : Program} {loose : List Str} {XP : (Str → Option Value) → Heap → Prop} {YP : World → Heap → Prop} {d : DefRec} {K : Params → PySem.W.Frag} {sp : World → Sp} {x : Str} (hn : l.most = some n) (hn2 : n ≤ sizeLine) (hdf : d.params.defaults = []) (hr : Room k callerA) (hY : ∀ (w : World) (h : Heap), YP w h → (K w.params).In h)
    (F : ∀ (w : World) (mg : Str → Option Value) (fa : Addr) (h : Heap), (K w.params).In h → h.Ns mainGlobals mg → mg d.name = some (.ref fa) → ∃ fd : FuncData, (∀ (s : Shared) (u : Value), BindsTo s fd ⟨[u], []⟩ [(x, u)]) ∧ ∀ base : Heap, (K w.params).In base → base.Ns mainGlobals mg → FnG l.prog w (K w.params) mg base k fa fd [x] (sp w))
    (hsp : ∀ (w : World) (H : Hp) (a : Addr) (ns : List Int), ns.length ≤ n → Only H → SqL (K w.params) H a (ns.map V.int) → sp w [.ref a] H (fun v _ => v = .bl true) fun _ _ _ => False) : PySem.W.WalkO q loose XP YP l.row.toRowW d [] (fun f vs => PySem.call f vs) := by
  refine Att.attach_call hn hdf fun w s₀ s₁ mg mb fa o pm cd doc a vs ns G Y ho hd hcd hmg hobj hints hlen hg => ?_
  have kin := hY w _ Y
  obtain ⟨fd, hb, hF⟩ := F w mg fa _ kin G.T.g hmg
  exact law_callG kin G.T.g G.T.b G.T.builtins G.T.nolimit hg hobj hints (Nat.le_trans hlen hn2) hr hF hb fun H hO hS => hsp w H a ns hlen hO hS
end G
set_option Elab.async false
set_option linter.all false
set_option maxRecDepth 100000
set_option maxHeartbeats 1000000
namespace G
open PySem PySem.Spec PyProof.Rows L2 TL
theorem ifF {b : Bool} {A B : Prop} (hb : b = false) (h : B) : if b = true then A else B := by
  subst hb
  exact iteF h
theorem ifT {b : Bool} {A B : Prop} (hb : b = true) (h : A) : if b = true then A else B := by
  subst hb
  exact iteT h
theorem same_keep_new {H H1 H2 : Hp} {p : Addr} (s : Same H H1) (n : H p = none) (k : Keep p H1 H2) : Same H H2 := fun b o e => k b o (ne_of_none e n) (s b o e)
def topS (i : Nat) : Stmt := PySem.Challenge.pw_stufflists_k13_names_and_stretches_judge.main.body.getD i (.Pass ⟨0, 0, 0, 0⟩)
section
variable {P : Program} {w : World} {K : PySem.W.Frag} {mg : Str → Option Value} {base : Heap}
abbrev sMeas : Stmt := topS 2
theorem scMeas : FnScope ["one", "other"] ["one", "other"] (defScope sMeas) := ⟨rfl, rfl, rfl, by decide +kernel, rfl, by decide +kernel, by decide +kernel⟩
def spMeas : Sp := fun vs H Q _ => ∃ a b : Int, vs = [.int a, .int b] ∧ 0 ≤ a ∧ 0 ≤ b ∧ Q (.int (gc a b)) H
theorem ok_meas {f : Addr} {fd : FuncData} (F : Fun K "common_measure" "common_measure" sMeas f fd) : FnOk P w K mg base CX0 1 f fd ["one", "other"] spMeas := by
  refine F.ok scMeas (fun vs H Q E h => ?_) (fun cdv A outer s H vs Q E hr h => ?_)
  · obtain ⟨a, b, rfl, _⟩ := h
    rfl
  · obtain ⟨a, b, rfl, ha, hb, q⟩ := h
    refine ⟨_, pss_cons (ps_while PassesOwn.never (pt_cmpR op_gt (pv 1) pe_int (nomark _))
        (pss_one (ps_par (i := 0) (j := 1) (by rfl) scMeas.nd rfl rfl (by decide) rfl rfl (pa_cons (pv 1) (pa_cons (pe_op op_mod (pv 0) (pv 1)) pa_nil)) (by rfl))))
      (pss_one (ps_ret (pv 0))), ?_⟩
    refine ⟨fun m σ H' => ∃ x y : Int, σ = [some (.int x), some (.int y)] ∧ 0 ≤ x ∧ 0 ≤ y ∧ gc x y = gc a b ∧ m = y.toNat ∧ H' = H, ⟨_, a, b, rfl, ha, hb, rfl, rfl, rfl⟩, ?_⟩
    rintro m σ H' ⟨x, y, rfl, hx, hy, hg, rfl, rfl⟩
    refine ⟨_, rfl, y, 0, rfl, rfl, _, rfl, ite2 (fun e => ?_) (fun e => ?_)⟩
    · have e0 : 0 < y := of_decide_eq_true e
      refine ⟨fun σ' H2 => ∃ x' y' : Int, σ' = [some (.int x'), some (.int y')] ∧ 0 ≤ x' ∧ 0 ≤ y' ∧ gc x' y' = gc a b ∧ y' < y ∧ H2 = H', fun σ' H2 hN => ?_, ?_⟩
      · obtain ⟨x', y', h1, h2, h3, h4, h5, h6⟩ := hN
        exact ⟨_, by omega, x', y', h1, h2, h3, h4, rfl, h6⟩
      · refine ⟨_, rfl, _, rfl, _, rfl, x, y, rfl, rfl, e0, _, _, rfl, y, x % y, rfl, hy, Int.emod_nonneg _ (by omega), (gc_step hx e0).trans hg, Int.emod_lt_of_pos _ e0, rfl⟩
    · have e0 : ¬ 0 < y := fun z => e (decide_eq_true z)
      have e1 : y = 0 := by omega
      subst e1
      refine ⟨_, rfl, ?_⟩
      have : (x : Int) = (gc a b : Int) := by
        rw [← hg]
        unfold gc
        rw [Int.natAbs_zero, Nat.gcd_zero_right]
        omega
      rw [this]
      exact q
theorem abs_nn (a : Int) : 0 ≤ (if a < 0 then -a else a) := by split <;> omega
theorem gc_abs (a b : Int) : gc (if a < 0 then -a else a) (if b < 0 then -b else b) = gc a b := by
  unfold gc
  have h : ∀ x : Int, (if x < 0 then -x else x).natAbs = x.natAbs := fun x => by split <;> omega
  rw [h, h]
theorem gc_lt {a b : Int} {n : Nat} (h : b ≠ 0) (hb : b.natAbs < n) : gc a b < n := Nat.lt_of_le_of_lt (Nat.le_of_dvd (by omega) (Nat.gcd_dvd_right _ _)) hb
def spFrac : Sp := fun vs H Q _ => ∃ a b : Int, vs = [.int a, .int b] ∧ b ≠ 0 ∧ b.natAbs < 2 ^ 8000 ∧ ∀ p, H p = none → Q (.ref p) (upd H p (.tup [.int (low1 a b), .int (low2 a b)]))
/-! ### is_whole -/
abbrev sWhole : Stmt := topS 1
theorem scWhole : FnScope ["thing"] ["thing"] (defScope sWhole) := ⟨rfl, rfl, rfl, by decide +kernel, rfl, by decide +kernel, by decide +kernel⟩
def isW : V → Bool
  | .int _ => true
  | _ => false
def spWhole : Sp := fun vs H Q _ => ∃ x : V, vs = [x] ∧ Kd H x ∧ Q (.bl (isW x)) H
theorem ok_whole {f : Addr} {fd : FuncData} (F : Fun K "is_whole" "is_whole" sWhole f fd) (mI : mg "isinstance" = none) (mInt : mg "int" = none) (mB : mg "bool" = none) : FnOk P w K mg base CX0 1 f fd ["thing"] spWhole := by
  refine F.ok scWhole (fun vs H Q E h => ?_) (fun cdv A outer s H vs Q E hr h => ?_)
  · obtain ⟨x, rfl, _⟩ := h
    rfl
  · obtain ⟨x, rfl, k, q⟩ := h
    refine ⟨_, pss_one (ps_ret (pe_and (pe_callB call_isi (by rfl) mI (by decide +kernel) (pa_cons (pv 0) (pa_cons (pe_bltn (v := .ty "int") (by rfl) mInt (by decide +kernel) rfl) pa_nil)))
      (pe_one (pe_not (pe_callB call_isi (by rfl) mI (by decide +kernel) (pa_cons (pv 0) (pa_cons (pe_bltn (v := .ty "bool") (by rfl) mB (by decide +kernel) rfl) pa_nil))))))), ?_⟩
    refine ⟨x, rfl, x, .ty "int", _, _, _, rfl, .ty _, k.ty, kit_ty (kit7 k.tyN_mem (by decide)), _, rfl, ite2 (fun e => ?_) (fun e => ?_)⟩
    · refine ⟨x, rfl, x, .ty "bool", _, _, _, rfl, .ty _, k.ty, kit_ty (kit7 k.tyN_mem (by decide)), _, rfl, ?_⟩
      have : (!sub (tyN H x) "bool") = isW x := by
        cases k with
        | non => cases e
        | bl b => rfl
        | int i => rfl
        | str z => cases e
        | lst h =>
          rw [tyN_lst h] at e
          cases e
        | tup h _ =>
          rw [tyN_tup h] at e
          cases e
        | dK h =>
          rw [tyN_dK h] at e
          cases e
      rw [this]
      exact q
    · have : false = isW x := by
        cases k with
        | int i => exact absurd rfl e
        | _ => rfl
      rw [this]
      exact q
end
theorem Kd.cases_tup {H : Hp} {x : V} (k : Kd H x) : (∃ t, (∀ K, TyX K H x (.type t)) ∧ kitB t "tuple" = some false ∧ frB H x = false) ∨ (∃ a xs, x = .ref a ∧ H a = some (.tup xs) ∧ ∀ y ∈ xs, Kd H y) := by
  cases k with
  | non => exact .inl ⟨_, fun K => .base .non, by decide +kernel, rfl⟩
  | bl b => exact .inl ⟨_, fun K => .base (.bl b), by decide +kernel, rfl⟩
  | int i => exact .inl ⟨_, fun K => .base (.int i), by decide +kernel, rfl⟩
  | str z => exact .inl ⟨_, fun K => .base (.str z), by decide +kernel, rfl⟩
  | lst e => exact .inl ⟨_, fun K => .base (.lst e), by decide +kernel, by simp only [frB, e]⟩
  | dK e => exact .inl ⟨_, fun K => .base (.dK e), by decide +kernel, by simp only [frB, e]⟩
  | tup e h => exact .inr ⟨_, _, rfl, e, h⟩
theorem two_of {xs : List V} (h : xs.length = 2) : ∃ u v, xs = [u, v] := by
  match xs, h with
  | [u, v], _ => exact ⟨u, v, rfl⟩
theorem frB_len {H : Hp} {a : Addr} {xs : List V} (e : H a = some (.tup xs)) (h : xs.length ≠ 2) : frB H (.ref a) = false := by
  simp only [frB, e]
  split
  · rename_i z
    injection z with z
    injection z with z
    subst z
    exact absurd rfl h
  · rfl
theorem frB_ints {H : Hp} {a : Addr} {i j : Int} (e : H a = some (.tup [.int i, .int j])) : frB H (.ref a) = isFr i j := by simp only [frB, e]
theorem frB_no {H : Hp} {a : Addr} {u v : V} (e : H a = some (.tup [u, v])) (h : isW u = false ∨ isW v = false) : frB H (.ref a) = false := by
  simp only [frB, e]
  split
  · rename_i z
    injection z with z
    injection z with z
    injection z with z1 z2
    injection z2 with z2 z3
    subst z1 z2
    rcases h with h | h <;> cases h
  · rfl
theorem isW_int {u : V} (h : isW u = true) : ∃ i, u = .int i := by
  cases u with
  | int i => exact ⟨i, rfl⟩
  | _ => cases h
section
variable {P : Program} {w : World} {K : PySem.W.Frag} {mg : Str → Option Value} {base : Heap}
/-! ### is_fraction -/
abbrev sIsF : Stmt := topS 4
theorem scIsF : FnScope ["thing", "top", "bottom"] ["thing"] (defScope sIsF) := ⟨rfl, rfl, rfl, by decide +kernel, rfl, by decide +kernel, by decide +kernel⟩
def spIsF : Sp := fun vs H Q _ => ∃ x : V, vs = [x] ∧ Kd H x ∧ Q (.bl (frB H x)) H
theorem ok_isF {f fM fW : Addr} {fd fdM fdW : FuncData} (F : Fun K "is_fraction" "is_fraction" sIsF f fd) (FM : Fun K "common_measure" "common_measure" sMeas fM fdM) (bM : Binds K fdM ["one", "other"] []) (gM : mg "common_measure" = some (.ref fM))
    (FW : Fun K "is_whole" "is_whole" sWhole fW fdW) (bW : Binds K fdW ["thing"] []) (gW : mg "is_whole" = some (.ref fW))
    (mA : mg "abs" = none) (mI : mg "isinstance" = none) (mInt : mg "int" = none) (mB : mg "bool" = none) (mT : mg "tuple" = none) (mL : mg "len" = none) :
    FnOk P w K mg base CX0 2 f fd ["thing"] spIsF := by
  have GM : FnOk P w K mg base CX0 1 fM fdM ["one", "other"] spMeas := ok_meas FM
  have GW : FnOk P w K mg base CX0 1 fW fdW ["thing"] spWhole := ok_whole FW mI mInt mB
  refine F.ok scIsF (fun vs H Q E h => ?_) (fun cdv A outer s H vs Q E hr h => ?_)
  · obtain ⟨x, rfl, _⟩ := h
    rfl
  · obtain ⟨x, rfl, k, q⟩ := h
    refine ⟨_, pss_cons (ps_if (PW.pt (pw_or (pt_not (pt_val (pe_callB call_isi (by rfl) mI (by decide +kernel) (pa_cons (pv 0) (pa_cons (pe_bltn (v := .ty "tuple") (by rfl) mT (by decide +kernel) rfl) pa_nil)))))
          (pw_or1 (pt_cmpR op_ne (pe_callB call_len_seq (by rfl) mL PySem.boot_len (pa_cons (pv 0) pa_nil)) pe_int (nomark _))))) (pss_one (ps_ret pe_bl)) pss_nil)
      (pss_cons (ps_asg (pv 0) (pg_tup (by rfl) (pgs_cons (pg_name (i := 1) scIsF.nd rfl (.inl rfl)) (pgs_cons (pg_name (i := 2) scIsF.nd rfl (.inl rfl)) pgs_nil))))
      (pss_cons (ps_if (PW.pt (pw_or (pt_not (pt_val (pe_call GW hr (by rfl) gW FW.kp bW .nil pass0 (pa_cons (pv 1) pa_nil)))) (pw_or (pt_not (pt_val (pe_call GW hr (by rfl) gW FW.kp bW .nil pass0 (pa_cons (pv 2) pa_nil)))) (pw_or1 (pt_cmpR op_le (pv 2) pe_int (nomark _))))))
        (pss_one (ps_ret pe_bl)) pss_nil)
      (pss_one (ps_ret (pe_cmpR op_eq (pe_call GM hr (by rfl) gM FM.kp bM .nil pass0 (pa_cons (pe_callB call_abs (by rfl) mA (by decide +kernel) (pa_cons (pv 1) pa_nil)) (pa_cons (pv 2) pa_nil))) pe_int (nomark _)))))), ?_⟩
    rcases k.cases_tup with ⟨t, ty, kt, ef⟩ | ⟨a, xs, rfl, e, hk⟩
    · rw [ef] at q
      exact ⟨x, rfl, x, .ty "tuple", _, _, _, rfl, .ty _, ty K, kit_ty kt, _, rfl, iteT (iteT q)⟩
    · refine ⟨.ref a, rfl, _, .ty "tuple", _, _, _, rfl, .ty _, .base (.tup e), kit_ty (b := "tuple") (r := true) (by decide +kernel), _, rfl, iteF ?_⟩
      refine ⟨.ref a, rfl, a, xs, rfl, .inr (SqT.of e), rfl, _, rfl, ?_⟩
      by_cases hl : xs.length = 2
      · obtain ⟨u, v, rfl⟩ := two_of hl
        refine iteF ?_
        refine ⟨.ref a, rfl, a, [u, v], rfl, SqT.of e, rfl, u, [v], rfl, v, [], rfl, rfl, ?_⟩
        have ku : Kd H u := hk u (.head _)
        have kv : Kd H v := hk v (.tail _ (.head _))
        refine ⟨u, rfl, u, rfl, ku, _, rfl, ?_⟩
        cases wu : isW u with
        | false =>
          rw [frB_no e (.inl wu)] at q
          exact iteT (iteT q)
        | true =>
          refine iteF ?_
          refine ⟨v, rfl, v, rfl, kv, _, rfl, ?_⟩
          cases wv : isW v with
          | false =>
            rw [frB_no e (.inr wv)] at q
            exact iteT (iteT q)
          | true =>
            refine iteF ?_
            obtain ⟨i, rfl⟩ := isW_int wu
            obtain ⟨j, rfl⟩ := isW_int wv
            rw [frB_ints e] at q
            refine ⟨_, rfl, j, 0, rfl, rfl, _, rfl, ite2 (fun z => ?_) (fun z => ?_)⟩
            · have z0 : j ≤ 0 := of_decide_eq_true z
              have : isFr i j = false := by
                unfold isFr
                rw [decide_eq_false (by omega)]
                rfl
              rw [this] at q
              exact q
            · have z0 : ¬ j ≤ 0 := fun y => z (decide_eq_true y)
              refine ⟨_, rfl, i, rfl, _, rfl, _, _, rfl, abs_nn i, by omega, rfl, ?_⟩
              have : gc (if i < 0 then -i else i) j = gc i j := by
                have h2 := gc_abs i j
                rw [if_neg (show ¬ j < 0 by omega)] at h2
                exact h2
              rw [this]
              have : decide (V.int (gc i j : Nat) = V.int 1) = isFr i j := by
                unfold isFr
                rw [decide_eq_true (show 0 < j by omega), Bool.true_and]
                refine decide_eq_decide.mpr ⟨fun y => ?_, fun y => ?_⟩
                · have := V.int.inj y
                  omega
                · rw [y]
                  rfl
              rw [this]
              exact q
      · rw [frB_len e hl] at q
        have : (!decide (V.int (xs.length : Int) = V.int 2)) = true := by
          rw [decide_eq_false (fun y => hl (by have := V.int.inj y; omega))]
          rfl
        rw [this]
        exact iteT q
end
theorem ten7 : ((10 : Int) ^ (7 : Int).toNat) = 10000000 := by decide +kernel
theorem ten18 : ((10 : Int) ^ (18 : Int).toNat) = 1000000000000000000 := by decide +kernel
theorem ten20 : ((10 : Int) ^ (20 : Int).toNat) = 100000000000000000000 := by decide +kernel
section
variable {P : Program} {w : World} {K : PySem.W.Frag} {mg : Str → Option Value} {base : Heap}
/-! ### _law_pot -/
abbrev sPot : Stmt := topS 10
theorem scPot : FnScope ["_law_script", "_law_k", "_law_cell"] ["_law_script", "_law_k"] (defScope sPot) := ⟨rfl, rfl, rfl, by decide +kernel, rfl, by decide +kernel, by decide +kernel⟩
def spPot (K : PySem.W.Frag) : Sp := fun vs H Q _ => ∃ (a : Addr) (ns : List Int) (k : Nat), vs = [.ref a, .int k] ∧ SqL K H a (ns.map V.int) ∧ k < 64 ∧ ∀ H' p, Same H H' → H p = none → Pot H' p → Q (.ref p) H'
theorem pot_mk {H : Hp} {p : Addr} (np : H p = none) (c k : Int) : Pot (upd H p (.lst [.int (if c - 10 ^ (18 : Int).toNat > 0 then c - 10 ^ (18 : Int).toNat else 0), .int ((c % 2147483629 * 48271 + 7919 * k + 11) % 2147483647)])) p := by
  refine ⟨_, _, upd_same, ?_, Int.emod_nonneg _ (by decide), Int.emod_lt_of_pos _ (by decide)⟩
  split <;> omega
theorem ok_pot {f : Addr} {fd : FuncData} (F : Fun K "_law_pot" "_law_pot" sPot f fd) (mL : mg "len" = none) (mM : mg "max" = none) : FnOk P w K mg base CX0 1 f fd ["_law_script", "_law_k"] (spPot K) := by
  refine F.ok scPot (fun vs H Q E h => ?_) (fun cdv A outer s H vs Q E hr h => ?_)
  · obtain ⟨a, ns, k, rfl, _⟩ := h
    rfl
  · obtain ⟨a, ns, k, rfl, hS, hk, q⟩ := h
    refine ⟨_, pss_cons (ps_set (i := 2) scPot.nd rfl (.inl rfl) pe_int)
      (pss_cons (ps_if (pt_cmpR op_lt (pv 1) (pe_callB call_len_seq (by rfl) mL PySem.boot_len (pa_cons (pv 0) pa_nil)) (nomark _))
        (pss_one (ps_set (i := 2) scPot.nd rfl (.inl rfl) (pe_ix ix_list (pv 0) (pv 1) (fun _ _ => rfl)))) pss_nil)
      (pss_one (ps_ret (pe_lst (pa_cons (pe_callB (call_max2 rfl) (by rfl) mM (by decide +kernel) (pa_cons pe_int (pa_cons (pe_op op_sub (pv 2) (pe_op op_pow pe_int pe_int)) pa_nil)))
        (pa_cons (pe_op op_mod (pe_op op_add (pe_op op_add (pe_op op_mul (pe_op op_mod (pv 2) pe_int) pe_int) (pe_op op_mul pe_int (pv 1))) pe_int) pe_int) pa_nil)))))), ?_⟩
    have fin : ∀ c : Int, (tRet (tLst (tCons (tCB (fun xs H Q => ∃ i j, xs = [.int i, .int j] ∧ Q (.int (if j > i then j else i)) H) (tCons (tC (.int 0)) (tCons (tOp (rI0 fun i j => .int (i - j)) (tVar 2) (tOp (rI CPow fun i j => .int (i ^ j.toNat)) (tC (.int 10)) (tC (.int 18)))) tNil)))
        (tCons (tOp (rI (fun _ j => 0 < j) fun i j => .int (i % j)) (tOp (rI0 fun i j => .int (i + j)) (tOp (rI0 fun i j => .int (i + j)) (tOp (rI CMul fun i j => .int (i * j)) (tOp (rI (fun _ j => 0 < j) fun i j => .int (i % j)) (tVar 2) (tC (.int 2147483629))) (tC (.int 48271))) (tOp (rI CMul fun i j => .int (i * j)) (tC (.int 7919)) (tVar 1))) (tC (.int 11))) (tC (.int 2147483647))) tNil)))) { nx := fun _ H' => Q .non H', rt := Q } [some (.ref a), some (.int k), some (.int c)] H := by
      intro c
      refine ⟨_, rfl, 10, 18, rfl, rfl, ⟨by decide, by decide, by decide⟩, c, _, rfl, rfl, 0, _, rfl, ?_⟩
      refine ⟨_, rfl, c, 2147483629, rfl, rfl, (show (0 : Int) < 2147483629 by decide), _, 48271, rfl, rfl, .inr ⟨by decide, by decide⟩, _, rfl, 7919, k, rfl, rfl, .inl ⟨by decide, by decide⟩, _, _, rfl, rfl, _, 11, rfl, rfl, _, 2147483647, rfl, rfl, (show (0 : Int) < 2147483647 by decide), ?_⟩
      refine ⟨by show 2 ≤ sizeLine; decide, fun p np => q _ p (same_upd np) np ?_⟩
      exact pot_mk np c k
    refine ⟨_, rfl, .ref a, rfl, a, _, rfl, .inl hS, _, _, rfl, rfl, _, rfl, ite2 (fun e => ?_) (fun e => ?_)⟩
    · have e0 : (k : Int) < ((ns.map V.int).length : Nat) := of_decide_eq_true e
      rw [List.length_map] at e0
      have e1 : k < ns.length := by omega
      have g : (ns.map V.int)[k]? = some (.int ns[k]) := by
        rw [List.getElem?_map, List.getElem?_eq_getElem e1]
        rfl
      refine ⟨.ref a, rfl, _, rfl, a, _, _, _, rfl, rfl, hS, atI_nat g, ?_⟩
      exact fin _
    · exact fin _
/-! ### _law_take -/
abbrev sTake : Stmt := topS 11
theorem scTake : FnScope ["_law_pot_here", "_law_many", "_law_digit"] ["_law_pot_here", "_law_many"] (defScope sTake) := ⟨rfl, rfl, rfl, by decide +kernel, rfl, by decide +kernel, by decide +kernel⟩
def spTake : Sp := fun vs H Q _ => ∃ (p : Addr) (m : Int), vs = [.ref p, .int m] ∧ Pot H p ∧ 0 < m ∧ m < 1073741824 ∧ ∀ H' d, Keep p H H' → Pot H' p → 0 ≤ d → d < m → Q (.int d) H'
theorem keep_new {p t : Addr} {H : Hp} {o u : HO} (n : H t = none) : Keep p H (upd (upd H t o) p u) := fun b x nb e => by
  rw [upd_ne nb, upd_ne (ne_of_none e n)]
  exact e
theorem ok_take {f : Addr} {fd : FuncData} (F : Fun K "_law_take" "_law_take" sTake f fd) (mD : mg "divmod" = none) : FnOk P w K mg base CX0 1 f fd ["_law_pot_here", "_law_many"] spTake := by
  refine F.ok scTake (fun vs H Q E h => ?_) (fun cdv A outer s H vs Q E hr h => ?_)
  · obtain ⟨p, m, rfl, _⟩ := h
    rfl
  · obtain ⟨p, m, rfl, ⟨a, b, ep, ha, hb, hb2⟩, hm, hm2, q⟩ := h
    refine ⟨_, pss_cons (ps_if (pt_cmpR op_gt (pe_ix ix_list (pv 0) pe_int (fun _ _ => rfl)) pe_int (nomark _))
        (pss_cons (ps_asg (pe_callB call_divmod (by rfl) mD (by decide +kernel) (pa_cons (pe_ix ix_list (pv 0) pe_int (fun _ _ => rfl)) (pa_cons (pv 1) pa_nil)))
            (pg_tup (by rfl) (pgs_cons (pg_sub (pv 0) pe_int set_list) (pgs_cons (pg_name (i := 2) scTake.nd rfl (.inl rfl)) pgs_nil))))
          (pss_one (ps_ret (pv 2)))) pss_nil)
      (pss_cons (ps_asg (pe_op op_mod (pe_op op_add (pe_op op_mul (pe_ix ix_list (pv 0) pe_int (fun _ _ => rfl)) pe_int) pe_int) pe_int) (pg_sub (pv 0) pe_int set_list))
      (pss_one (ps_ret (pe_op op_mod (pe_op op_fdiv (pe_op op_mod (pe_op op_mul (pe_ix ix_list (pv 0) pe_int (fun _ _ => rfl)) (pe_ix ix_list (pv 0) pe_int (fun _ _ => rfl))) pe_int) pe_int) (pv 1))))), ?_⟩
    refine ⟨.ref p, rfl, p, _, 0, .int a, rfl, rfl, SqL.of ep, atI_nat (j := 0) rfl, a, 0, rfl, rfl, _, rfl, ite2 (fun e => ?_) (fun e => ?_)⟩
    · refine ⟨.ref p, rfl, p, _, 0, .int a, rfl, rfl, SqL.of ep, atI_nat (j := 0) rfl, _, rfl, a, m, rfl, ⟨hm, hm2⟩, fun t nt => ?_⟩
      have npt : p ≠ t := ne_of_none ep nt
      refine ⟨t, _, rfl, SqT.of upd_same, rfl, _, _, rfl, ?_⟩
      refine ⟨.ref p, rfl, p, [.int a, .int b], 0, 0, rfl, rfl, (upd_ne npt).trans ep, rfl, ?_⟩
      refine ⟨_, _, rfl, rfl, _, rfl, ?_⟩
      refine q _ _ (keep_new nt) ⟨a / m, b, upd_same, Int.ediv_nonneg ha (by omega), hb, hb2⟩ (Int.emod_nonneg _ (by omega)) (Int.emod_lt_of_pos _ hm)
    · refine ⟨.ref p, rfl, p, _, 1, .int b, rfl, rfl, SqL.of ep, atI_nat (j := 1) rfl, b, 39373, rfl, rfl, .inr ⟨by decide, by decide⟩, _, 7919, rfl, rfl, _, 2147483629, rfl, rfl, (show (0 : Int) < 2147483629 by decide), ?_⟩
      refine ⟨.ref p, rfl, p, _, 1, 1, rfl, rfl, ep, rfl, ?_⟩
      have h1 : 0 ≤ (b * 39373 + 7919) % 2147483629 := Int.emod_nonneg _ (by decide)
      have h2 : (b * 39373 + 7919) % 2147483629 < 2147483629 := Int.emod_lt_of_pos _ (by decide)
      refine ⟨.ref p, rfl, p, _, 1, _, rfl, rfl, SqL.of upd_same, atI_nat (j := 1) rfl, .ref p, rfl, p, _, 1, _, rfl, rfl, SqL.of upd_same, atI_nat (j := 1) rfl, (b * 39373 + 7919) % 2147483629, (b * 39373 + 7919) % 2147483629, rfl, rfl, .inl ⟨by omega, by omega⟩, _, 2147483563, rfl, rfl, (show (0 : Int) < 2147483563 by decide), _, 11, rfl, rfl, ⟨by decide, by decide⟩, _, rfl, _, m, rfl, rfl, hm, ?_⟩
      exact q _ _ keep_upd ⟨a, (b * 39373 + 7919) % 2147483629, upd_same, ha, h1, by omega⟩ (Int.emod_nonneg _ (by omega)) (Int.emod_lt_of_pos _ hm)
/-! ### _law_below -/
abbrev sBelow : Stmt := topS 12
theorem scBelow : FnScope ["_law_pot_here", "_law_many", "_law_found", "_law_k"] ["_law_pot_here", "_law_many"] (defScope sBelow) := ⟨rfl, rfl, rfl, by decide +kernel, rfl, by decide +kernel, by decide +kernel⟩
def spBelow : Sp := fun vs H Q _ => ∃ (p : Addr) (m : Int), vs = [.ref p, .int m] ∧ Pot H p ∧ 0 < m ∧ ∀ H' d, Keep p H H' → Pot H' p → 0 ≤ d → d < m → Q (.int d) H'
theorem ok_below {f fT : Addr} {fd fdT : FuncData} (F : Fun K "_law_below" "_law_below" sBelow f fd) (FT : Fun K "_law_take" "_law_take" sTake fT fdT) (bT : Binds K fdT ["_law_pot_here", "_law_many"] []) (gT : mg "_law_take" = some (.ref fT)) (mD : mg "divmod" = none) (mR : mg "range" = none) :
    FnOk P w K mg base CX0 2 f fd ["_law_pot_here", "_law_many"] spBelow := by
  have GT : FnOk P w K mg base CX0 1 fT fdT ["_law_pot_here", "_law_many"] spTake := ok_take FT mD
  refine F.ok scBelow (fun vs H Q E h => ?_) (fun cdv A outer s H vs Q E hr h => ?_)
  · obtain ⟨p, m, rfl, _⟩ := h
    rfl
  · obtain ⟨p, m, rfl, hp, hm, q⟩ := h
    refine ⟨_, pss_cons (ps_set (i := 2) scBelow.nd rfl (.inl rfl) pe_int)
      (pss_cons (ps_for PassesOwn.never rfl (pi_range1 (by rfl) mR (pa_cons pe_int pa_nil)) (pg_name (i := 3) scBelow.nd rfl (.inl rfl))
        (pss_one (ps_set (i := 2) scBelow.nd rfl (.inl rfl) (pe_op op_add (pe_op op_mul (pv 2) (pe_op op_pow pe_int pe_int)) (pe_call GT hr (by rfl) gT FT.kp bT .nil pass0 (pa_cons (pv 0) (pa_cons (pe_op op_pow pe_int pe_int) pa_nil)))))))
      (pss_one (ps_ret (pe_op op_mod (pv 2) (pv 1))))), ?_⟩
    refine ⟨3, rfl, by decide, by decide, for_range (n := 3) (fun i σ H' => ∃ (g : Int) (y : Option V), σ = [some (.ref p), some (.int m), some (.int g), y] ∧ Keep p H H' ∧ Pot H' p) ⟨0, none, rfl, .refl, hp⟩ ?_ ?_⟩
    · rintro i σ H' hi ⟨g, y, rfl, kp, hp'⟩
      refine ⟨_, rfl, 10, 7, rfl, rfl, ⟨by decide, by decide, by decide⟩, g, _, rfl, rfl, .inr ⟨by rw [ten7]; decide, by rw [ten7]; decide⟩, _, rfl, 10, 7, rfl, rfl, ⟨by decide, by decide, by decide⟩, ?_⟩
      refine ⟨p, _, rfl, hp', by rw [ten7]; decide, by rw [ten7]; decide, fun H2 d k2 p2 _ _ => ?_⟩
      exact ⟨_, _, rfl, rfl, _, _, rfl, kp.trans k2, p2⟩
    · rintro σ H' ⟨g, y, rfl, kp, hp'⟩
      exact ⟨_, rfl, _, rfl, g, m, rfl, rfl, hm, q _ _ kp hp' (Int.emod_nonneg _ (by omega)) (Int.emod_lt_of_pos _ hm)⟩
end
section
variable {P : Program} {w : World} {K : PySem.W.Frag} {mg : Str → Option Value} {base : Heap}
/-! ### _law_lowest -/
abbrev sLow : Stmt := topS 13
theorem scLow : FnScope ["_law_top", "_law_bottom", "_law_one", "_law_other"] ["_law_top", "_law_bottom"] (defScope sLow) := ⟨rfl, rfl, rfl, by decide +kernel, rfl, by decide +kernel, by decide +kernel⟩
theorem ok_low {f : Addr} {fd : FuncData} (F : Fun K "_law_lowest" "_law_lowest" sLow f fd) (mA : mg "abs" = none) : FnOk P w K mg base CX0 1 f fd ["_law_top", "_law_bottom"] spFrac := by
  refine F.ok scLow (fun vs H Q E h => ?_) (fun cdv A outer s H vs Q E hr h => ?_)
  · obtain ⟨a, b, rfl, _⟩ := h
    rfl
  · obtain ⟨a, b, rfl, hb, hz, q⟩ := h
    refine ⟨_, pss_cons (ps_par (i := 2) (j := 3) (by rfl) scLow.nd rfl rfl (by decide) rfl rfl (pa_cons (pe_callB call_abs (by rfl) mA (by decide +kernel) (pa_cons (pv 0) pa_nil)) (pa_cons (pe_callB call_abs (by rfl) mA (by decide +kernel) (pa_cons (pv 1) pa_nil)) pa_nil)) (by rfl))
      (pss_cons (ps_while PassesOwn.never (pt_cmpR op_gt (pv 3) pe_int (nomark _))
        (pss_one (ps_par (i := 2) (j := 3) (by rfl) scLow.nd rfl rfl (by decide) rfl rfl (pa_cons (pv 3) (pa_cons (pe_op op_mod (pv 2) (pv 3)) pa_nil)) (by rfl))))
      (pss_cons (ps_if (pt_cmpR op_lt (pv 1) pe_int (nomark _)) (pss_one (ps_set (i := 2) scLow.nd rfl (.inl rfl) (pe_un un_neg (pv 2)))) pss_nil)
      (pss_one (ps_ret (pe_tup (pa_cons (pe_op op_fdivG (pv 0) (pv 2)) (pa_cons (pe_op op_fdivG (pv 1) (pv 2)) pa_nil))))))), ?_⟩
    refine ⟨_, rfl, a, rfl, _, rfl, b, rfl, _, _, rfl, ?_⟩
    refine ⟨fun m σ H' => ∃ x y : Int, σ = [some (.int a), some (.int b), some (.int x), some (.int y)] ∧ 0 ≤ x ∧ 0 ≤ y ∧ gc x y = gc a b ∧ m = y.toNat ∧ H' = H, ⟨_, _, _, rfl, abs_nn a, abs_nn b, gc_abs a b, rfl, rfl⟩, ?_⟩
    rintro m σ H' ⟨x, y, rfl, hx, hy, hg, rfl, rfl⟩
    refine ⟨_, rfl, y, 0, rfl, rfl, _, rfl, ite2 (fun e => ?_) (fun e => ?_)⟩
    · have e0 : 0 < y := of_decide_eq_true e
      refine ⟨fun σ' H2 => ∃ x' y' : Int, σ' = [some (.int a), some (.int b), some (.int x'), some (.int y')] ∧ 0 ≤ x' ∧ 0 ≤ y' ∧ gc x' y' = gc a b ∧ y' < y ∧ H2 = H', fun σ' H2 hN => ?_, ?_⟩
      · obtain ⟨x', y', h1, h2, h3, h4, h5, h6⟩ := hN
        exact ⟨_, by omega, x', y', h1, h2, h3, h4, rfl, h6⟩
      · refine ⟨_, rfl, _, rfl, _, rfl, x, y, rfl, rfl, e0, _, _, rfl, y, x % y, rfl, hy, Int.emod_nonneg _ (by omega), (gc_step hx e0).trans hg, Int.emod_lt_of_pos _ e0, rfl⟩
    · have e0 : ¬ 0 < y := fun z => e (decide_eq_true z)
      have e1 : y = 0 := by omega
      subst e1
      have hxe : x = (gc a b : Int) := by
        rw [← hg]
        unfold gc
        rw [Int.natAbs_zero, Nat.gcd_zero_right]
        omega
      subst hxe
      have fin : ∀ m : Int, m = ms a b → (tRet (tTup (tCons (tOp (rI CDivG fun i j => .int (i.fdiv j)) (tVar 0) (tVar 2)) (tCons (tOp (rI CDivG fun i j => .int (i.fdiv j)) (tVar 1) (tVar 2)) tNil)))) { nx := fun _ H' => Q .non H', rt := Q } [some (.int a), some (.int b), some (.int m), some (.int 0)] H' := by
        rintro m rfl
        have hd : ∀ i, CDivG i (ms a b) := fun i => CDivG.of (b := 8000) (ms_ne hb) (by rw [ms_natAbs]; exact gc_lt hb hz) (by decide) (by decide)
        exact ⟨_, rfl, _, rfl, a, _, rfl, rfl, hd a, _, rfl, _, rfl, b, _, rfl, rfl, hd b, by show 2 ≤ sizeLine; decide, fun p np => q p np⟩
      refine ⟨_, rfl, b, 0, rfl, rfl, _, rfl, ite2 (fun e => ?_) (fun e => ?_)⟩
      · have e0 : b < 0 := of_decide_eq_true e
        refine ⟨_, rfl, _, rfl, ?_⟩
        exact fin _ (if_pos e0).symm
      · have e0 : ¬ b < 0 := fun z => e (decide_eq_true z)
        exact fin _ (if_neg e0).symm
end
/-! ### _law_is_fraction -/
theorem eqv_two (a b c d : Int) : PyData.eqv (.tuple [.int a, .int b]) (.tuple [.int c, .int d]) = (a == c && b == d) := by
  simp [PyData.eqv, PyData.eqvAll]
theorem isFr_low {i j : Int} (hj : 0 < j) : (low1 i j == i && low2 i j == j) = isFr i j := by
  unfold isFr
  rw [decide_eq_true hj, Bool.true_and]
  by_cases h : gc i j = 1
  · obtain ⟨h1, h2⟩ := (low_self hj).mpr h
    rw [h1, h2, decide_eq_true h, beq_self_eq_true, beq_self_eq_true]
    rfl
  · rw [decide_eq_false h]
    refine Bool.eq_false_iff.mpr fun z => h ((low_self hj).mp ?_)
    rw [Bool.and_eq_true] at z
    exact ⟨eq_of_beq z.1, eq_of_beq z.2⟩
theorem same_app {H H' H2 : Hp} {D : Addr} {o : HO} (s : Same H H') (n : H D = none) (h : Same H' H2) : Same H (upd H2 D o) := fun b u e => by
  rw [upd_ne (ne_of_none e n)]
  exact h b u (s b u e)
def Bd (H : Hp) (x : V) : Prop := ∀ a i j, x = .ref a → H a = some (.tup [.int i, .int j]) → j.natAbs < 2 ^ 8000
theorem frB_same {H H' : Hp} {a : Addr} {xs : List V} (e : H a = some (.tup xs)) (s : Same H H') : frB H' (.ref a) = frB H (.ref a) := by
  simp only [frB, e, s _ _ e]
section
variable {P : Program} {w : World} {K : PySem.W.Frag} {mg : Str → Option Value} {base : Heap}
abbrev sLF : Stmt := topS 14
abbrev nLF : List Str := ["_law_what", "_law_number"]
theorem scLF : FnScope nLF ["_law_what"] (defScope sLF) := ⟨rfl, rfl, rfl, by decide +kernel, rfl, by decide +kernel, by decide +kernel⟩
def spLF : Sp := fun vs H Q _ => ∃ x : V, vs = [x] ∧ Kd H x ∧ Bd H x ∧ ∀ H', Same H H' → Q (.bl (frB H x)) H'
theorem ok_LF {f fL : Addr} {fd fdL : FuncData} (F : Fun K "_law_is_fraction" "_law_is_fraction" sLF f fd) (FL : Fun K "_law_lowest" "_law_lowest" sLow fL fdL) (bL : Binds K fdL ["_law_top", "_law_bottom"] []) (gL : mg "_law_lowest" = some (.ref fL))
    (mA : mg "abs" = none) (mI : mg "isinstance" = none) (mInt : mg "int" = none) (mB : mg "bool" = none) (mT : mg "tuple" = none) (mL : mg "len" = none) (mAny : mg "any" = none) :
    FnOk P w K mg base CX0 2 f fd ["_law_what"] spLF := by
  have GL : FnOk P w K mg base CX0 1 fL fdL ["_law_top", "_law_bottom"] spFrac := ok_low FL mA
  refine F.ok scLF (fun vs H Q E h => ?_) (fun cdv A outer s H vs Q E hr h => ?_)
  · obtain ⟨x, rfl, _⟩ := h
    rfl
  · obtain ⟨x, rfl, k, hbd, q⟩ := h
    refine ⟨_, pss_cons (ps_if (PW.pt (pw_or (pt_not (pt_val (pe_callB call_isi (by rfl) mI (by decide +kernel) (pa_cons (pv 0) (pa_cons (pe_bltn (v := .ty "tuple") (by rfl) mT (by decide +kernel) rfl) pa_nil)))))
          (pw_or1 (pt_cmpR op_ne (pe_callB call_len_seq (by rfl) mL PySem.boot_len (pa_cons (pv 0) pa_nil)) pe_int (nomark _))))) (pss_one (ps_ret pe_bl)) pss_nil)
      (pss_cons (ps_if (pt_val (pe_callB (cr_any rfl) (by rfl) mAny (by decide +kernel) (pa_cons (pe_lc (own := [("_law_number", 1)]) (g := gName 1) (tt := tYes) (te := tOrV (tCB (rIsi K) (tCons (tVar 1) (tCons (tC (.ty "bool")) tNil))) (tNotV (tCB (rIsi K) (tCons (tVar 1) (tCons (tC (.ty "int")) tNil))))) (by rfl) scLF.nd (pi_tup (pv 0)) (blkOk_by (own := [("_law_number", 1)]) (N := nLF) (sc := defScope sLF) (by decide +kernel))
            (fun _ _ _ _ _ => pg_name (i := 1) scLF.nd rfl (.inl rfl)) (fun _ _ _ _ _ => pts_nil)
            (fun _ _ _ _ _ => pe_or (pe_callB call_isi (by rfl) mI (by decide +kernel) (pa_cons (pv 1) (pa_cons (pe_bltn (v := .ty "bool") (by rfl) mB (by decide +kernel) rfl) pa_nil)))
              (pe_one (pe_not (pe_callB call_isi (by rfl) mI (by decide +kernel) (pa_cons (pv 1) (pa_cons (pe_bltn (v := .ty "int") (by rfl) mInt (by decide +kernel) rfl) pa_nil))))))) pa_nil))) (pss_one (ps_ret pe_bl)) pss_nil)
      (pss_one (ps_ret (pe_and (pe_cmpR op_gt (pe_ix ix_tup (pv 0) pe_int (fun _ _ => rfl)) pe_int (nomark _))
        (pe_one (pe_cmpR (op_eqD hr.units) (pe_call GL hr (by rfl) gL FL.kp bL .nil pass0 (pa_cons (pe_ix ix_tup (pv 0) pe_int (fun _ _ => rfl)) (pa_cons (pe_ix ix_tup (pv 0) pe_int (fun _ _ => rfl)) pa_nil))) (pv 0) (nomark _))))))), ?_⟩
    rcases k.cases_tup with ⟨t, ty, kt, ef⟩ | ⟨a, xs, rfl, e, hk⟩
    · have q := q _ (.refl _)
      rw [ef] at q
      exact ⟨x, rfl, x, .ty "tuple", _, _, _, rfl, .ty _, ty K, kit_ty kt, _, rfl, iteT (iteT q)⟩
    · refine ⟨.ref a, rfl, _, .ty "tuple", _, _, _, rfl, .ty _, .base (.tup e), kit_ty (b := "tuple") (r := true) (by decide +kernel), _, rfl, iteF ?_⟩
      refine ⟨.ref a, rfl, a, xs, rfl, .inr (SqT.of e), rfl, _, rfl, ?_⟩
      by_cases hl : xs.length = 2
      · obtain ⟨u, v, rfl⟩ := two_of hl
        refine iteF ?_
        refine ⟨.ref a, rfl, a, rfl, ⟨_, SqT.of e⟩, fun D nD => ?_⟩
        refine lc_tup (K := K) (a := a) (xs := [u, v]) (fun i H' => Same H H' ∧ H' D = some (.lst (([u, v].take i).map fun x => .bl (!isW x)))) ⟨same_upd nD, upd_same⟩ (fun i H' _ hP => SqT.of (hP.1 _ _ e)) ?_ ?_
        · rintro i y H' hy ⟨sm, eD⟩
          have ky : Kd H' y := (hk y (List.mem_of_getElem? hy)).same sm
          refine ⟨rfl, ?_⟩
          have tk : ([u, v].take (i + 1)).map (fun x => V.bl (!isW x)) = ([u, v].take i).map (fun x => V.bl (!isW x)) ++ [.bl (!isW y)] := by
            rw [List.take_add_one, hy, List.map_append]
            rfl
          have sz : (([u, v].take i).map (fun x => V.bl (!isW x))).length < sizeLine := Nat.lt_of_le_of_lt (by rw [List.length_map, List.length_take]; exact Nat.min_le_right _ _) (show 2 < sizeLine by decide)
          refine ⟨y, rfl, y, .ty "bool", _, _, _, rfl, .ty _, ky.ty, kit_ty (kit7 ky.tyN_mem (by decide)), _, rfl, ite2 (fun z => ?_) (fun z => ?_)⟩
          · refine ⟨_, eD, sz, same_app sm nD (Same.refl _), ?_⟩
            have ew : isW y = false := by
              cases ky with
              | int i => cases z
              | _ => rfl
            rw [upd_same, tk, ew]
            rfl
          · refine ⟨y, rfl, y, .ty "int", _, _, _, rfl, .ty _, ky.ty, kit_ty (kit7 ky.tyN_mem (by decide)), _, rfl, _, eD, sz, same_app sm nD (Same.refl _), ?_⟩
            have ew : sub (tyN H' y) "int" = isW y := by
              cases ky with
              | bl b => exact absurd rfl z
              | lst h => rw [tyN_lst h]; rfl
              | tup h _ => rw [tyN_tup h]; rfl
              | dK h => rw [tyN_dK h]; rfl
              | _ => rfl
            rw [upd_same, tk, ew]
        · rintro H' ⟨sm, eD⟩
          refine ⟨D, [!isW u, !isW v], rfl, SqL.of eD, _, rfl, ?_⟩
          cases wu : isW u with
          | false =>
            have q := q H' sm
            rw [frB_no e (.inl wu)] at q
            exact iteT q
          | true =>
            cases wv : isW v with
            | false =>
              have q := q H' sm
              rw [frB_no e (.inr wv)] at q
              exact iteT q
            | true =>
              refine iteF ?_
              obtain ⟨i, rfl⟩ := isW_int wu
              obtain ⟨j, rfl⟩ := isW_int wv
              have e' := sm _ _ e
              refine ⟨.ref a, rfl, a, _, 1, .int j, rfl, rfl, SqT.of e', atI_nat (j := 1) rfl, j, 0, rfl, rfl, _, rfl, ite2 (fun z => ?_) (fun z => ?_)⟩
              · have z0 : 0 < j := of_decide_eq_true z
                refine ⟨.ref a, rfl, a, _, 0, .int i, rfl, rfl, SqT.of e', atI_nat (j := 0) rfl, .ref a, rfl, a, _, 1, .int j, rfl, rfl, SqT.of e', atI_nat (j := 1) rfl, i, j, rfl, by omega, hbd a i j rfl e, fun p np => ?_⟩
                have s2 := same_upd (o := .tup [.int (low1 i j), .int (low2 i j)]) np
                refine ⟨.ref a, rfl, _, _, .tup (SqT.of upd_same) (.cons (.int _) (.cons (.int _) .nil)), .tup (SqT.of (s2 _ _ e')) (.cons (.int _) (.cons (.int _) .nil)), rfl, rfl, ?_⟩
                rw [eqv_two, isFr_low z0, ← frB_ints e]
                exact q _ (sm.trans s2)
              · have z0 : ¬ 0 < j := fun y => z (decide_eq_true y)
                have : isFr i j = false := by
                  unfold isFr
                  rw [decide_eq_false z0]
                  rfl
                have q := q H' sm
                rw [frB_ints e, this] at q
                exact q
      · have q := q _ (.refl _)
        rw [frB_len e hl] at q
        have : (!decide (V.int (xs.length : Int) = V.int 2)) = true := by
          rw [decide_eq_false (fun y => hl (by have := V.int.inj y; omega))]
          rfl
        rw [this]
        exact iteT q
end
/-! ### calls with keywords alone -/
def tCallN0 (m : Nat) (sp : Sp) (gV : List V → List V → List V) (E : XK) (tk : TA) : TE := fun σ H Q => tk σ H fun zs H2 => zs.length = m ∧ sp (gV [] zs) H2 Q E
theorem pe_callN0 {X : Cx} {CX : CXT} {k : Nat} {f : Addr} {fd : FuncData} {ps ks : List Str} {sp : Sp} {E : XK} {x : Str} {p pos : Pos} {kws : List Keyword} {tk : TA} {g : List Value → List Value → List Value} {gV : List V → List V → List V}
    (F : FnOk X.prog X.w X.K X.mg X.base CX k f fd ps sp) (hr : Room k X.A) (hg : Gl X x) (hm : X.mg x = some (.ref f)) (hk : PySem.W.keepIn X.K (.ref f) = true) (hb : KBn X.K fd ps 0 ks g gV) (hx : Passes CX X E) (hkw : PK X kws tk)
    (hall : (backToKw pos (keywordEach kws X.env)).all (·.1.isSome) = true := by rfl) (hks : (backToKw pos (keywordEach kws X.env)).filterMap (·.1) = ks := by rfl) (hdb : (x == ("__debug__" : Str)) = false := by decide)
    (hpl : ((backTo pos (starEach [] X.env)).any (·.1) || (backToKw pos (keywordEach kws X.env)).any (·.1.isNone)) = false := by rfl) : PE X (.Call (.Name x p) [] kws pos) (tCallN0 ks.length sp gV E tk) :=
  ⟨fun pins s σ H Q I h => wpAny_Call_Name_kw (ld_glob I hg hm (PySem.W.callWith_KW0 (first := []) (h₀ := X.base) I.ok.mod.kin hk hall (thn (hkw.run pos pins s σ H _ I h) fun ws s2 ⟨zs, H2, I2, rz, l2, q2⟩ => ⟨I2.kIn, by
    rw [hks]; exact run_fnN F hr hb hx I2 .nil rz rfl l2 q2⟩) hpl) hdb)⟩
/-- a block whose reading says what it leans on -/
theorem pss_given {X : Cx} {b : List Stmt} {t : TS} {p : Prop} (h : p → PSs X b t) : PSs X b (fun D σ H => p ∧ t D σ H) := ⟨fun pins s σ H D I hq => (h hq.1).run pins s σ H D I hq.2⟩
/-- two values by their names, in the other order -/
def swp {α : Type} : List α → List α → List α := fun _ ws => ws.reverse
theorem swp_rel {vs : List V} {us : List Value} {zs : List V} {ws : List Value} (_ : Vals vs us) (h : Vals zs ws) : Vals (swp vs zs) (swp us ws) := by
  show Vals zs.reverse ws.reverse
  induction h with
  | nil => exact .nil
  | cons r t ih =>
    rw [List.reverse_cons, List.reverse_cons]
    exact Vals.append ih (.cons r .nil)
def one1 {α : Type} : List α → List α → List α := fun _ ws => ws
theorem one1_rel {vs : List V} {us : List Value} {zs : List V} {ws : List Value} (_ : Vals vs us) (h : Vals zs ws) : Vals (one1 vs zs) (one1 us ws) := h
section
variable {P : Program} {w : World} {K : PySem.W.Frag} {mg : Str → Option Value} {base : Heap}
theorem pot_upd {H : Hp} {p t : Addr} {o : HO} (h : Pot H p) (n : H t = none) : Pot (upd H t o) p := h.same (same_upd n)
theorem three {d : Int} (h0 : 0 ≤ d) (h3 : d < 3) : d = 0 ∨ d = 1 ∨ d = 2 := by omega
theorem kd_two {H : Hp} {a : Addr} {i j : Int} (e : H a = some (.tup [.int i, .int j])) : Kd H (.ref a) := .tup e fun x hx => by
  rcases List.mem_cons.mp hx with rfl | hx
  · exact .int i
  · rcases List.mem_cons.mp hx with rfl | hx
    · exact .int j
    · cases hx
theorem bd_two {H : Hp} {a : Addr} {i j : Int} (e : H a = some (.tup [.int i, .int j])) (h : j.natAbs < 2 ^ 8000) : Bd H (.ref a) := fun a' i' j' ea e' => by
  cases ea
  rw [e] at e'
  injection e' with e'
  injection e' with e'
  injection e' with _ e'
  injection e' with e' _
  injection e' with e'
  rw [← e']
  exact h
end
/-! ### sizes, by powers of two -/
def Sz (n : Nat) (i : Int) : Prop := i.natAbs < 2 ^ n
theorem Sz.mul {a b : Nat} {i j : Int} (h : Sz a i) (g : Sz b j) : Sz (a + b) (i * j) := wide_lt h g
theorem Sz.mono {a b : Nat} {i : Int} (h : Sz a i) (g : a ≤ b) : Sz b i := Nat.lt_of_lt_of_le h (Nat.pow_le_pow_right (by decide) g)
theorem Sz.add {a : Nat} {i j : Int} (h : Sz a i) (g : Sz a j) : Sz (a + 1) (i + j) := by
  unfold Sz at *
  rw [Nat.pow_succ]
  omega
theorem Sz.sub {a : Nat} {i j : Int} (h : Sz a i) (g : Sz a j) : Sz (a + 1) (i - j) := by
  unfold Sz at *
  rw [Nat.pow_succ]
  omega
theorem Sz.cm {a b : Nat} {i j : Int} (h : Sz a i) (g : Sz b j) (h0 : 0 < a) (h1 : 0 < b) (hs : a + b ≤ 1000000) : CMulW i j := wide_mul h g h0 h1 hs
theorem Sz.of_le {a : Nat} {i : Int} {m : Nat} (h : i.natAbs ≤ m) (g : m < 2 ^ a) : Sz a i := Nat.lt_of_le_of_lt h g
/-- two parts of a fraction -/
structure Fr (n : Nat) (i j : Int) : Prop where
  a : Sz n i
  b : Sz n j
  p : 0 < j
theorem Fr.low {n : Nat} {i j : Int} (h1 : Sz n i) (h2 : Sz n j) (h0 : j ≠ 0) : Fr n (low1 i j) (low2 i j) := ⟨Nat.lt_of_le_of_lt (low1_le h0) h1, Nat.lt_of_le_of_lt (low2_le h0) h2, low2_pos h0⟩
theorem mul_ne {a b : Int} (h : 0 < a) (g : 0 < b) : a * b ≠ 0 := by
  have := Int.mul_pos h g
  omega
theorem pick3 {x y z : Int} {d : Int} {C : Int → Prop} (h0 : 0 ≤ d) (h3 : d < 3) (hx : C x) (hy : C y) (hz : C z) : ∃ n : Int, atI [V.int x, .int y, .int z] d = some (.int n) ∧ C n := by
  have : d = 0 ∨ d = 1 ∨ d = 2 := by omega
  rcases this with rfl | rfl | rfl
  · exact ⟨x, atI_nat (j := 0) rfl, hx⟩
  · exact ⟨y, atI_nat (j := 1) rfl, hy⟩
  · exact ⟨z, atI_nat (j := 2) rfl, hz⟩
end G
set_option Elab.async false
set_option linter.all false
set_option maxRecDepth 100000
set_option maxHeartbeats 1000000
namespace G
open PySem PySem.Spec PyProof.Rows L2 TL
/-! ### names -/
def okC (c : Nat) : Bool := decide (97 ≤ c) && decide (c ≤ 122)
def nmB : V → Bool
  | .str z => decide (1 ≤ z.length) && decide (z.length ≤ 8) && z.cps.toList.all okC
  | _ => false
theorem one_lt (c d : Nat) : (([c] : List Nat) < [d]) ↔ c < d := by
  rw [List.cons_lt_cons_iff]
  exact ⟨fun h => h.elim id fun h => absurd h.2 (List.not_lt_nil _), .inl⟩
theorem a_tl : (Str.ofString "a").cps.toList = [97] := by decide +kernel
theorem z_tl : (Str.ofString "z").cps.toList = [122] := by decide +kernel
theorem abc_tl : (Str.ofString "abcdefghijklmnopqrstuvwxyz").cps.toList = [97, 98, 99, 100, 101, 102, 103, 104, 105, 106, 107, 108, 109, 110, 111, 112, 113, 114, 115, 116, 117, 118, 119, 120, 121, 122] := by decide +kernel
theorem abc_in (c : Nat) : decide (c ∈ (Str.ofString "abcdefghijklmnopqrstuvwxyz").cps.toList) = okC c := by
  rw [abc_tl]
  unfold okC
  rw [← Bool.decide_and]
  refine decide_eq_decide.mpr ?_
  simp only [List.mem_cons, List.not_mem_nil, or_false]
  omega
theorem le_a (c : Nat) : (!decide ((⟨#[c]⟩ : Str).cps.toList < (Str.ofString "a").cps.toList)) = decide (97 ≤ c) := by
  rw [a_tl]
  show (!decide ([c] < [97])) = _
  rw [decide_eq_decide.mpr (one_lt c 97), ← decide_not]
  exact decide_eq_decide.mpr (by omega)
theorem le_z (c : Nat) : (!decide ((Str.ofString "z").cps.toList < (⟨#[c]⟩ : Str).cps.toList)) = decide (c ≤ 122) := by
  rw [z_tl]
  show (!decide ([122] < [c])) = _
  rw [decide_eq_decide.mpr (one_lt 122 c), ← decide_not]
  exact decide_eq_decide.mpr (by omega)
theorem Kd.cases_str {H : Hp} {x : V} (k : Kd H x) : (∃ z, x = .str z) ∨ (∃ t, (∀ K, TyX K H x (.type t)) ∧ kitB t "str" = some false ∧ nmB x = false) := by
  cases k with
  | non => exact .inr ⟨_, fun K => .base .non, by decide +kernel, rfl⟩
  | bl b => exact .inr ⟨_, fun K => .base (.bl b), by decide +kernel, rfl⟩
  | int i => exact .inr ⟨_, fun K => .base (.int i), by decide +kernel, rfl⟩
  | str z => exact .inl ⟨z, rfl⟩
  | lst e => exact .inr ⟨_, fun K => .base (.lst e), by decide +kernel, rfl⟩
  | dK e => exact .inr ⟨_, fun K => .base (.dK e), by decide +kernel, rfl⟩
  | tup e h => exact .inr ⟨_, fun K => .base (.tup e), by decide +kernel, rfl⟩
theorem at_cps {z : Str} {i c : Nat} (h : z.cps[i]? = some c) : z.cps.toList[i]? = some c := by
  rw [Array.getElem?_toList]
  exact h
def Tx (x : V) : Prop := ∀ z, x = .str z → z.length ≤ 100000
def rLeS : R2 := fun x y H Q => ∃ i j, x = .str i ∧ y = .str j ∧ Q (.bl (!decide (j.cps.toList < i.cps.toList))) H
def rInS : R2 := fun x y H Q => ∃ (c : Nat) (z : Str), x = .str ⟨#[c]⟩ ∧ y = .str z ∧ Q (.bl (decide (c ∈ z.cps.toList))) H
def spNm : Sp := fun vs H Q _ => ∃ x : V, vs = [x] ∧ Kd H x ∧ Tx x ∧ ∀ H', Same H H' → Q (.bl (nmB x)) H'
theorem nm_short {z : Str} (h : ¬ (1 ≤ z.length ∧ z.length ≤ 8)) : nmB (.str z) = false := by
  show (decide (1 ≤ z.length) && decide (z.length ≤ 8) && z.cps.toList.all okC) = false
  rw [← Bool.decide_and, decide_eq_false h, Bool.false_and]
theorem nm_long {z : Str} (h1 : 1 ≤ z.length) (h2 : z.length ≤ 8) : nmB (.str z) = (z.cps.toList.map okC).all id := by
  show (decide (1 ≤ z.length) && decide (z.length ≤ 8) && z.cps.toList.all okC) = _
  rw [decide_eq_true h1, decide_eq_true h2, List.all_map]
  rfl
theorem take_one {z : Str} {i c : Nat} (h : z.cps[i]? = some c) : (z.cps.toList.take (i + 1)).map (fun c => V.bl (okC c)) = (z.cps.toList.take i).map (fun c => V.bl (okC c)) ++ [.bl (okC c)] := by
  rw [List.take_add_one, at_cps h, List.map_append]
  rfl
theorem take_all (z : Str) : (z.cps.toList.take z.cps.size).map (fun c => V.bl (okC c)) = (z.cps.toList.map okC).map V.bl := by
  rw [List.take_of_length_le (by rw [Array.length_toList]; exact Nat.le_refl _), List.map_map]
  rfl
theorem take_sz {z : Str} {i : Nat} (hz : z.length ≤ 100000) : ((z.cps.toList.take i).map (fun c => V.bl (okC c))).length < sizeLine := by
  rw [List.length_map, List.length_take]
  have : z.cps.toList.length = z.length := (len_tl z).symm
  exact Nat.lt_of_le_of_lt (Nat.le_trans (Nat.min_le_right _ _) (by rw [this]; exact hz)) (by decide)
section
variable {P : Program} {w : World} {K : PySem.W.Frag} {mg : Str → Option Value} {base : Heap}
abbrev sNm : Stmt := topS 7
abbrev nNm : List Str := ["thing", "sign"]
theorem scNm : FnScope nNm ["thing"] (defScope sNm) := ⟨rfl, rfl, rfl, by decide +kernel, rfl, by decide +kernel, by decide +kernel⟩
theorem ok_nm {f : Addr} {fd : FuncData} {tk : Tok} (F : Fun K "is_name" "is_name" sNm f fd) (mI : mg "isinstance" = none) (mS : mg "str" = none) (mL : mg "len" = none) (mAll : mg "all" = none) (mM : mg "MOST_LETTERS" = some (.int 8 tk)) : FnOk P w K mg base CX0 1 f fd ["thing"] spNm := by
  refine F.ok scNm (fun vs H Q E h => ?_) (fun cdv A outer s H vs Q E hr h => ?_)
  · obtain ⟨x, rfl, _⟩ := h
    rfl
  · obtain ⟨x, rfl, k, tx, q⟩ := h
    refine ⟨_, pss_cons (ps_if (PW.pt (pw_or (pt_not (pt_val (pe_callB call_isi (by rfl) mI (by decide +kernel) (pa_cons (pv 0) (pa_cons (pe_bltn (v := .ty "str") (by rfl) mS (by decide +kernel) rfl) pa_nil)))))
          (pw_or (pt_cmpR op_lt (pe_callB call_len_str (by rfl) mL PySem.boot_len (pa_cons (pv 0) pa_nil)) pe_int (nomark _)) (pw_or1 (pt_cmpR op_gt (pe_callB call_len_str (by rfl) mL PySem.boot_len (pa_cons (pv 0) pa_nil)) (pe_glob (v := .int 8) (by rfl) mM ⟨tk, rfl⟩) (nomark _)))))) (pss_one (ps_ret pe_bl)) pss_nil)
      (pss_one (ps_ret (pe_callB (cr_all rfl) (by rfl) mAll (by decide +kernel) (pa_cons (pe_lc (own := [("sign", 1)]) (g := gName 1) (tt := tYes) (te := tChain rLeS rLeS (tC (.str "a")) (tVar 1) (tC (.str "z"))) (by rfl) scNm.nd (pi_str (pv 0)) (blkOk_by (own := [("sign", 1)]) (N := nNm) (sc := defScope sNm) (by decide +kernel))
          (fun _ _ _ _ _ => pg_name (i := 1) scNm.nd rfl (.inl rfl)) (fun _ _ _ _ _ => pts_nil) (fun _ _ _ _ _ => pe_chain op_le_str op_le_str pe_str (pv 1) pe_str)) pa_nil)))), ?_⟩
    rcases k.cases_str with ⟨z, rfl⟩ | ⟨t, ty, kt, ef⟩
    · have hz := tx z rfl
      have hzl : z.length ≤ sizeLine := Nat.le_trans hz (by decide)
      refine ⟨_, rfl, _, .ty "str", _, _, _, rfl, .ty _, .base (.str z), kit_ty (b := "str") (r := true) (by decide +kernel), _, rfl, iteF ?_⟩
      refine ⟨_, rfl, z, rfl, hzl, _, 1, rfl, rfl, _, rfl, ite2 (fun e => ?_) (fun e => ?_)⟩
      · have e0 : (z.length : Int) < 1 := of_decide_eq_true e
        have q := q H (.refl _)
        rw [nm_short (by omega)] at q
        exact iteT q
      · have e0 : ¬ (z.length : Int) < 1 := fun y => e (decide_eq_true y)
        refine ⟨_, rfl, z, rfl, hzl, _, 8, rfl, rfl, _, rfl, ite2 (fun e => ?_) (fun e => ?_)⟩
        · have e1 : (8 : Int) < (z.length : Int) := of_decide_eq_true e
          have q := q H (.refl _)
          rw [nm_short (by omega)] at q
          exact q
        · have e1 : ¬ (8 : Int) < (z.length : Int) := fun y => e (decide_eq_true y)
          refine ⟨_, rfl, z, rfl, fun D nD => ?_⟩
          refine lc_it walk_str (fun n H' => Same H H' ∧ H' D = some (.lst ((z.cps.toList.take n).map fun c => .bl (okC c)))) ⟨same_upd nD, upd_same⟩ (fun _ _ _ _ => trivial) ?_ ?_
          · rintro n y H8 H9 hn ⟨t8, e8⟩ ⟨rfl, c, hc, rfl⟩
            refine ⟨rfl, _, rfl, _, _, rfl, rfl, _, rfl, ite2 (fun e => ?_) (fun e => ?_)⟩
            · rw [le_a] at e
              refine ⟨_, _, rfl, rfl, _, e8, take_sz hz, same_app t8 nD (.refl _), ?_⟩
              rw [upd_same, take_one hc, le_z]
              have : okC c = decide (c ≤ 122) := by
                unfold okC
                rw [e, Bool.true_and]
              rw [this]
            · rw [le_a] at e
              refine ⟨_, e8, take_sz hz, same_app t8 nD (.refl _), ?_⟩
              rw [upd_same, take_one hc]
              have : okC c = false := by
                unfold okC
                rw [Bool.not_eq_true] at e
                rw [e, Bool.false_and]
              rw [this]
          · rintro H8 ⟨t8, e8⟩
            rw [take_all] at e8
            refine ⟨D, _, rfl, SqL.of e8, ?_⟩
            rw [← nm_long (by omega) (by omega)]
            exact q _ t8
    · have q := q H (.refl _)
      rw [ef] at q
      exact ⟨x, rfl, x, .ty "str", _, _, _, rfl, .ty _, ty K, kit_ty kt, _, rfl, iteT (iteT q)⟩
/-! ### _law_is_name -/
abbrev sLN : Stmt := topS 15
abbrev nLN : List Str := ["_law_what", "_law_sign"]
theorem scLN : FnScope nLN ["_law_what"] (defScope sLN) := ⟨rfl, rfl, rfl, by decide +kernel, rfl, by decide +kernel, by decide +kernel⟩
theorem ok_LN {f : Addr} {fd : FuncData} (F : Fun K "_law_is_name" "_law_is_name" sLN f fd) (mI : mg "isinstance" = none) (mS : mg "str" = none) (mL : mg "len" = none) (mAll : mg "all" = none) : FnOk P w K mg base CX0 1 f fd ["_law_what"] spNm := by
  refine F.ok scLN (fun vs H Q E h => ?_) (fun cdv A outer s H vs Q E hr h => ?_)
  · obtain ⟨x, rfl, _⟩ := h
    rfl
  · obtain ⟨x, rfl, k, tx, q⟩ := h
    refine ⟨_, pss_cons (ps_if (PW.pt (pw_or (pt_not (pt_val (pe_callB call_isi (by rfl) mI (by decide +kernel) (pa_cons (pv 0) (pa_cons (pe_bltn (v := .ty "str") (by rfl) mS (by decide +kernel) rfl) pa_nil)))))
          (pw_or1 (pt_not (pt_chain op_le op_le pe_int (pe_callB call_len_str (by rfl) mL PySem.boot_len (pa_cons (pv 0) pa_nil)) pe_int))))) (pss_one (ps_ret pe_bl)) pss_nil)
      (pss_one (ps_ret (pe_callB (cr_all rfl) (by rfl) mAll (by decide +kernel) (pa_cons (pe_lc (own := [("_law_sign", 1)]) (g := gName 1) (tt := tYes) (te := tOp rInS (tVar 1) (tC (.str "abcdefghijklmnopqrstuvwxyz"))) (by rfl) scLN.nd (pi_str (pv 0)) (blkOk_by (own := [("_law_sign", 1)]) (N := nLN) (sc := defScope sLN) (by decide +kernel))
          (fun _ _ _ _ _ => pg_name (i := 1) scLN.nd rfl (.inl rfl)) (fun _ _ _ _ _ => pts_nil) (fun _ _ _ _ _ => pe_cmpR op_in_sign (pv 1) pe_str (by rfl))) pa_nil)))), ?_⟩
    rcases k.cases_str with ⟨z, rfl⟩ | ⟨t, ty, kt, ef⟩
    · have hz := tx z rfl
      have hzl : z.length ≤ sizeLine := Nat.le_trans hz (by decide)
      have go : (1 ≤ z.length ∧ z.length ≤ 8) → tRet (tCB (rAll K) (tCons (tLc (iStr (tVar 0)) (gName 1) tYes (tOp rInS (tVar 1) (tC (.str "abcdefghijklmnopqrstuvwxyz"))) [1]) tNil)) { nx := fun _ H' => Q .non H', rt := Q } [some (.str z), none] H := by
        rintro ⟨h1, h2⟩
        refine ⟨_, rfl, z, rfl, fun D nD => ?_⟩
        refine lc_it walk_str (fun n H' => Same H H' ∧ H' D = some (.lst ((z.cps.toList.take n).map fun c => .bl (okC c)))) ⟨same_upd nD, upd_same⟩ (fun _ _ _ _ => trivial) ?_ ?_
        · rintro n y H8 H9 hn ⟨t8, e8⟩ ⟨rfl, c, hc, rfl⟩
          refine ⟨rfl, _, rfl, c, _, rfl, rfl, _, e8, take_sz hz, same_app t8 nD (.refl _), ?_⟩
          rw [upd_same, take_one hc, abc_in]
        · rintro H8 ⟨t8, e8⟩
          rw [take_all] at e8
          refine ⟨D, _, rfl, SqL.of e8, ?_⟩
          rw [← nm_long h1 h2]
          exact q _ t8
      refine ⟨_, rfl, _, .ty "str", _, _, _, rfl, .ty _, .base (.str z), kit_ty (b := "str") (r := true) (by decide +kernel), _, rfl, iteF ?_⟩
      refine ⟨_, rfl, z, rfl, hzl, 1, _, rfl, rfl, _, rfl, ite2 (fun e => ?_) (fun e => ?_)⟩
      · have e0 : (1 : Int) ≤ (z.length : Int) := of_decide_eq_true e
        refine ⟨_, 8, rfl, rfl, _, rfl, ?_⟩
        by_cases h8 : z.length ≤ 8
        · refine ifF (by rw [decide_eq_true (show (z.length : Int) ≤ 8 by omega)]; rfl) ?_
          exact go ⟨by omega, h8⟩
        · refine ifT (by rw [decide_eq_false (show ¬ (z.length : Int) ≤ 8 by omega)]; rfl) ?_
          have q := q H (.refl _)
          rw [nm_short (by omega)] at q
          exact q
      · have e0 : ¬ (1 : Int) ≤ (z.length : Int) := fun y => e (decide_eq_true y)
        refine ⟨_, rfl, ifT rfl ?_⟩
        have q := q H (.refl _)
        rw [nm_short (by omega)] at q
        exact q
    · have q := q H (.refl _)
      rw [ef] at q
      exact ⟨x, rfl, x, .ty "str", _, _, _, rfl, .ty _, ty K, kit_ty kt, _, rfl, iteT (iteT q)⟩
end
end G
set_option Elab.async false
set_option linter.all false
set_option maxRecDepth 100000
set_option maxHeartbeats 1000000
namespace G
open PySem PySem.Spec PyProof.Rows L2 TL
abbrev Two (H : Hp) (a : Addr) (i j : Int) : Prop := H a = some (.tup [.int i, .int j])
def prs (H : Hp) : V → Option (Int × Int)
  | .ref a => match H a with
    | some (.tup [.int i, .int j]) => some (i, j)
    | _ => none
  | _ => none
def stP (o u : Option (Int × Int)) : Bool := match o, u with
  | some (a, b), some (c, d) => isFr a b && isFr c d && (decide (0 ≤ a) && decide (a * d ≤ c * b) && decide (c ≤ d))
  | _, _ => false
def stB (H : Hp) : V → Bool
  | .ref a => match H a with
    | some (.tup [u, v]) => stP (prs H u) (prs H v)
    | _ => false
  | _ => false
theorem prs_two {H : Hp} {a : Addr} {i j : Int} (e : Two H a i j) : prs H (.ref a) = some (i, j) := by simp only [prs, e]
theorem frB_prs {H : Hp} {u : V} (h : frB H u = true) : ∃ a i j, u = .ref a ∧ Two H a i j ∧ isFr i j = true := by
  cases u with
  | ref a =>
    cases e : H a with
    | none => simp [frB, e] at h
    | some o =>
      simp only [frB, e] at h
      split at h
      · rename_i i j z
        injection z with z
        subst z
        exact ⟨a, i, j, rfl, e, h⟩
      · cases h
  | _ => cases h
theorem stP_of {H : Hp} {u v : V} (h : stP (prs H u) (prs H v) = true) : frB H u = true ∧ frB H v = true := by
  have key : ∀ {u : V} {i j : Int}, prs H u = some (i, j) → isFr i j = true → frB H u = true := by
    intro u i j hp hf
    cases u with
    | ref a =>
      cases e : H a with
      | none => simp [prs, e] at hp
      | some o =>
        simp only [prs, e] at hp
        split at hp
        · rename_i i' j' z
          injection z with z
          subst z
          cases hp
          rw [frB_ints e]
          exact hf
        · cases hp
    | _ => cases hp
  cases hu : prs H u with
  | none => rw [hu] at h; cases h
  | some p =>
    cases hv : prs H v with
    | none => rw [hu, hv] at h; obtain ⟨_, _⟩ := p; cases h
    | some r =>
      obtain ⟨a, b⟩ := p
      obtain ⟨c, d⟩ := r
      rw [hu, hv] at h
      have h' : (isFr a b && isFr c d && (decide (0 ≤ a) && decide (a * d ≤ c * b) && decide (c ≤ d))) = true := h
      rw [Bool.and_eq_true, Bool.and_eq_true] at h'
      exact ⟨key hu h'.1.1, key hv h'.1.2⟩
theorem stB_two {H : Hp} {a : Addr} {u v : V} (e : H a = some (.tup [u, v])) : stB H (.ref a) = stP (prs H u) (prs H v) := by simp only [stB, e]
theorem stB_no {H : Hp} {a : Addr} {u v : V} (e : H a = some (.tup [u, v])) (h : frB H u = false ∨ frB H v = false) : stB H (.ref a) = false := by
  rw [stB_two e]
  refine Bool.eq_false_iff.mpr fun z => ?_
  obtain ⟨h1, h2⟩ := stP_of z
  rcases h with h | h
  · rw [h] at h1; cases h1
  · rw [h] at h2; cases h2
theorem stB_len {H : Hp} {a : Addr} {xs : List V} (e : H a = some (.tup xs)) (h : xs.length ≠ 2) : stB H (.ref a) = false := by
  simp only [stB, e]
  split
  · rename_i z
    injection z with z
    injection z with z
    subst z
    exact absurd rfl h
  · rfl
theorem Kd.cases_st {H : Hp} {x : V} (k : Kd H x) : (∃ t, (∀ K, TyX K H x (.type t)) ∧ kitB t "tuple" = some false ∧ stB H x = false) ∨ (∃ a xs, x = .ref a ∧ H a = some (.tup xs) ∧ ∀ y ∈ xs, Kd H y) := by
  cases k with
  | non => exact .inl ⟨_, fun K => .base .non, by decide +kernel, rfl⟩
  | bl b => exact .inl ⟨_, fun K => .base (.bl b), by decide +kernel, rfl⟩
  | int i => exact .inl ⟨_, fun K => .base (.int i), by decide +kernel, rfl⟩
  | str z => exact .inl ⟨_, fun K => .base (.str z), by decide +kernel, rfl⟩
  | lst e => exact .inl ⟨_, fun K => .base (.lst e), by decide +kernel, by simp only [stB, e]⟩
  | dK e => exact .inl ⟨_, fun K => .base (.dK e), by decide +kernel, by simp only [stB, e]⟩
  | tup e h => exact .inr ⟨_, _, rfl, e, h⟩
def PB (H : Hp) (u : V) : Prop := ∀ a i j, u = .ref a → Two H a i j → Sz 1000 i ∧ Sz 1000 j
def BB (H : Hp) (x : V) : Prop := ∀ a u v, x = .ref a → H a = some (.tup [u, v]) → PB H u ∧ PB H v
theorem PB.bd {H : Hp} {u : V} (h : PB H u) : Bd H u := fun a i j e1 e2 => (h a i j e1 e2).2.mono (show 1000 ≤ 8000 by decide)
theorem isFr_pos {i j : Int} (h : isFr i j = true) : 0 < j := by
  unfold isFr at h
  rw [Bool.and_eq_true] at h
  exact of_decide_eq_true h.1
def spSt : Sp := fun vs H Q _ => ∃ x : V, vs = [x] ∧ Kd H x ∧ BB H x ∧ ∀ H', Same H H' → Q (.bl (stB H x)) H'
section
variable {P : Program} {w : World} {K : PySem.W.Frag} {mg : Str → Option Value} {base : Heap}
abbrev sLess : Stmt := topS 3
theorem scLess : FnScope ["one", "other"] ["one", "other"] (defScope sLess) := ⟨rfl, rfl, rfl, by decide +kernel, rfl, by decide +kernel, by decide +kernel⟩
def spLess : Sp := fun vs H Q _ => ∃ (a b : Addr) (i j k l : Int), vs = [.ref a, .ref b] ∧ Two H a i j ∧ Two H b k l ∧ Fr 1000 i j ∧ Fr 1000 k l ∧ Q (.bl (decide (i * l < k * j))) H
theorem ok_less {f : Addr} {fd : FuncData} (F : Fun K "is_less" "is_less" sLess f fd) : FnOk P w K mg base CX0 1 f fd ["one", "other"] spLess := by
  refine F.ok scLess (fun vs H Q E h => ?_) (fun cdv A outer s H vs Q E hr h => ?_)
  · obtain ⟨a, b, i, j, k, l, rfl, _⟩ := h
    rfl
  · obtain ⟨a, b, i, j, k, l, rfl, ea, eb, f1, f2, q⟩ := h
    refine ⟨_, pss_one (ps_ret (pe_cmpR op_lt (pe_op op_mulW (pe_ix ix_tup (pv 0) pe_int (fun _ _ => rfl)) (pe_ix ix_tup (pv 1) pe_int (fun _ _ => rfl))) (pe_op op_mulW (pe_ix ix_tup (pv 1) pe_int (fun _ _ => rfl)) (pe_ix ix_tup (pv 0) pe_int (fun _ _ => rfl))) (nomark _))), ?_⟩
    refine ⟨.ref a, rfl, a, _, 0, _, rfl, rfl, SqT.of ea, atI_nat (j := 0) rfl, .ref b, rfl, b, _, 1, _, rfl, rfl, SqT.of eb, atI_nat (j := 1) rfl, i, l, rfl, rfl, f1.a.cm f2.b (by decide) (by decide) (by decide), ?_⟩
    exact ⟨.ref b, rfl, b, _, 0, _, rfl, rfl, SqT.of eb, atI_nat (j := 0) rfl, .ref a, rfl, a, _, 1, _, rfl, rfl, SqT.of ea, atI_nat (j := 1) rfl, k, j, rfl, rfl, f2.a.cm f1.b (by decide) (by decide) (by decide), _, _, rfl, rfl, q⟩
/-! ### is_stretch -/
abbrev sSt : Stmt := topS 8
theorem scSt : FnScope ["thing", "least", "most"] ["thing"] (defScope sSt) := ⟨rfl, rfl, rfl, by decide +kernel, rfl, by decide +kernel, by decide +kernel⟩
theorem fr01 : Fr 1000 0 1 := ⟨by show Nat.lt _ _; exact Nat.two_pow_pos _, Nat.lt_of_lt_of_le (show 1 < 2 ^ 1 by decide) (Nat.pow_le_pow_right (by decide) (by decide)), by decide⟩
theorem fr11 : Fr 1000 1 1 := ⟨fr01.b, fr01.b, by decide⟩
theorem ok_st {f fF fL : Addr} {fd fdF fdL : FuncData} (F : Fun K "is_stretch" "is_stretch" sSt f fd) (FF : Fun K "is_fraction" "is_fraction" sIsF fF fdF) (bF : Binds K fdF ["thing"] []) (gF : mg "is_fraction" = some (.ref fF)) (GF : FnOk P w K mg base CX0 2 fF fdF ["thing"] spIsF)
    (FL : Fun K "is_less" "is_less" sLess fL fdL) (bL : Binds K fdL ["one", "other"] []) (gL : mg "is_less" = some (.ref fL)) (mI : mg "isinstance" = none) (mT : mg "tuple" = none) (mL : mg "len" = none) : FnOk P w K mg base CX0 3 f fd ["thing"] spSt := by
  have GL : FnOk P w K mg base CX0 1 fL fdL ["one", "other"] spLess := ok_less FL
  refine F.ok scSt (fun vs H Q E h => ?_) (fun cdv A outer s H vs Q E hr h => ?_)
  · obtain ⟨x, rfl, _⟩ := h
    rfl
  · obtain ⟨x, rfl, k, hbb, q⟩ := h
    have hr1 := hr.mono (show 1 ≤ 2 by decide)
    refine ⟨_, pss_cons (ps_if (PW.pt (pw_or (pt_not (pt_val (pe_callB call_isi (by rfl) mI (by decide +kernel) (pa_cons (pv 0) (pa_cons (pe_bltn (v := .ty "tuple") (by rfl) mT (by decide +kernel) rfl) pa_nil)))))
          (pw_or1 (pt_cmpR op_ne (pe_callB call_len_seq (by rfl) mL PySem.boot_len (pa_cons (pv 0) pa_nil)) pe_int (nomark _))))) (pss_one (ps_ret pe_bl)) pss_nil)
      (pss_cons (ps_asg (pv 0) (pg_tup (by rfl) (pgs_cons (pg_name (i := 1) scSt.nd rfl (.inl rfl)) (pgs_cons (pg_name (i := 2) scSt.nd rfl (.inl rfl)) pgs_nil))))
      (pss_cons (ps_if (PW.pt (pw_or (pt_not (pt_val (pe_call GF hr (by rfl) gF FF.kp bF .nil pass0 (pa_cons (pv 1) pa_nil)))) (pw_or1 (pt_not (pt_val (pe_call GF hr (by rfl) gF FF.kp bF .nil pass0 (pa_cons (pv 2) pa_nil))))))) (pss_one (ps_ret pe_bl)) pss_nil)
      (pss_one (ps_ret (pe_and (pe_not (pe_call GL hr1 (by rfl) gL FL.kp bL .nil pass0 (pa_cons (pv 1) (pa_cons (pe_tup (pa_cons pe_int (pa_cons pe_int pa_nil))) pa_nil))))
        (pe_and (pe_not (pe_call GL hr1 (by rfl) gL FL.kp bL .nil pass0 (pa_cons (pv 2) (pa_cons (pv 1) pa_nil)))) (pe_one (pe_not (pe_call GL hr1 (by rfl) gL FL.kp bL .nil pass0 (pa_cons (pe_tup (pa_cons pe_int (pa_cons pe_int pa_nil))) (pa_cons (pv 2) pa_nil))))))))))), ?_⟩
    rcases k.cases_st with ⟨t, ty, kt, ef⟩ | ⟨a, xs, rfl, e, hk⟩
    · have q := q H (.refl _)
      rw [ef] at q
      exact ⟨x, rfl, x, .ty "tuple", _, _, _, rfl, .ty _, ty K, kit_ty kt, _, rfl, iteT (iteT q)⟩
    · refine ⟨.ref a, rfl, _, .ty "tuple", _, _, _, rfl, .ty _, .base (.tup e), kit_ty (b := "tuple") (r := true) (by decide +kernel), _, rfl, iteF ?_⟩
      refine ⟨.ref a, rfl, a, xs, rfl, .inr (SqT.of e), rfl, _, rfl, ?_⟩
      by_cases hl : xs.length = 2
      · obtain ⟨u, v, rfl⟩ := two_of hl
        refine iteF ?_
        refine ⟨.ref a, rfl, a, [u, v], rfl, SqT.of e, rfl, u, [v], rfl, v, [], rfl, rfl, ?_⟩
        have ku : Kd H u := hk u (.head _)
        have kv : Kd H v := hk v (.tail _ (.head _))
        obtain ⟨pu, pv'⟩ := hbb a u v rfl e
        refine ⟨u, rfl, u, rfl, ku, _, rfl, ?_⟩
        cases wu : frB H u with
        | false =>
          have q := q H (.refl _)
          rw [stB_no e (.inl wu)] at q
          exact iteT (iteT q)
        | true =>
          refine iteF ?_
          refine ⟨v, rfl, v, rfl, kv, _, rfl, ?_⟩
          cases wv : frB H v with
          | false =>
            have q := q H (.refl _)
            rw [stB_no e (.inr wv)] at q
            exact iteT q
          | true =>
            refine iteF ?_
            obtain ⟨a1, i, j, rfl, e1, h1⟩ := frB_prs wu
            obtain ⟨a2, c, d, rfl, e2, h2⟩ := frB_prs wv
            have f1 : Fr 1000 i j := ⟨(pu a1 i j rfl e1).1, (pu a1 i j rfl e1).2, isFr_pos h1⟩
            have f2 : Fr 1000 c d := ⟨(pv' a2 c d rfl e2).1, (pv' a2 c d rfl e2).2, isFr_pos h2⟩
            have es : stB H (.ref a) = (decide (0 ≤ i) && decide (i * d ≤ c * j) && decide (c ≤ d)) := by
              rw [stB_two e, prs_two e1, prs_two e2]
              show (isFr i j && isFr c d && (decide (0 ≤ i) && decide (i * d ≤ c * j) && decide (c ≤ d))) = _
              rw [h1, h2]
              rfl
            refine ⟨.ref a1, rfl, (by show 2 ≤ sizeLine; decide), fun p np => ?_⟩
            have s1 := same_upd (o := .tup [.int 0, .int 1]) np
            refine ⟨a1, p, i, j, 0, 1, rfl, s1 _ _ e1, upd_same, f1, fr01, _, rfl, _, rfl, ite2 (fun z => ?_) (fun z => ?_)⟩
            · have z0 : 0 ≤ i := by
                rw [Bool.not_eq_true', decide_eq_false_iff_not] at z
                omega
              refine ⟨.ref a2, rfl, .ref a1, rfl, a2, a1, c, d, i, j, rfl, s1 _ _ e2, s1 _ _ e1, f2, f1, _, rfl, _, rfl, ite2 (fun z => ?_) (fun z => ?_)⟩
              · have z1 : i * d ≤ c * j := by
                  rw [Bool.not_eq_true', decide_eq_false_iff_not] at z
                  omega
                refine ⟨(by show 2 ≤ sizeLine; decide), fun p2 np2 => ?_⟩
                have s2 := same_upd (o := .tup [.int 1, .int 1]) np2
                refine ⟨.ref a2, rfl, p2, a2, 1, 1, c, d, rfl, upd_same, s2 _ _ (s1 _ _ e2), fr11, f2, _, rfl, ?_⟩
                have : (!decide (1 * d < c * 1)) = stB H (.ref a) := by
                  rw [es, decide_eq_true z0, decide_eq_true z1, Bool.true_and, Bool.true_and, ← decide_not]
                  exact decide_eq_decide.mpr (by omega)
                rw [this]
                exact q _ (s1.trans s2)
              · have z1 : ¬ i * d ≤ c * j := by
                  rw [Bool.not_eq_true', decide_eq_false_iff_not] at z
                  omega
                have : stB H (.ref a) = false := by rw [es, decide_eq_false z1, Bool.and_false, Bool.false_and]
                rw [this] at q
                exact q _ s1
            · have z0 : ¬ 0 ≤ i := by
                rw [Bool.not_eq_true', decide_eq_false_iff_not] at z
                omega
              have : stB H (.ref a) = false := by rw [es, decide_eq_false z0, Bool.false_and, Bool.false_and]
              rw [this] at q
              exact q _ s1
      · have q := q H (.refl _)
        rw [stB_len e hl] at q
        refine ifT ?_ q
        rw [decide_eq_false (fun y => hl (by have := V.int.inj y; omega))]
        rfl
/-! ### _law_is_stretch -/
abbrev sLS : Stmt := topS 16
abbrev nLS : List Str := ["_law_what", "_law_low", "_law_high", "_law_end_here"]
theorem scLS : FnScope nLS ["_law_what"] (defScope sLS) := ⟨rfl, rfl, rfl, by decide +kernel, rfl, by decide +kernel, by decide +kernel⟩
theorem ok_LS {f fF : Addr} {fd fdF : FuncData} (F : Fun K "_law_is_stretch" "_law_is_stretch" sLS f fd) (FF : Fun K "_law_is_fraction" "_law_is_fraction" sLF fF fdF) (bF : Binds K fdF ["_law_what"] []) (gF : mg "_law_is_fraction" = some (.ref fF)) (GF : FnOk P w K mg base CX0 2 fF fdF ["_law_what"] spLF)
    (mI : mg "isinstance" = none) (mT : mg "tuple" = none) (mL : mg "len" = none) (mAll : mg "all" = none) : FnOk P w K mg base CX0 3 f fd ["_law_what"] spSt := by
  refine F.ok scLS (fun vs H Q E h => ?_) (fun cdv A outer s H vs Q E hr h => ?_)
  · obtain ⟨x, rfl, _⟩ := h
    rfl
  · obtain ⟨x, rfl, k, hbb, q⟩ := h
    refine ⟨_, pss_cons (ps_if (PW.pt (pw_or (pt_not (pt_val (pe_callB call_isi (by rfl) mI (by decide +kernel) (pa_cons (pv 0) (pa_cons (pe_bltn (v := .ty "tuple") (by rfl) mT (by decide +kernel) rfl) pa_nil)))))
          (pw_or (pt_cmpR op_ne (pe_callB call_len_seq (by rfl) mL PySem.boot_len (pa_cons (pv 0) pa_nil)) pe_int (nomark _)) (pw_or1 (pt_not (pt_val (pe_callB (cr_all rfl) (by rfl) mAll (by decide +kernel) (pa_cons (pe_lc (own := [("_law_end_here", 3)]) (g := gName 3) (tt := tYes) (te := tCall spLF [] E0 (tCons (tVar 3) tNil)) (by rfl) scLS.nd (pi_tup (pv 0)) (blkOk_by (own := [("_law_end_here", 3)]) (N := nLS) (sc := defScope sLS) (by decide +kernel))
            (fun _ _ _ _ _ => pg_name (i := 3) scLS.nd rfl (.inl rfl)) (fun _ _ _ _ _ => pts_nil) (fun _ _ _ _ _ => pe_call GF hr (by rfl) gF FF.kp bF .nil pass0 (pa_cons (pv 3) pa_nil))) pa_nil)))))))) (pss_one (ps_ret pe_bl)) pss_nil)
      (pss_cons (ps_asg (pv 0) (pg_tup (by rfl) (pgs_cons (pg_name (i := 1) scLS.nd rfl (.inl rfl)) (pgs_cons (pg_name (i := 2) scLS.nd rfl (.inl rfl)) pgs_nil))))
      (pss_one (ps_ret (pe_and (pe_cmpR op_le pe_int (pe_ix ix_tup (pv 1) pe_int (fun _ _ => rfl)) (nomark _)) (pe_and (pe_cmpR op_le (pe_op op_mulW (pe_ix ix_tup (pv 1) pe_int (fun _ _ => rfl)) (pe_ix ix_tup (pv 2) pe_int (fun _ _ => rfl))) (pe_op op_mulW (pe_ix ix_tup (pv 2) pe_int (fun _ _ => rfl)) (pe_ix ix_tup (pv 1) pe_int (fun _ _ => rfl))) (nomark _))
        (pe_one (pe_cmpR op_le (pe_ix ix_tup (pv 2) pe_int (fun _ _ => rfl)) (pe_ix ix_tup (pv 2) pe_int (fun _ _ => rfl)) (nomark _)))))))), ?_⟩
    rcases k.cases_st with ⟨t, ty, kt, ef⟩ | ⟨a, xs, rfl, e, hk⟩
    · have q := q H (.refl _)
      rw [ef] at q
      exact ⟨x, rfl, x, .ty "tuple", _, _, _, rfl, .ty _, ty K, kit_ty kt, _, rfl, iteT (iteT q)⟩
    · refine ⟨.ref a, rfl, _, .ty "tuple", _, _, _, rfl, .ty _, .base (.tup e), kit_ty (b := "tuple") (r := true) (by decide +kernel), _, rfl, iteF ?_⟩
      refine ⟨.ref a, rfl, a, xs, rfl, .inr (SqT.of e), rfl, _, rfl, ?_⟩
      by_cases hl : xs.length = 2
      · obtain ⟨u, v, rfl⟩ := two_of hl
        refine iteF ?_
        have ku : Kd H u := hk u (.head _)
        have kv : Kd H v := hk v (.tail _ (.head _))
        obtain ⟨pu, pv'⟩ := hbb a u v rfl e
        refine ⟨.ref a, rfl, a, rfl, ⟨_, SqT.of e⟩, fun D nD => ?_⟩
        have pbs : ∀ {y : V} {H' : Hp}, y ∈ [u, v] → Same H H' → Kd H' y ∧ Bd H' y ∧ frB H' y = frB H y := by
          intro y H' hy sm
          have ky : Kd H y := hk y hy
          have py : PB H y := by
            rcases List.mem_cons.mp hy with rfl | hy
            · exact pu
            · rw [List.mem_singleton.mp hy]
              exact pv'
          refine ⟨ky.same sm, fun a' i j ea e' => ?_, ?_⟩
          · subst ea
            cases ky with
            | lst z => rw [sm _ _ z] at e'; cases e'
            | dK z => rw [sm _ _ z] at e'; cases e'
            | tup z _ =>
              rw [sm _ _ z] at e'
              exact py.bd a' i j rfl (z.trans e')
          · cases ky with
            | lst z => simp only [frB, z, sm _ _ z]
            | dK z => simp only [frB, z, sm _ _ z]
            | tup z _ => simp only [frB, z, sm _ _ z]
            | _ => rfl
        refine lc_tup (K := K) (a := a) (xs := [u, v]) (fun n H' => Same H H' ∧ H' D = some (.lst (([u, v].take n).map fun y => .bl (frB H y)))) ⟨same_upd nD, upd_same⟩ (fun n H' _ hP => SqT.of (hP.1 _ _ e)) ?_ ?_
        · rintro n y H' hy ⟨sm, eD⟩
          obtain ⟨ky, by', fy⟩ := pbs (List.mem_of_getElem? hy) sm
          refine ⟨rfl, y, rfl, y, rfl, ky, by', fun H2 s2 => ?_⟩
          refine ⟨_, s2 _ _ eD, ?_, same_app (sm.trans s2) nD (.refl _), ?_⟩
          · rw [List.length_map, List.length_take]
            exact Nat.lt_of_le_of_lt (Nat.min_le_right _ _) (show 2 < sizeLine by decide)
          · rw [upd_same, List.take_add_one, hy, List.map_append, fy]
            rfl
        · rintro H' ⟨sm, eD⟩
          refine ⟨D, [frB H u, frB H v], rfl, SqL.of eD, _, rfl, ?_⟩
          cases wu : frB H u with
          | false =>
            have q := q _ sm
            rw [stB_no e (.inl wu)] at q
            exact ifT rfl q
          | true =>
            cases wv : frB H v with
            | false =>
              have q := q _ sm
              rw [stB_no e (.inr wv)] at q
              exact ifT rfl q
            | true =>
              refine ifF rfl ?_
              obtain ⟨a1, i, j, rfl, e1, h1⟩ := frB_prs wu
              obtain ⟨a2, c, d, rfl, e2, h2⟩ := frB_prs wv
              have es : stB H (.ref a) = (decide (0 ≤ i) && decide (i * d ≤ c * j) && decide (c ≤ d)) := by
                rw [stB_two e, prs_two e1, prs_two e2]
                show (isFr i j && isFr c d && (decide (0 ≤ i) && decide (i * d ≤ c * j) && decide (c ≤ d))) = _
                rw [h1, h2]
                rfl
              have q := q _ sm
              rw [es] at q
              have e1' := sm _ _ e1
              have e2' := sm _ _ e2
              refine ⟨.ref a, rfl, a, _, rfl, SqT.of (sm _ _ e), rfl, _, _, rfl, _, _, rfl, rfl, ?_⟩
              refine ⟨.ref a1, rfl, a1, _, 0, _, rfl, rfl, SqT.of e1', atI_nat (j := 0) rfl, 0, i, rfl, rfl, _, rfl, ite2 (fun z => ?_) (fun z => ?_)⟩
              · have z0 : 0 ≤ i := of_decide_eq_true z
                rw [decide_eq_true z0, Bool.true_and] at q
                refine ⟨.ref a1, rfl, a1, _, 0, _, rfl, rfl, SqT.of e1', atI_nat (j := 0) rfl, .ref a2, rfl, a2, _, 1, _, rfl, rfl, SqT.of e2', atI_nat (j := 1) rfl, i, d, rfl, rfl, (pu a1 i j rfl e1).1.cm (pv' a2 c d rfl e2).2 (by decide) (by decide) (by decide), .ref a2, rfl, a2, _, 0, _, rfl, rfl, SqT.of e2', atI_nat (j := 0) rfl, .ref a1, rfl, a1, _, 1, _, rfl, rfl, SqT.of e1', atI_nat (j := 1) rfl, c, j, rfl, rfl, (pv' a2 c d rfl e2).1.cm (pu a1 i j rfl e1).2 (by decide) (by decide) (by decide), _, _, rfl, rfl, _, rfl, ite2 (fun z => ?_) (fun z => ?_)⟩
                · have z1 : i * d ≤ c * j := of_decide_eq_true z
                  rw [decide_eq_true z1, Bool.true_and] at q
                  exact ⟨.ref a2, rfl, a2, _, 0, _, rfl, rfl, SqT.of e2', atI_nat (j := 0) rfl, .ref a2, rfl, a2, _, 1, _, rfl, rfl, SqT.of e2', atI_nat (j := 1) rfl, c, d, rfl, rfl, q⟩
                · have z1 : ¬ i * d ≤ c * j := fun y => z (decide_eq_true y)
                  rw [decide_eq_false z1, Bool.false_and] at q
                  exact q
              · have z0 : ¬ 0 ≤ i := fun y => z (decide_eq_true y)
                rw [decide_eq_false z0, Bool.false_and, Bool.false_and] at q
                exact q
      · have q := q H (.refl _)
        rw [stB_len e hl] at q
        refine ifT ?_ (iteT q)
        rw [decide_eq_false (fun y => hl (by have := V.int.inj y; omega))]
        rfl
end
end G
set_option Elab.async false
set_option linter.all false
set_option maxRecDepth 100000
set_option maxHeartbeats 1000000
namespace G
open PySem PySem.Spec PyProof.Rows L2 TL
theorem joinL_len : ∀ ps : List (List Nat), (joinL [] ps).length = (ps.map List.length).sum
  | [] => rfl
  | [p] => by simp [joinL]
  | p :: q :: r => by
    have ih := joinL_len (q :: r)
    show (p ++ ([] ++ joinL [] (q :: r))).length = _
    rw [List.nil_append, List.length_append, ih]
    simp
theorem join_len (ys : List Str) (h : ∀ y ∈ ys, y.length = 1) : (Txt.join (Str.ofString "") ys).length = ys.length := by
  have e : tl (Str.ofString "") = [] := by decide +kernel
  rw [join_eq, len_tl, tl_join, e, joinL_len, List.map_map]
  induction ys with
  | nil => rfl
  | cons y r ih =>
    rw [List.map_cons, List.sum_cons, ih fun z hz => h z (.tail _ hz), List.length_cons]
    have := h y (.head _)
    rw [len_tl] at this
    show (tl y).length + r.length = r.length + 1
    omega
theorem sum_len (ys : List Str) (h : ∀ y ∈ ys, y.length = 1) : (ys.map (·.length)).sum = ys.length := by
  induction ys with
  | nil => rfl
  | cons y r ih =>
    rw [List.map_cons, List.sum_cons, ih fun z hz => h z (.tail _ hz), List.length_cons, h y (.head _)]
    omega
theorem app_len (x y : Str) : (x ++ y).length = x.length + y.length := by
  rw [len_tl, len_tl, len_tl, tl_append, List.length_append]
theorem line_ok {n : Nat} (h : n ≤ 1000) : n ≤ sizeLine := Nat.le_trans h (by decide)
theorem at_mem {α : Type} {xs : List α} {d : Int} (h0 : 0 ≤ d) (h1 : d < xs.length) : ∃ x ∈ xs, atI xs d = some x := by
  obtain ⟨n, rfl⟩ : ∃ n : Nat, d = n := ⟨d.toNat, by omega⟩
  have hn : n < xs.length := by omega
  refine ⟨xs[n], List.getElem_mem hn, ?_⟩
  unfold atI ixN
  rw [if_pos h0, if_pos h1]
  exact List.getElem?_eq_getElem hn
theorem abc_len : (Str.ofString "abcdefghijklmnopqrstuvwxyz").cps.toList.length = 26 := by decide +kernel
abbrev sgn : Str := Str.ofString "AZ09 _-`{.,;:\"'~!/()\x40["
theorem sgn_len : sgn.cps.toList.length = 22 := by decide +kernel
section
variable {P : Program} {w : World} {K : PySem.W.Frag} {mg : Str → Option Value} {base : Heap}
/-! ### _law_text -/
abbrev sTx : Stmt := topS 17
abbrev nTx : List Str := ["_law_pot_here", "_law_letters", "_law_text_here", "_law_signs", "_law_at", "_law_sign", "_law_k"]
theorem scTx : FnScope nTx ["_law_pot_here"] (defScope sTx) := ⟨rfl, rfl, rfl, by decide +kernel, rfl, by decide +kernel, by decide +kernel⟩
def spTx : Sp := fun vs H Q _ => ∃ p : Addr, vs = [.ref p] ∧ Pot H p ∧ ∀ H' z, Keep p H H' → Pot H' p → z.length ≤ 100 → Q (.str z) H'
theorem ok_tx {f fT : Addr} {fd fdT : FuncData} (F : Fun K "_law_text" "_law_text" sTx f fd) (FT : Fun K "_law_take" "_law_take" sTake fT fdT) (bT : Binds K fdT ["_law_pot_here", "_law_many"] []) (gT : mg "_law_take" = some (.ref fT)) (mD : mg "divmod" = none) (mR : mg "range" = none) (mL : mg "len" = none) :
    FnOk P w K mg base CX0 2 f fd ["_law_pot_here"] spTx := by
  have GT : FnOk P w K mg base CX0 1 fT fdT ["_law_pot_here", "_law_many"] spTake := ok_take FT mD
  refine F.ok scTx (fun vs H Q E h => ?_) (fun cdv A outer s H vs Q E hr h => ?_)
  · obtain ⟨p, rfl, _⟩ := h
    rfl
  · obtain ⟨p, rfl, hp, q⟩ := h
    refine ⟨_, pss_cons (ps_set (i := 1) scTx.nd rfl (.inr rfl) pe_str)
      (pss_cons (ps_set (i := 2) scTx.nd rfl (.inl rfl) (pe_join pe_str (pe_lc (own := [("_law_k", 6)]) (g := gName 6) (tt := tYes) (te := tOp rIxS (tVar 1) (tCall spTake [] E0 (tCons (tVar 0) (tCons (tC (.int 26)) tNil)))) (by rfl) scTx.nd (pi_range1 (by rfl) mR (pa_cons (pe_call GT hr (by rfl) gT FT.kp bT .nil pass0 (pa_cons (pv 0) (pa_cons pe_int pa_nil))) pa_nil)) (blkOk_by (own := [("_law_k", 6)]) (N := nTx) (sc := defScope sTx) (by decide +kernel))
          (fun _ _ _ _ _ => pg_name (i := 6) scTx.nd rfl (.inl rfl)) (fun _ _ _ _ _ => pts_nil) (fun _ _ _ _ _ => pe_ix ix_str (pv 1) (pe_call GT hr (by rfl) gT FT.kp bT .nil pass0 (pa_cons (pv 0) (pa_cons pe_int pa_nil))) (fun _ _ => rfl)))))
      (pss_cons (ps_set (i := 3) scTx.nd rfl (.inl rfl) pe_str)
      (pss_cons (ps_set (i := 4) scTx.nd rfl (.inl rfl) (pe_call GT hr (by rfl) gT FT.kp bT .nil pass0 (pa_cons (pv 0) (pa_cons (pe_op op_add (pe_callB call_len_str (by rfl) mL PySem.boot_len (pa_cons (pv 2) pa_nil)) pe_int) pa_nil))))
      (pss_cons (ps_set (i := 5) scTx.nd rfl (.inl rfl) (pe_ix ix_str (pv 3) (pe_call GT hr (by rfl) gT FT.kp bT .nil pass0 (pa_cons (pv 0) (pa_cons (pe_callB call_len_str (by rfl) mL PySem.boot_len (pa_cons (pv 3) pa_nil)) pa_nil))) (fun _ _ => rfl)))
      (pss_one (ps_ret (pe_ix ix_list (pe_lst (pa_cons (pv 2) (pa_cons (pv 2) (pa_cons (pe_op op_add_str (pe_op op_add_str (pe_slice sl_str (pv 2) po_none (po_some (pv 4))) (pv 5)) (pe_slice sl_str (pv 2) (po_some (pv 4)) po_none)) (pa_cons (pe_op op_add_str (pe_op op_add_str (pe_slice sl_str (pv 2) po_none (po_some (pv 4))) (pv 5)) (pe_slice sl_str (pv 2) (po_some (pe_op op_add (pv 4) pe_int)) po_none)) pa_nil)))))
        (pe_call GT hr (by rfl) gT FT.kp bT .nil pass0 (pa_cons (pv 0) (pa_cons pe_int pa_nil))) (fun _ _ => rfl)))))))), ?_⟩
    refine ⟨⟨_, rfl⟩, .ref p, rfl, p, 11, rfl, hp, by decide, by decide, fun H1 d k1 p1 ld ud => ?_⟩
    refine ⟨d, rfl, by omega, by omega, fun D nD => ?_⟩
    have nDp : D ≠ p := fun z => p1.ne nD z.symm
    refine lc_range (lo := 0) (n := d.toNat) (fun n H' => Keep p H1 H' ∧ Pot H' p ∧ ∃ ys : List Str, ys.length = n ∧ (∀ y ∈ ys, y.length = 1) ∧ H' D = some (.lst (ys.map V.str))) ⟨same_keep (same_upd nD), pot_upd p1 nD, [], rfl, (fun y hy => by cases hy), upd_same⟩ ?_ ?_
    · rintro n H' hn ⟨kk, pp, ys, yl, y1, eD⟩
      refine ⟨rfl, _, rfl, .ref p, rfl, p, 26, rfl, pp, by decide, by decide, fun H2 e k2 p2 le ue => ?_⟩
      obtain ⟨c, _, hc⟩ := at_mem (xs := (Str.ofString "abcdefghijklmnopqrstuvwxyz").cps.toList) le (by rw [abc_len]; exact ue)
      refine ⟨_, e, c, rfl, rfl, line_ok (by decide +kernel), hc, ?_⟩
      refine ⟨_, k2 _ _ nDp eD, ?_, ?_, ?_, ys ++ [⟨#[c]⟩], ?_, ?_, ?_⟩
      · rw [List.length_map, yl]
        exact Nat.lt_of_lt_of_le (show n < 11 by omega) (by decide)
      · exact fun b o nb e' => by
          rw [upd_ne (ne_of_none e' nD)]
          exact k2 b o nb (kk b o nb e')
      · obtain ⟨x, y, ex, hx⟩ := p2
        exact ⟨x, y, by rw [upd_ne (fun z => nDp z.symm)]; exact ex, hx⟩
      · rw [List.length_append, yl]
        rfl
      · intro y hy
        rcases List.mem_append.mp hy with hy | hy
        · exact y1 y hy
        · rw [List.mem_singleton.mp hy]
          rfl
      · rw [upd_same, List.map_append]
        rfl
    · rintro H2 ⟨kk, pp, ys, yl, y1, eD⟩
      have hys : ys.length ≤ 10 := by omega
      refine ⟨_, D, ys, rfl, rfl, .inl (SqL.of eD), ?_, ?_⟩
      · rw [sum_len ys y1]
        have : (Str.ofString "").length = 0 := by decide +kernel
        rw [this]
        omega
      have hz : (Txt.join (Str.ofString "") ys).length ≤ 10 := by rw [join_len ys y1]; exact hys
      generalize Txt.join (Str.ofString "") ys = z at hz
      refine ⟨.ref p, rfl, _, rfl, z, rfl, line_ok (by omega), _, 1, rfl, rfl, p, _, rfl, pp, by omega, by omega, fun H3 at' k3 p3 la ua => ?_⟩
      refine ⟨_, rfl, .ref p, rfl, _, rfl, sgn, rfl, line_ok (by decide +kernel), p, _, rfl, p3, ?_, ?_, fun H4 e k4 p4 le ue => ?_⟩
      · show (0 : Int) < (sgn.length : Int)
        decide +kernel
      · show (sgn.length : Int) < 1073741824
        decide +kernel
      obtain ⟨c, _, hc⟩ := at_mem (xs := sgn.cps.toList) le (by rw [← len_tl]; exact ue)
      refine ⟨_, e, c, rfl, rfl, line_ok (by decide +kernel), hc, ?_⟩
      have c1 : (⟨#[c]⟩ : Str).length = 1 := rfl
      have l1 := cutS_length z none (some at')
      have l2 := cutS_length z (some at') none
      have l3 := cutS_length z (some (at' + 1)) none
      refine ⟨_, rfl, _, rfl, _, rfl, _, rfl, at', rfl, z, rfl, line_ok (by omega), _, rfl, _, _, rfl, rfl, line_ok (by rw [c1]; omega), ?_⟩
      refine ⟨_, rfl, _, rfl, at', rfl, z, rfl, line_ok (by omega), _, _, rfl, rfl, line_ok (by rw [app_len, c1]; omega), ?_⟩
      refine ⟨_, rfl, _, rfl, at', rfl, z, rfl, line_ok (by omega), _, rfl, _, _, rfl, rfl, line_ok (by rw [c1]; omega), ?_⟩
      refine ⟨_, rfl, _, rfl, at', 1, rfl, rfl, _, rfl, z, rfl, line_ok (by omega), _, _, rfl, rfl, line_ok (by rw [app_len, c1]; omega), ?_⟩
      refine ⟨(by show 4 ≤ sizeLine; decide), fun t nt => ?_⟩
      refine ⟨.ref p, rfl, p, 4, rfl, pot_upd p4 nt, by decide, by decide, fun H5 g k5 p5 lg ug => ?_⟩
      have ntp : t ≠ p := fun y => p4.ne nt y.symm
      have et := k5 _ _ ntp upd_same
      obtain ⟨x, hx, ex⟩ := at_mem (xs := [V.str z, .str z, .str (cutS z none (some at') ++ ⟨#[c]⟩ ++ cutS z (some at') none), .str (cutS z none (some at') ++ ⟨#[c]⟩ ++ cutS z (some (at' + 1)) none)]) lg ug
      obtain ⟨y, rfl, hy⟩ : ∃ y : Str, x = .str y ∧ y.length ≤ 100 := by
        simp only [List.mem_cons, List.not_mem_nil, or_false] at hx
        rcases hx with rfl | rfl | rfl | rfl
        · exact ⟨_, rfl, by omega⟩
        · exact ⟨_, rfl, by omega⟩
        · exact ⟨_, rfl, by rw [app_len, app_len, c1]; omega⟩
        · exact ⟨_, rfl, by rw [app_len, app_len, c1]; omega⟩
      exact ⟨t, _, g, _, rfl, rfl, SqL.of et, ex, q _ _ (((k1.trans kk).trans (k3.trans k4)).trans ((same_keep (same_upd nt)).trans k5)) p5 hy⟩
/-! ### _law_end -/
theorem ten19 : (4 : Int) * ((10 : Int) ^ (19 : Int).toNat) = 40000000000000000000 := by decide +kernel
abbrev sEn : Stmt := topS 18
theorem scEn : FnScope ["_law_pot_here", "_law_bottom"] ["_law_pot_here"] (defScope sEn) := ⟨rfl, rfl, rfl, by decide +kernel, rfl, by decide +kernel, by decide +kernel⟩
def spEn : Sp := fun vs H Q _ => ∃ p : Addr, vs = [.ref p] ∧ Pot H p ∧ ∀ H' t i j, Keep p H H' → Pot H' p → Two H' t i j → H t = none → Fr 70 i j → Q (.ref t) H'
theorem ok_en {f fT fB fL : Addr} {fd fdT fdB fdL : FuncData} (F : Fun K "_law_end" "_law_end" sEn f fd) (FT : Fun K "_law_take" "_law_take" sTake fT fdT) (bT : Binds K fdT ["_law_pot_here", "_law_many"] []) (gT : mg "_law_take" = some (.ref fT))
    (FB : Fun K "_law_below" "_law_below" sBelow fB fdB) (bB : Binds K fdB ["_law_pot_here", "_law_many"] []) (gB : mg "_law_below" = some (.ref fB)) (FL : Fun K "_law_lowest" "_law_lowest" sLow fL fdL) (bL : Binds K fdL ["_law_top", "_law_bottom"] []) (gL : mg "_law_lowest" = some (.ref fL))
    (mD : mg "divmod" = none) (mR : mg "range" = none) (mA : mg "abs" = none) : FnOk P w K mg base CX0 3 f fd ["_law_pot_here"] spEn := by
  have GT : FnOk P w K mg base CX0 1 fT fdT ["_law_pot_here", "_law_many"] spTake := ok_take FT mD
  have GB : FnOk P w K mg base CX0 2 fB fdB ["_law_pot_here", "_law_many"] spBelow := ok_below FB FT bT gT mD mR
  have GL : FnOk P w K mg base CX0 1 fL fdL ["_law_top", "_law_bottom"] spFrac := ok_low FL mA
  refine F.ok scEn (fun vs H Q E h => ?_) (fun cdv A outer s H vs Q E hr h => ?_)
  · obtain ⟨p, rfl, _⟩ := h
    rfl
  · obtain ⟨p, rfl, hp, q⟩ := h
    have hr1 := hr.mono (show 1 ≤ 2 by decide)
    refine ⟨_, pss_cons (ps_set (i := 1) scEn.nd rfl (.inl rfl) (pe_op op_add pe_int (pe_ix ix_list (pe_lst (pa_cons (pe_call GT hr1 (by rfl) gT FT.kp bT .nil pass0 (pa_cons (pv 0) (pa_cons pe_int pa_nil)))
        (pa_cons (pe_call GT hr1 (by rfl) gT FT.kp bT .nil pass0 (pa_cons (pv 0) (pa_cons pe_int pa_nil))) (pa_cons (pe_call GB hr (by rfl) gB FB.kp bB .nil pass0 (pa_cons (pv 0) (pa_cons (pe_op op_mul pe_int (pe_op op_pow pe_int pe_int)) pa_nil))) pa_nil))))
        (pe_call GT hr1 (by rfl) gT FT.kp bT .nil pass0 (pa_cons (pv 0) (pa_cons pe_int pa_nil))) (fun _ _ => rfl))))
      (pss_one (ps_ret (pe_call GL hr1 (by rfl) gL FL.kp bL .nil pass0 (pa_cons (pe_op op_sub (pe_call GB hr (by rfl) gB FB.kp bB .nil pass0 (pa_cons (pv 0) (pa_cons (pe_op op_add (pv 1) pe_int) pa_nil))) pe_int) (pa_cons (pv 1) pa_nil))))), ?_⟩
    refine ⟨.ref p, rfl, p, 6, rfl, hp, by decide, by decide, fun H5 d5 k5 p5 l5 u5 => ?_⟩
    refine ⟨.ref p, rfl, p, 100, rfl, p5, by decide, by decide, fun H6 d6 k6 p6 l6 u6 => ?_⟩
    refine ⟨.ref p, rfl, 10, 19, rfl, rfl, ⟨by decide, by decide, by decide⟩, 4, _, rfl, rfl, .inl ⟨by decide, by decide⟩, p, _, rfl, p6, by rw [ten19]; decide, fun H7 d7 k7 p7 l7 u7 => ?_⟩
    rw [ten19] at u7
    refine ⟨by show 3 ≤ sizeLine; decide, fun t2 nt2 => ?_⟩
    refine ⟨.ref p, rfl, p, 3, rfl, pot_upd p7 nt2, by decide, by decide, fun H8 d8 k8 p8 l8 u8 => ?_⟩
    have ntp2 : t2 ≠ p := fun z => p7.ne nt2 z.symm
    have et2 : H8 t2 = some (.lst [.int d5, .int d6, .int d7]) := k8 _ _ ntp2 upd_same
    have kb : Keep p H H8 := ((k5.trans k6).trans k7).trans ((same_keep (same_upd nt2)).trans k8)
    obtain ⟨m, em, bm, bm2⟩ := pick3 (C := fun n => 0 ≤ n ∧ n < 40000000000000000000) l8 u8 ⟨l5, by omega⟩ ⟨l6, by omega⟩ ⟨l7, u7⟩
    refine ⟨t2, _, d8, _, rfl, rfl, SqL.of et2, em, 1, m, rfl, rfl, ?_⟩
    refine ⟨.ref p, rfl, _, rfl, 1 + m, 3, rfl, rfl, p, _, rfl, p8, by omega, fun H9 d9 k9 p9 l9 u9 => ?_⟩
    have h0 : (1 + m) ≠ 0 := by omega
    have b70 : 100000000000000000000 < 2 ^ 70 := by decide
    have hm : Sz 70 (1 + m) := Nat.lt_trans (show (1 + m).natAbs < 100000000000000000000 by omega) b70
    have hn : Sz 70 (d9 - 1) := Nat.lt_trans (show (d9 - 1).natAbs < 100000000000000000000 by omega) b70
    refine ⟨_, 1, rfl, rfl, _, rfl, d9 - 1, 1 + m, rfl, h0, hm.mono (by decide), fun t3 nt3 => ?_⟩
    exact q _ t3 _ _ ((kb.trans k9).trans (same_keep (same_upd nt3))) (pot_upd p9 nt3) upd_same ((kb.trans k9).free p9 nt3) (Fr.low hn hm h0)
end
end G
set_option Elab.async false
set_option linter.all false
set_option maxRecDepth 100000
set_option maxHeartbeats 1000000
namespace G
open PySem PySem.Spec PyProof.Rows L2 TL
theorem two_ne {H : Hp} {t p : Addr} {i j : Int} (e : Two H t i j) (h : Pot H p) : t ≠ p := fun z => by
  obtain ⟨_, _, q, _⟩ := h
  rw [← z, e] at q
  cases q
section
variable {P : Program} {w : World} {K : PySem.W.Frag} {mg : Str → Option Value} {base : Heap}
/-! ### _law_pair -/
abbrev sPr : Stmt := topS 19
theorem scPr : FnScope ["_law_pot_here", "_law_low", "_law_high"] ["_law_pot_here"] (defScope sPr) := ⟨rfl, rfl, rfl, by decide +kernel, rfl, by decide +kernel, by decide +kernel⟩
def spPr : Sp := fun vs H Q _ => ∃ p : Addr, vs = [.ref p] ∧ Pot H p ∧ ∀ H' t lo hi i j k l, Keep p H H' → Pot H' p → H' t = some (.tup [.ref lo, .ref hi]) → Two H' lo i j → Two H' hi k l → Fr 70 i j → Fr 70 k l → Q (.ref t) H'
theorem ok_pr {f fT fE : Addr} {fd fdT fdE : FuncData} (F : Fun K "_law_pair" "_law_pair" sPr f fd) (FT : Fun K "_law_take" "_law_take" sTake fT fdT) (bT : Binds K fdT ["_law_pot_here", "_law_many"] []) (gT : mg "_law_take" = some (.ref fT))
    (FE : Fun K "_law_end" "_law_end" sEn fE fdE) (bE : Binds K fdE ["_law_pot_here"] []) (gE : mg "_law_end" = some (.ref fE)) (GE : FnOk P w K mg base CX0 3 fE fdE ["_law_pot_here"] spEn) (mD : mg "divmod" = none) : FnOk P w K mg base CX0 4 f fd ["_law_pot_here"] spPr := by
  have GT : FnOk P w K mg base CX0 1 fT fdT ["_law_pot_here", "_law_many"] spTake := ok_take FT mD
  refine F.ok scPr (fun vs H Q E h => ?_) (fun cdv A outer s H vs Q E hr h => ?_)
  · obtain ⟨p, rfl, _⟩ := h
    rfl
  · obtain ⟨p, rfl, hp, q⟩ := h
    have hr1 := hr.mono (show 1 ≤ 3 by decide)
    refine ⟨_, pss_cons (ps_par (i := 1) (j := 2) (by rfl) scPr.nd rfl rfl (by decide) rfl rfl (pa_cons (pe_call GE hr (by rfl) gE FE.kp bE .nil pass0 (pa_cons (pv 0) pa_nil)) (pa_cons (pe_call GE hr (by rfl) gE FE.kp bE .nil pass0 (pa_cons (pv 0) pa_nil)) pa_nil)) (by rfl))
      (C8.pss_cut (ps_if (pt_cmpR op_eq (pe_call GT hr1 (by rfl) gT FT.kp bT .nil pass0 (pa_cons (pv 0) (pa_cons pe_int pa_nil))) pe_int (nomark _)) (pss_one (ps_set (i := 2) scPr.nd rfl (.inl rfl) (pv 1))) pss_nil)
      (C8.pss_cut (ps_if (PW.pt (pw_and (pt_cmpR op_eq (pe_call GT hr1 (by rfl) gT FT.kp bT .nil pass0 (pa_cons (pv 0) (pa_cons pe_int pa_nil))) pe_int (nomark _)) (pw_and1 (pt_cmpR op_lt (pe_op op_mulW (pe_ix ix_tup (pv 2) pe_int (fun _ _ => rfl)) (pe_ix ix_tup (pv 1) pe_int (fun _ _ => rfl))) (pe_op op_mulW (pe_ix ix_tup (pv 1) pe_int (fun _ _ => rfl)) (pe_ix ix_tup (pv 2) pe_int (fun _ _ => rfl))) (nomark _)))))
          (pss_one (ps_par (i := 1) (j := 2) (by rfl) scPr.nd rfl rfl (by decide) rfl rfl (pa_cons (pv 2) (pa_cons (pv 1) pa_nil)) (by rfl))) pss_nil)
      (pss_one (ps_ret (pe_tup (pa_cons (pv 1) (pa_cons (pv 2) pa_nil))))))), ?_⟩
    refine ⟨.ref p, rfl, p, rfl, hp, fun H1 a i j k1 p1 ea na fa => ?_⟩
    refine ⟨.ref p, rfl, p, rfl, p1, fun H2 b k l k2 p2 eb nb fb => ?_⟩
    refine ⟨_, _, rfl, ?_⟩
    have ea2 : Two H2 a i j := k2 _ _ (two_ne ea p1) ea
    refine ⟨fun σ' H' => ∃ (lo hi : Addr) (i j k l : Int), σ' = [some (.ref p), some (.ref lo), some (.ref hi)] ∧ Keep p H H' ∧ Pot H' p ∧ Two H' lo i j ∧ Two H' hi k l ∧ Fr 70 i j ∧ Fr 70 k l, ?_, ?_⟩
    · refine ⟨.ref p, rfl, p, 3, rfl, p2, by decide, by decide, fun H3 d k3 p3 ld ud => ?_⟩
      have ea3 := k3 _ _ (two_ne ea2 p2) ea2
      have eb3 := k3 _ _ (two_ne eb p2) eb
      have kk := (k1.trans k2).trans k3
      refine ⟨rfl, _, rfl, ite2 (fun e => ?_) (fun e => ?_)⟩
      · exact ⟨.ref a, rfl, a, a, i, j, i, j, rfl, kk, p3, ea3, ea3, fa, fa⟩
      · exact ⟨a, b, i, j, k, l, rfl, kk, p3, ea3, eb3, fa, fb⟩
    rintro σ' H3 ⟨lo, hi, i, j, k, l, rfl, k3, p3, e1, e2, f1, f2⟩
    refine ⟨fun σ' H' => ∃ (lo hi : Addr) (i j k l : Int), σ' = [some (.ref p), some (.ref lo), some (.ref hi)] ∧ Keep p H H' ∧ Pot H' p ∧ Two H' lo i j ∧ Two H' hi k l ∧ Fr 70 i j ∧ Fr 70 k l, ?_, ?_⟩
    · refine ⟨.ref p, rfl, p, 2, rfl, p3, by decide, by decide, fun H4 d k4 p4 ld ud => ?_⟩
      have e1' := k4 _ _ (two_ne e1 p3) e1
      have e2' := k4 _ _ (two_ne e2 p3) e2
      have kk := k3.trans k4
      refine ⟨rfl, _, rfl, ite2 (fun e => ?_) (fun e => ?_)⟩
      · refine ⟨.ref hi, rfl, hi, _, 0, _, rfl, rfl, SqT.of e2', atI_nat (j := 0) rfl, .ref lo, rfl, lo, _, 1, _, rfl, rfl, SqT.of e1', atI_nat (j := 1) rfl, k, j, rfl, rfl, f2.a.cm f1.b (by decide) (by decide) (by decide), .ref lo, rfl, lo, _, 0, _, rfl, rfl, SqT.of e1', atI_nat (j := 0) rfl, .ref hi, rfl, hi, _, 1, _, rfl, rfl, SqT.of e2', atI_nat (j := 1) rfl, i, l, rfl, rfl, f1.a.cm f2.b (by decide) (by decide) (by decide), _, _, rfl, rfl, _, rfl, ite2 (fun e => ?_) (fun e => ?_)⟩
        · exact ⟨.ref hi, rfl, .ref lo, rfl, _, _, rfl, hi, lo, k, l, i, j, rfl, kk, p4, e2', e1', f2, f1⟩
        · exact ⟨lo, hi, i, j, k, l, rfl, kk, p4, e1', e2', f1, f2⟩
      · exact iteF ⟨lo, hi, i, j, k, l, rfl, kk, p4, e1', e2', f1, f2⟩
    rintro σ' H4 ⟨lo, hi, i, j, k, l, rfl, k4, p4, e1, e2, f1, f2⟩
    refine ⟨.ref lo, rfl, .ref hi, rfl, (by show 2 ≤ sizeLine; decide), fun t nt => ?_⟩
    have s5 := same_upd (o := .tup [.ref lo, .ref hi]) nt
    exact q _ t lo hi i j k l (k4.trans (same_keep s5)) (p4.same s5) upd_same (s5 _ _ e1) (s5 _ _ e2) f1 f2
end
/-! ### things that a law may hand in, as they move -/
def Sm (x : V) : Prop := ∀ i, x = .int i → Sz 1000 i
structure Oc (H : Hp) (x : V) : Prop where
  kd : Kd H x
  pb : PB H x
  bb : BB H x
  tx : Tx x
  sm : Sm x
def Mv (H H' : Hp) : Prop := ∀ a o, H a = some o → H' a = some o ∨ ((∃ xs, o = .lst xs) ∧ ∃ ys, H' a = some (.lst ys))
theorem Mv.of_same {H H' : Hp} (s : Same H H') : Mv H H' := fun a o e => .inl (s a o e)
theorem Mv.of_keep {p : Addr} {H H' : Hp} (k : Keep p H H') (h : Pot H p) (h' : Pot H' p) : Mv H H' := fun a o e => by
  by_cases z : a = p
  · subst z
    obtain ⟨_, _, q, _⟩ := h
    obtain ⟨_, _, q', _⟩ := h'
    rw [q] at e
    exact .inr ⟨⟨_, (Option.some.inj e).symm⟩, _, q'⟩
  · exact .inl (k a o z e)
theorem Mv.tup {H H' : Hp} (m : Mv H H') {a : Addr} {xs : List V} (e : H a = some (.tup xs)) : H' a = some (.tup xs) := (m a _ e).elim id fun h => by
  obtain ⟨⟨_, z⟩, _⟩ := h
  cases z
theorem Kd.mv {H H' : Hp} {x : V} (k : Kd H x) (m : Mv H H') : Kd H' x := by
  induction k with
  | non => exact .non
  | bl b => exact .bl b
  | int i => exact .int i
  | str z => exact .str z
  | @lst a xs e =>
    rcases m a _ e with h | ⟨_, ys, h⟩
    · exact .lst h
    · exact .lst h
  | tup e _ ih => exact .tup (m.tup e) ih
  | @dK a kvs e =>
    rcases m a _ e with h | ⟨⟨_, z⟩, _⟩
    · exact .dK h
    · cases z
/-- a tuple that is there behind was there -/
theorem Kd.back {H H' : Hp} {a : Addr} {xs : List V} (k : Kd H (.ref a)) (m : Mv H H') (e : H' a = some (.tup xs)) : H a = some (.tup xs) := by
  cases k with
  | lst z =>
    rcases m a _ z with h | ⟨_, ys, h⟩
    · rw [h] at e; cases e
    · rw [h] at e; cases e
  | tup z _ =>
    rw [m.tup z] at e
    exact z.trans e
  | dK z =>
    rcases m a _ z with h | ⟨⟨_, z⟩, _⟩
    · rw [h] at e; cases e
    · cases z
theorem PB.mv {H H' : Hp} {x : V} (h : PB H x) (k : Kd H x) (m : Mv H H') : PB H' x := fun a i j ea e => by
  subst ea
  exact h a i j rfl (k.back m e)
theorem Oc.mv {H H' : Hp} {x : V} (h : Oc H x) (m : Mv H H') : Oc H' x := by
  refine ⟨h.kd.mv m, h.pb.mv h.kd m, fun a u v ea e => ?_, h.tx, h.sm⟩
  subst ea
  have e0 := h.kd.back m e
  obtain ⟨h1, h2⟩ := h.bb a u v rfl e0
  have hk := h.kd
  cases hk with
  | lst z => rw [z] at e0; cases e0
  | dK z => rw [z] at e0; cases e0
  | tup z hy =>
    rw [z] at e0
    cases e0
    exact ⟨h1.mv (hy u (.head _)) m, h2.mv (hy v (.tail _ (.head _))) m⟩
theorem Oc.same {H H' : Hp} {x : V} (h : Oc H x) (s : Same H H') : Oc H' x := h.mv (.of_same s)
theorem oc_atom {H : Hp} {x : V} (k : Kd H x) (h : ∀ a, x ≠ .ref a) (tx : Tx x) (sm : Sm x) : Oc H x := ⟨k, fun a _ _ e _ => absurd e (h a), fun a _ _ e _ => absurd e (h a), tx, sm⟩
theorem oc_non {H : Hp} : Oc H .non := oc_atom .non (by intro a z; cases z) (by intro a z; cases z) (by intro a z; cases z)
theorem oc_bl {H : Hp} {b : Bool} : Oc H (.bl b) := oc_atom (.bl b) (by intro a z; cases z) (by intro a z; cases z) (by intro a z; cases z)
theorem oc_int {H : Hp} {i : Int} (h : Sz 1000 i) : Oc H (.int i) := oc_atom (.int i) (by intro a z; cases z) (by intro a z; cases z) (by intro a z; cases z; exact h)
theorem oc_str {H : Hp} {z : Str} (h : z.length ≤ 100000) : Oc H (.str z) := oc_atom (.str z) (by intro a y; cases y) (by intro a y; cases y; exact h) (by intro a y; cases y)
theorem oc_lst {H : Hp} {a : Addr} {xs : List V} (e : H a = some (.lst xs)) : Oc H (.ref a) := ⟨.lst e, fun b i j ea e' => (by cases ea; have z := e.symm.trans e'; cases z), fun b u v ea e' => (by cases ea; rw [e] at e'; cases e'), (by intro a y; cases y), (by intro a y; cases y)⟩
theorem oc_dK {H : Hp} {a : Addr} {xs : List (Key × V)} (e : H a = some (.dK xs)) : Oc H (.ref a) := ⟨.dK e, fun b i j ea e' => (by cases ea; have z := e.symm.trans e'; cases z), fun b u v ea e' => (by cases ea; rw [e] at e'; cases e'), (by intro a y; cases y), (by intro a y; cases y)⟩
theorem oc_tup {H : Hp} {a : Addr} {xs : List V} (e : H a = some (.tup xs)) (h : ∀ x ∈ xs, Oc H x) : Oc H (.ref a) := by
  refine ⟨.tup e fun x hx => (h x hx).kd, fun b i j ea e' => ?_, fun b u v ea e' => ?_, (by intro a y; cases y), (by intro a y; cases y)⟩
  · cases ea
    have z := e.symm.trans e'
    cases z
    exact ⟨(h _ (.head _)).sm i rfl, (h _ (.tail _ (.head _))).sm j rfl⟩
  · cases ea
    rw [e] at e'
    cases e'
    exact ⟨(h u (.head _)).pb, (h v (.tail _ (.head _))).pb⟩
theorem oc_two {H : Hp} {a : Addr} {i j : Int} (e : Two H a i j) (h1 : Sz 1000 i) (h2 : Sz 1000 j) : Oc H (.ref a) := oc_tup e fun x hx => by
  rcases List.mem_cons.mp hx with rfl | hx
  · exact oc_int h1
  · rw [List.mem_singleton.mp hx]
    exact oc_int h2
/-! ### displays, where I stands -/
def OkS (σ : L2.St) (I : Hp → Prop) (t : TE) : Prop := ∀ H Q, I H → (∀ H' x, Same H H' → Oc H' x → Q x H') → t σ H Q
def OkL (σ : L2.St) (I : Hp → Prop) (n : Nat) (t : TA) : Prop := ∀ H Q, I H → (∀ H' xs, Same H H' → xs.length = n → (∀ x ∈ xs, Oc H' x) → Q xs H') → t σ H Q
section
variable {σ : L2.St} {I : Hp → Prop}
theorem okL_nil : OkL σ I 0 tNil := fun H Q _ q => q H [] (.refl _) rfl (fun x hx => by cases hx)
theorem okL_cons (hI : ∀ H H', I H → Same H H' → I H') {te : TE} {tr : TA} {n : Nat} (a : OkS σ I te) (b : OkL σ I n tr) : OkL σ I (n + 1) (tCons te tr) := fun H Q h q =>
  a H _ h fun H1 x s1 o1 => b H1 _ (hI _ _ h s1) fun H2 xs s2 l2 h2 => q H2 (x :: xs) (s1.trans s2) (by rw [List.length_cons, l2]) fun y hy => by
    rcases List.mem_cons.mp hy with rfl | hy
    · exact o1.same s2
    · exact h2 y hy
theorem okS_c {v : V} (h : ∀ H, Oc H v) : OkS σ I (tC v) := fun H Q _ q => q H v (.refl _) (h H)
theorem okS_v {i : Nat} {v : V} (e : σ[i]? = some (some v)) (h : ∀ H, I H → Oc H v) : OkS σ I (tVar i) := fun H Q hI q => ⟨v, e, q H v (.refl _) (h H hI)⟩
theorem okS_tup {t : TA} {n : Nat} (a : OkL σ I n t) (hn : n ≤ 1000) : OkS σ I (tTup t) := fun H Q h q => a H _ h fun H1 xs s1 l1 h1 => ⟨Nat.le_of_lt (small1000 (by omega)), fun p np => q _ _ (s1.trans (same_upd np)) (oc_tup upd_same fun x hx => (h1 x hx).same (same_upd np))⟩
theorem okS_lst {t : TA} {n : Nat} (a : OkL σ I n t) (hn : n ≤ 1000) : OkS σ I (tLst t) := fun H Q h q => a H _ h fun H1 xs s1 l1 h1 => ⟨Nat.le_of_lt (small1000 (by omega)), fun p np => q _ _ (s1.trans (same_upd np)) (oc_lst upd_same)⟩
theorem okS_dct : OkS σ I tDNewK := fun H Q _ q p np => q _ _ (same_upd np) (oc_dK upd_same)
theorem sqLst {t : TA} {n i : Nat} {u : TS} {D : Ends} {H : Hp} (a : OkL σ I n t) (hn : n ≤ 1000) (hH : I H) (h : ∀ H' xs p, Same H H' → xs.length = n → (∀ x ∈ xs, Oc H' x) → H' p = some (.lst xs) → H p = none → u D (σ.set i (some (.ref p))) H') : tSeq (tAsg (tLst t) (gName i)) u D σ H :=
  a H _ hH fun H1 xs s1 l1 h1 => ⟨Nat.le_of_lt (small1000 (by omega)), fun p np => h _ xs p (s1.trans (same_upd np)) l1 (fun x hx => (h1 x hx).same (same_upd np)) upd_same (s1.free np)⟩
theorem sqCat {t : TA} {n i j : Nat} {u : TS} {D : Ends} {H : Hp} {b : Addr} {ys : List V} (a : OkL σ I n t) (hn : n ≤ 500) (hH : I H) (hj : σ[j]? = some (some (.ref b))) (eb : H b = some (.lst ys)) (hy : ys.length ≤ 500)
    (h : ∀ H' zs c, Same H H' → zs.length = n → (∀ x ∈ zs, Oc H' x) → H' c = some (.lst (ys ++ zs)) → H c = none → u D (σ.set i (some (.ref c))) H') : tSeq (tAsg (tOp rCat (tVar j) (tLst t)) (gName i)) u D σ H :=
  ⟨.ref b, hj, a H _ hH fun H1 zs s1 l1 h1 => ⟨Nat.le_of_lt (small1000 (by omega)), fun p np =>
    ⟨b, p, ys, zs, rfl, rfl, (same_upd np) _ _ (s1 _ _ eb), upd_same, Nat.le_of_lt (small1000 (by omega)), fun c nc =>
      h _ zs c ((s1.trans (same_upd np)).trans (same_upd nc)) l1 (fun x hx => ((h1 x hx).same (same_upd np)).same (same_upd nc)) upd_same ((s1.trans (same_upd np)).free nc)⟩⟩⟩
end
end G
set_option Elab.async false
set_option linter.all false
set_option maxRecDepth 100000
set_option maxHeartbeats 1000000
namespace G
open PySem PySem.Spec PyProof.Rows L2 TL
theorem pe_callG {X : Cx} {k : Nat} {f : Addr} {fd : FuncData} {ps : List Str} {sp : Sp} {x : Str} {p pos : Pos} {e : Expr} {es : List Expr} {t : TA} (F : FnG X.prog X.w X.K X.mg X.base k f fd ps sp) (len : ∀ vs H Q E, sp vs H Q E → vs.length = ps.length) (gd : X.A.guards = some []) (hr : Room k X.A) (hg : Gl X x) (hm : X.mg x = some (.ref f)) (hk : PySem.W.keepIn X.K (.ref f) = true) (hb : Binds X.K fd ps [])
    (ha : PA X (e :: es) t) (hdb : (x == ("__debug__" : Str)) = false := by decide) (he : starEach (e :: es) X.env = (false, eval e X.env) :: starEach es X.env := by rfl) (hpl : (backTo pos (starEach es X.env)).any (·.1) = false := by rfl) : PE X (.Call (.Name x p) (e :: es) [] pos) (tCall sp [] E0 t) :=
  ⟨fun pins s σ H Q I h => wpAny_Call_Name_kw (ld_glob I hg hm (PySem.W.callWith_K (h₀ := X.base) I.ok.mod.kin hk (thn (ha.run pos pins s σ H _ I h) fun us s1 ⟨vs, H1, I1, r, q⟩ => ⟨I1.kIn, by
    have r2 : Vals (vs ++ []) (us ++ []) := r.append .nil
    refine wpAny_call (codeAny_mono (F.run X.A X.stack s1 H1 ⟨us, []⟩ (us ++ []) (vs ++ []) Q E0 gd hr I1.env0 (hb s1 us I1.kIn (r2.length.symm.trans (len _ _ _ _ q))) r2 q) fun r s' hq => ?_)
    cases r with
    | error e => exact hq.elim
    | ok fl =>
      cases fl with
      | ret u => exact I1.after hq
      | _ => exact hq.elim⟩) he hpl) hdb)⟩
def rStD (K : PySem.W.Frag) : List V → Hp → VK → Prop := fun xs H Q => ∃ (a : Addr) (d : PyData), xs = [.ref a] ∧ Dp K H (.ref a) d ∧ d.showable = true ∧ d.hasDict = false ∧ d.depth ≤ 50 ∧ d.shown.length ≤ sizeLine ∧ Q (.str d.shown) H
theorem cr_str {X : Cx} (hg : X.A.guards = some []) (hu : X.A.units + 64 < cLine) : CallR X (.type "str") (rStD X.K) := by
  intro pins s σ H xs us Q I r h
  obtain ⟨a, d, rfl, hd, hs, hn, hdp, hz, q⟩ := h
  obtain ⟨u, rfl, ru⟩ := vals1 r
  cases ru
  obtain ⟨as, rd⟩ := Dp.reads I d (.ref a) (.ref a) hd rfl
  exact str_of_reads rd hs (fun z => by rw [hn] at z; cases z) hg (by omega) (fun _ _ e => e) (fun h' u tk hk => ⟨.str d.shown, H, I.kept (t' := tk) hk, ⟨u, rfl⟩, q⟩) hz
theorem pair_ok {a b : Int} (h1 : a.natAbs.log2 < 1920) (h2 : b.natAbs.log2 < 1920) : (PyData.tuple [.int a, .int b]).showable = true ∧ (PyData.tuple [.int a, .int b]).hasDict = false ∧ (PyData.tuple [.int a, .int b]).depth ≤ 50 ∧ (PyData.tuple [.int a, .int b]).shown.length ≤ 100000 := by
  refine ⟨?_, by simp [PyData.hasDict, PyData.hasDictAll], by simp [PyData.depth, PyData.depthAll], ?_⟩
  · simp [PyData.showable, PyData.showableAll, h1, h2]
  · have n1 : (Str.ofString (toString a)).length ≤ 1921 := by rw [PySem.ofString_length]; exact int_text_length_le (by decide) h1
    have n2 : (Str.ofString (toString b)).length ≤ 1921 := by rw [PySem.ofString_length]; exact int_text_length_le (by decide) h2
    have e1 : (Str.ofString ", ").length = 2 := by decide +kernel
    have e2 : (Str.ofString "(").length = 1 := by decide +kernel
    have e3 : (Str.ofString ")").length = 1 := by decide +kernel
    show (((Str.ofString "(") ++ ((Str.ofString (toString a)) ++ (Str.ofString ", ") ++ (Str.ofString (toString b)))) ++ (Str.ofString ")")).length ≤ _
    rw [strLen_append, strLen_append, strLen_append, strLen_append, e1, e2, e3]
    omega
theorem log_of {n : Nat} {i : Int} (h : Sz n i) (h0 : 0 < n) (hn : n ≤ 1920) : i.natAbs.log2 < 1920 := Nat.lt_of_lt_of_le (PySem.Flt.log2_lt_of h0 h) hn
theorem sz_small {n : Nat} (h : n < 100) : Sz 1000 (n : Int) := by
  show ((n : Int)).natAbs < 2 ^ 1000
  rw [Int.natAbs_natCast]
  exact Nat.lt_of_lt_of_le h (Nat.le_trans (show 100 ≤ 2 ^ 7 by decide) (Nat.pow_le_pow_right (by decide) (by decide)))
/-! ### parts of the bent ones -/
section
variable {σ : L2.St} {I : Hp → Prop} {K : PySem.W.Frag} {hi : Addr} {k l : Int}
def rListOf (K : PySem.W.Frag) : List V → Hp → VK → Prop := fun xs H Q => ∃ p ys, xs = [.ref p] ∧ (SqL K H p ys ∨ SqT K H p ys) ∧ ∀ l, H l = none → Q (.ref l) (upd H l (.lst ys))
theorem okS_listOf {n : Nat} (e : σ[n]? = some (some (.ref hi))) (h : ∀ H, I H → Two H hi k l) : OkS σ I (tCB (rListOf K) (tCons (tVar n) tNil)) := fun H Q hH q => ⟨_, e, hi, _, rfl, .inr (SqT.of (h H hH)), fun a na => q _ _ (same_upd na) (oc_lst upd_same)⟩
theorem okS_i0 {n : Nat} (e : σ[n]? = some (some (.ref hi))) (h : ∀ H, I H → Two H hi k l) (s1 : Sz 70 k) : OkS σ I (tOp (rIxT K) (tVar n) (tC (.int 0))) := fun H Q hH q => ⟨_, e, hi, _, 0, _, rfl, rfl, SqT.of (h H hH), atI_nat (j := 0) rfl, q _ _ (.refl _) (oc_int (s1.mono (by decide)))⟩
theorem okS_m0 {n : Nat} (e : σ[n]? = some (some (.ref hi))) (h : ∀ H, I H → Two H hi k l) (s1 : Sz 70 k) : OkS σ I (tOp (rI CMul fun i j => .int (i * j)) (tC (.int 2)) (tOp (rIxT K) (tVar n) (tC (.int 0)))) := fun H Q hH q => ⟨_, e, hi, _, 0, _, rfl, rfl, SqT.of (h H hH), atI_nat (j := 0) rfl, 2, k, rfl, rfl, .inl ⟨by decide, by decide⟩, q _ _ (.refl _) (oc_int ((Sz.mul (a := 2) (show (2 : Int).natAbs < 2 ^ 2 by decide) s1).mono (by decide)))⟩
theorem okS_m1 {n : Nat} (e : σ[n]? = some (some (.ref hi))) (h : ∀ H, I H → Two H hi k l) (s1 : Sz 70 l) : OkS σ I (tOp (rI CMul fun i j => .int (i * j)) (tC (.int 2)) (tOp (rIxT K) (tVar n) (tC (.int 1)))) := fun H Q hH q => ⟨_, e, hi, _, 1, _, rfl, rfl, SqT.of (h H hH), atI_nat (j := 1) rfl, 2, l, rfl, rfl, .inl ⟨by decide, by decide⟩, q _ _ (.refl _) (oc_int ((Sz.mul (a := 2) (show (2 : Int).natAbs < 2 ^ 2 by decide) s1).mono (by decide)))⟩
theorem sz_neg {n : Nat} {i : Int} (h : Sz n i) : Sz n (-i) := by
  unfold Sz at *
  rw [Int.natAbs_neg]
  exact h
theorem okS_n0 {n : Nat} (e : σ[n]? = some (some (.ref hi))) (h : ∀ H, I H → Two H hi k l) (s1 : Sz 70 k) : OkS σ I (tUn (rU fun i => .int (-i)) (tOp (rIxT K) (tVar n) (tC (.int 0)))) := fun H Q hH q => ⟨_, e, hi, _, 0, _, rfl, rfl, SqT.of (h H hH), atI_nat (j := 0) rfl, k, rfl, q _ _ (.refl _) (oc_int ((sz_neg s1).mono (by decide)))⟩
theorem okS_n1 {n : Nat} (e : σ[n]? = some (some (.ref hi))) (h : ∀ H, I H → Two H hi k l) (s1 : Sz 70 l) : OkS σ I (tUn (rU fun i => .int (-i)) (tOp (rIxT K) (tVar n) (tC (.int 1)))) := fun H Q hH q => ⟨_, e, hi, _, 1, _, rfl, rfl, SqT.of (h H hH), atI_nat (j := 1) rfl, l, rfl, q _ _ (.refl _) (oc_int ((sz_neg s1).mono (by decide)))⟩
theorem okS_cat1 {n : Nat} (e : σ[n]? = some (some (.ref hi))) (h : ∀ H, I H → Two H hi k l) (s1 : Sz 70 k) (s2 : Sz 70 l) : OkS σ I (tOp (rCatT K) (tVar n) (tTup (tCons (tC (.int 1)) tNil))) := fun H Q hH q => by
  refine ⟨_, e, (by show 1 ≤ sizeLine; decide), fun a na => ?_⟩
  refine ⟨hi, a, _, _, rfl, rfl, SqT.of (same_upd na _ _ (h H hH)), SqT.of upd_same, (by intro z; cases z), (by show 2 + 1 ≤ sizeLine; decide), (fun z => by cases z), fun _ p np => ?_⟩
  refine q _ _ ((same_upd na).trans (same_upd np)) (oc_tup upd_same fun x hx => ?_)
  have hx' : x ∈ [V.int k, .int l, .int 1] := hx
  simp only [List.mem_cons, List.not_mem_nil, or_false] at hx'
  rcases hx' with rfl | rfl | rfl
  · exact oc_int (s1.mono (by decide))
  · exact oc_int (s2.mono (by decide))
  · exact oc_int (sz_small (n := 1) (by decide))
theorem okS_cut {n : Nat} (e : σ[n]? = some (some (.ref hi))) (h : ∀ H, I H → Two H hi k l) (s1 : Sz 70 k) : OkS σ I (tSl (rSlT K) (tVar n) tNoPart (tPart (tC (.int 1)))) := fun H Q hH q => by
  refine ⟨_, e, 1, rfl, hi, _, rfl, SqT.of (h H hH), (show ¬ (HT.sIx 2 0 none = 0 ∧ HT.sIx 2 2 (some 1) = 2) by decide), fun p np => ?_⟩
  refine q _ _ (same_upd np) (oc_tup upd_same fun x hx => ?_)
  have hx' : x ∈ [V.int k] := hx
  rw [List.mem_singleton.mp hx']
  exact oc_int (s1.mono (by decide))
theorem okS_str {n : Nat} (e : σ[n]? = some (some (.ref hi))) (h : ∀ H, I H → Two H hi k l) (s1 : Sz 70 k) (s2 : Sz 70 l) : OkS σ I (tCB (rStD K) (tCons (tVar n) tNil)) := fun H Q hH q => by
  obtain ⟨w1, w2, w3, w4⟩ := pair_ok (log_of s1 (by decide) (by decide)) (log_of s2 (by decide) (by decide))
  exact ⟨_, e, hi, _, rfl, .tup (SqT.of (h H hH)) (.cons (.int _) (.cons (.int _) .nil)), w1, w2, w3, Nat.le_trans w4 (by decide), q _ _ (.refl _) (oc_str w4)⟩
end
section
variable {P : Program} {w : World} {K : PySem.W.Frag} {mg : Str → Option Value} {base : Heap}
/-! ### _law_bent -/
abbrev sBe : Stmt := topS 20
theorem scBe : FnScope ["_law_pot_here", "_law_pair_here", "_law_low", "_law_high", "_law_some"] ["_law_pot_here", "_law_pair_here"] (defScope sBe) := ⟨rfl, rfl, rfl, by decide +kernel, rfl, by decide +kernel, by decide +kernel⟩
def spBe : Sp := fun vs H Q _ => ∃ (p t lo hi : Addr) (i j k l : Int), vs = [.ref p, .ref t] ∧ Pot H p ∧ H t = some (.tup [.ref lo, .ref hi]) ∧ Two H lo i j ∧ Two H hi k l ∧ Fr 70 i j ∧ Fr 70 k l ∧ ∀ H' x, Keep p H H' → Pot H' p → Oc H' x → Q x H'
theorem len_be {vs : List V} {H : Hp} {Q : VK} {E : XK} (h : spBe vs H Q E) : vs.length = (["_law_pot_here", "_law_pair_here"] : List Str).length := by
  obtain ⟨p, t, lo, hi, i, j, k, l, rfl, _⟩ := h
  rfl
theorem ok_be {f fT : Addr} {fd fdT : FuncData} (F : Fun K "_law_bent" "_law_bent" sBe f fd) (FT : Fun K "_law_take" "_law_take" sTake fT fdT) (bT : Binds K fdT ["_law_pot_here", "_law_many"] []) (gT : mg "_law_take" = some (.ref fT)) (mD : mg "divmod" = none) (mL : mg "len" = none) (mLi : mg "list" = none) (mS : mg "str" = none) :
    FnG P w K mg base 2 f fd ["_law_pot_here", "_law_pair_here"] spBe := by
  have GT : FnOk P w K mg base CX0 1 fT fdT ["_law_pot_here", "_law_many"] spTake := ok_take FT mD
  refine Fun.okG F scBe (fun vs H Q E h => len_be h) (fun cdv A outer s H vs Q E gd hr h => ?_)
  obtain ⟨p, t, lo, hi, i, j, k, l, rfl, hp, et, e1, e2, f1, f2, q⟩ := h
  refine ⟨_, pss_cons (ps_asg (pv 1) (pg_tup (by rfl) (pgs_cons (pg_name (i := 2) scBe.nd rfl (.inl rfl)) (pgs_cons (pg_name (i := 3) scBe.nd rfl (.inl rfl)) pgs_nil))))
    (pss_cons (ps_set (i := 4) scBe.nd rfl (.inl rfl) (pe_lst (pa_cons (pe_lst (pa_cons (pv 2) (pa_cons (pv 3) pa_nil))) (pa_cons (pe_tup (pa_cons (pv 2) pa_nil)) (pa_cons (pe_tup (pa_cons (pv 2) (pa_cons (pv 3) (pa_cons (pv 3) pa_nil)))) (pa_cons (pe_tup (pa_cons (pv 2) (pa_cons (pe_callTy call_list_of (by rfl) mLi (by decide +kernel) (pa_cons (pv 3) pa_nil)) pa_nil)))
        (pa_cons (pe_tup (pa_cons (pe_callTy call_list_of (by rfl) mLi (by decide +kernel) (pa_cons (pv 2) pa_nil)) (pa_cons (pv 3) pa_nil))) (pa_cons (pe_tup (pa_cons (pv 2) (pa_cons pe_non pa_nil))) (pa_cons (pe_tup (pa_cons pe_non (pa_cons (pv 3) pa_nil))) pa_nil)))))))))
    (pss_cons (ps_set (i := 4) scBe.nd rfl (.inl rfl) (pe_op op_cat (pv 4) (pe_lst (pa_cons (pe_tup (pa_cons (pv 2) (pa_cons (pe_tup (pa_cons (pe_op op_mul pe_int (pe_ix ix_tup (pv 3) pe_int (fun _ _ => rfl))) (pa_cons (pe_op op_mul pe_int (pe_ix ix_tup (pv 3) pe_int (fun _ _ => rfl))) pa_nil))) pa_nil)))
        (pa_cons (pe_tup (pa_cons (pv 2) (pa_cons (pe_tup (pa_cons (pe_un un_neg (pe_ix ix_tup (pv 3) pe_int (fun _ _ => rfl))) (pa_cons (pe_un un_neg (pe_ix ix_tup (pv 3) pe_int (fun _ _ => rfl))) pa_nil))) pa_nil))) (pa_cons (pe_tup (pa_cons (pv 2) (pa_cons (pe_ix ix_tup (pv 3) pe_int (fun _ _ => rfl)) pa_nil))) (pa_cons (pv 2) pa_nil)))))))
    (pss_cons (ps_set (i := 4) scBe.nd rfl (.inl rfl) (pe_op op_cat (pv 4) (pe_lst (pa_cons (pe_tup (pa_cons (pe_tup (pa_cons pe_int (pa_cons pe_int pa_nil))) (pa_cons (pe_tup (pa_cons pe_bl (pa_cons pe_int pa_nil))) pa_nil))) (pa_cons (pe_tup (pa_cons (pe_tup (pa_cons pe_bl (pa_cons pe_int pa_nil))) (pa_cons (pv 3) pa_nil)))
        (pa_cons (pe_tup (pa_cons (pe_op op_catT (pv 2) (pe_tup (pa_cons pe_int pa_nil))) (pa_cons (pv 3) pa_nil))) (pa_cons (pe_tup (pa_cons (pv 2) (pa_cons (pe_slice sl_tup (pv 3) po_none (po_some pe_int)) pa_nil))) (pa_cons (pe_tup (pa_cons (pv 2) (pa_cons (pe_tup (pa_cons (pe_ix ix_tup (pv 3) pe_int (fun _ _ => rfl)) (pa_cons pe_int pa_nil))) pa_nil))) pa_nil))))))))
    (pss_cons (ps_set (i := 4) scBe.nd rfl (.inl rfl) (pe_op op_cat (pv 4) (pe_lst (pa_cons (pe_tup (pa_cons (pe_callTy (cr_str gd hr.units) (by rfl) mS (by decide +kernel) (pa_cons (pv 2) pa_nil)) (pa_cons (pv 3) pa_nil))) (pa_cons (pe_tup (pa_cons (pv 3) (pa_cons (pv 2) pa_nil))) pa_nil)))))
    (pss_one (ps_ret (pe_ix ix_list (pv 4) (pe_call GT hr (by rfl) gT FT.kp bT .nil pass0 (pa_cons (pv 0) (pa_cons (pe_callB call_len_seq (by rfl) mL PySem.boot_len (pa_cons (pv 4) pa_nil)) pa_nil))) (fun _ _ => rfl)))))))), ?_⟩
  refine ⟨.ref t, rfl, t, _, rfl, SqT.of et, rfl, _, _, rfl, _, _, rfl, rfl, ?_⟩
  have hI : ∀ H H' : Hp, (Two H lo i j ∧ Two H hi k l) → Same H H' → (Two H' lo i j ∧ Two H' hi k l) := fun H H' h s => ⟨s _ _ h.1, s _ _ h.2⟩
  have g1 := f1.a.mono (show 70 ≤ 1000 by decide)
  have g2 := f1.b.mono (show 70 ≤ 1000 by decide)
  have g3 := f2.a.mono (show 70 ≤ 1000 by decide)
  have g4 := f2.b.mono (show 70 ≤ 1000 by decide)
  have L : ∀ {σ : L2.St}, σ[2]? = some (some (V.ref lo)) → OkS σ (fun H => Two H lo i j ∧ Two H hi k l) (tVar 2) := fun e => okS_v e fun H h => oc_two h.1 g1 g2
  have R : ∀ {σ : L2.St}, σ[3]? = some (some (V.ref hi)) → OkS σ (fun H => Two H lo i j ∧ Two H hi k l) (tVar 3) := fun e => okS_v e fun H h => oc_two h.2 g3 g4
  have two : ∀ {σ : L2.St} {a b : TE}, OkS σ (fun H => Two H lo i j ∧ Two H hi k l) a → OkS σ (fun H => Two H lo i j ∧ Two H hi k l) b → OkS σ (fun H => Two H lo i j ∧ Two H hi k l) (tTup (tCons a (tCons b tNil))) := fun ha hb => okS_tup (okL_cons hI ha (okL_cons hI hb okL_nil)) (by decide)
  have n0 : ∀ {σ : L2.St}, OkS σ (fun H => Two H lo i j ∧ Two H hi k l) (tC (.int 0)) := okS_c fun H => oc_int (sz_small (n := 0) (by decide))
  have n1 : ∀ {σ : L2.St}, OkS σ (fun H => Two H lo i j ∧ Two H hi k l) (tC (.int 1)) := okS_c fun H => oc_int (sz_small (n := 1) (by decide))
  refine sqLst (I := fun H => Two H lo i j ∧ Two H hi k l) (n := 7) (okL_cons hI (okS_lst (okL_cons hI (L rfl) (okL_cons hI (R rfl) okL_nil)) (by decide)) (okL_cons hI (okS_tup (okL_cons hI (L rfl) okL_nil) (by decide)) (okL_cons hI (okS_tup (okL_cons hI (L rfl) (okL_cons hI (R rfl) (okL_cons hI (R rfl) okL_nil))) (by decide))
    (okL_cons hI (two (L rfl) (okS_listOf (K := K) rfl fun H h => h.2)) (okL_cons hI (two (okS_listOf (K := K) rfl fun H h => h.1) (R rfl)) (okL_cons hI (two (L rfl) (okS_c fun H => oc_non)) (okL_cons hI (two (okS_c fun H => oc_non) (R rfl)) okL_nil))))))) (by decide) ⟨e1, e2⟩ fun H1 xs a s1 l1 h1 ea _ => ?_
  refine sqCat (I := fun H => Two H lo i j ∧ Two H hi k l) (n := 4) (okL_cons hI (two (L rfl) (two (okS_m0 (K := K) rfl (fun H h => h.2) f2.a) (okS_m1 (K := K) rfl (fun H h => h.2) f2.b))) (okL_cons hI (two (L rfl) (two (okS_n0 (K := K) rfl (fun H h => h.2) f2.a) (okS_n1 (K := K) rfl (fun H h => h.2) f2.b))) (okL_cons hI (two (L rfl) (okS_i0 (K := K) rfl (fun H h => h.2) f2.a)) (okL_cons hI (L rfl) okL_nil)))) (by decide) (hI _ _ ⟨e1, e2⟩ s1) rfl ea (by omega) fun H2 ys b s2 l2 h2 eb _ => ?_
  refine sqCat (I := fun H => Two H lo i j ∧ Two H hi k l) (n := 5) (okL_cons hI (two (two n0 n1) (two (okS_c fun H => oc_bl) n1)) (okL_cons hI (two (two (okS_c fun H => oc_bl) n1) (R rfl)) (okL_cons hI (two (okS_cat1 (K := K) rfl (fun H h => h.1) f1.a f1.b) (R rfl)) (okL_cons hI (two (L rfl) (okS_cut (K := K) rfl (fun H h => h.2) f2.a)) (okL_cons hI (two (L rfl) (two (okS_i0 (K := K) rfl (fun H h => h.2) f2.a) n0)) okL_nil))))) (by decide) (hI _ _ ⟨e1, e2⟩ (s1.trans s2)) rfl eb (by rw [List.length_append]; omega) fun H3 zs c s3 l3 h3 ec _ => ?_
  refine sqCat (I := fun H => Two H lo i j ∧ Two H hi k l) (n := 2) (okL_cons hI (two (okS_str (K := K) rfl (fun H h => h.1) f1.a f1.b) (R rfl)) (okL_cons hI (two (R rfl) (L rfl)) okL_nil)) (by decide) (hI _ _ ⟨e1, e2⟩ ((s1.trans s2).trans s3)) rfl ec (by rw [List.length_append, List.length_append]; omega) fun H4 ws d s4 l4 h4 ed nd => ?_
  have sm := ((s1.trans s2).trans s3).trans s4
  have ln : (xs ++ ys ++ zs ++ ws).length = 18 := by
    rw [List.length_append, List.length_append, List.length_append]
    omega
  refine ⟨.ref d, rfl, .ref p, rfl, .ref d, rfl, d, _, rfl, .inl (SqL.of ed), p, _, rfl, hp.same sm, by rw [ln]; decide, by rw [ln]; decide, fun H5 g k5 p5 lg ug => ?_⟩
  have ndp : d ≠ p := fun z => (hp.same ((s1.trans s2).trans s3)).ne nd z.symm
  obtain ⟨x, hx, ex⟩ := at_mem (xs := xs ++ ys ++ zs ++ ws) lg ug
  refine ⟨d, _, g, x, rfl, rfl, SqL.of (k5 _ _ ndp ed), ex, ?_⟩
  refine q _ _ ((same_keep sm).trans k5) p5 (Oc.mv ?_ (.of_keep k5 (hp.same sm) p5))
  rcases List.mem_append.mp hx with hx | hx
  · rcases List.mem_append.mp hx with hx | hx
    · rcases List.mem_append.mp hx with hx | hx
      · exact (h1 x hx).same ((s2.trans s3).trans s4)
      · exact (h2 x hx).same (s3.trans s4)
    · exact (h3 x hx).same s4
  · exact h4 x hx
end
end G
set_option Elab.async false
set_option linter.all false
set_option maxRecDepth 100000
set_option maxHeartbeats 2000000
namespace G
open PySem PySem.Spec PyProof.Rows L2 TL
theorem eqv_bl2 (a b : Bool) : PyData.eqv (.list [.bool a, .bool b]) (.list [.bool a, .bool b]) = true := by cases a <;> cases b <;> decide
theorem prs_same {H H' : Hp} {x : V} (k : Kd H x) (s : Same H H') : prs H' x = prs H x := by
  cases k with
  | lst e => simp only [prs, e, s _ _ e]
  | tup e _ => simp only [prs, e, s _ _ e]
  | dK e => simp only [prs, e, s _ _ e]
  | _ => rfl
theorem stB_same {H H' : Hp} {x : V} (k : Kd H x) (s : Same H H') : stB H' x = stB H x := by
  cases k with
  | lst e => simp only [stB, e, s _ _ e]
  | dK e => simp only [stB, e, s _ _ e]
  | @tup a xs e hk =>
    by_cases hl : xs.length = 2
    · obtain ⟨u, v, rfl⟩ := two_of hl
      rw [stB_two e, stB_two (s _ _ e), prs_same (hk u (.head _)) s, prs_same (hk v (.tail _ (.head _))) s]
    · rw [stB_len e hl, stB_len (s _ _ e) hl]
  | _ => rfl
section
variable {P : Program} {w : World} {K : PySem.W.Frag} {mg : Str → Option Value} {base : Heap}
theorem kb_nm {f : Addr} {fd : FuncData} (F : Fun K "is_name" "is_name" sNm f fd) : KBn K fd ["thing"] 0 ["thing"] one1 one1 := by
  obtain ⟨c0, d0, k0, dc, pm, an, cv, ct, sl, rfl, lk, hc⟩ := F.ex
  exact ⟨fun s us ws X l1 l2 => match us, ws, l1, l2 with | [], [_], _, _ => .of_eq rfl, one1_rel⟩
theorem kb_st {f : Addr} {fd : FuncData} (F : Fun K "is_stretch" "is_stretch" sSt f fd) : KBn K fd ["thing"] 0 ["thing"] one1 one1 := by
  obtain ⟨c0, d0, k0, dc, pm, an, cv, ct, sl, rfl, lk, hc⟩ := F.ex
  exact ⟨fun s us ws X l1 l2 => match us, ws, l1, l2 with | [], [_], _, _ => .of_eq rfl, one1_rel⟩
abbrev sLaw : Stmt := topS 21
abbrev nLaw : List Str := ["_law_script", "_law_others", "_law_k", "_law_pot_here", "_law_pair_here", "_law_what", "_law_told", "_law_truth"]
theorem scLaw : FnScope nLaw ["_law_script"] (defScope sLaw) := ⟨rfl, rfl, rfl, by decide +kernel, rfl, by decide +kernel, by decide +kernel⟩
def spLaw (K : PySem.W.Frag) : Sp := fun vs H Q _ => ∃ (a : Addr) (ns : List Int), vs = [.ref a] ∧ SqL K H a (ns.map V.int) ∧ ns.length ≤ 63 ∧ ∀ H', Q (.bl true) H'
theorem ok_law {f fP fR fX fB fT fN fS fLN fLS : Addr} {fd fdP fdR fdX fdB fdT fdN fdS fdLN fdLS : FuncData} (F : Fun K "law" "law" sLaw f fd)
    (FP : Fun K "_law_pot" "_law_pot" sPot fP fdP) (bP : Binds K fdP ["_law_script", "_law_k"] []) (gP : mg "_law_pot" = some (.ref fP)) (GP : FnOk P w K mg base CX0 1 fP fdP ["_law_script", "_law_k"] (spPot K))
    (FR : Fun K "_law_pair" "_law_pair" sPr fR fdR) (bR : Binds K fdR ["_law_pot_here"] []) (gR : mg "_law_pair" = some (.ref fR)) (GR : FnOk P w K mg base CX0 4 fR fdR ["_law_pot_here"] spPr)
    (FX : Fun K "_law_text" "_law_text" sTx fX fdX) (bX : Binds K fdX ["_law_pot_here"] []) (gX : mg "_law_text" = some (.ref fX)) (GX : FnOk P w K mg base CX0 2 fX fdX ["_law_pot_here"] spTx)
    (FB : Fun K "_law_bent" "_law_bent" sBe fB fdB) (bB : Binds K fdB ["_law_pot_here", "_law_pair_here"] []) (gB : mg "_law_bent" = some (.ref fB)) (GB : FnG P w K mg base 2 fB fdB ["_law_pot_here", "_law_pair_here"] spBe)
    (FT : Fun K "_law_take" "_law_take" sTake fT fdT) (bT : Binds K fdT ["_law_pot_here", "_law_many"] []) (gT : mg "_law_take" = some (.ref fT)) (GT : FnOk P w K mg base CX0 1 fT fdT ["_law_pot_here", "_law_many"] spTake)
    (FN : Fun K "is_name" "is_name" sNm fN fdN) (bN : Binds K fdN ["thing"] []) (gN : mg "is_name" = some (.ref fN)) (GN : FnOk P w K mg base CX0 1 fN fdN ["thing"] spNm)
    (FS : Fun K "is_stretch" "is_stretch" sSt fS fdS) (bS : Binds K fdS ["thing"] []) (gS : mg "is_stretch" = some (.ref fS)) (GS : FnOk P w K mg base CX0 3 fS fdS ["thing"] spSt)
    (FLN : Fun K "_law_is_name" "_law_is_name" sLN fLN fdLN) (bLN : Binds K fdLN ["_law_what"] []) (gLN : mg "_law_is_name" = some (.ref fLN)) (GLN : FnOk P w K mg base CX0 1 fLN fdLN ["_law_what"] spNm)
    (FLS : Fun K "_law_is_stretch" "_law_is_stretch" sLS fLS fdLS) (bLS : Binds K fdLS ["_law_what"] []) (gLS : mg "_law_is_stretch" = some (.ref fLS)) (GLS : FnOk P w K mg base CX0 3 fLS fdLS ["_law_what"] spSt)
    (mR : mg "range" = none) (mMx : mg "max" = none) (mMn : mg "min" = none) (mL : mg "len" = none) (mIs : mg "isinstance" = none) (mB : mg "bool" = none) (mAll : mg "all" = none) : FnG P w K mg base 5 f fd ["_law_script"] (spLaw K) := by
  refine Fun.okG F scLaw (fun vs H Q E h => ?_) (fun cdv A outer s H vs Q E gd hr h => ?_)
  · obtain ⟨a, ns, rfl, _⟩ := h
    rfl
  · obtain ⟨a, ns, rfl, hS, hlen, q⟩ := h
    have hr1 := hr.mono (show 1 ≤ 4 by decide)
    have hr2 := hr.mono (show 2 ≤ 4 by decide)
    have hr3 := hr.mono (show 3 ≤ 4 by decide)
    refine ⟨_, pss_cons (ps_set (i := 1) scLaw.nd rfl (.inl rfl) (pe_lst (pa_cons pe_non (pa_cons pe_int (pa_cons pe_bl (pa_cons (pe_lst (pa_cons pe_str pa_nil)) (pa_cons (pe_tup (pa_cons pe_str pa_nil)) (pa_cons pe_dnewK (pa_cons (pe_tup (pa_cons pe_str (pa_cons pe_str pa_nil))) (pa_cons pe_str (pa_cons (pe_tup pa_nil)
        (pa_cons (pe_tup (pa_cons (pe_tup (pa_cons pe_int (pa_cons pe_int pa_nil))) (pa_cons (pe_tup (pa_cons pe_int (pa_cons pe_int pa_nil))) pa_nil))) (pa_cons (pe_tup (pa_cons (pe_tup (pa_cons pe_int (pa_cons pe_int pa_nil))) (pa_cons (pe_tup (pa_cons pe_int (pa_cons pe_int pa_nil))) pa_nil))) pa_nil)))))))))))))
      (pss_cons (ps_set (i := 1) scLaw.nd rfl (.inl rfl) (pe_op op_cat (pv 1) (pe_lst (pa_cons (pe_tup (pa_cons (pe_tup (pa_cons pe_int (pa_cons pe_int pa_nil))) (pa_cons (pe_tup (pa_cons pe_int (pa_cons pe_int pa_nil))) pa_nil))) (pa_cons pe_str (pa_cons pe_str (pa_cons pe_str pa_nil)))))))
      (pss_cons (ps_for PassesOwn.never rfl (pi_range1 (by rfl) mR (pa_cons (pe_callB (call_max2 rfl) (by rfl) mMx (by decide +kernel) (pa_cons pe_int (pa_cons (pe_callB (call_min2 rfl) (by rfl) mMn (by decide +kernel) (pa_cons pe_int (pa_cons (pe_callB call_len_seq (by rfl) mL PySem.boot_len (pa_cons (pv 0) pa_nil)) pa_nil))) pa_nil))) pa_nil)) (pg_name (i := 2) scLaw.nd rfl (.inl rfl))
        (pss_cons (ps_set (i := 3) scLaw.nd rfl (.inl rfl) (pe_call GP hr1 (by rfl) gP FP.kp bP .nil pass0 (pa_cons (pv 0) (pa_cons (pv 2) pa_nil))))
        (pss_cons (ps_set (i := 4) scLaw.nd rfl (.inl rfl) (pe_call GR hr (by rfl) gR FR.kp bR .nil pass0 (pa_cons (pv 3) pa_nil)))
        (pss_one (ps_for PassesOwn.never rfl (pi_list (pe_lst (pa_cons (pe_call GX hr2 (by rfl) gX FX.kp bX .nil pass0 (pa_cons (pv 3) pa_nil)) (pa_cons (pe_call GX hr2 (by rfl) gX FX.kp bX .nil pass0 (pa_cons (pv 3) pa_nil)) (pa_cons (pv 4) (pa_cons (pe_callG GB (fun _ _ _ _ h => len_be h) gd hr2 (by rfl) gB FB.kp bB (pa_cons (pv 3) (pa_cons (pv 4) pa_nil)))
            (pa_cons (pe_ix ix_list (pv 1) (pe_call GT hr1 (by rfl) gT FT.kp bT .nil pass0 (pa_cons (pv 3) (pa_cons (pe_callB call_len_seq (by rfl) mL PySem.boot_len (pa_cons (pv 1) pa_nil)) pa_nil))) (fun _ _ => rfl)) pa_nil))))))) (pg_name (i := 5) scLaw.nd rfl (.inl rfl))
          (pss_cons (ps_set (i := 6) scLaw.nd rfl (.inl rfl) (pe_lst (pa_cons (pe_call GN hr1 (by rfl) gN FN.kp bN .nil pass0 (pa_cons (pv 5) pa_nil)) (pa_cons (pe_call GS hr3 (by rfl) gS FS.kp bS .nil pass0 (pa_cons (pv 5) pa_nil)) pa_nil))))
          (pss_cons (ps_if (pt_cmpR (op_neD hr.units) (pe_lst (pa_cons (pe_callN0 GN hr1 (by rfl) gN FN.kp (kb_nm FN) pass0 (pk_cons (pv 5) pk_nil)) (pa_cons (pe_callN0 GS hr3 (by rfl) gS FS.kp (kb_st FS) pass0 (pk_cons (pv 5) pk_nil)) pa_nil))) (pv 6) (nomark _)) (pss_one (ps_ret pe_bl)) pss_nil)
          (pss_cons (ps_if (pt_not (pt_val (pe_callB (cr_all rfl) (by rfl) mAll (by decide +kernel) (pa_cons (pe_lc (own := [("_law_truth", 7)]) (g := gName 7) (tt := tYes) (te := tCB (rIsi K) (tCons (tVar 7) (tCons (tC (.ty "bool")) tNil))) (by rfl) scLaw.nd (pi_list (pv 6)) (blkOk_by (own := [("_law_truth", 7)]) (N := nLaw) (sc := defScope sLaw) (by decide +kernel))
              (fun _ _ _ _ _ => pg_name (i := 7) scLaw.nd rfl (.inl rfl)) (fun _ _ _ _ _ => pts_nil) (fun _ _ _ _ _ => pe_callB call_isi (by rfl) mIs (by decide +kernel) (pa_cons (pv 7) (pa_cons (pe_bltn (v := .ty "bool") (by rfl) mB (by decide +kernel) rfl) pa_nil)))) pa_nil)))) (pss_one (ps_ret pe_bl)) pss_nil)
          (pss_one (ps_if (pt_cmpR (op_neD hr.units) (pv 6) (pe_lst (pa_cons (pe_call GLN hr1 (by rfl) gLN FLN.kp bLN .nil pass0 (pa_cons (pv 5) pa_nil)) (pa_cons (pe_call GLS hr3 (by rfl) gLS FLS.kp bLS .nil pass0 (pa_cons (pv 5) pa_nil)) pa_nil))) (nomark _)) (pss_one (ps_ret pe_bl)) pss_nil))))))))))
      (pss_one (ps_ret pe_bl)))), ?_⟩
    -- the others
    have hI : ∀ H H' : Hp, True → Same H H' → True := fun _ _ h _ => h
    have two : ∀ {σ : L2.St} {a b : TE}, OkS σ (fun _ => True) a → OkS σ (fun _ => True) b → OkS σ (fun _ => True) (tTup (tCons a (tCons b tNil))) := fun ha hb => okS_tup (okL_cons hI ha (okL_cons hI hb okL_nil)) (by decide)
    have n0 : ∀ {σ : L2.St}, OkS σ (fun _ => True) (tC (.int 0)) := okS_c fun H => oc_int (sz_small (n := 0) (by decide))
    have n1 : ∀ {σ : L2.St}, OkS σ (fun _ => True) (tC (.int 1)) := okS_c fun H => oc_int (sz_small (n := 1) (by decide))
    have n7 : ∀ {σ : L2.St}, OkS σ (fun _ => True) (tC (.int 7)) := okS_c fun H => oc_int (sz_small (n := 7) (by decide))
    have tx : ∀ {σ : L2.St} {z : Str}, z.length ≤ 100000 → OkS σ (fun _ => True) (tC (.str z)) := fun h => okS_c fun H => oc_str h
    refine sqLst (I := fun _ => True) (n := 11) (okL_cons hI (okS_c fun H => oc_non) (okL_cons hI n7 (okL_cons hI (okS_c fun H => oc_bl) (okL_cons hI (okS_lst (okL_cons hI (tx (by decide +kernel)) okL_nil) (by decide)) (okL_cons hI (okS_tup (okL_cons hI (tx (by decide +kernel)) okL_nil) (by decide)) (okL_cons hI okS_dct
      (okL_cons hI (two (tx (by decide +kernel)) (tx (by decide +kernel))) (okL_cons hI (tx (by decide +kernel)) (okL_cons hI (okS_tup okL_nil (by decide)) (okL_cons hI (two (two n0 n1) (two n1 n1)) (okL_cons hI (two (two n1 n1) (two n1 n1)) okL_nil))))))))))) (by decide) trivial fun Ha xs a1 sa la ha ea _ => ?_
    refine sqCat (I := fun _ => True) (n := 4) (okL_cons hI (two (two n0 n1) (two n0 n1)) (okL_cons hI (tx (by decide +kernel)) (okL_cons hI (tx (by decide +kernel)) (okL_cons hI (tx (by decide +kernel)) okL_nil)))) (by decide) trivial rfl ea (by omega) fun Hb ys b sb lb hb eb nb => ?_
    have s0 := sa.trans sb
    have ln : (xs ++ ys).length = 15 := by
      rw [List.length_append]
      omega
    have every : ∀ x ∈ xs ++ ys, Oc Hb x := fun x hx => (List.mem_append.mp hx).elim (fun hx => (ha x hx).same sb) (fun hx => hb x hx)
    generalize xs ++ ys = os at ln every eb
    refine ⟨.ref a, rfl, a, _, rfl, .inl (s0.seq hS), 8, _, rfl, 1, _, rfl, _, rfl, ?_, ?_, ?_⟩
    · rw [List.length_map]
      split <;> (split <;> omega)
    · rw [List.length_map]
      split <;> (split <;> omega)
    have hn : (if (if (((ns.map V.int).length : Nat) : Int) < 8 then (((ns.map V.int).length : Nat) : Int) else 8) > 1 then (if (((ns.map V.int).length : Nat) : Int) < 8 then (((ns.map V.int).length : Nat) : Int) else 8) else 1).toNat ≤ 8 := by
      split <;> (split <;> omega)
    refine for_range (fun k σ' H' => ∃ y2 y3 y4 y5 y6, σ' = [some (.ref a), some (.ref b), y2, y3, y4, y5, y6, none] ∧ Same Hb H') ⟨_, _, _, _, _, rfl, .refl _⟩ ?_ ?_
    · rintro n σ' H1 hk ⟨y2, y3, y4, y5, y6, rfl, s1⟩
      have hk8 : n < 64 := by omega
      refine ⟨.ref a, rfl, _, rfl, a, ns, n, by rw [Int.zero_add]; rfl, (s0.trans s1).seq hS, hk8, fun H2 p s2 np hp => ?_⟩
      refine ⟨.ref p, rfl, p, rfl, hp, fun H3 t lo hi i j k l k3 p3 et e1 e2 f1 f2 => ?_⟩
      have ntp : t ≠ p := fun z => by
        obtain ⟨_, _, e, _⟩ := p3
        rw [← z, et] at e
        cases e
      -- the five things
      refine ⟨.ref p, rfl, p, rfl, p3, fun H4 z1 k4 p4 hz1 => ?_⟩
      refine ⟨.ref p, rfl, p, rfl, p4, fun H5 z2 k5 p5 hz2 => ?_⟩
      have kk := k4.trans k5
      have et5 := kk _ _ ntp et
      have e15 : Two H5 lo i j := kk _ _ (two_ne e1 p3) e1
      have e25 : Two H5 hi k l := kk _ _ (two_ne e2 p3) e2
      refine ⟨.ref t, rfl, .ref p, rfl, .ref t, rfl, p, t, lo, hi, i, j, k, l, rfl, p5, et5, e15, e25, f1, f2, fun H6 x k6 p6 ox => ?_⟩
      have sP : Same H1 H6 := same_keep_new s2 np ((k3.trans kk).trans k6)
      have eb6 : H6 b = some (.lst os) := sP _ _ (s1 _ _ eb)
      refine ⟨.ref b, rfl, .ref p, rfl, .ref b, rfl, b, _, rfl, .inl (SqL.of eb6), p, _, rfl, p6, by rw [ln]; decide, by rw [ln]; decide, fun H7 d k7 p7 ld ud => ?_⟩
      have sQ : Same H1 H7 := same_keep_new s2 np (((k3.trans kk).trans k6).trans k7)
      have eb7 : H7 b = some (.lst os) := sQ _ _ (s1 _ _ eb)
      obtain ⟨o, ho, eo⟩ := at_mem (xs := os) ld ud
      refine ⟨b, _, d, o, rfl, rfl, SqL.of eb7, eo, ?_⟩
      refine ⟨by show 5 ≤ sizeLine; decide, fun m nm => ?_⟩
      have z4 := same_upd (o := .lst [.str z1, .str z2, .ref t, x, o]) nm
      have m57 : Mv H5 H7 := .of_keep (k6.trans k7) p5 p7
      have all5 : ∀ y ∈ [V.str z1, .str z2, .ref t, x, o], Oc (upd H7 m (.lst [.str z1, .str z2, .ref t, x, o])) y := by
        intro y hy
        simp only [List.mem_cons, List.not_mem_nil, or_false] at hy
        rcases hy with rfl | rfl | rfl | rfl | rfl
        · exact oc_str (by omega)
        · exact oc_str (by omega)
        · refine Oc.same (Oc.mv (oc_tup et5 fun y hy => ?_) m57) z4
          rcases List.mem_cons.mp hy with rfl | hy
          · exact oc_two e15 (f1.a.mono (by decide)) (f1.b.mono (by decide))
          · rw [List.mem_singleton.mp hy]
            exact oc_two e25 (f2.a.mono (by decide)) (f2.b.mono (by decide))
        · exact (ox.mv (.of_keep k7 p6 p7)).same z4
        · exact (every _ ho).same ((s1.trans sQ).trans z4)
      have el : (upd H7 m (.lst [.str z1, .str z2, .ref t, x, o])) m = some (.lst [.str z1, .str z2, .ref t, x, o]) := upd_same
      have sR := sQ.trans z4
      generalize (upd H7 m (.lst [.str z1, .str z2, .ref t, x, o])) = H9 at all5 el sR
      refine ⟨m, rfl, ⟨_, SqL.of el⟩, for_list (K := K) (a := m) (xs := [V.str z1, .str z2, .ref t, x, o]) (fun _ σ' H' => ∃ y5 y6, σ' = [some (.ref a), some (.ref b), some (.int (0 + (n : Int))), some (.ref p), some (.ref t), y5, y6, none] ∧ Same H9 H') ⟨_, _, rfl, .refl _⟩ (fun _ σ' H' _ ⟨_, _, _, s⟩ => SqL.of (s _ _ el)) ?_ ?_⟩
      · rintro c y σ' H10 hy ⟨y5, y6, rfl, s10⟩
        have oy := (all5 y (List.mem_of_getElem? hy)).same s10
        -- told
        refine ⟨y, rfl, y, rfl, oy.kd, oy.tx, fun H11 s11 => ?_⟩
        have oy11 := oy.same s11
        refine ⟨y, rfl, y, rfl, oy11.kd, oy11.bb, fun H12 s12 => ?_⟩
        have oy12 := oy11.same s12
        refine ⟨by show 2 ≤ sizeLine; decide, fun t1 nt1 => ?_⟩
        have v1 := same_upd (o := .lst [.bl (nmB y), .bl (stB H11 y)]) nt1
        have et1 : (upd H12 t1 (.lst [.bl (nmB y), .bl (stB H11 y)])) t1 = some (.lst [.bl (nmB y), .bl (stB H11 y)]) := upd_same
        have oy13 := oy12.same v1
        have w13 := (s12.trans v1)
        generalize (upd H12 t1 (.lst [.bl (nmB y), .bl (stB H11 y)])) = H13 at v1 et1 oy13 w13
        -- by name
        refine ⟨y, rfl, rfl, y, rfl, oy13.kd, oy13.tx, fun H14 s14 => ?_⟩
        have oy14 := oy13.same s14
        refine ⟨y, rfl, rfl, y, rfl, oy14.kd, oy14.bb, fun H15 s15 => ?_⟩
        have oy15 := oy14.same s15
        refine ⟨by show 2 ≤ sizeLine; decide, fun t2 nt2 => ?_⟩
        have v2 := same_upd (o := .lst [.bl (nmB y), .bl (stB H14 y)]) nt2
        have w15 := s14.trans s15
        have q14 : stB H14 y = stB H11 y := stB_same oy11.kd (w13.trans s14)
        refine ⟨_, rfl, _, _, .lst (SqL.of upd_same) (.cons (.bl _) (.cons (.bl _) .nil)), .lst (SqL.of (v2 _ _ (w15 _ _ et1))) (.cons (.bl _) (.cons (.bl _) .nil)), rfl, rfl, _, rfl, ifF (by rw [q14, eqv_bl2]; rfl) ?_⟩
        have et16 := v2 _ _ (w15 _ _ et1)
        have oy16 := oy15.same v2
        have w16 := w15.trans v2
        generalize (upd H15 t2 (.lst [.bl (nmB y), .bl (stB H14 y)])) = H16 at v2 et16 oy16 w16
        -- truths
        refine ⟨.ref t1, rfl, t1, rfl, ⟨_, SqL.of et16⟩, fun D nD => ?_⟩
        refine lc_list (K := K) (a := t1) (xs := [.bl (nmB y), .bl (stB H11 y)]) (fun e H' => Same H16 H' ∧ H' D = some (.lst ((List.replicate e true).map V.bl))) ⟨same_upd nD, upd_same⟩ (fun _ H' _ hP => SqL.of (hP.1 _ _ et16)) ?_ ?_
        · rintro e y' H' hy' ⟨t8, e8⟩
          obtain ⟨c', rfl⟩ : ∃ c', y' = .bl c' := by
            have hm := List.mem_of_getElem? hy'
            simp only [List.mem_cons, List.not_mem_nil, or_false] at hm
            rcases hm with rfl | rfl <;> exact ⟨_, rfl⟩
          have hn : e < 2 := (List.getElem?_eq_some_iff.mp hy').1
          refine ⟨rfl, _, rfl, _, .ty "bool", _, _, _, rfl, .ty _, .base (.bl c'), kit_ty (b := "bool") (r := true) (by decide +kernel), _, e8, ?_, same_app t8 nD (.refl _), ?_⟩
          · rw [List.length_map, List.length_replicate]
            exact Nat.lt_of_lt_of_le hn (by decide)
          · rw [upd_same, List.replicate_succ', List.map_append]
            rfl
        · rintro H17 ⟨t8, e8⟩
          refine ⟨D, _, rfl, SqL.of e8, _, rfl, ifF (by rfl) ?_⟩
          have oy17 := oy16.same t8
          -- as the law reckons
          refine ⟨.ref t1, rfl, y, rfl, y, rfl, oy17.kd, oy17.tx, fun H18 s18 => ?_⟩
          have oy18 := oy17.same s18
          refine ⟨y, rfl, y, rfl, oy18.kd, oy18.bb, fun H19 s19 => ?_⟩
          refine ⟨by show 2 ≤ sizeLine; decide, fun t3 nt3 => ?_⟩
          have v3 := same_upd (o := .lst [.bl (nmB y), .bl (stB H18 y)]) nt3
          have q18 : stB H18 y = stB H11 y := stB_same oy11.kd (((w13.trans w16).trans t8).trans s18)
          refine ⟨_, _, .lst (SqL.of (v3 _ _ (s19 _ _ (s18 _ _ (t8 _ _ et16))))) (.cons (.bl _) (.cons (.bl _) .nil)), .lst (SqL.of upd_same) (.cons (.bl _) (.cons (.bl _) .nil)), rfl, rfl, _, rfl, ifF (by rw [q18, eqv_bl2]; rfl) ?_⟩
          exact ⟨_, _, rfl, ((((s10.trans s11).trans w13).trans w16).trans t8).trans ((s18.trans s19).trans v3)⟩
      · rintro σ' H10 ⟨y5, y6, rfl, s10⟩
        exact ⟨_, _, _, _, _, rfl, (s1.trans sR).trans s10⟩
    · rintro σ' H1 ⟨y2, y3, y4, y5, y6, rfl, s1⟩
      exact q _
end
end G
set_option Elab.async false
set_option linter.all false
set_option maxRecDepth 100000
set_option maxHeartbeats 1000000
namespace G
open PySem PySem.Spec PyProof.Rows L2 TL
theorem all_mk {l : PySem.W.OpenLaw} {w : World} {K : PySem.W.Frag} {h : Heap} {mg : Str → Option Value} {fa : Addr} {tk : Tok} (X : K.In h) (G : h.Ns mainGlobals mg) (hfa : mg "law" = some (.ref fa))
    {f1 f2 f3 f4 f5 f6 f7 f8 f9 f10 f11 f12 f13 f14 f15 f16 f17 f18 : Addr}
    {od1 an1 od2 an2 od3 an3 od4 an4 od5 an5 od6 an6 od7 an7 od8 an8 od9 an9 od10 an10 od11 an11 od12 an12 od13 an13 od14 an14 od15 an15 od16 an16 od17 an17 od18 an18 : Option Addr} {sl1 sl2 sl3 sl4 sl5 sl6 sl7 sl8 sl9 sl10 sl11 sl12 sl13 sl14 sl15 sl16 sl17 sl18 : Array (Option Value)} {oc1 kV1 dc1 pm1 cd1 ct1 oc2 kV2 dc2 pm2 cd2 ct2 oc3 kV3 dc3 pm3 cd3 ct3 oc4 kV4 dc4 pm4 cd4 ct4 oc5 kV5 dc5 pm5 cd5 ct5 oc6 kV6 dc6 pm6 cd6 ct6 oc7 kV7 dc7 pm7 cd7 ct7 oc8 kV8 dc8 pm8 cd8 ct8 oc9 kV9 dc9 pm9 cd9 ct9 oc10 kV10 dc10 pm10 cd10 ct10 oc11 kV11 dc11 pm11 cd11 ct11 oc12 kV12 dc12 pm12 cd12 ct12 oc13 kV13 dc13 pm13 cd13 ct13 oc14 kV14 dc14 pm14 cd14 ct14 oc15 kV15 dc15 pm15 cd15 ct15 oc16 kV16 dc16 pm16 cd16 ct16 oc17 kV17 dc17 pm17 cd17 ct17 oc18 kV18 dc18 pm18 cd18 ct18 : Value}
    (a1 : PySem.W.nsIn K mainGlobals "is_whole" = some (some (.ref f1))) (l1 : K.lookup f1 = some ⟨oc1, od1, .func (PySem.W.fnOf "is_whole" "is_whole" (defArgs sWhole) (defBody sWhole) (defScope sWhole) .none kV1 dc1 pm1 an1 cd1 ct1), sl1⟩) (c1 : PySem.W.codeIn K cd1 "is_whole" = true) (k1 : PySem.W.keepIn K (.ref f1) = true)
    (a2 : PySem.W.nsIn K mainGlobals "common_measure" = some (some (.ref f2))) (l2 : K.lookup f2 = some ⟨oc2, od2, .func (PySem.W.fnOf "common_measure" "common_measure" (defArgs sMeas) (defBody sMeas) (defScope sMeas) .none kV2 dc2 pm2 an2 cd2 ct2), sl2⟩) (c2 : PySem.W.codeIn K cd2 "common_measure" = true) (k2 : PySem.W.keepIn K (.ref f2) = true)
    (a3 : PySem.W.nsIn K mainGlobals "is_less" = some (some (.ref f3))) (l3 : K.lookup f3 = some ⟨oc3, od3, .func (PySem.W.fnOf "is_less" "is_less" (defArgs sLess) (defBody sLess) (defScope sLess) .none kV3 dc3 pm3 an3 cd3 ct3), sl3⟩) (c3 : PySem.W.codeIn K cd3 "is_less" = true) (k3 : PySem.W.keepIn K (.ref f3) = true)
    (a4 : PySem.W.nsIn K mainGlobals "is_fraction" = some (some (.ref f4))) (l4 : K.lookup f4 = some ⟨oc4, od4, .func (PySem.W.fnOf "is_fraction" "is_fraction" (defArgs sIsF) (defBody sIsF) (defScope sIsF) .none kV4 dc4 pm4 an4 cd4 ct4), sl4⟩) (c4 : PySem.W.codeIn K cd4 "is_fraction" = true) (k4 : PySem.W.keepIn K (.ref f4) = true)
    (a5 : PySem.W.nsIn K mainGlobals "is_name" = some (some (.ref f5))) (l5 : K.lookup f5 = some ⟨oc5, od5, .func (PySem.W.fnOf "is_name" "is_name" (defArgs sNm) (defBody sNm) (defScope sNm) .none kV5 dc5 pm5 an5 cd5 ct5), sl5⟩) (c5 : PySem.W.codeIn K cd5 "is_name" = true) (k5 : PySem.W.keepIn K (.ref f5) = true)
    (a6 : PySem.W.nsIn K mainGlobals "is_stretch" = some (some (.ref f6))) (l6 : K.lookup f6 = some ⟨oc6, od6, .func (PySem.W.fnOf "is_stretch" "is_stretch" (defArgs sSt) (defBody sSt) (defScope sSt) .none kV6 dc6 pm6 an6 cd6 ct6), sl6⟩) (c6 : PySem.W.codeIn K cd6 "is_stretch" = true) (k6 : PySem.W.keepIn K (.ref f6) = true)
    (a7 : PySem.W.nsIn K mainGlobals "_law_pot" = some (some (.ref f7))) (l7 : K.lookup f7 = some ⟨oc7, od7, .func (PySem.W.fnOf "_law_pot" "_law_pot" (defArgs sPot) (defBody sPot) (defScope sPot) .none kV7 dc7 pm7 an7 cd7 ct7), sl7⟩) (c7 : PySem.W.codeIn K cd7 "_law_pot" = true) (k7 : PySem.W.keepIn K (.ref f7) = true)
    (a8 : PySem.W.nsIn K mainGlobals "_law_take" = some (some (.ref f8))) (l8 : K.lookup f8 = some ⟨oc8, od8, .func (PySem.W.fnOf "_law_take" "_law_take" (defArgs sTake) (defBody sTake) (defScope sTake) .none kV8 dc8 pm8 an8 cd8 ct8), sl8⟩) (c8 : PySem.W.codeIn K cd8 "_law_take" = true) (k8 : PySem.W.keepIn K (.ref f8) = true)
    (a9 : PySem.W.nsIn K mainGlobals "_law_below" = some (some (.ref f9))) (l9 : K.lookup f9 = some ⟨oc9, od9, .func (PySem.W.fnOf "_law_below" "_law_below" (defArgs sBelow) (defBody sBelow) (defScope sBelow) .none kV9 dc9 pm9 an9 cd9 ct9), sl9⟩) (c9 : PySem.W.codeIn K cd9 "_law_below" = true) (k9 : PySem.W.keepIn K (.ref f9) = true)
    (a10 : PySem.W.nsIn K mainGlobals "_law_lowest" = some (some (.ref f10))) (l10 : K.lookup f10 = some ⟨oc10, od10, .func (PySem.W.fnOf "_law_lowest" "_law_lowest" (defArgs sLow) (defBody sLow) (defScope sLow) .none kV10 dc10 pm10 an10 cd10 ct10), sl10⟩) (c10 : PySem.W.codeIn K cd10 "_law_lowest" = true) (k10 : PySem.W.keepIn K (.ref f10) = true)
    (a11 : PySem.W.nsIn K mainGlobals "_law_is_fraction" = some (some (.ref f11))) (l11 : K.lookup f11 = some ⟨oc11, od11, .func (PySem.W.fnOf "_law_is_fraction" "_law_is_fraction" (defArgs sLF) (defBody sLF) (defScope sLF) .none kV11 dc11 pm11 an11 cd11 ct11), sl11⟩) (c11 : PySem.W.codeIn K cd11 "_law_is_fraction" = true) (k11 : PySem.W.keepIn K (.ref f11) = true)
    (a12 : PySem.W.nsIn K mainGlobals "_law_is_name" = some (some (.ref f12))) (l12 : K.lookup f12 = some ⟨oc12, od12, .func (PySem.W.fnOf "_law_is_name" "_law_is_name" (defArgs sLN) (defBody sLN) (defScope sLN) .none kV12 dc12 pm12 an12 cd12 ct12), sl12⟩) (c12 : PySem.W.codeIn K cd12 "_law_is_name" = true) (k12 : PySem.W.keepIn K (.ref f12) = true)
    (a13 : PySem.W.nsIn K mainGlobals "_law_is_stretch" = some (some (.ref f13))) (l13 : K.lookup f13 = some ⟨oc13, od13, .func (PySem.W.fnOf "_law_is_stretch" "_law_is_stretch" (defArgs sLS) (defBody sLS) (defScope sLS) .none kV13 dc13 pm13 an13 cd13 ct13), sl13⟩) (c13 : PySem.W.codeIn K cd13 "_law_is_stretch" = true) (k13 : PySem.W.keepIn K (.ref f13) = true)
    (a14 : PySem.W.nsIn K mainGlobals "_law_text" = some (some (.ref f14))) (l14 : K.lookup f14 = some ⟨oc14, od14, .func (PySem.W.fnOf "_law_text" "_law_text" (defArgs sTx) (defBody sTx) (defScope sTx) .none kV14 dc14 pm14 an14 cd14 ct14), sl14⟩) (c14 : PySem.W.codeIn K cd14 "_law_text" = true) (k14 : PySem.W.keepIn K (.ref f14) = true)
    (a15 : PySem.W.nsIn K mainGlobals "_law_end" = some (some (.ref f15))) (l15 : K.lookup f15 = some ⟨oc15, od15, .func (PySem.W.fnOf "_law_end" "_law_end" (defArgs sEn) (defBody sEn) (defScope sEn) .none kV15 dc15 pm15 an15 cd15 ct15), sl15⟩) (c15 : PySem.W.codeIn K cd15 "_law_end" = true) (k15 : PySem.W.keepIn K (.ref f15) = true)
    (a16 : PySem.W.nsIn K mainGlobals "_law_pair" = some (some (.ref f16))) (l16 : K.lookup f16 = some ⟨oc16, od16, .func (PySem.W.fnOf "_law_pair" "_law_pair" (defArgs sPr) (defBody sPr) (defScope sPr) .none kV16 dc16 pm16 an16 cd16 ct16), sl16⟩) (c16 : PySem.W.codeIn K cd16 "_law_pair" = true) (k16 : PySem.W.keepIn K (.ref f16) = true)
    (a17 : PySem.W.nsIn K mainGlobals "_law_bent" = some (some (.ref f17))) (l17 : K.lookup f17 = some ⟨oc17, od17, .func (PySem.W.fnOf "_law_bent" "_law_bent" (defArgs sBe) (defBody sBe) (defScope sBe) .none kV17 dc17 pm17 an17 cd17 ct17), sl17⟩) (c17 : PySem.W.codeIn K cd17 "_law_bent" = true) (k17 : PySem.W.keepIn K (.ref f17) = true)
    (a18 : PySem.W.nsIn K mainGlobals "law" = some (some (.ref f18))) (l18 : K.lookup f18 = some ⟨oc18, od18, .func (PySem.W.fnOf "law" "law" (defArgs sLaw) (defBody sLaw) (defScope sLaw) .none kV18 dc18 pm18 an18 cd18 ct18), sl18⟩) (c18 : PySem.W.codeIn K cd18 "law" = true) (k18 : PySem.W.keepIn K (.ref f18) = true)
    (z1 : PySem.W.nsIn K mainGlobals "abs" = some none)
    (z2 : PySem.W.nsIn K mainGlobals "isinstance" = some none)
    (z3 : PySem.W.nsIn K mainGlobals "int" = some none)
    (z4 : PySem.W.nsIn K mainGlobals "bool" = some none)
    (z5 : PySem.W.nsIn K mainGlobals "tuple" = some none)
    (z6 : PySem.W.nsIn K mainGlobals "len" = some none)
    (z7 : PySem.W.nsIn K mainGlobals "any" = some none)
    (z8 : PySem.W.nsIn K mainGlobals "max" = some none)
    (z9 : PySem.W.nsIn K mainGlobals "min" = some none)
    (z10 : PySem.W.nsIn K mainGlobals "range" = some none)
    (z11 : PySem.W.nsIn K mainGlobals "divmod" = some none)
    (z12 : PySem.W.nsIn K mainGlobals "all" = some none)
    (z13 : PySem.W.nsIn K mainGlobals "list" = some none)
    (z14 : PySem.W.nsIn K mainGlobals "str" = some none)
    (aM : PySem.W.nsIn K mainGlobals "MOST_LETTERS" = some (some (.int 8 tk))) :
    ∃ fd : FuncData, (∀ (s : Shared) (v : Value), BindsTo s fd ⟨[v], []⟩ [("_law_script", v)]) ∧ ∀ base : Heap, K.In base → base.Ns mainGlobals mg → FnG l.prog w K mg base 5 fa fd ["_law_script"] (spLaw K) := by
  have e := hfa.symm.trans (PySem.W.mg_of X G a18)
  cases e
  have F1 := fun_mk (st := sWhole) l1 c1 k1
  have F2 := fun_mk (st := sMeas) l2 c2 k2
  have F3 := fun_mk (st := sLess) l3 c3 k3
  have F4 := fun_mk (st := sIsF) l4 c4 k4
  have F5 := fun_mk (st := sNm) l5 c5 k5
  have F6 := fun_mk (st := sSt) l6 c6 k6
  have F7 := fun_mk (st := sPot) l7 c7 k7
  have F8 := fun_mk (st := sTake) l8 c8 k8
  have F9 := fun_mk (st := sBelow) l9 c9 k9
  have F10 := fun_mk (st := sLow) l10 c10 k10
  have F11 := fun_mk (st := sLF) l11 c11 k11
  have F12 := fun_mk (st := sLN) l12 c12 k12
  have F13 := fun_mk (st := sLS) l13 c13 k13
  have F14 := fun_mk (st := sTx) l14 c14 k14
  have F15 := fun_mk (st := sEn) l15 c15 k15
  have F16 := fun_mk (st := sPr) l16 c16 k16
  have F17 := fun_mk (st := sBe) l17 c17 k17
  have F18 := fun_mk (st := sLaw) l18 c18 k18
  have b1 := F1.binds (ps := ["thing"]) fun _ _ _ _ _ _ us hl => match us, hl with | [_], _ => rfl
  have g1 := PySem.W.mg_of X G a1
  have b2 := F2.binds (ps := ["one", "other"]) fun _ _ _ _ _ _ us hl => match us, hl with | [_, _], _ => rfl
  have g2 := PySem.W.mg_of X G a2
  have b3 := F3.binds (ps := ["one", "other"]) fun _ _ _ _ _ _ us hl => match us, hl with | [_, _], _ => rfl
  have g3 := PySem.W.mg_of X G a3
  have b4 := F4.binds (ps := ["thing"]) fun _ _ _ _ _ _ us hl => match us, hl with | [_], _ => rfl
  have g4 := PySem.W.mg_of X G a4
  have b5 := F5.binds (ps := ["thing"]) fun _ _ _ _ _ _ us hl => match us, hl with | [_], _ => rfl
  have g5 := PySem.W.mg_of X G a5
  have b6 := F6.binds (ps := ["thing"]) fun _ _ _ _ _ _ us hl => match us, hl with | [_], _ => rfl
  have g6 := PySem.W.mg_of X G a6
  have b7 := F7.binds (ps := ["_law_script", "_law_k"]) fun _ _ _ _ _ _ us hl => match us, hl with | [_, _], _ => rfl
  have g7 := PySem.W.mg_of X G a7
  have b8 := F8.binds (ps := ["_law_pot_here", "_law_many"]) fun _ _ _ _ _ _ us hl => match us, hl with | [_, _], _ => rfl
  have g8 := PySem.W.mg_of X G a8
  have b9 := F9.binds (ps := ["_law_pot_here", "_law_many"]) fun _ _ _ _ _ _ us hl => match us, hl with | [_, _], _ => rfl
  have g9 := PySem.W.mg_of X G a9
  have b10 := F10.binds (ps := ["_law_top", "_law_bottom"]) fun _ _ _ _ _ _ us hl => match us, hl with | [_, _], _ => rfl
  have g10 := PySem.W.mg_of X G a10
  have b11 := F11.binds (ps := ["_law_what"]) fun _ _ _ _ _ _ us hl => match us, hl with | [_], _ => rfl
  have g11 := PySem.W.mg_of X G a11
  have b12 := F12.binds (ps := ["_law_what"]) fun _ _ _ _ _ _ us hl => match us, hl with | [_], _ => rfl
  have g12 := PySem.W.mg_of X G a12
  have b13 := F13.binds (ps := ["_law_what"]) fun _ _ _ _ _ _ us hl => match us, hl with | [_], _ => rfl
  have g13 := PySem.W.mg_of X G a13
  have b14 := F14.binds (ps := ["_law_pot_here"]) fun _ _ _ _ _ _ us hl => match us, hl with | [_], _ => rfl
  have g14 := PySem.W.mg_of X G a14
  have b15 := F15.binds (ps := ["_law_pot_here"]) fun _ _ _ _ _ _ us hl => match us, hl with | [_], _ => rfl
  have g15 := PySem.W.mg_of X G a15
  have b16 := F16.binds (ps := ["_law_pot_here"]) fun _ _ _ _ _ _ us hl => match us, hl with | [_], _ => rfl
  have g16 := PySem.W.mg_of X G a16
  have b17 := F17.binds (ps := ["_law_pot_here", "_law_pair_here"]) fun _ _ _ _ _ _ us hl => match us, hl with | [_, _], _ => rfl
  have g17 := PySem.W.mg_of X G a17
  have m1 := PySem.W.mg_none_of X G z1
  have m2 := PySem.W.mg_none_of X G z2
  have m3 := PySem.W.mg_none_of X G z3
  have m4 := PySem.W.mg_none_of X G z4
  have m5 := PySem.W.mg_none_of X G z5
  have m6 := PySem.W.mg_none_of X G z6
  have m7 := PySem.W.mg_none_of X G z7
  have m8 := PySem.W.mg_none_of X G z8
  have m9 := PySem.W.mg_none_of X G z9
  have m10 := PySem.W.mg_none_of X G z10
  have m11 := PySem.W.mg_none_of X G z11
  have m12 := PySem.W.mg_none_of X G z12
  have m13 := PySem.W.mg_none_of X G z13
  have m14 := PySem.W.mg_none_of X G z14
  refine ⟨PySem.W.fnOf "law" "law" (defArgs sLaw) (defBody sLaw) (defScope sLaw) .none kV18 dc18 pm18 an18 cd18 ct18, fun s v => .of_eq rfl, fun base _ _ => ?_⟩
  have GF := ok_LF (P := l.prog) (w := w) (mg := mg) (base := base) F11 F10 b10 g10 m1 m2 m3 m4 m5 m6 m7
  have GI := ok_isF (P := l.prog) (w := w) (mg := mg) (base := base) F4 F2 b2 g2 F1 b1 g1 m1 m2 m3 m4 m5 m6
  have GP := ok_pot (P := l.prog) (w := w) (mg := mg) (base := base) F7 m6 m8
  have GT := ok_take (P := l.prog) (w := w) (mg := mg) (base := base) F8 m11
  have GN := ok_nm (P := l.prog) (w := w) (mg := mg) (base := base) F5 m2 m14 m6 m12 (PySem.W.mg_of X G aM)
  have GS := ok_st (P := l.prog) (w := w) (mg := mg) (base := base) F6 F4 b4 g4 GI F3 b3 g3 m2 m5 m6
  have GLN := ok_LN (P := l.prog) (w := w) (mg := mg) (base := base) F12 m2 m14 m6 m12
  have GLS := ok_LS (P := l.prog) (w := w) (mg := mg) (base := base) F13 F11 b11 g11 GF m2 m5 m6 m12
  have GX := ok_tx (P := l.prog) (w := w) (mg := mg) (base := base) F14 F8 b8 g8 m11 m10 m6
  have GE := ok_en (P := l.prog) (w := w) (mg := mg) (base := base) F15 F8 b8 g8 F9 b9 g9 F10 b10 g10 m11 m10 m1
  have GR := ok_pr (P := l.prog) (w := w) (mg := mg) (base := base) F16 F8 b8 g8 F15 b15 g15 GE m11
  have GB := ok_be (P := l.prog) (w := w) (mg := mg) (base := base) F17 F8 b8 g8 m11 m6 m13 m14
  exact ok_law F18 F7 b7 g7 GP F16 b16 g16 GR F14 b14 g14 GX F17 b17 g17 GB F8 b8 g8 GT F5 b5 g5 GN F6 b6 g6 GS F12 b12 g12 GLN F13 b13 g13 GLS m10 m8 m9 m6 m2 m4 m12
end G
set_option Elab.async false
set_option linter.all false
open PySem PySem.W PyProof.Rows
set_option maxRecDepth 100000 in
set_option maxHeartbeats 0 in
theorem PySem.Challenge.cw_stufflists_k13_names_and_stretches_judge_holds : PySem.Challenge.rw_stufflists_k13_names_and_stretches_judge.Holds := by
  w_on; o_law; k_head; (case hw => w_witness2)
  k_fill
  refine G.walk_ofG (l := PySem.Challenge.rw_stufflists_k13_names_and_stretches_judge) (n := 63) (k := 5) (x := "_law_script") (sp := fun w => G.spLaw _) rfl (by decide) rfl ⟨rfl, by decide, by decide⟩ (fun w h Y => PySem.W.kIn_of Y) ?F (fun _ _ a ns hl _ hS => ⟨a, ns, rfl, hS, hl, fun _ => rfl⟩)
  case F =>
    intro w mg fa h KX GN hmg
    refine' G.all_mk KX GN hmg ?a1 ?l1 ?c1 ?k1 ?a2 ?l2 ?c2 ?k2 ?a3 ?l3 ?c3 ?k3 ?a4 ?l4 ?c4 ?k4 ?a5 ?l5 ?c5 ?k5 ?a6 ?l6 ?c6 ?k6 ?a7 ?l7 ?c7 ?k7 ?a8 ?l8 ?c8 ?k8 ?a9 ?l9 ?c9 ?k9 ?a10 ?l10 ?c10 ?k10 ?a11 ?l11 ?c11 ?k11 ?a12 ?l12 ?c12 ?k12 ?a13 ?l13 ?c13 ?k13 ?a14 ?l14 ?c14 ?k14 ?a15 ?l15 ?c15 ?k15 ?a16 ?l16 ?c16 ?k16 ?a17 ?l17 ?c17 ?k17 ?a18 ?l18 ?c18 ?k18 ?z1 ?z2 ?z3 ?z4 ?z5 ?z6 ?z7 ?z8 ?z9 ?z10 ?z11 ?z12 ?z13 ?z14 ?aM
    (case a1 => first | k_is | rfl)
    (case l1 => first | k_is | rfl)
    (case c1 => first | k_is | rfl)
    (case k1 => first | k_is | rfl)
    (case a2 => first | k_is | rfl)
    (case l2 => first | k_is | rfl)
    (case c2 => first | k_is | rfl)
    (case k2 => first | k_is | rfl)
    (case a3 => first | k_is | rfl)
    (case l3 => first | k_is | rfl)
    (case c3 => first | k_is | rfl)
    (case k3 => first | k_is | rfl)
    (case a4 => first | k_is | rfl)
    (case l4 => first | k_is | rfl)
    (case c4 => first | k_is | rfl)
    (case k4 => first | k_is | rfl)
    (case a5 => first | k_is | rfl)
    (case l5 => first | k_is | rfl)
    (case c5 => first | k_is | rfl)
    (case k5 => first | k_is | rfl)
    (case a6 => first | k_is | rfl)
    (case l6 => first | k_is | rfl)
    (case c6 => first | k_is | rfl)
    (case k6 => first | k_is | rfl)
    (case a7 => first | k_is | rfl)
    (case l7 => first | k_is | rfl)
    (case c7 => first | k_is | rfl)
    (case k7 => first | k_is | rfl)
    (case a8 => first | k_is | rfl)
    (case l8 => first | k_is | rfl)
    (case c8 => first | k_is | rfl)
    (case k8 => first | k_is | rfl)
    (case a9 => first | k_is | rfl)
    (case l9 => first | k_is | rfl)
    (case c9 => first | k_is | rfl)
    (case k9 => first | k_is | rfl)
    (case a10 => first | k_is | rfl)
    (case l10 => first | k_is | rfl)
    (case c10 => first | k_is | rfl)
    (case k10 => first | k_is | rfl)
    (case a11 => first | k_is | rfl)
    (case l11 => first | k_is | rfl)
    (case c11 => first | k_is | rfl)
    (case k11 => first | k_is | rfl)
    (case a12 => first | k_is | rfl)
    (case l12 => first | k_is | rfl)
    (case c12 => first | k_is | rfl)
    (case k12 => first | k_is | rfl)
    (case a13 => first | k_is | rfl)
    (case l13 => first | k_is | rfl)
    (case c13 => first | k_is | rfl)
    (case k13 => first | k_is | rfl)
    (case a14 => first | k_is | rfl)
    (case l14 => first | k_is | rfl)
    (case c14 => first | k_is | rfl)
    (case k14 => first | k_is | rfl)
    (case a15 => first | k_is | rfl)
    (case l15 => first | k_is | rfl)
    (case c15 => first | k_is | rfl)
    (case k15 => first | k_is | rfl)
    (case a16 => first | k_is | rfl)
    (case l16 => first | k_is | rfl)
    (case c16 => first | k_is | rfl)
    (case k16 => first | k_is | rfl)
    (case a17 => first | k_is | rfl)
    (case l17 => first | k_is | rfl)
    (case c17 => first | k_is | rfl)
    (case k17 => first | k_is | rfl)
    (case a18 => first | k_is | rfl)
    (case l18 => first | k_is | rfl)
    (case c18 => first | k_is | rfl)
    (case k18 => first | k_is | rfl)
    (case z1 => first | k_is | rfl)
    (case z2 => first | k_is | rfl)
    (case z3 => first | k_is | rfl)
    (case z4 => first | k_is | rfl)
    (case z5 => first | k_is | rfl)
    (case z6 => first | k_is | rfl)
    (case z7 => first | k_is | rfl)
    (case z8 => first | k_is | rfl)
    (case z9 => first | k_is | rfl)
    (case z10 => first | k_is | rfl)
    (case z11 => first | k_is | rfl)
    (case z12 => first | k_is | rfl)
    (case z13 => first | k_is | rfl)
    (case z14 => first | k_is | rfl)
    (case aM => first | k_is | rfl)
