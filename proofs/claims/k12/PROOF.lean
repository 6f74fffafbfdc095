import PyProof.Rows.All
import Wide.All
import OpenK.AllK
import Wide.FinOn
import HandS.ForMost
import HandS.ForExc
import HandS.Wide
import HandS.WideBits
import HandS.IsInst
import HandS.ExcIs
import HandS.CallSlots
import HandS.Defaults
import HandS.StrMore
import HandS.Style
import HandS.Flow
import HandS.Walk
import HandS.Codes
import PySem.Challenge.RW_stufflists_k12_whole_sums_and_quotients
set_option Elab.async false
set_option linter.all false
set_option maxRecDepth 100000
namespace G
open PySem PySem.Spec PyProof.Rows L2
/-! ### numbers -/
def CDivG (_ j : Int) : Prop := j ≠ 0 ∧ j.natAbs.log2 < 9000
theorem op_fdivG {X : Cx} : OpR X (binaryOp .FloorDiv) (rI CDivG fun i j => .int (i.fdiv j)) := opI fun _ _ _ _ _ _ _ hc q => floordiv_int hc.1 q (.inl (PyProof.noPylong_of_log2 hc.2))
theorem CDivG.of {i j : Int} {b : Nat} (h : j ≠ 0) (hb : j.natAbs < 2 ^ b) (h0 : 0 < b) (h9 : b ≤ 9000) : CDivG i j := ⟨h, Nat.lt_of_lt_of_le (PySem.Flt.log2_lt_of h0 hb) h9⟩
def gc (a b : Int) : Nat := Nat.gcd a.natAbs b.natAbs
def ms (a b : Int) : Int := if b < 0 then -(gc a b : Int) else (gc a b : Int)
def low1 (a b : Int) : Int := a.fdiv (ms a b)
def low2 (a b : Int) : Int := b.fdiv (ms a b)
def isFr (a b : Int) : Bool := decide (0 < b) && decide (gc a b = 1)
theorem gc_pos {a b : Int} (h : b ≠ 0) : 0 < gc a b := Nat.gcd_pos_of_pos_right _ (by omega)
theorem ms_ne {a b : Int} (h : b ≠ 0) : ms a b ≠ 0 := by
  have := gc_pos (a := a) h
  unfold ms
  split <;> omega
theorem gc_dvd1 (a b : Int) : (gc a b : Int) ∣ a := Int.ofNat_dvd_left.mpr (Nat.gcd_dvd_left _ _)
theorem gc_dvd2 (a b : Int) : (gc a b : Int) ∣ b := Int.ofNat_dvd_left.mpr (Nat.gcd_dvd_right _ _)
theorem ms_dvd1 (a b : Int) : ms a b ∣ a := by
  unfold ms
  split
  · exact Int.neg_dvd.mpr (gc_dvd1 a b)
  · exact gc_dvd1 a b
theorem ms_dvd2 (a b : Int) : ms a b ∣ b := by
  unfold ms
  split
  · exact Int.neg_dvd.mpr (gc_dvd2 a b)
  · exact gc_dvd2 a b
theorem low1_mul (a b : Int) : ms a b * low1 a b = a := by
  unfold low1
  rw [Int.fdiv_eq_ediv_of_dvd (ms_dvd1 a b)]
  exact Int.mul_ediv_cancel' (ms_dvd1 a b)
theorem low2_mul (a b : Int) : ms a b * low2 a b = b := by
  unfold low2
  rw [Int.fdiv_eq_ediv_of_dvd (ms_dvd2 a b)]
  exact Int.mul_ediv_cancel' (ms_dvd2 a b)
theorem ms_natAbs (a b : Int) : (ms a b).natAbs = gc a b := by
  unfold ms
  split <;> omega
theorem low_cross (a b : Int) (h : b ≠ 0) : low1 a b * b = low2 a b * a := by
  have e1 := low1_mul a b
  have e2 := low2_mul a b
  have : low1 a b * (ms a b * low2 a b) = low2 a b * (ms a b * low1 a b) := by
    rw [← Int.mul_assoc, ← Int.mul_assoc, Int.mul_comm (low1 a b) (ms a b), Int.mul_comm (low2 a b) (ms a b), Int.mul_assoc, Int.mul_assoc, Int.mul_comm (low1 a b)]
  rw [e1, e2] at this
  exact this
theorem low2_pos {a b : Int} (h : b ≠ 0) : 0 < low2 a b := by
  have e2 := low2_mul a b
  have g := gc_pos (a := a) h
  by_cases hb : b < 0
  · have em : ms a b = -(gc a b : Int) := if_pos hb
    rw [em] at e2
    by_cases hz : 0 < low2 a b
    · exact hz
    · have h1 : 0 ≤ (gc a b : Int) * -(low2 a b) := Int.mul_nonneg (by omega) (by omega)
      rw [Int.mul_neg] at h1
      rw [Int.neg_mul] at e2
      omega
  · have em : ms a b = (gc a b : Int) := if_neg hb
    rw [em] at e2
    by_cases hz : 0 < low2 a b
    · exact hz
    · have h1 : 0 ≤ (gc a b : Int) * -(low2 a b) := Int.mul_nonneg (by omega) (by omega)
      rw [Int.mul_neg] at h1
      omega
theorem low1_abs (a b : Int) : gc a b * (low1 a b).natAbs = a.natAbs := by
  have e := congrArg Int.natAbs (low1_mul a b)
  rw [Int.natAbs_mul, ms_natAbs] at e
  exact e
theorem low2_abs (a b : Int) : gc a b * (low2 a b).natAbs = b.natAbs := by
  have e := congrArg Int.natAbs (low2_mul a b)
  rw [Int.natAbs_mul, ms_natAbs] at e
  exact e
theorem low_gc {a b : Int} (h : b ≠ 0) : gc (low1 a b) (low2 a b) = 1 := by
  have g := gc_pos (a := a) h
  have e1 := low1_abs a b
  have e2 := low2_abs a b
  have f1 : (low1 a b).natAbs = a.natAbs / gc a b := by
    rw [← e1, Nat.mul_div_cancel_left _ g]
  have f2 : (low2 a b).natAbs = b.natAbs / gc a b := by
    rw [← e2, Nat.mul_div_cancel_left _ g]
  show Nat.gcd (low1 a b).natAbs (low2 a b).natAbs = 1
  rw [f1, f2]
  exact Nat.gcd_div_gcd_div_gcd_of_pos_right (by omega)
theorem low1_le {a b : Int} (h : b ≠ 0) : (low1 a b).natAbs ≤ a.natAbs := by
  have g := gc_pos (a := a) h
  have e1 := low1_abs a b
  calc (low1 a b).natAbs ≤ gc a b * (low1 a b).natAbs := Nat.le_mul_of_pos_left _ g
    _ = a.natAbs := e1
theorem low2_le {a b : Int} (h : b ≠ 0) : (low2 a b).natAbs ≤ b.natAbs := by
  have g := gc_pos (a := a) h
  have e1 := low2_abs a b
  calc (low2 a b).natAbs ≤ gc a b * (low2 a b).natAbs := Nat.le_mul_of_pos_left _ g
    _ = b.natAbs := e1
theorem low_fr {a b : Int} (h : b ≠ 0) : isFr (low1 a b) (low2 a b) = true := by
  unfold isFr
  rw [decide_eq_true (low2_pos h), decide_eq_true (low_gc h)]
  rfl
/-- of a fraction the lowest terms are itself -/
theorem low_self {a b : Int} (hb : 0 < b) : (low1 a b = a ∧ low2 a b = b) ↔ gc a b = 1 := by
  have e1 := low1_mul a b
  have e2 := low2_mul a b
  have em : ms a b = (gc a b : Int) := if_neg (by omega)
  rw [em] at e1 e2
  constructor
  · rintro ⟨_, h2⟩
    rw [h2] at e2
    have : ((gc a b : Int) - 1) * b = 0 := by
      rw [Int.sub_mul, e2]
      omega
    rcases Int.mul_eq_zero.mp this with h | h
    · omega
    · omega
  · intro h
    rw [h] at e1 e2
    omega
theorem gc_step {x y : Int} (hx : 0 ≤ x) (hy : 0 < y) : gc y (x % y) = gc x y := by
  have h1 : (x % y).natAbs = x.natAbs % y.natAbs := Int.natAbs_emod_of_nonneg hx y
  unfold gc
  rw [h1, Nat.gcd_comm x.natAbs y.natAbs, Nat.gcd_rec y.natAbs x.natAbs, Nat.gcd_comm]
/-! ### heaps -/
theorem same_upd {H : Hp} {p : Addr} {o : HO} (h : H p = none) : Same H (upd H p o) := fun b x e => by
  rw [upd_ne (ne_of_none e h)]
  exact e
def Keep (p : Addr) (H H' : Hp) : Prop := ∀ b o, b ≠ p → H b = some o → H' b = some o
def Pot (H : Hp) (p : Addr) : Prop := ∃ a b : Int, H p = some (.lst [.int a, .int b]) ∧ 0 ≤ a ∧ 0 ≤ b ∧ b < 2147483647
theorem Keep.refl {p : Addr} {H : Hp} : Keep p H H := fun _ _ _ h => h
theorem Keep.trans {p : Addr} {H H1 H2 : Hp} (a : Keep p H H1) (b : Keep p H1 H2) : Keep p H H2 := fun c o n h => b c o n (a c o n h)
theorem same_keep {p : Addr} {H H1 : Hp} (a : Same H H1) : Keep p H H1 := fun c o _ h => a c o h
theorem Pot.same {p : Addr} {H H1 : Hp} (h : Pot H p) (a : Same H H1) : Pot H1 p := by
  obtain ⟨x, y, e, r⟩ := h
  exact ⟨x, y, a _ _ e, r⟩
theorem Pot.ne {p q : Addr} {H : Hp} (h : Pot H p) (n : H q = none) : p ≠ q := by
  obtain ⟨x, y, e, r⟩ := h
  exact ne_of_none e n
theorem keep_upd {p : Addr} {H : Hp} {o : HO} : Keep p H (upd H p o) := fun b x n e => by
  rw [upd_ne n]
  exact e
/-- a new thing behind draws is none that was -/
theorem Keep.free {p q : Addr} {H H' : Hp} (k : Keep p H H') (h : Pot H' p) (n : H' q = none) : H q = none := by
  cases e : H q with
  | none => rfl
  | some o =>
    by_cases z : q = p
    · subst z
      obtain ⟨_, _, f, _⟩ := h
      rw [f] at n
      cases n
    · rw [k q o z e] at n
      cases n
/-! ### things whose kind is known -/
inductive Kd (H : Hp) : V → Prop where
  | non : Kd H .non
  | bl (b : Bool) : Kd H (.bl b)
  | int (i : Int) : Kd H (.int i)
  | str (x : Str) : Kd H (.str x)
  | lst {a : Addr} {xs : List V} : H a = some (.lst xs) → Kd H (.ref a)
  | tup {a : Addr} {xs : List V} : H a = some (.tup xs) → (∀ x ∈ xs, Kd H x) → Kd H (.ref a)
  | dK {a : Addr} {kvs : List (Key × V)} : H a = some (.dK kvs) → Kd H (.ref a)
theorem Kd.same {H H' : Hp} {x : V} (k : Kd H x) (s : Same H H') : Kd H' x := by
  induction k with
  | non => exact .non
  | bl b => exact .bl b
  | int i => exact .int i
  | str x => exact .str x
  | lst e => exact .lst (s _ _ e)
  | tup e _ ih => exact .tup (s _ _ e) ih
  | dK e => exact .dK (s _ _ e)
def tyN (H : Hp) : V → String
  | .non => "NoneType"
  | .bl _ => "bool"
  | .int _ => "int"
  | .str _ => "str"
  | .ref a => match H a with
    | some (.lst _) => "list"
    | some (.tup _) => "tuple"
    | _ => "dict"
  | _ => "dict"
theorem tyN_lst {H : Hp} {a : Addr} {xs : List V} (e : H a = some (.lst xs)) : tyN H (.ref a) = "list" := by simp only [tyN, e]
theorem tyN_tup {H : Hp} {a : Addr} {xs : List V} (e : H a = some (.tup xs)) : tyN H (.ref a) = "tuple" := by simp only [tyN, e]
theorem tyN_dK {H : Hp} {a : Addr} {kvs : List (Key × V)} (e : H a = some (.dK kvs)) : tyN H (.ref a) = "dict" := by simp only [tyN, e]
theorem Kd.ty {K : PySem.W.Frag} {H : Hp} {x : V} (k : Kd H x) : TyX K H x (.type (tyN H x)) := by
  cases k with
  | non => exact .base .non
  | bl b => exact .base (.bl b)
  | int i => exact .base (.int i)
  | str z => exact .base (.str z)
  | lst e =>
    rw [tyN_lst e]
    exact .base (.lst e)
  | tup e _ =>
    rw [tyN_tup e]
    exact .base (.tup e)
  | dK e =>
    rw [tyN_dK e]
    exact .base (.dK e)
theorem Kd.tyN_mem {H : Hp} {x : V} (k : Kd H x) : tyN H x ∈ ["NoneType", "bool", "int", "str", "list", "tuple", "dict"] := by
  cases k with
  | non => exact .head _
  | bl b => exact .tail _ (.head _)
  | int i => exact .tail _ (.tail _ (.head _))
  | str z => exact .tail _ (.tail _ (.tail _ (.head _)))
  | lst e =>
    rw [tyN_lst e]
    decide
  | tup e _ =>
    rw [tyN_tup e]
    decide
  | dK e =>
    rw [tyN_dK e]
    decide
def sub (t n : String) : Bool := t == n || (t == "bool" && n == "int")
theorem kit7 {t n : String} (ht : t ∈ ["NoneType", "bool", "int", "str", "list", "tuple", "dict"]) (hn : n ∈ ["bool", "int", "str", "tuple", "list", "dict"]) : kitB t n = some (sub t n) := by
  simp only [List.mem_cons, List.not_mem_nil, or_false] at ht hn
  rcases ht with rfl | rfl | rfl | rfl | rfl | rfl | rfl <;> rcases hn with rfl | rfl | rfl | rfl | rfl | rfl <;> decide +kernel
/-- isinstance(x, n) of such a thing -/
theorem isi {K : PySem.W.Frag} {H : Hp} {x : V} {n : String} {Q : VK} (k : Kd H x) (hn : n ∈ ["bool", "int", "str", "tuple", "list", "dict"]) (q : Q (.bl (sub (tyN H x) n)) H) : rIsi K [x, .ty n] H Q :=
  ⟨x, .ty n, _, _, _, rfl, .ty n, k.ty, kit_ty (kit7 k.tyN_mem hn), q⟩
/-- whether it is a fraction -/
def frB (H : Hp) : V → Bool
  | .ref a => match H a with
    | some (.tup [.int i, .int j]) => isFr i j
    | _ => false
  | _ => false
end G
set_option Elab.async false
set_option linter.all false
set_option maxRecDepth 100000
set_option maxHeartbeats 1000000
/-! repr of data, where no repr is under way: a def's promise for such arounds alone, and a law's end by it -/
namespace G
open PySem PySem.Spec PyProof.Rows L2
theorem cr_repr {X : Cx} (hg : X.A.guards = some []) (hu : X.A.units + 64 < cLine) : CallR X (.builtin "repr") (fun xs H Q => ∃ (a : Addr) (d : PyData), xs = [.ref a] ∧ Dp X.K H (.ref a) d ∧ d.showable = true ∧ d.hasDict = false ∧ d.depth ≤ 50 ∧ d.shown.length ≤ sizeLine ∧ Q (.str d.shown) H) := by
  intro pins s σ H xs us Q I r h
  obtain ⟨a, d, rfl, hd, hs, hn, hdp, hz, q⟩ := h
  obtain ⟨u, rfl, ru⟩ := vals1 r
  cases ru
  obtain ⟨as, rd⟩ := Dp.reads I d (.ref a) (.ref a) hd rfl
  exact repr_of_reads' rd hs (fun z => by rw [hn] at z; cases z) hg (by omega) (fun _ _ e => e) (fun h' u tk hk => ⟨.str d.shown, H, I.kept (t' := tk) hk, ⟨u, rfl⟩, q⟩) hz
structure FnG (P : Program) (w : World) (K : PySem.W.Frag) (mg : Str → Option Value) (base : Heap) (k : Nat) (f : Addr) (fd : FuncData) (ps : List Str) (sp : Sp) : Prop where
  run : ∀ (A : Around) (outer : List Env) (s : Shared) (H : Hp) (args : Args) (us : List Value) (vs : List V) (Q : VK) (E : XK), A.guards = some [] → Room k A → Env0 P w K mg base A outer s H → BindsTo s fd args (ps.zip us) → Vals vs us → sp vs H Q E →
    codeAny (model P w) A (.call (.ref f) args) (CR CX0 outer P w H s Q E) s
theorem Fun.okG {P : Program} {w : World} {K : PySem.W.Frag} {mg : Str → Option Value} {base : Heap} {x qual : Str} {st : Stmt} {f : Addr} {fd : FuncData} {N ps : List Str} {k : Nat} {sp : Sp} (F : L2.Fun K x qual st f fd) (S : FnScope N ps (defScope st)) (len : ∀ vs H Q E, sp vs H Q E → vs.length = ps.length)
    (hbody : ∀ (cdv : Value) (A : Around) (outer : List Env) (s : Shared) (H : Hp) (vs : List V) (Q : VK) (E : XK), (A.deeper (envOfC qual (defScope st) s.heap.objs.size f cdv)).guards = some [] → Room k (A.deeper (envOfC qual (defScope st) s.heap.objs.size f cdv)) → sp vs H Q E →
      ∃ t, PSs (cxOf CX0 P w K mg base N qual (defScope st) f cdv A outer s H E).nox (defBody st) t ∧ t { nx := fun _ H' => Q .non H', rt := Q } (start N vs) H) : FnG P w K mg base (k + 1) f fd ps sp := by
  obtain ⟨c0, d0, k0, dc, pm, an, cdv, ct, sl, rfl, lk, hcd⟩ := F.ex
  refine ⟨fun A outer s H args us vs Q E gA hr e0 hb r hsp => ?_⟩
  have kin : K.In s.heap := e0.mod.kin.keeps fun b o e => (e0.bs b o e).1
  have lim : s.heap.NoLimit := e0.mod.nolimit.keeps fun b o e => (e0.bs b o e).1
  have kinds : ∀ y ∈ ps.zip us, (defScope st).names.lookup y.1 = some .local ∨ ((defScope st).names.lookup y.1 = some .cell ∧ ((cellsFrom (s.heap.objs.size + 1) (defScope st).names []).lookup y.1).isSome = true) := fun ⟨n, v⟩ hy =>
    (S.par n (List.of_mem_zip hy).1).elim .inl fun q => .inr ⟨q, PySem.W.cellsFrom_some _ _ _ (.inl q)⟩
  refine codeAny_call_function hr.depth (kin _ _ lk) rfl S.co S.gen rfl (PySem.W.codeRec_of kin hcd) (hb _ _ _ _ (wpAny_newFunctionEnv_cells S.kind kinds fun env he s1 x => ?_))
  subst he
  obtain ⟨t, ht, hq⟩ := hbody cdv A outer s H vs Q E gA (hr.deeper _) hsp
  have I : Inv (cxOf CX0 P w K mg base N qual (defScope st) f cdv A outer s H E) [] (start N vs) H s1 := inv_start S hr.hd e0 (len _ _ _ _ hsp) r x
  refine ⟨lim.keeps x.toInCall.keep, codeAny_func (wpAny_mono (ht.nox.run [] s1 (start N vs) H _ I hq) (fun fl s' hs => ?_) fun e s' hs => hs)⟩
  cases fl with
  | brk => exact hs.elim fun _ hs => hs.elim fun _ hs => hs.2.elim
  | cont => exact hs.elim fun _ hs => hs.elim fun _ hs => hs.2.elim
  | ret u =>
    obtain ⟨v, σ', H', J, rv, q⟩ := hs
    exact ⟨v, H', J.os, J.bare, J.base, J.hok, rv, q⟩
  | next =>
    obtain ⟨σ', H', J, q⟩ := hs
    exact ⟨.non, H', J.os, J.bare, J.base, J.hok, rfl, q⟩
theorem law_callG {P : Program} {w : World} {K : PySem.W.Frag} {mg mb : Str → Option Value} {k : Nat} {fa a : Addr} {fd : FuncData} {x : Str} {sp : Sp} {s₁ : Shared} {vs : List Value} {ns : List Int}
    (kin : K.In s₁.heap) (hns : s₁.heap.Ns mainGlobals mg) (hb : s₁.heap.Ns builtinsNs mb) (hbb : ∀ x : Str, x ≠ "__name__" → mb x = bootBuiltins x) (hlim : s₁.heap.NoLimit) (hg : s₁.gens = #[]) (ha : s₁.heap.get? a = some { cls := .type "list", data := .seq vs.toArray }) (hi : IntsAre vs ns) (hl : ns.length ≤ sizeLine) (hr : Room k callerA)
    (F : ∀ base : Heap, K.In base → base.Ns mainGlobals mg → FnG P w K mg base k fa fd [x] sp) (hbind : ∀ (s : Shared) (u : Value), BindsTo s fd ⟨[u], []⟩ [(x, u)]) (hsp : ∀ H : Hp, Only H → SqL K H a (ns.map V.int) → sp [.ref a] H (fun v _ => v = .bl true) fun _ _ _ => False) :
    codeAny (model P w) callerA (.call (.ref fa) ⟨[.ref a], []⟩) (fun r s' => r = .ok (.ret (.bool true)) ∧ OldK s₁.heap s'.heap ∧ s'.os = s₁.os ∧ AllBare s'.gens) s₁ := by
  have rv := vals_ints hi
  have lv := hi.length
  suffices core : ∀ H : Hp, Only H → SqL K H a (ns.map V.int) → HOk P w H s₁.heap → (∀ b, H b ≠ none → b = a) → (H a ≠ none → K.lookup a = none) → codeAny (model P w) callerA (.call (.ref fa) ⟨[.ref a], []⟩) (fun r s' => r = .ok (.ret (.bool true)) ∧ OldK s₁.heap s'.heap ∧ s'.os = s₁.os ∧ AllBare s'.gens) s₁ by
    cases hk : K.lookup a with
    | some o =>
      have e := kin a o hk
      rw [ha] at e
      cases e
      refine core (fun _ => none) (fun _ => .inl rfl) (.inr ⟨_, vs.toArray, _, hk, rfl, rfl, rfl, ?_, by simpa using rv⟩) (fun b u z => by cases (show (none : Option HO) = some u from z)) (fun b z => (z rfl).elim) fun z => (z rfl).elim
      rw [List.size_toArray, lv]
      exact hl
    | none =>
      have at1 : ∀ b, b = a → (if b = a then some (HO.frz { cls := .type "list", data := .seq vs.toArray } (.lst (ns.map V.int))) else none) = some (HO.frz { cls := .type "list", data := .seq vs.toArray } (.lst (ns.map V.int))) := fun b z => if_pos z
      have at0 : ∀ b, b ≠ a → (if b = a then some (HO.frz { cls := .type "list", data := .seq vs.toArray } (.lst (ns.map V.int))) else none) = none := fun b z => if_neg z
      refine core (fun b => if b = a then some (.frz { cls := .type "list", data := .seq vs.toArray } (.lst (ns.map V.int))) else none) (fun b => ?_) (.inl (.inr ⟨_, at1 a rfl⟩)) (fun b u z => ?_) (fun b z => ?_) fun _ => hk
      · by_cases q : b = a
        · exact .inr ⟨_, _, at1 b q⟩
        · exact .inl (at0 b q)
      · by_cases q : b = a
        · cases (at1 b q).symm.trans z
          subst q
          exact ⟨ha, by rw [List.length_map]; exact hl, vs, _, rv, ha⟩
        · cases (at0 b q).symm.trans z
      · by_cases q : b = a
        · exact q
        · exact absurd (at0 b q) z
  intro H hO hS hok hA hK
  have below : ∀ {b : Addr} {o : Obj}, s₁.heap.get? b = some o → H b = none → (hidT s₁.heap H).get? b = some o := fun e n => hidT_get e n
  have isA : ∀ {b : Addr} {u : HO}, H b = some u → b = a := fun {b u} q => hA b (by rw [q]; simp)
  have dicts : ∀ {b : Addr} {o : Obj} {es : Array DictEntry} {ep : Nat}, s₁.heap.get? b = some o → o.data = .dict es ep → H b = none := fun {b o es ep} e d => by
    cases q : H b with
    | none => rfl
    | some u =>
      have z := isA q
      subst z
      rw [ha] at e
      cases e
      cases (show Data.seq vs.toArray _ = Data.dict es ep from d)
  have spaces : ∀ {b : Addr} {m : Str → Option Value}, s₁.heap.Ns b m → (hidT s₁.heap H).Ns b m := fun {b m} ⟨o, es, ep, e, d, r⟩ => ⟨o, es, ep, below e (dicts e d), d, r⟩
  have kinB : K.In (hidT s₁.heap H) := fun b o e => below (kin b o e) (by
    cases q : H b with
    | none => rfl
    | some u =>
      have z := isA q
      subst z
      rw [hK (by rw [q]; simp)] at e
      cases e)
  have md : Mod K mg (hidT s₁.heap H) := ⟨kinB, spaces hns, ⟨mb, spaces hb, hbb⟩, let ⟨mc, h1, h2⟩ := hlim; ⟨mc, spaces h1, h2⟩⟩
  have ev : Env0 P w K mg (hidT s₁.heap H) callerA [] s₁ H := ⟨rfl, md, fun b o e => of_hidT e, Nat.le_of_eq (hidT_size _ _), trivial, fun b hb => (by cases (show b ∈ ([] : List Addr) from hb)), hok, .of_eq hg⟩
  refine codeAny_mono ((F _ kinB (spaces hns)).run callerA [] s₁ H ⟨[.ref a], []⟩ [.ref a] [.ref a] _ _ rfl hr ev (hbind s₁ (.ref a)) (.cons rfl .nil) (hsp H hO hS)) fun r s' h => ?_
  cases r with
  | error e => exact h.elim
  | ok fl =>
    cases fl with
    | ret u =>
      obtain ⟨v, H', os, bare, un, hok', r', q⟩ := h
      cases (show v = .bl true from q)
      cases (show u = Value.bool true from r')
      refine ⟨rfl, OldK.of_keep fun b o e => ?_, os, bare⟩
      rcases hO b with z | ⟨ob, xs, z⟩
      · exact un.keep b o e z (fun y => by cases (show b ∈ ([] : List Addr) from y)) (by simp)
      · obtain ⟨e1, _⟩ := hok b _ z
        obtain ⟨e2, _⟩ := hok' b _ (un.frzs b ob _ z)
        rw [e] at e1
        cases e1
        exact e2
    | _ => exact h.elim
theorem walk_ofG {l : PySem.W.OpenLaw} {n k : Nat} {q : Program} {loose : List Str} {XP : (Str → Option Value) → Heap → Prop} {YP : World → Heap → Prop} {d : DefRec} {K : Params → PySem.W.Frag} {sp : World → Sp} {x : Str} (hn : l.most = some n) (hn2 : n ≤ sizeLine) (hdf : d.params.defaults = []) (hr : Room k callerA) (hY : ∀ (w : World) (h : Heap), YP w h → (K w.params).In h)
    (F : ∀ (w : World) (mg : Str → Option Value) (fa : Addr) (h : Heap), (K w.params).In h → h.Ns mainGlobals mg → mg d.name = some (.ref fa) → ∃ fd : FuncData, (∀ (s : Shared) (u : Value), BindsTo s fd ⟨[u], []⟩ [(x, u)]) ∧ ∀ base : Heap, (K w.params).In base → base.Ns mainGlobals mg → FnG l.prog w (K w.params) mg base k fa fd [x] (sp w))
    (hsp : ∀ (w : World) (H : Hp) (a : Addr) (ns : List Int), ns.length ≤ n → Only H → SqL (K w.params) H a (ns.map V.int) → sp w [.ref a] H (fun v _ => v = .bl true) fun _ _ _ => False) : PySem.W.WalkO q loose XP YP l.row.toRowW d [] (fun f vs => PySem.call f vs) := by
  refine Att.attach_call hn hdf fun w s₀ s₁ mg mb fa o pm cd doc a vs ns G Y ho hd hcd hmg hobj hints hlen hg => ?_
  have kin := hY w _ Y
  obtain ⟨fd, hb, hF⟩ := F w mg fa _ kin G.T.g hmg
  exact law_callG kin G.T.g G.T.b G.T.builtins G.T.nolimit hg hobj hints (Nat.le_trans hlen hn2) hr hF hb fun H hO hS => hsp w H a ns hlen hO hS
end G
set_option Elab.async false
set_option linter.all false
set_option maxRecDepth 100000
set_option maxHeartbeats 1000000
namespace G
open PySem PySem.Spec PyProof.Rows L2 TL
theorem ifF {b : Bool} {A B : Prop} (hb : b = false) (h : B) : if b = true then A else B := by
  subst hb
  exact iteF h
theorem ifT {b : Bool} {A B : Prop} (hb : b = true) (h : A) : if b = true then A else B := by
  subst hb
  exact iteT h
theorem same_keep_new {H H1 H2 : Hp} {p : Addr} (s : Same H H1) (n : H p = none) (k : Keep p H1 H2) : Same H H2 := fun b o e => k b o (ne_of_none e n) (s b o e)
def topS (i : Nat) : Stmt := PySem.Challenge.pw_stufflists_k12_whole_sums_and_quotients.main.body.getD i (.Pass ⟨0, 0, 0, 0⟩)
section
variable {P : Program} {w : World} {K : PySem.W.Frag} {mg : Str → Option Value} {base : Heap}
abbrev sMeas : Stmt := topS 4
theorem scMeas : FnScope ["one", "other"] ["one", "other"] (defScope sMeas) := ⟨rfl, rfl, rfl, by decide +kernel, rfl, by decide +kernel, by decide +kernel⟩
def spMeas : Sp := fun vs H Q _ => ∃ a b : Int, vs = [.int a, .int b] ∧ 0 ≤ a ∧ 0 ≤ b ∧ Q (.int (gc a b)) H
theorem ok_meas {f : Addr} {fd : FuncData} (F : Fun K "common_measure" "common_measure" sMeas f fd) : FnOk P w K mg base CX0 1 f fd ["one", "other"] spMeas := by
  refine F.ok scMeas (fun vs H Q E h => ?_) (fun cdv A outer s H vs Q E hr h => ?_)
  · obtain ⟨a, b, rfl, _⟩ := h
    rfl
  · obtain ⟨a, b, rfl, ha, hb, q⟩ := h
    refine ⟨_, pss_cons (ps_while PassesOwn.never (pt_cmpR op_gt (pv 1) pe_int (nomark _))
        (pss_one (ps_par (i := 0) (j := 1) (by rfl) scMeas.nd rfl rfl (by decide) rfl rfl (pa_cons (pv 1) (pa_cons (pe_op op_mod (pv 0) (pv 1)) pa_nil)) (by rfl))))
      (pss_one (ps_ret (pv 0))), ?_⟩
    refine ⟨fun m σ H' => ∃ x y : Int, σ = [some (.int x), some (.int y)] ∧ 0 ≤ x ∧ 0 ≤ y ∧ gc x y = gc a b ∧ m = y.toNat ∧ H' = H, ⟨_, a, b, rfl, ha, hb, rfl, rfl, rfl⟩, ?_⟩
    rintro m σ H' ⟨x, y, rfl, hx, hy, hg, rfl, rfl⟩
    refine ⟨_, rfl, y, 0, rfl, rfl, _, rfl, ite2 (fun e => ?_) (fun e => ?_)⟩
    · have e0 : 0 < y := of_decide_eq_true e
      refine ⟨fun σ' H2 => ∃ x' y' : Int, σ' = [some (.int x'), some (.int y')] ∧ 0 ≤ x' ∧ 0 ≤ y' ∧ gc x' y' = gc a b ∧ y' < y ∧ H2 = H', fun σ' H2 hN => ?_, ?_⟩
      · obtain ⟨x', y', h1, h2, h3, h4, h5, h6⟩ := hN
        exact ⟨_, by omega, x', y', h1, h2, h3, h4, rfl, h6⟩
      · refine ⟨_, rfl, _, rfl, _, rfl, x, y, rfl, rfl, e0, _, _, rfl, y, x % y, rfl, hy, Int.emod_nonneg _ (by omega), (gc_step hx e0).trans hg, Int.emod_lt_of_pos _ e0, rfl⟩
    · have e0 : ¬ 0 < y := fun z => e (decide_eq_true z)
      have e1 : y = 0 := by omega
      subst e1
      refine ⟨_, rfl, ?_⟩
      have : (x : Int) = (gc a b : Int) := by
        rw [← hg]
        unfold gc
        rw [Int.natAbs_zero, Nat.gcd_zero_right]
        omega
      rw [this]
      exact q
/-! ### fraction, where the bottom is not 0 -/
abbrev sFrac : Stmt := topS 5
theorem scFrac : FnScope ["top", "bottom", "measure"] ["top", "bottom"] (defScope sFrac) := ⟨rfl, rfl, rfl, by decide +kernel, rfl, by decide +kernel, by decide +kernel⟩
theorem abs_nn (a : Int) : 0 ≤ (if a < 0 then -a else a) := by split <;> omega
theorem gc_abs (a b : Int) : gc (if a < 0 then -a else a) (if b < 0 then -b else b) = gc a b := by
  unfold gc
  have h : ∀ x : Int, (if x < 0 then -x else x).natAbs = x.natAbs := fun x => by split <;> omega
  rw [h, h]
theorem gc_lt {a b : Int} {n : Nat} (h : b ≠ 0) (hb : b.natAbs < n) : gc a b < n := Nat.lt_of_le_of_lt (Nat.le_of_dvd (by omega) (Nat.gcd_dvd_right _ _)) hb
def spFrac : Sp := fun vs H Q _ => ∃ a b : Int, vs = [.int a, .int b] ∧ b ≠ 0 ∧ b.natAbs < 2 ^ 8000 ∧ ∀ p, H p = none → Q (.ref p) (upd H p (.tup [.int (low1 a b), .int (low2 a b)]))
theorem ok_frac {f fM : Addr} {fd fdM : FuncData} (F : Fun K "fraction" "fraction" sFrac f fd) (FM : Fun K "common_measure" "common_measure" sMeas fM fdM) (bM : Binds K fdM ["one", "other"] []) (gM : mg "common_measure" = some (.ref fM)) (mA : mg "abs" = none) :
    FnOk P w K mg base CX0 2 f fd ["top", "bottom"] spFrac := by
  have GM : FnOk P w K mg base CX0 1 fM fdM ["one", "other"] spMeas := ok_meas FM
  refine F.ok scFrac (fun vs H Q E h => ?_) (fun cdv A outer s H vs Q E hr h => ?_)
  · obtain ⟨a, b, rfl, _⟩ := h
    rfl
  · obtain ⟨a, b, rfl, hb, hz, q⟩ := h
    refine ⟨_, pss_cons (ps_if (pt_cmpR op_eq (pv 1) pe_int (nomark _)) (pss_one ps_never) pss_nil)
      (pss_cons (ps_set (i := 2) scFrac.nd rfl (.inl rfl) (pe_call GM hr (by rfl) gM FM.kp bM .nil pass0 (pa_cons (pe_callB call_abs (by rfl) mA (by decide +kernel) (pa_cons (pv 0) pa_nil)) (pa_cons (pe_callB call_abs (by rfl) mA (by decide +kernel) (pa_cons (pv 1) pa_nil)) pa_nil))))
      (pss_cons (ps_if (pt_cmpR op_lt (pv 1) pe_int (nomark _)) (pss_one (ps_set (i := 2) scFrac.nd rfl (.inl rfl) (pe_un un_neg (pv 2)))) pss_nil)
      (pss_one (ps_ret (pe_tup (pa_cons (pe_op op_fdivG (pv 0) (pv 2)) (pa_cons (pe_op op_fdivG (pv 1) (pv 2)) pa_nil))))))), ?_⟩
    refine ⟨_, rfl, rfl, _, rfl, ite2 (fun e => ?_) (fun _ => ?_)⟩
    · exact absurd (V.int.inj (of_decide_eq_true e)) hb
    refine ⟨_, rfl, a, rfl, _, rfl, b, rfl, _, _, rfl, abs_nn a, abs_nn b, ?_⟩
    rw [gc_abs]
    have fin : ∀ m : Int, m = ms a b → (tRet (tTup (tCons (tOp (rI CDivG fun i j => .int (i.fdiv j)) (tVar 0) (tVar 2)) (tCons (tOp (rI CDivG fun i j => .int (i.fdiv j)) (tVar 1) (tVar 2)) tNil)))) { nx := fun _ H' => Q .non H', rt := Q } [some (.int a), some (.int b), some (.int m)] H := by
      rintro m rfl
      have hd : ∀ i, CDivG i (ms a b) := fun i => CDivG.of (b := 8000) (ms_ne hb) (by rw [ms_natAbs]; exact gc_lt hb hz) (by decide) (by decide)
      exact ⟨_, rfl, _, rfl, a, _, rfl, rfl, hd a, _, rfl, _, rfl, b, _, rfl, rfl, hd b, by show 2 ≤ sizeLine; decide, fun p np => q p np⟩
    refine ⟨_, rfl, b, 0, rfl, rfl, _, rfl, ite2 (fun e => ?_) (fun e => ?_)⟩
    · have e0 : b < 0 := of_decide_eq_true e
      refine ⟨_, rfl, _, rfl, ?_⟩
      exact fin _ (if_pos e0).symm
    · have e0 : ¬ b < 0 := fun z => e (decide_eq_true z)
      exact fin _ (if_neg e0).symm
def isW : V → Bool
  | .int _ => true
  | _ => false
end
theorem Kd.cases_tup {H : Hp} {x : V} (k : Kd H x) : (∃ t, (∀ K, TyX K H x (.type t)) ∧ kitB t "tuple" = some false ∧ frB H x = false) ∨ (∃ a xs, x = .ref a ∧ H a = some (.tup xs) ∧ ∀ y ∈ xs, Kd H y) := by
  cases k with
  | non => exact .inl ⟨_, fun K => .base .non, by decide +kernel, rfl⟩
  | bl b => exact .inl ⟨_, fun K => .base (.bl b), by decide +kernel, rfl⟩
  | int i => exact .inl ⟨_, fun K => .base (.int i), by decide +kernel, rfl⟩
  | str z => exact .inl ⟨_, fun K => .base (.str z), by decide +kernel, rfl⟩
  | lst e => exact .inl ⟨_, fun K => .base (.lst e), by decide +kernel, by simp only [frB, e]⟩
  | dK e => exact .inl ⟨_, fun K => .base (.dK e), by decide +kernel, by simp only [frB, e]⟩
  | tup e h => exact .inr ⟨_, _, rfl, e, h⟩
theorem two_of {xs : List V} (h : xs.length = 2) : ∃ u v, xs = [u, v] := by
  match xs, h with
  | [u, v], _ => exact ⟨u, v, rfl⟩
theorem frB_len {H : Hp} {a : Addr} {xs : List V} (e : H a = some (.tup xs)) (h : xs.length ≠ 2) : frB H (.ref a) = false := by
  simp only [frB, e]
  split
  · rename_i z
    injection z with z
    injection z with z
    subst z
    exact absurd rfl h
  · rfl
theorem frB_ints {H : Hp} {a : Addr} {i j : Int} (e : H a = some (.tup [.int i, .int j])) : frB H (.ref a) = isFr i j := by simp only [frB, e]
theorem frB_no {H : Hp} {a : Addr} {u v : V} (e : H a = some (.tup [u, v])) (h : isW u = false ∨ isW v = false) : frB H (.ref a) = false := by
  simp only [frB, e]
  split
  · rename_i z
    injection z with z
    injection z with z
    injection z with z1 z2
    injection z2 with z2 z3
    subst z1 z2
    rcases h with h | h <;> cases h
  · rfl
theorem isW_int {u : V} (h : isW u = true) : ∃ i, u = .int i := by
  cases u with
  | int i => exact ⟨i, rfl⟩
  | _ => cases h
theorem ten7 : ((10 : Int) ^ (7 : Int).toNat) = 10000000 := by decide +kernel
theorem ten18 : ((10 : Int) ^ (18 : Int).toNat) = 1000000000000000000 := by decide +kernel
theorem ten20 : ((10 : Int) ^ (20 : Int).toNat) = 100000000000000000000 := by decide +kernel
section
variable {P : Program} {w : World} {K : PySem.W.Frag} {mg : Str → Option Value} {base : Heap}
/-! ### _law_pot -/
abbrev sPot : Stmt := topS 12
theorem scPot : FnScope ["_law_script", "_law_k", "_law_cell"] ["_law_script", "_law_k"] (defScope sPot) := ⟨rfl, rfl, rfl, by decide +kernel, rfl, by decide +kernel, by decide +kernel⟩
def spPot (K : PySem.W.Frag) : Sp := fun vs H Q _ => ∃ (a : Addr) (ns : List Int) (k : Nat), vs = [.ref a, .int k] ∧ SqL K H a (ns.map V.int) ∧ k < 64 ∧ ∀ H' p, Same H H' → H p = none → Pot H' p → Q (.ref p) H'
theorem pot_mk {H : Hp} {p : Addr} (np : H p = none) (c k : Int) : Pot (upd H p (.lst [.int (if c - 10 ^ (18 : Int).toNat > 0 then c - 10 ^ (18 : Int).toNat else 0), .int ((c % 2147483629 * 48271 + 7919 * k + 11) % 2147483647)])) p := by
  refine ⟨_, _, upd_same, ?_, Int.emod_nonneg _ (by decide), Int.emod_lt_of_pos _ (by decide)⟩
  split <;> omega
theorem ok_pot {f : Addr} {fd : FuncData} (F : Fun K "_law_pot" "_law_pot" sPot f fd) (mL : mg "len" = none) (mM : mg "max" = none) : FnOk P w K mg base CX0 1 f fd ["_law_script", "_law_k"] (spPot K) := by
  refine F.ok scPot (fun vs H Q E h => ?_) (fun cdv A outer s H vs Q E hr h => ?_)
  · obtain ⟨a, ns, k, rfl, _⟩ := h
    rfl
  · obtain ⟨a, ns, k, rfl, hS, hk, q⟩ := h
    refine ⟨_, pss_cons (ps_set (i := 2) scPot.nd rfl (.inl rfl) pe_int)
      (pss_cons (ps_if (pt_cmpR op_lt (pv 1) (pe_callB call_len_seq (by rfl) mL PySem.boot_len (pa_cons (pv 0) pa_nil)) (nomark _))
        (pss_one (ps_set (i := 2) scPot.nd rfl (.inl rfl) (pe_ix ix_list (pv 0) (pv 1) (fun _ _ => rfl)))) pss_nil)
      (pss_one (ps_ret (pe_lst (pa_cons (pe_callB (call_max2 rfl) (by rfl) mM (by decide +kernel) (pa_cons pe_int (pa_cons (pe_op op_sub (pv 2) (pe_op op_pow pe_int pe_int)) pa_nil)))
        (pa_cons (pe_op op_mod (pe_op op_add (pe_op op_add (pe_op op_mul (pe_op op_mod (pv 2) pe_int) pe_int) (pe_op op_mul pe_int (pv 1))) pe_int) pe_int) pa_nil)))))), ?_⟩
    have fin : ∀ c : Int, (tRet (tLst (tCons (tCB (fun xs H Q => ∃ i j, xs = [.int i, .int j] ∧ Q (.int (if j > i then j else i)) H) (tCons (tC (.int 0)) (tCons (tOp (rI0 fun i j => .int (i - j)) (tVar 2) (tOp (rI CPow fun i j => .int (i ^ j.toNat)) (tC (.int 10)) (tC (.int 18)))) tNil)))
        (tCons (tOp (rI (fun _ j => 0 < j) fun i j => .int (i % j)) (tOp (rI0 fun i j => .int (i + j)) (tOp (rI0 fun i j => .int (i + j)) (tOp (rI CMul fun i j => .int (i * j)) (tOp (rI (fun _ j => 0 < j) fun i j => .int (i % j)) (tVar 2) (tC (.int 2147483629))) (tC (.int 48271))) (tOp (rI CMul fun i j => .int (i * j)) (tC (.int 7919)) (tVar 1))) (tC (.int 11))) (tC (.int 2147483647))) tNil)))) { nx := fun _ H' => Q .non H', rt := Q } [some (.ref a), some (.int k), some (.int c)] H := by
      intro c
      refine ⟨_, rfl, 10, 18, rfl, rfl, ⟨by decide, by decide, by decide⟩, c, _, rfl, rfl, 0, _, rfl, ?_⟩
      refine ⟨_, rfl, c, 2147483629, rfl, rfl, (show (0 : Int) < 2147483629 by decide), _, 48271, rfl, rfl, .inr ⟨by decide, by decide⟩, _, rfl, 7919, k, rfl, rfl, .inl ⟨by decide, by decide⟩, _, _, rfl, rfl, _, 11, rfl, rfl, _, 2147483647, rfl, rfl, (show (0 : Int) < 2147483647 by decide), ?_⟩
      refine ⟨by show 2 ≤ sizeLine; decide, fun p np => q _ p (same_upd np) np ?_⟩
      exact pot_mk np c k
    refine ⟨_, rfl, .ref a, rfl, a, _, rfl, .inl hS, _, _, rfl, rfl, _, rfl, ite2 (fun e => ?_) (fun e => ?_)⟩
    · have e0 : (k : Int) < ((ns.map V.int).length : Nat) := of_decide_eq_true e
      rw [List.length_map] at e0
      have e1 : k < ns.length := by omega
      have g : (ns.map V.int)[k]? = some (.int ns[k]) := by
        rw [List.getElem?_map, List.getElem?_eq_getElem e1]
        rfl
      refine ⟨.ref a, rfl, _, rfl, a, _, _, _, rfl, rfl, hS, atI_nat g, ?_⟩
      exact fin _
    · exact fin _
/-! ### _law_take -/
abbrev sTake : Stmt := topS 13
theorem scTake : FnScope ["_law_pot_here", "_law_many", "_law_digit"] ["_law_pot_here", "_law_many"] (defScope sTake) := ⟨rfl, rfl, rfl, by decide +kernel, rfl, by decide +kernel, by decide +kernel⟩
def spTake : Sp := fun vs H Q _ => ∃ (p : Addr) (m : Int), vs = [.ref p, .int m] ∧ Pot H p ∧ 0 < m ∧ m < 1073741824 ∧ ∀ H' d, Keep p H H' → Pot H' p → 0 ≤ d → d < m → Q (.int d) H'
theorem keep_new {p t : Addr} {H : Hp} {o u : HO} (n : H t = none) : Keep p H (upd (upd H t o) p u) := fun b x nb e => by
  rw [upd_ne nb, upd_ne (ne_of_none e n)]
  exact e
theorem ok_take {f : Addr} {fd : FuncData} (F : Fun K "_law_take" "_law_take" sTake f fd) (mD : mg "divmod" = none) : FnOk P w K mg base CX0 1 f fd ["_law_pot_here", "_law_many"] spTake := by
  refine F.ok scTake (fun vs H Q E h => ?_) (fun cdv A outer s H vs Q E hr h => ?_)
  · obtain ⟨p, m, rfl, _⟩ := h
    rfl
  · obtain ⟨p, m, rfl, ⟨a, b, ep, ha, hb, hb2⟩, hm, hm2, q⟩ := h
    refine ⟨_, pss_cons (ps_if (pt_cmpR op_gt (pe_ix ix_list (pv 0) pe_int (fun _ _ => rfl)) pe_int (nomark _))
        (pss_cons (ps_asg (pe_callB call_divmod (by rfl) mD (by decide +kernel) (pa_cons (pe_ix ix_list (pv 0) pe_int (fun _ _ => rfl)) (pa_cons (pv 1) pa_nil)))
            (pg_tup (by rfl) (pgs_cons (pg_sub (pv 0) pe_int set_list) (pgs_cons (pg_name (i := 2) scTake.nd rfl (.inl rfl)) pgs_nil))))
          (pss_one (ps_ret (pv 2)))) pss_nil)
      (pss_cons (ps_asg (pe_op op_mod (pe_op op_add (pe_op op_mul (pe_ix ix_list (pv 0) pe_int (fun _ _ => rfl)) pe_int) pe_int) pe_int) (pg_sub (pv 0) pe_int set_list))
      (pss_one (ps_ret (pe_op op_mod (pe_op op_fdiv (pe_op op_mod (pe_op op_mul (pe_ix ix_list (pv 0) pe_int (fun _ _ => rfl)) (pe_ix ix_list (pv 0) pe_int (fun _ _ => rfl))) pe_int) pe_int) (pv 1))))), ?_⟩
    refine ⟨.ref p, rfl, p, _, 0, .int a, rfl, rfl, SqL.of ep, atI_nat (j := 0) rfl, a, 0, rfl, rfl, _, rfl, ite2 (fun e => ?_) (fun e => ?_)⟩
    · refine ⟨.ref p, rfl, p, _, 0, .int a, rfl, rfl, SqL.of ep, atI_nat (j := 0) rfl, _, rfl, a, m, rfl, ⟨hm, hm2⟩, fun t nt => ?_⟩
      have npt : p ≠ t := ne_of_none ep nt
      refine ⟨t, _, rfl, SqT.of upd_same, rfl, _, _, rfl, ?_⟩
      refine ⟨.ref p, rfl, p, [.int a, .int b], 0, 0, rfl, rfl, (upd_ne npt).trans ep, rfl, ?_⟩
      refine ⟨_, _, rfl, rfl, _, rfl, ?_⟩
      refine q _ _ (keep_new nt) ⟨a / m, b, upd_same, Int.ediv_nonneg ha (by omega), hb, hb2⟩ (Int.emod_nonneg _ (by omega)) (Int.emod_lt_of_pos _ hm)
    · refine ⟨.ref p, rfl, p, _, 1, .int b, rfl, rfl, SqL.of ep, atI_nat (j := 1) rfl, b, 39373, rfl, rfl, .inr ⟨by decide, by decide⟩, _, 7919, rfl, rfl, _, 2147483629, rfl, rfl, (show (0 : Int) < 2147483629 by decide), ?_⟩
      refine ⟨.ref p, rfl, p, _, 1, 1, rfl, rfl, ep, rfl, ?_⟩
      have h1 : 0 ≤ (b * 39373 + 7919) % 2147483629 := Int.emod_nonneg _ (by decide)
      have h2 : (b * 39373 + 7919) % 2147483629 < 2147483629 := Int.emod_lt_of_pos _ (by decide)
      refine ⟨.ref p, rfl, p, _, 1, _, rfl, rfl, SqL.of upd_same, atI_nat (j := 1) rfl, .ref p, rfl, p, _, 1, _, rfl, rfl, SqL.of upd_same, atI_nat (j := 1) rfl, (b * 39373 + 7919) % 2147483629, (b * 39373 + 7919) % 2147483629, rfl, rfl, .inl ⟨by omega, by omega⟩, _, 2147483563, rfl, rfl, (show (0 : Int) < 2147483563 by decide), _, 11, rfl, rfl, ⟨by decide, by decide⟩, _, rfl, _, m, rfl, rfl, hm, ?_⟩
      exact q _ _ keep_upd ⟨a, (b * 39373 + 7919) % 2147483629, upd_same, ha, h1, by omega⟩ (Int.emod_nonneg _ (by omega)) (Int.emod_lt_of_pos _ hm)
/-! ### _law_below -/
abbrev sBelow : Stmt := topS 14
theorem scBelow : FnScope ["_law_pot_here", "_law_many", "_law_found", "_law_k"] ["_law_pot_here", "_law_many"] (defScope sBelow) := ⟨rfl, rfl, rfl, by decide +kernel, rfl, by decide +kernel, by decide +kernel⟩
def spBelow : Sp := fun vs H Q _ => ∃ (p : Addr) (m : Int), vs = [.ref p, .int m] ∧ Pot H p ∧ 0 < m ∧ ∀ H' d, Keep p H H' → Pot H' p → 0 ≤ d → d < m → Q (.int d) H'
theorem ok_below {f fT : Addr} {fd fdT : FuncData} (F : Fun K "_law_below" "_law_below" sBelow f fd) (FT : Fun K "_law_take" "_law_take" sTake fT fdT) (bT : Binds K fdT ["_law_pot_here", "_law_many"] []) (gT : mg "_law_take" = some (.ref fT)) (mD : mg "divmod" = none) (mR : mg "range" = none) :
    FnOk P w K mg base CX0 2 f fd ["_law_pot_here", "_law_many"] spBelow := by
  have GT : FnOk P w K mg base CX0 1 fT fdT ["_law_pot_here", "_law_many"] spTake := ok_take FT mD
  refine F.ok scBelow (fun vs H Q E h => ?_) (fun cdv A outer s H vs Q E hr h => ?_)
  · obtain ⟨p, m, rfl, _⟩ := h
    rfl
  · obtain ⟨p, m, rfl, hp, hm, q⟩ := h
    refine ⟨_, pss_cons (ps_set (i := 2) scBelow.nd rfl (.inl rfl) pe_int)
      (pss_cons (ps_for PassesOwn.never rfl (pi_range1 (by rfl) mR (pa_cons pe_int pa_nil)) (pg_name (i := 3) scBelow.nd rfl (.inl rfl))
        (pss_one (ps_set (i := 2) scBelow.nd rfl (.inl rfl) (pe_op op_add (pe_op op_mul (pv 2) (pe_op op_pow pe_int pe_int)) (pe_call GT hr (by rfl) gT FT.kp bT .nil pass0 (pa_cons (pv 0) (pa_cons (pe_op op_pow pe_int pe_int) pa_nil)))))))
      (pss_one (ps_ret (pe_op op_mod (pv 2) (pv 1))))), ?_⟩
    refine ⟨3, rfl, by decide, by decide, for_range (n := 3) (fun i σ H' => ∃ (g : Int) (y : Option V), σ = [some (.ref p), some (.int m), some (.int g), y] ∧ Keep p H H' ∧ Pot H' p) ⟨0, none, rfl, .refl, hp⟩ ?_ ?_⟩
    · rintro i σ H' hi ⟨g, y, rfl, kp, hp'⟩
      refine ⟨_, rfl, 10, 7, rfl, rfl, ⟨by decide, by decide, by decide⟩, g, _, rfl, rfl, .inr ⟨by rw [ten7]; decide, by rw [ten7]; decide⟩, _, rfl, 10, 7, rfl, rfl, ⟨by decide, by decide, by decide⟩, ?_⟩
      refine ⟨p, _, rfl, hp', by rw [ten7]; decide, by rw [ten7]; decide, fun H2 d k2 p2 _ _ => ?_⟩
      exact ⟨_, _, rfl, rfl, _, _, rfl, kp.trans k2, p2⟩
    · rintro σ H' ⟨g, y, rfl, kp, hp'⟩
      exact ⟨_, rfl, _, rfl, g, m, rfl, rfl, hm, q _ _ kp hp' (Int.emod_nonneg _ (by omega)) (Int.emod_lt_of_pos _ hm)⟩
end
section
variable {P : Program} {w : World} {K : PySem.W.Frag} {mg : Str → Option Value} {base : Heap}
/-! ### _law_lowest -/
abbrev sLow : Stmt := topS 15
theorem scLow : FnScope ["_law_top", "_law_bottom", "_law_first", "_law_second"] ["_law_top", "_law_bottom"] (defScope sLow) := ⟨rfl, rfl, rfl, by decide +kernel, rfl, by decide +kernel, by decide +kernel⟩
theorem ok_low {f : Addr} {fd : FuncData} (F : Fun K "_law_lowest" "_law_lowest" sLow f fd) (mA : mg "abs" = none) : FnOk P w K mg base CX0 1 f fd ["_law_top", "_law_bottom"] spFrac := by
  refine F.ok scLow (fun vs H Q E h => ?_) (fun cdv A outer s H vs Q E hr h => ?_)
  · obtain ⟨a, b, rfl, _⟩ := h
    rfl
  · obtain ⟨a, b, rfl, hb, hz, q⟩ := h
    refine ⟨_, pss_cons (ps_par (i := 2) (j := 3) (by rfl) scLow.nd rfl rfl (by decide) rfl rfl (pa_cons (pe_callB call_abs (by rfl) mA (by decide +kernel) (pa_cons (pv 0) pa_nil)) (pa_cons (pe_callB call_abs (by rfl) mA (by decide +kernel) (pa_cons (pv 1) pa_nil)) pa_nil)) (by rfl))
      (pss_cons (ps_while PassesOwn.never (pt_cmpR op_gt (pv 3) pe_int (nomark _))
        (pss_one (ps_par (i := 2) (j := 3) (by rfl) scLow.nd rfl rfl (by decide) rfl rfl (pa_cons (pv 3) (pa_cons (pe_op op_mod (pv 2) (pv 3)) pa_nil)) (by rfl))))
      (pss_cons (ps_if (pt_cmpR op_lt (pv 1) pe_int (nomark _)) (pss_one (ps_set (i := 2) scLow.nd rfl (.inl rfl) (pe_un un_neg (pv 2)))) pss_nil)
      (pss_one (ps_ret (pe_tup (pa_cons (pe_op op_fdivG (pv 0) (pv 2)) (pa_cons (pe_op op_fdivG (pv 1) (pv 2)) pa_nil))))))), ?_⟩
    refine ⟨_, rfl, a, rfl, _, rfl, b, rfl, _, _, rfl, ?_⟩
    refine ⟨fun m σ H' => ∃ x y : Int, σ = [some (.int a), some (.int b), some (.int x), some (.int y)] ∧ 0 ≤ x ∧ 0 ≤ y ∧ gc x y = gc a b ∧ m = y.toNat ∧ H' = H, ⟨_, _, _, rfl, abs_nn a, abs_nn b, gc_abs a b, rfl, rfl⟩, ?_⟩
    rintro m σ H' ⟨x, y, rfl, hx, hy, hg, rfl, rfl⟩
    refine ⟨_, rfl, y, 0, rfl, rfl, _, rfl, ite2 (fun e => ?_) (fun e => ?_)⟩
    · have e0 : 0 < y := of_decide_eq_true e
      refine ⟨fun σ' H2 => ∃ x' y' : Int, σ' = [some (.int a), some (.int b), some (.int x'), some (.int y')] ∧ 0 ≤ x' ∧ 0 ≤ y' ∧ gc x' y' = gc a b ∧ y' < y ∧ H2 = H', fun σ' H2 hN => ?_, ?_⟩
      · obtain ⟨x', y', h1, h2, h3, h4, h5, h6⟩ := hN
        exact ⟨_, by omega, x', y', h1, h2, h3, h4, rfl, h6⟩
      · refine ⟨_, rfl, _, rfl, _, rfl, x, y, rfl, rfl, e0, _, _, rfl, y, x % y, rfl, hy, Int.emod_nonneg _ (by omega), (gc_step hx e0).trans hg, Int.emod_lt_of_pos _ e0, rfl⟩
    · have e0 : ¬ 0 < y := fun z => e (decide_eq_true z)
      have e1 : y = 0 := by omega
      subst e1
      have hxe : x = (gc a b : Int) := by
        rw [← hg]
        unfold gc
        rw [Int.natAbs_zero, Nat.gcd_zero_right]
        omega
      subst hxe
      have fin : ∀ m : Int, m = ms a b → (tRet (tTup (tCons (tOp (rI CDivG fun i j => .int (i.fdiv j)) (tVar 0) (tVar 2)) (tCons (tOp (rI CDivG fun i j => .int (i.fdiv j)) (tVar 1) (tVar 2)) tNil)))) { nx := fun _ H' => Q .non H', rt := Q } [some (.int a), some (.int b), some (.int m), some (.int 0)] H' := by
        rintro m rfl
        have hd : ∀ i, CDivG i (ms a b) := fun i => CDivG.of (b := 8000) (ms_ne hb) (by rw [ms_natAbs]; exact gc_lt hb hz) (by decide) (by decide)
        exact ⟨_, rfl, _, rfl, a, _, rfl, rfl, hd a, _, rfl, _, rfl, b, _, rfl, rfl, hd b, by show 2 ≤ sizeLine; decide, fun p np => q p np⟩
      refine ⟨_, rfl, b, 0, rfl, rfl, _, rfl, ite2 (fun e => ?_) (fun e => ?_)⟩
      · have e0 : b < 0 := of_decide_eq_true e
        refine ⟨_, rfl, _, rfl, ?_⟩
        exact fin _ (if_pos e0).symm
      · have e0 : ¬ b < 0 := fun z => e (decide_eq_true z)
        exact fin _ (if_neg e0).symm
end
/-! ### _law_is_fraction -/
theorem eqv_two (a b c d : Int) : PyData.eqv (.tuple [.int a, .int b]) (.tuple [.int c, .int d]) = (a == c && b == d) := by
  simp [PyData.eqv, PyData.eqvAll]
theorem isFr_low {i j : Int} (hj : 0 < j) : (low1 i j == i && low2 i j == j) = isFr i j := by
  unfold isFr
  rw [decide_eq_true hj, Bool.true_and]
  by_cases h : gc i j = 1
  · obtain ⟨h1, h2⟩ := (low_self hj).mpr h
    rw [h1, h2, decide_eq_true h, beq_self_eq_true, beq_self_eq_true]
    rfl
  · rw [decide_eq_false h]
    refine Bool.eq_false_iff.mpr fun z => h ((low_self hj).mp ?_)
    rw [Bool.and_eq_true] at z
    exact ⟨eq_of_beq z.1, eq_of_beq z.2⟩
theorem same_app {H H' H2 : Hp} {D : Addr} {o : HO} (s : Same H H') (n : H D = none) (h : Same H' H2) : Same H (upd H2 D o) := fun b u e => by
  rw [upd_ne (ne_of_none e n)]
  exact h b u (s b u e)
def Bd (H : Hp) (x : V) : Prop := ∀ a i j, x = .ref a → H a = some (.tup [.int i, .int j]) → j.natAbs < 2 ^ 8000
theorem frB_same {H H' : Hp} {a : Addr} {xs : List V} (e : H a = some (.tup xs)) (s : Same H H') : frB H' (.ref a) = frB H (.ref a) := by
  simp only [frB, e, s _ _ e]
section
variable {P : Program} {w : World} {K : PySem.W.Frag} {mg : Str → Option Value} {base : Heap}
abbrev sLF : Stmt := topS 16
abbrev nLF : List Str := ["_law_thing", "_law_number"]
theorem scLF : FnScope nLF ["_law_thing"] (defScope sLF) := ⟨rfl, rfl, rfl, by decide +kernel, rfl, by decide +kernel, by decide +kernel⟩
def spLF : Sp := fun vs H Q _ => ∃ x : V, vs = [x] ∧ Kd H x ∧ Bd H x ∧ ∀ H', Same H H' → Q (.bl (frB H x)) H'
theorem ok_LF {f fL : Addr} {fd fdL : FuncData} (F : Fun K "_law_is_fraction" "_law_is_fraction" sLF f fd) (FL : Fun K "_law_lowest" "_law_lowest" sLow fL fdL) (bL : Binds K fdL ["_law_top", "_law_bottom"] []) (gL : mg "_law_lowest" = some (.ref fL))
    (mA : mg "abs" = none) (mI : mg "isinstance" = none) (mInt : mg "int" = none) (mB : mg "bool" = none) (mT : mg "tuple" = none) (mL : mg "len" = none) (mAny : mg "any" = none) :
    FnOk P w K mg base CX0 2 f fd ["_law_thing"] spLF := by
  have GL : FnOk P w K mg base CX0 1 fL fdL ["_law_top", "_law_bottom"] spFrac := ok_low FL mA
  refine F.ok scLF (fun vs H Q E h => ?_) (fun cdv A outer s H vs Q E hr h => ?_)
  · obtain ⟨x, rfl, _⟩ := h
    rfl
  · obtain ⟨x, rfl, k, hbd, q⟩ := h
    refine ⟨_, pss_cons (ps_if (PW.pt (pw_or (pt_not (pt_val (pe_callB call_isi (by rfl) mI (by decide +kernel) (pa_cons (pv 0) (pa_cons (pe_bltn (v := .ty "tuple") (by rfl) mT (by decide +kernel) rfl) pa_nil)))))
          (pw_or1 (pt_cmpR op_ne (pe_callB call_len_seq (by rfl) mL PySem.boot_len (pa_cons (pv 0) pa_nil)) pe_int (nomark _))))) (pss_one (ps_ret pe_bl)) pss_nil)
      (pss_cons (ps_if (pt_val (pe_callB (cr_any rfl) (by rfl) mAny (by decide +kernel) (pa_cons (pe_lc (own := [("_law_number", 1)]) (g := gName 1) (tt := tYes) (te := tOrV (tCB (rIsi K) (tCons (tVar 1) (tCons (tC (.ty "bool")) tNil))) (tNotV (tCB (rIsi K) (tCons (tVar 1) (tCons (tC (.ty "int")) tNil))))) (by rfl) scLF.nd (pi_tup (pv 0)) (blkOk_by (own := [("_law_number", 1)]) (N := nLF) (sc := defScope sLF) (by decide +kernel))
            (fun _ _ _ _ _ => pg_name (i := 1) scLF.nd rfl (.inl rfl)) (fun _ _ _ _ _ => pts_nil)
            (fun _ _ _ _ _ => pe_or (pe_callB call_isi (by rfl) mI (by decide +kernel) (pa_cons (pv 1) (pa_cons (pe_bltn (v := .ty "bool") (by rfl) mB (by decide +kernel) rfl) pa_nil)))
              (pe_one (pe_not (pe_callB call_isi (by rfl) mI (by decide +kernel) (pa_cons (pv 1) (pa_cons (pe_bltn (v := .ty "int") (by rfl) mInt (by decide +kernel) rfl) pa_nil))))))) pa_nil))) (pss_one (ps_ret pe_bl)) pss_nil)
      (pss_one (ps_ret (pe_and (pe_cmpR op_gt (pe_ix ix_tup (pv 0) pe_int (fun _ _ => rfl)) pe_int (nomark _))
        (pe_one (pe_cmpR (op_eqD hr.units) (pe_call GL hr (by rfl) gL FL.kp bL .nil pass0 (pa_cons (pe_ix ix_tup (pv 0) pe_int (fun _ _ => rfl)) (pa_cons (pe_ix ix_tup (pv 0) pe_int (fun _ _ => rfl)) pa_nil))) (pv 0) (nomark _))))))), ?_⟩
    rcases k.cases_tup with ⟨t, ty, kt, ef⟩ | ⟨a, xs, rfl, e, hk⟩
    · have q := q _ (.refl _)
      rw [ef] at q
      exact ⟨x, rfl, x, .ty "tuple", _, _, _, rfl, .ty _, ty K, kit_ty kt, _, rfl, iteT (iteT q)⟩
    · refine ⟨.ref a, rfl, _, .ty "tuple", _, _, _, rfl, .ty _, .base (.tup e), kit_ty (b := "tuple") (r := true) (by decide +kernel), _, rfl, iteF ?_⟩
      refine ⟨.ref a, rfl, a, xs, rfl, .inr (SqT.of e), rfl, _, rfl, ?_⟩
      by_cases hl : xs.length = 2
      · obtain ⟨u, v, rfl⟩ := two_of hl
        refine iteF ?_
        refine ⟨.ref a, rfl, a, rfl, ⟨_, SqT.of e⟩, fun D nD => ?_⟩
        refine lc_tup (K := K) (a := a) (xs := [u, v]) (fun i H' => Same H H' ∧ H' D = some (.lst (([u, v].take i).map fun x => .bl (!isW x)))) ⟨same_upd nD, upd_same⟩ (fun i H' _ hP => SqT.of (hP.1 _ _ e)) ?_ ?_
        · rintro i y H' hy ⟨sm, eD⟩
          have ky : Kd H' y := (hk y (List.mem_of_getElem? hy)).same sm
          refine ⟨rfl, ?_⟩
          have tk : ([u, v].take (i + 1)).map (fun x => V.bl (!isW x)) = ([u, v].take i).map (fun x => V.bl (!isW x)) ++ [.bl (!isW y)] := by
            rw [List.take_add_one, hy, List.map_append]
            rfl
          have sz : (([u, v].take i).map (fun x => V.bl (!isW x))).length < sizeLine := Nat.lt_of_le_of_lt (by rw [List.length_map, List.length_take]; exact Nat.min_le_right _ _) (show 2 < sizeLine by decide)
          refine ⟨y, rfl, y, .ty "bool", _, _, _, rfl, .ty _, ky.ty, kit_ty (kit7 ky.tyN_mem (by decide)), _, rfl, ite2 (fun z => ?_) (fun z => ?_)⟩
          · refine ⟨_, eD, sz, same_app sm nD (Same.refl _), ?_⟩
            have ew : isW y = false := by
              cases ky with
              | int i => cases z
              | _ => rfl
            rw [upd_same, tk, ew]
            rfl
          · refine ⟨y, rfl, y, .ty "int", _, _, _, rfl, .ty _, ky.ty, kit_ty (kit7 ky.tyN_mem (by decide)), _, rfl, _, eD, sz, same_app sm nD (Same.refl _), ?_⟩
            have ew : sub (tyN H' y) "int" = isW y := by
              cases ky with
              | bl b => exact absurd rfl z
              | lst h => rw [tyN_lst h]; rfl
              | tup h _ => rw [tyN_tup h]; rfl
              | dK h => rw [tyN_dK h]; rfl
              | _ => rfl
            rw [upd_same, tk, ew]
        · rintro H' ⟨sm, eD⟩
          refine ⟨D, [!isW u, !isW v], rfl, SqL.of eD, _, rfl, ?_⟩
          cases wu : isW u with
          | false =>
            have q := q H' sm
            rw [frB_no e (.inl wu)] at q
            exact iteT q
          | true =>
            cases wv : isW v with
            | false =>
              have q := q H' sm
              rw [frB_no e (.inr wv)] at q
              exact iteT q
            | true =>
              refine iteF ?_
              obtain ⟨i, rfl⟩ := isW_int wu
              obtain ⟨j, rfl⟩ := isW_int wv
              have e' := sm _ _ e
              refine ⟨.ref a, rfl, a, _, 1, .int j, rfl, rfl, SqT.of e', atI_nat (j := 1) rfl, j, 0, rfl, rfl, _, rfl, ite2 (fun z => ?_) (fun z => ?_)⟩
              · have z0 : 0 < j := of_decide_eq_true z
                refine ⟨.ref a, rfl, a, _, 0, .int i, rfl, rfl, SqT.of e', atI_nat (j := 0) rfl, .ref a, rfl, a, _, 1, .int j, rfl, rfl, SqT.of e', atI_nat (j := 1) rfl, i, j, rfl, by omega, hbd a i j rfl e, fun p np => ?_⟩
                have s2 := same_upd (o := .tup [.int (low1 i j), .int (low2 i j)]) np
                refine ⟨.ref a, rfl, _, _, .tup (SqT.of upd_same) (.cons (.int _) (.cons (.int _) .nil)), .tup (SqT.of (s2 _ _ e')) (.cons (.int _) (.cons (.int _) .nil)), rfl, rfl, ?_⟩
                rw [eqv_two, isFr_low z0, ← frB_ints e]
                exact q _ (sm.trans s2)
              · have z0 : ¬ 0 < j := fun y => z (decide_eq_true y)
                have : isFr i j = false := by
                  unfold isFr
                  rw [decide_eq_false z0]
                  rfl
                have q := q H' sm
                rw [frB_ints e, this] at q
                exact q
      · have q := q _ (.refl _)
        rw [frB_len e hl] at q
        have : (!decide (V.int (xs.length : Int) = V.int 2)) = true := by
          rw [decide_eq_false (fun y => hl (by have := V.int.inj y; omega))]
          rfl
        rw [this]
        exact iteT q
end
/-! ### calls with keywords alone -/
def tCallN0 (m : Nat) (sp : Sp) (gV : List V → List V → List V) (E : XK) (tk : TA) : TE := fun σ H Q => tk σ H fun zs H2 => zs.length = m ∧ sp (gV [] zs) H2 Q E
theorem pe_callN0 {X : Cx} {CX : CXT} {k : Nat} {f : Addr} {fd : FuncData} {ps ks : List Str} {sp : Sp} {E : XK} {x : Str} {p pos : Pos} {kws : List Keyword} {tk : TA} {g : List Value → List Value → List Value} {gV : List V → List V → List V}
    (F : FnOk X.prog X.w X.K X.mg X.base CX k f fd ps sp) (hr : Room k X.A) (hg : Gl X x) (hm : X.mg x = some (.ref f)) (hk : PySem.W.keepIn X.K (.ref f) = true) (hb : KBn X.K fd ps 0 ks g gV) (hx : Passes CX X E) (hkw : PK X kws tk)
    (hall : (backToKw pos (keywordEach kws X.env)).all (·.1.isSome) = true := by rfl) (hks : (backToKw pos (keywordEach kws X.env)).filterMap (·.1) = ks := by rfl) (hdb : (x == ("__debug__" : Str)) = false := by decide)
    (hpl : ((backTo pos (starEach [] X.env)).any (·.1) || (backToKw pos (keywordEach kws X.env)).any (·.1.isNone)) = false := by rfl) : PE X (.Call (.Name x p) [] kws pos) (tCallN0 ks.length sp gV E tk) :=
  ⟨fun pins s σ H Q I h => wpAny_Call_Name_kw (ld_glob I hg hm (PySem.W.callWith_KW0 (first := []) (h₀ := X.base) I.ok.mod.kin hk hall (thn (hkw.run pos pins s σ H _ I h) fun ws s2 ⟨zs, H2, I2, rz, l2, q2⟩ => ⟨I2.kIn, by
    rw [hks]; exact run_fnN F hr hb hx I2 .nil rz rfl l2 q2⟩) hpl) hdb)⟩
/-- a block whose reading says what it leans on -/
theorem pss_given {X : Cx} {b : List Stmt} {t : TS} {p : Prop} (h : p → PSs X b t) : PSs X b (fun D σ H => p ∧ t D σ H) := ⟨fun pins s σ H D I hq => (h hq.1).run pins s σ H D I hq.2⟩
/-- two values by their names, in the other order -/
def swp {α : Type} : List α → List α → List α := fun _ ws => ws.reverse
theorem swp_rel {vs : List V} {us : List Value} {zs : List V} {ws : List Value} (_ : Vals vs us) (h : Vals zs ws) : Vals (swp vs zs) (swp us ws) := by
  show Vals zs.reverse ws.reverse
  induction h with
  | nil => exact .nil
  | cons r t ih =>
    rw [List.reverse_cons, List.reverse_cons]
    exact Vals.append ih (.cons r .nil)
def one1 {α : Type} : List α → List α → List α := fun _ ws => ws
theorem one1_rel {vs : List V} {us : List Value} {zs : List V} {ws : List Value} (_ : Vals vs us) (h : Vals zs ws) : Vals (one1 vs zs) (one1 us ws) := h
section
variable {P : Program} {w : World} {K : PySem.W.Frag} {mg : Str → Option Value} {base : Heap}
theorem pot_upd {H : Hp} {p t : Addr} {o : HO} (h : Pot H p) (n : H t = none) : Pot (upd H t o) p := h.same (same_upd n)
theorem three {d : Int} (h0 : 0 ≤ d) (h3 : d < 3) : d = 0 ∨ d = 1 ∨ d = 2 := by omega
theorem kd_two {H : Hp} {a : Addr} {i j : Int} (e : H a = some (.tup [.int i, .int j])) : Kd H (.ref a) := .tup e fun x hx => by
  rcases List.mem_cons.mp hx with rfl | hx
  · exact .int i
  · rcases List.mem_cons.mp hx with rfl | hx
    · exact .int j
    · cases hx
theorem bd_two {H : Hp} {a : Addr} {i j : Int} (e : H a = some (.tup [.int i, .int j])) (h : j.natAbs < 2 ^ 8000) : Bd H (.ref a) := fun a' i' j' ea e' => by
  cases ea
  rw [e] at e'
  injection e' with e'
  injection e' with e'
  injection e' with _ e'
  injection e' with e' _
  injection e' with e'
  rw [← e']
  exact h
/-! ### fraction by 0 -/
structure ExT (K : PySem.W.Frag) (mg : Str → Option Value) (C S : Addr) : Prop where
  xP : PySem.W.excIn K C [.type "ValueError", .type "Exception", .type "BaseException", .type "object"] "ValueError.__new__" = true
  gP : mg "NoFraction" = some (.ref C)
  kP : PySem.W.keepIn K (.ref C) = true
  bP : PySem.W.subIn K (.ref C) (.type "BaseException") = some true
  tP : PySem.W.typeIn K (.ref C) = some (.type "type")
  te : PySem.W.exmOne K (.ref C) (.ref C) = some true
  ec : ExcC K C
  gS : mg "StuffError" = some (.ref S)
  k1 : PySem.W.kitOne K (.ref C) (.ref S) = some true
  k2 : PySem.W.kitOne K (.ref C) (.type "ValueError") = some true
def spFracX (C : Addr) : Sp := fun vs H _ E => ∃ a : Int, vs = [.int a, .int 0] ∧ E (.ref C) none H
theorem ok_fracX {f C S : Addr} {fd : FuncData} (F : Fun K "fraction" "fraction" sFrac f fd) (T : ExT K mg C S) : FnOk P w K mg base (L2.CX P w) 2 f fd ["top", "bottom"] (spFracX C) := by
  refine F.okX scFrac (fun vs H Q E h => ?_) (fun cdv A outer s H vs Q E hr h => ?_)
  · obtain ⟨a, rfl, _⟩ := h
    rfl
  · obtain ⟨a, rfl, q⟩ := h
    refine ⟨_, pss_cons (ps_if (pt_cmpR op_eq (pv 1) pe_int (nomark _)) (pss_one (ps_raise rfl (takes_of rfl rfl rfl rfl) (pmk_own PySem.F.excBase_ValueError T.xP T.gP T.kP (raises_own T.bP T.tP) rfl))) pss_nil) pss_never, ?_⟩
    refine ⟨_, rfl, rfl, _, rfl, ite2 (fun _ => q) (fun e => absurd (decide_eq_true rfl) e)⟩
end
end G
set_option Elab.async false
set_option linter.all false
set_option maxRecDepth 100000
set_option maxHeartbeats 1000000
namespace G
open PySem PySem.Spec PyProof.Rows L2 TL
abbrev big : Nat := 100000000000000000000
/-! ### sizes, by powers of two -/
def Sz (n : Nat) (i : Int) : Prop := i.natAbs < 2 ^ n
theorem Sz.mul {a b : Nat} {i j : Int} (h : Sz a i) (g : Sz b j) : Sz (a + b) (i * j) := wide_lt h g
theorem Sz.mono {a b : Nat} {i : Int} (h : Sz a i) (g : a ≤ b) : Sz b i := Nat.lt_of_lt_of_le h (Nat.pow_le_pow_right (by decide) g)
theorem Sz.add {a : Nat} {i j : Int} (h : Sz a i) (g : Sz a j) : Sz (a + 1) (i + j) := by
  unfold Sz at *
  rw [Nat.pow_succ]
  omega
theorem Sz.sub {a : Nat} {i j : Int} (h : Sz a i) (g : Sz a j) : Sz (a + 1) (i - j) := by
  unfold Sz at *
  rw [Nat.pow_succ]
  omega
theorem Sz.cm {a b : Nat} {i j : Int} (h : Sz a i) (g : Sz b j) (h0 : 0 < a) (h1 : 0 < b) (hs : a + b ≤ 1000000) : CMulW i j := wide_mul h g h0 h1 hs
theorem Sz.of_le {a : Nat} {i : Int} {m : Nat} (h : i.natAbs ≤ m) (g : m < 2 ^ a) : Sz a i := Nat.lt_of_le_of_lt h g
theorem big67 : big < 2 ^ 67 := by decide
/-- two parts of a fraction -/
structure Fr (n : Nat) (i j : Int) : Prop where
  a : Sz n i
  b : Sz n j
  p : 0 < j
theorem Fr.low {n : Nat} {i j : Int} (h1 : Sz n i) (h2 : Sz n j) (h0 : j ≠ 0) : Fr n (low1 i j) (low2 i j) := ⟨Nat.lt_of_le_of_lt (low1_le h0) h1, Nat.lt_of_le_of_lt (low2_le h0) h2, low2_pos h0⟩
theorem mul_ne {a b : Int} (h : 0 < a) (g : 0 < b) : a * b ≠ 0 := by
  have := Int.mul_pos h g
  omega
section
variable {P : Program} {w : World} {K : PySem.W.Frag} {mg : Str → Option Value} {base : Heap}
abbrev Two (H : Hp) (a : Addr) (i j : Int) : Prop := H a = some (.tup [.int i, .int j])
abbrev px (i : Nat) : Nat := i
/-! ### plus, minus, times -/
abbrev sPlus : Stmt := topS 6
abbrev sMinus : Stmt := topS 7
abbrev sTimes : Stmt := topS 8
abbrev sOver : Stmt := topS 9
abbrev sLess : Stmt := topS 10
theorem scPlus : FnScope ["one", "other"] ["one", "other"] (defScope sPlus) := ⟨rfl, rfl, rfl, by decide +kernel, rfl, by decide +kernel, by decide +kernel⟩
theorem scMinus : FnScope ["one", "other"] ["one", "other"] (defScope sMinus) := ⟨rfl, rfl, rfl, by decide +kernel, rfl, by decide +kernel, by decide +kernel⟩
theorem scTimes : FnScope ["one", "other"] ["one", "other"] (defScope sTimes) := ⟨rfl, rfl, rfl, by decide +kernel, rfl, by decide +kernel, by decide +kernel⟩
theorem scOver : FnScope ["one", "other"] ["one", "other"] (defScope sOver) := ⟨rfl, rfl, rfl, by decide +kernel, rfl, by decide +kernel, by decide +kernel⟩
theorem scLess : FnScope ["one", "other"] ["one", "other"] (defScope sLess) := ⟨rfl, rfl, rfl, by decide +kernel, rfl, by decide +kernel, by decide +kernel⟩
/-- by two fractions a new one of up and down -/
def spOp (up down : Int → Int → Int → Int → Int) (ok : Int → Prop) : Sp := fun vs H Q _ => ∃ (a b : Addr) (i j k l : Int), vs = [.ref a, .ref b] ∧ Two H a i j ∧ Two H b k l ∧ Fr 1000 i j ∧ Fr 1000 k l ∧ ok k ∧ ∀ p, H p = none → Q (.ref p) (upd H p (.tup [.int (low1 (up i j k l) (down i j k l)), .int (low2 (up i j k l) (down i j k l))]))
theorem ok_plus {f fR : Addr} {fd fdR : FuncData} (F : Fun K "plus" "plus" sPlus f fd) (FR : Fun K "fraction" "fraction" sFrac fR fdR) (bR : Binds K fdR ["top", "bottom"] []) (gR : mg "fraction" = some (.ref fR)) (GR : FnOk P w K mg base CX0 2 fR fdR ["top", "bottom"] spFrac) :
    FnOk P w K mg base CX0 3 f fd ["one", "other"] (spOp (fun i j k l => i * l + k * j) (fun _ j _ l => j * l) fun _ => True) := by
  refine F.ok scPlus (fun vs H Q E h => ?_) (fun cdv A outer s H vs Q E hr h => ?_)
  · obtain ⟨a, b, i, j, k, l, rfl, _⟩ := h
    rfl
  · obtain ⟨a, b, i, j, k, l, rfl, ea, eb, f1, f2, _, q⟩ := h
    refine ⟨_, pss_one (ps_ret (pe_call GR hr (by rfl) gR FR.kp bR .nil pass0 (pa_cons (pe_op op_add (pe_op op_mulW (pe_ix ix_tup (pv 0) pe_int (fun _ _ => rfl)) (pe_ix ix_tup (pv 1) pe_int (fun _ _ => rfl))) (pe_op op_mulW (pe_ix ix_tup (pv 1) pe_int (fun _ _ => rfl)) (pe_ix ix_tup (pv 0) pe_int (fun _ _ => rfl))))
      (pa_cons (pe_op op_mulW (pe_ix ix_tup (pv 0) pe_int (fun _ _ => rfl)) (pe_ix ix_tup (pv 1) pe_int (fun _ _ => rfl))) pa_nil)))), ?_⟩
    refine ⟨.ref a, rfl, a, _, 0, _, rfl, rfl, SqT.of ea, atI_nat (j := 0) rfl, .ref b, rfl, b, _, 1, _, rfl, rfl, SqT.of eb, atI_nat (j := 1) rfl, i, l, rfl, rfl, f1.a.cm f2.b (by decide) (by decide) (by decide), ?_⟩
    refine ⟨.ref b, rfl, b, _, 0, _, rfl, rfl, SqT.of eb, atI_nat (j := 0) rfl, .ref a, rfl, a, _, 1, _, rfl, rfl, SqT.of ea, atI_nat (j := 1) rfl, k, j, rfl, rfl, f2.a.cm f1.b (by decide) (by decide) (by decide), _, _, rfl, rfl, ?_⟩
    refine ⟨.ref a, rfl, a, _, 1, _, rfl, rfl, SqT.of ea, atI_nat (j := 1) rfl, .ref b, rfl, b, _, 1, _, rfl, rfl, SqT.of eb, atI_nat (j := 1) rfl, j, l, rfl, rfl, f1.b.cm f2.b (by decide) (by decide) (by decide), ?_⟩
    exact ⟨_, _, rfl, mul_ne f1.p f2.p, (f1.b.mul f2.b).mono (by decide), q⟩
theorem ok_minus {f fR : Addr} {fd fdR : FuncData} (F : Fun K "minus" "minus" sMinus f fd) (FR : Fun K "fraction" "fraction" sFrac fR fdR) (bR : Binds K fdR ["top", "bottom"] []) (gR : mg "fraction" = some (.ref fR)) (GR : FnOk P w K mg base CX0 2 fR fdR ["top", "bottom"] spFrac) :
    FnOk P w K mg base CX0 3 f fd ["one", "other"] (spOp (fun i j k l => i * l - k * j) (fun _ j _ l => j * l) fun _ => True) := by
  refine F.ok scMinus (fun vs H Q E h => ?_) (fun cdv A outer s H vs Q E hr h => ?_)
  · obtain ⟨a, b, i, j, k, l, rfl, _⟩ := h
    rfl
  · obtain ⟨a, b, i, j, k, l, rfl, ea, eb, f1, f2, _, q⟩ := h
    refine ⟨_, pss_one (ps_ret (pe_call GR hr (by rfl) gR FR.kp bR .nil pass0 (pa_cons (pe_op op_sub (pe_op op_mulW (pe_ix ix_tup (pv 0) pe_int (fun _ _ => rfl)) (pe_ix ix_tup (pv 1) pe_int (fun _ _ => rfl))) (pe_op op_mulW (pe_ix ix_tup (pv 1) pe_int (fun _ _ => rfl)) (pe_ix ix_tup (pv 0) pe_int (fun _ _ => rfl))))
      (pa_cons (pe_op op_mulW (pe_ix ix_tup (pv 0) pe_int (fun _ _ => rfl)) (pe_ix ix_tup (pv 1) pe_int (fun _ _ => rfl))) pa_nil)))), ?_⟩
    refine ⟨.ref a, rfl, a, _, 0, _, rfl, rfl, SqT.of ea, atI_nat (j := 0) rfl, .ref b, rfl, b, _, 1, _, rfl, rfl, SqT.of eb, atI_nat (j := 1) rfl, i, l, rfl, rfl, f1.a.cm f2.b (by decide) (by decide) (by decide), ?_⟩
    refine ⟨.ref b, rfl, b, _, 0, _, rfl, rfl, SqT.of eb, atI_nat (j := 0) rfl, .ref a, rfl, a, _, 1, _, rfl, rfl, SqT.of ea, atI_nat (j := 1) rfl, k, j, rfl, rfl, f2.a.cm f1.b (by decide) (by decide) (by decide), _, _, rfl, rfl, ?_⟩
    refine ⟨.ref a, rfl, a, _, 1, _, rfl, rfl, SqT.of ea, atI_nat (j := 1) rfl, .ref b, rfl, b, _, 1, _, rfl, rfl, SqT.of eb, atI_nat (j := 1) rfl, j, l, rfl, rfl, f1.b.cm f2.b (by decide) (by decide) (by decide), ?_⟩
    exact ⟨_, _, rfl, mul_ne f1.p f2.p, (f1.b.mul f2.b).mono (by decide), q⟩
theorem ok_times {f fR : Addr} {fd fdR : FuncData} (F : Fun K "times" "times" sTimes f fd) (FR : Fun K "fraction" "fraction" sFrac fR fdR) (bR : Binds K fdR ["top", "bottom"] []) (gR : mg "fraction" = some (.ref fR)) (GR : FnOk P w K mg base CX0 2 fR fdR ["top", "bottom"] spFrac) :
    FnOk P w K mg base CX0 3 f fd ["one", "other"] (spOp (fun i _ k _ => i * k) (fun _ j _ l => j * l) fun _ => True) := by
  refine F.ok scTimes (fun vs H Q E h => ?_) (fun cdv A outer s H vs Q E hr h => ?_)
  · obtain ⟨a, b, i, j, k, l, rfl, _⟩ := h
    rfl
  · obtain ⟨a, b, i, j, k, l, rfl, ea, eb, f1, f2, _, q⟩ := h
    refine ⟨_, pss_one (ps_ret (pe_call GR hr (by rfl) gR FR.kp bR .nil pass0 (pa_cons (pe_op op_mulW (pe_ix ix_tup (pv 0) pe_int (fun _ _ => rfl)) (pe_ix ix_tup (pv 1) pe_int (fun _ _ => rfl)))
      (pa_cons (pe_op op_mulW (pe_ix ix_tup (pv 0) pe_int (fun _ _ => rfl)) (pe_ix ix_tup (pv 1) pe_int (fun _ _ => rfl))) pa_nil)))), ?_⟩
    refine ⟨.ref a, rfl, a, _, 0, _, rfl, rfl, SqT.of ea, atI_nat (j := 0) rfl, .ref b, rfl, b, _, 0, _, rfl, rfl, SqT.of eb, atI_nat (j := 0) rfl, i, k, rfl, rfl, f1.a.cm f2.a (by decide) (by decide) (by decide), ?_⟩
    refine ⟨.ref a, rfl, a, _, 1, _, rfl, rfl, SqT.of ea, atI_nat (j := 1) rfl, .ref b, rfl, b, _, 1, _, rfl, rfl, SqT.of eb, atI_nat (j := 1) rfl, j, l, rfl, rfl, f1.b.cm f2.b (by decide) (by decide) (by decide), ?_⟩
    exact ⟨_, _, rfl, mul_ne f1.p f2.p, (f1.b.mul f2.b).mono (by decide), q⟩
theorem ok_over {f fR : Addr} {fd fdR : FuncData} (F : Fun K "over" "over" sOver f fd) (FR : Fun K "fraction" "fraction" sFrac fR fdR) (bR : Binds K fdR ["top", "bottom"] []) (gR : mg "fraction" = some (.ref fR)) (GR : FnOk P w K mg base CX0 2 fR fdR ["top", "bottom"] spFrac) :
    FnOk P w K mg base CX0 3 f fd ["one", "other"] (spOp (fun i _ _ l => i * l) (fun _ j k _ => j * k) fun k => k ≠ 0) := by
  refine F.ok scOver (fun vs H Q E h => ?_) (fun cdv A outer s H vs Q E hr h => ?_)
  · obtain ⟨a, b, i, j, k, l, rfl, _⟩ := h
    rfl
  · obtain ⟨a, b, i, j, k, l, rfl, ea, eb, f1, f2, hk, q⟩ := h
    refine ⟨_, pss_one (ps_ret (pe_call GR hr (by rfl) gR FR.kp bR .nil pass0 (pa_cons (pe_op op_mulW (pe_ix ix_tup (pv 0) pe_int (fun _ _ => rfl)) (pe_ix ix_tup (pv 1) pe_int (fun _ _ => rfl)))
      (pa_cons (pe_op op_mulW (pe_ix ix_tup (pv 0) pe_int (fun _ _ => rfl)) (pe_ix ix_tup (pv 1) pe_int (fun _ _ => rfl))) pa_nil)))), ?_⟩
    refine ⟨.ref a, rfl, a, _, 0, _, rfl, rfl, SqT.of ea, atI_nat (j := 0) rfl, .ref b, rfl, b, _, 1, _, rfl, rfl, SqT.of eb, atI_nat (j := 1) rfl, i, l, rfl, rfl, f1.a.cm f2.b (by decide) (by decide) (by decide), ?_⟩
    refine ⟨.ref a, rfl, a, _, 1, _, rfl, rfl, SqT.of ea, atI_nat (j := 1) rfl, .ref b, rfl, b, _, 0, _, rfl, rfl, SqT.of eb, atI_nat (j := 0) rfl, j, k, rfl, rfl, f1.b.cm f2.a (by decide) (by decide) (by decide), ?_⟩
    exact ⟨_, _, rfl, (fun z => (Int.mul_eq_zero.mp z).elim (fun y => by have := f1.p; omega) hk), (f1.b.mul f2.a).mono (by decide), q⟩
/-- by 0 -/
def spOverX (C : Addr) : Sp := fun vs H _ E => ∃ (a b : Addr) (i j l : Int), vs = [.ref a, .ref b] ∧ Two H a i j ∧ Two H b 0 l ∧ Fr 1000 i j ∧ Fr 1000 0 l ∧ E (.ref C) none H
theorem ok_overX {f fR C S : Addr} {fd fdR : FuncData} (F : Fun K "over" "over" sOver f fd) (FR : Fun K "fraction" "fraction" sFrac fR fdR) (bR : Binds K fdR ["top", "bottom"] []) (gR : mg "fraction" = some (.ref fR)) (T : ExT K mg C S) :
    FnOk P w K mg base (L2.CX P w) 3 f fd ["one", "other"] (spOverX C) := by
  have GX : FnOk P w K mg base (L2.CX P w) 2 fR fdR ["top", "bottom"] (spFracX C) := ok_fracX FR T
  refine F.okX scOver (fun vs H Q E h => ?_) (fun cdv A outer s H vs Q E hr h => ?_)
  · obtain ⟨a, b, i, j, l, rfl, _⟩ := h
    rfl
  · obtain ⟨a, b, i, j, l, rfl, ea, eb, f1, f2, q⟩ := h
    refine ⟨_, pss_one (ps_ret (pe_call GX hr (by rfl) gR FR.kp bR .nil (passes_call (takes_of rfl rfl rfl rfl) fun _ _ _ _ z => z) (pa_cons (pe_op op_mulW (pe_ix ix_tup (pv 0) pe_int (fun _ _ => rfl)) (pe_ix ix_tup (pv 1) pe_int (fun _ _ => rfl)))
      (pa_cons (pe_op op_mulW (pe_ix ix_tup (pv 0) pe_int (fun _ _ => rfl)) (pe_ix ix_tup (pv 1) pe_int (fun _ _ => rfl))) pa_nil)))), ?_⟩
    refine ⟨.ref a, rfl, a, _, 0, _, rfl, rfl, SqT.of ea, atI_nat (j := 0) rfl, .ref b, rfl, b, _, 1, _, rfl, rfl, SqT.of eb, atI_nat (j := 1) rfl, i, l, rfl, rfl, f1.a.cm f2.b (by decide) (by decide) (by decide), ?_⟩
    refine ⟨.ref a, rfl, a, _, 1, _, rfl, rfl, SqT.of ea, atI_nat (j := 1) rfl, .ref b, rfl, b, _, 0, _, rfl, rfl, SqT.of eb, atI_nat (j := 0) rfl, j, 0, rfl, rfl, f1.b.cm f2.a (by decide) (by decide) (by decide), ?_⟩
    exact ⟨i * l, (by show [V.int (i * l), V.int (j * 0)] = [V.int (i * l), V.int 0]; rw [Int.mul_zero]), q⟩
/-! ### is_less -/
def spLess : Sp := fun vs H Q _ => ∃ (a b : Addr) (i j k l : Int), vs = [.ref a, .ref b] ∧ Two H a i j ∧ Two H b k l ∧ Fr 1000 i j ∧ Fr 1000 k l ∧ Q (.bl (decide (i * l < k * j))) H
theorem ok_less {f : Addr} {fd : FuncData} (F : Fun K "is_less" "is_less" sLess f fd) : FnOk P w K mg base CX0 1 f fd ["one", "other"] spLess := by
  refine F.ok scLess (fun vs H Q E h => ?_) (fun cdv A outer s H vs Q E hr h => ?_)
  · obtain ⟨a, b, i, j, k, l, rfl, _⟩ := h
    rfl
  · obtain ⟨a, b, i, j, k, l, rfl, ea, eb, f1, f2, q⟩ := h
    refine ⟨_, pss_one (ps_ret (pe_cmpR op_lt (pe_op op_mulW (pe_ix ix_tup (pv 0) pe_int (fun _ _ => rfl)) (pe_ix ix_tup (pv 1) pe_int (fun _ _ => rfl))) (pe_op op_mulW (pe_ix ix_tup (pv 1) pe_int (fun _ _ => rfl)) (pe_ix ix_tup (pv 0) pe_int (fun _ _ => rfl))) (nomark _))), ?_⟩
    refine ⟨.ref a, rfl, a, _, 0, _, rfl, rfl, SqT.of ea, atI_nat (j := 0) rfl, .ref b, rfl, b, _, 1, _, rfl, rfl, SqT.of eb, atI_nat (j := 1) rfl, i, l, rfl, rfl, f1.a.cm f2.b (by decide) (by decide) (by decide), ?_⟩
    exact ⟨.ref b, rfl, b, _, 0, _, rfl, rfl, SqT.of eb, atI_nat (j := 0) rfl, .ref a, rfl, a, _, 1, _, rfl, rfl, SqT.of ea, atI_nat (j := 1) rfl, k, j, rfl, rfl, f2.a.cm f1.b (by decide) (by decide) (by decide), _, _, rfl, rfl, q⟩
/-- the names exchanged -/
theorem kb_two {x : Str} {st : Stmt} {f : Addr} {fd : FuncData} (F : Fun K x x st f fd)
    (h : ∀ (k0 dc pm : Value) (an : Option Addr) (cv ct : Value) (u v : Value), bindArgs (PySem.W.fnOf x x (defArgs st) (defBody st) (defScope st) .none k0 dc pm an cv ct) ⟨[], ([("other", u), ("one", v)] : List (Str × Value))⟩ = pure ([("one", v), ("other", u)] : List (Str × Value))) : KBn K fd ["one", "other"] 0 ["other", "one"] swp swp := by
  obtain ⟨c0, d0, k0, dc, pm, an, cv, ct, sl, rfl, lk, hc⟩ := F.ex
  exact ⟨fun s us ws X l1 l2 => match us, ws, l1, l2 with | [], [u, v], _, _ => .of_eq (h k0 dc pm an cv ct u v), swp_rel⟩
end
end G
set_option Elab.async false
set_option linter.all false
set_option maxRecDepth 100000
set_option maxHeartbeats 1000000
namespace G
open PySem PySem.Spec PyProof.Rows L2 TL
def tCallNS (m : Nat) (sp : Sp) (gV : List V → List V → List V) (E : L2.St → XK) (tk : TA) : TE := fun σ H Q => tk σ H fun zs H2 => zs.length = m ∧ sp (gV [] zs) H2 Q (E σ)
/-- keywords alone, where what is raised is wished for at the slots -/
theorem pe_callNS {X : Cx} {CX : CXT} {k : Nat} {f : Addr} {fd : FuncData} {ps ks : List Str} {sp : Sp} {E : L2.St → XK} {x : Str} {p pos : Pos} {kws : List Keyword} {tk : TA} {g : List Value → List Value → List Value} {gV : List V → List V → List V}
    (F : FnOk X.prog X.w X.K X.mg X.base CX k f fd ps sp) (hr : Room k X.A) (hg : Gl X x) (hm : X.mg x = some (.ref f)) (hk : PySem.W.keepIn X.K (.ref f) = true) (hb : KBn X.K fd ps 0 ks g gV) (hx : ∀ σ, PassesAt CX X σ (E σ)) (hkw : PK X kws tk)
    (hall : (backToKw pos (keywordEach kws X.env)).all (·.1.isSome) = true := by rfl) (hks : (backToKw pos (keywordEach kws X.env)).filterMap (·.1) = ks := by rfl) (hdb : (x == ("__debug__" : Str)) = false := by decide)
    (hpl : ((backTo pos (starEach [] X.env)).any (·.1) || (backToKw pos (keywordEach kws X.env)).any (·.1.isNone)) = false := by rfl) : PE X (.Call (.Name x p) [] kws pos) (tCallNS ks.length sp gV E tk) :=
  ⟨fun pins s σ H Q I h => wpAny_Call_Name_kw (ld_glob I hg hm (PySem.W.callWith_KW0 (first := []) (h₀ := X.base) I.ok.mod.kin hk hall (thn (hkw.run pos pins s σ H _ I h) fun ws s2 ⟨zs, H2, I2, rz, l2, q2⟩ => ⟨I2.kIn, by
    rw [hks]
    refine wpAny_call (codeAny_mono (F.run X.A X.stack s2 H2 ⟨[], ks.zip ws⟩ (g [] ws) (gV [] zs) Q (E σ) hr I2.env0 (hb.to s2 [] ws I2.kIn rfl (rz.length.symm.trans l2)) (hb.rel .nil rz) q2) fun r s' hq => ?_)
    cases r with
    | error e => exact hx σ pins H2 s2 e s' I2 hq
    | ok fl =>
      cases fl with
      | ret u => exact I2.after hq
      | _ => exact hq.elim⟩) hpl) hdb)⟩
theorem pick3 {x y z : Int} {d : Int} {C : Int → Prop} (h0 : 0 ≤ d) (h3 : d < 3) (hx : C x) (hy : C y) (hz : C z) : ∃ n : Int, atI [V.int x, .int y, .int z] d = some (.int n) ∧ C n := by
  have : d = 0 ∨ d = 1 ∨ d = 2 := by omega
  rcases this with rfl | rfl | rfl
  · exact ⟨x, atI_nat (j := 0) rfl, hx⟩
  · exact ⟨y, atI_nat (j := 1) rfl, hy⟩
  · exact ⟨z, atI_nat (j := 2) rfl, hz⟩
theorem ten20m : ((10 : Int) ^ (20 : Int).toNat) - 1 = 99999999999999999999 := by decide +kernel
section
variable {P : Program} {w : World} {K : PySem.W.Frag} {mg : Str → Option Value} {base : Heap}
/-! ### _law_drawn -/
abbrev sDr : Stmt := topS 17
theorem scDr : FnScope ["_law_pot_here", "_law_top", "_law_bottom"] ["_law_pot_here"] (defScope sDr) := ⟨rfl, rfl, rfl, by decide +kernel, rfl, by decide +kernel, by decide +kernel⟩
def spDr : Sp := fun vs H Q _ => ∃ p : Addr, vs = [.ref p] ∧ Pot H p ∧ ∀ H' t i j, Keep p H H' → Pot H' p → Two H' t i j → H t = none → isFr i j = true → Fr 67 i j → Q (.ref t) H'
theorem ok_dr {f fT fB fL : Addr} {fd fdT fdB fdL : FuncData} (F : Fun K "_law_drawn" "_law_drawn" sDr f fd) (FT : Fun K "_law_take" "_law_take" sTake fT fdT) (bT : Binds K fdT ["_law_pot_here", "_law_many"] []) (gT : mg "_law_take" = some (.ref fT))
    (FB : Fun K "_law_below" "_law_below" sBelow fB fdB) (bB : Binds K fdB ["_law_pot_here", "_law_many"] []) (gB : mg "_law_below" = some (.ref fB)) (FL : Fun K "_law_lowest" "_law_lowest" sLow fL fdL) (bL : Binds K fdL ["_law_top", "_law_bottom"] []) (gL : mg "_law_lowest" = some (.ref fL))
    (mD : mg "divmod" = none) (mR : mg "range" = none) (mA : mg "abs" = none) : FnOk P w K mg base CX0 3 f fd ["_law_pot_here"] spDr := by
  have GT : FnOk P w K mg base CX0 1 fT fdT ["_law_pot_here", "_law_many"] spTake := ok_take FT mD
  have GB : FnOk P w K mg base CX0 2 fB fdB ["_law_pot_here", "_law_many"] spBelow := ok_below FB FT bT gT mD mR
  have GL : FnOk P w K mg base CX0 1 fL fdL ["_law_top", "_law_bottom"] spFrac := ok_low FL mA
  refine F.ok scDr (fun vs H Q E h => ?_) (fun cdv A outer s H vs Q E hr h => ?_)
  · obtain ⟨p, rfl, _⟩ := h
    rfl
  · obtain ⟨p, rfl, hp, q⟩ := h
    have hr1 := hr.mono (show 1 ≤ 2 by decide)
    refine ⟨_, pss_cons (ps_set (i := 1) scDr.nd rfl (.inl rfl) (pe_ix ix_list (pe_lst (pa_cons (pe_call GT hr1 (by rfl) gT FT.kp bT .nil pass0 (pa_cons (pv 0) (pa_cons pe_int pa_nil)))
        (pa_cons (pe_call GT hr1 (by rfl) gT FT.kp bT .nil pass0 (pa_cons (pv 0) (pa_cons pe_int pa_nil))) (pa_cons (pe_call GB hr (by rfl) gB FB.kp bB .nil pass0 (pa_cons (pv 0) (pa_cons (pe_op op_pow pe_int pe_int) pa_nil))) pa_nil))))
        (pe_call GT hr1 (by rfl) gT FT.kp bT .nil pass0 (pa_cons (pv 0) (pa_cons pe_int pa_nil))) (fun _ _ => rfl)))
      (pss_cons (ps_set (i := 2) scDr.nd rfl (.inl rfl) (pe_op op_add pe_int (pe_ix ix_list (pe_lst (pa_cons (pe_call GT hr1 (by rfl) gT FT.kp bT .nil pass0 (pa_cons (pv 0) (pa_cons pe_int pa_nil)))
        (pa_cons (pe_call GT hr1 (by rfl) gT FT.kp bT .nil pass0 (pa_cons (pv 0) (pa_cons pe_int pa_nil))) (pa_cons (pe_call GB hr (by rfl) gB FB.kp bB .nil pass0 (pa_cons (pv 0) (pa_cons (pe_op op_sub (pe_op op_pow pe_int pe_int) pe_int) pa_nil))) pa_nil))))
        (pe_call GT hr1 (by rfl) gT FT.kp bT .nil pass0 (pa_cons (pv 0) (pa_cons pe_int pa_nil))) (fun _ _ => rfl))))
      (pss_one (ps_ret (pe_call GL hr1 (by rfl) gL FL.kp bL .nil pass0 (pa_cons (pe_op op_mul (pv 1) (pe_op op_sub pe_int (pe_op op_mul pe_int (pe_call GT hr1 (by rfl) gT FT.kp bT .nil pass0 (pa_cons (pv 0) (pa_cons pe_int pa_nil)))))) (pa_cons (pv 2) pa_nil)))))), ?_⟩
    -- the top
    refine ⟨.ref p, rfl, p, 7, rfl, hp, by decide, by decide, fun H1 d1 k1 p1 l1 u1 => ?_⟩
    refine ⟨.ref p, rfl, p, 60, rfl, p1, by decide, by decide, fun H2 d2 k2 p2 l2 u2 => ?_⟩
    refine ⟨.ref p, rfl, 10, 20, rfl, rfl, ⟨by decide, by decide, by decide⟩, p, _, rfl, p2, by rw [ten20]; decide, fun H3 d3 k3 p3 l3 u3 => ?_⟩
    rw [ten20] at u3
    refine ⟨by show 3 ≤ sizeLine; decide, fun t nt => ?_⟩
    refine ⟨.ref p, rfl, p, 3, rfl, pot_upd p3 nt, by decide, by decide, fun H4 d4 k4 p4 l4 u4 => ?_⟩
    have ntp : t ≠ p := fun z => p3.ne nt z.symm
    have et : H4 t = some (.lst [.int d1, .int d2, .int d3]) := k4 _ _ ntp upd_same
    have ka : Keep p H H4 := ((k1.trans k2).trans k3).trans ((same_keep (same_upd nt)).trans k4)
    obtain ⟨n, en, bn⟩ := pick3 (C := fun n => n.natAbs < big) l4 u4 (show d1.natAbs < 100000000000000000000 by omega) (show d2.natAbs < 100000000000000000000 by omega) (show d3.natAbs < 100000000000000000000 by omega)
    refine ⟨t, _, d4, _, rfl, rfl, SqL.of et, en, ?_⟩
    -- the bottom
    refine ⟨.ref p, rfl, p, 6, rfl, p4, by decide, by decide, fun H5 d5 k5 p5 l5 u5 => ?_⟩
    refine ⟨.ref p, rfl, p, 59, rfl, p5, by decide, by decide, fun H6 d6 k6 p6 l6 u6 => ?_⟩
    refine ⟨.ref p, rfl, 10, 20, rfl, rfl, ⟨by decide, by decide, by decide⟩, _, 1, rfl, rfl, p, _, rfl, p6, by rw [ten20m]; decide, fun H7 d7 k7 p7 l7 u7 => ?_⟩
    rw [ten20m] at u7
    refine ⟨by show 3 ≤ sizeLine; decide, fun t2 nt2 => ?_⟩
    refine ⟨.ref p, rfl, p, 3, rfl, pot_upd p7 nt2, by decide, by decide, fun H8 d8 k8 p8 l8 u8 => ?_⟩
    have ntp2 : t2 ≠ p := fun z => p7.ne nt2 z.symm
    have et2 : H8 t2 = some (.lst [.int d5, .int d6, .int d7]) := k8 _ _ ntp2 upd_same
    have kb : Keep p H H8 := ka.trans (((k5.trans k6).trans k7).trans ((same_keep (same_upd nt2)).trans k8))
    obtain ⟨m, em, bm, bm2⟩ := pick3 (C := fun n => 0 ≤ n ∧ n < 99999999999999999999) l8 u8 ⟨l5, by omega⟩ ⟨l6, by omega⟩ ⟨l7, u7⟩
    refine ⟨t2, _, d8, _, rfl, rfl, SqL.of et2, em, 1, m, rfl, rfl, ?_⟩
    -- lowest
    refine ⟨.int n, rfl, .ref p, rfl, p, 2, rfl, p8, by decide, by decide, fun H9 d9 k9 p9 l9 u9 => ?_⟩
    refine ⟨2, d9, rfl, rfl, .inl ⟨by decide, by decide⟩, 1, _, rfl, rfl, n, _, rfl, rfl, .inr ⟨by omega, by omega⟩, ?_⟩
    have hn : (n * (1 - 2 * d9)).natAbs < big := by
      have : d9 = 0 ∨ d9 = 1 := by omega
      rcases this with rfl | rfl
      · rw [show (1 - 2 * 0 : Int) = 1 by decide, Int.mul_one]
        exact bn
      · rw [show (1 - 2 * 1 : Int) = -1 by decide, Int.mul_neg, Int.mul_one, Int.natAbs_neg]
        exact bn
    have hm : (1 + m).natAbs < big := (show (1 + m).natAbs < 100000000000000000000 by omega)
    have h0 : (1 + m) ≠ 0 := by omega
    refine ⟨_, rfl, _, _, rfl, h0, Nat.lt_trans (Nat.lt_trans hm big67) (Nat.pow_lt_pow_right (by decide) (by decide)), fun t3 nt3 => ?_⟩
    refine q _ t3 _ _ ((kb.trans k9).trans (same_keep (same_upd nt3))) (pot_upd p9 nt3) upd_same ((kb.trans k9).free p9 nt3) (low_fr h0) (Fr.low (Nat.lt_trans hn big67) (Nat.lt_trans hm big67) h0)
/-! ### _law_is -/
abbrev sIs : Stmt := topS 18
theorem scIs : FnScope ["_law_found", "_law_top", "_law_bottom"] ["_law_found", "_law_top", "_law_bottom"] (defScope sIs) := ⟨rfl, rfl, rfl, by decide +kernel, rfl, by decide +kernel, by decide +kernel⟩
def spIs : Sp := fun vs H Q _ => ∃ (a : Addr) (x y t b : Int), vs = [.ref a, .int t, .int b] ∧ Two H a x y ∧ isFr x y = true ∧ x * b = y * t ∧ Sz 2200 x ∧ Sz 2200 y ∧ Sz 2200 t ∧ Sz 2200 b ∧ ∀ H', Same H H' → Q (.bl true) H'
theorem ok_is {f fF : Addr} {fd fdF : FuncData} (F : Fun K "_law_is" "_law_is" sIs f fd) (FF : Fun K "_law_is_fraction" "_law_is_fraction" sLF fF fdF) (bF : Binds K fdF ["_law_thing"] []) (gF : mg "_law_is_fraction" = some (.ref fF)) (GF : FnOk P w K mg base CX0 2 fF fdF ["_law_thing"] spLF) :
    FnOk P w K mg base CX0 3 f fd ["_law_found", "_law_top", "_law_bottom"] spIs := by
  refine F.ok scIs (fun vs H Q E h => ?_) (fun cdv A outer s H vs Q E hr h => ?_)
  · obtain ⟨a, x, y, t, b, rfl, _⟩ := h
    rfl
  · obtain ⟨a, x, y, t, b, rfl, ea, hf, hx, z1, z2, z3, z4, q⟩ := h
    refine ⟨_, pss_one (ps_ret (pe_and (pe_call GF hr (by rfl) gF FF.kp bF .nil pass0 (pa_cons (pv 0) pa_nil)) (pe_one (pe_cmpR op_eq (pe_op op_mulW (pe_ix ix_tup (pv 0) pe_int (fun _ _ => rfl)) (pv 2)) (pe_op op_mulW (pe_ix ix_tup (pv 0) pe_int (fun _ _ => rfl)) (pv 1)) (nomark _))))), ?_⟩
    refine ⟨.ref a, rfl, .ref a, rfl, kd_two ea, bd_two ea (z2.mono (by decide)), fun H' sm => ?_⟩
    refine ⟨_, rfl, ifT (by rw [frB_ints ea, hf]) ?_⟩
    have ea' := sm _ _ ea
    refine ⟨.ref a, rfl, a, _, 0, _, rfl, rfl, SqT.of ea', atI_nat (j := 0) rfl, _, rfl, x, b, rfl, rfl, z1.cm z4 (by decide) (by decide) (by decide), .ref a, rfl, a, _, 1, _, rfl, rfl, SqT.of ea', atI_nat (j := 1) rfl, _, rfl, y, t, rfl, rfl, z2.cm z3 (by decide) (by decide) (by decide), rfl, ?_⟩
    rw [decide_eq_true (congrArg V.int hx)]
    exact q _ sm
/-! ### _law_quotient_right -/
abbrev sQ : Stmt := topS 19
theorem scQ : FnScope ["_law_first", "_law_second", "_law_found", "e"] ["_law_first", "_law_second"] (defScope sQ) := ⟨rfl, rfl, rfl, by decide +kernel, rfl, by decide +kernel, by decide +kernel⟩
def spQ : Sp := fun vs H Q _ => ∃ (a b : Addr) (i j k l : Int), vs = [.ref a, .ref b] ∧ Two H a i j ∧ Two H b k l ∧ Fr 67 i j ∧ Fr 67 k l ∧ ∀ H', Same H H' → Q (.bl true) H'
theorem Fr.mono {m n : Nat} {i j : Int} (h : Fr m i j) (g : m ≤ n) : Fr n i j := ⟨h.a.mono g, h.b.mono g, h.p⟩
theorem ok_Q {f fO fI C S : Addr} {fd fdO fdI : FuncData} (F : Fun K "_law_quotient_right" "_law_quotient_right" sQ f fd) (FO : Fun K "over" "over" sOver fO fdO) (gO : mg "over" = some (.ref fO)) (kO : KBn K fdO ["one", "other"] 0 ["other", "one"] swp swp)
    (GO : FnOk P w K mg base CX0 3 fO fdO ["one", "other"] (spOp (fun i _ _ l => i * l) (fun _ j k _ => j * k) fun k => k ≠ 0)) (GX : FnOk P w K mg base (L2.CX P w) 3 fO fdO ["one", "other"] (spOverX C))
    (FI : Fun K "_law_is" "_law_is" sIs fI fdI) (bI : Binds K fdI ["_law_found", "_law_top", "_law_bottom"] []) (gI : mg "_law_is" = some (.ref fI)) (GI : FnOk P w K mg base CX0 3 fI fdI ["_law_found", "_law_top", "_law_bottom"] spIs)
    (T : ExT K mg C S) (mI : mg "isinstance" = none) (mV : mg "ValueError" = none) : FnOk P w K mg base CX0 4 f fd ["_law_first", "_law_second"] spQ := by
  refine F.ok scQ (fun vs H Q E h => ?_) (fun cdv A outer s H vs Q E hr h => ?_)
  · obtain ⟨a, b, i, j, k, l, rfl, _⟩ := h
    rfl
  · obtain ⟨a, b, i, j, k, l, rfl, ea, eb, f1, f2, q⟩ := h
    by_cases hk : k = 0
    · subst hk
      refine ⟨_, pss_cons (ps_try_as (i := 3) (tb := fun W => tSeq (tAsg (tCallNS (["other", "one"] : List Str).length (spOverX C) swp (WE W) (tCons (tVar 1) (tCons (tVar 0) tNil))) (gName 2)) tNever)
          (ts := fun a cls d => fun D σ H => (cls = .ref C ∧ d = none) ∧ tRet (tAndV (tOp rEq (tOp (rIxT K) (tVar 1) (tC (.int 0))) (tC (.int 0))) (tAndV (tCB (rIsE K C a) (tCons (tVar 3) (tCons (tC (.ref S)) tNil))) (tCB (rIsE K C a) (tCons (tVar 3) (tCons (tC (.ty "ValueError")) tNil))))) D σ H)
          (Wout := fun _ _ _ _ => False) rfl rfl scQ.nd rfl rfl ⟨rfl, by decide, .inl T.gP⟩ takes0
          (fun W pn xe tk _ => pss_cons (ps_set (i := 2) scQ.nd rfl (.inl rfl) (by exact (pe_callNS GX hr rfl gO FO.kp kO (fun σ => passAt tk σ) (by exact (pk_cons (pv 1) (pk_cons (pv 0) pk_nil)))))) pss_never)
          (fun a oe cls d pn hz hf => pss_given fun hp => by
            obtain ⟨rfl, rfl⟩ := hp
            exact pss_one (ps_ret (pe_and (pe_cmpR op_eq (pe_ix ix_tup (pv 1) pe_int (fun _ _ => rfl)) pe_int (nomark _)) (pe_and (pe_callB (call_isE T.ec hz hf) (by rfl) mI (by decide +kernel) (pa_cons (pv 3) (pa_cons (pe_glob (v := .ref S) (by rfl) T.gS rfl) pa_nil)))
              (pe_one (pe_callB (call_isE T.ec hz hf) (by rfl) mI (by decide +kernel) (pa_cons (pv 3) (pa_cons (pe_bltn (v := .ty "ValueError") (by rfl) mV (by decide +kernel) rfl) pa_nil)))))))) ) pss_never, ?_⟩
      refine ⟨_, rfl, _, rfl, rfl, a, b, i, j, l, rfl, ea, eb, f1.mono (by decide), f2.mono (by decide), true, T.te, fun _ a0 na => ⟨⟨rfl, rfl⟩, ?_⟩, fun z => nomatch z⟩
      refine ⟨.ref b, rfl, b, _, 0, _, rfl, rfl, SqT.of eb, atI_nat (j := 0) rfl, rfl, _, rfl, iteT ?_⟩
      refine ⟨_, rfl, _, .ref S, _, rfl, fun u hu => hu, T.k1, _, rfl, iteT ?_⟩
      exact ⟨_, rfl, _, .type "ValueError", _, rfl, fun u hu => hu, T.k2, q _ (.refl _)⟩
    · refine ⟨_, pss_cons (ps_try_thru0 (pss_one (ps_set (i := 2) scQ.nd rfl (.inl rfl) (pe_callN0 GO hr (by rfl) gO FO.kp kO pass0 (pk_cons (pv 1) (pk_cons (pv 0) pk_nil))))))
        (pss_one (ps_ret (pe_and (pe_cmpR op_ne (pe_ix ix_tup (pv 1) pe_int (fun _ _ => rfl)) pe_int (nomark _)) (pe_one (pe_call GI hr (by rfl) gI FI.kp bI .nil pass0 (pa_cons (pv 2) (pa_cons (pe_op op_mulW (pe_ix ix_tup (pv 0) pe_int (fun _ _ => rfl)) (pe_ix ix_tup (pv 1) pe_int (fun _ _ => rfl))) (pa_cons (pe_op op_mulW (pe_ix ix_tup (pv 0) pe_int (fun _ _ => rfl)) (pe_ix ix_tup (pv 1) pe_int (fun _ _ => rfl))) pa_nil)))))))), ?_⟩
      refine ⟨_, rfl, _, rfl, rfl, a, b, i, j, k, l, rfl, ea, eb, f1.mono (by decide), f2.mono (by decide), hk, fun p np => ?_⟩
      have s1 := same_upd (o := .tup [.int (low1 (i * l) (j * k)), .int (low2 (i * l) (j * k))]) np
      have ea1 := s1 _ _ ea
      have eb1 := s1 _ _ eb
      have jk : j * k ≠ 0 := fun z => (Int.mul_eq_zero.mp z).elim (fun y => by have := f1.p; omega) hk
      have hl := Fr.low ((f1.a.mul f2.b).mono (show 134 ≤ 2200 by decide)) ((f1.b.mul f2.a).mono (show 134 ≤ 2200 by decide)) jk
      refine ⟨.ref b, rfl, b, _, 0, _, rfl, rfl, SqT.of eb1, atI_nat (j := 0) rfl, rfl, _, rfl, ifT (by rw [decide_eq_false (show ¬ V.int k = V.int 0 from fun z => hk (V.int.inj z))]; rfl) ?_⟩
      refine ⟨_, rfl, .ref a, rfl, a, _, 0, _, rfl, rfl, SqT.of ea1, atI_nat (j := 0) rfl, .ref b, rfl, b, _, 1, _, rfl, rfl, SqT.of eb1, atI_nat (j := 1) rfl, i, l, rfl, rfl, f1.a.cm f2.b (by decide) (by decide) (by decide), ?_⟩
      refine ⟨.ref a, rfl, a, _, 1, _, rfl, rfl, SqT.of ea1, atI_nat (j := 1) rfl, .ref b, rfl, b, _, 0, _, rfl, rfl, SqT.of eb1, atI_nat (j := 0) rfl, j, k, rfl, rfl, f1.b.cm f2.a (by decide) (by decide) (by decide), ?_⟩
      exact ⟨p, _, _, i * l, j * k, rfl, upd_same, low_fr jk, low_cross _ _ jk, hl.a, hl.b, (f1.a.mul f2.b).mono (by decide), (f1.b.mul f2.a).mono (by decide), fun H' sm => q _ (s1.trans sm)⟩
end
end G
set_option Elab.async false
set_option linter.all false
set_option maxRecDepth 100000
set_option maxHeartbeats 1000000
namespace G
open PySem PySem.Spec PyProof.Rows L2 TL
theorem eqv_bl3 (a b c : Bool) : PyData.eqv (.list [.bool a, .bool b, .bool c]) (.list [.bool a, .bool b, .bool c]) = true := by cases a <;> cases b <;> cases c <;> decide
/-- one fraction has one form in lowest terms -/
theorem low_uniq {p q i j : Int} (hq : q ≠ 0) (hf : isFr i j = true) (h : i * q = j * p) : low1 p q = i ∧ low2 p q = j := by
  unfold isFr at hf
  rw [Bool.and_eq_true] at hf
  have hj : 0 < j := of_decide_eq_true hf.1
  have hg : Nat.gcd i.natAbs j.natAbs = 1 := of_decide_eq_true hf.2
  have c := low_cross p q hq
  have y0 : 0 < low2 p q := low2_pos hq
  have g2 : Nat.gcd (low1 p q).natAbs (low2 p q).natAbs = 1 := low_gc hq
  have e : low1 p q * j = low2 p q * i := by
    have : (low1 p q * j) * q = (low2 p q * i) * q := by grind
    exact Int.eq_of_mul_eq_mul_right hq this
  have en : (low1 p q).natAbs * j.natAbs = (low2 p q).natAbs * i.natAbs := by
    rw [← Int.natAbs_mul, ← Int.natAbs_mul, e]
  have d1 : j.natAbs ∣ (low2 p q).natAbs := by
    have : j.natAbs ∣ (low2 p q).natAbs * i.natAbs := ⟨(low1 p q).natAbs, by rw [← en, Nat.mul_comm]⟩
    exact Nat.Coprime.dvd_of_dvd_mul_right (show Nat.Coprime j.natAbs i.natAbs from (Nat.gcd_comm _ _).trans hg) this
  have d2 : (low2 p q).natAbs ∣ j.natAbs := by
    have : (low2 p q).natAbs ∣ j.natAbs * (low1 p q).natAbs := ⟨i.natAbs, by rw [Nat.mul_comm, en]⟩
    exact Nat.Coprime.dvd_of_dvd_mul_right (show Nat.Coprime (low2 p q).natAbs (low1 p q).natAbs from (Nat.gcd_comm _ _).trans g2) this
  have ej : (low2 p q).natAbs = j.natAbs := Nat.dvd_antisymm d2 d1
  have ej2 : low2 p q = j := by omega
  refine ⟨?_, ej2⟩
  rw [ej2] at e
  have : low1 p q * j = i * j := by grind
  exact Int.eq_of_mul_eq_mul_right (by omega) this
/-- a sum less the second is the first -/
theorem plus_minus {i j k l : Int} (hj : 0 < j) (hl : 0 < l) (hf : isFr i j = true) :
    low1 (low1 (i * l + k * j) (j * l) * l - k * low2 (i * l + k * j) (j * l)) (low2 (i * l + k * j) (j * l) * l) = i ∧ low2 (low1 (i * l + k * j) (j * l) * l - k * low2 (i * l + k * j) (j * l)) (low2 (i * l + k * j) (j * l) * l) = j := by
  have hb : j * l ≠ 0 := mul_ne hj hl
  have c := low_cross (i * l + k * j) (j * l) hb
  have y0 := low2_pos (a := i * l + k * j) hb
  generalize low1 (i * l + k * j) (j * l) = x at c
  generalize low2 (i * l + k * j) (j * l) = y at c y0
  refine low_uniq (mul_ne y0 hl) hf ?_
  grind
theorem log_of {n : Nat} {i : Int} (h : Sz n i) (h0 : 0 < n) (hn : n ≤ 1920) : i.natAbs.log2 < 1920 := Nat.lt_of_lt_of_le (PySem.Flt.log2_lt_of h0 h) hn
theorem num_len {i : Int} (h : i.natAbs.log2 < 1920) : (Str.ofString (toString i)).length ≤ 1921 := by
  rw [PySem.ofString_length]
  exact int_text_length_le (by decide) h
def two2 (a b c d : Int) : PyData := .list [.tuple [.int a, .int b], .tuple [.int c, .int d]]
theorem two2_ok {a b c d : Int} (h1 : a.natAbs.log2 < 1920) (h2 : b.natAbs.log2 < 1920) (h3 : c.natAbs.log2 < 1920) (h4 : d.natAbs.log2 < 1920) : (two2 a b c d).showable = true ∧ (two2 a b c d).hasDict = false ∧ (two2 a b c d).depth ≤ 50 ∧ (two2 a b c d).shown.length ≤ sizeLine := by
  refine ⟨?_, by simp [two2, PyData.hasDict, PyData.hasDictAll], by simp [two2, PyData.depth, PyData.depthAll], ?_⟩
  · simp [two2, PyData.showable, PyData.showableAll, h1, h2, h3, h4]
  · have n1 := num_len h1
    have n2 := num_len h2
    have n3 := num_len h3
    have n4 := num_len h4
    have e1 : (Str.ofString ", ").length = 2 := by decide +kernel
    have e2 : (Str.ofString "(").length = 1 := by decide +kernel
    have e3 : (Str.ofString ")").length = 1 := by decide +kernel
    have e4 : (Str.ofString "[").length = 1 := by decide +kernel
    have e5 : (Str.ofString "]").length = 1 := by decide +kernel
    have e6 : (Str.ofString "").length = 0 := by decide +kernel
    have tl2 : ∀ x y : Str, (tupleText [x, y]).length = x.length + y.length + 4 := by
      intro x y
      show (((Str.ofString "(") ++ (x ++ (Str.ofString ", ") ++ y)) ++ (Str.ofString ")")).length = _
      rw [strLen_append, strLen_append, strLen_append, strLen_append, e1, e2, e3]
      omega
    have ll2 : ∀ x y : Str, (listText [x, y]).length = x.length + y.length + 4 := by
      intro x y
      show ((((Str.ofString "[") ++ (Str.ofString "") ++ x) ++ (Str.ofString ", ") ++ y) ++ (Str.ofString "]")).length = _
      rw [strLen_append, strLen_append, strLen_append, strLen_append, strLen_append, e1, e4, e5, e6]
      omega
    show (listText [tupleText [Str.ofString (toString a), Str.ofString (toString b)], tupleText [Str.ofString (toString c), Str.ofString (toString d)]]).length ≤ sizeLine
    rw [ll2, tl2, tl2]
    exact Nat.le_trans (show _ ≤ 10000 by omega) (by decide)
section
variable {P : Program} {w : World} {K : PySem.W.Frag} {mg : Str → Option Value} {base : Heap}
/-! ### _law_less_right -/
abbrev sLR : Stmt := topS 20
abbrev nLR : List Str := ["_law_first", "_law_second", "_law_told", "_law_here", "_law_there", "_law_truth"]
theorem scLR : FnScope nLR ["_law_first", "_law_second"] (defScope sLR) := ⟨rfl, rfl, rfl, by decide +kernel, rfl, by decide +kernel, by decide +kernel⟩
theorem ok_LR {f fS : Addr} {fd fdS : FuncData} (F : Fun K "_law_less_right" "_law_less_right" sLR f fd) (FS : Fun K "is_less" "is_less" sLess fS fdS) (bS : Binds K fdS ["one", "other"] []) (gS : mg "is_less" = some (.ref fS)) (kS : KBn K fdS ["one", "other"] 0 ["other", "one"] swp swp)
    (mI : mg "isinstance" = none) (mB : mg "bool" = none) (mAll : mg "all" = none) : FnOk P w K mg base CX0 2 f fd ["_law_first", "_law_second"] spQ := by
  have GS : FnOk P w K mg base CX0 1 fS fdS ["one", "other"] spLess := ok_less FS
  refine F.ok scLR (fun vs H Q E h => ?_) (fun cdv A outer s H vs Q E hr h => ?_)
  · obtain ⟨a, b, i, j, k, l, rfl, _⟩ := h
    rfl
  · obtain ⟨a, b, i, j, k, l, rfl, ea, eb, f1, f2, q⟩ := h
    have g1 := f1.mono (show 67 ≤ 1000 by decide)
    have g2 := f2.mono (show 67 ≤ 1000 by decide)
    refine ⟨_, pss_cons (ps_set (i := 2) scLR.nd rfl (.inl rfl) (pe_lst (pa_cons (pe_call GS hr (by rfl) gS FS.kp bS .nil pass0 (pa_cons (pv 0) (pa_cons (pv 1) pa_nil))) (pa_cons (pe_callN0 GS hr (by rfl) gS FS.kp kS pass0 (pk_cons (pv 0) (pk_cons (pv 1) pk_nil))) (pa_cons (pe_call GS hr (by rfl) gS FS.kp bS .nil pass0 (pa_cons (pv 0) (pa_cons (pv 0) pa_nil))) pa_nil)))))
      (pss_cons (ps_if (pt_not (pt_val (pe_callB (cr_all rfl) (by rfl) mAll (by decide +kernel) (pa_cons (pe_lc (own := [("_law_truth", 5)]) (g := gName 5) (tt := tYes) (te := tCB (rIsi K) (tCons (tVar 5) (tCons (tC (.ty "bool")) tNil))) (by rfl) scLR.nd (pi_list (pv 2)) (blkOk_by (own := [("_law_truth", 5)]) (N := nLR) (sc := defScope sLR) (by decide +kernel))
          (fun _ _ _ _ _ => pg_name (i := 5) scLR.nd rfl (.inl rfl)) (fun _ _ _ _ _ => pts_nil) (fun _ _ _ _ _ => pe_callB call_isi (by rfl) mI (by decide +kernel) (pa_cons (pv 5) (pa_cons (pe_bltn (v := .ty "bool") (by rfl) mB (by decide +kernel) rfl) pa_nil)))) pa_nil)))) (pss_one (ps_ret pe_bl)) pss_nil)
      (pss_cons (ps_par (i := 3) (j := 4) (by rfl) scLR.nd rfl rfl (by decide) rfl rfl (pa_cons (pe_op op_mulW (pe_ix ix_tup (pv 0) pe_int (fun _ _ => rfl)) (pe_ix ix_tup (pv 1) pe_int (fun _ _ => rfl))) (pa_cons (pe_op op_mulW (pe_ix ix_tup (pv 1) pe_int (fun _ _ => rfl)) (pe_ix ix_tup (pv 0) pe_int (fun _ _ => rfl))) pa_nil)) (by rfl))
      (pss_one (ps_ret (pe_cmpR (op_eqD hr.units) (pv 2) (pe_lst (pa_cons (pe_cmpR op_lt (pv 3) (pv 4) (nomark _)) (pa_cons (pe_cmpR op_lt (pv 4) (pv 3) (nomark _)) (pa_cons pe_bl pa_nil)))) (nomark _)))))), ?_⟩
    refine ⟨.ref a, rfl, .ref b, rfl, a, b, i, j, k, l, rfl, ea, eb, g1, g2, ?_⟩
    refine ⟨.ref a, rfl, .ref b, rfl, rfl, b, a, k, l, i, j, rfl, eb, ea, g2, g1, ?_⟩
    refine ⟨.ref a, rfl, .ref a, rfl, a, a, i, j, i, j, rfl, ea, ea, g1, g1, (by show 3 ≤ sizeLine; decide), fun t nt => ?_⟩
    have s1 := same_upd (o := .lst [.bl (decide (i * l < k * j)), .bl (decide (k * j < i * l)), .bl (decide (i * j < i * j))]) nt
    have et : (upd H t (.lst [.bl (decide (i * l < k * j)), .bl (decide (k * j < i * l)), .bl (decide (i * j < i * j))])) t = some (.lst [.bl (decide (i * l < k * j)), .bl (decide (k * j < i * l)), .bl (decide (i * j < i * j))]) := upd_same
    refine ⟨.ref t, rfl, t, rfl, ⟨_, SqL.of et⟩, fun D nD => ?_⟩
    refine lc_list (K := K) (a := t) (xs := [.bl (decide (i * l < k * j)), .bl (decide (k * j < i * l)), .bl (decide (i * j < i * j))]) (fun n H' => Same (upd H t (.lst [.bl (decide (i * l < k * j)), .bl (decide (k * j < i * l)), .bl (decide (i * j < i * j))])) H' ∧ H' D = some (.lst ((List.replicate n true).map V.bl))) ⟨same_upd nD, upd_same⟩ (fun n H' _ hP => SqL.of (hP.1 _ _ et)) ?_ ?_
    · rintro n y H' hy ⟨t8, e8⟩
      obtain ⟨c, rfl⟩ : ∃ c, y = .bl c := by
        have hm := List.mem_of_getElem? hy
        simp only [List.mem_cons, List.not_mem_nil, or_false] at hm
        rcases hm with rfl | rfl | rfl <;> exact ⟨_, rfl⟩
      have hn : n < 3 := (List.getElem?_eq_some_iff.mp hy).1
      refine ⟨rfl, _, rfl, _, .ty "bool", _, _, _, rfl, .ty _, .base (.bl c), kit_ty (b := "bool") (r := true) (by decide +kernel), _, e8, ?_, same_app t8 nD (.refl _), ?_⟩
      · rw [List.length_map, List.length_replicate]
        exact Nat.lt_of_lt_of_le hn (by decide)
      · rw [upd_same, List.replicate_succ', List.map_append]
        rfl
    · rintro H' ⟨t8, e8⟩
      refine ⟨D, _, rfl, SqL.of e8, _, rfl, ifF (by rfl) ?_⟩
      have sm := s1.trans t8
      have ea' := sm _ _ ea
      have eb' := sm _ _ eb
      refine ⟨.ref a, rfl, a, _, 0, _, rfl, rfl, SqT.of ea', atI_nat (j := 0) rfl, .ref b, rfl, b, _, 1, _, rfl, rfl, SqT.of eb', atI_nat (j := 1) rfl, i, l, rfl, rfl, f1.a.cm f2.b (by decide) (by decide) (by decide), ?_⟩
      refine ⟨.ref b, rfl, b, _, 0, _, rfl, rfl, SqT.of eb', atI_nat (j := 0) rfl, .ref a, rfl, a, _, 1, _, rfl, rfl, SqT.of ea', atI_nat (j := 1) rfl, k, j, rfl, rfl, f2.a.cm f1.b (by decide) (by decide) (by decide), _, _, rfl, ?_⟩
      refine ⟨.ref t, rfl, _, rfl, _, rfl, _, _, rfl, rfl, _, rfl, _, rfl, _, _, rfl, rfl, (by show 3 ≤ sizeLine; decide), fun t2 nt2 => ?_⟩
      have s2 := same_upd (o := .lst [.bl (decide (i * l < k * j)), .bl (decide (k * j < i * l)), .bl false]) nt2
      refine ⟨_, _, .lst (SqL.of (s2 _ _ (t8 _ _ et))) (.cons (.bl _) (.cons (.bl _) (.cons (.bl _) .nil))), .lst (SqL.of upd_same) (.cons (.bl _) (.cons (.bl _) (.cons (.bl _) .nil))), rfl, rfl, ?_⟩
      rw [decide_eq_false (show ¬ i * j < i * j by omega), eqv_bl3]
      exact q _ (sm.trans s2)
end
end G
set_option Elab.async false
set_option linter.all false
set_option maxRecDepth 100000
set_option maxHeartbeats 2000000
namespace G
open PySem PySem.Spec PyProof.Rows L2 TL
section
variable {P : Program} {w : World} {K : PySem.W.Frag} {mg : Str → Option Value} {base : Heap}
theorem two_ne {H : Hp} {t p : Addr} {i j : Int} (e : Two H t i j) (h : Pot H p) : t ≠ p := fun z => by
  obtain ⟨_, _, q, _⟩ := h
  rw [← z, e] at q
  cases q
abbrev sLaw : Stmt := topS 21
theorem scLaw : FnScope ["_law_script", "_law_k", "_law_pot_here", "_law_first", "_law_second", "_law_a", "_law_b", "_law_c", "_law_d", "_law_both"] ["_law_script"] (defScope sLaw) := ⟨rfl, rfl, rfl, by decide +kernel, rfl, by decide +kernel, by decide +kernel⟩
def spLaw (K : PySem.W.Frag) : Sp := fun vs H Q _ => ∃ (a : Addr) (ns : List Int), vs = [.ref a] ∧ SqL K H a (ns.map V.int) ∧ ns.length ≤ 63 ∧ ∀ H', Q (.bl true) H'
def uP (i j k l : Int) : Int := i * l + k * j
def uM (i j k l : Int) : Int := i * l - k * j
def uT (i _ k _ : Int) : Int := i * k
def dP (_ j _ l : Int) : Int := j * l
theorem ok_law {f fP fD fT fA fM fX fI fQ fR : Addr} {fd fdP fdD fdT fdA fdM fdX fdI fdQ fdR : FuncData} (F : Fun K "law" "law" sLaw f fd)
    (FP : Fun K "_law_pot" "_law_pot" sPot fP fdP) (bP : Binds K fdP ["_law_script", "_law_k"] []) (gP : mg "_law_pot" = some (.ref fP)) (GP : FnOk P w K mg base CX0 1 fP fdP ["_law_script", "_law_k"] (spPot K))
    (FD : Fun K "_law_drawn" "_law_drawn" sDr fD fdD) (bD : Binds K fdD ["_law_pot_here"] []) (gD : mg "_law_drawn" = some (.ref fD)) (GD : FnOk P w K mg base CX0 3 fD fdD ["_law_pot_here"] spDr)
    (FT : Fun K "_law_take" "_law_take" sTake fT fdT) (bT : Binds K fdT ["_law_pot_here", "_law_many"] []) (gT : mg "_law_take" = some (.ref fT)) (GT : FnOk P w K mg base CX0 1 fT fdT ["_law_pot_here", "_law_many"] spTake)
    (FA : Fun K "plus" "plus" sPlus fA fdA) (bA : Binds K fdA ["one", "other"] []) (gA : mg "plus" = some (.ref fA)) (kA : KBn K fdA ["one", "other"] 0 ["other", "one"] swp swp) (GA : FnOk P w K mg base CX0 3 fA fdA ["one", "other"] (spOp uP dP fun _ => True))
    (FM : Fun K "minus" "minus" sMinus fM fdM) (bM : Binds K fdM ["one", "other"] []) (gM : mg "minus" = some (.ref fM)) (kM : KBn K fdM ["one", "other"] 0 ["other", "one"] swp swp) (GM : FnOk P w K mg base CX0 3 fM fdM ["one", "other"] (spOp uM dP fun _ => True))
    (FX : Fun K "times" "times" sTimes fX fdX) (bX : Binds K fdX ["one", "other"] []) (gX : mg "times" = some (.ref fX)) (kX : KBn K fdX ["one", "other"] 0 ["other", "one"] swp swp) (GX : FnOk P w K mg base CX0 3 fX fdX ["one", "other"] (spOp uT dP fun _ => True))
    (FI : Fun K "_law_is" "_law_is" sIs fI fdI) (bI : Binds K fdI ["_law_found", "_law_top", "_law_bottom"] []) (gI : mg "_law_is" = some (.ref fI)) (GI : FnOk P w K mg base CX0 3 fI fdI ["_law_found", "_law_top", "_law_bottom"] spIs)
    (FQ : Fun K "_law_quotient_right" "_law_quotient_right" sQ fQ fdQ) (bQ : Binds K fdQ ["_law_first", "_law_second"] []) (gQ : mg "_law_quotient_right" = some (.ref fQ)) (GQ : FnOk P w K mg base CX0 4 fQ fdQ ["_law_first", "_law_second"] spQ)
    (FR : Fun K "_law_less_right" "_law_less_right" sLR fR fdR) (bR : Binds K fdR ["_law_first", "_law_second"] []) (gR : mg "_law_less_right" = some (.ref fR)) (GR : FnOk P w K mg base CX0 2 fR fdR ["_law_first", "_law_second"] spQ)
    (mR : mg "range" = none) (mMx : mg "max" = none) (mMn : mg "min" = none) (mL : mg "len" = none) (mInt : mg "int" = none) (mRe : mg "repr" = none) : FnG P w K mg base 5 f fd ["_law_script"] (spLaw K) := by
  refine Fun.okG F scLaw (fun vs H Q E h => ?_) (fun cdv A outer s H vs Q E gd hr h => ?_)
  · obtain ⟨a, ns, rfl, _⟩ := h
    rfl
  · obtain ⟨a, ns, rfl, hS, hlen, q⟩ := h
    have hr1 := hr.mono (show 1 ≤ 4 by decide)
    have hr2 := hr.mono (show 2 ≤ 4 by decide)
    have hr3 := hr.mono (show 3 ≤ 4 by decide)
    refine ⟨_, pss_cons (ps_for PassesOwn.never rfl (pi_range1 (by rfl) mR (pa_cons (pe_callB (call_max2 rfl) (by rfl) mMx (by decide +kernel) (pa_cons pe_int (pa_cons (pe_callB (call_min2 rfl) (by rfl) mMn (by decide +kernel) (pa_cons pe_int (pa_cons (pe_callB call_len_seq (by rfl) mL PySem.boot_len (pa_cons (pv 0) pa_nil)) pa_nil))) pa_nil))) pa_nil)) (pg_name (i := 1) scLaw.nd rfl (.inl rfl))
        (pss_cons (ps_set (i := 2) scLaw.nd rfl (.inl rfl) (pe_call GP hr1 (by rfl) gP FP.kp bP .nil pass0 (pa_cons (pv 0) (pa_cons (pv 1) pa_nil))))
        (pss_cons (ps_set (i := 3) scLaw.nd rfl (.inl rfl) (pe_call GD hr3 (by rfl) gD FD.kp bD .nil pass0 (pa_cons (pv 2) pa_nil)))
        (C8.pss_cut (ps_set (i := 4) scLaw.nd rfl (.inl rfl) (pe_ix ix_list (pe_lst (pa_cons (pe_call GD hr3 (by rfl) gD FD.kp bD .nil pass0 (pa_cons (pv 2) pa_nil)) (pa_cons (pv 3) pa_nil))) (pe_callTy call_int1 (by rfl) mInt (by decide +kernel) (pa_cons (pe_cmpR op_eq (pe_call GT hr1 (by rfl) gT FT.kp bT .nil pass0 (pa_cons (pv 2) (pa_cons pe_int pa_nil))) pe_int (nomark _)) pa_nil)) (fun _ _ => rfl)))
        (pss_cons (ps_asg (pv 3) (pg_tup (by rfl) (pgs_cons (pg_name (i := 5) scLaw.nd rfl (.inl rfl)) (pgs_cons (pg_name (i := 6) scLaw.nd rfl (.inl rfl)) pgs_nil))))
        (pss_cons (ps_asg (pv 4) (pg_tup (by rfl) (pgs_cons (pg_name (i := 7) scLaw.nd rfl (.inl rfl)) (pgs_cons (pg_name (i := 8) scLaw.nd rfl (.inl rfl)) pgs_nil))))
        (pss_cons (ps_set (i := 9) scLaw.nd rfl (.inl rfl) (pe_call GA hr3 (by rfl) gA FA.kp bA .nil pass0 (pa_cons (pv 3) (pa_cons (pv 4) pa_nil))))
        (pss_cons (ps_if (PW.pt (pw_or (pt_not (pt_val (pe_call GI hr3 (by rfl) gI FI.kp bI .nil pass0 (pa_cons (pv 9) (pa_cons (pe_op op_add (pe_op op_mulW (pv 5) (pv 8)) (pe_op op_mulW (pv 7) (pv 6))) (pa_cons (pe_op op_mulW (pv 6) (pv 8)) pa_nil))))))
          (pw_or1 (pt_not (pt_val (pe_call GI hr3 (by rfl) gI FI.kp bI .nil pass0 (pa_cons (pe_call GM hr3 (by rfl) gM FM.kp bM .nil pass0 (pa_cons (pv 3) (pa_cons (pv 4) pa_nil))) (pa_cons (pe_op op_sub (pe_op op_mulW (pv 5) (pv 8)) (pe_op op_mulW (pv 7) (pv 6))) (pa_cons (pe_op op_mulW (pv 6) (pv 8)) pa_nil))))))))) (pss_one (ps_ret pe_bl)) pss_nil)
        (pss_cons (ps_if (PW.pt (pw_or (pt_not (pt_val (pe_call GI hr3 (by rfl) gI FI.kp bI .nil pass0 (pa_cons (pe_call GX hr3 (by rfl) gX FX.kp bX .nil pass0 (pa_cons (pv 3) (pa_cons (pv 4) pa_nil))) (pa_cons (pe_op op_mulW (pv 5) (pv 7)) (pa_cons (pe_op op_mulW (pv 6) (pv 8)) pa_nil))))))
          (pw_or1 (pt_not (pt_val (pe_call GQ hr (by rfl) gQ FQ.kp bQ .nil pass0 (pa_cons (pv 3) (pa_cons (pv 4) pa_nil)))))))) (pss_one (ps_ret pe_bl)) pss_nil)
        (pss_cons (ps_if (pt_cmpR op_ne (pe_callB (cr_repr gd hr.units) (by rfl) mRe (by decide +kernel) (pa_cons (pe_lst (pa_cons (pe_callN0 GA hr3 (by rfl) gA FA.kp kA pass0 (pk_cons (pv 4) (pk_cons (pv 3) pk_nil))) (pa_cons (pe_callN0 GM hr3 (by rfl) gM FM.kp kM pass0 (pk_cons (pv 4) (pk_cons (pv 9) pk_nil))) pa_nil))) pa_nil))
          (pe_callB (cr_repr gd hr.units) (by rfl) mRe (by decide +kernel) (pa_cons (pe_lst (pa_cons (pv 9) (pa_cons (pv 3) pa_nil))) pa_nil)) (nomark _)) (pss_one (ps_ret pe_bl)) pss_nil)
        (pss_one (ps_if (PW.pt (pw_or (pt_cmpR (op_neD hr.units) (pe_callN0 GX hr3 (by rfl) gX FX.kp kX pass0 (pk_cons (pv 4) (pk_cons (pv 3) pk_nil))) (pe_call GX hr3 (by rfl) gX FX.kp bX .nil pass0 (pa_cons (pv 3) (pa_cons (pv 4) pa_nil))) (nomark _)) (pw_or1 (pt_not (pt_val (pe_call GR hr2 (by rfl) gR FR.kp bR .nil pass0 (pa_cons (pv 3) (pa_cons (pv 4) pa_nil)))))))) (pss_one (ps_ret pe_bl)) pss_nil))))))))))))
      (pss_one (ps_ret pe_bl)), ?_⟩
    refine ⟨.ref a, rfl, a, _, rfl, .inl hS, 6, _, rfl, 1, _, rfl, _, rfl, ?_, ?_, ?_⟩
    · rw [List.length_map]
      split <;> (split <;> omega)
    · rw [List.length_map]
      split <;> (split <;> omega)
    have hn : (if (if (((ns.map V.int).length : Nat) : Int) < 6 then (((ns.map V.int).length : Nat) : Int) else 6) > 1 then (if (((ns.map V.int).length : Nat) : Int) < 6 then (((ns.map V.int).length : Nat) : Int) else 6) else 1).toNat ≤ 6 := by
      split <;> (split <;> omega)
    refine for_range (fun k σ' H' => ∃ y1 y2 y3 y4 y5 y6 y7 y8 y9, σ' = [some (.ref a), y1, y2, y3, y4, y5, y6, y7, y8, y9] ∧ Same H H') ⟨_, _, _, _, _, _, _, _, _, rfl, .refl _⟩ ?_ ?_
    · rintro n σ' H1 hk ⟨y1, y2, y3, y4, y5, y6, y7, y8, y9, rfl, s1⟩
      have hk8 : n < 64 := by omega
      -- the pot, the first one
      refine ⟨.ref a, rfl, _, rfl, a, ns, n, by rw [Int.zero_add]; rfl, s1.seq hS, hk8, fun H2 p s2 np hp => ?_⟩
      refine ⟨.ref p, rfl, p, rfl, hp, fun H3 t i j k3 p3 et nt fr hf => ?_⟩
      have sa : Same H1 H3 := same_keep_new s2 np k3
      -- the second one
      refine ⟨fun σ' H' => ∃ (u : Addr) (k l : Int), σ' = [some (.ref a), some (.int (0 + (n : Int))), some (.ref p), some (.ref t), some (.ref u), y5, y6, y7, y8, y9] ∧ Same H1 H' ∧ Two H' t i j ∧ Two H' u k l ∧ Fr 67 k l, ?_, ?_⟩
      · refine ⟨.ref p, rfl, p, rfl, p3, fun H4 u k l k4 p4 eu nu fru hfu => ?_⟩
        refine ⟨.ref t, rfl, (by show 2 ≤ sizeLine; decide), fun m nm => ?_⟩
        refine ⟨.ref p, rfl, p, 4, rfl, pot_upd p4 nm, by decide, by decide, fun H5 d k5 p5 ld ud => ?_⟩
        have nmp : m ≠ p := fun z => p4.ne nm z.symm
        have em : H5 m = some (.lst [.ref u, .ref t]) := k5 _ _ nmp upd_same
        have t4 : Two H4 t i j := k4 _ _ (two_ne et p3) et
        have t5 : Two H5 t i j := k5 _ _ (two_ne et p3) (same_upd nm _ _ t4)
        have u5 : Two H5 u k l := k5 _ _ (two_ne eu p4) (same_upd nm _ _ eu)
        have sb : Same H1 H5 := same_keep_new s2 np (((k3.trans k4).trans (same_keep (same_upd nm))).trans k5)
        refine ⟨rfl, .inr ⟨_, rfl, ?_⟩⟩
        by_cases h0 : d = 0
        · refine ⟨m, _, _, .ref t, rfl, rfl, SqL.of em, ?_, t, i, j, rfl, sb, t5, t5, hf⟩
          rw [decide_eq_true (congrArg V.int h0)]
          exact atI_nat (j := 1) rfl
        · refine ⟨m, _, _, .ref u, rfl, rfl, SqL.of em, ?_, u, k, l, rfl, sb, t5, u5, hfu⟩
          rw [decide_eq_false (show ¬ V.int d = V.int 0 from fun z => h0 (V.int.inj z))]
          exact atI_nat (j := 0) rfl
      rintro σ' H4 ⟨u, k, l, rfl, s4, et4, eu4, hfu⟩
      have g1 := hf.mono (show 67 ≤ 1000 by decide)
      have g2 := hfu.mono (show 67 ≤ 1000 by decide)
      have jl : j * l ≠ 0 := mul_ne hf.p hfu.p
      refine ⟨.ref t, rfl, t, _, rfl, SqT.of et4, rfl, _, _, rfl, _, _, rfl, rfl, ?_⟩
      refine ⟨.ref u, rfl, u, _, rfl, SqT.of eu4, rfl, _, _, rfl, _, _, rfl, rfl, ?_⟩
      -- both
      refine ⟨.ref t, rfl, .ref u, rfl, t, u, i, j, k, l, rfl, et4, eu4, g1, g2, trivial, fun o no => ?_⟩
      have z1 := same_upd (o := .tup [.int (low1 (uP i j k l) (dP i j k l)), .int (low2 (uP i j k l) (dP i j k l))]) no
      have eo : Two (upd H4 o (.tup [.int (low1 (uP i j k l) (dP i j k l)), .int (low2 (uP i j k l) (dP i j k l))])) o (low1 (uP i j k l) (dP i j k l)) (low2 (uP i j k l) (dP i j k l)) := upd_same
      have et5 := z1 _ _ et4
      have eu5 := z1 _ _ eu4
      have sP : Sz 135 (uP i j k l) := ((hf.a.mul hfu.b).add (hfu.a.mul hf.b))
      have sM : Sz 135 (uM i j k l) := ((hf.a.mul hfu.b).sub (hfu.a.mul hf.b))
      have sT : Sz 134 (uT i j k l) := hf.a.mul hfu.a
      have sD : Sz 134 (dP i j k l) := hf.b.mul hfu.b
      have fP := Fr.low sP (sD.mono (show 134 ≤ 135 by decide)) jl
      have fM := Fr.low sM (sD.mono (show 134 ≤ 135 by decide)) jl
      have fT := Fr.low sT sD jl
      generalize (upd H4 o (.tup [.int (low1 (uP i j k l) (dP i j k l)), .int (low2 (uP i j k l) (dP i j k l))])) = H5 at z1 eo et5 eu5
      have s5 := s4.trans z1
      -- the sum is right
      refine ⟨_, rfl, _, rfl, _, rfl, i, l, rfl, rfl, hf.a.cm hfu.b (by decide) (by decide) (by decide), _, rfl, _, rfl, k, j, rfl, rfl, hfu.a.cm hf.b (by decide) (by decide) (by decide), _, _, rfl, rfl, _, rfl, _, rfl, j, l, rfl, rfl, hf.b.cm hfu.b (by decide) (by decide) (by decide), ?_⟩
      refine ⟨o, _, _, uP i j k l, dP i j k l, rfl, eo, low_fr jl, low_cross _ _ jl, fP.a.mono (by decide), fP.b.mono (by decide), sP.mono (by decide), sD.mono (by decide), fun H6 z6 => ⟨_, rfl, iteF ?_⟩⟩
      -- the difference
      refine ⟨.ref t, rfl, .ref u, rfl, t, u, i, j, k, l, rfl, z6 _ _ et5, z6 _ _ eu5, g1, g2, trivial, fun o2 no2 => ?_⟩
      have z7 := same_upd (o := .tup [.int (low1 (uM i j k l) (dP i j k l)), .int (low2 (uM i j k l) (dP i j k l))]) no2
      refine ⟨_, rfl, _, rfl, i, l, rfl, rfl, hf.a.cm hfu.b (by decide) (by decide) (by decide), _, rfl, _, rfl, k, j, rfl, rfl, hfu.a.cm hf.b (by decide) (by decide) (by decide), _, _, rfl, rfl, _, rfl, _, rfl, j, l, rfl, rfl, hf.b.cm hfu.b (by decide) (by decide) (by decide), ?_⟩
      refine ⟨o2, _, _, uM i j k l, dP i j k l, rfl, upd_same, low_fr jl, low_cross _ _ jl, fM.a.mono (by decide), fM.b.mono (by decide), sM.mono (by decide), sD.mono (by decide), fun H7 z8 => ⟨_, rfl, iteF ?_⟩⟩
      have z9 := (z6.trans z7).trans z8
      -- the product
      refine ⟨.ref t, rfl, .ref u, rfl, t, u, i, j, k, l, rfl, z9 _ _ et5, z9 _ _ eu5, g1, g2, trivial, fun o3 no3 => ?_⟩
      have z10 := same_upd (o := .tup [.int (low1 (uT i j k l) (dP i j k l)), .int (low2 (uT i j k l) (dP i j k l))]) no3
      refine ⟨_, rfl, _, rfl, i, k, rfl, rfl, hf.a.cm hfu.a (by decide) (by decide) (by decide), _, rfl, _, rfl, j, l, rfl, rfl, hf.b.cm hfu.b (by decide) (by decide) (by decide), ?_⟩
      refine ⟨o3, _, _, uT i j k l, dP i j k l, rfl, upd_same, low_fr jl, low_cross _ _ jl, fT.a.mono (by decide), fT.b.mono (by decide), sT.mono (by decide), sD.mono (by decide), fun H8 z11 => ⟨_, rfl, iteF ?_⟩⟩
      have z12 := (z9.trans z10).trans z11
      -- the quotient
      refine ⟨.ref t, rfl, .ref u, rfl, t, u, i, j, k, l, rfl, z12 _ _ et5, z12 _ _ eu5, hf, hfu, fun H9 z13 => ⟨_, rfl, iteF ?_⟩⟩
      have z14 := z12.trans z13
      -- by name: the same sum, and the first one again
      refine ⟨.ref u, rfl, .ref t, rfl, rfl, t, u, i, j, k, l, rfl, z14 _ _ et5, z14 _ _ eu5, g1, g2, trivial, fun o4 no4 => ?_⟩
      have z15 := same_upd (o := .tup [.int (low1 (uP i j k l) (dP i j k l)), .int (low2 (uP i j k l) (dP i j k l))]) no4
      refine ⟨.ref u, rfl, .ref o, rfl, rfl, o, u, _, _, k, l, rfl, z15 _ _ (z14 _ _ eo), z15 _ _ (z14 _ _ eu5), fP.mono (by decide), g2, trivial, fun o5 no5 => ?_⟩
      obtain ⟨pm1, pm2⟩ := plus_minus (k := k) hf.p hfu.p fr
      rw [show low1 (uM (low1 (uP i j k l) (dP i j k l)) (low2 (uP i j k l) (dP i j k l)) k l) (dP (low1 (uP i j k l) (dP i j k l)) (low2 (uP i j k l) (dP i j k l)) k l) = i from pm1, show low2 (uM (low1 (uP i j k l) (dP i j k l)) (low2 (uP i j k l) (dP i j k l)) k l) (dP (low1 (uP i j k l) (dP i j k l)) (low2 (uP i j k l) (dP i j k l)) k l) = j from pm2]
      have z16 := same_upd (o := .tup [.int i, .int j]) no5
      obtain ⟨w1, w2, w3, w4⟩ := two2_ok (log_of fP.a (by decide) (by decide)) (log_of fP.b (by decide) (by decide)) (log_of hf.a (by decide) (by decide)) (log_of hf.b (by decide) (by decide))
      refine ⟨(by show 2 ≤ sizeLine; decide), fun o6 no6 => ?_⟩
      have z17 := same_upd (o := .lst [.ref o4, .ref o5]) no6
      refine ⟨o6, two2 (low1 (uP i j k l) (dP i j k l)) (low2 (uP i j k l) (dP i j k l)) i j, rfl, .lst (SqL.of upd_same) (.cons (.tup (SqT.of (z17 _ _ (z16 _ _ upd_same))) (.cons (.int _) (.cons (.int _) .nil))) (.cons (.tup (SqT.of (z17 _ _ upd_same)) (.cons (.int _) (.cons (.int _) .nil))) .nil)), w1, w2, w3, w4, ?_⟩
      have z18 := ((z14.trans z15).trans z16).trans z17
      refine ⟨.ref o, rfl, .ref t, rfl, (by show 2 ≤ sizeLine; decide), fun o7 no7 => ?_⟩
      have z19 := same_upd (o := .lst [.ref o, .ref t]) no7
      refine ⟨o7, two2 (low1 (uP i j k l) (dP i j k l)) (low2 (uP i j k l) (dP i j k l)) i j, rfl, .lst (SqL.of upd_same) (.cons (.tup (SqT.of (z19 _ _ (z18 _ _ eo))) (.cons (.int _) (.cons (.int _) .nil))) (.cons (.tup (SqT.of (z19 _ _ (z18 _ _ et5))) (.cons (.int _) (.cons (.int _) .nil))) .nil)), w1, w2, w3, w4, ?_⟩
      refine ⟨rfl, _, rfl, ifF (by rw [decide_eq_true rfl]; rfl) ?_⟩
      have z20 := z18.trans z19
      -- the product by name, and which is less
      refine ⟨.ref u, rfl, .ref t, rfl, rfl, t, u, i, j, k, l, rfl, z20 _ _ et5, z20 _ _ eu5, g1, g2, trivial, fun o8 no8 => ?_⟩
      have z21 := same_upd (o := .tup [.int (low1 (uT i j k l) (dP i j k l)), .int (low2 (uT i j k l) (dP i j k l))]) no8
      refine ⟨.ref t, rfl, .ref u, rfl, t, u, i, j, k, l, rfl, z21 _ _ (z20 _ _ et5), z21 _ _ (z20 _ _ eu5), g1, g2, trivial, fun o9 no9 => ?_⟩
      have z22 := same_upd (o := .tup [.int (low1 (uT i j k l) (dP i j k l)), .int (low2 (uT i j k l) (dP i j k l))]) no9
      refine ⟨_, _, .tup (SqT.of (z22 _ _ upd_same)) (.cons (.int _) (.cons (.int _) .nil)), .tup (SqT.of upd_same) (.cons (.int _) (.cons (.int _) .nil)), rfl, rfl, _, rfl, ifF (by rw [eqv_two, beq_self_eq_true, beq_self_eq_true]; rfl) ?_⟩
      have z23 := (z20.trans z21).trans z22
      refine ⟨.ref t, rfl, .ref u, rfl, t, u, i, j, k, l, rfl, z23 _ _ et5, z23 _ _ eu5, hf, hfu, fun H10 z24 => ⟨_, rfl, iteF ?_⟩⟩
      exact ⟨_, _, _, _, _, _, _, _, _, rfl, ((s1.trans s5).trans z23).trans z24⟩
    · rintro σ' H1 ⟨y1, y2, y3, y4, y5, y6, y7, y8, y9, rfl, s1⟩
      exact q _
end
end G
set_option Elab.async false
set_option linter.all false
set_option maxRecDepth 100000
set_option maxHeartbeats 1000000
namespace G
open PySem PySem.Spec PyProof.Rows L2 TL
theorem all_mk {l : PySem.W.OpenLaw} {w : World} {K : PySem.W.Frag} {h : Heap} {mg : Str → Option Value} {fa C S : Addr} (X : K.In h) (G : h.Ns mainGlobals mg) (hfa : mg "law" = some (.ref fa))
    {f1 f2 f3 f4 f5 f6 f7 f8 f9 f10 f11 f12 f13 f14 f15 f16 f17 : Addr}
    {od1 an1 od2 an2 od3 an3 od4 an4 od5 an5 od6 an6 od7 an7 od8 an8 od9 an9 od10 an10 od11 an11 od12 an12 od13 an13 od14 an14 od15 an15 od16 an16 od17 an17 : Option Addr} {sl1 sl2 sl3 sl4 sl5 sl6 sl7 sl8 sl9 sl10 sl11 sl12 sl13 sl14 sl15 sl16 sl17 : Array (Option Value)} {oc1 kV1 dc1 pm1 cd1 ct1 oc2 kV2 dc2 pm2 cd2 ct2 oc3 kV3 dc3 pm3 cd3 ct3 oc4 kV4 dc4 pm4 cd4 ct4 oc5 kV5 dc5 pm5 cd5 ct5 oc6 kV6 dc6 pm6 cd6 ct6 oc7 kV7 dc7 pm7 cd7 ct7 oc8 kV8 dc8 pm8 cd8 ct8 oc9 kV9 dc9 pm9 cd9 ct9 oc10 kV10 dc10 pm10 cd10 ct10 oc11 kV11 dc11 pm11 cd11 ct11 oc12 kV12 dc12 pm12 cd12 ct12 oc13 kV13 dc13 pm13 cd13 ct13 oc14 kV14 dc14 pm14 cd14 ct14 oc15 kV15 dc15 pm15 cd15 ct15 oc16 kV16 dc16 pm16 cd16 ct16 oc17 kV17 dc17 pm17 cd17 ct17 : Value}
    (a1 : PySem.W.nsIn K mainGlobals "common_measure" = some (some (.ref f1))) (l1 : K.lookup f1 = some ⟨oc1, od1, .func (PySem.W.fnOf "common_measure" "common_measure" (defArgs sMeas) (defBody sMeas) (defScope sMeas) .none kV1 dc1 pm1 an1 cd1 ct1), sl1⟩) (c1 : PySem.W.codeIn K cd1 "common_measure" = true) (k1 : PySem.W.keepIn K (.ref f1) = true)
    (a2 : PySem.W.nsIn K mainGlobals "fraction" = some (some (.ref f2))) (l2 : K.lookup f2 = some ⟨oc2, od2, .func (PySem.W.fnOf "fraction" "fraction" (defArgs sFrac) (defBody sFrac) (defScope sFrac) .none kV2 dc2 pm2 an2 cd2 ct2), sl2⟩) (c2 : PySem.W.codeIn K cd2 "fraction" = true) (k2 : PySem.W.keepIn K (.ref f2) = true)
    (a3 : PySem.W.nsIn K mainGlobals "plus" = some (some (.ref f3))) (l3 : K.lookup f3 = some ⟨oc3, od3, .func (PySem.W.fnOf "plus" "plus" (defArgs sPlus) (defBody sPlus) (defScope sPlus) .none kV3 dc3 pm3 an3 cd3 ct3), sl3⟩) (c3 : PySem.W.codeIn K cd3 "plus" = true) (k3 : PySem.W.keepIn K (.ref f3) = true)
    (a4 : PySem.W.nsIn K mainGlobals "minus" = some (some (.ref f4))) (l4 : K.lookup f4 = some ⟨oc4, od4, .func (PySem.W.fnOf "minus" "minus" (defArgs sMinus) (defBody sMinus) (defScope sMinus) .none kV4 dc4 pm4 an4 cd4 ct4), sl4⟩) (c4 : PySem.W.codeIn K cd4 "minus" = true) (k4 : PySem.W.keepIn K (.ref f4) = true)
    (a5 : PySem.W.nsIn K mainGlobals "times" = some (some (.ref f5))) (l5 : K.lookup f5 = some ⟨oc5, od5, .func (PySem.W.fnOf "times" "times" (defArgs sTimes) (defBody sTimes) (defScope sTimes) .none kV5 dc5 pm5 an5 cd5 ct5), sl5⟩) (c5 : PySem.W.codeIn K cd5 "times" = true) (k5 : PySem.W.keepIn K (.ref f5) = true)
    (a6 : PySem.W.nsIn K mainGlobals "over" = some (some (.ref f6))) (l6 : K.lookup f6 = some ⟨oc6, od6, .func (PySem.W.fnOf "over" "over" (defArgs sOver) (defBody sOver) (defScope sOver) .none kV6 dc6 pm6 an6 cd6 ct6), sl6⟩) (c6 : PySem.W.codeIn K cd6 "over" = true) (k6 : PySem.W.keepIn K (.ref f6) = true)
    (a7 : PySem.W.nsIn K mainGlobals "is_less" = some (some (.ref f7))) (l7 : K.lookup f7 = some ⟨oc7, od7, .func (PySem.W.fnOf "is_less" "is_less" (defArgs sLess) (defBody sLess) (defScope sLess) .none kV7 dc7 pm7 an7 cd7 ct7), sl7⟩) (c7 : PySem.W.codeIn K cd7 "is_less" = true) (k7 : PySem.W.keepIn K (.ref f7) = true)
    (a8 : PySem.W.nsIn K mainGlobals "_law_pot" = some (some (.ref f8))) (l8 : K.lookup f8 = some ⟨oc8, od8, .func (PySem.W.fnOf "_law_pot" "_law_pot" (defArgs sPot) (defBody sPot) (defScope sPot) .none kV8 dc8 pm8 an8 cd8 ct8), sl8⟩) (c8 : PySem.W.codeIn K cd8 "_law_pot" = true) (k8 : PySem.W.keepIn K (.ref f8) = true)
    (a9 : PySem.W.nsIn K mainGlobals "_law_take" = some (some (.ref f9))) (l9 : K.lookup f9 = some ⟨oc9, od9, .func (PySem.W.fnOf "_law_take" "_law_take" (defArgs sTake) (defBody sTake) (defScope sTake) .none kV9 dc9 pm9 an9 cd9 ct9), sl9⟩) (c9 : PySem.W.codeIn K cd9 "_law_take" = true) (k9 : PySem.W.keepIn K (.ref f9) = true)
    (a10 : PySem.W.nsIn K mainGlobals "_law_below" = some (some (.ref f10))) (l10 : K.lookup f10 = some ⟨oc10, od10, .func (PySem.W.fnOf "_law_below" "_law_below" (defArgs sBelow) (defBody sBelow) (defScope sBelow) .none kV10 dc10 pm10 an10 cd10 ct10), sl10⟩) (c10 : PySem.W.codeIn K cd10 "_law_below" = true) (k10 : PySem.W.keepIn K (.ref f10) = true)
    (a11 : PySem.W.nsIn K mainGlobals "_law_lowest" = some (some (.ref f11))) (l11 : K.lookup f11 = some ⟨oc11, od11, .func (PySem.W.fnOf "_law_lowest" "_law_lowest" (defArgs sLow) (defBody sLow) (defScope sLow) .none kV11 dc11 pm11 an11 cd11 ct11), sl11⟩) (c11 : PySem.W.codeIn K cd11 "_law_lowest" = true) (k11 : PySem.W.keepIn K (.ref f11) = true)
    (a12 : PySem.W.nsIn K mainGlobals "_law_is_fraction" = some (some (.ref f12))) (l12 : K.lookup f12 = some ⟨oc12, od12, .func (PySem.W.fnOf "_law_is_fraction" "_law_is_fraction" (defArgs sLF) (defBody sLF) (defScope sLF) .none kV12 dc12 pm12 an12 cd12 ct12), sl12⟩) (c12 : PySem.W.codeIn K cd12 "_law_is_fraction" = true) (k12 : PySem.W.keepIn K (.ref f12) = true)
    (a13 : PySem.W.nsIn K mainGlobals "_law_drawn" = some (some (.ref f13))) (l13 : K.lookup f13 = some ⟨oc13, od13, .func (PySem.W.fnOf "_law_drawn" "_law_drawn" (defArgs sDr) (defBody sDr) (defScope sDr) .none kV13 dc13 pm13 an13 cd13 ct13), sl13⟩) (c13 : PySem.W.codeIn K cd13 "_law_drawn" = true) (k13 : PySem.W.keepIn K (.ref f13) = true)
    (a14 : PySem.W.nsIn K mainGlobals "_law_is" = some (some (.ref f14))) (l14 : K.lookup f14 = some ⟨oc14, od14, .func (PySem.W.fnOf "_law_is" "_law_is" (defArgs sIs) (defBody sIs) (defScope sIs) .none kV14 dc14 pm14 an14 cd14 ct14), sl14⟩) (c14 : PySem.W.codeIn K cd14 "_law_is" = true) (k14 : PySem.W.keepIn K (.ref f14) = true)
    (a15 : PySem.W.nsIn K mainGlobals "_law_quotient_right" = some (some (.ref f15))) (l15 : K.lookup f15 = some ⟨oc15, od15, .func (PySem.W.fnOf "_law_quotient_right" "_law_quotient_right" (defArgs sQ) (defBody sQ) (defScope sQ) .none kV15 dc15 pm15 an15 cd15 ct15), sl15⟩) (c15 : PySem.W.codeIn K cd15 "_law_quotient_right" = true) (k15 : PySem.W.keepIn K (.ref f15) = true)
    (a16 : PySem.W.nsIn K mainGlobals "_law_less_right" = some (some (.ref f16))) (l16 : K.lookup f16 = some ⟨oc16, od16, .func (PySem.W.fnOf "_law_less_right" "_law_less_right" (defArgs sLR) (defBody sLR) (defScope sLR) .none kV16 dc16 pm16 an16 cd16 ct16), sl16⟩) (c16 : PySem.W.codeIn K cd16 "_law_less_right" = true) (k16 : PySem.W.keepIn K (.ref f16) = true)
    (a17 : PySem.W.nsIn K mainGlobals "law" = some (some (.ref f17))) (l17 : K.lookup f17 = some ⟨oc17, od17, .func (PySem.W.fnOf "law" "law" (defArgs sLaw) (defBody sLaw) (defScope sLaw) .none kV17 dc17 pm17 an17 cd17 ct17), sl17⟩) (c17 : PySem.W.codeIn K cd17 "law" = true) (k17 : PySem.W.keepIn K (.ref f17) = true)
    (z1 : PySem.W.nsIn K mainGlobals "abs" = some none)
    (z2 : PySem.W.nsIn K mainGlobals "isinstance" = some none)
    (z3 : PySem.W.nsIn K mainGlobals "int" = some none)
    (z4 : PySem.W.nsIn K mainGlobals "bool" = some none)
    (z5 : PySem.W.nsIn K mainGlobals "tuple" = some none)
    (z6 : PySem.W.nsIn K mainGlobals "len" = some none)
    (z7 : PySem.W.nsIn K mainGlobals "any" = some none)
    (z8 : PySem.W.nsIn K mainGlobals "max" = some none)
    (z9 : PySem.W.nsIn K mainGlobals "min" = some none)
    (z10 : PySem.W.nsIn K mainGlobals "range" = some none)
    (z11 : PySem.W.nsIn K mainGlobals "divmod" = some none)
    (z12 : PySem.W.nsIn K mainGlobals "all" = some none)
    (z13 : PySem.W.nsIn K mainGlobals "repr" = some none)
    (z14 : PySem.W.nsIn K mainGlobals "ValueError" = some none)
    (aC : PySem.W.nsIn K mainGlobals "NoFraction" = some (some (.ref C))) (aS : PySem.W.nsIn K mainGlobals "StuffError" = some (some (.ref S)))
    (xP : PySem.W.excIn K C [.type "ValueError", .type "Exception", .type "BaseException", .type "object"] "ValueError.__new__" = true) (kP : PySem.W.keepIn K (.ref C) = true) (bP : PySem.W.subIn K (.ref C) (.type "BaseException") = some true) (tP : PySem.W.typeIn K (.ref C) = some (.type "type"))
    (hd : PySem.W.hasDictIn K C = true) (sC : PySem.W.subIn K (.ref C) (.ref C) = some true) (hg : PySem.W.findIn K (.ref C) "__getattribute__" = some (some (.builtin "BaseException.__getattribute__"))) (hk : PySem.W.findIn K (.ref C) "__getattr__" = some none)
    (hca : PySem.W.findIn K (.ref C) "__class__" = some (some (.builtin "object.__class__"))) (hcn : PySem.W.specialIn K (.builtin "object.__class__") "__get__" = some (some (.builtin "getset_descriptor.__get__"))) (hct : PySem.W.takesIn K (.builtin "object.__class__") = some true) (hcm : PySem.W.mroIn K C (.type "object") = some true)
    (q1 : PySem.W.kitOne K (.ref C) (.ref S) = some true) (q2 : PySem.W.kitOne K (.ref C) (.type "ValueError") = some true) :
    ∃ fd : FuncData, (∀ (s : Shared) (v : Value), BindsTo s fd ⟨[v], []⟩ [("_law_script", v)]) ∧ ∀ base : Heap, K.In base → base.Ns mainGlobals mg → FnG l.prog w K mg base 5 fa fd ["_law_script"] (spLaw K) := by
  have e := hfa.symm.trans (PySem.W.mg_of X G a17)
  cases e
  have F1 := fun_mk (st := sMeas) l1 c1 k1
  have F2 := fun_mk (st := sFrac) l2 c2 k2
  have F3 := fun_mk (st := sPlus) l3 c3 k3
  have F4 := fun_mk (st := sMinus) l4 c4 k4
  have F5 := fun_mk (st := sTimes) l5 c5 k5
  have F6 := fun_mk (st := sOver) l6 c6 k6
  have F7 := fun_mk (st := sLess) l7 c7 k7
  have F8 := fun_mk (st := sPot) l8 c8 k8
  have F9 := fun_mk (st := sTake) l9 c9 k9
  have F10 := fun_mk (st := sBelow) l10 c10 k10
  have F11 := fun_mk (st := sLow) l11 c11 k11
  have F12 := fun_mk (st := sLF) l12 c12 k12
  have F13 := fun_mk (st := sDr) l13 c13 k13
  have F14 := fun_mk (st := sIs) l14 c14 k14
  have F15 := fun_mk (st := sQ) l15 c15 k15
  have F16 := fun_mk (st := sLR) l16 c16 k16
  have F17 := fun_mk (st := sLaw) l17 c17 k17
  have b1 := F1.binds (ps := ["one", "other"]) fun _ _ _ _ _ _ us hl => match us, hl with | [_, _], _ => rfl
  have g1 := PySem.W.mg_of X G a1
  have b2 := F2.binds (ps := ["top", "bottom"]) fun _ _ _ _ _ _ us hl => match us, hl with | [_, _], _ => rfl
  have g2 := PySem.W.mg_of X G a2
  have b3 := F3.binds (ps := ["one", "other"]) fun _ _ _ _ _ _ us hl => match us, hl with | [_, _], _ => rfl
  have g3 := PySem.W.mg_of X G a3
  have y3 := kb_two F3 fun _ _ _ _ _ _ _ _ => rfl
  have b4 := F4.binds (ps := ["one", "other"]) fun _ _ _ _ _ _ us hl => match us, hl with | [_, _], _ => rfl
  have g4 := PySem.W.mg_of X G a4
  have y4 := kb_two F4 fun _ _ _ _ _ _ _ _ => rfl
  have b5 := F5.binds (ps := ["one", "other"]) fun _ _ _ _ _ _ us hl => match us, hl with | [_, _], _ => rfl
  have g5 := PySem.W.mg_of X G a5
  have y5 := kb_two F5 fun _ _ _ _ _ _ _ _ => rfl
  have b6 := F6.binds (ps := ["one", "other"]) fun _ _ _ _ _ _ us hl => match us, hl with | [_, _], _ => rfl
  have g6 := PySem.W.mg_of X G a6
  have y6 := kb_two F6 fun _ _ _ _ _ _ _ _ => rfl
  have b7 := F7.binds (ps := ["one", "other"]) fun _ _ _ _ _ _ us hl => match us, hl with | [_, _], _ => rfl
  have g7 := PySem.W.mg_of X G a7
  have y7 := kb_two F7 fun _ _ _ _ _ _ _ _ => rfl
  have b8 := F8.binds (ps := ["_law_script", "_law_k"]) fun _ _ _ _ _ _ us hl => match us, hl with | [_, _], _ => rfl
  have g8 := PySem.W.mg_of X G a8
  have b9 := F9.binds (ps := ["_law_pot_here", "_law_many"]) fun _ _ _ _ _ _ us hl => match us, hl with | [_, _], _ => rfl
  have g9 := PySem.W.mg_of X G a9
  have b10 := F10.binds (ps := ["_law_pot_here", "_law_many"]) fun _ _ _ _ _ _ us hl => match us, hl with | [_, _], _ => rfl
  have g10 := PySem.W.mg_of X G a10
  have b11 := F11.binds (ps := ["_law_top", "_law_bottom"]) fun _ _ _ _ _ _ us hl => match us, hl with | [_, _], _ => rfl
  have g11 := PySem.W.mg_of X G a11
  have b12 := F12.binds (ps := ["_law_thing"]) fun _ _ _ _ _ _ us hl => match us, hl with | [_], _ => rfl
  have g12 := PySem.W.mg_of X G a12
  have b13 := F13.binds (ps := ["_law_pot_here"]) fun _ _ _ _ _ _ us hl => match us, hl with | [_], _ => rfl
  have g13 := PySem.W.mg_of X G a13
  have b14 := F14.binds (ps := ["_law_found", "_law_top", "_law_bottom"]) fun _ _ _ _ _ _ us hl => match us, hl with | [_, _, _], _ => rfl
  have g14 := PySem.W.mg_of X G a14
  have b15 := F15.binds (ps := ["_law_first", "_law_second"]) fun _ _ _ _ _ _ us hl => match us, hl with | [_, _], _ => rfl
  have g15 := PySem.W.mg_of X G a15
  have b16 := F16.binds (ps := ["_law_first", "_law_second"]) fun _ _ _ _ _ _ us hl => match us, hl with | [_, _], _ => rfl
  have g16 := PySem.W.mg_of X G a16
  have m1 := PySem.W.mg_none_of X G z1
  have m2 := PySem.W.mg_none_of X G z2
  have m3 := PySem.W.mg_none_of X G z3
  have m4 := PySem.W.mg_none_of X G z4
  have m5 := PySem.W.mg_none_of X G z5
  have m6 := PySem.W.mg_none_of X G z6
  have m7 := PySem.W.mg_none_of X G z7
  have m8 := PySem.W.mg_none_of X G z8
  have m9 := PySem.W.mg_none_of X G z9
  have m10 := PySem.W.mg_none_of X G z10
  have m11 := PySem.W.mg_none_of X G z11
  have m12 := PySem.W.mg_none_of X G z12
  have m13 := PySem.W.mg_none_of X G z13
  have m14 := PySem.W.mg_none_of X G z14
  have T : ExT K mg C S := ⟨xP, PySem.W.mg_of X G aC, kP, bP, tP, PySem.W.exm_ref bP hd tP sC, ⟨hg, hk, bP, hd, hca, hcn, hct, hcm⟩, PySem.W.mg_of X G aS, q1, q2⟩
  refine ⟨PySem.W.fnOf "law" "law" (defArgs sLaw) (defBody sLaw) (defScope sLaw) .none kV17 dc17 pm17 an17 cd17 ct17, fun s v => .of_eq rfl, fun base _ _ => ?_⟩
  have GF := ok_LF (P := l.prog) (w := w) (mg := mg) (base := base) F12 F11 b11 g11 m1 m2 m3 m4 m5 m6 m7
  have GR := ok_frac (P := l.prog) (w := w) (mg := mg) (base := base) F2 F1 b1 g1 m1
  have GP := ok_pot (P := l.prog) (w := w) (mg := mg) (base := base) F8 m6 m8
  have GT := ok_take (P := l.prog) (w := w) (mg := mg) (base := base) F9 m11
  have GD := ok_dr (P := l.prog) (w := w) (mg := mg) (base := base) F13 F9 b9 g9 F10 b10 g10 F11 b11 g11 m11 m10 m1
  have GA := ok_plus (P := l.prog) (w := w) (mg := mg) (base := base) F3 F2 b2 g2 GR
  have GM := ok_minus (P := l.prog) (w := w) (mg := mg) (base := base) F4 F2 b2 g2 GR
  have GX := ok_times (P := l.prog) (w := w) (mg := mg) (base := base) F5 F2 b2 g2 GR
  have GO := ok_over (P := l.prog) (w := w) (mg := mg) (base := base) F6 F2 b2 g2 GR
  have GOX := ok_overX (P := l.prog) (w := w) (mg := mg) (base := base) F6 F2 b2 g2 T
  have GI := ok_is (P := l.prog) (w := w) (mg := mg) (base := base) F14 F12 b12 g12 GF
  have GQ := ok_Q (P := l.prog) (w := w) (mg := mg) (base := base) F15 F6 g6 y6 GO GOX F14 b14 g14 GI T m2 m14
  have GLR := ok_LR (P := l.prog) (w := w) (mg := mg) (base := base) F16 F7 b7 g7 y7 m2 m4 m12
  exact ok_law F17 F8 b8 g8 GP F13 b13 g13 GD F9 b9 g9 GT F3 b3 g3 y3 GA F4 b4 g4 y4 GM F5 b5 g5 y5 GX F14 b14 g14 GI F15 b15 g15 GQ F16 b16 g16 GLR m10 m8 m9 m6 m3 m13
end G
set_option Elab.async false
set_option linter.all false
open PySem PySem.W PyProof.Rows
set_option maxRecDepth 100000 in
set_option maxHeartbeats 0 in
theorem PySem.Challenge.cw_stufflists_k12_whole_sums_and_quotients_holds : PySem.Challenge.rw_stufflists_k12_whole_sums_and_quotients.Holds := by
  w_on; o_law; k_head; (case hw => w_witness2)
  k_fill
  refine G.walk_ofG (l := PySem.Challenge.rw_stufflists_k12_whole_sums_and_quotients) (n := 63) (k := 5) (x := "_law_script") (sp := fun w => G.spLaw _) rfl (by decide) rfl ⟨rfl, by decide, by decide⟩ (fun w h Y => PySem.W.kIn_of Y) ?F (fun _ _ a ns hl _ hS => ⟨a, ns, rfl, hS, hl, fun _ => rfl⟩)
  case F =>
    intro w mg fa h KX GN hmg
    refine' G.all_mk KX GN hmg ?a1 ?l1 ?c1 ?k1 ?a2 ?l2 ?c2 ?k2 ?a3 ?l3 ?c3 ?k3 ?a4 ?l4 ?c4 ?k4 ?a5 ?l5 ?c5 ?k5 ?a6 ?l6 ?c6 ?k6 ?a7 ?l7 ?c7 ?k7 ?a8 ?l8 ?c8 ?k8 ?a9 ?l9 ?c9 ?k9 ?a10 ?l10 ?c10 ?k10 ?a11 ?l11 ?c11 ?k11 ?a12 ?l12 ?c12 ?k12 ?a13 ?l13 ?c13 ?k13 ?a14 ?l14 ?c14 ?k14 ?a15 ?l15 ?c15 ?k15 ?a16 ?l16 ?c16 ?k16 ?a17 ?l17 ?c17 ?k17 ?z1 ?z2 ?z3 ?z4 ?z5 ?z6 ?z7 ?z8 ?z9 ?z10 ?z11 ?z12 ?z13 ?z14 ?aC ?aS ?xP ?kP ?bP ?tP ?hd ?sC ?hg ?hk ?hca ?hcn ?hct ?hcm ?q1 ?q2
    (case a1 => first | k_is | rfl)
    (case l1 => first | k_is | rfl)
    (case c1 => first | k_is | rfl)
    (case k1 => first | k_is | rfl)
    (case a2 => first | k_is | rfl)
    (case l2 => first | k_is | rfl)
    (case c2 => first | k_is | rfl)
    (case k2 => first | k_is | rfl)
    (case a3 => first | k_is | rfl)
    (case l3 => first | k_is | rfl)
    (case c3 => first | k_is | rfl)
    (case k3 => first | k_is | rfl)
    (case a4 => first | k_is | rfl)
    (case l4 => first | k_is | rfl)
    (case c4 => first | k_is | rfl)
    (case k4 => first | k_is | rfl)
    (case a5 => first | k_is | rfl)
    (case l5 => first | k_is | rfl)
    (case c5 => first | k_is | rfl)
    (case k5 => first | k_is | rfl)
    (case a6 => first | k_is | rfl)
    (case l6 => first | k_is | rfl)
    (case c6 => first | k_is | rfl)
    (case k6 => first | k_is | rfl)
    (case a7 => first | k_is | rfl)
    (case l7 => first | k_is | rfl)
    (case c7 => first | k_is | rfl)
    (case k7 => first | k_is | rfl)
    (case a8 => first | k_is | rfl)
    (case l8 => first | k_is | rfl)
    (case c8 => first | k_is | rfl)
    (case k8 => first | k_is | rfl)
    (case a9 => first | k_is | rfl)
    (case l9 => first | k_is | rfl)
    (case c9 => first | k_is | rfl)
    (case k9 => first | k_is | rfl)
    (case a10 => first | k_is | rfl)
    (case l10 => first | k_is | rfl)
    (case c10 => first | k_is | rfl)
    (case k10 => first | k_is | rfl)
    (case a11 => first | k_is | rfl)
    (case l11 => first | k_is | rfl)
    (case c11 => first | k_is | rfl)
    (case k11 => first | k_is | rfl)
    (case a12 => first | k_is | rfl)
    (case l12 => first | k_is | rfl)
    (case c12 => first | k_is | rfl)
    (case k12 => first | k_is | rfl)
    (case a13 => first | k_is | rfl)
    (case l13 => first | k_is | rfl)
    (case c13 => first | k_is | rfl)
    (case k13 => first | k_is | rfl)
    (case a14 => first | k_is | rfl)
    (case l14 => first | k_is | rfl)
    (case c14 => first | k_is | rfl)
    (case k14 => first | k_is | rfl)
    (case a15 => first | k_is | rfl)
    (case l15 => first | k_is | rfl)
    (case c15 => first | k_is | rfl)
    (case k15 => first | k_is | rfl)
    (case a16 => first | k_is | rfl)
    (case l16 => first | k_is | rfl)
    (case c16 => first | k_is | rfl)
    (case k16 => first | k_is | rfl)
    (case a17 => first | k_is | rfl)
    (case l17 => first | k_is | rfl)
    (case c17 => first | k_is | rfl)
    (case k17 => first | k_is | rfl)
    (case z1 => first | k_is | rfl)
    (case z2 => first | k_is | rfl)
    (case z3 => first | k_is | rfl)
    (case z4 => first | k_is | rfl)
    (case z5 => first | k_is | rfl)
    (case z6 => first | k_is | rfl)
    (case z7 => first | k_is | rfl)
    (case z8 => first | k_is | rfl)
    (case z9 => first | k_is | rfl)
    (case z10 => first | k_is | rfl)
    (case z11 => first | k_is | rfl)
    (case z12 => first | k_is | rfl)
    (case z13 => first | k_is | rfl)
    (case z14 => first | k_is | rfl)
    (case aC => first | k_is | rfl)
    (case aS => first | k_is | rfl)
    (case xP => first | k_exc | k_is)
    (case kP => first | k_is | rfl)
    (case bP => first | k_is | rfl)
    (case tP => first | k_is | rfl)
    (case hd => first | k_is | rfl)
    (case sC => first | k_is | rfl)
    (case hg => first | k_is | rfl)
    (case hk => first | k_is | rfl)
    (case hca => first | k_is | rfl)
    (case hcn => first | k_is | rfl)
    (case hct => first | k_is | rfl)
    (case hcm => first | k_is | rfl)
    (case q1 => first | k_is | rfl)
    (case q2 => first | k_is | rfl)
