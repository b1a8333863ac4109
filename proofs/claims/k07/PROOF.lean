import PyProof.Rows.All
import Wide.All
import OpenK.AllK
import Wide.FinOn
import HandS.ForMost
import HandS.Wide
import HandS.IsInst
import HandS.Walk
import PyProof.ListStr
import PySem.Challenge.RW_unwritparts_k07_part_names
set_option Elab.async false
set_option linter.all false
set_option maxRecDepth 100000
set_option maxHeartbeats 4000000
namespace U
open PySem PySem.Spec PyProof.Rows L2
/-! ### words of one's own over the hand layer -/
/-- a ** b, of a base of at most a thousand bits -/
def CPowW (i j : Int) : Prop := 0 ≤ j ∧ j ≤ 1000 ∧ i.natAbs < 2 ^ 1000
theorem op_powW {X : Cx} : OpR X (binaryOp .Pow) (rI CPowW fun i j => .int (i ^ j.toNat)) := opI fun i j _ _ _ _ _ hc q => by
  refine pow_int hc.1 ?_ q
  have h1 : Builtin.Int.intBits i ≤ 1000 := by
    have := PySem.Flt.log2_lt_of (by decide) hc.2.2
    unfold Builtin.Int.intBits
    split <;> omega
  have h2 := hc.1
  have h3 := hc.2.1
  have h4 : (Builtin.Int.intBits i : Int) * j ≤ 1000 * 1000 := Int.mul_le_mul (by omega) h3 h2 (by decide)
  exact Int.le_trans h4 (by decide)
/-- a def of the module: where it stands, how it is called, what it promises -/
structure Has (P : Program) (w : World) (K : PySem.W.Frag) (mg : Str → Option Value) (base : Heap) (x : Str) (k : Nat) (ps : List Str) (sp : Sp) (f : Addr) (fd : FuncData) : Prop where
  at_ : mg x = some (.ref f)
  kp : PySem.W.keepIn K (.ref f) = true
  bi : Binds K fd ps []
  ok : FnOk P w K mg base CX0 k f fd ps sp
section
variable {X : Cx} {k : Nat} {f : Addr} {fd : FuncData} {ps : List Str} {sp : Sp} {x : Str} {p pos : Pos} {e : Expr} {es : List Expr} {t : TA}
theorem pe_callH (h : Has X.prog X.w X.K X.mg X.base x k ps sp f fd) (hr : Room k X.A) (hg : Gl X x) (ha : PA X (e :: es) t) (hdb : (x == ("__debug__" : Str)) = false := by decide)
    (he : starEach (e :: es) X.env = (false, eval e X.env) :: starEach es X.env := by rfl) (hpl : (backTo pos (starEach es X.env)).any (·.1) = false := by rfl) :
    PE X (.Call (.Name x p) (e :: es) [] pos) (tCall sp [] E0 t) :=
  pe_call h.ok hr hg h.at_ h.kp h.bi .nil pass0 ha hdb he hpl
end
section
variable {X : Cx}
theorem vals_signs (x : Str) : ∀ (zs : List Nat) (us : List Value) (n : Nat), zs.length = us.length → (∀ (j : Nat) (v : Value), us[j]? = some v → ∃ (c : Nat) (u : Tok), zs[j]? = some c ∧ v = Value.str ⟨#[c]⟩ u) → Vals (zs.map fun c => V.str ⟨#[c]⟩) us
  | [], [], _, _, _ => .nil
  | [], _ :: _, _, h, _ => by simp at h
  | _ :: _, [], _, h, _ => by simp at h
  | z :: zs, u :: us, n, h, f => by
    obtain ⟨c, t, e1, e2⟩ := f 0 u rfl
    have e : z = c := Option.some.inj e1
    subst e
    exact .cons ⟨t, e2⟩ (vals_signs x zs us n (by simpa using h) fun j v e => f (j + 1) v e)
/-- list(text) -/
theorem call_list_txt (hc : X.calm = true) : CallR X (.type "list") (fun xs H Q => ∃ z : Str, xs = [.str z] ∧ z.length ≤ sizeLine ∧ ∀ l, H l = none → Q (.ref l) (upd H l (.lst (z.cps.toList.map fun c => V.str ⟨#[c]⟩)))) := by
  intro pins s σ H xs us Q I r h
  obtain ⟨z, rfl, hz, q⟩ := h
  obtain ⟨u, rfl, t, rfl⟩ := vals1 r
  refine PySem.call_list_str (I.ok.hd hc) z t (fun h' tk acc' c' kp e hi => ?_) (by simpa [Str.length] using hz)
  have hl : acc'.size = z.cps.size := hi.1
  have hz2 : z.cps.size ≤ sizeLine := by simpa [Str.length] using hz
  refine ⟨.ref s.heap.objs.size, _, I.laid (t' := tk) kp (Nat.le_refl _) (o := .lst (z.cps.toList.map fun c => V.str ⟨#[c]⟩)) ?_, rfl, q _ (I.hok.fresh (Nat.le_refl _))⟩
  refine ⟨by simpa using hz2, acc'.toList, c', vals_signs z z.cps.toList acc'.toList 0 (by simp [hl]) (fun j v e => ?_), by simpa using e⟩
  obtain ⟨c, u, h1, h2⟩ := hi.2 j v (by simpa using e)
  exact ⟨c, u, by simpa using h1, h2⟩
end

section
variable {X : Cx} {x : Str} {pos : Pos} {i : Int} {z : Str}
theorem pe_globI (hg : Gl X x) (hm : ∃ t, X.mg x = some (.int i t)) (hdb : (x == ("__debug__" : Str)) = false := by decide) : PE X (.Name x pos) (tC (.int i)) := by
  obtain ⟨t, h⟩ := hm
  exact pe_glob hg h ⟨_, rfl⟩ hdb
theorem pe_globS (hg : Gl X x) (hm : ∃ t, X.mg x = some (.str z t)) (hdb : (x == ("__debug__" : Str)) = false := by decide) : PE X (.Name x pos) (tC (.str z)) := by
  obtain ⟨t, h⟩ := hm
  exact pe_glob hg h ⟨_, rfl⟩ hdb
end
/-- a text of these signs -/
abbrev tx (l : List Nat) : Str := ⟨l.toArray⟩
theorem tx_len (l : List Nat) : (tx l).length = l.length := by simp [Str.length]
theorem tx_cps (l : List Nat) : (tx l).cps.toList = l := by simp
theorem tx_inj {a b : List Nat} (h : tx a = tx b) : a = b := by
  have := congrArg (fun z : Str => z.cps.toList) h
  simpa using this
theorem tx_app (a b : List Nat) : (tx a ++ tx b : Str) = tx (a ++ b) := congrArg Str.mk (show a.toArray ++ b.toArray = (a ++ b).toArray by simp)
theorem tx_of (z : Str) : z = tx z.cps.toList := by cases z; simp
theorem atI_tx {l : List Nat} {j : Nat} {c : Nat} (h : l[j]? = some c) : atI (tx l).cps.toList (j : Int) = some c := by
  rw [tx_cps]
  exact atI_nat h

/-! ### keywords alone -/
section
variable {X : Cx} {CX : CXT} {k : Nat} {f : Addr} {fd : FuncData} {ps ks : List Str} {sp : Sp} {E : XK} {x : Str} {p pos : Pos} {kws : List Keyword} {tk : TA} {g : List Value → List Value → List Value} {gV : List V → List V → List V}
theorem pe_callK0 (F : FnOk X.prog X.w X.K X.mg X.base CX k f fd ps sp) (hr : Room k X.A) (hg : Gl X x) (hm : X.mg x = some (.ref f)) (hk : PySem.W.keepIn X.K (.ref f) = true) (hb : KBinds X.K fd ps ks g gV) (hx : Passes CX X E)
    (hkw : PK X kws tk) (hall : (backToKw pos (keywordEach kws X.env)).all (·.1.isSome) = true := by rfl) (hks : (backToKw pos (keywordEach kws X.env)).filterMap (·.1) = ks := by rfl)
    (hdb : (x == ("__debug__" : Str)) = false := by decide)
    (hpl : ((backTo pos (starEach [] X.env)).any (·.1) || (backToKw pos (keywordEach kws X.env)).any (·.1.isNone)) = false := by rfl) :
    PE X (.Call (.Name x p) [] kws pos) (tCallK sp gV E tNil tk) := by
  refine ⟨fun pins s σ H Q I h => ?_⟩
  refine wpAny_Call_Name_kw (ld_glob I hg hm ?_ hdb)
  refine PySem.W.callWith_KW0 (h₀ := X.base) I.ok.mod.kin hk hall (thn (hkw.run pos pins s σ H _ I h) fun ws s2 ⟨zs, H2, I2, rz, q2⟩ => ⟨I2.kIn, ?_⟩) hpl
  rw [hks]
  exact run_fnk (us := []) F hr hb hx I2 .nil rz q2
/-- one keyword for the one parameter -/
theorem kb_one {K : PySem.W.Frag} {a : Str} (h1 : ∀ u : Value, bindArgs fd ⟨[u], []⟩ = pure [(a, u)]) (h : ∀ u : Value, bindArgs fd ⟨[], [(a, u)]⟩ = pure [(a, u)]) : KBinds K fd [a] [a] (fun us ws => us ++ ws) (fun us ws => us ++ ws) := by
  refine ⟨fun s us ws _ hl => ?_, fun r r2 => Vals.append r r2⟩
  match us, ws, hl with
  | [u], [], _ => exact .of_eq (h1 u)
  | [], [u], _ => exact .of_eq (h u)
end
/-! ### lengths -/
theorem cutS_len (z : Str) (lo hi : Option Int) : (cutS z lo hi).length ≤ z.length := by
  unfold cutS
  simp only [Str.length, List.size_toArray, List.length_take, List.length_drop, Array.length_toList]
  omega
theorem sizeLine_ge {n : Nat} (h : n ≤ 10000) : n ≤ sizeLine := Nat.le_trans h (by decide)
/-- what may be asked of any kind -/
inductive Th (H : Hp) : V → Prop where
  | non : Th H .non
  | bl (b : Bool) : Th H (.bl b)
  | int (i : Int) : Th H (.int i)
  | txt (z : Str) (h : z.length ≤ 10000) : Th H (.str z)
  | lst {a : Addr} {xs : List V} (e : H a = some (.lst xs)) : Th H (.ref a)
  | tup {a : Addr} {xs : List V} (e : H a = some (.tup xs)) : Th H (.ref a)
theorem Th.same {H H' : Hp} {v : V} (h : Th H v) (s : Same H H') : Th H' v := by
  cases h with
  | non => exact .non
  | bl b => exact .bl b
  | int i => exact .int i
  | txt z h => exact .txt z h
  | lst e => exact .lst (s _ _ e)
  | tup e => exact .tup (s _ _ e)
theorem tx_ne (t : List Nat) : decide (V.str (tx t) = V.str (Str.ofString "")) = decide (t = []) := by
  have e : Str.ofString "" = tx [] := by decide +kernel
  rw [e]
  by_cases h : t = []
  · subst h
    simp
  · rw [decide_eq_false h]
    refine decide_eq_false fun z => h (tx_inj (V.str.inj z))
theorem le_sign (a b : Nat) : (!decide ((⟨#[b]⟩ : Str).cps.toList < (⟨#[a]⟩ : Str).cps.toList)) = decide (a ≤ b) := by
  have e : decide ((⟨#[b]⟩ : Str).cps.toList < (⟨#[a]⟩ : Str).cps.toList) = decide (b < a) := decide_eq_decide.mpr (by simp [List.cons_lt_cons_iff])
  rw [e]
  by_cases h : b < a
  · rw [decide_eq_true h, decide_eq_false (by omega)]
    rfl
  · rw [decide_eq_false h, decide_eq_true (by omega)]
    rfl
theorem same_new {H : Hp} {p : Addr} {o : HO} (h : H p = none) : Same H (upd H p o) := fun b x e => by
  rw [upd_ne (ne_of_none e h)]
  exact e
/-- a comprehension of one name, without a test -/
theorem lc_do {J : It} {n : Nat} {G : Hp → Prop} {Y : Nat → Hp → V → Hp → Prop} (w : Walk J n G Y) {k : Nat} {te : TE} {vs : List Nat} {σ : L2.St} {H1 : Hp} {D : Addr} {Qd : Hp → Prop} (Pv : Nat → Hp → Prop)
    (hw : ∀ x, wipe ((wipe σ vs).set k (some x)) vs = wipe σ vs) (h0 : Pv 0 (upd H1 D (.lst []))) (hG : ∀ i H, i ≤ n → Pv i H → G H)
    (hs : ∀ i x H H', i < n → Pv i H → Y i H x H' → te ((wipe σ vs).set k (some x)) H' fun y H4 => ∃ acc, H4 D = some (.lst acc) ∧ acc.length < sizeLine ∧ Pv (i + 1) (upd H4 D (.lst (acc ++ [y])))) (hd : ∀ H, Pv n H → Qd H) :
    ∃ W : Nat → Nat → Hp → Prop, (∃ m, W 0 m (upd H1 D (.lst []))) ∧ ∀ i m H, W i m H →
      (J.stop i H ∧ Qd H) ∨ (J.go i H ∧ ∃ Nx : Hp → Prop, (∀ H', Nx H' → ∃ m', m' < m ∧ W (i + 1) m' H') ∧ ∀ x H', J.yld i H x H' → gName k x (wipe σ vs) H' fun σ2 H2 => wipe σ2 vs = wipe σ vs ∧ tYes σ2 H2 fun b H3 =>
        if b = true then te σ2 H3 fun y H4 => ∃ acc, H4 D = some (.lst acc) ∧ acc.length < sizeLine ∧ Nx (upd H4 D (.lst (acc ++ [y]))) else Nx H3) := by
  refine lc_it w Pv h0 hG (fun i x H H' hi p y => ⟨hw x, ?_⟩) hd
  show if true = true then te ((wipe σ vs).set k (some x)) H' (fun y H4 => ∃ acc, H4 D = some (.lst acc) ∧ acc.length < sizeLine ∧ Pv (i + 1) (upd H4 D (.lst (acc ++ [y])))) else Pv (i + 1) H'
  rw [if_pos rfl]
  exact hs i x H H' hi p y
/-- a new object: the heap behind it by what it keeps and what is new -/
theorem alloc {H : Hp} {o : HO} {R : V → Hp → Prop} (h : ∀ p G, H p = none → Same H G → G p = some o → R (.ref p) G) : ∀ p, H p = none → R (.ref p) (upd H p o) := fun p hp => h p _ hp (same_new hp) upd_same
end U

set_option Elab.async false
set_option linter.all false
set_option maxRecDepth 100000
set_option maxHeartbeats 4000000
namespace K
open PySem PySem.Spec PyProof.Rows L2 U
def topS (i : Nat) : Stmt := PySem.Challenge.pw_unwritparts_k07_part_names.main.body.getD i (.Pass ⟨0, 0, 0, 0⟩)
abbrev s_run_end : Stmt := topS 3
abbrev nm_run_end : List Str := ["text", "at", "signs", "most", "end"]
theorem sc_run_end : FnScope nm_run_end ["text", "at", "signs", "most"] (defScope s_run_end) := ⟨rfl, rfl, rfl, by decide +kernel, rfl, by decide +kernel, by decide +kernel⟩
abbrev s_is_run : Stmt := topS 4
abbrev nm_is_run : List Str := ["text", "signs", "most"]
theorem sc_is_run : FnScope nm_is_run ["text", "signs", "most"] (defScope s_is_run) := ⟨rfl, rfl, rfl, by decide +kernel, rfl, by decide +kernel, by decide +kernel⟩
abbrev s_is_part_name : Stmt := topS 6
abbrev nm_is_part_name : List Str := ["thing"]
theorem sc_is_part_name : FnScope nm_is_part_name ["thing"] (defScope s_is_part_name) := ⟨rfl, rfl, rfl, by decide +kernel, rfl, by decide +kernel, by decide +kernel⟩
abbrev s__law_purse : Stmt := topS 8
abbrev nm__law_purse : List Str := ["_law_script", "_law_at", "_law_cell", "_law_far"]
theorem sc__law_purse : FnScope nm__law_purse ["_law_script", "_law_at"] (defScope s__law_purse) := ⟨rfl, rfl, rfl, by decide +kernel, rfl, by decide +kernel, by decide +kernel⟩
abbrev s__law_take : Stmt := topS 9
abbrev nm__law_take : List Str := ["_law_purse_here", "_law_many", "_law_digit", "_law_primes", "_law_step", "_law_base", "_law_mixed"]
theorem sc__law_take : FnScope nm__law_take ["_law_purse_here", "_law_many"] (defScope s__law_take) := ⟨rfl, rfl, rfl, by decide +kernel, rfl, by decide +kernel, by decide +kernel⟩
abbrev s__law_due : Stmt := topS 10
abbrev nm__law_due : List Str := ["_law_one", "_law_sign"]
theorem sc__law_due : FnScope nm__law_due ["_law_one"] (defScope s__law_due) := ⟨rfl, rfl, rfl, by decide +kernel, rfl, by decide +kernel, by decide +kernel⟩
abbrev s__law_right : Stmt := topS 11
abbrev nm__law_right : List Str := ["_law_one", "_law_turn", "_law_found"]
theorem sc__law_right : FnScope nm__law_right ["_law_one"] (defScope s__law_right) := ⟨rfl, rfl, rfl, by decide +kernel, rfl, by decide +kernel, by decide +kernel⟩
abbrev s_law : Stmt := topS 12
abbrev nm_law : List Str := ["_law_script", "_law_letters", "_law_k", "_law_purse_here", "_law_name", "_law_at", "_law_sign", "_law_things", "_law_j", "_law_one"]
theorem sc_law : FnScope nm_law ["_law_script"] (defScope s_law) := ⟨rfl, rfl, rfl, by decide +kernel, rfl, by decide +kernel, by decide +kernel⟩
structure Txt (K : PySem.W.Frag) (mg : Str → Option Value) : Prop where
  z_abs : mg "abs" = none
  z_all : mg "all" = none
  z_bool : mg "bool" = none
  z_int : mg "int" = none
  z_isinstance : mg "isinstance" = none
  z_len : mg "len" = none
  z_list : mg "list" = none
  z_max : mg "max" = none
  z_min : mg "min" = none
  z_range : mg "range" = none
  z_str : mg "str" = none
  g_GREAT : ∃ t, mg "GREAT" = some (.str (Str.ofString "ABCDEFGHIJKLMNOPQRSTUVWXYZ") t)
  g_MOST_GREAT : ∃ t, mg "MOST_GREAT" = some (.int 6 t)
/-! ### run_end -/
/-- how many of these signs stand at the head, at most m -/
def runLen (t s : List Nat) (a m : Nat) : Nat := (((t.drop a).take m).takeWhile fun c => decide (c ∈ s)).length
def spRunEnd : Sp := fun vs H Q _ => ∃ (t s : List Nat) (a m : Nat), vs = [.str (tx t), .int a, .str (tx s), .int m] ∧ t.length ≤ sizeLine ∧ Q (.int ((a + runLen t s a m : Nat) : Int)) H
theorem runLen_at {t s : List Nat} {a m j : Nat} (h : j < runLen t s a m) : a + j < t.length ∧ j < m ∧ ∃ c, t[a + j]? = some c ∧ c ∈ s := by
  unfold runLen at h
  have h1 : (((t.drop a).take m).takeWhile fun c => decide (c ∈ s)).length ≤ ((t.drop a).take m).length := (List.takeWhile_prefix _).length_le
  have h2 : j < ((t.drop a).take m).length := Nat.lt_of_lt_of_le h h1
  have h3 := h2
  rw [List.length_take, List.length_drop] at h3
  have h4 : (((t.drop a).take m).takeWhile fun c => decide (c ∈ s))[j]? = ((t.drop a).take m)[j]? := by
    obtain ⟨r, e⟩ := List.takeWhile_prefix (l := (t.drop a).take m) fun c => decide (c ∈ s)
    conv => rhs; rw [← e]
    rw [List.getElem?_append_left h]
  have h5 : ((t.drop a).take m)[j]? = t[a + j]? := by
    rw [List.getElem?_take_of_lt (by omega), List.getElem?_drop]
  have h6 := List.getElem?_eq_getElem h
  have h7 := List.getElem_mem h
  have h8 := List.all_takeWhile (l := (t.drop a).take m) (p := fun c => decide (c ∈ s))
  rw [List.all_eq_true] at h8
  have h9 := of_decide_eq_true (h8 _ h7)
  exact ⟨by omega, by omega, _, by rw [← h5, ← h4]; exact h6, h9⟩
theorem takeWhile_stop {p : Nat → Bool} : ∀ {l : List Nat} {c : Nat}, l[(l.takeWhile p).length]? = some c → p c = false
  | [], c, h => by simp at h
  | x :: r, c, h => by
    rw [List.takeWhile_cons] at h
    by_cases hx : p x = true
    · rw [if_pos hx] at h
      exact takeWhile_stop (l := r) (by simpa using h)
    · rw [if_neg hx] at h
      have e : x = c := by simpa using h
      subst e
      simpa using hx
theorem runLen_stop {t s : List Nat} {a m : Nat} (h1 : a + runLen t s a m < t.length) (h2 : runLen t s a m < m) : ∃ c, t[a + runLen t s a m]? = some c ∧ c ∉ s := by
  refine ⟨_, List.getElem?_eq_getElem h1, fun hc => ?_⟩
  have h5 : ((t.drop a).take m)[runLen t s a m]? = t[a + runLen t s a m]? := by
    rw [List.getElem?_take_of_lt h2, List.getElem?_drop]
  have h6 := takeWhile_stop (p := fun c => decide (c ∈ s)) (l := (t.drop a).take m) (h5.trans (List.getElem?_eq_getElem h1))
  exact absurd hc (of_decide_eq_false h6)
theorem runLen_all {t s : List Nat} {m : Nat} : (runLen t s 0 m = t.length) ↔ (t.length ≤ m ∧ ∀ c ∈ t, c ∈ s) := by
  constructor
  · intro h
    have h1 : (((t.drop 0).take m).takeWhile fun c => decide (c ∈ s)).length ≤ ((t.drop 0).take m).length := (List.takeWhile_prefix _).length_le
    unfold runLen at h
    rw [h, List.length_take, List.length_drop] at h1
    refine ⟨by omega, fun c hc => ?_⟩
    obtain ⟨i, hi, e⟩ := List.mem_iff_getElem.mp hc
    obtain ⟨_, _, d, e1, e2⟩ := runLen_at (t := t) (s := s) (a := 0) (m := m) (j := i) (by unfold runLen; omega)
    rw [Nat.zero_add, List.getElem?_eq_getElem hi] at e1
    rw [← e, Option.some.inj e1]
    exact e2
  · rintro ⟨h1, h2⟩
    unfold runLen
    rw [List.drop_zero, List.take_of_length_le h1]
    have g : ∀ l : List Nat, (∀ c ∈ l, c ∈ s) → (l.takeWhile fun c => decide (c ∈ s)) = l := by
      intro l
      induction l with
      | nil => intro _; rfl
      | cons x r ih =>
        intro h
        rw [List.takeWhile_cons, if_pos (decide_eq_true (h x List.mem_cons_self)), ih fun c hc => h c (List.mem_cons_of_mem _ hc)]
    rw [g t h2]
/-- the capital letters -/
def great : List Nat := (List.range 26).map (65 + ·)
theorem great_iff {c : Nat} : c ∈ great ↔ 65 ≤ c ∧ c ≤ 90 := by
  unfold great
  rw [List.mem_map]
  constructor
  · rintro ⟨j, hj, rfl⟩
    have := List.mem_range.mp hj
    omega
  · intro h
    exact ⟨c - 65, List.mem_range.mpr (by omega), by omega⟩
def isName : V → Bool
  | .str z => decide (z.cps.toList ≠ [] ∧ z.cps.toList.length ≤ 6 ∧ ∀ c ∈ z.cps.toList, c ∈ great)
  | _ => false
def spName : Sp := fun vs H Q _ => ∃ v, vs = [v] ∧ Th H v ∧ Q (.bl (isName v)) H
/-- isinstance(v, str) -/
theorem isi_str {K : PySem.W.Frag} {H : Hp} {v : V} (h : Th H v) : ∃ t b, TyX K H v t ∧ PySem.W.kitOne K t (.type "str") = some b ∧ (b = true → ∃ z : Str, v = .str z ∧ z.length ≤ 10000) ∧ (b = false → isName v = false) := by
  cases h with
  | non => exact ⟨_, false, .base .non, kit_ty (by decide +kernel), fun e => (nomatch e), fun _ => rfl⟩
  | bl b => exact ⟨_, false, .base (.bl b), kit_ty (by decide +kernel), fun e => (nomatch e), fun _ => rfl⟩
  | int i => exact ⟨_, false, .base (.int i), kit_ty (by decide +kernel), fun e => (nomatch e), fun _ => rfl⟩
  | txt z h => exact ⟨_, true, .base (.str z), kit_ty (by decide +kernel), fun _ => ⟨z, rfl, h⟩, fun e => (nomatch e)⟩
  | lst e => exact ⟨_, false, .base (.lst e), kit_ty (by decide +kernel), fun e => (nomatch e), fun _ => rfl⟩
  | tup e => exact ⟨_, false, .base (.tup e), kit_ty (by decide +kernel), fun e => (nomatch e), fun _ => rfl⟩
theorem great_eq : Str.ofString "ABCDEFGHIJKLMNOPQRSTUVWXYZ" = tx great := by decide +kernel
section
variable {P : Program} {w : World} {K : PySem.W.Frag} {mg : Str → Option Value} {base : Heap} (T : Txt K mg)
include T
theorem ok_run_end {f : Addr} {fd : FuncData} (F : Fun K "run_end" "run_end" s_run_end f fd) : FnOk P w K mg base CX0 1 f fd ["text", "at", "signs", "most"] spRunEnd := by
  refine F.ok sc_run_end (fun vs H Q E h => ?_) (fun cdv A outer s H vs Q E hr h => ?_)
  · obtain ⟨t, s, a, m, rfl, _⟩ := h
    rfl
  · obtain ⟨t, z, a, m, rfl, hl, q⟩ := h
    refine ⟨_, (pss_cons (ps_set (i := 4) sc_run_end.nd rfl (.inl rfl) (pv 1))
      (pss_cons (ps_while PassesOwn.never (PW.pt (pw_and (pt_cmpR op_lt (pv 4) (pe_callB call_len_str (by rfl) T.z_len (by decide +kernel) (pa_cons (pv 0) pa_nil)) (nomark _)) (pw_and (pt_cmpR op_lt (pe_op op_sub (pv 4) (pv 1)) (pv 3) (nomark _)) (pw_and1 (pt_cmpR op_in_sign (pe_ix ix_str (pv 0) (pv 4) (fun _ _ => rfl)) (pv 2) (by rfl)))))) 
        (pss_one (ps_aug (i := 4) sc_run_end.nd rfl (.inl rfl) pe_int ip_add)))
      (pss_one (ps_ret (pv 4))))), ?_⟩
    refine ⟨_, rfl, fun m' σ H' => H' = H ∧ ∃ j, σ = [some (.str (tx t)), some (.int a), some (.str (tx z)), some (.int m), some (.int ((a + j : Nat) : Int))] ∧ j + m' = runLen t z a m, ⟨runLen t z a m, rfl, 0, rfl, Nat.zero_add _⟩, ?_⟩
    rintro m' σ H' ⟨rfl, j, rfl, hj⟩
    refine ⟨_, rfl, _, rfl, _, rfl, by rw [tx_len]; exact hl, _, _, rfl, rfl, _, rfl, ?_⟩
    rw [tx_len]
    refine ite2 (fun h1 => ?_) (fun h1 => ?_)
    · have h1 := of_decide_eq_true h1
      refine ⟨_, rfl, _, rfl, _, _, rfl, rfl, _, rfl, _, _, rfl, rfl, _, rfl, ?_⟩
      refine ite2 (fun h2 => ?_) (fun h2 => ?_)
      · have h2 := of_decide_eq_true h2
        have h3 : a + j < t.length := by omega
        refine ⟨_, rfl, _, rfl, _, _, t[a + j], rfl, rfl, by rw [tx_len]; exact hl, atI_tx (List.getElem?_eq_getElem h3), _, rfl, t[a + j], tx z, rfl, rfl, _, rfl, ?_⟩
        rw [tx_cps]
        refine ite2 (fun h4 => ?_) (fun h4 => ?_)
        · have h4 := of_decide_eq_true h4
          have h5 : j < runLen t z a m := by
            refine Nat.lt_of_le_of_ne (by omega) fun e => ?_
            obtain ⟨c, e1, e2⟩ := runLen_stop (t := t) (s := z) (a := a) (m := m) (by omega) (by omega)
            rw [← e, List.getElem?_eq_getElem h3] at e1
            exact e2 (Option.some.inj e1 ▸ h4)
          refine ⟨fun σ H'' => H'' = H' ∧ ∃ j', σ = [some (.str (tx t)), some (.int a), some (.str (tx z)), some (.int m), some (.int ((a + j' : Nat) : Int))] ∧ j' = j + 1, ?_, ?_⟩
          · rintro σ H'' ⟨rfl, j', rfl, rfl⟩
            exact ⟨m' - 1, by omega, rfl, j + 1, rfl, by omega⟩
          · exact ⟨_, rfl, _, _, rfl, rfl, rfl, j + 1, rfl, rfl⟩
        · have h4 : t[a + j] ∉ z := fun e => h4 (decide_eq_true e)
          have h5 : ¬ j < runLen t z a m := fun e => by
            obtain ⟨_, _, c, e1, e2⟩ := runLen_at e
            rw [List.getElem?_eq_getElem h3] at e1
            exact h4 (Option.some.inj e1 ▸ e2)
          have h6 : j = runLen t z a m := by omega
          exact ⟨_, rfl, h6 ▸ q⟩
      · have h2 : ¬ (((a + j : Nat) : Int) - (a : Int) < (m : Int)) := fun e => h2 (decide_eq_true e)
        have h5 : ¬ j < runLen t z a m := fun e => by
          obtain ⟨_, e1, _⟩ := runLen_at e
          omega
        have h6 : j = runLen t z a m := by omega
        exact ⟨_, rfl, h6 ▸ q⟩
    · have h1 : ¬ (((a + j : Nat) : Int) < (t.length : Int)) := fun e => h1 (decide_eq_true e)
      have h5 : ¬ j < runLen t z a m := fun e => by
        obtain ⟨e1, _, _⟩ := runLen_at e
        omega
      have h6 : j = runLen t z a m := by omega
      exact ⟨_, rfl, h6 ▸ q⟩
/-- is_run -/
def spIsRun : Sp := fun vs H Q _ => ∃ (t s : List Nat) (m : Nat), vs = [.str (tx t), .str (tx s), .int m] ∧ t.length ≤ sizeLine ∧ Q (.bl (decide (t ≠ [] ∧ t.length ≤ m ∧ ∀ c ∈ t, c ∈ s))) H
theorem ok_is_run {f fR : Addr} {fd fdR : FuncData} (F : Fun K "is_run" "is_run" s_is_run f fd) (h_run_end : Has P w K mg base "run_end" 1 ["text", "at", "signs", "most"] spRunEnd fR fdR) : FnOk P w K mg base CX0 2 f fd ["text", "signs", "most"] spIsRun := by
  refine F.ok sc_is_run (fun vs H Q E h => ?_) (fun cdv A outer s H vs Q E hr h => ?_)
  · obtain ⟨t, s, m, rfl, _⟩ := h
    rfl
  · obtain ⟨t, z, m, rfl, hl, q⟩ := h
    refine ⟨_, (pss_one (ps_ret (pe_and (pe_cmpR op_ne (pv 0) pe_str (nomark _)) (pe_one (pe_cmpR op_eq (pe_callH h_run_end (hr.mono (by first | decide | omega)) (by rfl) (pa_cons (pv 0) (pa_cons pe_int (pa_cons (pv 1) (pa_cons (pv 2) pa_nil))))) (pe_callB call_len_str (by rfl) T.z_len (by decide +kernel) (pa_cons (pv 0) pa_nil)) (nomark _)))))), ?_⟩
    refine ⟨_, rfl, rfl, _, rfl, ?_⟩
    rw [tx_ne]
    by_cases h : t = []
    · subst h
      simpa using q
    · rw [decide_eq_false h]
      refine iteT ⟨_, rfl, _, rfl, _, rfl, t, z, 0, m, rfl, hl, _, rfl, _, rfl, by rw [tx_len]; exact hl, rfl, ?_⟩
      rw [tx_len]
      have e : decide (V.int ((0 + runLen t z 0 m : Nat) : Int) = V.int (t.length : Int)) = decide (t ≠ [] ∧ t.length ≤ m ∧ ∀ c ∈ t, c ∈ z) := by
        refine decide_eq_decide.mpr ⟨fun e => ?_, fun ⟨_, e⟩ => ?_⟩
        · have e2 : ((0 + runLen t z 0 m : Nat) : Int) = (t.length : Int) := V.int.inj e
          exact ⟨h, runLen_all.mp (by omega)⟩
        · have e2 := runLen_all.mpr e
          rw [e2, Nat.zero_add]
      exact e ▸ q
theorem ok_is_part_name {f fR : Addr} {fd fdR : FuncData} (F : Fun K "is_part_name" "is_part_name" s_is_part_name f fd) (h_is_run : Has P w K mg base "is_run" 2 ["text", "signs", "most"] spIsRun fR fdR) : FnOk P w K mg base CX0 3 f fd ["thing"] spName := by
  refine F.ok sc_is_part_name (fun vs H Q E h => ?_) (fun cdv A outer s H vs Q E hr h => ?_)
  · obtain ⟨v, rfl, _⟩ := h
    rfl
  · obtain ⟨v, rfl, hv, q⟩ := h
    refine ⟨_, (pss_one (ps_ret (pe_and (pe_callB call_isi (by rfl) T.z_isinstance (by decide +kernel) (pa_cons (pv 0) (pa_cons (pe_bltn (v := .ty "str") (u := .type "str") (by rfl) T.z_str (by decide +kernel) rfl) pa_nil))) (pe_one (pe_callH h_is_run (hr.mono (by first | decide | omega)) (by rfl) (pa_cons (pv 0) (pa_cons (pe_globS (by rfl) T.g_GREAT) (pa_cons (pe_globI (by rfl) T.g_MOST_GREAT) pa_nil)))))))), ?_⟩
    obtain ⟨t, b, h1, h2, h3, h4⟩ := isi_str (K := K) hv
    refine ⟨_, rfl, _, _, t, _, b, rfl, .ty "str", h1, h2, b, rfl, ?_⟩
    cases b with
    | false =>
      rw [h4 rfl] at q
      exact iteF q
    | true =>
      obtain ⟨z, rfl, hz⟩ := h3 rfl
      refine iteT ⟨_, rfl, z.cps.toList, great, 6, ?_, by simpa [Str.length] using sizeLine_ge hz, q⟩
      rw [great_eq, ← tx_of]
      rfl
def spDue : Sp := fun vs H Q _ => ∃ v, vs = [v] ∧ Th H v ∧ ∀ H', Same H H' → Q (.bl (isName v)) H'
theorem ok__law_due {f : Addr} {fd : FuncData} (F : Fun K "_law_due" "_law_due" s__law_due f fd) : FnOk P w K mg base CX0 1 f fd ["_law_one"] spDue := by
  refine F.ok sc__law_due (fun vs H Q E h => ?_) (fun cdv A outer s H vs Q E hr h => ?_)
  · obtain ⟨v, rfl, _⟩ := h
    rfl
  · obtain ⟨v, rfl, hv, q⟩ := h
    refine ⟨_, (pss_cons (ps_if (PW.pt (pw_or (pt_not (pt_val (pe_callB call_isi (by rfl) T.z_isinstance (by decide +kernel) (pa_cons (pv 0) (pa_cons (pe_bltn (v := .ty "str") (u := .type "str") (by rfl) T.z_str (by decide +kernel) rfl) pa_nil))))) (pw_or1 (pt_not (pt_chain op_le op_le pe_int (pe_callB call_len_str (by rfl) T.z_len (by decide +kernel) (pa_cons (pv 0) pa_nil)) pe_int))))) 
        (pss_one (ps_ret pe_bl)) pss_nil)
      (pss_one (ps_ret (pe_callB (cr_all rfl) (by rfl) T.z_all (by decide +kernel) (pa_cons (pe_lc (own := [("_law_sign", 1)]) (g := gName 1) (tt := tYes) rfl sc__law_due.nd (pi_str (pv 0)) (blkOk_by (N := nm__law_due) (sc := defScope s__law_due) (by decide +kernel)) (fun _ _ _ _ _ => pg_name (i := 1) sc__law_due.nd rfl (.inl rfl)) (fun _ _ _ _ _ => pts_nil) (fun _ _ _ _ _ => (pe_chain op_le_str op_le_str pe_str (pv 1) pe_str))) pa_nil))))), ?_⟩
    obtain ⟨t, b, h1, h2, h3, h4⟩ := isi_str (K := K) hv
    refine ⟨_, rfl, _, _, t, _, b, rfl, .ty "str", h1, h2, b, rfl, ?_⟩
    cases b with
    | false =>
      rw [h4 rfl] at q
      exact iteT (iteT (q H (Same.refl H)))
    | true =>
      obtain ⟨z, rfl, hz⟩ := h3 rfl
      have hz2 := sizeLine_ge hz
      refine iteF ⟨_, rfl, _, rfl, hz2, 1, _, rfl, rfl, _, rfl, ?_⟩
      have ez : z.length = z.cps.toList.length := by simp [Str.length]
      by_cases h1 : 1 ≤ z.length
      · rw [decide_eq_true (show (1 : Int) ≤ (z.length : Int) by omega)]
        refine iteT ⟨_, _, rfl, rfl, _, rfl, ?_⟩
        by_cases h6 : z.length ≤ 6
        · rw [decide_eq_true (show (z.length : Int) ≤ 6 by omega)]
          refine iteF ?_
          refine ⟨_, rfl, z, rfl, fun D hD => lc_do walk_str (fun i H' => Same H H' ∧ H' D = some (.lst ((z.cps.toList.take i).map fun c => V.bl (decide (65 ≤ c ∧ c ≤ 90))))) (fun _ => rfl) ⟨same_new hD, upd_same⟩ (fun _ _ _ _ => trivial) ?_ ?_⟩
          · rintro i x H1 H2 hi ⟨hs, hd⟩ ⟨rfl, c, hc, rfl⟩
            have eA : Str.ofString "A" = ⟨#[65]⟩ := by decide +kernel
            have eZ : Str.ofString "Z" = ⟨#[90]⟩ := by decide +kernel
            have hg : (z.cps.toList)[i]? = some c := by simpa using hc
            have fin : ∀ b : Bool, b = decide (65 ≤ c ∧ c ≤ 90) → ∃ acc, H2 D = some (HO.lst acc) ∧ acc.length < sizeLine ∧ Same H (upd H2 D (HO.lst (acc ++ [V.bl b]))) ∧
                upd H2 D (HO.lst (acc ++ [V.bl b])) D = some (HO.lst (List.map (fun c => V.bl (decide (65 ≤ c ∧ c ≤ 90))) (List.take (i + 1) z.cps.toList))) := by
              intro b eb
              refine ⟨_, hd, ?_, fun b' o e => ?_, ?_⟩
              · rw [List.length_map, List.length_take]
                exact small1000 (by omega)
              · rw [upd_ne (ne_of_none e hD)]
                exact hs _ _ e
              · rw [upd_same, List.take_add_one, hg, List.map_append, eb]
                rfl
            refine ⟨_, rfl, _, _, rfl, rfl, _, rfl, ?_⟩
            rw [eA, le_sign]
            by_cases h7 : 65 ≤ c
            · rw [decide_eq_true h7]
              refine iteT ⟨_, _, rfl, rfl, ?_⟩
              rw [eZ, le_sign]
              exact fin _ (decide_eq_decide.mpr ⟨fun e => ⟨h7, e⟩, fun e => e.2⟩)
            · rw [decide_eq_false h7]
              exact iteF (fin _ (decide_eq_false fun e => h7 e.1).symm)
          · rintro H1 ⟨hs, hd⟩
            rw [show z.cps.size = z.cps.toList.length by simp, List.take_length] at hd
            refine ⟨D, z.cps.toList.map fun c => decide (65 ≤ c ∧ c ≤ 90), rfl, .inl (.inl (by rw [hd, List.map_map]; rfl)), ?_⟩
            have e : (z.cps.toList.map fun c => decide (65 ≤ c ∧ c ≤ 90)).all id = isName (.str z) := by
              rw [List.all_map, Bool.eq_iff_iff, List.all_eq_true]
              show _ ↔ decide _ = true
              rw [decide_eq_true_eq]
              refine ⟨fun h => ⟨fun e => by rw [e] at ez; simp at ez; omega, by omega, fun c hc => great_iff.mpr (of_decide_eq_true (h c hc))⟩, fun h c hc => decide_eq_true (great_iff.mp (h.2.2 c hc))⟩
            rw [e]
            exact q H1 hs
        · rw [decide_eq_false (show ¬ (z.length : Int) ≤ 6 by omega)]
          have e : isName (.str z) = false := decide_eq_false fun h => by omega
          rw [e] at q
          exact iteT (q H (Same.refl H))
      · rw [decide_eq_false (show ¬ (1 : Int) ≤ (z.length : Int) by omega)]
        have e : isName (.str z) = false := decide_eq_false fun h => h.1 (List.eq_nil_of_length_eq_zero (by omega))
        rw [e] at q
        exact iteF ⟨_, rfl, iteT (q H (Same.refl H))⟩
/-- _law_right -/
def spRight : Sp := fun vs H Q _ => ∃ v, vs = [v] ∧ Th H v ∧ ∀ H', Same H H' → Q (.bl true) H'
theorem ok__law_right {f fN fD : Addr} {fd fdN fdD : FuncData} (F : Fun K "_law_right" "_law_right" s__law_right f fd) (h_is_part_name : Has P w K mg base "is_part_name" 3 ["thing"] spName fN fdN)
    (hk : KBinds K fdN ["thing"] ["thing"] (fun us ws => us ++ ws) (fun us ws => us ++ ws)) (h__law_due : Has P w K mg base "_law_due" 1 ["_law_one"] spDue fD fdD) : FnOk P w K mg base CX0 4 f fd ["_law_one"] spRight := by
  refine F.ok sc__law_right (fun vs H Q E h => ?_) (fun cdv A outer s H vs Q E hr h => ?_)
  · obtain ⟨v, rfl, _⟩ := h
    rfl
  · obtain ⟨v, rfl, hv, q⟩ := h
    refine ⟨_, (pss_cons (ps_for PassesOwn.never rfl (pi_range1 (by rfl) T.z_range (pa_cons pe_int pa_nil)) (pg_name (i := 1) sc__law_right.nd rfl (.inl rfl)) 
        (pss_cons (ps_set (i := 2) sc__law_right.nd rfl (.inl rfl) (pe_callH h_is_part_name (hr.mono (by first | decide | omega)) (by rfl) (pa_cons (pv 0) pa_nil)))
        (pss_one (ps_if (PW.pt (pw_or (pt_not (pt_val (pe_callB call_isi (by rfl) T.z_isinstance (by decide +kernel) (pa_cons (pv 2) (pa_cons (pe_bltn (v := .ty "bool") (u := .type "bool") (by rfl) T.z_bool (by decide +kernel) rfl) pa_nil))))) (pw_or1 (pt_cmpR op_ne (pv 2) (pe_callH h__law_due (hr.mono (by first | decide | omega)) (by rfl) (pa_cons (pv 0) pa_nil)) (nomark _))))) 
          (pss_one (ps_ret pe_bl)) pss_nil))))
      (pss_one (ps_ret (pe_cmpR op_eq (pe_callK0 h_is_part_name.ok (hr.mono (by decide)) (by rfl) h_is_part_name.at_ h_is_part_name.kp hk pass0 (pk_cons (pv 0) pk_nil)) (pe_callH h__law_due (hr.mono (by first | decide | omega)) (by rfl) (pa_cons (pv 0) pa_nil)) (nomark _))))), ?_⟩
    refine ⟨_, rfl, by decide, by decide, for_range (n := 2) (fun _ σ H' => (∃ a b, σ = [some v, a, b]) ∧ Same H H') ⟨⟨_, _, rfl⟩, Same.refl H⟩ ?_ ?_⟩
    · rintro i σ H1 hi ⟨⟨a, b, rfl⟩, hs⟩
      refine ⟨_, rfl, v, rfl, hv.same hs, ?_⟩
      refine ⟨_, rfl, _, _, _, _, true, rfl, .ty "bool", .base (.bl _), kit_ty (by decide +kernel), true, rfl, iteF ?_⟩
      refine ⟨_, rfl, _, rfl, v, rfl, hv.same hs, fun H2 hs2 => ⟨rfl, _, rfl, ?_⟩⟩
      refine iteNS rfl ?_
      exact ⟨⟨_, _, rfl⟩, hs.trans hs2⟩
    · rintro σ H1 ⟨⟨a, b, rfl⟩, hs⟩
      refine ⟨_, rfl, v, rfl, hv.same hs, _, rfl, v, rfl, hv.same hs, fun H2 hs2 => ⟨rfl, ?_⟩⟩
      rw [decide_eq_true rfl]
      exact q H2 (hs.trans hs2)
end
end K


set_option Elab.async false
set_option linter.all false
set_option maxRecDepth 100000
set_option maxHeartbeats 4000000

namespace K
open PySem PySem.Spec PyProof.Rows L2 U
/-- a purse: digits left, what is mixed, how many were mixed -/
def Purse (H : Hp) (p : Addr) (c : Int) : Prop := ∃ a b c', H p = some (.lst [.int a, .int b, .int c']) ∧ 0 ≤ a ∧ 0 ≤ b ∧ b < 2 ^ 62 ∧ 0 ≤ c' ∧ c' ≤ c
def spPurse (K : PySem.W.Frag) : Sp := fun vs H Q _ => ∃ (l : Addr) (ns : List Int) (i : Nat), vs = [.ref l, .int i] ∧ SqL K H l (ns.map V.int) ∧ i ≤ 100 ∧ ∀ p a b, H p = none → 0 ≤ a → 0 ≤ b → b < 2 ^ 62 → Q (.ref p) (upd H p (.lst [.int a, .int b, .int 0]))
theorem b01 (k : Bool) : -(2 ^ 64) < (if k = true then (1 : Int) else 0) ∧ (if k = true then (1 : Int) else 0) < 2 ^ 64 := by
  cases k <;> decide
theorem purse_a (c : Int) (k : Bool) : 0 ≤ (if c < 0 then -c else c) * (if k = true then (1 : Int) else 0) := by
  refine Int.mul_nonneg ?_ ?_
  · split <;> omega
  · cases k <;> decide
theorem purse_b (c : Int) (i : Nat) (hi : i ≤ 100) : 0 ≤ c % 2305843009213693951 + 6607 * (i : Int) + 3 ∧ c % 2305843009213693951 + 6607 * (i : Int) + 3 < 2 ^ 62 := by
  have h1 := Int.emod_nonneg c (show (2305843009213693951 : Int) ≠ 0 by decide)
  have h2 := Int.emod_lt_of_pos c (show (0 : Int) < 2305843009213693951 by decide)
  have e : (2 : Int) ^ 62 = 4611686018427387904 := by decide
  omega
section
variable {P : Program} {w : World} {K : PySem.W.Frag} {mg : Str → Option Value} {base : Heap} (T : Txt K mg)
include T
theorem ok__law_purse {f : Addr} {fd : FuncData} (F : Fun K "_law_purse" "_law_purse" s__law_purse f fd) : FnOk P w K mg base CX0 1 f fd ["_law_script", "_law_at"] (spPurse K) := by
  refine F.ok sc__law_purse (fun vs H Q E h => ?_) (fun cdv A outer s H vs Q E hr h => ?_)
  · obtain ⟨l, ns, i, rfl, _⟩ := h
    rfl
  · obtain ⟨l, ns, i, rfl, hl, hi, q⟩ := h
    refine ⟨_, (pss_cons (ps_set (i := 2) sc__law_purse.nd rfl (.inl rfl) pe_int)
      (pss_cons (ps_if (pt_cmpR op_lt (pv 1) (pe_callB call_len_seq (by rfl) T.z_len (by decide +kernel) (pa_cons (pv 0) pa_nil)) (nomark _)) 
        (pss_one (ps_set (i := 2) sc__law_purse.nd rfl (.inl rfl) (pe_ix ix_list (pv 0) (pv 1) (fun _ _ => rfl)))) pss_nil)
      (pss_cons (ps_set (i := 3) sc__law_purse.nd rfl (.inl rfl) (pe_callB call_abs (by rfl) T.z_abs (by decide +kernel) (pa_cons (pv 2) pa_nil)))
      (pss_one (ps_ret (pe_lst (pa_cons (pe_op op_mul (pv 3) (pe_callTy call_int1 (by rfl) T.z_int (by decide +kernel) (pa_cons (pe_cmpR op_ge (pv 3) (pe_op op_powW pe_int pe_int) (nomark _)) pa_nil))) (pa_cons (pe_op op_add (pe_op op_add (pe_op op_mod (pv 2) pe_int) (pe_op op_mul pe_int (pv 1))) pe_int) (pa_cons pe_int pa_nil))))))))), ?_⟩
    refine ⟨_, rfl, _, rfl, l, _, rfl, .inl hl, _, _, rfl, rfl, _, rfl, ?_⟩
    refine ite2 (fun h => ?_) (fun h => ?_)
    · have h := of_decide_eq_true h
      have h2 : i < ns.length := by
        rw [List.length_map] at h
        omega
      have h3 : (ns.map V.int)[i]? = some (.int ns[i]) := by
        rw [List.getElem?_map, List.getElem?_eq_getElem h2]
        rfl
      refine ⟨_, rfl, _, rfl, l, _, _, _, rfl, rfl, hl, atI_nat h3, ?_⟩
      refine ⟨_, rfl, _, rfl, _, rfl, _, rfl, _, _, rfl, rfl, ⟨by decide, by decide, by decide +kernel⟩, _, _, rfl, rfl, .inr ⟨_, rfl, _, _, rfl, rfl, .inr (b01 _), _, rfl, _, _, rfl, rfl, (show (0 : Int) < 2305843009213693951 by decide), _, rfl, _, _, rfl, rfl, .inl ⟨by decide, by decide⟩, _, _, rfl, rfl, _, _, rfl, rfl, sizeLine_ge (by show 3 ≤ 10000; decide), fun p hp => ?_⟩⟩
      exact q p _ _ hp (purse_a _ _) (purse_b _ _ hi).1 (purse_b _ _ hi).2
    · refine ⟨_, rfl, _, rfl, _, rfl, _, rfl, _, _, rfl, rfl, ⟨by decide, by decide, by decide +kernel⟩, _, _, rfl, rfl, .inr ⟨_, rfl, _, _, rfl, rfl, .inr (b01 _), _, rfl, _, _, rfl, rfl, (show (0 : Int) < 2305843009213693951 by decide), _, rfl, _, _, rfl, rfl, .inl ⟨by decide, by decide⟩, _, _, rfl, rfl, _, _, rfl, rfl, sizeLine_ge (by show 3 ≤ 10000; decide), fun p hp => ?_⟩⟩
      exact q p _ _ hp (purse_a _ _) (purse_b _ _ hi).1 (purse_b _ _ hi).2
/-- all but what stands at p is as it was -/
def But (p : Addr) (H H' : Hp) : Prop := ∀ b o, H b = some o → b ≠ p → H' b = some o
/-- a draw: some number below many; the purse goes on -/
def spTake : Sp := fun vs H Q _ => ∃ (p : Addr) (m c : Int), vs = [.ref p, .int m] ∧ Purse H p c ∧ c < 2 ^ 40 ∧ 0 < m ∧ m < 2 ^ 60 ∧
  ∀ r H', 0 ≤ r → r < m → Purse H' p (c + 1) → But p H H' → Q (.int r) H'
omit T in
theorem primes_at (x : Int) (hx : 0 ≤ x) : ∃ z : Int, 0 < z ∧ z < 2 ^ 31 ∧ atI [V.int 2147483647, V.int 2147483629, V.int 2147483587, V.int 2147483579, V.int 2147483563, V.int 2147483549, V.int 2147483543] (x % 7) = some (.int z) := by
  have h1 := Int.emod_nonneg x (show (7 : Int) ≠ 0 by decide)
  have h2 := Int.emod_lt_of_pos x (show (0 : Int) < 7 by decide)
  have h3 : x % 7 = 0 ∨ x % 7 = 1 ∨ x % 7 = 2 ∨ x % 7 = 3 ∨ x % 7 = 4 ∨ x % 7 = 5 ∨ x % 7 = 6 := by omega
  rcases h3 with e | e | e | e | e | e | e <;> rw [e] <;> exact ⟨_, by decide, by decide, rfl⟩
omit T in
theorem base_small {b s : Int} (hb : 0 ≤ b) (hb2 : b < 2 ^ 62) (hs : 0 ≤ s) (hs2 : s < 2 ^ 41) : ((b + 104729 * s) * (3 * s + 4) + 7919 * s * s).natAbs < 2 ^ 1000 ∧ 0 ≤ (b + 104729 * s) * (3 * s + 4) + 7919 * s * s := by
  have e62 : (2 : Int) ^ 62 = 4611686018427387904 := by decide
  have e41 : (2 : Int) ^ 41 = 2199023255552 := by decide
  have h1 : (b + 104729 * s) * (3 * s + 4) ≤ 2 ^ 63 * 2 ^ 43 := Int.mul_le_mul (by rw [show (2 : Int) ^ 63 = 9223372036854775808 by decide]; omega) (by rw [show (2 : Int) ^ 43 = 8796093022208 by decide]; omega) (by omega) (by decide)
  have h2 : 7919 * s * s ≤ 2 ^ 54 * 2 ^ 41 := Int.mul_le_mul (by rw [show (2 : Int) ^ 54 = 18014398509481984 by decide]; omega) (by omega) hs (by decide)
  have h3 : 0 ≤ (b + 104729 * s) * (3 * s + 4) := Int.mul_nonneg (by omega) (by omega)
  have h4 : 0 ≤ 7919 * s * s := Int.mul_nonneg (by omega) hs
  have h5 : (2 : Int) ^ 63 * 2 ^ 43 + 2 ^ 54 * 2 ^ 41 < 2 ^ 200 := by decide
  refine ⟨?_, by omega⟩
  have h6 : (b + 104729 * s) * (3 * s + 4) + 7919 * s * s < 2 ^ 200 := by omega
  have h8 : 0 ≤ (b + 104729 * s) * (3 * s + 4) + 7919 * s * s := by omega
  have h7 : ((b + 104729 * s) * (3 * s + 4) + 7919 * s * s).natAbs < 2 ^ 200 := by omega
  exact Nat.lt_trans h7 (Nat.pow_lt_pow_right (by decide) (by decide))
theorem ok__law_take {f : Addr} {fd : FuncData} (F : Fun K "_law_take" "_law_take" s__law_take f fd) : FnOk P w K mg base CX0 1 f fd ["_law_purse_here", "_law_many"] spTake := by
  refine F.ok sc__law_take (fun vs H Q E h => ?_) (fun cdv A outer s H vs Q E hr h => ?_)
  · obtain ⟨p, m, c, rfl, _⟩ := h
    rfl
  · obtain ⟨p, m, c0, rfl, ⟨a, b, c, hp, ha, hb, hb2, hc, hcc⟩, hc2, hm, hm2, q⟩ := h
    refine ⟨_, (pss_cons (ps_if (pt_cmpR op_gt (pe_ix ix_list (pv 0) pe_int (fun _ _ => rfl)) pe_int (nomark _)) 
        (pss_cons (ps_set (i := 2) sc__law_take.nd rfl (.inl rfl) (pe_op op_mod (pe_ix ix_list (pv 0) pe_int (fun _ _ => rfl)) (pv 1)))
        (pss_cons (ps_asg (pe_op op_fdivW (pe_ix ix_list (pv 0) pe_int (fun _ _ => rfl)) (pv 1)) (pg_sub (pv 0) pe_int set_list))
        (pss_one (ps_ret (pv 2))))) pss_nil)
      (pss_cons (ps_set (i := 3) sc__law_take.nd rfl (.inl rfl) (pe_tup (pa_cons pe_int (pa_cons pe_int (pa_cons pe_int (pa_cons pe_int (pa_cons pe_int (pa_cons pe_int (pa_cons pe_int pa_nil)))))))))
      (pss_cons (ps_asg (pe_op op_add (pe_ix ix_list (pv 0) pe_int (fun _ _ => rfl)) pe_int) (pg_sub (pv 0) pe_int set_list))
      (pss_cons (ps_set (i := 4) sc__law_take.nd rfl (.inl rfl) (pe_ix ix_list (pv 0) pe_int (fun _ _ => rfl)))
      (pss_cons (ps_set (i := 5) sc__law_take.nd rfl (.inl rfl) (pe_op op_add (pe_op op_mul (pe_op op_add (pe_ix ix_list (pv 0) pe_int (fun _ _ => rfl)) (pe_op op_mul pe_int (pv 4))) (pe_op op_add (pe_op op_mul pe_int (pv 4)) pe_int)) (pe_op op_mul (pe_op op_mul pe_int (pv 4)) (pv 4))))
      (pss_cons (ps_set (i := 6) sc__law_take.nd rfl (.inl rfl) (pe_op op_mod (pe_op op_powW (pv 5) pe_int) (pe_ix ix_tup (pv 3) (pe_op op_mod (pv 4) pe_int) (fun _ _ => rfl))))
      (pss_one (ps_ret (pe_op op_mod (pe_op op_fdiv (pe_op op_mod (pe_op op_mul (pv 6) (pe_op op_add (pe_op op_add (pe_op op_fdiv (pv 6) pe_int) (pe_op op_mul pe_int (pv 4))) pe_int)) (pe_ix ix_tup (pv 3) (pe_op op_mod (pe_op op_add (pv 4) pe_int) pe_int) (fun _ _ => rfl))) pe_int) (pv 1)))))))))), ?_⟩
    refine ⟨_, rfl, p, _, _, _, rfl, rfl, .inl (.inl hp), rfl, _, _, rfl, rfl, _, rfl, ?_⟩
    refine ite2 (fun h => ?_) (fun h => ?_)
    · have h := of_decide_eq_true h
      refine ⟨_, rfl, p, _, _, _, rfl, rfl, .inl (.inl hp), rfl, _, rfl, _, _, rfl, rfl, hm, _, rfl, p, _, _, _, rfl, rfl, .inl (.inl hp), rfl, _, rfl, _, _, rfl, rfl, wide_div hm (b := 60) (by omega) (by decide) (by decide), _, rfl, p, _, _, _, rfl, rfl, hp, rfl, _, rfl, ?_⟩
      exact q (a % m) _ (Int.emod_nonneg a (by omega)) (Int.emod_lt_of_pos a hm) ⟨a / m, b, c, upd_same, Int.ediv_nonneg ha (by omega), hb, hb2, hc, by omega⟩ fun b' o e n => by rw [upd_ne n]; exact e
    · refine ⟨by show 7 ≤ sizeLine; exact sizeLine_ge (by decide), fun t ht => ?_⟩
      have npt : p ≠ t := ne_of_none hp ht
      refine ⟨_, rfl, p, _, _, _, rfl, rfl, .inl (.inl (by rw [upd_ne npt]; exact hp)), rfl, _, _, rfl, rfl, _, rfl, p, _, _, _, rfl, rfl, (by rw [upd_ne npt]; exact hp), rfl, ?_⟩
      have gp : ∀ (G : Hp), (upd G p (.lst ([V.int a, V.int b, V.int c].set (Int.toNat 2) (V.int (c + 1))))) p = some (.lst [.int a, .int b, .int (c + 1)]) := fun _ => upd_same
      have gt : (upd (upd H t (.tup [.int 2147483647, .int 2147483629, .int 2147483587, .int 2147483579, .int 2147483563, .int 2147483549, .int 2147483543])) p (.lst ([V.int a, V.int b, V.int c].set (Int.toNat 2) (V.int (c + 1))))) t = some (.tup [.int 2147483647, .int 2147483629, .int 2147483587, .int 2147483579, .int 2147483563, .int 2147483549, .int 2147483543]) := by
        rw [upd_ne npt.symm, upd_same]
      obtain ⟨z1, z1a, z1b, z1c⟩ := primes_at (c + 1) (by omega)
      obtain ⟨z2, z2a, z2b, z2c⟩ := primes_at (c + 1 + 3) (by omega)
      have bs := base_small hb hb2 (show 0 ≤ c + 1 by omega) (by omega)
      refine ⟨_, rfl, p, _, _, _, rfl, rfl, .inl (.inl (gp _)), rfl, ?_⟩
      refine ⟨_, rfl, p, _, _, _, rfl, rfl, .inl (.inl (gp _)), rfl, _, rfl, _, _, rfl, rfl, .inl ⟨by decide, by decide⟩, _, _, rfl, rfl, _, rfl, _, _, rfl, rfl, .inl ⟨by decide, by decide⟩, _, _, rfl, rfl, _, _, rfl, rfl, .inr ⟨by omega, by omega⟩,
        _, rfl, _, _, rfl, rfl, .inl ⟨by decide, by decide⟩, _, rfl, _, _, rfl, rfl, .inr ⟨by omega, by omega⟩, _, _, rfl, rfl, ?_⟩
      refine ⟨_, rfl, _, _, rfl, rfl, ⟨by decide, by decide, bs.1⟩, _, rfl, _, rfl, _, _, rfl, rfl, (show (0 : Int) < 7 by decide), t, _, _, _, rfl, rfl, .inl (.inl gt), z1c, _, _, rfl, rfl, z1a, ?_⟩
      have m1 := Int.emod_nonneg (((b + 104729 * (c + 1)) * (3 * (c + 1) + 4) + 7919 * (c + 1) * (c + 1)) ^ (Int.toNat 3)) (show z1 ≠ 0 by omega)
      have m2 := Int.emod_lt_of_pos (((b + 104729 * (c + 1)) * (3 * (c + 1) + 4) + 7919 * (c + 1) * (c + 1)) ^ (Int.toNat 3)) z1a
      refine ⟨_, rfl, _, rfl, _, _, rfl, rfl, ⟨by decide, by decide⟩, _, rfl, _, _, rfl, rfl, .inl ⟨by decide, by decide⟩, _, _, rfl, rfl, _, _, rfl, rfl, _, _, rfl, rfl, .inl ⟨by omega, by omega⟩,
        _, rfl, _, rfl, _, _, rfl, rfl, _, _, rfl, rfl, (show (0 : Int) < 7 by decide), t, _, _, _, rfl, rfl, .inl (.inl gt), z2c, _, _, rfl, rfl, z2a, _, _, rfl, rfl, ⟨by decide, by decide⟩, _, rfl, _, _, rfl, rfl, hm, ?_⟩
      refine q _ _ (Int.emod_nonneg _ (by omega)) (Int.emod_lt_of_pos _ hm) ⟨a, b, c + 1, gp _, ha, hb, hb2, by omega, by omega⟩ fun b' o e n => ?_
      rw [upd_ne n, upd_ne (ne_of_none e ht)]
      exact e
end
end K


set_option Elab.async false
set_option linter.all false
set_option maxRecDepth 100000
set_option maxHeartbeats 4000000

namespace K
open PySem PySem.Spec PyProof.Rows L2 U
/-- law: a list of at most 63 ints is handed in, True comes out -/
def spLaw (K : PySem.W.Frag) : Sp := fun vs H Q _ => ∃ (a : Addr) (ns : List Int), vs = [.ref a] ∧ SqL K H a (ns.map V.int) ∧ ns.length ≤ 63 ∧ ∀ H', Q (.bl true) H'
theorem But.same {p : Addr} {H0 H H' : Hp} (h : But p H H') (s : Same H0 H) (n : H0 p = none) : Same H0 H' := fun b o e => h b o (s b o e) (ne_of_none e n)
theorem But.refl (p : Addr) (H : Hp) : But p H H := fun _ _ e _ => e
theorem But.trans {p : Addr} {H H1 H2 : Hp} (a : But p H H1) (b : But p H1 H2) : But p H H2 := fun c o e n => b c o (a c o e n) n
theorem But.of_same {p : Addr} {H H' : Hp} (s : Same H H') : But p H H' := fun b o e _ => s b o e
theorem Purse.same {p : Addr} {H H' : Hp} {c : Int} (h : Purse H p c) (s : Same H H') : Purse H' p c := by
  obtain ⟨a, b, c', e, r⟩ := h
  exact ⟨a, b, c', s _ _ e, r⟩
theorem Purse.some {p : Addr} {H : Hp} {c : Int} (h : Purse H p c) : ∃ o, H p = some o := by
  obtain ⟨a, b, c', e, r⟩ := h
  exact ⟨_, e⟩
theorem Purse.ne {p q : Addr} {H : Hp} {c : Int} (h : Purse H p c) (e : H q = none) : p ≠ q := by
  obtain ⟨o, h⟩ := h.some
  exact ne_of_none h e
theorem Purse.mono {p : Addr} {H : Hp} {c d : Int} (h : Purse H p c) (l : c ≤ d) : Purse H p d := by
  obtain ⟨a, b, c', e, h1, h2, h3, h4, h5⟩ := h
  exact ⟨a, b, c', e, h1, h2, h3, h4, by omega⟩
theorem letter_at {r : Int} (h0 : 0 ≤ r) (h1 : r < 26) : ∃ c, atI (Str.ofString "ABCDEFGHIJKLMNOPQRSTUVWXYZ").cps.toList r = some c := by
  have hl : great.length = 26 := by decide
  obtain ⟨j, rfl⟩ : ∃ j : Nat, r = j := ⟨r.toNat, by omega⟩
  refine ⟨great[j]'(by omega), ?_⟩
  rw [great_eq]
  exact atI_tx (List.getElem?_eq_getElem (by omega))
theorem join_len (zs : List Nat) : (Txt.join (Str.ofString "") (zs.map fun c => tx [c])).length = zs.length := by
  have e : Str.ofString "" = (⟨#[]⟩ : Str) := by decide +kernel
  rw [e]
  show (PySem.Builtin.Str.glued _ _).length = _
  rw [PySem.size_glued]
  have h : ∀ l : List Nat, ((l.map fun c => tx [c]).map (·.length)).sum = l.length := by
    intro l
    induction l with
    | nil => rfl
    | cons x r ih =>
      rw [List.map_cons, List.map_cons, List.sum_cons, ih, tx_len]
      simp
      omega
  rw [h]
  simp [Str.length]
theorem sign_at {r : Int} (h0 : 0 ≤ r) (h1 : r < 16) : ∃ c, atI (Str.ofString " _.-0139\x40[`az{?!").cps.toList r = some c := by
  have h3 : r = 0 ∨ r = 1 ∨ r = 2 ∨ r = 3 ∨ r = 4 ∨ r = 5 ∨ r = 6 ∨ r = 7 ∨ r = 8 ∨ r = 9 ∨ r = 10 ∨ r = 11 ∨ r = 12 ∨ r = 13 ∨ r = 14 ∨ r = 15 := by omega
  have e : (Str.ofString " _.-0139\x40[`az{?!").cps.toList = [32, 95, 46, 45, 48, 49, 51, 57, 64, 91, 96, 97, 122, 123, 63, 33] := by decide +kernel
  rw [e]
  rcases h3 with e | e | e | e | e | e | e | e | e | e | e | e | e | e | e | e <;> rw [e] <;> exact ⟨_, rfl⟩
theorem app_len (a b : Str) : (a ++ b).length = a.length + b.length := by
  show (a.cps ++ b.cps).size = _
  simp [Str.length]
theorem all_true : ∀ n : Nat, (List.replicate n true).all id = true
  | 0 => rfl
  | n + 1 => by rw [List.replicate_succ, List.all_cons, all_true n]; rfl
theorem all_right {K : PySem.W.Frag} {q6 : Addr} {items : List V} {G : Hp} {Q : VK} {s0 s1 s2 s3 s4 s5 s6 s8 s9 : Option V} (h6 : G q6 = some (.lst items)) (hl : items.length ≤ 1000) (hit : ∀ x ∈ items, ∀ G', Same G G' → Th G' x)
    (hq : ∀ D H', Same G H' → H' D = some (.lst (List.replicate items.length (V.bl true))) → Q (.ref D) H') :
    tLc (iList K (tVar 7)) (gName 9) tYes (tCall spRight [] E0 (tCons (tVar 9) tNil)) [9] [s0, s1, s2, s3, s4, s5, s6, some (.ref q6), s8, s9] G Q := by
  refine ⟨_, rfl, q6, rfl, ⟨_, .inl (.inl h6)⟩, fun D hD => lc_do (walk_list (xs := items)) (fun j H' => Same G H' ∧ H' D = some (.lst (List.replicate j (V.bl true)))) (fun _ => rfl) ⟨same_new hD, upd_same⟩ (fun j H' _ p => .inl (.inl (p.1 _ _ h6))) ?_ fun H' p => hq D H' p.1 p.2⟩
  rintro j x H1 H2 hj ⟨s1, d1⟩ ⟨rfl, hx⟩
  refine ⟨_, rfl, x, rfl, hit x (List.mem_of_getElem? hx) _ s1, fun H3 s3 => ⟨_, s3 _ _ d1, ?_, fun b o e => ?_, ?_⟩⟩
  · rw [List.length_replicate]
    exact small1000 (by omega)
  · rw [upd_ne (ne_of_none e hD)]
    exact s3 _ _ (s1 _ _ e)
  · rw [upd_same, List.replicate_succ']
theorem gset {i : Nat} {v : V} {σ : L2.St} {H : Hp} {Q : L2.St → Hp → Prop} (h : Q (σ.set i (some v)) H) : gName i v σ H Q := h
theorem if_right {K : PySem.W.Frag} {q6 : Addr} {items : List V} {G : Hp} {t : TS} {D : Ends} {s0 s1 s2 s3 s4 s5 s6 s8 s9 : Option V} (h6 : G q6 = some (.lst items)) (hl : items.length ≤ 1000) (hit : ∀ x ∈ items, ∀ G', Same G G' → Th G' x)
    (hq : ∀ D1 H', Same G H' → H' D1 = some (.lst (List.replicate items.length (V.bl true))) → D.nx [s0, s1, s2, s3, s4, s5, s6, some (.ref q6), s8, s9] H') :
    tIfS (tNot (tB (tCB (rAll K) (tCons (tLc (iList K (tVar 7)) (gName 9) tYes (tCall spRight [] E0 (tCons (tVar 9) tNil)) [9]) tNil)))) t tNext D [s0, s1, s2, s3, s4, s5, s6, some (.ref q6), s8, s9] G := by
  refine all_right (Q := fun y H2 => rAll K [y] H2 fun z H3 => ∃ c, z = .bl c ∧ if (!c) = true then t D [s0, s1, s2, s3, s4, s5, s6, some (.ref q6), s8, s9] H3 else D.nx [s0, s1, s2, s3, s4, s5, s6, some (.ref q6), s8, s9] H3) h6 hl hit fun D1 H' sG hD => ?_
  refine ⟨D1, List.replicate items.length true, rfl, .inl (.inl (by rw [hD, List.map_replicate])), true, by rw [all_true], iteF (hq D1 H' sG hD)⟩
section
variable {P : Program} {w : World} {K : PySem.W.Frag} {mg : Str → Option Value} {base : Heap} (T : Txt K mg)
include T
theorem ok_law {f fP fT fR : Addr} {fd fdP fdT fdR : FuncData} (F : Fun K "law" "law" s_law f fd) (h__law_purse : Has P w K mg base "_law_purse" 1 ["_law_script", "_law_at"] (spPurse K) fP fdP)
    (h__law_take : Has P w K mg base "_law_take" 1 ["_law_purse_here", "_law_many"] spTake fT fdT) (h__law_right : Has P w K mg base "_law_right" 4 ["_law_one"] spRight fR fdR) : FnOk P w K mg base CX0 5 f fd ["_law_script"] (spLaw K) := by
  refine F.ok sc_law (fun vs H Q E h => ?_) (fun cdv A outer s H vs Q E hr h => ?_)
  · obtain ⟨a, ns, rfl, _⟩ := h
    rfl
  · obtain ⟨l, ns, rfl, hl, hlen, q⟩ := h
    refine ⟨_, (pss_cons (ps_set (i := 1) sc_law.nd rfl (.inr rfl) pe_str)
      (pss_cons (ps_for PassesOwn.never rfl (pi_range1 (by rfl) T.z_range (pa_cons (pe_callB (call_max2 rfl) (by rfl) T.z_max (by decide +kernel) (pa_cons pe_int (pa_cons (pe_callB (call_min2 rfl) (by rfl) T.z_min (by decide +kernel) (pa_cons pe_int (pa_cons (pe_callB call_len_seq (by rfl) T.z_len (by decide +kernel) (pa_cons (pv 0) pa_nil)) pa_nil))) pa_nil))) pa_nil)) (pg_name (i := 2) sc_law.nd rfl (.inl rfl)) 
        (pss_cons (ps_set (i := 3) sc_law.nd rfl (.inr rfl) (pe_callH h__law_purse (hr.mono (by first | decide | omega)) (by rfl) (pa_cons (pv 0) (pa_cons (pv 2) pa_nil))))
        (pss_cons (ps_set (i := 4) sc_law.nd rfl (.inl rfl) (pe_join pe_str (pe_lc (own := [("_law_j", 8)]) (g := gName 8) (tt := tYes) rfl sc_law.nd (pi_range1 (by rfl) T.z_range (pa_cons (pe_op op_add pe_int (pe_callH h__law_take (hr.mono (by first | decide | omega)) (by rfl) (pa_cons (pv 3) (pa_cons pe_int pa_nil)))) pa_nil)) (blkOk_by (N := nm_law) (sc := defScope s_law) (by decide +kernel)) (fun _ _ _ _ _ => pg_name (i := 8) sc_law.nd rfl (.inl rfl)) (fun _ _ _ _ _ => pts_nil) (fun _ _ _ _ _ => (pe_ix ix_str (pv 1) (pe_callH h__law_take (hr.mono (by first | decide | omega)) (by rfl) (pa_cons (pv 3) (pa_cons pe_int pa_nil))) (fun _ _ => rfl))))))
        (pss_cons (ps_par (i := 5) (j := 6) (by rfl) sc_law.nd rfl rfl (by decide) rfl rfl (pa_cons (pe_callH h__law_take (hr.mono (by first | decide | omega)) (by rfl) (pa_cons (pv 3) (pa_cons (pe_callB call_len_str (by rfl) T.z_len (by decide +kernel) (pa_cons (pv 4) pa_nil)) pa_nil))) (pa_cons (pe_ix ix_str pe_str (pe_callH h__law_take (hr.mono (by first | decide | omega)) (by rfl) (pa_cons (pv 3) (pa_cons pe_int pa_nil))) (fun _ _ => rfl)) pa_nil)) (by rfl))
        (pss_cons (ps_set (i := 7) sc_law.nd rfl (.inl rfl) (pe_lst (pa_cons (pv 4) (pa_cons (pe_op op_add_str (pe_op op_add_str (pe_slice sl_str (pv 4) po_none (po_some (pv 5))) (pv 6)) (pe_slice sl_str (pv 4) (po_some (pe_op op_add (pv 5) pe_int)) po_none)) (pa_cons (pe_op op_add_str (pe_op op_add_str (pe_slice sl_str (pv 4) po_none (po_some (pv 5))) (pv 6)) (pe_slice sl_str (pv 4) (po_some (pv 5)) po_none)) (pa_cons (pe_op op_add_str (pe_slice sl_str (pv 4) po_none (po_some (pv 5))) (pe_slice sl_str (pv 4) (po_some (pe_op op_add (pv 5) pe_int)) po_none)) pa_nil))))))
        (pss_cons (ps_set (i := 7) sc_law.nd rfl (.inl rfl) (pe_op op_cat (pv 7) (pe_lst (pa_cons (pe_lower (pv 4)) (pa_cons (pe_lst (pa_cons (pv 4) pa_nil)) (pa_cons (pe_tup (pa_cons (pv 4) pa_nil)) (pa_cons (pe_callTy (call_list_txt rfl) (by rfl) T.z_list (by decide +kernel) (pa_cons (pv 4) pa_nil)) (pa_cons pe_non (pa_cons pe_bl (pa_cons pe_int (pa_cons (pe_callB call_len_str (by rfl) T.z_len (by decide +kernel) (pa_cons (pv 4) pa_nil)) (pa_cons pe_str (pa_cons pe_str pa_nil)))))))))))))
        (pss_one (ps_if (pt_not (pt_val (pe_callB (cr_all rfl) (by rfl) T.z_all (by decide +kernel) (pa_cons (pe_lc (own := [("_law_one", 9)]) (g := gName 9) (tt := tYes) rfl sc_law.nd (pi_list (pv 7)) (blkOk_by (N := nm_law) (sc := defScope s_law) (by decide +kernel)) (fun _ _ _ _ _ => pg_name (i := 9) sc_law.nd rfl (.inl rfl)) (fun _ _ _ _ _ => pts_nil) (fun _ _ _ _ _ => (pe_callH h__law_right (hr.mono (by first | decide | omega)) (by rfl) (pa_cons (pv 9) pa_nil)))) pa_nil)))) 
          (pss_one (ps_ret pe_bl)) pss_nil))))))))
      (pss_one (ps_ret pe_bl)))), ?_⟩
    refine ⟨_, rfl, l, _, rfl, .inl hl, _, _, rfl, _, _, rfl, ?_⟩
    have hb : (if (if ((ns.map V.int).length : Int) < 4 then ((ns.map V.int).length : Int) else 4) > 1 then (if ((ns.map V.int).length : Int) < 4 then ((ns.map V.int).length : Int) else 4) else 1) ≤ 4 ∧ 0 ≤ (if (if ((ns.map V.int).length : Int) < 4 then ((ns.map V.int).length : Int) else 4) > 1 then (if ((ns.map V.int).length : Int) < 4 then ((ns.map V.int).length : Int) else 4) else 1) := by
      split <;> split <;> omega
    refine ⟨_, rfl, by omega, by omega, for_range (fun _ σ H' => (∃ a2 a3 a4 a5 a6 a7 a8 a9, σ = [some (.ref l), some (.str (Str.ofString "ABCDEFGHIJKLMNOPQRSTUVWXYZ")), a2, a3, a4, a5, a6, a7, a8, a9]) ∧ SqL K H' l (ns.map V.int)) ⟨⟨_, _, _, _, _, _, _, _, rfl⟩, hl⟩ ?_ ?_⟩
    · rintro i σ H0 hi ⟨⟨a2, a3, a4, a5, a6, a7, a8, a9, rfl⟩, hl0⟩
      have hi : i ≤ 100 := by omega
      refine ⟨_, rfl, _, rfl, l, ns, i, ?_, hl0, hi, fun p pa pb hp ha hb hb2 => ?_⟩
      · rw [Int.zero_add]
        rfl
      have P0 : Purse (upd H0 p (.lst [.int pa, .int pb, .int 0])) p 0 := ⟨pa, pb, 0, upd_same, ha, hb, hb2, Int.le_refl _, Int.le_refl _⟩
      have s0 : Same H0 (upd H0 p (.lst [.int pa, .int pb, .int 0])) := same_new hp
      generalize upd H0 p (.lst [.int pa, .int pb, .int 0]) = H1 at P0 s0 ⊢
      refine ⟨⟨_, rfl⟩, _, rfl, p, 7, 0, rfl, P0, by decide, by decide, by decide, fun r H2 hr0 hr7 P1 b1 => ?_⟩
      have s1 := b1.same s0 hp
      refine ⟨_, _, rfl, rfl, _, rfl, by omega, by omega, fun D hD => lc_do walk_range (fun j H' => Purse H' p (1 + j) ∧ Same H0 H' ∧ ∃ zs : List Nat, zs.length = j ∧ H' D = some (.lst (zs.map fun c => V.str (tx [c])))) (fun _ => rfl) ⟨P1.same (same_new hD), s1.trans (same_new hD), [], rfl, upd_same⟩ (fun _ _ _ _ => trivial) ?_ ?_⟩
      · rintro j x H3 H4 hj ⟨P3, s3, zs, hz, hD3⟩ ⟨rfl, rfl⟩
        refine ⟨_, rfl, _, rfl, p, 26, _, rfl, P3, by omega, by decide, by decide, fun r4 H5 h40 h41 P5 b5 => ?_⟩
        obtain ⟨c, hc⟩ := letter_at h40 h41
        have nD : D ≠ p := (P1.ne hD).symm
        have hD5 := b5 D _ hD3 nD
        refine ⟨_, r4, c, rfl, rfl, sizeLine_ge (by decide +kernel), hc, _, hD5, ?_, ?_⟩
        · rw [List.length_map]
          exact small1000 (by omega)
        · refine ⟨?_, ?_, zs ++ [c], by rw [List.length_append, hz]; rfl, ?_⟩
          · obtain ⟨pa', pb', pc', e1, e2, e3, e4, e5, e6⟩ := P5
            exact ⟨pa', pb', pc', by rw [upd_ne nD.symm]; exact e1, e2, e3, e4, e5, by omega⟩
          · intro b o e
            have n1 : b ≠ D := fun z => by
              subst z
              have := s1 _ _ e
              rw [hD] at this
              cases this
            rw [upd_ne n1]
            exact b5 b o (s3 b o e) (ne_of_none e hp)
          · rw [upd_same, List.map_append]
            rfl
      · rintro H3 ⟨P3, s3, zs, hz, hD3⟩
        have hn : (1 + r).toNat ≤ 7 := by omega
        refine ⟨_, D, zs.map fun c => tx [c], rfl, rfl, .inl (.inl (.inl (by rw [hD3, List.map_map]; rfl))), ?_, ?_⟩
        · have h1 : ∀ l : List Nat, ((l.map fun c => tx [c]).map (·.length)).sum = l.length := by
            intro l
            induction l with
            | nil => rfl
            | cons x r ih =>
              rw [List.map_cons, List.map_cons, List.sum_cons, ih, tx_len]
              simp
              omega
          have h2 : (Str.ofString "").length = 0 := by decide +kernel
          rw [h1, h2]
          omega
        · have hL := join_len zs
          generalize Txt.join (Str.ofString "") (zs.map fun c => tx [c]) = name at hL ⊢
          have hL1 : 1 ≤ name.length := by omega
          have hL2 : name.length ≤ 7 := by omega
          refine ⟨_, rfl, _, rfl, _, rfl, by exact sizeLine_ge (by omega), p, _, _, rfl, P3, by omega, by omega, by omega, fun r4 H4 h40 h41 P4 b4 => ?_⟩
          refine ⟨_, rfl, p, _, _, rfl, P4, by omega, by decide, by decide, fun r5 H5 h50 h51 P5 b5 => ?_⟩
          obtain ⟨sg, hsg⟩ := sign_at h50 h51
          have c1 : ∀ lo hi, (cutS name lo hi).length ≤ 7 := fun lo hi => Nat.le_trans (cutS_len name lo hi) hL2
          have hLs : name.length ≤ sizeLine := sizeLine_ge (by omega)
          refine ⟨_, r5, sg, rfl, rfl, sizeLine_ge (by decide +kernel), hsg, ?_⟩
          have g1 : (⟨#[sg]⟩ : Str).length = 1 := rfl
          generalize (⟨#[sg]⟩ : Str) = sgn at g1
          refine ⟨_, _, rfl, ?_⟩
          have ha1 : ∀ lo hi, (cutS name lo hi ++ sgn).length ≤ 8 := fun lo hi => by rw [app_len]; have := c1 lo hi; omega
          have ha2 : ∀ lo hi lo' hi', (cutS name lo hi ++ sgn ++ cutS name lo' hi').length ≤ 15 := fun lo hi lo' hi' => by rw [app_len]; have := ha1 lo hi; have := c1 lo' hi'; omega
          have ha3 : ∀ lo hi lo' hi', (cutS name lo hi ++ cutS name lo' hi').length ≤ 14 := fun lo hi lo' hi' => by rw [app_len]; have := c1 lo hi; have := c1 lo' hi'; omega
          have cat1 : ∀ a b : Str, (a ++ b).length ≤ 100 → a.length + b.length ≤ sizeLine := fun a b h => by rw [app_len] at h; exact sizeLine_ge (by omega)
          refine ⟨_, rfl, _, rfl, _, rfl, _, rfl, _, rfl, hLs, _, rfl, _, _, rfl, rfl, cat1 _ _ (Nat.le_trans (ha1 _ _) (by decide)), _, rfl, _, rfl, _, _, rfl, rfl, _, rfl, _, rfl, hLs, _, _, rfl, rfl, cat1 _ _ (Nat.le_trans (ha2 _ _ _ _) (by decide)),
            _, rfl, _, rfl, _, rfl, _, rfl, hLs, _, rfl, _, _, rfl, rfl, cat1 _ _ (Nat.le_trans (ha1 _ _) (by decide)), _, rfl, _, rfl, _, rfl, _, rfl, hLs, _, _, rfl, rfl, cat1 _ _ (Nat.le_trans (ha2 _ _ _ _) (by decide)),
            _, rfl, _, rfl, _, rfl, _, rfl, hLs, _, rfl, _, rfl, _, _, rfl, rfl, _, rfl, _, rfl, hLs, _, _, rfl, rfl, cat1 _ _ (Nat.le_trans (ha3 _ _ _ _) (by decide)), sizeLine_ge (by show 4 ≤ 10000; decide), fun q1 hq1 => ?_⟩
          refine ⟨_, rfl, _, rfl, ⟨_, rfl⟩, _, rfl, rfl, by omega, _, rfl, sizeLine_ge (by show 1 ≤ 10000; decide), fun q2 hq2 => ⟨_, rfl, sizeLine_ge (by show 1 ≤ 10000; decide), fun q3 hq3 => ⟨_, rfl, _, rfl, hLs, fun q4 hq4 => ?_⟩⟩⟩
          refine ⟨_, rfl, _, rfl, hLs, sizeLine_ge (by show 10 ≤ 10000; decide), fun q5 hq5 => ?_⟩
          refine ⟨q1, q5, _, _, rfl, rfl, ((same_new hq2).trans ((same_new hq3).trans ((same_new hq4).trans (same_new hq5)))) _ _ upd_same, upd_same, sizeLine_ge (by show 4 + 10 ≤ 10000; decide), fun q6 hq6 => ?_⟩
          refine gset ?_
          refine if_right (q6 := q6) upd_same ?_ ?_ fun D2 H6 s6 d6 => ?_
          · show 4 + 10 ≤ 1000
            decide
          · intro x hx G' sG
            have e2 := ((same_new hq3).trans ((same_new hq4).trans ((same_new hq5).trans ((same_new hq6).trans sG)))) _ _ upd_same
            have e3 := ((same_new hq4).trans ((same_new hq5).trans ((same_new hq6).trans sG))) _ _ upd_same
            have e4 := ((same_new hq5).trans ((same_new hq6).trans sG)) _ _ upd_same
            simp only [List.cons_append, List.nil_append, List.mem_cons, List.not_mem_nil, or_false] at hx
            rcases hx with rfl | rfl | rfl | rfl | rfl | rfl | rfl | rfl | rfl | rfl | rfl | rfl | rfl | rfl
            · exact .txt _ (by omega)
            · exact .txt _ (Nat.le_trans (ha2 _ _ _ _) (by decide))
            · exact .txt _ (Nat.le_trans (ha2 _ _ _ _) (by decide))
            · exact .txt _ (Nat.le_trans (ha3 _ _ _ _) (by decide))
            · exact .txt _ (by have := PyProof.Rows.len_lower name; omega)
            · exact .lst e2
            · exact .tup e3
            · exact .lst e4
            · exact .non
            · exact .bl _
            · exact .int _
            · exact .int _
            · exact .txt _ (by decide +kernel)
            · exact .txt _ (by decide +kernel)
          · refine ⟨⟨_, _, _, _, _, _, _, _, rfl⟩, ((same_new hq1).trans ((same_new hq2).trans ((same_new hq3).trans ((same_new hq4).trans ((same_new hq5).trans ((same_new hq6).trans s6)))))).seq (((b5.same (b4.same s3 hp) hp).seq hl0))⟩
    · rintro σ H1 ⟨⟨a2, a3, a4, a5, a6, a7, a8, a9, rfl⟩, hl0⟩
      exact q H1
end
end K


set_option Elab.async false
set_option linter.all false
set_option maxRecDepth 100000
set_option maxHeartbeats 4000000

namespace K
open PySem PySem.Spec PyProof.Rows L2 U
theorem all_mk {l : PySem.W.OpenLaw} {w : World} {K : PySem.W.Frag} {h : Heap} {mg : Str → Option Value} {fa : Addr} (X : K.In h) (G : h.Ns mainGlobals mg) (hfa : mg "law" = some (.ref fa))
    {od_run_end an_run_end : Option Addr} {sl_run_end : Array (Option Value)} {oc_run_end kV_run_end dc_run_end pm_run_end cd_run_end ct_run_end : Value} {f_run_end : Addr}
    (a_run_end : PySem.W.nsIn K mainGlobals "run_end" = some (some (.ref f_run_end))) (l_run_end : K.lookup f_run_end = some ⟨oc_run_end, od_run_end, .func (PySem.W.fnOf "run_end" "run_end" (defArgs s_run_end) (defBody s_run_end) (defScope s_run_end) .none kV_run_end dc_run_end pm_run_end an_run_end cd_run_end ct_run_end), sl_run_end⟩) (c_run_end : PySem.W.codeIn K cd_run_end "run_end" = true) (k_run_end : PySem.W.keepIn K (.ref f_run_end) = true)
    {od_is_run an_is_run : Option Addr} {sl_is_run : Array (Option Value)} {oc_is_run kV_is_run dc_is_run pm_is_run cd_is_run ct_is_run : Value} {f_is_run : Addr}
    (a_is_run : PySem.W.nsIn K mainGlobals "is_run" = some (some (.ref f_is_run))) (l_is_run : K.lookup f_is_run = some ⟨oc_is_run, od_is_run, .func (PySem.W.fnOf "is_run" "is_run" (defArgs s_is_run) (defBody s_is_run) (defScope s_is_run) .none kV_is_run dc_is_run pm_is_run an_is_run cd_is_run ct_is_run), sl_is_run⟩) (c_is_run : PySem.W.codeIn K cd_is_run "is_run" = true) (k_is_run : PySem.W.keepIn K (.ref f_is_run) = true)
    {od_is_part_name an_is_part_name : Option Addr} {sl_is_part_name : Array (Option Value)} {oc_is_part_name kV_is_part_name dc_is_part_name pm_is_part_name cd_is_part_name ct_is_part_name : Value} {f_is_part_name : Addr}
    (a_is_part_name : PySem.W.nsIn K mainGlobals "is_part_name" = some (some (.ref f_is_part_name))) (l_is_part_name : K.lookup f_is_part_name = some ⟨oc_is_part_name, od_is_part_name, .func (PySem.W.fnOf "is_part_name" "is_part_name" (defArgs s_is_part_name) (defBody s_is_part_name) (defScope s_is_part_name) .none kV_is_part_name dc_is_part_name pm_is_part_name an_is_part_name cd_is_part_name ct_is_part_name), sl_is_part_name⟩) (c_is_part_name : PySem.W.codeIn K cd_is_part_name "is_part_name" = true) (k_is_part_name : PySem.W.keepIn K (.ref f_is_part_name) = true)
    {od__law_purse an__law_purse : Option Addr} {sl__law_purse : Array (Option Value)} {oc__law_purse kV__law_purse dc__law_purse pm__law_purse cd__law_purse ct__law_purse : Value} {f__law_purse : Addr}
    (a__law_purse : PySem.W.nsIn K mainGlobals "_law_purse" = some (some (.ref f__law_purse))) (l__law_purse : K.lookup f__law_purse = some ⟨oc__law_purse, od__law_purse, .func (PySem.W.fnOf "_law_purse" "_law_purse" (defArgs s__law_purse) (defBody s__law_purse) (defScope s__law_purse) .none kV__law_purse dc__law_purse pm__law_purse an__law_purse cd__law_purse ct__law_purse), sl__law_purse⟩) (c__law_purse : PySem.W.codeIn K cd__law_purse "_law_purse" = true) (k__law_purse : PySem.W.keepIn K (.ref f__law_purse) = true)
    {od__law_take an__law_take : Option Addr} {sl__law_take : Array (Option Value)} {oc__law_take kV__law_take dc__law_take pm__law_take cd__law_take ct__law_take : Value} {f__law_take : Addr}
    (a__law_take : PySem.W.nsIn K mainGlobals "_law_take" = some (some (.ref f__law_take))) (l__law_take : K.lookup f__law_take = some ⟨oc__law_take, od__law_take, .func (PySem.W.fnOf "_law_take" "_law_take" (defArgs s__law_take) (defBody s__law_take) (defScope s__law_take) .none kV__law_take dc__law_take pm__law_take an__law_take cd__law_take ct__law_take), sl__law_take⟩) (c__law_take : PySem.W.codeIn K cd__law_take "_law_take" = true) (k__law_take : PySem.W.keepIn K (.ref f__law_take) = true)
    {od__law_due an__law_due : Option Addr} {sl__law_due : Array (Option Value)} {oc__law_due kV__law_due dc__law_due pm__law_due cd__law_due ct__law_due : Value} {f__law_due : Addr}
    (a__law_due : PySem.W.nsIn K mainGlobals "_law_due" = some (some (.ref f__law_due))) (l__law_due : K.lookup f__law_due = some ⟨oc__law_due, od__law_due, .func (PySem.W.fnOf "_law_due" "_law_due" (defArgs s__law_due) (defBody s__law_due) (defScope s__law_due) .none kV__law_due dc__law_due pm__law_due an__law_due cd__law_due ct__law_due), sl__law_due⟩) (c__law_due : PySem.W.codeIn K cd__law_due "_law_due" = true) (k__law_due : PySem.W.keepIn K (.ref f__law_due) = true)
    {od__law_right an__law_right : Option Addr} {sl__law_right : Array (Option Value)} {oc__law_right kV__law_right dc__law_right pm__law_right cd__law_right ct__law_right : Value} {f__law_right : Addr}
    (a__law_right : PySem.W.nsIn K mainGlobals "_law_right" = some (some (.ref f__law_right))) (l__law_right : K.lookup f__law_right = some ⟨oc__law_right, od__law_right, .func (PySem.W.fnOf "_law_right" "_law_right" (defArgs s__law_right) (defBody s__law_right) (defScope s__law_right) .none kV__law_right dc__law_right pm__law_right an__law_right cd__law_right ct__law_right), sl__law_right⟩) (c__law_right : PySem.W.codeIn K cd__law_right "_law_right" = true) (k__law_right : PySem.W.keepIn K (.ref f__law_right) = true)
    {od_law an_law : Option Addr} {sl_law : Array (Option Value)} {oc_law kV_law dc_law pm_law cd_law ct_law : Value} {f_law : Addr}
    (a_law : PySem.W.nsIn K mainGlobals "law" = some (some (.ref f_law))) (l_law : K.lookup f_law = some ⟨oc_law, od_law, .func (PySem.W.fnOf "law" "law" (defArgs s_law) (defBody s_law) (defScope s_law) .none kV_law dc_law pm_law an_law cd_law ct_law), sl_law⟩) (c_law : PySem.W.codeIn K cd_law "law" = true) (k_law : PySem.W.keepIn K (.ref f_law) = true)
    (z_abs : PySem.W.nsIn K mainGlobals "abs" = some none)
    (z_all : PySem.W.nsIn K mainGlobals "all" = some none)
    (z_bool : PySem.W.nsIn K mainGlobals "bool" = some none)
    (z_int : PySem.W.nsIn K mainGlobals "int" = some none)
    (z_isinstance : PySem.W.nsIn K mainGlobals "isinstance" = some none)
    (z_len : PySem.W.nsIn K mainGlobals "len" = some none)
    (z_list : PySem.W.nsIn K mainGlobals "list" = some none)
    (z_max : PySem.W.nsIn K mainGlobals "max" = some none)
    (z_min : PySem.W.nsIn K mainGlobals "min" = some none)
    (z_range : PySem.W.nsIn K mainGlobals "range" = some none)
    (z_str : PySem.W.nsIn K mainGlobals "str" = some none)
    {t_GREAT : Tok} (g_GREAT : PySem.W.nsIn K mainGlobals "GREAT" = some (some (.str (Str.ofString "ABCDEFGHIJKLMNOPQRSTUVWXYZ") t_GREAT)))
    {t_MOST_GREAT : Tok} (g_MOST_GREAT : PySem.W.nsIn K mainGlobals "MOST_GREAT" = some (some (.int 6 t_MOST_GREAT))) :
    ∃ fd : FuncData, (∀ (s : Shared) (v : Value), BindsTo s fd ⟨[v], []⟩ [("_law_script", v)]) ∧ ∀ base : Heap, K.In base → base.Ns mainGlobals mg → FnOk l.prog w K mg base CX0 5 fa fd ["_law_script"] (spLaw K) := by
  have e := hfa.symm.trans (PySem.W.mg_of X G a_law)
  cases e
  have T : Txt K mg := ⟨PySem.W.mg_none_of X G z_abs, PySem.W.mg_none_of X G z_all, PySem.W.mg_none_of X G z_bool, PySem.W.mg_none_of X G z_int, PySem.W.mg_none_of X G z_isinstance, PySem.W.mg_none_of X G z_len, PySem.W.mg_none_of X G z_list, PySem.W.mg_none_of X G z_max, PySem.W.mg_none_of X G z_min, PySem.W.mg_none_of X G z_range, PySem.W.mg_none_of X G z_str, ⟨_, PySem.W.mg_of X G g_GREAT⟩, ⟨_, PySem.W.mg_of X G g_MOST_GREAT⟩⟩
  have F_run_end := fun_mk (st := s_run_end) l_run_end c_run_end k_run_end
  have b_run_end := F_run_end.binds (ps := ["text", "at", "signs", "most"]) fun _ _ _ _ _ _ us hl => match us, hl with | [_, _, _, _], _ => rfl
  have m_run_end := PySem.W.mg_of X G a_run_end
  have F_is_run := fun_mk (st := s_is_run) l_is_run c_is_run k_is_run
  have b_is_run := F_is_run.binds (ps := ["text", "signs", "most"]) fun _ _ _ _ _ _ us hl => match us, hl with | [_, _, _], _ => rfl
  have m_is_run := PySem.W.mg_of X G a_is_run
  have F_is_part_name := fun_mk (st := s_is_part_name) l_is_part_name c_is_part_name k_is_part_name
  have b_is_part_name := F_is_part_name.binds (ps := ["thing"]) fun _ _ _ _ _ _ us hl => match us, hl with | [_], _ => rfl
  have m_is_part_name := PySem.W.mg_of X G a_is_part_name
  have F__law_purse := fun_mk (st := s__law_purse) l__law_purse c__law_purse k__law_purse
  have b__law_purse := F__law_purse.binds (ps := ["_law_script", "_law_at"]) fun _ _ _ _ _ _ us hl => match us, hl with | [_, _], _ => rfl
  have m__law_purse := PySem.W.mg_of X G a__law_purse
  have F__law_take := fun_mk (st := s__law_take) l__law_take c__law_take k__law_take
  have b__law_take := F__law_take.binds (ps := ["_law_purse_here", "_law_many"]) fun _ _ _ _ _ _ us hl => match us, hl with | [_, _], _ => rfl
  have m__law_take := PySem.W.mg_of X G a__law_take
  have F__law_due := fun_mk (st := s__law_due) l__law_due c__law_due k__law_due
  have b__law_due := F__law_due.binds (ps := ["_law_one"]) fun _ _ _ _ _ _ us hl => match us, hl with | [_], _ => rfl
  have m__law_due := PySem.W.mg_of X G a__law_due
  have F__law_right := fun_mk (st := s__law_right) l__law_right c__law_right k__law_right
  have b__law_right := F__law_right.binds (ps := ["_law_one"]) fun _ _ _ _ _ _ us hl => match us, hl with | [_], _ => rfl
  have m__law_right := PySem.W.mg_of X G a__law_right
  have F_law := fun_mk (st := s_law) l_law c_law k_law
  have b_law := F_law.binds (ps := ["_law_script"]) fun _ _ _ _ _ _ us hl => match us, hl with | [_], _ => rfl
  have m_law := PySem.W.mg_of X G a_law
  refine ⟨PySem.W.fnOf "law" "law" (defArgs s_law) (defBody s_law) (defScope s_law) .none kV_law dc_law pm_law an_law cd_law ct_law, fun s v => .of_eq rfl, fun base _ _ => ?_⟩
  have h1 : Has l.prog w K mg base "run_end" 1 ["text", "at", "signs", "most"] spRunEnd _ _ := ⟨m_run_end, k_run_end, b_run_end, ok_run_end T F_run_end⟩
  have h2 : Has l.prog w K mg base "is_run" 2 ["text", "signs", "most"] spIsRun _ _ := ⟨m_is_run, k_is_run, b_is_run, ok_is_run T F_is_run h1⟩
  have h3 : Has l.prog w K mg base "is_part_name" 3 ["thing"] spName _ _ := ⟨m_is_part_name, k_is_part_name, b_is_part_name, ok_is_part_name T F_is_part_name h2⟩
  have h4 : Has l.prog w K mg base "_law_purse" 1 ["_law_script", "_law_at"] (spPurse K) _ _ := ⟨m__law_purse, k__law_purse, b__law_purse, ok__law_purse T F__law_purse⟩
  have h5 : Has l.prog w K mg base "_law_take" 1 ["_law_purse_here", "_law_many"] spTake _ _ := ⟨m__law_take, k__law_take, b__law_take, ok__law_take T F__law_take⟩
  have h6 : Has l.prog w K mg base "_law_due" 1 ["_law_one"] spDue _ _ := ⟨m__law_due, k__law_due, b__law_due, ok__law_due T F__law_due⟩
  have h7 : Has l.prog w K mg base "_law_right" 4 ["_law_one"] spRight _ _ := ⟨m__law_right, k__law_right, b__law_right, ok__law_right T F__law_right h3 (kb_one (fun _ => rfl) (fun _ => rfl)) h6⟩
  exact ok_law T F_law h4 h5 h7
end K
open PySem PySem.W PyProof.Rows
set_option maxHeartbeats 0 in
theorem PySem.Challenge.cw_unwritparts_k07_part_names_holds : PySem.Challenge.rw_unwritparts_k07_part_names.Holds := by
  w_on; o_law; k_head; (case hw => w_witness2)
  k_fill
  refine L2.walk_of (l := PySem.Challenge.rw_unwritparts_k07_part_names) (n := 63) (k := 5) (x := "_law_script") (CX := fun _ => L2.CX0) (sp := fun w => K.spLaw _) rfl (by decide) rfl ⟨rfl, by decide, by decide⟩ (fun w h Y => PySem.W.kIn_of Y) ?F (fun _ _ a ns hl _ hS => ⟨a, ns, rfl, hS, hl, fun _ => rfl⟩) (fun _ _ _ _ _ h => h)
  case F =>
    intro w mg fa h KX G hmg
    refine' K.all_mk KX G hmg ?a_run_end ?l_run_end ?c_run_end ?k_run_end ?a_is_run ?l_is_run ?c_is_run ?k_is_run ?a_is_part_name ?l_is_part_name ?c_is_part_name ?k_is_part_name ?a__law_purse ?l__law_purse ?c__law_purse ?k__law_purse ?a__law_take ?l__law_take ?c__law_take ?k__law_take ?a__law_due ?l__law_due ?c__law_due ?k__law_due ?a__law_right ?l__law_right ?c__law_right ?k__law_right ?a_law ?l_law ?c_law ?k_law ?z_abs ?z_all ?z_bool ?z_int ?z_isinstance ?z_len ?z_list ?z_max ?z_min ?z_range ?z_str ?g_GREAT ?g_MOST_GREAT
    (case a_run_end => k_is); (case l_run_end => k_is); (case c_run_end => k_is); (case k_run_end => k_is); (case a_is_run => k_is); (case l_is_run => k_is); (case c_is_run => k_is); (case k_is_run => k_is); (case a_is_part_name => k_is); (case l_is_part_name => k_is); (case c_is_part_name => k_is); (case k_is_part_name => k_is); (case a__law_purse => k_is); (case l__law_purse => k_is); (case c__law_purse => k_is); (case k__law_purse => k_is); (case a__law_take => k_is); (case l__law_take => k_is); (case c__law_take => k_is); (case k__law_take => k_is); (case a__law_due => k_is); (case l__law_due => k_is); (case c__law_due => k_is); (case k__law_due => k_is); (case a__law_right => k_is); (case l__law_right => k_is); (case c__law_right => k_is); (case k__law_right => k_is); (case a_law => k_is); (case l_law => k_is); (case c_law => k_is); (case k_law => k_is); (case z_abs => k_is); (case z_all => k_is); (case z_bool => k_is); (case z_int => k_is); (case z_isinstance => k_is); (case z_len => k_is); (case z_list => k_is); (case z_max => k_is); (case z_min => k_is); (case z_range => k_is); (case z_str => k_is); (case g_GREAT => k_is); (case g_MOST_GREAT => k_is)


