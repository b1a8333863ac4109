import PyProof.Rows.All
import Wide.All
import OpenK.AllK
import Wide.FinOn
import HandS.ForMost
import HandS.Wide
import HandS.IsInst
import HandS.Walk
import PyProof.ListStr
import HandS.ListEq
import HandS.OwnEq
import HandS.SlotsOwn
import HandS.List
import HandS.Iter
import HandS.More
import HandS.Set
import HandS.SetFor
import HandS.Strs
import PySem.Challenge.RW_unwritparts_k06_whole_terms_put_together
import HandS.Evl
import HandS.TupAny
import HandS.FStr
import HandS.RaiseMore
import PyProof.Rows.SortShellAny
import HandS.MakeKwOnly
set_option Elab.async false
set_option linter.all false
set_option maxRecDepth 100000
set_option maxHeartbeats 4000000
namespace U
open PySem PySem.Spec PyProof.Rows L2
/-! ### words of one's own over the hand layer -/
/-- a ** b, of a base of at most a thousand bits -/
def CPowW (i j : Int) : Prop := 0 ≤ j ∧ j ≤ 1000 ∧ i.natAbs < 2 ^ 1000
theorem op_powW {X : Cx} : OpR X (binaryOp .Pow) (rI CPowW fun i j => .int (i ^ j.toNat)) := opI fun i j _ _ _ _ _ hc q => by
  refine pow_int hc.1 ?_ q
  have h1 : Builtin.Int.intBits i ≤ 1000 := by
    have := PySem.Flt.log2_lt_of (by decide) hc.2.2
    unfold Builtin.Int.intBits
    split <;> omega
  have h2 := hc.1
  have h3 := hc.2.1
  have h4 : (Builtin.Int.intBits i : Int) * j ≤ 1000 * 1000 := Int.mul_le_mul (by omega) h3 h2 (by decide)
  exact Int.le_trans h4 (by decide)
/-- a def of the module: where it stands, how it is called, what it promises -/
structure Has (P : Program) (w : World) (K : PySem.W.Frag) (mg : Str → Option Value) (base : Heap) (x : Str) (k : Nat) (ps : List Str) (sp : Sp) (f : Addr) (fd : FuncData) : Prop where
  at_ : mg x = some (.ref f)
  kp : PySem.W.keepIn K (.ref f) = true
  bi : Binds K fd ps []
  ok : FnOk P w K mg base CX0 k f fd ps sp
section
variable {X : Cx} {k : Nat} {f : Addr} {fd : FuncData} {ps : List Str} {sp : Sp} {x : Str} {p pos : Pos} {e : Expr} {es : List Expr} {t : TA}
theorem pe_callH (h : Has X.prog X.w X.K X.mg X.base x k ps sp f fd) (hr : Room k X.A) (hg : Gl X x) (ha : PA X (e :: es) t) (hdb : (x == ("__debug__" : Str)) = false := by decide)
    (he : starEach (e :: es) X.env = (false, eval e X.env) :: starEach es X.env := by rfl) (hpl : (backTo pos (starEach es X.env)).any (·.1) = false := by rfl) :
    PE X (.Call (.Name x p) (e :: es) [] pos) (tCall sp [] E0 t) :=
  pe_call h.ok hr hg h.at_ h.kp h.bi .nil pass0 ha hdb he hpl
end
/-- a class of the module: where it stands, how its __init__ is called, what that promises -/
structure HasC (P : Program) (w : World) (K : PySem.W.Frag) (mg : Str → Option Value) (base : Heap) (x : Str) (C : Addr) (k : Nat) (ps : List Str) (sp : Sp) (f : Addr) (fd : FuncData) : Prop where
  at_ : mg x = some (.ref C)
  mkC : Mk K C f
  bi : Binds K fd ps []
  ok : FnOk P w K mg base CX0 k f fd ps sp
section
variable {X : Cx} {k : Nat} {f C : Addr} {fd : FuncData} {ps : List Str} {sp : Sp} {x : Str} {p pos : Pos} {e : Expr} {es : List Expr} {t : TA}
theorem pe_makeH (h : HasC X.prog X.w X.K X.mg X.base x C k ps sp f fd) (hr : Room (k + 1) X.A) (hg : Gl X x) (ha : PA X (e :: es) t) (hdb : (x == ("__debug__" : Str)) = false := by decide)
    (he : starEach (e :: es) X.env = (false, eval e X.env) :: starEach es X.env := by rfl) (hpl : (backTo pos (starEach es X.env)).any (·.1) = false := by rfl) :
    PE X (.Call (.Name x p) (e :: es) [] pos) (tMake C sp [] E0 t) :=
  pe_make h.mkC h.ok hr hg h.at_ h.bi .nil pass0 ha hdb he hpl
end
section
variable {X : Cx}
theorem vals_signs (x : Str) : ∀ (zs : List Nat) (us : List Value) (n : Nat), zs.length = us.length → (∀ (j : Nat) (v : Value), us[j]? = some v → ∃ (c : Nat) (u : Tok), zs[j]? = some c ∧ v = Value.str ⟨#[c]⟩ u) → Vals (zs.map fun c => V.str ⟨#[c]⟩) us
  | [], [], _, _, _ => .nil
  | [], _ :: _, _, h, _ => by simp at h
  | _ :: _, [], _, h, _ => by simp at h
  | z :: zs, u :: us, n, h, f => by
    obtain ⟨c, t, e1, e2⟩ := f 0 u rfl
    have e : z = c := Option.some.inj e1
    subst e
    exact .cons ⟨t, e2⟩ (vals_signs x zs us n (by simpa using h) fun j v e => f (j + 1) v e)
/-- list(text) -/
theorem call_list_txt (hc : X.calm = true) : CallR X (.type "list") (fun xs H Q => ∃ z : Str, xs = [.str z] ∧ z.length ≤ sizeLine ∧ ∀ l, H l = none → Q (.ref l) (upd H l (.lst (z.cps.toList.map fun c => V.str ⟨#[c]⟩)))) := by
  intro pins s σ H xs us Q I r h
  obtain ⟨z, rfl, hz, q⟩ := h
  obtain ⟨u, rfl, t, rfl⟩ := vals1 r
  refine PySem.call_list_str (I.ok.hd hc) z t (fun h' tk acc' c' kp e hi => ?_) (by simpa [Str.length] using hz)
  have hl : acc'.size = z.cps.size := hi.1
  have hz2 : z.cps.size ≤ sizeLine := by simpa [Str.length] using hz
  refine ⟨.ref s.heap.objs.size, _, I.laid (t' := tk) kp (Nat.le_refl _) (o := .lst (z.cps.toList.map fun c => V.str ⟨#[c]⟩)) ?_, rfl, q _ (I.hok.fresh (Nat.le_refl _))⟩
  refine ⟨by simpa using hz2, acc'.toList, c', vals_signs z z.cps.toList acc'.toList 0 (by simp [hl]) (fun j v e => ?_), by simpa using e⟩
  obtain ⟨c, u, h1, h2⟩ := hi.2 j v (by simpa using e)
  exact ⟨c, u, by simpa using h1, h2⟩
end

section
variable {X : Cx} {x : Str} {pos : Pos} {i : Int} {z : Str}
theorem pe_globI (hg : Gl X x) (hm : ∃ t, X.mg x = some (.int i t)) (hdb : (x == ("__debug__" : Str)) = false := by decide) : PE X (.Name x pos) (tC (.int i)) := by
  obtain ⟨t, h⟩ := hm
  exact pe_glob hg h ⟨_, rfl⟩ hdb
theorem pe_globR {d : Addr} (hg : Gl X x) (hm : X.mg x = some (.ref d)) (hdb : (x == ("__debug__" : Str)) = false := by decide) : PE X (.Name x pos) (tC (.ref d)) := pe_glob hg hm rfl hdb
theorem pe_globS (hg : Gl X x) (hm : ∃ t, X.mg x = some (.str z t)) (hdb : (x == ("__debug__" : Str)) = false := by decide) : PE X (.Name x pos) (tC (.str z)) := by
  obtain ⟨t, h⟩ := hm
  exact pe_glob hg h ⟨_, rfl⟩ hdb
end
/-- a text of these signs -/
abbrev tx (l : List Nat) : Str := ⟨l.toArray⟩
theorem tx_len (l : List Nat) : (tx l).length = l.length := by simp [Str.length]
theorem tx_cps (l : List Nat) : (tx l).cps.toList = l := by simp
theorem tx_inj {a b : List Nat} (h : tx a = tx b) : a = b := by
  have := congrArg (fun z : Str => z.cps.toList) h
  simpa using this
theorem tx_app (a b : List Nat) : (tx a ++ tx b : Str) = tx (a ++ b) := congrArg Str.mk (show a.toArray ++ b.toArray = (a ++ b).toArray by simp)
theorem tx_of (z : Str) : z = tx z.cps.toList := by cases z; simp
theorem atI_tx {l : List Nat} {j : Nat} {c : Nat} (h : l[j]? = some c) : atI (tx l).cps.toList (j : Int) = some c := by
  rw [tx_cps]
  exact atI_nat h

/-! ### keywords alone -/
section
variable {X : Cx} {CX : CXT} {k : Nat} {f : Addr} {fd : FuncData} {ps ks : List Str} {sp : Sp} {E : XK} {x : Str} {p pos : Pos} {kws : List Keyword} {tk : TA} {g : List Value → List Value → List Value} {gV : List V → List V → List V}
theorem pe_callK0 (F : FnOk X.prog X.w X.K X.mg X.base CX k f fd ps sp) (hr : Room k X.A) (hg : Gl X x) (hm : X.mg x = some (.ref f)) (hk : PySem.W.keepIn X.K (.ref f) = true) (hb : KBinds X.K fd ps ks g gV) (hx : Passes CX X E)
    (hkw : PK X kws tk) (hall : (backToKw pos (keywordEach kws X.env)).all (·.1.isSome) = true := by rfl) (hks : (backToKw pos (keywordEach kws X.env)).filterMap (·.1) = ks := by rfl)
    (hdb : (x == ("__debug__" : Str)) = false := by decide)
    (hpl : ((backTo pos (starEach [] X.env)).any (·.1) || (backToKw pos (keywordEach kws X.env)).any (·.1.isNone)) = false := by rfl) :
    PE X (.Call (.Name x p) [] kws pos) (tCallK sp gV E tNil tk) := by
  refine ⟨fun pins s σ H Q I h => ?_⟩
  refine wpAny_Call_Name_kw (ld_glob I hg hm ?_ hdb)
  refine PySem.W.callWith_KW0 (h₀ := X.base) I.ok.mod.kin hk hall (thn (hkw.run pos pins s σ H _ I h) fun ws s2 ⟨zs, H2, I2, rz, q2⟩ => ⟨I2.kIn, ?_⟩) hpl
  rw [hks]
  exact run_fnk (us := []) F hr hb hx I2 .nil rz q2
/-- one keyword for the one parameter -/
theorem kb_one {K : PySem.W.Frag} {a : Str} (h1 : ∀ u : Value, bindArgs fd ⟨[u], []⟩ = pure [(a, u)]) (h : ∀ u : Value, bindArgs fd ⟨[], [(a, u)]⟩ = pure [(a, u)]) : KBinds K fd [a] [a] (fun us ws => us ++ ws) (fun us ws => us ++ ws) := by
  refine ⟨fun s us ws _ hl => ?_, fun r r2 => Vals.append r r2⟩
  match us, ws, hl with
  | [u], [], _ => exact .of_eq (h1 u)
  | [], [u], _ => exact .of_eq (h u)
end
/-! ### lengths -/
theorem cutS_len (z : Str) (lo hi : Option Int) : (cutS z lo hi).length ≤ z.length := by
  unfold cutS
  simp only [Str.length, List.size_toArray, List.length_take, List.length_drop, Array.length_toList]
  omega
theorem sizeLine_ge {n : Nat} (h : n ≤ 10000) : n ≤ sizeLine := Nat.le_trans h (by decide)
/-- what may be asked of any kind -/
inductive Th (H : Hp) : V → Prop where
  | non : Th H .non
  | bl (b : Bool) : Th H (.bl b)
  | int (i : Int) : Th H (.int i)
  | txt (z : Str) (h : z.length ≤ 10000) : Th H (.str z)
  | lst {a : Addr} {xs : List V} (e : H a = some (.lst xs)) : Th H (.ref a)
  | tup {a : Addr} {xs : List V} (e : H a = some (.tup xs)) : Th H (.ref a)
theorem Th.same {H H' : Hp} {v : V} (h : Th H v) (s : Same H H') : Th H' v := by
  cases h with
  | non => exact .non
  | bl b => exact .bl b
  | int i => exact .int i
  | txt z h => exact .txt z h
  | lst e => exact .lst (s _ _ e)
  | tup e => exact .tup (s _ _ e)
theorem tx_ne (t : List Nat) : decide (V.str (tx t) = V.str (Str.ofString "")) = decide (t = []) := by
  have e : Str.ofString "" = tx [] := by decide +kernel
  rw [e]
  by_cases h : t = []
  · subst h
    simp
  · rw [decide_eq_false h]
    refine decide_eq_false fun z => h (tx_inj (V.str.inj z))
theorem le_sign (a b : Nat) : (!decide ((⟨#[b]⟩ : Str).cps.toList < (⟨#[a]⟩ : Str).cps.toList)) = decide (a ≤ b) := by
  have e : decide ((⟨#[b]⟩ : Str).cps.toList < (⟨#[a]⟩ : Str).cps.toList) = decide (b < a) := decide_eq_decide.mpr (by simp [List.cons_lt_cons_iff])
  rw [e]
  by_cases h : b < a
  · rw [decide_eq_true h, decide_eq_false (by omega)]
    rfl
  · rw [decide_eq_false h, decide_eq_true (by omega)]
    rfl
theorem same_new {H : Hp} {p : Addr} {o : HO} (h : H p = none) : Same H (upd H p o) := fun b x e => by
  rw [upd_ne (ne_of_none e h)]
  exact e
/-- a comprehension of one name, without a test -/
theorem lc_do {J : It} {n : Nat} {G : Hp → Prop} {Y : Nat → Hp → V → Hp → Prop} (w : Walk J n G Y) {k : Nat} {te : TE} {vs : List Nat} {σ : L2.St} {H1 : Hp} {D : Addr} {Qd : Hp → Prop} (Pv : Nat → Hp → Prop)
    (hw : ∀ x, wipe ((wipe σ vs).set k (some x)) vs = wipe σ vs) (h0 : Pv 0 (upd H1 D (.lst []))) (hG : ∀ i H, i ≤ n → Pv i H → G H)
    (hs : ∀ i x H H', i < n → Pv i H → Y i H x H' → te ((wipe σ vs).set k (some x)) H' fun y H4 => ∃ acc, H4 D = some (.lst acc) ∧ acc.length < sizeLine ∧ Pv (i + 1) (upd H4 D (.lst (acc ++ [y])))) (hd : ∀ H, Pv n H → Qd H) :
    ∃ W : Nat → Nat → Hp → Prop, (∃ m, W 0 m (upd H1 D (.lst []))) ∧ ∀ i m H, W i m H →
      (J.stop i H ∧ Qd H) ∨ (J.go i H ∧ ∃ Nx : Hp → Prop, (∀ H', Nx H' → ∃ m', m' < m ∧ W (i + 1) m' H') ∧ ∀ x H', J.yld i H x H' → gName k x (wipe σ vs) H' fun σ2 H2 => wipe σ2 vs = wipe σ vs ∧ tYes σ2 H2 fun b H3 =>
        if b = true then te σ2 H3 fun y H4 => ∃ acc, H4 D = some (.lst acc) ∧ acc.length < sizeLine ∧ Nx (upd H4 D (.lst (acc ++ [y]))) else Nx H3) := by
  refine lc_it w Pv h0 hG (fun i x H H' hi p y => ⟨hw x, ?_⟩) hd
  show if true = true then te ((wipe σ vs).set k (some x)) H' (fun y H4 => ∃ acc, H4 D = some (.lst acc) ∧ acc.length < sizeLine ∧ Pv (i + 1) (upd H4 D (.lst (acc ++ [y])))) else Pv (i + 1) H'
  rw [if_pos rfl]
  exact hs i x H H' hi p y
/-- a new object: the heap behind it by what it keeps and what is new -/
theorem alloc {H : Hp} {o : HO} {R : V → Hp → Prop} (h : ∀ p G, H p = none → Same H G → G p = some o → R (.ref p) G) : ∀ p, H p = none → R (.ref p) (upd H p o) := fun p hp => h p _ hp (same_new hp) upd_same
end U

set_option Elab.async false
set_option linter.all false
set_option maxRecDepth 100000
set_option maxHeartbeats 4000000
namespace U
open PySem PySem.Spec PyProof.Rows L2
/-- xs == [] -/
def rEqNil (K : PySem.W.Frag) : R2 := fun x y H Q => ∃ (a b : Addr) (xs : List V), x = .ref a ∧ y = .ref b ∧ SqL K H a xs ∧ SqL K H b [] ∧ Q (.bl xs.isEmpty) H
section
variable {X : Cx}
theorem op_eqNil (hu : X.A.units < cLine) : OpR X (compareOp .Eq) (rEqNil X.K) := by
  intro pins s σ H x y v u Q I rx ry h
  obtain ⟨a, b, xs, rfl, rfl, ha, hb, q⟩ := h
  cases (show v = Value.ref a from rx)
  cases (show u = Value.ref b from ry)
  obtain ⟨its, rv, hl, hz⟩ := I.list ha
  obtain ⟨its2, rv2, hl2, hz2⟩ := I.list hb
  cases rv2
  show wpAny (model X.prog X.w) X.A (richCompare .Eq (.ref a) (.ref b)) (EP X pins σ Q) X.xe s
  cases xs with
  | nil =>
    cases rv
    exact SeqAt.RcAt.lists (e := fun _ => true) hl.isList hl2.isList rfl hu (fun j h1 _ => by simp at h1) _ _ _ _ ⟨.bl true, H, I, rfl, q⟩
  | cons x xs =>
    cases rv with
    | @cons _ u _ us r0 rv =>
      exact SeqAt.RcAt.lists_lengths hl.isList hl2.isList (by simp) hu _ _ _ _ ⟨.bl false, H, I, rfl, q⟩
end
end U

set_option Elab.async false
set_option linter.all false
set_option maxRecDepth 100000
set_option maxHeartbeats 4000000
namespace U
open PySem PySem.Spec PyProof.Rows L2
/-- x == y, x of the class C with an __eq__ of its own, y of any class but a lower one: its answer, a bool -/
def rEqOwn (K : PySem.W.Frag) (C : Addr) (sp : Sp) (E : XK) : R2 := fun x y H Q => ∃ (a dx : Addr) (fs : List (Str × V)) (t : Value), x = .ref a ∧ H a = some (.ins C dx fs) ∧ TyX K H y t ∧ PySem.W.notFirst K C t = true ∧ sp [.ref a, y] H (fun z H' => ∃ b, z = .bl b ∧ Q (.bl b) H') E
section
open PySem.W
variable {prog : Program} {w : World} {A : Around} {E : Value → Shared → Prop} {s : Shared} {K : Frag} {x C L f : Addr} {h₀ : Heap} {m : Str → Option Value} {ox : Obj} {od : Option Obj} {name : Str} {b tb : Value}
theorem ifBoundB {M : Model} {id : String} {args : List Value} {Q : Option Value → Shared → Prop} (X : K.In s.heap) (I : InstAt s.heap x ox C od) (hs : findIn K (.ref C) name = some (some (.builtin id))) (hb : ∀ self, bindSpecial (.builtin id) self = pure (.builtin id, [self]))
    (h : wpAny M A (call (.builtin id) (.ref x :: args)) (fun v => Q (some v)) E s) : wpAny M A (callSpecialIfBound? (.ref x) name args) Q E s := by
  simp only [callSpecialIfBound?, bindSpecialIfBound?]
  refine wpAny_holding (wpAny_bind (wpAny_bind (wpAny_bind (I.type.here ((looks_findIn X hs).here ?_)))))
  simp only [hb]
  refine wpAny_bind (wpAny_askSetting (wpAny_ite ?_))
  have fin : wpAny M A (call (.builtin id) ([.ref x] ++ args) >>= fun v => pure (some v)) Q E s := wpAny_bind (wpAny_mono h (fun v s' h' => wpAny_pure h') fun _ _ h' => h')
  split
  · exact wpAny_bind (wpAny_pure (wpAny_pure fin))
  · exact wpAny_tryCatch (wpAny_bind (wpAny_pure (wpAny_pure fin)))
theorem check_own {M : Model} {id owner n : String} {rest : List Value} {Q : Unit → Shared → Prop} (hk : builtinKind id = some .slot) (hsp : splitId id = some (owner, n)) (ha : argsOk id ⟨.ref x :: rest, []⟩) (X : K.In s.heap) (I : InstAt s.heap x ox C od)
    (hsub : subIn K (.ref C) (.type owner) = some true) (hq : Q () s) : wpAny M A (checkBuiltinCall id ⟨.ref x :: rest, []⟩) Q E s := by
  simp only [checkBuiltinCall, hk, hsp]
  refine wpAny_bind ?_
  · unfold isInstance
    refine wpAny_bind (I.type.here ((looks_subIn X hsub).here ?_))
    cases hsig : Manifest.signature? id with
    | none => exact wpAny_pure hq
    | some sig =>
      simp only [argsOk, hsig] at ha
      have h2 : Bind.checkArgs id sig ⟨.ref x :: rest, []⟩ = pure () := ha
      show wpAny M A (Bind.checkArgs id sig ⟨.ref x :: rest, []⟩) Q E _
      rw [h2]; exact wpAny_pure hq
theorem objNe_own (X : K.In s.heap) (I : InstAt s.heap x ox C od) (hs : findIn K (.ref C) "__eq__" = some (some (.ref f))) (hf : isFn K (.ref f) = true) (hu : A.units < cLine) {Q : Fin → Shared → Prop}
    (hcall : wpAny (model prog w) A (call (.ref f) [.ref x, b]) (fun v s' => ∃ r, v = .bool r ∧ Q (.done (.ret (.bool (!r)))) s') E s) :
    wpAny (model prog w) A (Builtin.«object.__ne__» ⟨[.ref x, b], []⟩) Q E s := by
  obtain ⟨h, g, d, t, os⟩ := s
  unfold Builtin.«object.__ne__»
  repeat (first
    | with_reducible refine wpAny_cRoomFor hu ?_
    | (refine wpAny_bind (m := callSpecialIfBound? (.ref x) (Str.ofString "__eq__") [b])
        (ifBound_K X I hs hf (wpAny_mono hcall (fun r s' hr => by
          obtain ⟨b, rfl, hq⟩ := hr
          repeat (first | exact hq | exact wpAny_pure hq | exact wpAny_truthy_bool hq | (refine wpAny_bind (m := truthy (.bool _)) (wpAny_truthy_bool ?_)) | wp_step)) fun _ _ e => e)))
    | wp_step)
theorem ne_own {Q : Value → Shared → Prop} (hu : A.units + 1 < cLine) (FF : Fr h₀ L s.heap m) (X₀ : K.In h₀) (I : InstAt s.heap x ox C od) (hb : Looks (model prog w) s.heap (typeOf b) tb) (hn : notFirst K C tb = true)
    (hne : findIn K (.ref C) "__ne__" = some (some (.builtin "object.__ne__"))) (hob : subIn K (.ref C) (.type "object") = some true)
    (hs : findIn K (.ref C) "__eq__" = some (some (.ref f))) (hf : isFn K (.ref f) = true)
    (h : wpAny (model prog w) A.in1 (call (.ref f) [.ref x, b]) (fun v s' => ∃ r, v = .bool r ∧ Q (.bool (!r)) s') E s) : wpAny (model prog w) A (richCompare .NotEq (.ref x) b) Q E s := by
  have X := X₀.keeps FF.keep
  have one : wpAny (model prog w) A (tryCompare (.ref x) (cmpInfo .NotEq).2.1 b) (fun r s' => ∃ v, r = some v ∧ Q v s') E s := by
    unfold tryCompare
    refine wpAny_bind (ifBoundB X I hne F.cmp_object.ne.bind (wpAny_call (codeAny_call_builtin F.cmp_object.ne.plain F.cmpEntry_ne (check_own F.cmpKind_ne F.cmpSplit_ne (F.cmpArgs_ne _ _) X I hob
      (objNe_own (A := A.in1) X I hs hf hu (wpAny_mono h (fun v s' hv => ?_) fun _ _ e => e))))))
    obtain ⟨r, rfl, hq⟩ := hv
    exact ⟨r, rfl, wpAny_pure ⟨_, rfl, hq⟩⟩
  unfold richCompare
  simp only [oneThing_ref]
  refine wpAny_holding (wpAny_bind (wpAny_cRoomFor (Nat.lt_of_succ_lt hu) ?_))
  refine wpAny_bind (I.type.here (wpAny_bind (hb.here ?_)))
  split
  · rename_i q
    have e : subIn K tb (.ref C) = some false := by
      rcases Bool.or_eq_true_iff.mp hn with e | e
      · rw [beq_iff_eq.mp e] at q; simp at q
      · exact beq_iff_eq.mp e
    refine wpAny_bind ((looks_subIn X e).here ?_)
    simp only [Bool.false_eq_true, if_false]
    refine wpAny_bind (wpAny_mono one (fun r s' z => ?_) fun _ _ e => e)
    obtain ⟨v, rfl, hq⟩ := z
    exact wpAny_pure hq
  · refine wpAny_bind (wpAny_pure ?_)
    simp only [Bool.false_eq_true, if_false]
    refine wpAny_bind (wpAny_mono one (fun r s' z => ?_) fun _ _ e => e)
    obtain ⟨v, rfl, hq⟩ := z
    exact wpAny_pure hq
end
section
variable {X : Cx} {CX : CXT} {n : Nat} {C f : Addr} {fd : FuncData} {ps : List Str} {sp : Sp} {E : XK}
theorem rc_own (F : FnOk X.prog X.w X.K X.mg X.base CX n f fd ps sp) (hs : PySem.W.findIn X.K (.ref C) "__eq__" = some (some (.ref f))) (hf : PySem.W.isFn X.K (.ref f) = true) (hb : Binds X.K fd ps []) (hx : Passes CX X E) {A : Around} (sb : L2.Sub X n A)
    {pins : List (Addr × Obj)} {s : Shared} {σ : L2.St} {H : Hp} {x y : V} {v u : Value} {Q : VK} (I : Inv X pins σ H s) (rx : RelV x v) (ry : RelV y u) (h : rEqOwn X.K C sp E x y H Q) :
    wpAny (model X.prog X.w) A (richCompare .Eq v u) (EP X pins σ Q) X.xe s := by
  obtain ⟨a, dx, fs, t, rfl, ha, ty, hn, hsp⟩ := h
  cases (show v = Value.ref a from rx)
  obtain ⟨mA, J, _⟩ := ins_get I.hok ha
  obtain ⟨od, J, _⟩ := J.look
  obtain ⟨m, hF⟩ := I.fr
  obtain ⟨PP, kit, hP, _⟩ := kit_of I ry ty
  refine PySem.W.cmp_K (op := .Eq) (tb := t) sb.room.units0 hF I.ok.mod.kin J (kit.ty _ _ I.kIn hP) hn hs hf ?_
  have e0 : Env0 X.prog X.w X.K X.mg X.base A X.stack s H := by
    have e := I.env0
    exact ⟨by rw [sb.fr]; exact e.frames, e.mod, e.bs, e.bsz, e.funs, e.frf, e.hok, e.bare⟩
  have hl := F.len _ _ _ _ hsp
  have r2 : Vals [V.ref a, y] [Value.ref a, u] := .cons rfl (.cons ry .nil)
  refine wpAny_call (codeAny_mono (F.run A X.stack s H ⟨[.ref a, u], []⟩ [.ref a, u] [.ref a, y] _ E sb.room e0 (by
    have := hb s [.ref a, u] I.kIn (by simpa using hl)
    simpa using this) r2 hsp) fun r s' hq => ?_)
  cases r with
  | error e => exact hx pins σ H s e s' I hq
  | ok fl =>
    cases fl with
    | ret w =>
      obtain ⟨z, H', I', rz, b, ez, q⟩ := I.after hq
      subst ez
      cases (show w = Value.bool b from rz)
      exact ⟨.bl b, H', I', rfl, q⟩
    | next => exact False.elim hq
    | brk => exact False.elim hq
    | cont => exact False.elim hq
theorem op_eqOwn (F : FnOk X.prog X.w X.K X.mg X.base CX n f fd ps sp) (hs : PySem.W.findIn X.K (.ref C) "__eq__" = some (some (.ref f))) (hf : PySem.W.isFn X.K (.ref f) = true) (hb : Binds X.K fd ps []) (hx : Passes CX X E) (hr : Room n X.A) : OpR X (compareOp .Eq) (rEqOwn X.K C sp E) := by
  intro pins s σ H x y v u Q I rx ry h
  show wpAny (model X.prog X.w) X.A (richCompare .Eq v u) (EP X pins σ Q) X.xe s
  exact rc_own F hs hf hb hx ⟨hr, rfl⟩ I rx ry h
end
end U

set_option Elab.async false
set_option linter.all false
set_option maxRecDepth 100000
set_option maxHeartbeats 4000000
namespace U
open PySem PySem.Spec PyProof.Rows L2
section
open PySem.W
variable {prog : Program} {w : World} {A : Around} {E : Value → Shared → Prop} {s : Shared} {K : Frag} {x C L f : Addr} {h₀ : Heap} {m : Str → Option Value} {ox : Obj} {od : Option Obj} {name : Str} {b tb : Value}
open Builtin Builtin.Str in
theorem str_own {Q : Value → Shared → Prop} (hu : A.in1.in1.units < cLine) (X : K.In s.heap) (I : InstAt s.heap x ox C od) (hs : findIn K (.ref C) "__str__" = some (some (.ref f))) (hf : isFn K (.ref f) = true)
    (h : wpAny (model prog w) A.in1.in1 (call (.ref f) [.ref x]) (StrBack Q) E s) : wpAny (model prog w) A (call (.type "str") [.ref x]) Q E s := by
  refine callType_codes (T := "str") (Bi := Builtin.«object.__init__») (Q₁ := fun r s₁ => ∃ y u, r = .str y u ∧ Q r s₁) PySem.F.called_str (PySem.F.typeCall_str_1 _) PySem.F.entry_object_init ?_ ?_
  · refine codeAny_of_tree ?_
    show wpAny _ A.in1.in1 (do checkBuiltinCall "str.__new__" ⟨[.type "str", .ref x], []⟩; again (.builtin "str.__new__" ⟨[.type "str", .ref x], []⟩)) _ _ s
    refine wpAny_bind (wpAny_of_eq (PySem.F.newCall_str_1 _) (wpAny_pure ⟨plainId_quiet (by decide +kernel) _, codeAny_builtin PySem.F.entry_str_new ?_⟩))
    rw [Around.under_plainId (by decide +kernel) _]
    rw [str_new_tree]
    refine wpAny_bind (wpAny_pure ?_)
    refine wpAny_bind (wpAny_of_eq isSubtype_str_str ?_)
    have key : wpAny (model prog w) A.in1.in1 (PySem.Builtin.Str.strOf (.ref x)) (fun r s₁ => ∃ y u, r = .str y u ∧ Q r s₁) E s := by
      unfold PySem.Builtin.Str.strOf
      rw [show isExactStr (.ref x) = false from rfl]
      refine wpAny_bind (m := cRoomFor _ _) (wpAny_cRoomFor hu ?_)
      refine wpAny_bind (m := callSpecial? (.ref x) (Str.ofString "__str__")) (special_fn X I hs (beq_iff_eq.mp hf) (wpAny_mono h (fun r s' z => ?_) fun _ _ y => y))
      cases r <;> first | exact z.elim | exact wpAny_pure ⟨_, _, rfl, z⟩
    exact wpAny_bind (wpAny_mono key (fun r s₁ hr => wpAny_pure hr) fun _ _ y => y)
  · rintro obj s₁ ⟨y, u, rfl, hq⟩
    exact ⟨typeIs_str _ _ _, PySem.F.args_object_init_2 _ _, object_init_meets PySem.F.called_str.init.lookup PySem.F.called_str.made (by decide) prog w A.in1 _ s₁ ⟨typeIs_str _ _ _, rfl, hq⟩⟩
theorem len_body {Q : Value → Shared → Prop} (X : K.In s.heap) (I : InstAt s.heap x ox C od) (hs : findIn K (.ref C) "__len__" = some (some (.ref f))) (hf : isFn K (.ref f) = true)
    (h : wpAny (model prog w) A (call (.ref f) [.ref x]) (W.LenBack Q) E s) : wpAny (model prog w) A (Builtin.«len» ⟨[.ref x], []⟩) (fun fin s' => ∃ v, fin = .done (.ret v) ∧ Q v s') E s := by
  unfold Builtin.«len»
  refine wpAny_bind (m := oneArg "len" _) (wpAny_pure ?_)
  refine wpAny_bind (m := callSpecial? (.ref x) (Str.ofString "__len__")) (special_fn X I hs (beq_iff_eq.mp hf) (wpAny_mono h (fun r s' hr => ?_) fun _ _ y => y))
  cases r <;> first | exact hr.elim | skip
  rename_i n u
  obtain ⟨⟨h0, h1⟩, hq⟩ := hr
  refine wpAny_bind (wpAny_holding (wpAny_pure ?_))
  refine wpAny_bind (wpAny_letGo ?_)
  show wpAny _ _ (if n < 0 then _ else _) _ _ _
  rw [if_neg (by omega)]
  show wpAny _ _ (if n ≥ 2 ^ 63 then _ else _) _ _ _
  rw [if_neg (by omega)]
  exact wpAny_bind (wpAny_mkInt (wpAny_pure ⟨_, rfl, hq⟩))
theorem truthy_len {Q : Bool → Shared → Prop} (X : K.In s.heap) (I : InstAt s.heap x ox C od) (hs : findIn K (.ref C) "__bool__" = some none) (hl : findIn K (.ref C) "__len__" = some (some (.ref f))) (hf : isFn K (.ref f) = true)
    (h : wpAny (model prog w) A.in1 (call (.ref f) [.ref x]) (W.LenBack fun v s' => ∃ n t, v = .int n t ∧ Q (n != 0) s') E s) : wpAny (model prog w) A (truthy (.ref x)) Q E s := by
  unfold truthy
  refine wpAny_bind (m := callSpecial? (.ref x) (Str.ofString "__bool__")) (wpAny_bind (wpAny_bind (I.type.here ((looks_findIn X hs).here (wpAny_pure ?_)))))
  refine wpAny_bind (wpAny_bind (I.type.here ((looks_findIn X hl).here ?_)))
  show wpAny _ _ (if (some (Value.ref f)).isNone = true then _ else _) _ _ _
  rw [if_neg (by simp)]
  refine wpAny_bind (runValue_entry entry_len ?_)
  rw [Around.under_plainId plain_len _]
  refine len_body X I hl hf (wpAny_mono h (fun v s' hv => ?_) fun _ _ e => e)
  cases v <;> first | exact hv.elim | skip
  obtain ⟨h1, n, t, e, q⟩ := hv
  cases e
  exact ⟨h1, wpAny_pure q⟩
open Builtin Builtin.Str in
theorem bool_own {Q : Value → Shared → Prop} (X : K.In s.heap) (I : InstAt s.heap x ox C od) (hs : findIn K (.ref C) "__bool__" = some none) (hl : findIn K (.ref C) "__len__" = some (some (.ref f))) (hf : isFn K (.ref f) = true)
    (h : wpAny (model prog w) A.in1.in1.in1 (call (.ref f) [.ref x]) (W.LenBack fun v s' => ∃ n t, v = .int n t ∧ Q (.bool (n != 0)) s') E s) : wpAny (model prog w) A (call (.type "bool") [.ref x]) Q E s := by
  refine callType_codes (T := "bool") (Bi := Builtin.«object.__init__») (Q₁ := fun r s₁ => ∃ y, r = .bool y ∧ Q r s₁) PySem.F.called_bool (PySem.F.typeCall_bool_1 _) PySem.F.entry_object_init ?_ ?_
  · refine codeAny_of_tree ?_
    show wpAny _ A.in1.in1 (do checkBuiltinCall "bool.__new__" ⟨[.type "bool", .ref x], []⟩; again (.builtin "bool.__new__" ⟨[.type "bool", .ref x], []⟩)) _ _ s
    refine wpAny_bind (wpAny_of_eq (PySem.F.newCall_bool_1 _) (wpAny_pure ⟨plainId_quiet (by decide +kernel) _, codeAny_builtin PySem.F.entry_bool_new ?_⟩))
    rw [Around.under_plainId (by decide +kernel) _]
    have key : wpAny (model prog w) A.in1.in1 (truthy (.ref x)) (fun b s₁ => Q (.bool b) s₁) E s := truthy_len X I hs hl hf h
    have f1 := PySem.F.conv_sub_bool
    obtain ⟨hp, g, d, tk, os⟩ := s
    unfold Builtin.«bool.__new__»
    repeat (any_goals (first | assumption | (with_reducible refine wpAny_mono key (fun b s1 hb => ?_) (fun _ _ e => e)) | wp_step))
    all_goals first | exact ⟨_, rfl, hb⟩ | exact wpAny_pure ⟨_, rfl, hb⟩ | skip
    trace_state
  · rintro obj s₁ ⟨y, rfl, hq⟩
    exact ⟨rfl, PySem.F.args_object_init_2 _ _, object_init_meets PySem.F.called_bool.init.lookup PySem.F.called_bool.made (by decide) prog w A.in1 _ s₁ ⟨rfl, rfl, hq⟩⟩
end
section
variable {X : Cx} {CX : CXT} {n : Nat} {C f : Addr} {fd : FuncData} {ps : List Str} {sp : Sp} {E : XK}
/-- a def is called with these values -/
theorem run_own (F : FnOk X.prog X.w X.K X.mg X.base CX n f fd ps sp) (hb : Binds X.K fd ps []) (hx : Passes CX X E) {A : Around} (sb : L2.Sub X n A)
    {pins : List (Addr × Obj)} {s : Shared} {σ : L2.St} {H : Hp} {vs : List V} {us : List Value} {Q : VK} (I : Inv X pins σ H s) (r : Vals vs us) (hsp : sp vs H Q E) :
    wpAny (model X.prog X.w) A (call (.ref f) us) (EP X pins σ Q) X.xe s := by
  have e0 : Env0 X.prog X.w X.K X.mg X.base A X.stack s H := by
    have e := I.env0
    exact ⟨by rw [sb.fr]; exact e.frames, e.mod, e.bs, e.bsz, e.funs, e.frf, e.hok, e.bare⟩
  have hl := F.len _ _ _ _ hsp
  have hr := r.length
  refine wpAny_call (codeAny_mono (F.run A X.stack s H ⟨us, []⟩ us vs _ E sb.room e0 (by
    have := hb s us I.kIn (by simp; omega)
    simpa using this) r hsp) fun r s' hq => ?_)
  cases r with
  | error e => exact hx pins σ H s e s' I hq
  | ok fl =>
    cases fl with
    | ret w => exact I.after hq
    | next => exact False.elim hq
    | brk => exact False.elim hq
    | cont => exact False.elim hq
theorem inst_of {pins : List (Addr × Obj)} {s : Shared} {σ : L2.St} {H : Hp} {a dx : Addr} {fs : List (Str × V)} (I : Inv X pins σ H s) (ha : H a = some (.ins C dx fs)) : ∃ ox od, PySem.W.InstAt s.heap a ox C od := by
  obtain ⟨mA, J, _⟩ := ins_get I.hok ha
  obtain ⟨od, J, _⟩ := J.look
  exact ⟨_, _, J⟩
/-- len(x), x of the class C with a __len__ of its own -/
def rLenOwn (C : Addr) (sp : Sp) (E : XK) : List V → Hp → VK → Prop := fun xs H Q => ∃ (a dx : Addr) (fs : List (Str × V)), xs = [.ref a] ∧ H a = some (.ins C dx fs) ∧ sp [.ref a] H (fun z H' => ∃ n : Int, z = .int n ∧ 0 ≤ n ∧ n < 2 ^ 63 ∧ Q (.int n) H') E
theorem call_lenOwn (F : FnOk X.prog X.w X.K X.mg X.base CX n f fd ps sp) (hb : Binds X.K fd ps []) (hx : Passes CX X E) (hs : PySem.W.findIn X.K (.ref C) "__len__" = some (some (.ref f))) (hf : PySem.W.isFn X.K (.ref f) = true) (hr : Room (n + 1) X.A) : CallR X (.builtin "len") (rLenOwn C sp E) := by
  intro pins s σ H xs us Q I r h
  obtain ⟨a, dx, fs, rfl, ha, hsp⟩ := h
  obtain ⟨u, rfl, ru⟩ := vals1 r
  obtain rfl : u = Value.ref a := ru
  obtain ⟨ox, od, J⟩ := inst_of I ha
  obtain ⟨m, hF⟩ := I.fr
  refine PySem.W.len_K hF I.ok.mod.kin J hs hf (wpAny_mono (run_own F hb hx ⟨hr.in1, rfl⟩ I r hsp) (fun v s' z => ?_) fun _ _ e => e)
  obtain ⟨z, H', I', rz, k, rfl, h0, h1, q⟩ := z
  obtain ⟨t, rfl⟩ := (show ∃ t, v = Value.int k t from rz)
  exact ⟨⟨h0, h1⟩, .int k, H', I'.tok _, ⟨_, rfl⟩, q⟩
/-- bool(x) by that -/
def rBoolOwn (C : Addr) (sp : Sp) (E : XK) : List V → Hp → VK → Prop := fun xs H Q => ∃ (a dx : Addr) (fs : List (Str × V)), xs = [.ref a] ∧ H a = some (.ins C dx fs) ∧ sp [.ref a] H (fun z H' => ∃ n : Int, z = .int n ∧ 0 ≤ n ∧ n < 2 ^ 63 ∧ Q (.bl (n != 0)) H') E
theorem call_boolOwn (F : FnOk X.prog X.w X.K X.mg X.base CX n f fd ps sp) (hb : Binds X.K fd ps []) (hx : Passes CX X E) (hn : PySem.W.findIn X.K (.ref C) "__bool__" = some none) (hs : PySem.W.findIn X.K (.ref C) "__len__" = some (some (.ref f))) (hf : PySem.W.isFn X.K (.ref f) = true) (hr : Room (n + 3) X.A) :
    CallR X (.type "bool") (rBoolOwn C sp E) := by
  intro pins s σ H xs us Q I r h
  obtain ⟨a, dx, fs, rfl, ha, hsp⟩ := h
  obtain ⟨u, rfl, ru⟩ := vals1 r
  obtain rfl : u = Value.ref a := ru
  obtain ⟨ox, od, J⟩ := inst_of I ha
  refine bool_own I.kIn J hn hs hf (wpAny_mono (run_own F hb hx ⟨hr.in1.in1.in1, rfl⟩ I r hsp) (fun v s' z => ?_) fun _ _ e => e)
  obtain ⟨z, H', I', rz, k, rfl, h0, h1, q⟩ := z
  obtain ⟨t, rfl⟩ := (show ∃ t, v = Value.int k t from rz)
  exact ⟨⟨h0, h1⟩, k, _, rfl, .bl _, H', I'.tok _, rfl, q⟩
/-- str(x), repr(x) by defs of its own -/
def rTxtOwn (C : Addr) (sp : Sp) (E : XK) : List V → Hp → VK → Prop := fun xs H Q => ∃ (a dx : Addr) (fs : List (Str × V)), xs = [.ref a] ∧ H a = some (.ins C dx fs) ∧ sp [.ref a] H (fun z H' => ∃ y : Str, z = .str y ∧ Q (.str y) H') E
theorem call_reprOwn (F : FnOk X.prog X.w X.K X.mg X.base CX n f fd ps sp) (hb : Binds X.K fd ps []) (hx : Passes CX X E) (hs : PySem.W.findIn X.K (.ref C) "__repr__" = some (some (.ref f))) (hf : PySem.W.isFn X.K (.ref f) = true) (hr : Room (n + 1) X.A) : CallR X (.builtin "repr") (rTxtOwn C sp E) := by
  intro pins s σ H xs us Q I r h
  obtain ⟨a, dx, fs, rfl, ha, hsp⟩ := h
  obtain ⟨u, rfl, ru⟩ := vals1 r
  obtain rfl : u = Value.ref a := ru
  obtain ⟨ox, od, J⟩ := inst_of I ha
  obtain ⟨m, hF⟩ := I.fr
  refine PySem.W.repr_K hr.in1.units0 hF I.ok.mod.kin J hs hf (wpAny_mono (run_own F hb hx ⟨hr.in1, rfl⟩ I r hsp) (fun v s' z => ?_) fun _ _ e => e)
  obtain ⟨z, H', I', rz, k, rfl, q⟩ := z
  obtain ⟨t, rfl⟩ := (show ∃ t, v = Value.str k t from rz)
  exact ⟨.str k, H', I', ⟨_, rfl⟩, q⟩
theorem call_strOwn (F : FnOk X.prog X.w X.K X.mg X.base CX n f fd ps sp) (hb : Binds X.K fd ps []) (hx : Passes CX X E) (hs : PySem.W.findIn X.K (.ref C) "__str__" = some (some (.ref f))) (hf : PySem.W.isFn X.K (.ref f) = true) (hr : Room (n + 2) X.A) : CallR X (.type "str") (rTxtOwn C sp E) := by
  intro pins s σ H xs us Q I r h
  obtain ⟨a, dx, fs, rfl, ha, hsp⟩ := h
  obtain ⟨u, rfl, ru⟩ := vals1 r
  obtain rfl : u = Value.ref a := ru
  obtain ⟨ox, od, J⟩ := inst_of I ha
  refine str_own hr.in1.in1.units0 I.kIn J hs hf (wpAny_mono (run_own F hb hx ⟨hr.in1.in1, rfl⟩ I r hsp) (fun v s' z => ?_) fun _ _ e => e)
  obtain ⟨z, H', I', rz, k, rfl, q⟩ := z
  obtain ⟨t, rfl⟩ := (show ∃ t, v = Value.str k t from rz)
  exact ⟨.str k, H', I', ⟨_, rfl⟩, q⟩
/-- x != y by the own __eq__ -/
def rNeOwn (K : PySem.W.Frag) (C : Addr) (sp : Sp) (E : XK) : R2 := fun x y H Q => ∃ (a dx : Addr) (fs : List (Str × V)) (t : Value), x = .ref a ∧ H a = some (.ins C dx fs) ∧ TyX K H y t ∧ PySem.W.notFirst K C t = true ∧ sp [.ref a, y] H (fun z H' => ∃ b, z = .bl b ∧ Q (.bl (!b)) H') E
theorem op_neOwn (F : FnOk X.prog X.w X.K X.mg X.base CX n f fd ps sp) (hs : PySem.W.findIn X.K (.ref C) "__eq__" = some (some (.ref f))) (hf : PySem.W.isFn X.K (.ref f) = true) (hne : PySem.W.findIn X.K (.ref C) "__ne__" = some (some (.builtin "object.__ne__")))
    (hob : PySem.W.subIn X.K (.ref C) (.type "object") = some true) (hb : Binds X.K fd ps []) (hx : Passes CX X E) (hr : Room (n + 1) X.A) : OpR X (compareOp .NotEq) (rNeOwn X.K C sp E) := by
  intro pins s σ H x y v u Q I rx ry h
  obtain ⟨a, dx, fs, t, rfl, ha, ty, hn, hsp⟩ := h
  cases (show v = Value.ref a from rx)
  obtain ⟨ox, od, J⟩ := inst_of I ha
  obtain ⟨m, hF⟩ := I.fr
  obtain ⟨PP, kit, hP, _⟩ := kit_of I ry ty
  show wpAny (model X.prog X.w) X.A (richCompare .NotEq (.ref a) u) (EP X pins σ Q) X.xe s
  refine ne_own hr.in1.units0 hF I.ok.mod.kin J (kit.ty _ _ I.kIn hP) hn hne hob hs hf (wpAny_mono (run_own (vs := [V.ref a, y]) F hb hx ⟨hr.in1, rfl⟩ I (.cons rfl (.cons ry .nil)) hsp) (fun w s' z => ?_) fun _ _ e => e)
  obtain ⟨z, H', I', rz, b, rfl, q⟩ := z
  cases (show w = Value.bool b from rz)
  exact ⟨b, rfl, .bl _, H', I', rfl, q⟩
end
end U

set_option Elab.async false
set_option linter.all false
set_option maxRecDepth 100000
set_option maxHeartbeats 4000000
namespace U
open PySem PySem.Spec PyProof.Rows L2
section
open PySem.W PySem.SeqAt
open AutoSeq1 (wpAny_loadPart')
open MeetsSeq MeetsSeq2 MeetsSeq3 SeqRoads2
variable {prog : Program} {w : World} {A : Around} {E : Value → Shared → Prop} {s : Shared} {K : Frag} {x C L f : Addr} {h₀ : Heap} {m : Str → Option Value} {ox : Obj} {od : Option Obj} {name : Str} {b tb : Value}
/-- None == x, x with an __eq__ of its own: x is asked -/
theorem none_eq {Q : Value → Shared → Prop} (hu : A.units < cLine) (X : K.In s.heap) (I : InstAt s.heap x ox C od) (hn : subIn K (.ref C) (.type "NoneType") = some false)
    (hs : findIn K (.ref C) "__eq__" = some (some (.ref f))) (hf : isFn K (.ref f) = true)
    (h : wpAny (model prog w) A (call (.ref f) [.ref x, .none]) (W.CmpBack Q) E s) : wpAny (model prog w) A (richCompare .Eq .none (.ref x)) Q E s := by
  have one : wpAny (model prog w) A (tryCompare (.ref x) (cmpInfo .Eq).2.2 .none) (fun r s' => ∃ v, r = some v ∧ Q v s') E s := by
    unfold tryCompare
    refine wpAny_bind (ifBound_K X I hs hf (wpAny_mono h (fun v s' hv => ?_) fun _ _ e => e))
    cases v <;> first | exact hv.elim | exact wpAny_pure ⟨_, rfl, hv⟩
  have hT : s.TypeIs .none "NoneType" := rfl
  simp only [richCompare, hT.oneThing_none]
  refine wpAny_holding (wpAny_bind (wpAny_cRoomFor hu ?_))
  refine wpAny_bind (wpAny_typeOf hT (wpAny_bind (I.type.here ?_)))
  split
  · refine wpAny_bind ((looks_subIn X hn).here ?_)
    simp only [Bool.false_eq_true, if_false, Bool.not_false, if_true]
    refine wpAny_bind (m := tryCompare .none _ (.ref x)) (wpAny_tryCompare_declines hT PySem.F.slot_NoneType_eq (call_gives PySem.F.slot_NoneType_eq rfl PySem.F.entry_NoneType_eq (PySem.F.args_NoneType_eq_2 _ _) (NoneType___eq___none_ref_0 x) ⟨rfl, ?_⟩))
    refine wpAny_bind (wpAny_mono one (fun r s' z => ?_) fun _ _ e => e)
    obtain ⟨v, rfl, hq⟩ := z
    exact wpAny_pure hq
  · rename_i q
    simp at q
/-- the list is walked, each item asked whether it is x -/
theorem con_loop {R : Result → Shared → Prop} (l : Addr) (x : Value) (N : Nat) (J : Nat → Shared → Prop)
    (hl : ∀ i s, J i s → ∃ (items : Array Value) (n : Nat), items.size = N ∧ s.heap.get? l = some { cls := .type "list", data := .seq items n } ∧ ∀ h : i < items.size, wpAny (model prog w) A.in1 (eqBool items[i] x) (fun r s' => (r = true → R (.ok (.ret (.bool true))) s') ∧ (r = false → J (i + 1) s')) (fun e s' => R (.error e) s') s)
    (fin : ∀ s, J N s → R (.ok (.ret (.bool false))) s) (k : Nat) : ∀ i : Nat, N - i = k → i ≤ N → ∀ s, J i s →
      wpAny (model prog w) A.in1 (Builtin.«list.__contains__.loop» ⟨[.ref l, x, rawInt i], []⟩) (GQ.FinOf prog w A R) (fun e s' => R (.error e) s') s := by
  induction k with
  | zero =>
    intro i hk hi s h
    obtain ⟨items, n, hN, hle, _⟩ := hl _ _ h
    have hi' : i = N := by omega
    have hR := fin s (hi' ▸ h)
    obtain ⟨hp, g, d, tk, os⟩ := s
    wp_walk using wpAny_loadPart' hle
    have hi1 : items[((i : Nat) : Int).toNat]? = none := by simp; omega
    rw [hi1]
    wp_walk
    exact hR
  | succ k ih =>
    intro i hk hi s h
    obtain ⟨items, n, hN, hle, turn⟩ := hl _ _ h
    have hlt : i < items.size := by omega
    have ht := turn hlt
    obtain ⟨hp, g, d, tk, os⟩ := s
    wp_walk using wpAny_loadPart' hle
    have hi1 : items[((i : Nat) : Int).toNat]? = some items[i] := by simp [hlt]
    rw [hi1]
    refine wpAny_bind (wpAny_mono ht (fun r s' z => ?_) fun _ _ e => e)
    cases r with
    | true =>
      have z := z.1 rfl
      wp_walk
      exact z
    | false =>
      have z := z.2 rfl
      have hc : ((i : Int) + 1) = ((i + 1 : Nat) : Int) := by push_cast; rfl
      wp_walk
      rw [hc]
      exact ⟨plainId_quiet plain_contains_loop _, codeAny_builtin entry_contains_loop (by
        rw [Around.under_plainId plain_contains_loop _]
        exact ih (i + 1) (by omega) (by omega) s' z)⟩
theorem notIn_own {l : Addr} {x : Value} {N : Nat} {Q : Value → Shared → Prop} (J : Nat → Shared → Prop)
    (hl : ∀ i s, J i s → ∃ (items : Array Value) (n : Nat), items.size = N ∧ s.heap.get? l = some { cls := .type "list", data := .seq items n } ∧ ∀ h : i < items.size, wpAny (model prog w) A.in1 (eqBool items[i] x) (fun r s' => (r = true → Q (.bool false) s') ∧ (r = false → J (i + 1) s')) E s)
    (fin : ∀ s, J N s → Q (.bool true) s) (h0 : J 0 s) : wpAny (model prog w) A (compareOp .NotIn x (.ref l)) Q E s := by
  show wpAny _ A (do return .bool (!(← contains (.ref l) x))) Q E s
  obtain ⟨items, n, hN, hle, _⟩ := hl _ _ h0
  refine wpAny_bind (wpAny_contains_slot (T := "list") ⟨_, hle, rfl⟩ PySem.F.slot_list_contains (wpAny_mono (Q := fun v s' => ∃ r : Bool, v = .bool r ∧ Q (.bool (!r)) s') (GQ.call_here PySem.F.slot_list_contains ⟨_, hle, rfl⟩ PySem.F.entry_list_contains (PySem.F.args_list_contains_2 _ _) ?_) (fun v s' hv => ?_) fun _ _ e => e))
  · obtain ⟨hp, g, d, tk, os⟩ := s
    wp_walk using wpAny_loadPart' hle
    exact ⟨plainId_quiet plain_contains_loop _, codeAny_builtin entry_contains_loop (by
      rw [Around.under_plainId plain_contains_loop _]
      refine con_loop (R := wants (fun v s' => ∃ r : Bool, v = .bool r ∧ Q (.bool (!r)) s') E) l x N J (fun i s h => ?_) (fun s h => ⟨false, rfl, fin s h⟩) _ 0 rfl (Nat.zero_le _) _ h0
      obtain ⟨items, n, h1, h2, h3⟩ := hl i s h
      exact ⟨items, n, h1, h2, fun hi => wpAny_mono (h3 hi) (fun r s' z => ⟨fun e => ⟨true, rfl, z.1 e⟩, z.2⟩) fun _ _ e => e⟩)⟩
  · obtain ⟨b, rfl, hq⟩ := hv
    exact wpAny_truthy_bool (wpAny_pure hq)
end
/-- x not in [None, y], both of the class C with an __eq__ of its own: None is not it, y is -/
def rNotIn2 (C : Addr) (sp : Sp) (E : XK) : R2 := fun x y H Q => ∃ (a b l dx dx2 : Addr) (fs fs2 : List (Str × V)), x = .ref a ∧ y = .ref l ∧ H l = some (.lst [.non, .ref b]) ∧ H a = some (.ins C dx fs) ∧ H b = some (.ins C dx2 fs2) ∧ a ≠ b ∧
  sp [.ref a, .non] H (fun z H1 => z = .bl false ∧ Same H H1 ∧ sp [.ref b, .ref a] H1 (fun z H2 => ∃ r, z = .bl r ∧ V.bl r = .bl true ∧ Q (.bl false) H2) E) E
section
variable {X : Cx} {CX : CXT} {n : Nat} {C f : Addr} {fd : FuncData} {ps : List Str} {sp : Sp} {E : XK}
theorem op_notIn2 (F : FnOk X.prog X.w X.K X.mg X.base CX n f fd ps sp) (hs : PySem.W.findIn X.K (.ref C) "__eq__" = some (some (.ref f))) (hf : PySem.W.isFn X.K (.ref f) = true) (hno : PySem.W.subIn X.K (.ref C) (.type "NoneType") = some false) (hty : ∀ H a dx fs, H a = some (.ins C dx fs) → TyX X.K H (.ref a) (.ref C))
    (hb : Binds X.K fd ps []) (hx : Passes CX X E) (hr : Room (n + 1) X.A) : OpR X (compareOp .NotIn) (rNotIn2 C sp E) := by
  intro pins s σ H x y v u Q I rx ry h
  obtain ⟨a, b, l, dx, dx2, fs, fs2, rfl, rfl, hl, ha, hb2, hab, hsp⟩ := h
  cases (show v = Value.ref a from rx)
  cases (show u = Value.ref l from ry)
  refine notIn_own (N := 2) (fun i s => (i = 0 ∧ Inv X pins σ H s) ∨ (i = 1 ∧ ∃ H1, Inv X pins σ H1 s ∧ Same H H1 ∧ sp [.ref b, .ref a] H1 (fun z H2 => ∃ r, z = .bl r ∧ V.bl r = .bl true ∧ Q (.bl false) H2) E)) (fun i s h => ?_) (fun s h => ?_) (.inl ⟨rfl, I⟩)
  · rcases h with ⟨rfl, I⟩ | ⟨rfl, H1, I1, s1, hsp1⟩
    · obtain ⟨z, its, m, r, hlen, e⟩ := I.lstM hl
      cases r with
      | cons r0 r =>
        cases r with
        | cons r1 r =>
          cases r
          refine ⟨_, m, rfl, e, fun _ => ?_⟩
          cases (show _ = Value.none from r0)
          obtain ⟨ox, od, J⟩ := inst_of I ha
          show wpAny _ _ (eqBool Value.none (.ref a)) _ _ _
          unfold eqBool
          refine wpAny_holding ?_
          refine wpAny_ite_split (fun hab => absurd (eq_of_beq hab) nofun) (fun _ => ?_)
          refine wpAny_bind (none_eq hr.in1.units0 I.kIn J hno hs hf (wpAny_mono (run_own (vs := [V.ref a, V.non]) F hb hx ⟨hr.in1, rfl⟩ I (.cons rfl (.cons rfl .nil)) hsp) (fun w s' z => ?_) fun _ _ e => e))
          obtain ⟨z, H', I', rz, rfl, s1, q⟩ := z
          cases (show w = Value.bool false from rz)
          exact wpAny_truthy_bool ⟨fun z => (by cases z), fun _ => .inr ⟨rfl, H', I', s1, q⟩⟩
    · obtain ⟨z, its, m, r, hlen, e⟩ := I1.lstM (s1 _ _ hl)
      cases r with
      | cons r0 r =>
        cases r with
        | cons r1 r =>
          cases r
          refine ⟨_, m, rfl, e, fun _ => ?_⟩
          cases (show _ = Value.ref b from r1)
          show wpAny _ _ (eqBool (Value.ref b) (.ref a)) _ _ _
          refine GQ.eqBool_refG (Ne.symm hab) ?_
          refine wpAny_mono (rc_own F hs hf hb hx ⟨hr.in1, rfl⟩ I1 (x := .ref b) (y := .ref a) rfl rfl ⟨b, dx2, fs2, .ref C, rfl, s1 _ _ hb2, hty _ _ _ _ (s1 _ _ ha), by simp [PySem.W.notFirst], ?_⟩ (Q := fun z H2 => z = .bl true ∧ Q (.bl false) H2)) (fun w s' z => ?_) fun _ _ e => e
          · exact hsp1
          · obtain ⟨z, H', I', rz, rfl, q⟩ := z
            cases (show w = Value.bool true from rz)
            exact ⟨true, rfl, fun _ => ⟨.bl false, H', I', rfl, q⟩, fun z => (by cases z)⟩
  · rcases h with ⟨h, _⟩ | ⟨h, _⟩ <;> cases h
end
end U

set_option Elab.async false
set_option linter.all false
set_option maxRecDepth 100000
set_option maxHeartbeats 4000000
/-! terms, their texts, the pieces of a text: no program here -/
namespace U
inductive Kd where
  | num | name | part
  deriving DecidableEq
inductive Wd where
  | sum | less | times | below | iff | pair | first | second | lett | deff | call
  deriving DecidableEq
inductive Tm where
  | atom (k : Kd) (l : List Nat)
  | n1 (w : Wd) (b : List Nat) (x : Tm)
  | n2 (w : Wd) (b : List Nat) (x y : Tm)
  | n3 (w : Wd) (b : List Nat) (x y z : Tm)
  deriving DecidableEq
def Kd.cs : Kd → List Nat
  | .num => [110, 117, 109, 98, 101, 114]
  | .name => [110, 97, 109, 101]
  | .part => [112, 97, 114, 116]
def Wd.cs : Wd → List Nat
  | .sum => [115, 117, 109]
  | .less => [108, 101, 115, 115]
  | .times => [116, 105, 109, 101, 115]
  | .below => [98, 101, 108, 111, 119]
  | .iff => [105, 102]
  | .pair => [112, 97, 105, 114]
  | .first => [102, 105, 114, 115, 116]
  | .second => [115, 101, 99, 111, 110, 100]
  | .lett => [108, 101, 116]
  | .deff => [100, 101, 102]
  | .call => [99, 97, 108, 108]
def Wd.ar : Wd → Nat
  | .sum => 2 | .less => 2 | .times => 2 | .below => 2 | .iff => 3 | .pair => 2 | .first => 1 | .second => 1 | .lett => 2 | .deff => 1 | .call => 2
def Wd.bd : Wd → Bool
  | .lett => true
  | .deff => true
  | _ => false
def Wd.all : List Wd := [.sum, .less, .times, .below, .iff, .pair, .first, .second, .lett, .deff, .call]
theorem Wd.mem (w : Wd) : w ∈ Wd.all := by cases w <;> decide
/-- a bracket's head: the word, the small name behind it -/
def hd (w : Wd) (b : List Nat) : List Nat := 40 :: w.cs ++ (if w.bd then 32 :: b else [])
def Tm.pr : Tm → List Nat
  | .atom _ l => l
  | .n1 w b x => hd w b ++ (32 :: x.pr) ++ [41]
  | .n2 w b x y => hd w b ++ (32 :: x.pr ++ 32 :: y.pr) ++ [41]
  | .n3 w b x y z => hd w b ++ (32 :: x.pr ++ 32 :: y.pr ++ 32 :: z.pr) ++ [41]
def Tm.kids : Tm → List Tm
  | .atom _ _ => []
  | .n1 _ _ x => [x]
  | .n2 _ _ x y => [x, y]
  | .n3 _ _ x y z => [x, y, z]
def Tm.size : Tm → Nat
  | .atom _ _ => 1
  | .n1 _ _ x => 1 + x.size
  | .n2 _ _ x y => 1 + x.size + y.size
  | .n3 _ _ x y z => 1 + x.size + y.size + z.size
def Tm.depth : Tm → Nat
  | .atom _ _ => 0
  | .n1 _ _ x => 1 + x.depth
  | .n2 _ _ x y => 1 + max x.depth y.depth
  | .n3 _ _ x y z => 1 + max (max x.depth y.depth) z.depth
def Tm.kind : Tm → List Nat
  | .atom k _ => k.cs
  | .n1 w _ _ => w.cs
  | .n2 w _ _ _ => w.cs
  | .n3 w _ _ _ _ => w.cs
def sm (w : Wd) (b : List Nat) : Option (List Nat) := if w.bd then some b else none
def Tm.small : Tm → Option (List Nat)
  | .atom _ _ => none
  | .n1 w b _ => sm w b
  | .n2 w b _ _ => sm w b
  | .n3 w b _ _ _ => sm w b
/-- small letters, figures -/
def smalls : List Nat := (List.range 26).map (97 + ·)
def greats : List Nat := (List.range 26).map (65 + ·)
def figs : List Nat := (List.range 10).map (48 + ·)
def figs1 : List Nat := (List.range 9).map (49 + ·)
def SmallOk (l : List Nat) : Prop := 1 ≤ l.length ∧ l.length ≤ 4 ∧ ∀ c ∈ l, c ∈ smalls
def GreatOk (l : List Nat) : Prop := 1 ≤ l.length ∧ l.length ≤ 6 ∧ ∀ c ∈ l, c ∈ greats
def NumOk (l : List Nat) : Prop := l = [48] ∨ ∃ d ds, (l = d :: ds ∨ l = 45 :: d :: ds) ∧ d ∈ figs1 ∧ ds.length ≤ 11 ∧ ∀ c ∈ ds, c ∈ figs
def AtomOk : Kd → List Nat → Prop
  | .num, l => NumOk l
  | .name, l => SmallOk l
  | .part, l => GreatOk l
def BndOk (w : Wd) (b : List Nat) : Prop := if w.bd = true then SmallOk b else b = []
def Tm.Ok : Tm → Prop
  | .atom k l => AtomOk k l
  | .n1 w b x => w.ar = 1 ∧ BndOk w b ∧ x.Ok
  | .n2 w b x y => w.ar = 2 ∧ BndOk w b ∧ x.Ok ∧ y.Ok
  | .n3 w b x y z => w.ar = 3 ∧ BndOk w b ∧ x.Ok ∧ y.Ok ∧ z.Ok
/-- a piece: its form or the bracket that closes, where it begins and ends, its small name -/
structure Pc where
  kind : List Nat
  b : Nat
  e : Nat
  small : Option (List Nat)
  deriving DecidableEq
def cl (a : Nat) : Pc := ⟨[41], a, a + 1, none⟩
/-- the texts of terms behind one another, a blank ahead of each -/
def kT : List Tm → List Nat
  | [] => []
  | k :: ks => 32 :: k.pr ++ kT ks
def op (a : Nat) (w : Wd) (b : List Nat) : Pc := ⟨w.cs, a, a + (hd w b).length, sm w b⟩
def Tm.pc : Tm → Nat → List Pc
  | .atom k l, a => [⟨k.cs, a, a + l.length, none⟩]
  | .n1 w b x, a => op a w b :: (x.pc (a + (hd w b).length + 1) ++ [cl (a + (hd w b).length + (kT [x]).length)])
  | .n2 w b x y, a => op a w b :: (x.pc (a + (hd w b).length + 1) ++ (y.pc (a + (hd w b).length + (kT [x]).length + 1) ++ [cl (a + (hd w b).length + (kT [x, y]).length)]))
  | .n3 w b x y z, a => op a w b :: (x.pc (a + (hd w b).length + 1) ++ (y.pc (a + (hd w b).length + (kT [x]).length + 1) ++ (z.pc (a + (hd w b).length + (kT [x, y]).length + 1) ++ [cl (a + (hd w b).length + (kT [x, y, z]).length)])))
def kP : Nat → List Tm → List Pc
  | _, [] => []
  | a, k :: ks => k.pc (a + 1) ++ kP (a + 1 + k.pr.length) ks
/-- what is left of a text, of its pieces, where these brackets are open: behind what stands, the terms still lacking in each -/
def rT : List (List Tm) → List Nat
  | [] => []
  | ks :: fs => kT ks ++ 41 :: rT fs
def rP : Nat → List (List Tm) → List Pc
  | _, [] => []
  | a, ks :: fs => kP a ks ++ cl (a + (kT ks).length) :: rP (a + (kT ks).length + 1) fs
/-- a bracket's view -/
structure View (t : Tm) (w : Wd) (b : List Nat) (ks : List Tm) : Prop where
  pr : t.pr = hd w b ++ kT ks ++ [41]
  pc : ∀ a, t.pc a = op a w b :: (kP (a + (hd w b).length) ks ++ [cl (a + (hd w b).length + (kT ks).length)])
  ar : ks.length = w.ar
  bn : BndOk w b
  kids : t.kids = ks
  kind : t.kind = w.cs
  small : t.small = sm w b
  size : t.size = 1 + (ks.map Tm.size).sum
  depth : t.depth = 1 + (ks.map Tm.depth).foldr max 0
  oks : ∀ k ∈ ks, k.Ok
theorem kT_len : ∀ ks, (kT ks).length = (ks.map fun k => 1 + k.pr.length).sum
  | [] => rfl
  | k :: ks => by
    rw [kT, List.cons_append, List.length_cons, List.length_append, kT_len ks, List.map_cons, List.sum_cons]
    omega
theorem kT_app : ∀ xs ys, kT (xs ++ ys) = kT xs ++ kT ys
  | [], ys => rfl
  | x :: xs, ys => by
    rw [List.cons_append, kT, kT, kT_app xs ys]
    simp
theorem view {t : Tm} (h : t.Ok) : (∃ k l, t = .atom k l ∧ AtomOk k l) ∨ ∃ w b ks, View t w b ks := by
  cases t with
  | atom k l => exact .inl ⟨k, l, rfl, h⟩
  | n1 w b x =>
    obtain ⟨h1, h2, h3⟩ := h
    refine .inr ⟨w, b, [x], ⟨by simp [Tm.pr, kT], fun a => by simp [Tm.pc, kP], h1.symm, h2, rfl, rfl, rfl, by simp [Tm.size], by simp [Tm.depth], fun k hk => ?_⟩⟩
    simp only [List.mem_singleton] at hk
    exact hk ▸ h3
  | n2 w b x y =>
    obtain ⟨h1, h2, h3, h4⟩ := h
    refine .inr ⟨w, b, [x, y], ⟨by simp [Tm.pr, kT], fun a => by simp [Tm.pc, kP, kT]; congr 1; omega, h1.symm, h2, rfl, rfl, rfl, by simp [Tm.size]; omega, by simp [Tm.depth], fun k hk => ?_⟩⟩
    simp only [List.mem_cons, List.not_mem_nil, or_false] at hk
    rcases hk with rfl | rfl
    · exact h3
    · exact h4
  | n3 w b x y z =>
    obtain ⟨h1, h2, h3, h4, h5⟩ := h
    refine .inr ⟨w, b, [x, y, z], ⟨by simp [Tm.pr, kT], fun a => by
      simp only [Tm.pc, kP, kT, List.append_nil, List.length_cons, List.length_append, List.length_nil, List.append_assoc]
      rw [show a + (hd w b).length + (x.pr.length + 1) + 1 = a + (hd w b).length + 1 + x.pr.length + 1 by omega, show a + (hd w b).length + (x.pr.length + 1 + (y.pr.length + 1)) + 1 = a + (hd w b).length + 1 + x.pr.length + 1 + y.pr.length + 1 by omega], h1.symm, h2, rfl, rfl, rfl, by simp [Tm.size]; omega, by simp [Tm.depth, Nat.max_assoc], fun k hk => ?_⟩⟩
    simp only [List.mem_cons, List.not_mem_nil, or_false] at hk
    rcases hk with rfl | rfl | rfl
    · exact h3
    · exact h4
    · exact h5
/-! ### runs of signs -/
/-- how many of these signs stand from a on, at most m -/
def runLen (t s : List Nat) (a m : Nat) : Nat := (((t.drop a).take m).takeWhile fun c => decide (c ∈ s)).length
theorem run_in {t s : List Nat} {a m j : Nat} (h : j < runLen t s a m) : a + j < t.length ∧ j < m ∧ ∃ c, t[a + j]? = some c ∧ c ∈ s := by
  unfold runLen at h
  obtain ⟨r, e⟩ := List.takeWhile_prefix (l := (t.drop a).take m) fun c => decide (c ∈ s)
  have h2 : j < ((t.drop a).take m).length := by
    rw [← e, List.length_append]
    omega
  have h3 := h2
  rw [List.length_take, List.length_drop] at h3
  have h4 : ((t.drop a).take m)[j]? = (((t.drop a).take m).takeWhile fun c => decide (c ∈ s))[j]? := by
    conv => lhs; rw [← e]
    exact List.getElem?_append_left h
  rw [List.getElem?_take_of_lt (by omega), List.getElem?_drop, List.getElem?_eq_getElem h] at h4
  have h8 := List.all_takeWhile (l := (t.drop a).take m) (p := fun c => decide (c ∈ s))
  rw [List.all_eq_true] at h8
  exact ⟨by omega, by omega, _, h4, of_decide_eq_true (h8 _ (List.getElem_mem h))⟩
theorem while_stops {p : Nat → Bool} : ∀ {l : List Nat} {c : Nat}, l[(l.takeWhile p).length]? = some c → p c = false
  | [], c, h => by simp at h
  | x :: r, c, h => by
    rw [List.takeWhile_cons] at h
    by_cases hx : p x = true
    · rw [if_pos hx] at h
      exact while_stops (l := r) (by simpa using h)
    · rw [if_neg hx] at h
      have e : x = c := by simpa using h
      subst e
      simpa using hx
theorem run_ends {t s : List Nat} {a m : Nat} (h1 : a + runLen t s a m < t.length) (h2 : runLen t s a m < m) : ∃ c, t[a + runLen t s a m]? = some c ∧ c ∉ s := by
  refine ⟨_, List.getElem?_eq_getElem h1, fun hc => ?_⟩
  have h5 : ((t.drop a).take m)[runLen t s a m]? = t[a + runLen t s a m]? := by
    rw [List.getElem?_take_of_lt h2, List.getElem?_drop]
  have h6 := while_stops (p := fun c => decide (c ∈ s)) (l := (t.drop a).take m) (h5.trans (List.getElem?_eq_getElem h1))
  exact absurd hc (of_decide_eq_false h6)
/-- a run that stands there, and no more -/
theorem run_is {t s l r : List Nat} {a m : Nat} (h : t.drop a = l ++ r) (hl : ∀ c ∈ l, c ∈ s) (hm : l.length ≤ m) (hr : l.length = m ∨ ∀ c, r.head? = some c → c ∉ s) : runLen t s a m = l.length := by
  unfold runLen
  rw [h, List.take_append]
  have e1 : l.take m = l := List.take_of_length_le hm
  rw [e1]
  have all : ∀ x : List Nat, (∀ c ∈ x, c ∈ s) → ∀ y : List Nat, ((x ++ y).takeWhile fun c => decide (c ∈ s)) = x ++ y.takeWhile fun c => decide (c ∈ s) := by
    intro x
    induction x with
    | nil => intro _ y; rfl
    | cons c x ih =>
      intro hx y
      rw [List.cons_append, List.takeWhile_cons, if_pos (decide_eq_true (hx c List.mem_cons_self)), ih (fun d hd => hx d (List.mem_cons_of_mem _ hd))]
      rfl
  rw [all l hl, List.length_append]
  have e2 : ((r.take (m - l.length)).takeWhile fun c => decide (c ∈ s)) = [] := by
    rcases hr with e | e
    · rw [e, Nat.sub_self]
      rfl
    · cases r with
      | nil => simp
      | cons c r =>
        have hc := e c rfl
        cases hq : m - l.length with
        | zero => rfl
        | succ q => rw [List.take_succ_cons, List.takeWhile_cons, if_neg (by simpa using hc)]
  rw [e2]
  rfl
theorem drop_more {t l r : List Nat} {a : Nat} (h : t.drop a = l ++ r) : t.drop (a + l.length) = r := by
  rw [← List.drop_drop, h, List.drop_left]
theorem drop_at {t r : List Nat} {a c : Nat} (h : t.drop a = c :: r) : t[a]? = some c ∧ a < t.length := by
  have h1 : t[a]? = some c := by
    have := congrArg List.head? h
    rwa [List.head?_drop, List.head?_cons] at this
  exact ⟨h1, (List.getElem?_eq_some_iff.mp h1).1⟩
/-- what may stand behind a term -/
def Sep (r : List Nat) : Prop := ∀ c, r.head? = some c → c = 32 ∨ c = 41
theorem sep_rT : ∀ R : List (List Tm), Sep (rT R)
  | [], c, h => by simp [rT] at h
  | [] :: fs, c, h => by
    simp [rT, kT] at h
    exact .inr h.symm
  | (k :: ks) :: fs, c, h => by
    simp [rT, kT] at h
    exact .inl h.symm
theorem Sep.not {r s : List Nat} (h : Sep r) (h1 : 32 ∉ s) (h2 : 41 ∉ s) : ∀ c, r.head? = some c → c ∉ s := by
  intro c hc
  rcases h c hc with rfl | rfl
  · exact h1
  · exact h2
/-! ### how deep, how many -/
structure Sz where
  o : Int
  n : Int
  d : Int
def isWd (l : List Nat) : Prop := ∃ w : Wd, l = w.cs
instance (l : List Nat) : Decidable (isWd l) := decidable_of_iff (l ∈ Wd.all.map Wd.cs) ⟨fun h => by
  obtain ⟨w, _, e⟩ := List.mem_map.mp h
  exact ⟨w, e.symm⟩, fun ⟨w, e⟩ => List.mem_map.mpr ⟨w, w.mem, e.symm⟩⟩
def sz1 (p : Pc) (z : Sz) : Sz := if p.kind = [41] then ⟨z.o - 1, z.n, z.d⟩ else ⟨z.o, z.n + 1, z.d⟩
def sz2 (p : Pc) (z : Sz) : Sz := if isWd p.kind then ⟨z.o + 1, z.n, max z.d (z.o + 1)⟩ else z
def szStep (z : Sz) (p : Pc) : Sz := sz2 p (sz1 p z)
theorem wd_not (w : Wd) : w.cs ≠ [41] := by cases w <;> decide
theorem wd_is (w : Wd) : isWd w.cs := ⟨w, rfl⟩
theorem kd_not (k : Kd) : k.cs ≠ [41] := by cases k <;> decide
theorem kd_wd (k : Kd) : ¬ isWd k.cs := by cases k <;> decide
theorem cl_wd : ¬ isWd [41] := by decide
theorem sz_open (a : Nat) (w : Wd) (b : List Nat) (z : Sz) : szStep z (op a w b) = ⟨z.o + 1, z.n + 1, max z.d (z.o + 1)⟩ := by
  unfold szStep sz1 sz2 op
  rw [if_neg (wd_not w), if_pos (wd_is w)]
theorem sz_close (a : Nat) (z : Sz) : szStep z (cl a) = ⟨z.o - 1, z.n, z.d⟩ := by
  unfold szStep sz1 sz2 cl
  rw [if_pos rfl, if_neg cl_wd]
theorem sz_atom (k : Kd) (a e : Nat) (s : Option (List Nat)) (z : Sz) : szStep z ⟨k.cs, a, e, s⟩ = ⟨z.o, z.n + 1, z.d⟩ := by
  unfold szStep sz1 sz2
  rw [if_neg (kd_not k), if_neg (kd_wd k)]
theorem sz_term : ∀ (t : Tm) (a : Nat) (z : Sz), z.o ≤ z.d → (t.pc a).foldl szStep z = ⟨z.o, z.n + t.size, max z.d (z.o + t.depth)⟩
  | .atom k l, a, z, h => by
    rw [Tm.pc, List.foldl_cons, List.foldl_nil, sz_atom, Tm.size, Tm.depth, Sz.mk.injEq]
    exact ⟨rfl, by omega, by omega⟩
  | .n1 w b x, a, z, h => by
    rw [Tm.pc, List.foldl_cons, sz_open, List.foldl_append, sz_term x _ _ (by dsimp only; omega), List.foldl_cons, List.foldl_nil, sz_close, Tm.size, Tm.depth, Sz.mk.injEq]
    dsimp only
    exact ⟨by omega, by omega, by omega⟩
  | .n2 w b x y, a, z, h => by
    rw [Tm.pc, List.foldl_cons, sz_open, List.foldl_append, sz_term x _ _ (by dsimp only; omega), List.foldl_append, sz_term y _ _ (by dsimp only; omega), List.foldl_cons, List.foldl_nil, sz_close, Tm.size, Tm.depth, Sz.mk.injEq]
    dsimp only
    exact ⟨by omega, by omega, by omega⟩
  | .n3 w b x y v, a, z, h => by
    rw [Tm.pc, List.foldl_cons, sz_open, List.foldl_append, sz_term x _ _ (by dsimp only; omega), List.foldl_append, sz_term y _ _ (by dsimp only; omega), List.foldl_append, sz_term v _ _ (by dsimp only; omega), List.foldl_cons, List.foldl_nil, sz_close, Tm.size, Tm.depth, Sz.mk.injEq]
    dsimp only
    exact ⟨by omega, by omega, by omega⟩
/-! ### a place within a term -/
structure Fr where
  t : Tm
  w : Wd
  b : List Nat
  at_ : Nat
  dn : List Tm
  rs : List Tm
def Ctx (t0 : Tm) : List Fr → Tm → Nat → Prop
  | [], k, a => k = t0 ∧ a = 0
  | f :: fs, k, a => View f.t f.w f.b (f.dn ++ k :: f.rs) ∧ a = f.at_ + (hd f.w f.b).length + (kT f.dn).length + 1 ∧ Ctx t0 fs f.t f.at_
def rests (fs : List Fr) : List (List Tm) := fs.map (·.rs)
theorem Ctx.text {t0 : Tm} : ∀ {fs : List Fr} {k : Tm} {a : Nat}, Ctx t0 fs k a → t0.pr.drop a = k.pr ++ rT (rests fs)
  | [], k, a, ⟨h1, h2⟩ => by
    subst h1 h2
    simp [rests, rT]
  | f :: fs, k, a, ⟨v, e, c⟩ => by
    have ih := c.text
    rw [v.pr, kT_app, kT] at ih
    have e2 : a = f.at_ + (hd f.w f.b ++ kT f.dn ++ [32]).length := by simp; omega
    rw [e2]
    refine drop_more ?_
    rw [ih]
    simp [rests, rT]
/-- the piece with which a term begins -/
def Tm.hp (t : Tm) (a : Nat) : Pc := match t with
  | .atom k l => ⟨k.cs, a, a + l.length, none⟩
  | .n1 w b _ => op a w b
  | .n2 w b _ _ => op a w b
  | .n3 w b _ _ _ => op a w b
theorem View.hp {t : Tm} {w : Wd} {b : List Nat} {ks : List Tm} (v : View t w b ks) (a : Nat) : t.hp a = op a w b := by
  have h := v.pc a
  cases t with
  | atom k l =>
    rw [Tm.pc, List.cons.injEq] at h
    have h2 := congrArg List.length h.2
    simp at h2
  | n1 w' b' x =>
    rw [Tm.pc, List.cons.injEq] at h
    exact h.1
  | n2 w' b' x y =>
    rw [Tm.pc, List.cons.injEq] at h
    exact h.1
  | n3 w' b' x y z =>
    rw [Tm.pc, List.cons.injEq] at h
    exact h.1
theorem num_first {l : List Nat} (h : NumOk l) : ∃ c r, l = c :: r ∧ (c = 45 ∨ c ∈ figs) := by
  rcases h with rfl | ⟨d, ds, h | h, h1, _⟩
  · exact ⟨48, [], rfl, .inr (by decide)⟩
  · refine ⟨d, ds, h, .inr ?_⟩
    unfold figs1 at h1
    unfold figs
    obtain ⟨j, hj, rfl⟩ := List.mem_map.mp h1
    have := List.mem_range.mp hj
    exact List.mem_map.mpr ⟨j + 1, List.mem_range.mpr (by omega), by omega⟩
  · exact ⟨45, d :: ds, h, .inl rfl⟩
theorem some_first {l s : List Nat} (h1 : 1 ≤ l.length) (h2 : ∀ c ∈ l, c ∈ s) : ∃ c r, l = c :: r ∧ c ∈ s := by
  cases l with
  | nil => simp at h1
  | cons c r => exact ⟨c, r, rfl, h2 c List.mem_cons_self⟩
/-! ### the walk over a text -/
def Oks (R : List (List Tm)) : Prop := ∀ ks ∈ R, ∀ k ∈ ks, k.Ok
/-- a term is ahead, these brackets are open around it: what is left of the text and of its pieces -/
def Ahead (t0 : List Nat) (all : List Pc) (k : Tm) (R : List (List Tm)) (a : Nat) (done : List Pc) : Prop :=
  t0.drop a = k.pr ++ rT R ∧ k.Ok ∧ Oks R ∧ done ++ (k.pc a ++ rP (a + k.pr.length) R) = all
/-- a piece was read, these brackets are open -/
def Mid (t0 : List Nat) (all : List Pc) (R : List (List Tm)) (a : Nat) (done : List Pc) : Prop :=
  t0.drop a = rT R ∧ Oks R ∧ done ++ rP a R = all
/-- what is open behind the piece of a term -/
def openR (k : Tm) (R : List (List Tm)) : List (List Tm) := match k with
  | .atom _ _ => R
  | t => t.kids :: R
def hlen (k : Tm) : Nat := match k with
  | .atom _ l => l.length
  | .n1 w b _ => (hd w b).length
  | .n2 w b _ _ => (hd w b).length
  | .n3 w b _ _ _ => (hd w b).length
theorem hp_end (k : Tm) (a : Nat) : (k.hp a).e = a + hlen k := by cases k <;> rfl
theorem View.hlen {t : Tm} {w : Wd} {b : List Nat} {ks : List Tm} (v : View t w b ks) : hlen t = (hd w b).length := by
  have h := hp_end t 0
  rw [v.hp 0] at h
  have h2 : (op 0 w b).e = 0 + (hd w b).length := rfl
  omega
theorem View.openR {t : Tm} {w : Wd} {b : List Nat} {ks : List Tm} (v : View t w b ks) (R : List (List Tm)) : openR t R = ks :: R := by
  have h := v.pc 0
  cases t with
  | atom k l =>
    rw [Tm.pc, List.cons.injEq] at h
    have h2 := congrArg List.length h.2
    simp at h2
  | n1 w' b' x => rw [← v.kids]; rfl
  | n2 w' b' x y => rw [← v.kids]; rfl
  | n3 w' b' x y z => rw [← v.kids]; rfl
theorem Ahead.mid {t0 : List Nat} {all : List Pc} {k : Tm} {R : List (List Tm)} {a : Nat} {done : List Pc} (h : Ahead t0 all k R a done) : Mid t0 all (openR k R) (a + hlen k) (done ++ [k.hp a]) := by
  obtain ⟨h1, h2, h3, h4⟩ := h
  rcases view h2 with ⟨kd, l, rfl, _⟩ | ⟨w, b, ks, v⟩
  · exact ⟨drop_more h1, h3, by rw [List.append_assoc]; exact h4⟩
  · rw [v.openR, v.hlen, v.hp]
    refine ⟨drop_more ?_, ?_, ?_⟩
    · rw [h1, v.pr]
      simp [rT]
    · intro x hx k hk
      rcases List.mem_cons.mp hx with rfl | hx
      · exact v.oks k hk
      · exact h3 x hx k hk
    · rw [← h4, v.pc, v.pr, rP]
      simp only [List.length_append, List.length_cons, List.length_nil, List.append_assoc, List.cons_append, List.nil_append]
      rw [show a + ((hd w b).length + ((kT ks).length + (0 + 1))) = a + (hd w b).length + (kT ks).length + 1 by omega]
theorem Mid.next {t0 : List Nat} {all : List Pc} {k : Tm} {ks : List Tm} {R : List (List Tm)} {a : Nat} {done : List Pc} (h : Mid t0 all ((k :: ks) :: R) a done) : t0[a]? = some 32 ∧ Ahead t0 all k (ks :: R) (a + 1) done := by
  obtain ⟨h1, h2, h3⟩ := h
  have e : t0.drop a = 32 :: (k.pr ++ rT (ks :: R)) := by
    rw [h1]
    simp [rT, kT]
  refine ⟨(drop_at e).1, drop_more (l := [32]) e, h2 _ List.mem_cons_self k List.mem_cons_self, ?_, ?_⟩
  · intro x hx y hy
    rcases List.mem_cons.mp hx with rfl | hx
    · exact h2 _ List.mem_cons_self y (List.mem_cons_of_mem _ hy)
    · exact h2 x (List.mem_cons_of_mem _ hx) y hy
  · rw [← h3, rP, rP, kP, kT]
    simp only [List.length_append, List.length_cons, List.append_assoc, List.cons_append]
    rw [show a + (k.pr.length + (kT ks).length + 1) = a + 1 + k.pr.length + (kT ks).length by omega]
theorem Mid.close {t0 : List Nat} {all : List Pc} {R : List (List Tm)} {a : Nat} {done : List Pc} (h : Mid t0 all ([] :: R) a done) : t0[a]? = some 41 ∧ Mid t0 all R (a + 1) (done ++ [cl a]) := by
  obtain ⟨h1, h2, h3⟩ := h
  have e : t0.drop a = 41 :: rT R := h1
  refine ⟨(drop_at e).1, drop_more (l := [41]) e, fun x hx => h2 x (List.mem_cons_of_mem _ hx), ?_⟩
  rw [← h3, List.append_assoc]
  rfl
theorem Mid.over {t0 : List Nat} {all : List Pc} {a : Nat} {done : List Pc} (h : Mid t0 all [] a done) (l : a ≤ t0.length) : a = t0.length ∧ done = all := by
  obtain ⟨h1, h2, h3⟩ := h
  have e : t0.drop a = [] := h1
  have h4 := List.drop_eq_nil_iff.mp e
  exact ⟨by omega, by rw [← h3]; simp [rP]⟩
theorem ahead_start {k : Tm} (h : k.Ok) : Ahead k.pr (k.pc 0) k [] 0 [] := ⟨by simp [rT], h, fun x hx => by simp at hx, by simp [rP]⟩
def Rsize (R : List (List Tm)) : Nat := (R.map fun ks => (ks.map Tm.size).sum).sum
theorem Ahead.less {t0 : List Nat} {all : List Pc} {k : Tm} {R : List (List Tm)} {a : Nat} {done : List Pc} (h : Ahead t0 all k R a done) : Rsize (openR k R) + 1 = k.size + Rsize R := by
  rcases view h.2.1 with ⟨kd, l, rfl, _⟩ | ⟨w, b, ks, v⟩
  · show Rsize R + 1 = 1 + Rsize R
    omega
  · rw [v.openR, v.size]
    simp [Rsize]
    omega
theorem pc_len : ∀ (t : Tm) (a : Nat), (t.pc a).length ≤ 2 * t.size
  | .atom k l, a => by simp [Tm.pc, Tm.size]
  | .n1 w b x, a => by
    have := pc_len x (a + (hd w b).length + 1)
    simp [Tm.pc, Tm.size]
    omega
  | .n2 w b x y, a => by
    have h1 := pc_len x (a + (hd w b).length + 1)
    have h2 := pc_len y (a + (hd w b).length + (kT [x]).length + 1)
    simp [Tm.pc, Tm.size] at h1 h2 ⊢
    omega
  | .n3 w b x y z, a => by
    have h1 := pc_len x (a + (hd w b).length + 1)
    have h2 := pc_len y (a + (hd w b).length + (kT [x]).length + 1)
    have h3 := pc_len z (a + (hd w b).length + (kT [x, y]).length + 1)
    simp [Tm.pc, Tm.size] at h1 h2 h3 ⊢
    omega
theorem hlen_le (k : Tm) : hlen k ≤ k.pr.length := by
  cases k <;> simp [hlen, Tm.pr]
theorem pr_pos {k : Tm} (h : k.Ok) : 1 ≤ k.pr.length := by
  rcases view h with ⟨kd, l, rfl, hk⟩ | ⟨w, b, ks, v⟩
  · cases kd with
    | num =>
      obtain ⟨c, r, e, _⟩ := num_first hk
      show 1 ≤ l.length
      rw [e]
      simp
    | name => exact hk.1
    | part => exact hk.1
  · rw [v.pr]
    simp
    omega
theorem Ahead.bound {t0 : List Nat} {all : List Pc} {k : Tm} {R : List (List Tm)} {a : Nat} {done : List Pc} (h : Ahead t0 all k R a done) : a + hlen k ≤ t0.length ∧ done.length < all.length := by
  have h1 := congrArg List.length h.1
  rw [List.length_drop, List.length_append] at h1
  have h2 := hlen_le k
  have h3 := pr_pos h.2.1
  refine ⟨by omega, ?_⟩
  have h4 := h.mid.2.2
  rw [← h4]
  simp
theorem rT_len : ∀ R : List (List Tm), R.length ≤ (rT R).length
  | [] => Nat.le_refl _
  | ks :: R => by
    have := rT_len R
    simp [rT]
    omega
theorem Ahead.few {t0 : List Nat} {all : List Pc} {k : Tm} {R : List (List Tm)} {a : Nat} {done : List Pc} (h : Ahead t0 all k R a done) : R.length < t0.length := by
  have h1 := congrArg List.length h.1
  rw [List.length_drop, List.length_append] at h1
  have h2 := pr_pos h.2.1
  have h3 := rT_len R
  omega
theorem Mid.room {t0 : List Nat} {all : List Pc} {R : List (List Tm)} {a : Nat} {done : List Pc} (h : Mid t0 all ([] :: R) a done) : done.length < all.length := by
  rw [← h.2.2]
  simp [rP]
  omega
/-! ### free names, all names -/
def Tm.Free : Tm → List Nat → Prop
  | .atom k l, y => k = .name ∧ y = l
  | .n1 w b x, y => x.Free y ∧ (w.bd = true → y ≠ b)
  | .n2 w b x z, y => x.Free y ∨ (z.Free y ∧ (w.bd = true → y ≠ b))
  | .n3 w b x z v, y => x.Free y ∨ z.Free y ∨ (v.Free y ∧ (w.bd = true → y ≠ b))
/-- a small name that stands in it as a term -/
def Tm.Names (N : List Nat → Prop) : Tm → Prop
  | .atom k l => k = .name → N l
  | .n1 _ _ x => x.Names N
  | .n2 _ _ x z => x.Names N ∧ z.Names N
  | .n3 _ _ x z v => x.Names N ∧ z.Names N ∧ v.Names N
theorem Tm.Free.in_names {N : List Nat → Prop} : ∀ {t : Tm} {y : List Nat}, t.Free y → t.Names N → N y
  | .atom _ _, _, ⟨h1, h2⟩, n => h2 ▸ n h1
  | .n1 _ _ _, _, h, n => Tm.Free.in_names h.1 n
  | .n2 _ _ _ _, _, h, n => h.elim (fun h => Tm.Free.in_names h n.1) fun h => Tm.Free.in_names h.1 n.2
  | .n3 _ _ _ _ _, _, h, n => h.elim (fun h => Tm.Free.in_names h n.1) fun h => h.elim (fun h => Tm.Free.in_names h n.2.1) fun h => Tm.Free.in_names h.1 n.2.2
theorem View.names {t : Tm} {w : Wd} {b : List Nat} {ks : List Tm} (v : View t w b ks) {N : List Nat → Prop} (h : t.Names N) : ∀ k ∈ ks, k.Names N := by
  rw [← v.kids]
  cases t with
  | atom k l =>
    intro x hx
    simp [Tm.kids] at hx
  | n1 w' b' x =>
    intro k hk
    simp only [Tm.kids, List.mem_singleton] at hk
    exact hk ▸ h
  | n2 w' b' x y =>
    intro k hk
    simp only [Tm.kids, List.mem_cons, List.not_mem_nil, or_false] at hk
    rcases hk with rfl | rfl
    · exact h.1
    · exact h.2
  | n3 w' b' x y z =>
    intro k hk
    simp only [Tm.kids, List.mem_cons, List.not_mem_nil, or_false] at hk
    rcases hk with rfl | rfl | rfl
    · exact h.1
    · exact h.2.1
    · exact h.2.2
/-! ### trees on their way -/
def restsOk (N : List Nat → Prop) (fs : List Fr) : Prop := ∀ f ∈ fs, ∀ x ∈ f.rs, x.Ok ∧ x.Names N
/-- what comes next: a term's own piece, a bracket that closes, nothing -/
inductive Bst (N : List Nat → Prop) (t0 : Tm) (rem : List Pc) : List Fr → List Tm → Prop where
  | ahead {fs : List Fr} (k : Tm) (a : Nat) (c : Ctx t0 fs k a) (ok : k.Ok) (nm : k.Names N) (ro : restsOk N fs) (e : rem = k.pc a ++ rP (a + k.pr.length) (rests fs)) : Bst N t0 rem fs []
  | close {f : Fr} {fs : List Fr} (v : View f.t f.w f.b f.dn) (c : Ctx t0 fs f.t f.at_) (nm : f.t.Names N) (ro : restsOk N fs) (e : rem = cl (f.at_ + (hd f.w f.b).length + (kT f.dn).length) :: rP (f.at_ + f.t.pr.length) (rests fs)) : Bst N t0 rem (f :: fs) []
  | over (e : rem = []) : Bst N t0 rem [] [t0]
/-- a term is put where it belongs -/
def putDn (fs : List Fr) (k : Tm) : List Fr := match fs with
  | [] => []
  | f :: r => { f with dn := f.dn ++ [k], rs := f.rs.tail } :: r
def putBot (fs : List Fr) (k : Tm) : List Tm := match fs with
  | [] => [k]
  | _ :: _ => []
theorem Bst.fin {N : List Nat → Prop} {t0 k : Tm} {fs : List Fr} {a : Nat} {rem : List Pc} (c : Ctx t0 fs k a) (nm : t0.Names N) (hn : ∀ f ∈ fs, f.t.Names N) (ro : restsOk N fs) (e : rem = rP (a + k.pr.length) (rests fs)) : Bst N t0 rem (putDn fs k) (putBot fs k) := by
  cases fs with
  | nil =>
    obtain ⟨h1, _⟩ := c
    subst h1
    exact .over e
  | cons f r =>
    obtain ⟨v, h1, h2⟩ := c
    have ro' : restsOk N r := fun g hg => ro g (List.mem_cons_of_mem _ hg)
    cases hrs : f.rs with
    | nil =>
      rw [hrs] at v
      show Bst N t0 rem ({ f with dn := f.dn ++ [k], rs := f.rs.tail } :: r) []
      refine .close v h2 (hn f List.mem_cons_self) ro' ?_
      rw [e]
      show rP (a + k.pr.length) (f.rs :: rests r) = _
      rw [hrs, rP, kP, kT, kT_app, v.pr, kT_app]
      simp only [kT, List.append_nil, List.length_append, List.length_cons, List.length_nil, List.nil_append, h1]
      rw [show f.at_ + (hd f.w f.b).length + (kT f.dn).length + 1 + k.pr.length + 0 = f.at_ + (hd f.w f.b).length + ((kT f.dn).length + (k.pr.length + 1)) by omega,
        show f.at_ + (hd f.w f.b).length + ((kT f.dn).length + (k.pr.length + 1)) + 1 = f.at_ + ((hd f.w f.b).length + ((kT f.dn).length + (k.pr.length + 1)) + (0 + 1)) by omega]
    | cons k' rs' =>
      rw [hrs] at v
      show Bst N t0 rem ({ f with dn := f.dn ++ [k], rs := f.rs.tail } :: r) []
      have hk := ro f List.mem_cons_self k' (by rw [hrs]; exact List.mem_cons_self)
      refine .ahead k' (a + k.pr.length + 1) ⟨?_, ?_, h2⟩ hk.1 hk.2 ?_ ?_
      · show View f.t f.w f.b (f.dn ++ [k] ++ k' :: f.rs.tail)
        rw [hrs]
        simpa using v
      · show a + k.pr.length + 1 = f.at_ + (hd f.w f.b).length + (kT (f.dn ++ [k])).length + 1
        rw [kT_app, h1]
        simp [kT]
        omega
      · intro g hg x hx
        rcases List.mem_cons.mp hg with rfl | hg
        · have hx2 : x ∈ f.rs.tail := hx
          exact ro f List.mem_cons_self x (List.mem_of_mem_tail hx2)
        · exact ro' g hg x hx
      · rw [e]
        show rP (a + k.pr.length) (f.rs :: rests r) = k'.pc (a + k.pr.length + 1) ++ rP _ (f.rs.tail :: rests r)
        rw [hrs, List.tail_cons, rP, rP, kP, kT]
        simp only [List.length_append, List.length_cons, List.append_assoc, List.cons_append]
        rw [show a + k.pr.length + (k'.pr.length + (kT rs').length + 1) = a + k.pr.length + 1 + k'.pr.length + (kT rs').length by omega]
theorem View.some_kid {t : Tm} {w : Wd} {b : List Nat} {ks : List Tm} (v : View t w b ks) : ∃ k1 ks', ks = k1 :: ks' := by
  have h := v.ar
  cases ks with
  | nil =>
    exfalso
    cases w <;> simp [Wd.ar] at h
  | cons k1 ks' => exact ⟨k1, ks', rfl⟩
/-- a bracket opens -/
theorem Bst.open {N : List Nat → Prop} {t0 k k1 : Tm} {ks : List Tm} {w : Wd} {b : List Nat} {fs : List Fr} {a : Nat} {rem : List Pc} (v : View k w b (k1 :: ks)) (c : Ctx t0 fs k a) (nm : k.Names N) (ro : restsOk N fs)
    (e : op a w b :: rem = k.pc a ++ rP (a + k.pr.length) (rests fs)) : Bst N t0 rem (⟨k, w, b, a, [], ks⟩ :: fs) [] := by
  have hk := v.names nm
  refine .ahead k1 (a + (hd w b).length + 1) ⟨v, by simp [kT], c⟩ (v.oks _ List.mem_cons_self) (hk _ List.mem_cons_self) ?_ ?_
  · intro g hg x hx
    rcases List.mem_cons.mp hg with rfl | hg
    · exact ⟨v.oks x (List.mem_cons_of_mem _ hx), hk x (List.mem_cons_of_mem _ hx)⟩
    · exact ro g hg x hx
  · rw [v.pc, v.pr, List.cons_append] at e
    have e := (List.cons.inj e).2
    rw [e]
    show _ = k1.pc _ ++ rP _ (ks :: rests fs)
    rw [rP, kP, kT]
    simp only [List.length_append, List.length_cons, List.length_nil, List.append_assoc, List.cons_append, List.nil_append]
    rw [show a + ((hd w b).length + (k1.pr.length + ((kT ks).length + (0 + 1)) + 1)) = a + (hd w b).length + 1 + k1.pr.length + (kT ks).length + 1 by omega,
      show a + (hd w b).length + (k1.pr.length + (kT ks).length + 1) = a + (hd w b).length + 1 + k1.pr.length + (kT ks).length by omega]
end U

set_option Elab.async false
set_option linter.all false
set_option maxRecDepth 100000
set_option maxHeartbeats 4000000
/-! a written dict of texts and ints: in, not in, an item, its keys walked -/
namespace U
open PySem PySem.Spec PyProof.Rows L2
structure KTab (K : PySem.W.Frag) (w : World) (d : Addr) (es : Array DictEntry) (n : Nat) (kvs : List (Str × Int)) : Prop where
  dict : KDict K w d es n
  rows : Paired (fun (p : Str × Int) (e : DictEntry) => ∃ t u, e.key = .str p.1 t ∧ e.val = .int p.2 u) kvs es.toList
  nd : (kvs.map (·.1)).Nodup
section
variable {K : PySem.W.Frag} {w : World} {d : Addr} {es : Array DictEntry} {n : Nat} {kvs : List (Str × Int)}
theorem find_rows : ∀ {kvs : List (Str × Int)} {es : List DictEntry}, Paired (fun (p : Str × Int) (e : DictEntry) => ∃ t u, e.key = .str p.1 t ∧ e.val = .int p.2 u) kvs es → ∀ z : Str,
    (∃ i u e, (z, i) ∈ kvs ∧ es.find? (·.key.isStr z) = some e ∧ e.val = .int i u) ∨ (z ∉ kvs.map (·.1) ∧ es.find? (·.key.isStr z) = none ∧ es.any (·.refKey) = false)
  | [], [], .nil, z => .inr ⟨by simp, rfl, rfl⟩
  | p :: kvs, e :: es, .cons ⟨t, u, h1, h2⟩ r, z => by
    have hk : e.key.isStr z = decide (p.1 = z) := by
      rw [h1]
      by_cases hz : p.1 = z
      · subst hz
        simp [Value.isStr]
      · rw [decide_eq_false hz]
        simp [Value.isStr, hz]
    have hr : e.refKey = false := by
      unfold DictEntry.refKey
      rw [h1]
    by_cases hz : p.1 = z
    · refine .inl ⟨p.2, u, e, ?_, ?_, h2⟩
      · rw [← hz]
        exact List.mem_cons_self
      · rw [List.find?_cons, hk, decide_eq_true hz]
    · have nx : (e :: es).find? (·.key.isStr z) = es.find? (·.key.isStr z) := by
        rw [List.find?_cons, hk, decide_eq_false hz]
      rw [nx]
      rcases find_rows r z with ⟨i, u', e', a, b, c⟩ | ⟨a, b, c⟩
      · exact .inl ⟨i, u', e', List.mem_cons_of_mem _ a, b, c⟩
      · refine .inr ⟨?_, b, by rw [List.any_cons, hr, c]; rfl⟩
        rw [List.map_cons, List.mem_cons]
        exact fun h => h.elim (fun h => hz h.symm) a
theorem KTab.ns (T : KTab K w d es n kvs) (z : Str) : (∃ i u, (z, i) ∈ kvs ∧ PySem.W.nsIn K d z = some (some (.int i u))) ∨ (z ∉ kvs.map (·.1) ∧ PySem.W.nsIn K d z = some none) := by
  have hl := T.dict.at_
  unfold PySem.W.nsIn
  rw [hl]
  dsimp only
  rcases find_rows T.rows z with ⟨i, u, e, a, b, c⟩ | ⟨a, b, c⟩
  · exact .inl ⟨i, u, a, by rw [b, ← c]⟩
  · refine .inr ⟨a, ?_⟩
    rw [b]
    dsimp only
    rw [if_neg (by rw [c]; decide)]
end
section
variable {X : Cx} {d : Addr} {es : Array DictEntry} {n : Nat} {kvs : List (Str × Int)}
/-- z in d -/
theorem op_in_tab (T : KTab X.K X.w d es n kvs) : OpR X (compareOp .In) (fun x y H Q => ∃ z : Str, x = .str z ∧ y = .ref d ∧ Q (.bl (decide (z ∈ kvs.map (·.1)))) H) := by
  intro pins s σ H x y v u Q I rx ry ⟨z, h1, h2, q⟩
  rcases T.ns z with ⟨i, u0, m, e⟩ | ⟨m, e⟩
  · rw [decide_eq_true (List.mem_map.mpr ⟨_, m, rfl⟩)] at q
    exact op_in_kd T.dict pins s σ H x y v u Q I rx ry ⟨z, _, h1, h2, e, q⟩
  · rw [decide_eq_false m] at q
    exact op_in_kd T.dict pins s σ H x y v u Q I rx ry ⟨z, _, h1, h2, e, q⟩
/-- z not in d -/
theorem op_notIn_tab (T : KTab X.K X.w d es n kvs) : OpR X (compareOp .NotIn) (fun x y H Q => ∃ z : Str, x = .str z ∧ y = .ref d ∧ Q (.bl (!decide (z ∈ kvs.map (·.1)))) H) := by
  intro pins s σ H x y v u Q I rx ry ⟨z, h1, h2, q⟩
  rcases T.ns z with ⟨i, u0, m, e⟩ | ⟨m, e⟩
  · rw [decide_eq_true (List.mem_map.mpr ⟨_, m, rfl⟩)] at q
    exact op_notIn_kd T.dict pins s σ H x y v u Q I rx ry ⟨z, _, h1, h2, e, q⟩
  · rw [decide_eq_false m] at q
    exact op_notIn_kd T.dict pins s σ H x y v u Q I rx ry ⟨z, _, h1, h2, e, q⟩
/-- d[z], z a key of it -/
theorem ix_tab (T : KTab X.K X.w d es n kvs) : IxR X (fun x y H Q => ∃ z : Str, x = .ref d ∧ y = .str z ∧ (∃ i, (z, i) ∈ kvs) ∧ ∀ i, (z, i) ∈ kvs → Q (.int i) H) := by
  intro value slice pins s σ H x y v u Q I rx ry ⟨z, h1, h2, ⟨i0, hi⟩, q⟩ hs
  rcases T.ns z with ⟨i, u0, m, e⟩ | ⟨m, e⟩
  · exact ix_kdict value slice pins s σ H x y v u Q I rx ry ⟨d, z, .int i, h1, h2, ⟨es, n, _, T.dict.at_, T.dict.lit, e, ⟨_, rfl⟩⟩, q i m⟩ hs
  · exact absurd (List.mem_map.mpr ⟨_, hi, rfl⟩) m
/-- its keys, one by one -/
def Itn (ks : List Str) : It := ⟨fun i _ => i < ks.length, fun i H v H' => H' = H ∧ ∃ k, ks[i]? = some k ∧ v = .str k, fun i _ => ks.length ≤ i⟩
theorem walk_tab {ks : List Str} : Walk (Itn ks) ks.length (fun _ => True) (fun i H v H' => H' = H ∧ ∃ k, ks[i]? = some k ∧ v = .str k) :=
  ⟨fun _ _ hi _ => hi, fun _ _ => Nat.le_refl _, fun _ _ _ _ _ _ y => y⟩
theorem pairs_rows (P : Program) (w : World) : ∀ {kvs : List (Str × Int)} {es : List DictEntry}, Paired (fun (p : Str × Int) (e : DictEntry) => ∃ t u, e.key = .str p.1 t ∧ e.val = .int p.2 u) kvs es →
    ∃ ps : List (Str × Value), Pairs (PySem.strKind P w) es ps ∧ ps.map (·.1) = kvs.map (·.1)
  | [], [], .nil => ⟨[], .nil, rfl⟩
  | p :: kvs, e :: es, .cons ⟨t, u, h1, h2⟩ r => by
    obtain ⟨ps, a, b⟩ := pairs_rows P w r
    have key : (PySem.strKind P w).is p.1 e.key = true := by
      rw [h1]
      exact strKind_is P w p.1 t
    exact ⟨(p.1, e.val) :: ps, .cons key rfl a, by rw [List.map_cons, List.map_cons, b]⟩
theorem KTab.dictAt {K : PySem.W.Frag} {w : World} (P : Program) (T : KTab K w d es n kvs) {h : Heap} (I : K.In h) : ∃ ps : List (Str × Value), h.DictAt (PySem.strKind P w) d ps n ∧ ps.map (·.1) = kvs.map (·.1) ∧ es.size = ps.length := by
  obtain ⟨ps, a, b⟩ := pairs_rows P w T.rows
  refine ⟨ps, ⟨_, es, I _ _ T.dict.at_, ⟨rfl, rfl, rfl⟩, rfl, fun e he => ?_, a, by rw [b]; exact T.nd⟩, b, ?_⟩
  · obtain ⟨x, t, e1, e2⟩ := T.dict.lit.all e (Array.mem_toList_iff.mpr he)
    refine ⟨x, ?_, e2⟩
    rw [e1]
    exact strKind_is P w x t
  · rw [← a.length, Array.length_toList]
theorem turn_tab {P : Program} {w : World} {K : PySem.W.Frag} {tg : Expr} (T : KTab K w d es n kvs) (it : Addr) :
    Turn P w K tg (Itn (kvs.map (·.1))) [it] it (fun i h => h.IsKeyIter it d i (kvs.map (·.1)).length n) where
  mem := List.mem_singleton.mpr rfl
  obj := by
    intro i h st b hb
    obtain rfl := List.mem_singleton.mp hb
    obtain ⟨o, e, _, dd⟩ := st
    refine ⟨o, e, fun v z => ?_⟩
    rw [dd] at z
    cases z
  keep := fun i h h' st k => st.at fun o e => k it (List.mem_singleton.mpr rfl) o e
  item := by
    intro X hP hw hK hc i pins s σ H E I hf st hg
    subst hP hw hK
    obtain ⟨f0, f1, f2, f3, f4, f5⟩ := hf it (List.mem_singleton.mpr rfl)
    obtain ⟨ps, da, pe, _⟩ := T.dictAt X.prog I.kIn
    have hl : (kvs.map (·.1)).length = ps.length := by rw [← pe, List.length_map]
    have hi : i < ps.length := hl ▸ hg
    have hk : (kvs.map (·.1))[i]? = some ps[i].1 := by rw [← pe, List.getElem?_map, List.getElem?_eq_getElem hi]; rfl
    rw [hl] at st
    refine wpAny_pyNext_dict_item st da (k := ps[i].1) (v := ps[i].2) (List.getElem?_eq_getElem hi) fun key h' hkey st' sb => ?_
    have I1 : Inv X pins σ H { s with heap := h' } := I.turned (t' := s.toks) (fun b ob hb e => (sb.2 b hb).trans e) f0 f1 f3 f4 f5
    obtain ⟨oi, e, c, dd⟩ := id st'
    have rel : RelV (.str ps[i].1) key := by
      rcases keyIs_shape (k := .inr ps[i].1) (v := key) hkey with ⟨_, _, z, _⟩ | ⟨x, t, z, rfl⟩
      · cases z
      · obtain rfl := Sum.inr.inj z
        exact ⟨t, rfl⟩
    refine ⟨key, rfl, go_of (s := { s with heap := h' }) e c dd (by decide) ⟨_, H, I1, rel, ⟨rfl, _, hk, rfl⟩, ?_, fun b hb => (hf b hb).1⟩⟩
    rw [hl]
    exact st'
  done := by
    intro X hP hw hK hc i pins s σ H E I hf st hg
    subst hP hw hK
    obtain ⟨f0, f1, f2, f3, f4, f5⟩ := hf it (List.mem_singleton.mpr rfl)
    obtain ⟨ps, da, pe, hs⟩ := T.dictAt X.prog I.kIn
    have hl : (kvs.map (·.1)).length = ps.length := by rw [← pe, List.length_map]
    exact next_key_end (I.ok.hd hc) st (I.kIn _ _ T.dict.at_) rfl (hs.trans hl.symm) hg fun h' eb => ⟨rfl, I.turned (t' := s.toks) (fun b ob hb e => eb b ob hb e) f0 f1 f3 f4 f5⟩
  self := fun A i s Q E st h => wpAny_pyIter_keyiter st h
/-- for k in d -/
def iTab (d : Addr) (ks : List Str) (td : TE) : TI := fun σ H R => td σ H fun x H1 => x = .ref d ∧ R (Itn ks) H1
theorem pi_tab {tg e : Expr} {td : TE} (T : KTab X.K X.w d es n kvs) (he : PE X e td) : PI X tg e (iTab d (kvs.map (·.1)) td) := by
  refine ⟨fun pins s σ H R I h => ?_⟩
  refine thn (he.run pins s σ H _ I h) fun u s1 ⟨x, H1, I1, rx, ex, q⟩ => ?_
  subst ex
  obtain rfl : u = Value.ref d := rx
  obtain ⟨ps, da, pe, hs⟩ := T.dictAt X.prog I1.kIn
  have hl : (kvs.map (·.1)).length = ps.length := by rw [← pe, List.length_map]
  refine iter_keys T.dict.low (I1.kIn _ _ T.dict.at_) ⟨rfl, rfl, rfl⟩ rfl (pi_one (tk := s1.toks) I1 _ (turn_tab T _) ⟨_, Heap.get?_push_size _ rfl, rfl, ?_⟩ q)
  rw [hs, hl]
  rfl
end
end U

set_option Elab.async false
set_option linter.all false
set_option maxRecDepth 100000
set_option maxHeartbeats 4000000
/-! sets of texts: made of a list, sorted -/
namespace U
open PySem PySem.Spec PyProof.Rows L2
def textOf (e : Int × Value) : Str := match e.2 with
  | .str x _ => x
  | _ => Str.empty
def TextE (w : World) (e : Int × Value) : Prop := ∃ x u, e.2 = Value.str x u ∧ e.1 = hashStr w x
/-- a set of texts at a: its members in some order; its table as a walk wants it -/
def SetS (w : World) (h : Heap) (a : Addr) (l : List Str) : Prop :=
  ∃ ob es ep tb, (h.get? a = some ob ∧ ob.ExactSet ∧ ob.data = .set es ep tb) ∧ ((∀ e ∈ es.toList, TextE w e) ∧ (es.toList.map textOf).Perm l ∧ l.Nodup) ∧
    (es.size < scanBound ∧ tb.fits es.size = true) ∧ Ris tb.place.toList ∧ (w.params.followText "set-order" = true ∨ tb.led = true)
section
variable {P : Program} {w : World} {h h' : Heap} {a : Addr} {l : List Str}
theorem SetS.moved (R : SetS w h a l) (k : ∀ o, h.get? a = some o → h'.get? a = some o) : SetS w h' a l := by
  obtain ⟨ob, es, ep, tb, ⟨h1, h2⟩, r⟩ := R
  exact ⟨ob, es, ep, tb, ⟨k ob h1, h2⟩, r⟩
theorem text_elems {l : List (Int × Value)} (g : ∀ e ∈ l, TextE w e) : ElemsOf (PySem.strKind P w) l := by
  intro e he
  obtain ⟨x, u, h1, h2⟩ := g e he
  refine ⟨⟨x, ?_, h2⟩, ?_⟩ <;> rw [h1]
  · exact strKind_is P w x u
  · rfl
theorem text_is {e : Int × Value} (g : TextE w e) (k : Str) : (PySem.strKind P w).is k e.2 = true ↔ textOf e = k := by
  obtain ⟨x, u, h1, _⟩ := g
  unfold textOf
  rw [h1]
  show Value.isStrOf k (.str x u) = true ↔ x = k
  simp [Value.isStrOf]
end
section
variable {P : Program} {w : World} {A : Around} {E : Value → Shared → Prop} {s : Shared} {a : Addr}
/-- the table is stored, and laid anew where it is too full -/
theorem setS_store {gv : Bool → Sem Unit} (hg : ∀ (b : Bool) (s₁ : Shared) (Q' : Unit → Shared → Prop), Q' () s₁ → wpAny (model P w) A (gv b) Q' E s₁)
    {ob : Obj} {es es1 : Array (Int × Value)} {ep : Nat} {tb tb1 : SetTable} {l : List Str} {wd : Bool} {R : Option Bool → Shared → Prop}
    (o1 : s.heap.get? a = some ob) (o2 : ob.ExactSet) (o3 : ob.data = .set es ep tb)
    (e1 : ∀ e ∈ es1.toList, TextE w e) (e2 : (es1.toList.map textOf).Perm l) (e3 : l.Nodup) (e4 : es1.size < scanBound) (e5 : tb1.fits es1.size = true) (e6 : Ris tb1.place.toList) (e7 : w.params.followText "set-order" = true ∨ tb1.led = true)
    (hR : ∀ h', Heap.SameBut a s.heap h' → SetS w h' a l → R (some true) { s with heap := h' }) :
    wpAny (model P w) A (storeSet a es1 tb1 >>= fun _ => if (!wd && tb1.tooFull) = true then
        gv (relayAll tb1 es1 (SetTable.grown es1.size)).2.2 >>= fun _ => storeSet a (relayAll tb1 es1 (SetTable.grown es1.size)).1 (relayAll tb1 es1 (SetTable.grown es1.size)).2.1 >>= fun _ => pure (some true)
      else pure (some true)) R E s := by
  have st := store_at (es' := es1) (t' := tb1) o1 o3
  have same := Heap.SameBut.update s.heap a (Obj.putSet es1 tb1)
  refine wpAny_bind (wpAny_storeSet_of o1 o3 ?_ (fits_of_scanBound e4))
  split
  · have p1 := relayAll_perm tb1 es1 (SetTable.grown es1.size)
    have p2 := relayAll_fits tb1 es1 (SetTable.grown es1.size)
    have p3 := relayAll_ris tb1 es1 (SetTable.grown es1.size)
    have p4 := relayAll_led tb1 es1 (SetTable.grown es1.size)
    revert p1 p2 p3 p4
    generalize relayAll tb1 es1 (SetTable.grown es1.size) = z
    intro p1 p2 p3 p4
    have sz : z.1.size = es1.size := by
      have := p1.length_eq
      simpa using this
    have bd : z.1.size < scanBound := by omega
    have st2 := store_at (es' := z.1) (t' := z.2.1) st rfl
    refine wpAny_bind (hg _ _ _ (wpAny_bind (wpAny_storeSet_of st rfl (wpAny_pure (hR _ (same.trans (Heap.SameBut.update _ a _)) ?_)) (fits_of_scanBound bd))))
    refine ⟨_, z.1, _, z.2.1, ⟨st2, o2, rfl⟩, ⟨fun e he => e1 e (p1.mem_iff.mp he), (p1.map textOf).trans e2, e3⟩, ⟨bd, p2⟩, p3, ?_⟩
    rcases e7 with h | h
    · exact .inl h
    · exact .inr (p4.trans h)
  · exact wpAny_pure (hR _ same ⟨_, es1, _, tb1, ⟨st, o2, rfl⟩, ⟨e1, e2, e3⟩, ⟨e4, e5⟩, e6, e7⟩)
/-- a text is added -/
theorem setS_add {l : List Str} {k : Str} {u : Tok} {Q : Bool → Shared → Prop} (R : SetS w s.heap a l) (room : l.length + 1 < scanBound)
    (hQ : ∀ (b : Bool) (h' : Heap), Heap.SameBut a s.heap h' → SetS w h' a (if k ∈ l then l else k :: l) → Q b { s with heap := h' }) :
    wpAny (model P w) A (setAddHashed a (.str k u) ((PySem.strKind P w).hash k)) Q E s := by
  obtain ⟨ob, es, ep, tb, ⟨o1, o2, o3⟩, ⟨e1, e2, e3⟩, ⟨e4, e5⟩, e6, e7⟩ := R
  have key := strKind_is P w k u
  have el : ElemsOf (PySem.strKind P w) es.toList := text_elems e1
  unfold setAddHashed setAddHashedIn
  refine wpAny_holding (wpAny_bind (wpAny_setState_of o1 o3 e5 ?_))
  dsimp only
  rw [byScan_of (show (Value.str k u).scannable = true from rfl) e4 el, if_pos rfl]
  unfold setAddByScan
  refine wpAny_bind (wpAny_bind (wpAny_rule (wpAny_bind (wpAny_setScan_of key o1 o3 e5 el ?_))))
  have mem : k ∈ l ↔ ∃ e ∈ es.toList, (PySem.strKind P w).is k e.2 = true := by
    rw [← e2.mem_iff, List.mem_map]
    exact ⟨fun ⟨e, he, q⟩ => ⟨e, he, (text_is (e1 e he) k).mpr q⟩, fun ⟨e, he, q⟩ => ⟨e, he, (text_is (e1 e he) k).mp q⟩⟩
  cases hf : List.findIdx? (fun e => (PySem.strKind P w).is k e.2) es.toList with
  | some j =>
    obtain ⟨hj, pj, _⟩ := List.findIdx?_eq_some_iff_getElem.mp hf
    have hm : k ∈ l := mem.mpr ⟨_, List.getElem_mem hj, pj⟩
    have q := fun b => hQ b s.heap (Heap.SameBut.refl a s.heap)
    rw [if_pos hm] at q
    exact wpAny_pure (wpAny_pure (q _ ⟨ob, es, ep, tb, ⟨o1, o2, o3⟩, ⟨e1, e2, e3⟩, ⟨e4, e5⟩, e6, e7⟩))
  | none =>
    have hm : k ∉ l := fun z => by
      obtain ⟨e, he, q⟩ := mem.mp z
      have := List.findIdx?_eq_none_iff.mp hf e he
      rw [q] at this
      cases this
    rw [if_neg hm] at hQ
    dsimp only
    have p1 := layNew_perm tb es ((PySem.strKind P w).hash k) (.str k u)
    have p2 := layNew_fits tb es ((PySem.strKind P w).hash k) (.str k u)
    have p3 := layNew_ris tb es ((PySem.strKind P w).hash k) (.str k u) e6
    have p4 := layNew_led tb es ((PySem.strKind P w).hash k) (.str k u)
    revert p1 p2 p3 p4
    generalize layNew tb es ((PySem.strKind P w).hash k) (.str k u) = z
    obtain ⟨es1, tb1, wd, gave⟩ := z
    intro p1 p2 p3 p4
    dsimp only at p1 p2 p3 p4 ⊢
    have pc : es1.toList.Perm (((PySem.strKind P w).hash k, Value.str k u) :: es.toList) := by
      rw [Array.toList_push] at p1
      exact p1.trans (List.perm_append_singleton _ _)
    have sz : es1.size = l.length + 1 := by
      have h1 := pc.length_eq
      have h2 := e2.length_eq
      simp only [Array.length_toList, List.length_cons, List.length_map] at h1 h2
      omega
    have f1 : ∀ e ∈ es1.toList, TextE w e := by
      intro e he
      rcases List.mem_cons.mp (pc.mem_iff.mp he) with z | z
      · rw [z]
        exact ⟨k, u, rfl, rfl⟩
      · exact e1 e z
    have f2 : (es1.toList.map textOf).Perm (k :: l) := (pc.map textOf).trans (List.Perm.cons k e2)
    have f3 : (k :: l).Nodup := List.nodup_cons.mpr ⟨hm, e3⟩
    have f4 : es1.size < scanBound := by omega
    have f7 : w.params.followText "set-order" = true ∨ tb1.led = true := by
      rcases e7 with h | h
      · exact .inl h
      · exact .inr (p4.trans h)
    have gw : ∀ (b : Bool) (s₁ : Shared) (Q' : Unit → Shared → Prop), Q' () s₁ → wpAny (model P w) A (match b with | true => rule "set.scan.the-table-gave-way" | false => pure ()) Q' E s₁ := by
      intro b s₁ Q' q
      cases b with
      | true => exact wpAny_rule q
      | false => exact wpAny_pure q
    refine wpAny_bind (gw _ _ _ ?_)
    have go : ∀ h', Heap.SameBut a s.heap h' → SetS w h' a (k :: l) → Q true { s with heap := h' } := fun h' sb r => hQ true h' sb r
    split
    · refine wpAny_bind ?_
      rw [hashByValue_scannable 8 (show (Value.str k u).scannable = true from rfl)]
      refine wpAny_pure ?_
      generalize plainKind (Value.str k u) = pk
      cases pk with
      | true =>
        simp only [↓reduceIte]
        refine setS_store ?_ o1 o2 o3 f1 f2 f3 f4 p2 p3 f7 fun h' sb r => wpAny_pure (go h' sb r)
        intro b s₁ Q' q
        cases b <;> first | exact wpAny_rule q | exact wpAny_pure q
      | false =>
        simp only [Bool.false_eq_true, ↓reduceIte]
        refine setS_store (tb1 := { tb1 with plain := false }) ?_ o1 o2 o3 f1 f2 f3 f4 (SetTable.fits_plain_off p2) p3 f7 fun h' sb r => wpAny_pure (go h' sb r)
        intro b s₁ Q' q
        cases b <;> first | exact wpAny_rule q | exact wpAny_pure q
    · refine wpAny_bind (wpAny_pure ?_)
      simp only [↓reduceIte]
      refine setS_store ?_ o1 o2 o3 f1 f2 f3 f4 p2 p3 f7 fun h' sb r => wpAny_pure (go h' sb r)
      intro b s₁ Q' q
      cases b <;> first | exact wpAny_rule q | exact wpAny_pure q
/-- the first i of the texts, each once, in some order -/
def Same1 (l xs : List Str) : Prop := l.Nodup ∧ ∀ x, x ∈ l ↔ x ∈ xs
theorem setS_loop {I : Addr} {fp wr : List Addr} {G : Array GenState → Array GenState → Prop} {n : Nat} {Pv : Nat → Value → Prop} {St : Nat → Shared → Prop} {R : Result → Shared → Prop}
    (W : WalksS P w A.in1 I fp wr G n Pv St) (a : Addr) (ha : a ∉ fp) (xs : List Str) (hn : xs.length = n) (hb : xs.length + 1 < scanBound) (hv : ∀ i v, Pv i v → ∃ x u, xs[i]? = some x ∧ v = Value.str x u) :
    ∀ (m i : Nat) (s : Shared) (l : List Str), i + m = n → St i s → SetS w s.heap a l → Same1 l (xs.take i) → l.length ≤ i →
      (∀ s' l', Moved (a :: wr) G s s' → SetS w s'.heap a l' → Same1 l' xs → l'.length ≤ n → R (.ok (.ret .none)) s') →
      codeAny (model P w) A (.builtin "set.update.loop" ⟨[.ref a, .ref I], []⟩) R s := by
  have hw : a ∉ wr := fun h => ha (W.sub _ h)
  have more : ∀ b ∈ wr, b ∈ a :: wr := fun b hb => List.mem_cons_of_mem _ hb
  intro m
  induction m with
  | zero =>
    intro i s l hi st R1 R2 R3 fin
    have e : i = n := by omega
    subst e
    refine codeAny_builtin PyProof.Rows.F.entry_set_update_loop ?_
    rw [Around.under_plainId PyProof.Rows.F.plain_set_update_loop _]
    refine (show wpAny _ A.in1 (pyNext (.ref I) >>= _) _ _ s from wpAny_bind (W.done s _ _ st fun s' mv => wpAny_pure (fin s' l (mv.mono more) (R1.moved fun o e => mv.heap a o hw e) ?_ R3)))
    rw [List.take_of_length_le (by omega)] at R2
    exact R2
  | succ m ih =>
    intro i s l hi st R1 R2 R3 fin
    refine codeAny_builtin PyProof.Rows.F.entry_set_update_loop ?_
    rw [Around.under_plainId PyProof.Rows.F.plain_set_update_loop _]
    refine (show wpAny _ A.in1 (pyNext (.ref I) >>= _) _ _ s from wpAny_bind (W.item i s _ _ (by omega) st fun v s' pv st' mv => ?_))
    obtain ⟨x, u, hx, rfl⟩ := hv i v pv
    refine (show wpAny _ A.in1 (holding [Value.str x u] (setAdd a (.str x u)) >>= _) _ _ s' from wpAny_bind (wpAny_holding ?_))
    unfold setAdd
    refine wpAny_holding (wpAny_bind ((PySem.strKind P w).pyHash (k := x) (strKind_is _ _ _ _) ?_))
    refine setS_add (s := { s' with toks := s'.toks + 1 }) (R1.moved fun o e => mv.heap a o hw e) (by omega) fun b h' sb R4 => ?_
    have R5 : Same1 (if x ∈ l then l else x :: l) (xs.take (i + 1)) := by
      refine ⟨?_, fun y => ?_⟩
      · split
        · exact R2.1
        · rename_i hx
          exact List.nodup_cons.mpr ⟨hx, R2.1⟩
      · rw [List.take_add_one, hx, List.mem_append, ← R2.2 y]
        split
        · rename_i hx
          refine ⟨.inl, fun z => z.elim id fun z => ?_⟩
          have z := (List.mem_singleton.mp z : y = x)
          rw [z]
          exact hx
        · rw [List.mem_cons]
          exact ⟨fun z => z.elim (fun z => .inr (z ▸ List.mem_cons_self)) .inl, fun z => z.elim .inr fun z => .inl (List.mem_singleton.mp z)⟩
    have R6 : (if x ∈ l then l else x :: l).length ≤ i + 1 := by
      split
      · omega
      · rw [List.length_cons]
        omega
    refine wpAny_pure ⟨plainId_quiet PyProof.Rows.F.plain_set_update_loop _, ih (i + 1) _ _ (by omega) (W.frame _ s' _ _ st' (Nat.le_succ _) fun b hb o e => ?_) R4 R5 R6 fun s2 l2 mv2 r1 r2 r3 => ?_⟩
    · exact (sb.2 b fun z => ha (z ▸ hb)).trans e
    · exact fin s2 l2 (Moved.trans W.gtrans ((mv.mono more).then_heap (Nat.le_succ _) fun b o hb e => (sb.2 b fun z => hb (z ▸ List.mem_cons_self)).trans e) mv2) r1 r2 r3
theorem setS_fresh {h : Heap} {a : Addr} (e : h.get? a = some { cls := .type "set", dict := none, data := .set #[] 0 (.fresh 0 0 (!w.params.followText "set-order")) }) : SetS w h a [] := by
  refine ⟨_, #[], 0, _, ⟨e, ⟨rfl, rfl, rfl⟩, rfl⟩, ⟨fun e he => by simp at he, .refl _, .nil⟩, ⟨by decide, rfl⟩, List.Pairwise.nil, ?_⟩
  show _ ∨ (!w.params.followText "set-order") = true
  cases w.params.followText "set-order" <;> simp
abbrev set0 (w : World) : Obj := { cls := .type "set", dict := none, data := .set #[] 0 (.fresh 0 0 (!w.params.followText "set-order")) }
/-- set(xs), xs a list of texts -/
theorem call_set_texts {q : Addr} {items : Array Value} {xs : List Str} {Q : Value → Shared → Prop} (hh : A.handled = none) (hq : s.heap.IsList q items) (hx : StrsAre items.toList xs) (hb : xs.length + 1 < scanBound)
    (fin : ∀ (h' : Heap) (tk : Nat) (l : List Str), SetS w h' s.heap.objs.size l → Same1 l xs → l.length ≤ xs.length → (∀ b o, s.heap.get? b = some o → h'.get? b = some o) → Q (.ref s.heap.objs.size) { s with heap := h', toks := tk }) :
    wpAny (model P w) A (call (.type "set") [.ref q]) Q E s := by
  have hsz : xs.length = items.size := by rw [← StrsAre.len_eq hx, Array.length_toList]
  obtain ⟨cc, tl, m1⟩ := PySem.F.called_set.mro
  have m2 := PySem.F.called_set.made
  have m3 := PySem.F.called_set.sub
  refine wpAny_call (codeAny_of_tree (show wpAny _ _ (callAny (.type "set") _) _ _ _ from wpAny_pure ⟨Code.quiet_builtin _ (by decide +kernel), codeAny_builtin PySem.F.entry_type_call ?_⟩))
  rw [Around.under_plain (weight_type_call_type "set" [.ref q] []) rfl]
  have m4 := PySem.F.called_set.notType
  have m5 := PySem.F.called_set.canCreate
  have m6 := PySem.F.typeCall_set_1 (.ref q)
  repeat (any_goals (first | assumption | wp_step))
  refine codeAny_mono (code_set_led1 (.ref q) (E := E) (Q₁ := fun ob s1 => ob = .ref s.heap.objs.size ∧ s1 = { s with heap := s.heap.push (set0 w) }) ⟨rfl, rfl⟩) fun r s1 hr => ?_
  match r, hr with
  | .error e, hr => exact hr
  | .ok (.ret ob), hr =>
    obtain ⟨rfl, rfl⟩ := hr
    have at0 : (s.heap.push (set0 w)).get? s.heap.objs.size = some (set0 w) := Heap.get?_push_size _ rfl
    have ty0 : Shared.TypeIs { s with heap := s.heap.push (set0 w) } (.ref s.heap.objs.size) "set" := ⟨_, at0, rfl⟩
    have n1 := PySem.F.called_set.init.lookup
    have n2 := PySem.F.called_set.init.bind (.ref s.heap.objs.size)
    repeat (any_goals (first | assumption | wp_step))
    refine codeAny_mono (codeAny_call_builtin (R := wants (fun r s2 => r = .none ∧ ∃ h' tk l, s2 = { s with heap := h', toks := tk } ∧ (SetS w h' s.heap.objs.size l ∧ Same1 l xs ∧ l.length ≤ xs.length) ∧ (∀ b o, s.heap.get? b = some o → h'.get? b = some o)) E)
      PySem.F.called_set.init.plain PySem.F.entry_set_init (check_set_init_1 ty0 ?_)) fun r2 s2 hr2 => ?_
    · obtain ⟨⟨c1, c2, c3, c4⟩, g1, g2, nn, g3⟩ := hq
      simp only at g2 g3
      subst g2
      subst g3
      have at1 := Heap.get?_push_of_some (set0 w) g1
      have li : (s.heap.push (set0 w)).IsList q items := ⟨_, at1, rfl, nn, rfl⟩
      have u1 := PySem.F.sub_list_set
      have u2 := PySem.F.sub_list_frozenset
      have u3 : (Value.type "list" == Value.type "dict") = false := by decide
      unfold Builtin.«set.__init__» noKeywords Builtin.Frozenset.updateFrom
      generalize hPI : pyIter = PI
      wp_walk
      subst hPI
      refine wpAny_pyIter_list li (wpAny_bind (wpAny_runValue ?_))
      have lt : q < s.heap.objs.size := Heap.lt_size g1
      have hh3 : A.in1.in1.in1.handled = none := by simp [hh]
      have z1 : (s.heap.push (set0 w)).objs.size = s.heap.objs.size + 1 := Heap.size_push ..
      have ne1 : q ≠ (s.heap.push (set0 w)).objs.size := by
        rw [z1]
        exact Nat.ne_of_lt (Nat.lt_succ_of_lt lt)
      have ne2 : s.heap.objs.size ∉ [(s.heap.push (set0 w)).objs.size, q] := by
        rw [z1]
        simp only [List.mem_cons, List.mem_singleton, List.not_mem_nil, or_false, not_or]
        exact ⟨Nat.ne_of_lt (Nat.lt_succ_self _), Nat.ne_of_gt lt⟩
      have val : ∀ (i : Nat) (v : Value), items[i]? = some v → ∃ x u, xs[i]? = some x ∧ v = Value.str x u := fun i v hv => by
        have hi : i < xs.length := by
          have := (Array.getElem?_eq_some_iff.mp hv).1
          omega
        obtain ⟨t, e⟩ := SS.strs_at hx i v (by rw [Array.getElem?_toList]; exact hv)
        exact ⟨xs[i], t, List.getElem?_eq_getElem hi, by rw [e, List.getD_eq_getElem?_getD, List.getElem?_eq_getElem hi]; rfl⟩
      refine setS_loop ((Walks.list hh3 _ q ne1 items).toS) s.heap.objs.size ne2 xs hsz hb val (items.size - 0) 0 _ [] (by omega) ⟨⟨_, Heap.get?_push_size _ rfl, rfl, rfl⟩, li.push _⟩ (setS_fresh (Heap.get?_push_of_some _ at0)) ⟨.nil, fun x => by simp⟩ (Nat.le_refl 0) ?_
      intro s3 l mv r1 r2 r3
      obtain ⟨h3, g3, d3, t3, o3⟩ := s3
      obtain rfl : g3 = s.gens := mv.gens
      obtain rfl : d3 = s.drawn := mv.drawn
      obtain rfl : o3 = s.os := mv.os
      refine (show wpAny _ _ _ _ _ _ from wpAny_pure (show wpAny _ _ (ret Value.none) _ _ _ from wpAny_pure ⟨rfl, h3, t3, l, rfl, ⟨r1, r2, by omega⟩, fun b o e => ?_⟩))
      have lb : b < s.heap.objs.size := Heap.lt_size e
      refine mv.heap b o ?_ (Heap.get?_push_of_some _ (Heap.get?_push_of_some _ e))
      rw [z1]
      simp only [List.mem_cons, List.mem_singleton, List.not_mem_nil, or_false, not_or]
      exact ⟨Nat.ne_of_lt lb, Nat.ne_of_lt (Nat.lt_succ_of_lt lb)⟩
    · match r2, hr2 with
      | .error e, hr2 => exact hr2
      | .ok (.ret r), hr2 =>
        obtain ⟨rfl, h3, t3, l, rfl, ⟨r1, r2, r3⟩, kp⟩ := hr2
        repeat (any_goals (first | assumption | wp_step))
        exact fin _ _ l r1 r2 r3 kp
      | .ok .next, hr2 => exact hr2.elim
      | .ok .brk, hr2 => exact hr2.elim
      | .ok .cont, hr2 => exact hr2.elim
  | .ok .next, hr => exact hr.elim
  | .ok .brk, hr => exact hr.elim
  | .ok .cont, hr => exact hr.elim
end
end U

set_option Elab.async false
set_option linter.all false
set_option maxRecDepth 100000
set_option maxHeartbeats 4000000
/-! sets of texts, sorted; both as rules -/
namespace U
open PySem PySem.Spec PyProof.Rows L2
theorem texts_of {w : World} : ∀ (vs : List Value), (∀ v ∈ vs, ∃ x u, v = Value.str x u) → StrsAre vs (vs.map fun v => textOf (0, v))
  | [], _ => .nil
  | v :: r, h => by
    obtain ⟨x, u, rfl⟩ := h v List.mem_cons_self
    exact .cons x u (texts_of (w := w) r fun y hy => h y (List.mem_cons_of_mem _ hy))
section
variable {P : Program} {w : World} {A : Around} {E : Value → Shared → Prop} {s : Shared} {a : Addr}
theorem sorted_setS {l : List Str} {Q : Value → Shared → Prop} (R : SetS w s.heap a l) (hh : A.handled = none) (h64 : l.length < 64)
    (fin : ∀ s' p (out : Array Value) (c : Nat) (ys : List Str), (∀ b o, s.heap.get? b = some o → s'.heap.get? b = some o) → s'.gens = s.gens → s'.os = s.os → s.heap.objs.size ≤ p →
      s'.heap.get? p = some (seqObj "list" out c) → StrsAre out.toList ys → ys.Perm l → sortedS ys = true → Q (.ref p) s') :
    wpAny (model P w) A (call (.builtin "sorted") [.ref a]) Q E s := by
  obtain ⟨ob, es, ep, tb, ⟨o1, o2, o3⟩, ⟨e1, e2, e3⟩, ⟨e4, e5⟩, e6, e7⟩ := R
  refine Calls.call_function_entry kind_sorted plain_sorted entry_sorted (args_sorted1 _) ?_
  unfold Builtin.«sorted»
  refine wpAny_bind (m := checkCount "sorted" 1 1 _) (wpAny_pure (wpAny_bind (collect_set (A := A.in1) hh ⟨ob, o1, o2.1, o3⟩ e5 e4 e6 e7 fun s1 vs k1 z1 g1 p1 pm => ?_)))
  have len : vs.length = l.length := by
    have q1 := pm.length_eq
    have q2 := e2.length_eq
    simp only [List.length_map] at q1 q2
    omega
  have tx : StrsAre vs (vs.map fun v => textOf (0, v)) := texts_of (w := w) vs fun v hv => by
    obtain ⟨e, he, q⟩ := List.mem_map.mp (pm.mem_iff.mp hv)
    obtain ⟨x, u, h1, _⟩ := e1 e he
    exact ⟨x, u, q ▸ h1⟩
  have pl : (vs.map fun v => textOf (0, v)).Perm l := by
    have q := pm.map fun v => textOf (0, v)
    rw [List.map_map] at q
    exact q.trans e2
  refine wpAny_bind (wpAny_newList ?_ (by rw [len, sizeLine_eq]; omega))
  have at1 : (s1.heap.push (seqObj "list" vs.toArray 0)).get? s1.heap.objs.size = some (seqObj "list" vs.toArray 0) := Heap.get?_push_size _ rfl
  refine wpAny_bind (wpAny_holding (wpAny_call_entry slot_list_sort ⟨_, at1, rfl⟩ entry_list_sort
    (list_sort_treeK strKind_oneLt at1 tx.keysOf (fun v₁ v₂ rest e => keyKind_strs (by rw [← e]; exact tx)) (by rw [len]; exact h64) fun st' hp hs => ?_) (args_list_sort _)))
  obtain ⟨ys, y1, y2, y3⟩ := sorted_out_str tx hp hs
  obtain ⟨c, hc⟩ := sortedHeap_at (vs := vs) (out := (arrOf st').map (·.2)) at1
  refine ⟨_, rfl, wpAny_pure ⟨_, rfl, fin _ s1.heap.objs.size _ c ys (fun b u e => ?_) g1 p1 z1 hc y1 (y2.trans pl) y3⟩⟩
  have old := k1 b u e
  have lt := Heap.lt_size old
  exact (sortedHeap_old (Nat.ne_of_lt lt) (by rw [size_push']; exact Nat.lt_succ_of_lt lt)).trans (Heap.get?_push_of_some _ old)
end
/-! ### as rules -/
/-- the set of these texts at a -/
def SetSO (w : World) (a : Addr) (l : List Str) : HO := .ext fun h => SetS w h a l
theorem setSO_ok {w : World} {P : Program} {H : Hp} {h : Heap} {a : Addr} {l : List Str} (R : SetS w h a l) : ObjOk P w H h a (SetSO w a l) := by
  refine ⟨R, ?_, fun h1 h2 p k => p.moved k⟩
  obtain ⟨ob, _, _, _, ⟨e, _⟩, _⟩ := R
  exact ⟨ob, e⟩
section
variable {X : Cx}
/-- set(xs), xs a list of texts -/
def rSetOf (K : PySem.W.Frag) (w : World) : List V → Hp → VK → Prop := fun vs H Q => ∃ (q : Addr) (xs : List Str), vs = [V.ref q] ∧ SqL K H q (xs.map V.str) ∧ xs.length + 1 < scanBound ∧ ∀ p l, Same1 l xs → l.length ≤ xs.length → H p = none → Q (.ref p) (upd H p (SetSO w p l))
theorem cr_setOf (hc : X.calm = true) : CallR X (.type "set") (rSetOf X.K X.w) := by
  intro pins s σ H vs us Q I r h
  obtain ⟨q, xs, rfl, hq, hb, go⟩ := h
  obtain ⟨its, rv, li, _⟩ := I.list hq
  rw [Vals.ref1 r]
  refine call_set_texts (I.ok.hd hc) li.isList (by simpa using strsAre_of rv) hb fun h' tk l r1 r2 r3 kp => ?_
  have fr : H s.heap.objs.size = none := I.hok.fresh (Nat.le_refl _)
  exact ⟨.ref _, upd H s.heap.objs.size (SetSO X.w s.heap.objs.size l), I.laid (t' := tk) kp (Nat.le_refl _) (setSO_ok r1), rfl, go _ l r2 r3 fr⟩
/-- sorted(found), a set of fewer than 64 texts -/
def rSortedOf (w : World) : List V → Hp → VK → Prop := fun vs H Q => ∃ (a : Addr) (l : List Str), vs = [V.ref a] ∧ H a = some (SetSO w a l) ∧ l.length < 64 ∧ ∀ (ys : List Str) (p : Addr), ys.Perm l → sortedS ys = true → H p = none → Q (.ref p) (upd H p (.lst (ys.map V.str)))
theorem cr_sortedOf (hc : X.calm = true) : CallR X (.builtin "sorted") (rSortedOf X.w) := by
  intro pins s σ H vs us Q I r h
  obtain ⟨a, l, rfl, ha, h64, go⟩ := h
  rw [Vals.ref1 r]
  refine sorted_setS (I.hok a _ ha).1 (I.ok.hd hc) h64 fun s' p out c ys k g o hp at' st pm so => ?_
  have fr : H p = none := I.hok.fresh hp
  have sz : (ys.map V.str).length ≤ sizeLine := by
    rw [List.length_map, pm.length_eq, sizeLine_eq]
    omega
  obtain ⟨h1, g1, d1, t1, o1⟩ := s'
  obtain rfl : o1 = s.os := o
  refine ⟨.ref p, upd H p (.lst (ys.map V.str)), ?_, rfl, go ys p pm so fr⟩
  exact I.call (ch := []) (Un.laid k hp fr) (I.hok.laid k hp ⟨sz, out.toList, c, vals_of_strs st, at'⟩) (by rw [show g1 = s.gens from g]; exact I.bare) (fun _ z => nomatch z)
end
end U

set_option Elab.async false
set_option linter.all false
set_option maxRecDepth 100000
set_option maxHeartbeats 4000000
namespace U
open PySem PySem.Spec PyProof.Rows L2
open Sem (wp)
open Builtin
theorem ext_tup (l b : Addr) (items items2 : Array Value) (n n2 : Nat) (dd : Option Addr) (sl : Array (Option Value)) (h1 : ¬(!items.isEmpty && Builtin.List.listTooLong (items.size + items2.size)) = true) (h2 : items.size ≤ sizeLine) (h3 : items.size + items2.size ≤ sizeLine) :
    Meets (Builtin.«list.extend» ⟨[.ref l, .ref b], []⟩) (fun _ R s => s.heap.get? l = some { cls := .type "list", dict := none, data := .seq items n, slots := #[] } ∧
      s.heap.get? b = some { cls := .type "tuple", dict := dd, data := .seq items2 n2, slots := sl } ∧ R (.ok (.ret Value.none)) { s with heap := s.heap.update l (Obj.mapSeq fun x => x ++ items2), toks := s.toks }) := by
  refine .of_wp fun prog w A R s h => ?_
  have sz : (items ++ items2).size ≤ sizeLine + 1 := by
    rw [Array.size_append]
    omega
  obtain ⟨hp, gg, dr, tk, os⟩ := s
  obtain ⟨e1, e2, r⟩ := h
  have g1 := PySem.AutoSeq1.idx_int
  have g2 := PySem.AutoSeq1.sub_tuple_tuple
  have g3 := PySem.AutoSeq1.sub_list_list
  have g4 := PySem.AutoSeq1.sub_tuple_list
  have g5 := PySem.AutoSeq1.sub_list_tuple
  wp_walk using (wpAny_updateSeq e1 rfl (hz := h2) (_hz' := sz)), PySem.AutoSeq1.wpAny_loadPart' e2
  exact ⟨_, rfl, r⟩
section
variable {X : Cx}
def rExtendT (K : PySem.W.Frag) : V → List V → Hp → VK → Prop := fun x vs H Q => ∃ l b xs zs, x = .ref l ∧ vs = [.ref b] ∧ H l = some (.lst xs) ∧ SqT K H b zs ∧ xs.length + zs.length ≤ sizeLine ∧ Q .non (upd H l (.lst (xs ++ zs)))
/-- xs.extend(t), t a tuple -/
theorem mt_extendT : MtR X "list.extend" (rExtendT X.K) := by
  intro pins s σ H x vs v us Q I rx rv h
  obtain ⟨l, b, xs, zs, rfl, rfl, hl, hb, hz, q⟩ := h
  cases rx
  obtain ⟨u, rfl, ru⟩ := rv.one
  cases ru
  obtain ⟨z1, its, n, r, len, e⟩ := I.lstM hl
  obtain ⟨its2, r2, ⟨⟨c2, dd, d2, sl⟩, g2, k2, n2, k3⟩, _⟩ := I.tuple hb
  simp only at k2 k3
  subst k2
  subst k3
  have len2 := r2.length
  have sz : its.toArray.size + its2.toArray.size ≤ sizeLine := by
    rw [List.size_toArray, List.size_toArray]
    omega
  refine call_meets PySem.F.slot_list_extend ⟨_, e, rfl⟩ PySem.F.entry_list_extend (PySem.F.args_list_extend_2 _ _) (ext_tup l b its.toArray its2.toArray n n2 dd sl ?_ (by omega) sz) ⟨e, g2, ?_⟩
  · rw [notLongL sz, Bool.and_false]
    exact Bool.false_ne_true
  · refine ⟨.non, _, I.lset (its' := its ++ its2) hl e (by simp) (r.append r2) ?_, rfl, q⟩
    rw [List.length_append]
    omega
/-- xs[-1], to be put anew -/
def rLast (K : PySem.W.Frag) : V → V → Hp → VK → Prop := fun x y H Q => ∃ p xs v, x = .ref p ∧ y = .int (-1) ∧ SqL K H p (xs ++ [v]) ∧ Q v H
theorem get_last : PGet X (rLast X.K) := by
  intro pins s σ H x y ov iv Q I rx ry h
  obtain ⟨p, xs, v, rfl, rfl, hp, q⟩ := h
  cases rx
  obtain ⟨t, rfl⟩ := ry
  obtain ⟨its, r, li, hz⟩ := I.list hp
  have len := r.length
  rw [List.length_append, List.length_singleton] at len
  obtain ⟨u, hu, ru⟩ := r.get (i := xs.length) (x := v) (by simp)
  have e : (-1 + (its.toArray.size : Int)).toNat = xs.length := by
    rw [List.size_toArray]
    omega
  exact wpAny_getItem_list_neg li.isList (by decide) (by rw [List.size_toArray]; omega) (by decide) (by rw [e]; simpa using hu) ⟨v, H, I, ru, q⟩
end
/-- a list's last place -/
theorem atI_end {α : Type} (xs : List α) (v : α) : atI (xs ++ [v]) (-1) = some v := by
  have h : ixN (xs ++ [v]).length (-1) = some xs.length := by
    unfold ixN
    rw [if_neg (by decide), if_pos (by simp; omega)]
    simp
    omega
  unfold atI
  rw [h]
  show (xs ++ [v])[xs.length]? = some v
  simp
theorem ixN_end {α : Type} (xs : List α) (v : α) : ixN (xs ++ [v]).length (-1) = some xs.length := by
  unfold ixN
  rw [if_neg (by decide), if_pos (by simp; omega)]
  simp
  omega
theorem set_end {α : Type} (xs : List α) (v y : α) : (xs ++ [v]).set xs.length y = xs ++ [y] := by simp
theorem Paired.app {α β : Type} {F : α → β → Prop} : ∀ {a : List α} {b : List β} {c : List α} {d : List β}, Paired F a b → Paired F c d → Paired F (a ++ c) (b ++ d)
  | _, _, _, _, .nil, h => h
  | _, _, _, _, .cons r t, h => .cons r (Paired.app t h)
theorem Paired.at_ {α β : Type} {F : α → β → Prop} : ∀ {a : List α} {b : List β} {i : Nat} {y : β}, Paired F a b → b[i]? = some y → ∃ x, a[i]? = some x ∧ F x y
  | _, _, i, _, .nil, h => by simp at h
  | _, _, 0, _, .cons (a := x) r t, h => by
    simp at h
    subst h
    exact ⟨x, rfl, r⟩
  | _, _, i + 1, _, .cons r t, h => by
    obtain ⟨x, h1, h2⟩ := Paired.at_ (i := i) t (by simpa using h)
    exact ⟨x, by simpa using h1, h2⟩
/-- all but what stands at p is as it was -/
def But (p : Addr) (H H' : Hp) : Prop := ∀ b o, H b = some o → b ≠ p → H' b = some o
theorem But.refl (p : Addr) (H : Hp) : But p H H := fun _ _ e _ => e
theorem But.trans {p : Addr} {H H1 H2 : Hp} (a : But p H H1) (b : But p H1 H2) : But p H H2 := fun c o e n => b c o (a c o e n) n
theorem But.of_same {p : Addr} {H H' : Hp} (s : Same H H') : But p H H' := fun b o e _ => s b o e
theorem But.upd {p : Addr} {H : Hp} {o : HO} : But p H (upd H p o) := fun b u e n => by
  rw [upd_ne n]
  exact e
theorem But.same {p : Addr} {H0 H H' : Hp} (h : But p H H') (s : Same H0 H) (n : H0 p = none) : Same H0 H' := fun b o e => h b o (s b o e) (ne_of_none e n)
end U

set_option Elab.async false
set_option linter.all false
set_option maxRecDepth 100000
set_option maxHeartbeats 4000000
namespace K
open PySem PySem.Spec PyProof.Rows L2 U
def topS (i : Nat) : Stmt := PySem.Challenge.pw_unwritparts_k06_whole_terms_put_together.main.body.getD i (.Pass ⟨0, 0, 0, 0⟩)
abbrev s_NoTerm___init__ : Stmt := inClass (topS 1) 0
abbrev nm_NoTerm___init__ : List Str := ["self", "spot"]
theorem sc_NoTerm___init__ : FnScope nm_NoTerm___init__ ["self", "spot"] (defScope s_NoTerm___init__) := ⟨rfl, rfl, rfl, by decide +kernel, rfl, by decide +kernel, by decide +kernel⟩
abbrev s_TooMuch___init__ : Stmt := inClass (topS 2) 0
abbrev nm_TooMuch___init__ : List Str := ["self", "what"]
theorem sc_TooMuch___init__ : FnScope nm_TooMuch___init__ ["self", "what"] (defScope s_TooMuch___init__) := ⟨rfl, rfl, rfl, by decide +kernel, rfl, by decide +kernel, by decide +kernel⟩
abbrev s_Tree___init__ : Stmt := inClass (topS 16) 0
abbrev nm_Tree___init__ : List Str := ["self", "text", "kind", "small", "within"]
theorem sc_Tree___init__ : FnScope nm_Tree___init__ ["self", "text", "kind", "small", "within"] (defScope s_Tree___init__) := ⟨rfl, rfl, rfl, by decide +kernel, rfl, by decide +kernel, by decide +kernel⟩
abbrev s_free_in : Stmt := topS 17
abbrev nm_free_in : List Str := ["tree", "found", "inner", "small"]
theorem sc_free_in : FnScope nm_free_in ["tree"] (defScope s_free_in) := ⟨rfl, rfl, rfl, by decide +kernel, rfl, by decide +kernel, by decide +kernel⟩
abbrev s_all_trees : Stmt := topS 18
abbrev nm_all_trees : List Str := ["tree", "found", "at", "within"]
theorem sc_all_trees : FnScope nm_all_trees ["tree"] (defScope s_all_trees) := ⟨rfl, rfl, rfl, by decide +kernel, rfl, by decide +kernel, by decide +kernel⟩
abbrev s_run_end : Stmt := topS 19
abbrev nm_run_end : List Str := ["text", "at", "signs", "most", "end"]
theorem sc_run_end : FnScope nm_run_end ["text", "at", "signs", "most"] (defScope s_run_end) := ⟨rfl, rfl, rfl, by decide +kernel, rfl, by decide +kernel, by decide +kernel⟩
abbrev s_behind : Stmt := topS 20
abbrev nm_behind : List Str := ["text", "at", "sign"]
theorem sc_behind : FnScope nm_behind ["text", "at", "sign"] (defScope s_behind) := ⟨rfl, rfl, rfl, by decide +kernel, rfl, by decide +kernel, by decide +kernel⟩
abbrev s_number_end : Stmt := topS 21
abbrev nm_number_end : List Str := ["text", "at", "first", "second"]
theorem sc_number_end : FnScope nm_number_end ["text", "at"] (defScope s_number_end) := ⟨rfl, rfl, rfl, by decide +kernel, rfl, by decide +kernel, by decide +kernel⟩
abbrev s_word_end : Stmt := topS 22
abbrev nm_word_end : List Str := ["text", "at", "end", "longer", "word"]
theorem sc_word_end : FnScope nm_word_end ["text", "at"] (defScope s_word_end) := ⟨rfl, rfl, rfl, by decide +kernel, rfl, by decide +kernel, by decide +kernel⟩
abbrev s_small_end : Stmt := topS 23
abbrev nm_small_end : List Str := ["text", "at", "end"]
theorem sc_small_end : FnScope nm_small_end ["text", "at"] (defScope s_small_end) := ⟨rfl, rfl, rfl, by decide +kernel, rfl, by decide +kernel, by decide +kernel⟩
abbrev s_bracket_at : Stmt := topS 24
abbrev nm_bracket_at : List Str := ["text", "at", "end", "word", "start"]
theorem sc_bracket_at : FnScope nm_bracket_at ["text", "at"] (defScope s_bracket_at) := ⟨rfl, rfl, rfl, by decide +kernel, rfl, by decide +kernel, by decide +kernel⟩
abbrev s_piece_at : Stmt := topS 25
abbrev nm_piece_at : List Str := ["text", "at", "sign"]
theorem sc_piece_at : FnScope nm_piece_at ["text", "at"] (defScope s_piece_at) := ⟨rfl, rfl, rfl, by decide +kernel, rfl, by decide +kernel, by decide +kernel⟩
abbrev s_pieces_of : Stmt := topS 26
abbrev nm_pieces_of : List Str := ["text", "pieces", "lacking", "at", "piece"]
theorem sc_pieces_of : FnScope nm_pieces_of ["text"] (defScope s_pieces_of) := ⟨rfl, rfl, rfl, by decide +kernel, rfl, by decide +kernel, by decide +kernel⟩
abbrev s_check_size : Stmt := topS 27
abbrev nm_check_size : List Str := ["pieces", "opened", "terms", "deepest", "piece"]
theorem sc_check_size : FnScope nm_check_size ["pieces"] (defScope s_check_size) := ⟨rfl, rfl, rfl, by decide +kernel, rfl, by decide +kernel, by decide +kernel⟩
abbrev s_built : Stmt := topS 28
abbrev nm_built : List Str := ["text", "pieces", "opened", "rows", "piece", "kind", "begin", "end", "small", "within", "_"]
theorem sc_built : FnScope nm_built ["text", "pieces"] (defScope s_built) := ⟨rfl, rfl, rfl, by decide +kernel, rfl, by decide +kernel, by decide +kernel⟩
abbrev s_tree_of : Stmt := topS 29
abbrev nm_tree_of : List Str := ["text", "pieces"]
theorem sc_tree_of : FnScope nm_tree_of ["text"] (defScope s_tree_of) := ⟨rfl, rfl, rfl, by decide +kernel, rfl, by decide +kernel, by decide +kernel⟩
abbrev s_Term___init__ : Stmt := inClass (topS 31) 0
abbrev nm_Term___init__ : List Str := ["self", "text"]
theorem sc_Term___init__ : FnScope nm_Term___init__ ["self", "text"] (defScope s_Term___init__) := ⟨rfl, rfl, rfl, by decide +kernel, rfl, by decide +kernel, by decide +kernel⟩
abbrev s_Term_form : Stmt := inClass (topS 31) 1
abbrev nm_Term_form : List Str := ["self"]
theorem sc_Term_form : FnScope nm_Term_form ["self"] (defScope s_Term_form) := ⟨rfl, rfl, rfl, by decide +kernel, rfl, by decide +kernel, by decide +kernel⟩
abbrev s_Term_inner : Stmt := inClass (topS 31) 2
abbrev nm_Term_inner : List Str := ["self", "tree"]
theorem sc_Term_inner : FnScope nm_Term_inner ["self"] (defScope s_Term_inner) := ⟨rfl, rfl, rfl, by decide +kernel, rfl, by decide +kernel, by decide +kernel⟩
abbrev s_Term_bound : Stmt := inClass (topS 31) 3
abbrev nm_Term_bound : List Str := ["self"]
theorem sc_Term_bound : FnScope nm_Term_bound ["self"] (defScope s_Term_bound) := ⟨rfl, rfl, rfl, by decide +kernel, rfl, by decide +kernel, by decide +kernel⟩
abbrev s_Term_free_names : Stmt := inClass (topS 31) 4
abbrev nm_Term_free_names : List Str := ["self"]
theorem sc_Term_free_names : FnScope nm_Term_free_names ["self"] (defScope s_Term_free_names) := ⟨rfl, rfl, rfl, by decide +kernel, rfl, by decide +kernel, by decide +kernel⟩
abbrev s_Term_part_names : Stmt := inClass (topS 31) 5
abbrev nm_Term_part_names : List Str := ["self", "tree"]
theorem sc_Term_part_names : FnScope nm_Term_part_names ["self"] (defScope s_Term_part_names) := ⟨rfl, rfl, rfl, by decide +kernel, rfl, by decide +kernel, by decide +kernel⟩
abbrev s_Term_tree : Stmt := inClass (topS 31) 6
abbrev nm_Term_tree : List Str := ["self"]
theorem sc_Term_tree : FnScope nm_Term_tree ["self"] (defScope s_Term_tree) := ⟨rfl, rfl, rfl, by decide +kernel, rfl, by decide +kernel, by decide +kernel⟩
abbrev s_Term___eq__ : Stmt := inClass (topS 31) 7
abbrev nm_Term___eq__ : List Str := ["self", "other"]
theorem sc_Term___eq__ : FnScope nm_Term___eq__ ["self", "other"] (defScope s_Term___eq__) := ⟨rfl, rfl, rfl, by decide +kernel, rfl, by decide +kernel, by decide +kernel⟩
abbrev s_Term___len__ : Stmt := inClass (topS 31) 8
abbrev nm_Term___len__ : List Str := ["self"]
theorem sc_Term___len__ : FnScope nm_Term___len__ ["self"] (defScope s_Term___len__) := ⟨rfl, rfl, rfl, by decide +kernel, rfl, by decide +kernel, by decide +kernel⟩
abbrev s_Term___str__ : Stmt := inClass (topS 31) 9
abbrev nm_Term___str__ : List Str := ["self"]
theorem sc_Term___str__ : FnScope nm_Term___str__ ["self"] (defScope s_Term___str__) := ⟨rfl, rfl, rfl, by decide +kernel, rfl, by decide +kernel, by decide +kernel⟩
abbrev s_Term___repr__ : Stmt := inClass (topS 31) 10
abbrev nm_Term___repr__ : List Str := ["self"]
theorem sc_Term___repr__ : FnScope nm_Term___repr__ ["self"] (defScope s_Term___repr__) := ⟨rfl, rfl, rfl, by decide +kernel, rfl, by decide +kernel, by decide +kernel⟩
abbrev s__law_purse : Stmt := topS 33
abbrev nm__law_purse : List Str := ["_law_script", "_law_at", "_law_cell", "_law_far"]
theorem sc__law_purse : FnScope nm__law_purse ["_law_script", "_law_at"] (defScope s__law_purse) := ⟨rfl, rfl, rfl, by decide +kernel, rfl, by decide +kernel, by decide +kernel⟩
abbrev s__law_take : Stmt := topS 34
abbrev nm__law_take : List Str := ["_law_purse_here", "_law_many", "_law_digit", "_law_primes", "_law_step", "_law_base", "_law_mixed"]
theorem sc__law_take : FnScope nm__law_take ["_law_purse_here", "_law_many"] (defScope s__law_take) := ⟨rfl, rfl, rfl, by decide +kernel, rfl, by decide +kernel, by decide +kernel⟩
abbrev s__law_names : Stmt := topS 35
abbrev nm__law_names : List Str := ["_law_purse_here", "_law_many", "_law_signs", "_law_wide", "_law_base", "_law_at", "_law_first", "_law_k"]
theorem sc__law_names : FnScope nm__law_names ["_law_purse_here", "_law_many", "_law_signs", "_law_wide"] (defScope s__law_names) := ⟨rfl, rfl, rfl, by decide +kernel, rfl, by decide +kernel, by decide +kernel⟩
abbrev s__law_number : Stmt := topS 36
abbrev nm__law_number : List Str := ["_law_purse_here", "_law_way", "_law_far"]
theorem sc__law_number : FnScope nm__law_number ["_law_purse_here"] (defScope s__law_number) := ⟨rfl, rfl, rfl, by decide +kernel, rfl, by decide +kernel, by decide +kernel⟩
abbrev s__law_tree : Stmt := topS 37
abbrev nm__law_tree : List Str := ["_law_purse_here", "_law_smalls", "_law_greats", "_law_deep", "_law_way", "_law_text", "_law_form", "_law_bound", "_law_many", "_law_inner", "_law_words", "_law_k", "_law_one"]
theorem sc__law_tree : FnScope nm__law_tree ["_law_purse_here", "_law_smalls", "_law_greats", "_law_deep"] (defScope s__law_tree) := ⟨rfl, rfl, rfl, by decide +kernel, rfl, by decide +kernel, by decide +kernel⟩
abbrev s__law_drawn : Stmt := topS 38
abbrev nm__law_drawn : List Str := ["_law_purse_here", "_law_smalls", "_law_greats"]
theorem sc__law_drawn : FnScope nm__law_drawn ["_law_purse_here"] (defScope s__law_drawn) := ⟨rfl, rfl, rfl, by decide +kernel, rfl, by decide +kernel, by decide +kernel⟩
abbrev s__law_union : Stmt := topS 39
abbrev nm__law_union : List Str := ["_law_rows", "_law_found", "_law_row", "_law_name"]
theorem sc__law_union : FnScope nm__law_union ["_law_rows"] (defScope s__law_union) := ⟨rfl, rfl, rfl, by decide +kernel, rfl, by decide +kernel, by decide +kernel⟩
abbrev s__law_names_right : Stmt := topS 40
abbrev nm__law_names_right : List Str := ["_law_term", "_law_inner", "_law_rows", "_law_parts", "_law_one", "_law_name"]
theorem sc__law_names_right : FnScope nm__law_names_right ["_law_term", "_law_inner"] (defScope s__law_names_right) := ⟨rfl, rfl, rfl, by decide +kernel, rfl, by decide +kernel, by decide +kernel⟩
abbrev s__law_whole : Stmt := topS 41
abbrev nm__law_whole : List Str := ["_law_term", "_law_inner", "_law_bound", "_law_words", "_law_text", "_law_one"]
theorem sc__law_whole : FnScope nm__law_whole ["_law_term"] (defScope s__law_whole) := ⟨rfl, rfl, rfl, by decide +kernel, rfl, by decide +kernel, by decide +kernel⟩
abbrev s__law_chain : Stmt := topS 42
abbrev nm__law_chain : List Str := ["_law_purse_here", "_law_atoms", "_law_many", "_law_text", "_law_k", "_law_way", "_law_atom", "_law_heads"]
theorem sc__law_chain : FnScope nm__law_chain ["_law_purse_here", "_law_atoms", "_law_many"] (defScope s__law_chain) := ⟨rfl, rfl, rfl, by decide +kernel, rfl, by decide +kernel, by decide +kernel⟩
abbrev s_law : Stmt := topS 43
abbrev nm_law : List Str := ["_law_script", "_law_k", "_law_purse_here", "_law_node", "_law_small", "_law_atoms", "_law_text", "_law_term"]
theorem sc_law : FnScope nm_law ["_law_script"] (defScope s_law) := ⟨rfl, rfl, rfl, by decide +kernel, rfl, by decide +kernel, by decide +kernel⟩
structure TxtB (K : PySem.W.Frag) (mg : Str → Option Value) : Prop where
  z_OverflowError : mg "OverflowError" = none
  z_ValueError : mg "ValueError" = none
  z_abs : mg "abs" = none
  z_all : mg "all" = none
  z_any : mg "any" = none
  z_int : mg "int" = none
  z_isinstance : mg "isinstance" = none
  z_len : mg "len" = none
  z_list : mg "list" = none
  z_max : mg "max" = none
  z_min : mg "min" = none
  z_range : mg "range" = none
  z_set : mg "set" = none
  z_sorted : mg "sorted" = none
  z_str : mg "str" = none
  z_sum : mg "sum" = none
  z_tuple : mg "tuple" = none
  g_CLOSE : ∃ t, mg "CLOSE" = some (.str (Str.ofString ")") t)
  g_FIGURES : ∃ t, mg "FIGURES" = some (.str (Str.ofString "0123456789") t)
  g_FIRST_FIGURES : ∃ t, mg "FIRST_FIGURES" = some (.str (Str.ofString "123456789") t)
  g_GREAT : ∃ t, mg "GREAT" = some (.str (Str.ofString "ABCDEFGHIJKLMNOPQRSTUVWXYZ") t)
  g_MOST_FIGURES : ∃ t, mg "MOST_FIGURES" = some (.int 12 t)
  g_MOST_GREAT : ∃ t, mg "MOST_GREAT" = some (.int 6 t)
  g_MOST_OPEN : ∃ t, mg "MOST_OPEN" = some (.int 30 t)
  g_MOST_SMALL : ∃ t, mg "MOST_SMALL" = some (.int 4 t)
  g_MOST_TERMS : ∃ t, mg "MOST_TERMS" = some (.int 200 t)
  g_SMALL : ∃ t, mg "SMALL" = some (.str (Str.ofString "abcdefghijklmnopqrstuvwxyz") t)
/-- the words' table -/
def wkv : List (Str × Int) := Wd.all.map fun w => (tx w.cs, (w.ar : Int))
structure Txt (K : PySem.W.Frag) (mg : Str → Option Value) (w : World) (dW dB : Addr) (esW : Array DictEntry) (nW : Nat) : Prop extends TxtB K mg where
  gW : mg "WORDS" = some (.ref dW)
  W : KTab K w dW esW nW wkv
  gB : mg "BINDERS" = some (.ref dB)
  B : ∀ H, SqT K H dB [.str (Str.ofString "let"), .str (Str.ofString "def")]
/-! ### cuts, signs -/
theorem cut_tx (t : List Nat) (a b : Nat) : cutS (tx t) (some (a : Int)) (some (b : Int)) = tx ((t.drop a).take (b - a)) := by
  unfold cutS
  rw [HT.sIx_nat, HT.sIx_nat, tx_len, tx_cps]
  refine congrArg (fun l : List Nat => tx l) ?_
  by_cases h1 : a ≤ t.length
  · rw [Nat.min_eq_left h1]
    by_cases h2 : b ≤ t.length
    · rw [Nat.min_eq_left h2]
    · rw [Nat.min_eq_right (by omega), List.take_of_length_le (by rw [List.length_drop]; omega), List.take_of_length_le (by rw [List.length_drop]; omega)]
  · rw [Nat.min_eq_right (show t.length ≤ a by omega), show t.drop t.length = [] from List.drop_eq_nil_of_le (Nat.le_refl _), show t.drop a = [] from List.drop_eq_nil_of_le (by omega)]
    simp
theorem cut_at {t l r : List Nat} {a : Nat} {x y : Int} (h : t.drop a = l ++ r) (hx : x = (a : Int)) (hy : y = ((a + l.length : Nat) : Int)) : cutS (tx t) (some x) (some y) = tx l := by
  rw [hx, hy, cut_tx, h, Nat.add_sub_cancel_left, List.take_left]
theorem at_tx {t : List Nat} {a c : Nat} {x : Int} (h : t[a]? = some c) (hx : x = (a : Int)) : atI (tx t).cps.toList x = some c := by
  rw [hx]
  exact atI_tx h
theorem str_eq (a b : List Nat) : decide (V.str (tx a) = V.str (tx b)) = decide (a = b) := decide_eq_decide.mpr ⟨fun h => tx_inj (V.str.inj h), fun h => by rw [h]⟩
def spRunEnd : Sp := fun vs H Q _ => ∃ (t s : List Nat) (a m : Nat), vs = [.str (tx t), .int a, .str (tx s), .int m] ∧ t.length ≤ sizeLine ∧ Q (.int ((a + runLen t s a m : Nat) : Int)) H
/-- the sign that must stand there stands there -/
def spBehind : Sp := fun vs H Q _ => ∃ (t : List Nat) (a c : Nat), vs = [.str (tx t), .int a, .str (tx [c])] ∧ t.length ≤ sizeLine ∧ t[a]? = some c ∧ Q (.int ((a + 1 : Nat) : Int)) H
def spNumEnd : Sp := fun vs H Q _ => ∃ (t l r : List Nat) (a : Nat), vs = [.str (tx t), .int a] ∧ t.length ≤ sizeLine ∧ t.drop a = l ++ r ∧ NumOk l ∧ Sep r ∧ Q (.int ((a + l.length : Nat) : Int)) H
def spSmallEnd : Sp := fun vs H Q _ => ∃ (t l r : List Nat) (a : Nat), vs = [.str (tx t), .int a] ∧ t.length ≤ sizeLine ∧ t.drop a = l ++ r ∧ SmallOk l ∧ Sep r ∧ Q (.int ((a + l.length : Nat) : Int)) H
theorem figs_tx : Str.ofString "0123456789" = tx figs := by decide +kernel
theorem figs1_tx : Str.ofString "123456789" = tx figs1 := by decide +kernel
theorem smalls_tx : Str.ofString "abcdefghijklmnopqrstuvwxyz" = tx smalls := by decide +kernel
theorem greats_tx : Str.ofString "ABCDEFGHIJKLMNOPQRSTUVWXYZ" = tx greats := by decide +kernel
theorem one_tx (c : Nat) : (⟨#[c]⟩ : Str) = tx [c] := rfl
section
variable {P : Program} {w : World} {K : PySem.W.Frag} {mg : Str → Option Value} {base : Heap} {dW dB : Addr} {esW : Array DictEntry} {nW : Nat} (T : Txt K mg w dW dB esW nW)
include T
theorem ok_run_end {f : Addr} {fd : FuncData} (F : Fun K "run_end" "run_end" s_run_end f fd) : FnOk P w K mg base CX0 1 f fd ["text", "at", "signs", "most"] spRunEnd := by
  refine F.ok sc_run_end (fun vs H Q E h => ?_) (fun cdv A outer s H vs Q E hr h => ?_)
  · obtain ⟨t, s, a, m, rfl, _⟩ := h
    rfl
  · obtain ⟨t, z, a, m, rfl, hl, q⟩ := h
    refine ⟨_, (pss_cons (ps_set (i := 4) sc_run_end.nd rfl (.inl rfl) (pv 1))
      (pss_cons (ps_while PassesOwn.never (PW.pt (pw_and (pt_cmpR op_lt (pv 4) (pe_callB call_len_str (by rfl) T.z_len (by decide +kernel) (pa_cons (pv 0) pa_nil)) (nomark _)) (pw_and (pt_cmpR op_lt (pe_op op_sub (pv 4) (pv 1)) (pv 3) (nomark _)) (pw_and1 (pt_cmpR op_in_sign (pe_ix ix_str (pv 0) (pv 4) (fun _ _ => rfl)) (pv 2) (by rfl)))))) 
        (pss_one (ps_aug (i := 4) sc_run_end.nd rfl (.inl rfl) pe_int ip_add)))
      (pss_one (ps_ret (pv 4))))), ?_⟩
    refine ⟨_, rfl, fun m' σ H' => H' = H ∧ ∃ j, σ = [some (.str (tx t)), some (.int a), some (.str (tx z)), some (.int m), some (.int ((a + j : Nat) : Int))] ∧ j + m' = runLen t z a m, ⟨runLen t z a m, rfl, 0, rfl, Nat.zero_add _⟩, ?_⟩
    rintro m' σ H' ⟨rfl, j, rfl, hj⟩
    refine ⟨_, rfl, _, rfl, _, rfl, by rw [tx_len]; exact hl, _, _, rfl, rfl, _, rfl, ?_⟩
    rw [tx_len]
    have stop : ¬ j < runLen t z a m → Q (.int ((a + j : Nat) : Int)) H' := fun h => by
      have e : j = runLen t z a m := by omega
      rw [e]
      exact q
    refine ite2 (fun h1 => ?_) (fun h1 => ?_)
    · have h1 := of_decide_eq_true h1
      refine ⟨_, rfl, _, rfl, _, _, rfl, rfl, _, rfl, _, _, rfl, rfl, _, rfl, ?_⟩
      refine ite2 (fun h2 => ?_) (fun h2 => ?_)
      · have h2 := of_decide_eq_true h2
        have h3 : a + j < t.length := by omega
        refine ⟨_, rfl, _, rfl, _, _, t[a + j], rfl, rfl, by rw [tx_len]; exact hl, atI_tx (List.getElem?_eq_getElem h3), _, rfl, t[a + j], tx z, rfl, rfl, _, rfl, ?_⟩
        rw [tx_cps]
        refine ite2 (fun h4 => ?_) (fun h4 => ?_)
        · have h4 := of_decide_eq_true h4
          have h5 : j < runLen t z a m := by
            refine Nat.lt_of_le_of_ne (by omega) fun e => ?_
            obtain ⟨c, e1, e2⟩ := run_ends (t := t) (s := z) (a := a) (m := m) (by omega) (by omega)
            rw [← e, List.getElem?_eq_getElem h3] at e1
            exact e2 (Option.some.inj e1 ▸ h4)
          refine ⟨fun σ H'' => H'' = H' ∧ ∃ j', σ = [some (.str (tx t)), some (.int a), some (.str (tx z)), some (.int m), some (.int ((a + j' : Nat) : Int))] ∧ j' = j + 1, ?_, ?_⟩
          · rintro σ H'' ⟨rfl, j', rfl, rfl⟩
            exact ⟨m' - 1, by omega, rfl, j + 1, rfl, by omega⟩
          · exact ⟨_, rfl, _, _, rfl, rfl, rfl, j + 1, rfl, rfl⟩
        · have h4 : t[a + j] ∉ z := fun e => h4 (decide_eq_true e)
          refine ⟨_, rfl, stop fun e => ?_⟩
          obtain ⟨_, _, c, e1, e2⟩ := run_in e
          rw [List.getElem?_eq_getElem h3] at e1
          exact h4 (Option.some.inj e1 ▸ e2)
      · have h2 : ¬ (((a + j : Nat) : Int) - (a : Int) < (m : Int)) := fun e => h2 (decide_eq_true e)
        refine ⟨_, rfl, stop fun e => ?_⟩
        obtain ⟨_, e1, _⟩ := run_in e
        omega
    · have h1 : ¬ (((a + j : Nat) : Int) < (t.length : Int)) := fun e => h1 (decide_eq_true e)
      refine ⟨_, rfl, stop fun e => ?_⟩
      obtain ⟨e1, _, _⟩ := run_in e
      omega
theorem ok_behind {f : Addr} {fd : FuncData} (F : Fun K "behind" "behind" s_behind f fd) : FnOk P w K mg base CX0 1 f fd ["text", "at", "sign"] spBehind := by
  refine F.ok sc_behind (fun vs H Q E h => ?_) (fun cdv A outer s H vs Q E hr h => ?_)
  · obtain ⟨t, a, c, rfl, _⟩ := h
    rfl
  · obtain ⟨t, a, c, rfl, hl, hc, q⟩ := h
    refine ⟨_, (pss_cons (ps_if (pt_cmpR op_ne (pe_slice sl_str (pv 0) (po_some (pv 1)) (po_some (pe_op op_add (pv 1) pe_int))) (pv 2) (nomark _)) 
        (pss_one (ps_never)) pss_nil)
      (pss_one (ps_ret (pe_op op_add (pv 1) pe_int)))), ?_⟩
    have hd : t.drop a = [c] ++ t.drop (a + 1) := by
      have h1 : a < t.length := (List.getElem?_eq_some_iff.mp hc).1
      rw [List.drop_eq_getElem_cons h1, (List.getElem?_eq_some_iff.mp hc).2]
      rfl
    refine ⟨_, rfl, _, rfl, _, rfl, _, rfl, _, _, rfl, rfl, _, rfl, _, rfl, by rw [tx_len]; exact hl, _, rfl, rfl, _, rfl, ?_⟩
    refine iteNS (congrArg V.str (cut_at hd rfl rfl)) ?_
    exact ⟨_, rfl, _, _, rfl, rfl, q⟩
theorem ok_small_end {f fR : Addr} {fd fdR : FuncData} (F : Fun K "small_end" "small_end" s_small_end f fd) (h_run_end : Has P w K mg base "run_end" 1 ["text", "at", "signs", "most"] spRunEnd fR fdR) : FnOk P w K mg base CX0 2 f fd ["text", "at"] spSmallEnd := by
  refine F.ok sc_small_end (fun vs H Q E h => ?_) (fun cdv A outer s H vs Q E hr h => ?_)
  · obtain ⟨t, l, r, a, rfl, _⟩ := h
    rfl
  · obtain ⟨t, l, r, a, rfl, hl, hd, ⟨s1, s2, s3⟩, hs, q⟩ := h
    refine ⟨_, (pss_cons (ps_set (i := 2) sc_small_end.nd rfl (.inl rfl) (pe_callH h_run_end (hr.mono (by first | decide | omega)) (by rfl) (pa_cons (pv 0) (pa_cons (pv 1) (pa_cons (pe_globS (by rfl) T.g_SMALL) (pa_cons (pe_globI (by rfl) T.g_MOST_SMALL) pa_nil))))))
      (pss_cons (ps_if (pt_cmpR op_eq (pv 2) (pv 1) (nomark _)) 
        (pss_one (ps_never)) pss_nil)
      (pss_one (ps_ret (pv 2))))), ?_⟩
    have hrun : runLen t smalls a 4 = l.length := run_is hd s3 s2 (.inr (hs.not (by decide) (by decide)))
    refine ⟨_, rfl, _, rfl, t, smalls, a, 4, by rw [smalls_tx]; rfl, hl, ?_⟩
    rw [hrun]
    refine ⟨_, rfl, _, rfl, rfl, _, rfl, ?_⟩
    refine ite2 (fun h => ?_) (fun h => ⟨_, rfl, q⟩)
    have h := V.int.inj (of_decide_eq_true h)
    omega
theorem ok_number_end {f fR : Addr} {fd fdR : FuncData} (F : Fun K "number_end" "number_end" s_number_end f fd) (h_run_end : Has P w K mg base "run_end" 1 ["text", "at", "signs", "most"] spRunEnd fR fdR) : FnOk P w K mg base CX0 2 f fd ["text", "at"] spNumEnd := by
  refine F.ok sc_number_end (fun vs H Q E h => ?_) (fun cdv A outer s H vs Q E hr h => ?_)
  · obtain ⟨t, l, r, a, rfl, _⟩ := h
    rfl
  · obtain ⟨t, l, r, a, rfl, hl, hd, hn, hs, q⟩ := h
    refine ⟨_, (pss_cons (ps_if (pt_cmpR op_eq (pe_ix ix_str (pv 0) (pv 1) (fun _ _ => rfl)) pe_str (nomark _)) 
        (pss_one (ps_ret (pe_op op_add (pv 1) pe_int))) pss_nil)
      (pss_cons (ps_set (i := 2) sc_number_end.nd rfl (.inl rfl) (pe_ifExp (pt_cmpR op_eq (pe_ix ix_str (pv 0) (pv 1) (fun _ _ => rfl)) pe_str (nomark _)) (pe_op op_add (pv 1) pe_int) (pv 1)))
      (pss_cons (ps_set (i := 3) sc_number_end.nd rfl (.inl rfl) (pe_callH h_run_end (hr.mono (by first | decide | omega)) (by rfl) (pa_cons (pv 0) (pa_cons (pv 2) (pa_cons (pe_globS (by rfl) T.g_FIRST_FIGURES) (pa_cons pe_int pa_nil))))))
      (pss_cons (ps_if (pt_cmpR op_eq (pv 3) (pv 2) (nomark _)) 
        (pss_one (ps_never)) pss_nil)
      (pss_one (ps_ret (pe_callH h_run_end (hr.mono (by first | decide | omega)) (by rfl) (pa_cons (pv 0) (pa_cons (pv 3) (pa_cons (pe_globS (by rfl) T.g_FIGURES) (pa_cons (pe_op op_sub (pe_globI (by rfl) T.g_MOST_FIGURES) pe_int) pa_nil))))))))))), ?_⟩
    have z0 : Str.ofString "0" = tx [48] := by decide +kernel
    have zm : Str.ofString "-" = tx [45] := by decide +kernel
    have hls : (tx t).length ≤ sizeLine := by rw [tx_len]; exact hl
    rcases hn with rfl | ⟨d, ds, hld, h1, h2, h3⟩
    · have at0 := (drop_at hd).1
      refine ⟨_, rfl, _, rfl, _, _, 48, rfl, rfl, hls, atI_tx at0, rfl, _, rfl, ?_⟩
      rw [z0, one_tx, str_eq]
      refine iteT ⟨_, rfl, _, _, rfl, rfl, ?_⟩
      exact q
    · have d1 : 49 ≤ d ∧ d ≤ 57 := by
        unfold figs1 at h1
        obtain ⟨j, hj, rfl⟩ := List.mem_map.mp h1
        have := List.mem_range.mp hj
        omega
      have fin : ∀ b : Nat, t.drop b = d :: ds ++ r → runLen t figs1 b 1 = 1 ∧ runLen t figs (b + 1) 11 = ds.length := by
        intro b hb
        refine ⟨run_is (l := [d]) (r := ds ++ r) (by simpa using hb) (by simpa using h1) (Nat.le_refl 1) (.inl rfl), ?_⟩
        exact run_is (drop_more (l := [d]) (by simpa using hb)) h3 h2 (.inr (hs.not (by decide) (by decide)))
      have tail : ∀ b : Nat, t.drop b = d :: ds ++ r → a + l.length = b + 1 + ds.length → ∀ (x2 : Option V),
          tSeq (tAsg (tCall spRunEnd [] E0 (tCons (tVar 0) (tCons (tVar 2) (tCons (tC (V.str (Str.ofString "123456789"))) (tCons (tC (V.int 1)) tNil))))) (gName 3))
            (tSeq (tIfS (tTest (tOp rEq (tVar 3) (tVar 2))) tNever tNext)
              (tRet (tCall spRunEnd [] E0 (tCons (tVar 0) (tCons (tVar 3) (tCons (tC (V.str (Str.ofString "0123456789"))) (tCons (tOp (rI0 fun i j => V.int (i - j)) (tC (V.int 12)) (tC (V.int 1))) tNil)))))))
            { nx := fun x H' => Q V.non H', rt := Q } [some (.str (tx t)), some (.int a), some (.int b), x2] H := by
        intro b hb he x2
        obtain ⟨r1, r2⟩ := fin b hb
        refine ⟨_, rfl, _, rfl, t, figs1, b, 1, by rw [figs1_tx]; rfl, hl, ?_⟩
        rw [r1]
        refine ⟨_, rfl, _, rfl, rfl, _, rfl, ?_⟩
        refine ite2 (fun h => ?_) (fun h => ?_)
        · have h := V.int.inj (of_decide_eq_true h)
          omega
        · refine ⟨_, rfl, _, rfl, _, _, rfl, rfl, t, figs, b + 1, 11, by rw [figs_tx]; rfl, hl, ?_⟩
          rw [r2, ← he]
          exact q
      rcases hld with rfl | rfl
      · have at0 := (drop_at hd).1
        refine ⟨_, rfl, _, rfl, _, _, d, rfl, rfl, hls, atI_tx at0, rfl, _, rfl, ?_⟩
        rw [z0, one_tx, str_eq, decide_eq_false (by simp; omega)]
        refine iteF ⟨_, rfl, _, rfl, _, _, d, rfl, rfl, hls, atI_tx at0, rfl, _, rfl, ?_⟩
        rw [zm, one_tx, str_eq, decide_eq_false (by simp; omega)]
        refine iteF ⟨_, rfl, ?_⟩
        exact tail a hd (by simp; omega) _
      · have at0 := (drop_at hd).1
        refine ⟨_, rfl, _, rfl, _, _, 45, rfl, rfl, hls, atI_tx at0, rfl, _, rfl, ?_⟩
        rw [z0, one_tx, str_eq, decide_eq_false (by decide)]
        refine iteF ⟨_, rfl, _, rfl, _, _, 45, rfl, rfl, hls, atI_tx at0, rfl, _, rfl, ?_⟩
        rw [zm, one_tx, str_eq, decide_eq_true rfl]
        refine iteT ⟨_, rfl, _, _, rfl, rfl, ?_⟩
        exact tail (a + 1) (drop_more (l := [45]) hd) (by simp; omega) _
end
end K


set_option Elab.async false
set_option linter.all false
set_option maxRecDepth 100000
set_option maxHeartbeats 4000000
namespace K
open PySem PySem.Spec PyProof.Rows L2 U
theorem keys_eq : wkv.map (·.1) = Wd.all.map fun w => tx w.cs := by
  unfold wkv
  rw [List.map_map]
  rfl
theorem in_keys (l : List Nat) : (tx l ∈ wkv.map (·.1)) ↔ isWd l := by
  rw [keys_eq, List.mem_map]
  constructor
  · rintro ⟨w, _, e⟩
    exact ⟨w, (tx_inj e).symm⟩
  · rintro ⟨w, e⟩
    exact ⟨w, w.mem, by rw [e]⟩
theorem wd_short : ∀ w : Wd, ∀ j, j < w.cs.length → ¬ isWd (w.cs.take j) := by
  intro w
  cases w <;> decide
theorem wd_starts : ∀ w : Wd, ∀ j, j < w.cs.length → Txt.startswith (tx w.cs) (tx (w.cs.take (j + 1))) = true := by
  intro w
  cases w <;> decide +kernel
theorem wd_len : ∀ w : Wd, 1 ≤ w.cs.length ∧ w.cs.length ≤ 6 := by
  intro w
  cases w <;> decide
def spWordEnd : Sp := fun vs H Q _ => ∃ (t r : List Nat) (a : Nat) (w : Wd), vs = [.str (tx t), .int a] ∧ t.length ≤ sizeLine ∧ t.drop a = w.cs ++ r ∧ ∀ H', Same H H' → Q (.int ((a + w.cs.length : Nat) : Int)) H'
section
variable {P : Program} {w : World} {K : PySem.W.Frag} {mg : Str → Option Value} {base : Heap} {dW dB : Addr} {esW : Array DictEntry} {nW : Nat} (T : Txt K mg w dW dB esW nW)
include T
theorem ok_word_end {f : Addr} {fd : FuncData} (F : Fun K "word_end" "word_end" s_word_end f fd) : FnOk P w K mg base CX0 1 f fd ["text", "at"] spWordEnd := by
  refine F.ok sc_word_end (fun vs H Q E h => ?_) (fun cdv A outer s H vs Q E hr h => ?_)
  · obtain ⟨t, r, a, w', rfl, _⟩ := h
    rfl
  · obtain ⟨t, r, a, wd, rfl, hl, hd, q⟩ := h
    have hls : (tx t).length ≤ sizeLine := by rw [tx_len]; exact hl
    have wl := wd_len wd
    have tl : a + wd.cs.length ≤ t.length := by
      have h := congrArg List.length hd
      rw [List.length_drop, List.length_append] at h
      omega
    have cut : ∀ j, j ≤ wd.cs.length → t.drop a = wd.cs.take j ++ (wd.cs.drop j ++ r) := fun j _ => by
      rw [hd, ← List.append_assoc, List.take_append_drop]
    have len : ∀ j, j ≤ wd.cs.length → (wd.cs.take j).length = j := fun j hj => by rw [List.length_take]; omega
    refine ⟨_, (pss_cons (ps_set (i := 2) sc_word_end.nd rfl (.inl rfl) (pv 1))
      (pss_cons (ps_while PassesOwn.never (pt_cmpR (op_notIn_tab T.W) (pe_slice sl_str (pv 0) (po_some (pv 1)) (po_some (pv 2))) (pe_globR (by rfl) T.gW) (by rfl)) 
        (pss_cons (ps_set (i := 3) sc_word_end.nd rfl (.inr rfl) (pe_slice sl_str (pv 0) (po_some (pv 1)) (po_some (pe_op op_add (pv 2) pe_int))))
        (pss_cons (ps_if (PW.pt (pw_or (pt_cmpR op_eq (pv 2) (pe_callB call_len_str (by rfl) T.z_len (by decide +kernel) (pa_cons (pv 0) pa_nil)) (nomark _)) (pw_or1 (pt_not (pt_val (pe_callB (cr_any rfl) (by rfl) T.z_any (by decide +kernel) (pa_cons (pe_lc (own := [("word", 4)]) (g := gName 4) (tt := tYes) rfl sc_word_end.nd (pi_tab T.W (pe_globR (by rfl) T.gW)) (blkOk_by (N := nm_word_end) (sc := defScope s_word_end) (by decide +kernel)) (fun _ _ _ _ _ => pg_name (i := 4) sc_word_end.nd rfl (.inl rfl)) (fun _ _ _ _ _ => pts_nil) (fun _ _ _ _ _ => (pe_m1 PySem.F.slot_str_startswith PySem.F.type_str_startswith mt_startswith (pv 4) (pv 3)))) pa_nil))))))) 
          (pss_one (ps_never)) pss_nil)
        (pss_one (ps_aug (i := 2) sc_word_end.nd rfl (.inl rfl) pe_int ip_add)))))
      (pss_one (ps_ret (pv 2))))), ?_⟩
    refine ⟨_, rfl, fun m σ H' => Same H H' ∧ ∃ (j : Nat) (x3 x4 : Option V), σ = [some (.str (tx t)), some (.int a), some (.int ((a + j : Nat) : Int)), x3, x4] ∧ j + m = wd.cs.length, ⟨wd.cs.length, Same.refl H, 0, _, _, rfl, Nat.zero_add _⟩, ?_⟩
    rintro m σ H1 ⟨s1, j, x3, x4, rfl, hj⟩
    refine ⟨_, rfl, _, rfl, _, rfl, _, rfl, _, rfl, _, rfl, hls, ?_⟩
    rw [cut_at (cut j (by omega)) rfl (by rw [len j (by omega)])]
    refine ⟨_, rfl, rfl, _, rfl, ?_⟩
    by_cases hw : isWd (wd.cs.take j)
    · rw [decide_eq_true ((in_keys _).mpr hw)]
      have hjj : ¬ j < wd.cs.length := fun h => wd_short wd j h hw
      have e : j = wd.cs.length := by omega
      refine iteF ⟨_, rfl, ?_⟩
      rw [e]
      exact q H1 s1
    · rw [decide_eq_false (fun h => hw ((in_keys _).mp h))]
      have hlt : j < wd.cs.length := by
        refine Nat.lt_of_le_of_ne (by omega) fun e => hw ?_
        rw [e, List.take_length]
        exact wd_is wd
      refine iteT ⟨fun σ' H' => Same H H' ∧ ∃ (x3 x4 : Option V), σ' = [some (.str (tx t)), some (.int a), some (.int ((a + (j + 1) : Nat) : Int)), x3, x4], ?_, ?_⟩
      · rintro σ' H' ⟨s2, y3, y4, rfl⟩
        exact ⟨m - 1, by omega, s2, j + 1, y3, y4, rfl, by omega⟩
      · refine ⟨_, rfl, _, rfl, _, rfl, _, rfl, _, _, rfl, rfl, _, rfl, _, rfl, hls, ?_⟩
        rw [cut_at (cut (j + 1) (by omega)) rfl (by rw [len (j + 1) (by omega)]; rfl)]
        obtain ⟨lg, hlg⟩ : ∃ lg, lg = wd.cs.take (j + 1) := ⟨_, rfl⟩
        rw [← hlg]
        refine ⟨_, rfl, _, rfl, _, rfl, hls, rfl, _, rfl, ?_⟩
        rw [tx_len]
        rw [decide_eq_false (fun e => by have e := V.int.inj e; omega)]
        refine iteF ⟨rfl, fun D hD => lc_do walk_tab (fun i H' => Same H1 H' ∧ H' D = some (.lst (((wkv.map (·.1)).take i).map fun k => V.bl (Txt.startswith k (tx lg))))) (fun _ => rfl) ⟨same_new hD, upd_same⟩ (fun _ _ _ _ => trivial) ?_ ?_⟩
        · rintro i x H2 H3 hi ⟨s2, d2⟩ ⟨rfl, k, hk, rfl⟩
          refine ⟨_, rfl, ⟨_, rfl⟩, _, rfl, _, _, rfl, rfl, _, d2, ?_, fun b o e => ?_, ?_⟩
          · rw [List.length_map, List.length_take, keys_eq]
            exact small1000 (by rw [List.length_map]; show min i 11 ≤ 1000; omega)
          · rw [upd_ne (ne_of_none e hD)]
            exact s2 _ _ e
          · rw [upd_same, List.take_add_one, hk, List.map_append]
            rfl
        · rintro H2 ⟨s2, d2⟩
          rw [List.take_length] at d2
          refine ⟨D, (wkv.map (·.1)).map fun k => Txt.startswith k (tx lg), rfl, .inl (.inl (by rw [d2, List.map_map]; rfl)), _, rfl, ?_⟩
          have e : (((wkv.map (·.1)).map fun k => Txt.startswith k (tx lg)).any id) = true := by
            rw [List.any_map, List.any_eq_true]
            exact ⟨tx wd.cs, (in_keys _).mpr (wd_is wd), hlg ▸ wd_starts wd j hlt⟩
          rw [e]
          refine iteF ⟨_, rfl, _, _, rfl, rfl, s1.trans s2, some (.str (tx lg)), x4, ?_⟩
          rfl
end
/-- a bracket's piece: where it ends, its word, its small name -/
def smV : Option (List Nat) → V
  | none => .non
  | some b => .str (tx b)
def pcV (p : Pc) : List V := [.str (tx p.kind), .int p.b, .int p.e, smV p.small]
def spBracket : Sp := fun vs H Q _ => ∃ (t r : List Nat) (a : Nat) (w : Wd) (b : List Nat), vs = [.str (tx t), .int a] ∧ t.length ≤ sizeLine ∧ t.drop a = hd w b ++ 32 :: r ∧ BndOk w b ∧ ∀ p H', Same H H' → H' p = some (.tup (pcV (op a w b))) → Q (.ref p) H'
theorem bind_in (w : Wd) : inV (V.str (tx w.cs)) [.str (Str.ofString "let"), .str (Str.ofString "def")] = w.bd := by
  cases w <;> decide +kernel
section
variable {P : Program} {w : World} {K : PySem.W.Frag} {mg : Str → Option Value} {base : Heap} {dW dB : Addr} {esW : Array DictEntry} {nW : Nat} (T : Txt K mg w dW dB esW nW)
include T
theorem ok_bracket_at {f f1 f2 f3 : Addr} {fd fd1 fd2 fd3 : FuncData} (F : Fun K "bracket_at" "bracket_at" s_bracket_at f fd) (h_word_end : Has P w K mg base "word_end" 1 ["text", "at"] spWordEnd f1 fd1)
    (h_behind : Has P w K mg base "behind" 1 ["text", "at", "sign"] spBehind f2 fd2) (h_small_end : Has P w K mg base "small_end" 2 ["text", "at"] spSmallEnd f3 fd3) : FnOk P w K mg base CX0 3 f fd ["text", "at"] spBracket := by
  refine F.ok sc_bracket_at (fun vs H Q E h => ?_) (fun cdv A outer s H vs Q E hr h => ?_)
  · obtain ⟨t, r, a, w', b, rfl, _⟩ := h
    rfl
  · obtain ⟨t, r, a, wd, b, rfl, hl, hdr, hb, q⟩ := h
    have hls : (tx t).length ≤ sizeLine := by rw [tx_len]; exact hl
    refine ⟨_, (pss_cons (ps_set (i := 2) sc_bracket_at.nd rfl (.inl rfl) (pe_callH h_word_end (hr.mono (by first | decide | omega)) (by rfl) (pa_cons (pv 0) (pa_cons (pe_op op_add (pv 1) pe_int) pa_nil))))
      (pss_cons (ps_set (i := 3) sc_bracket_at.nd rfl (.inl rfl) (pe_slice sl_str (pv 0) (po_some (pe_op op_add (pv 1) pe_int)) (po_some (pv 2))))
      (pss_cons (ps_if (pt_cmpR op_notIn_seq (pv 3) (pe_globR (by rfl) T.gB) (by rfl)) 
        (pss_one (ps_ret (pe_tup (pa_cons (pv 3) (pa_cons (pv 1) (pa_cons (pv 2) (pa_cons pe_non pa_nil))))))) pss_nil)
      (pss_cons (ps_set (i := 4) sc_bracket_at.nd rfl (.inl rfl) (pe_callH h_behind (hr.mono (by first | decide | omega)) (by rfl) (pa_cons (pv 0) (pa_cons (pv 2) (pa_cons pe_str pa_nil)))))
      (pss_cons (ps_set (i := 2) sc_bracket_at.nd rfl (.inl rfl) (pe_callH h_small_end (hr.mono (by first | decide | omega)) (by rfl) (pa_cons (pv 0) (pa_cons (pv 4) pa_nil))))
      (pss_one (ps_ret (pe_tup (pa_cons (pv 3) (pa_cons (pv 1) (pa_cons (pv 2) (pa_cons (pe_slice sl_str (pv 0) (po_some (pv 4)) (po_some (pv 2))) pa_nil)))))))))))), ?_⟩
    unfold BndOk at hb
    have e1 : t.drop (a + 1) = wd.cs ++ ((if wd.bd then 32 :: b else []) ++ 32 :: r) := by
      refine drop_more (l := [40]) ?_
      rw [hdr]
      simp [hd]
    refine ⟨_, rfl, _, rfl, _, _, rfl, rfl, t, _, a + 1, wd, rfl, hl, e1, fun H1 s1 => ?_⟩
    refine ⟨_, rfl, _, rfl, _, _, rfl, rfl, _, rfl, _, rfl, _, rfl, _, rfl, hls, ?_⟩
    rw [cut_at (x := (a : Int) + 1) e1 rfl rfl]
    refine ⟨_, rfl, dB, _, rfl, .inr (T.B _), rfl, rfl, _, rfl, ?_⟩
    rw [show (if true = true then !inV (V.str (tx wd.cs)) [V.str (Str.ofString "let"), V.str (Str.ofString "def")] else inV (V.str (tx wd.cs)) [V.str (Str.ofString "let"), V.str (Str.ofString "def")]) = !wd.bd by rw [if_pos rfl, bind_in]]
    have fin : ∀ (e : Nat) (x : V), e = a + (hd wd b).length → x = smV (sm wd b) → [V.str (tx wd.cs), V.int a, V.int e, x] = pcV (op a wd b) := by
      intro e x he hx
      rw [he, hx]
      rfl
    cases hbd : wd.bd with
    | false =>
      rw [hbd] at hb
      simp only [Bool.false_eq_true, if_false] at hb
      subst hb
      refine iteT ⟨_, rfl, _, rfl, _, rfl, sizeLine_ge (by show 4 ≤ 10000; decide), fun p hp => ?_⟩
      refine q p _ (s1.trans (same_new hp)) (upd_same.trans ?_)
      refine congrArg (fun l => some (HO.tup l)) (fin (a + 1 + wd.cs.length) .non ?_ ?_)
      · simp [hd, hbd]
        omega
      · simp [sm, hbd, smV]
    | true =>
      rw [hbd] at hb
      simp only [if_true] at hb
      have e2 : t.drop (a + 1 + wd.cs.length) = 32 :: (b ++ 32 :: r) := by
        refine drop_more ?_
        rw [e1, hbd]
        simp
      have e3 : t.drop (a + 1 + wd.cs.length + 1) = b ++ 32 :: r := drop_more (l := [32]) e2
      have bl : Str.ofString " " = tx [32] := by decide +kernel
      refine iteF ⟨_, rfl, _, rfl, t, a + 1 + wd.cs.length, 32, by rw [bl]; rfl, hl, (drop_at e2).1, ?_⟩
      refine ⟨_, rfl, _, rfl, t, b, 32 :: r, a + 1 + wd.cs.length + 1, rfl, hl, e3, hb, fun c hc => .inl (Option.some.inj hc).symm, ?_⟩
      refine ⟨_, rfl, _, rfl, _, rfl, _, rfl, _, rfl, _, rfl, _, rfl, _, rfl, _, rfl, hls, ?_⟩
      rw [cut_at e3 rfl rfl]
      refine ⟨sizeLine_ge (by show 4 ≤ 10000; decide), fun p hp => q p _ (s1.trans (same_new hp)) (upd_same.trans ?_)⟩
      refine congrArg (fun l => some (HO.tup l)) (fin (a + 1 + wd.cs.length + 1 + b.length) _ ?_ ?_)
      · simp [hd, hbd]
        omega
      · simp [sm, hbd, smV]
def spPiece : Sp := fun vs H Q _ => ∃ (t r : List Nat) (a : Nat) (k : U.Tm), vs = [.str (tx t), .int a] ∧ t.length ≤ sizeLine ∧ k.Ok ∧ t.drop a = k.pr ++ r ∧ Sep r ∧ ∀ p H', Same H H' → H' p = some (.tup (pcV (k.hp a))) → Q (.ref p) H'
omit T in
theorem smalls_iff {c : Nat} : c ∈ smalls ↔ 97 ≤ c ∧ c ≤ 122 := by
  unfold smalls
  rw [List.mem_map]
  exact ⟨fun ⟨j, hj, e⟩ => by have := List.mem_range.mp hj; omega, fun h => ⟨c - 97, List.mem_range.mpr (by omega), by omega⟩⟩
omit T in
theorem greats_iff {c : Nat} : c ∈ greats ↔ 65 ≤ c ∧ c ≤ 90 := by
  unfold greats
  rw [List.mem_map]
  exact ⟨fun ⟨j, hj, e⟩ => by have := List.mem_range.mp hj; omega, fun h => ⟨c - 65, List.mem_range.mpr (by omega), by omega⟩⟩
omit T in
theorem figs_iff {c : Nat} : c ∈ figs ↔ 48 ≤ c ∧ c ≤ 57 := by
  unfold figs
  rw [List.mem_map]
  exact ⟨fun ⟨j, hj, e⟩ => by have := List.mem_range.mp hj; omega, fun h => ⟨c - 48, List.mem_range.mpr (by omega), by omega⟩⟩
omit T in
theorem in_smalls (c : Nat) : decide (c ∈ (Str.ofString "abcdefghijklmnopqrstuvwxyz").cps.toList) = decide (97 ≤ c ∧ c ≤ 122) := by
  rw [smalls_tx, tx_cps]
  exact decide_eq_decide.mpr smalls_iff
omit T in
theorem in_greats (c : Nat) : decide (c ∈ (Str.ofString "ABCDEFGHIJKLMNOPQRSTUVWXYZ").cps.toList) = decide (65 ≤ c ∧ c ≤ 90) := by
  rw [greats_tx, tx_cps]
  exact decide_eq_decide.mpr greats_iff
omit T in
theorem in_figs (c : Nat) : decide (c ∈ (Str.ofString "0123456789").cps.toList) = decide (48 ≤ c ∧ c ≤ 57) := by
  rw [figs_tx, tx_cps]
  exact decide_eq_decide.mpr figs_iff
omit T in
theorem is_sign (c d : Nat) {z : Str} (e : z = tx [d]) : decide (V.str (⟨#[c]⟩ : Str) = V.str z) = decide (c = d) := by
  rw [one_tx, e, str_eq]
  exact decide_eq_decide.mpr (by simp)
theorem ok_piece_at {f f1 f2 f3 : Addr} {fd fd1 fd2 fd3 : FuncData} (F : Fun K "piece_at" "piece_at" s_piece_at f fd) (h_bracket_at : Has P w K mg base "bracket_at" 3 ["text", "at"] spBracket f1 fd1)
    (h_run_end : Has P w K mg base "run_end" 1 ["text", "at", "signs", "most"] spRunEnd f2 fd2) (h_number_end : Has P w K mg base "number_end" 2 ["text", "at"] spNumEnd f3 fd3) : FnOk P w K mg base CX0 4 f fd ["text", "at"] spPiece := by
  refine F.ok sc_piece_at (fun vs H Q E h => ?_) (fun cdv A outer s H vs Q E hr h => ?_)
  · obtain ⟨t, r, a, k, rfl, _⟩ := h
    rfl
  · obtain ⟨t, r, a, k, rfl, hl, ok, hd, hs, q⟩ := h
    have hls : (tx t).length ≤ sizeLine := by rw [tx_len]; exact hl
    refine ⟨_, (pss_cons (ps_if (pt_cmpR op_eq (pv 1) (pe_callB call_len_str (by rfl) T.z_len (by decide +kernel) (pa_cons (pv 0) pa_nil)) (nomark _)) 
        (pss_one (ps_never)) pss_nil)
      (pss_cons (ps_set (i := 2) sc_piece_at.nd rfl (.inl rfl) (pe_ix ix_str (pv 0) (pv 1) (fun _ _ => rfl)))
      (pss_cons (ps_if (pt_cmpR op_eq (pv 2) pe_str (nomark _)) 
        (pss_one (ps_ret (pe_callH h_bracket_at (hr.mono (by first | decide | omega)) (by rfl) (pa_cons (pv 0) (pa_cons (pv 1) pa_nil))))) pss_nil)
      (pss_cons (ps_if (pt_cmpR op_in_sign (pv 2) (pe_globS (by rfl) T.g_SMALL) (by rfl)) 
        (pss_one (ps_ret (pe_tup (pa_cons pe_str (pa_cons (pv 1) (pa_cons (pe_callH h_run_end (hr.mono (by first | decide | omega)) (by rfl) (pa_cons (pv 0) (pa_cons (pv 1) (pa_cons (pe_globS (by rfl) T.g_SMALL) (pa_cons (pe_globI (by rfl) T.g_MOST_SMALL) pa_nil))))) (pa_cons pe_non pa_nil))))))) pss_nil)
      (pss_cons (ps_if (pt_cmpR op_in_sign (pv 2) (pe_globS (by rfl) T.g_GREAT) (by rfl)) 
        (pss_one (ps_ret (pe_tup (pa_cons pe_str (pa_cons (pv 1) (pa_cons (pe_callH h_run_end (hr.mono (by first | decide | omega)) (by rfl) (pa_cons (pv 0) (pa_cons (pv 1) (pa_cons (pe_globS (by rfl) T.g_GREAT) (pa_cons (pe_globI (by rfl) T.g_MOST_GREAT) pa_nil))))) (pa_cons pe_non pa_nil))))))) pss_nil)
      (pss_cons (ps_if (PW.pt (pw_or (pt_cmpR op_eq (pv 2) pe_str (nomark _)) (pw_or1 (pt_cmpR op_in_sign (pv 2) (pe_globS (by rfl) T.g_FIGURES) (by rfl))))) 
        (pss_one (ps_ret (pe_tup (pa_cons pe_str (pa_cons (pv 1) (pa_cons (pe_callH h_number_end (hr.mono (by first | decide | omega)) (by rfl) (pa_cons (pv 0) (pa_cons (pv 1) pa_nil))) (pa_cons pe_non pa_nil))))))) pss_nil)
      (pss_one (ps_never)))))))), ?_⟩
    have begin_ : ∀ c l, k.pr = c :: l → t.drop a = c :: (l ++ r) := fun c l e => by
      rw [hd, e]
      rfl
    have zb : Str.ofString "(" = tx [40] := by decide +kernel
    have zm : Str.ofString "-" = tx [45] := by decide +kernel
    have l4 : 4 ≤ sizeLine := sizeLine_ge (by decide)
    rcases view ok with ⟨kd, l, rfl, hk⟩ | ⟨wd, b, ks, v⟩
    · cases kd with
      | num =>
        obtain ⟨c, l', hc, hcs⟩ := num_first hk
        rw [figs_iff] at hcs
        obtain ⟨at0, lt⟩ := drop_at (begin_ c l' hc)
        refine ⟨_, rfl, _, rfl, _, rfl, hls, rfl, _, rfl, ?_⟩
        rw [tx_len, decide_eq_false (fun e => by have e := V.int.inj e; omega)]
        refine iteF ⟨_, rfl, _, rfl, _, _, c, rfl, rfl, hls, atI_tx at0, ?_⟩
        refine ⟨_, rfl, rfl, _, rfl, ?_⟩
        rw [is_sign c 40 zb, decide_eq_false (by omega)]
        refine iteF ⟨_, rfl, c, _, rfl, rfl, _, rfl, ?_⟩
        rw [in_smalls, decide_eq_false (by omega)]
        refine iteF ⟨_, rfl, c, _, rfl, rfl, _, rfl, ?_⟩
        rw [in_greats, decide_eq_false (by omega)]
        refine iteF ⟨_, rfl, rfl, _, rfl, ?_⟩
        rw [is_sign c 45 zm]
        have fin : tRet (tTup (tCons (tC (V.str (Str.ofString "number"))) (tCons (tVar 1) (tCons (tCall spNumEnd [] E0 (tCons (tVar 0) (tCons (tVar 1) tNil))) (tCons (tC V.non) tNil))))) { nx := tNever { nx := fun x H' => Q V.non H', rt := Q }, rt := Q }
            [some (.str (tx t)), some (.int a), some (.str ⟨#[c]⟩)] H := by
          refine ⟨_, rfl, _, rfl, _, rfl, t, l, r, a, rfl, hl, hd, hk, hs, l4, fun p hp => q p _ (same_new hp) (upd_same.trans ?_)⟩
          rw [show Str.ofString "number" = tx Kd.num.cs by decide +kernel]
          rfl
        by_cases h45 : c = 45
        · rw [decide_eq_true h45]
          exact iteT (iteT fin)
        · rw [decide_eq_false h45]
          refine iteF ⟨_, rfl, c, _, rfl, rfl, _, rfl, ?_⟩
          rw [in_figs, decide_eq_true (by omega)]
          exact iteT fin
      | name =>
        obtain ⟨c, l', hc, hcs⟩ := some_first hk.1 hk.2.2
        rw [smalls_iff] at hcs
        obtain ⟨at0, lt⟩ := drop_at (begin_ c l' hc)
        refine ⟨_, rfl, _, rfl, _, rfl, hls, rfl, _, rfl, ?_⟩
        rw [tx_len, decide_eq_false (fun e => by have e := V.int.inj e; omega)]
        refine iteF ⟨_, rfl, _, rfl, _, _, c, rfl, rfl, hls, atI_tx at0, ?_⟩
        refine ⟨_, rfl, rfl, _, rfl, ?_⟩
        rw [is_sign c 40 zb, decide_eq_false (by omega)]
        refine iteF ⟨_, rfl, c, _, rfl, rfl, _, rfl, ?_⟩
        rw [in_smalls, decide_eq_true (by omega)]
        refine iteT ⟨_, rfl, _, rfl, _, rfl, t, smalls, a, 4, by rw [smalls_tx]; rfl, hl, ?_⟩
        rw [run_is hd hk.2.2 hk.2.1 (.inr (hs.not (by decide) (by decide)))]
        refine ⟨l4, fun p hp => q p _ (same_new hp) (upd_same.trans ?_)⟩
        rw [show Str.ofString "name" = tx Kd.name.cs by decide +kernel]
        rfl
      | part =>
        obtain ⟨c, l', hc, hcs⟩ := some_first hk.1 hk.2.2
        rw [greats_iff] at hcs
        obtain ⟨at0, lt⟩ := drop_at (begin_ c l' hc)
        refine ⟨_, rfl, _, rfl, _, rfl, hls, rfl, _, rfl, ?_⟩
        rw [tx_len, decide_eq_false (fun e => by have e := V.int.inj e; omega)]
        refine iteF ⟨_, rfl, _, rfl, _, _, c, rfl, rfl, hls, atI_tx at0, ?_⟩
        refine ⟨_, rfl, rfl, _, rfl, ?_⟩
        rw [is_sign c 40 zb, decide_eq_false (by omega)]
        refine iteF ⟨_, rfl, c, _, rfl, rfl, _, rfl, ?_⟩
        rw [in_smalls, decide_eq_false (by omega)]
        refine iteF ⟨_, rfl, c, _, rfl, rfl, _, rfl, ?_⟩
        rw [in_greats, decide_eq_true (by omega)]
        refine iteT ⟨_, rfl, _, rfl, _, rfl, t, greats, a, 6, by rw [greats_tx]; rfl, hl, ?_⟩
        rw [run_is hd hk.2.2 hk.2.1 (.inr (hs.not (by decide) (by decide)))]
        refine ⟨l4, fun p hp => q p _ (same_new hp) (upd_same.trans ?_)⟩
        rw [show Str.ofString "part" = tx Kd.part.cs by decide +kernel]
        rfl
    · obtain ⟨k1, ks', rfl⟩ : ∃ k1 ks', ks = k1 :: ks' := by
        have := v.ar
        cases ks with
        | nil =>
          exfalso
          cases wd <;> simp [Wd.ar] at this
        | cons k1 ks' => exact ⟨k1, ks', rfl⟩
      have hd2 : t.drop a = U.hd wd b ++ 32 :: (k1.pr ++ kT ks' ++ [41] ++ r) := by
        rw [hd, v.pr, kT]
        simp
      have hd3 : t.drop a = 40 :: (wd.cs ++ (if wd.bd then 32 :: b else []) ++ 32 :: (k1.pr ++ kT ks' ++ [41] ++ r)) := hd2
      obtain ⟨at0, lt⟩ := drop_at hd3
      refine ⟨_, rfl, _, rfl, _, rfl, hls, rfl, _, rfl, ?_⟩
      rw [tx_len, decide_eq_false (fun e => by have e := V.int.inj e; omega)]
      refine iteF ⟨_, rfl, _, rfl, _, _, 40, rfl, rfl, hls, atI_tx at0, ?_⟩
      refine ⟨_, rfl, rfl, _, rfl, ?_⟩
      rw [is_sign 40 40 zb, decide_eq_true rfl]
      refine iteT ⟨_, rfl, _, rfl, t, _, a, wd, b, rfl, hl, hd2, v.bn, fun p H' s1 hp => q p H' s1 ?_⟩
      rw [v.hp a]
      exact hp
end
end K


set_option Elab.async false
set_option linter.all false
set_option maxRecDepth 100000
set_option maxHeartbeats 4000000
namespace K
open PySem PySem.Spec PyProof.Rows L2 U
abbrev PcsAt (H : Hp) (ps : List Addr) (cs : List Pc) : Prop := Paired (fun p c => H p = some (.tup (pcV c))) ps cs
/-- all tuples are as they were -/
def Tups (H H' : Hp) : Prop := ∀ p xs, H p = some (.tup xs) → H' p = some (.tup xs)
theorem Tups.of {H H' : Hp} (h : Same H H') : Tups H H' := fun p xs e => h p _ e
theorem Tups.trans {H H1 H2 : Hp} (a : Tups H H1) (b : Tups H1 H2) : Tups H H2 := fun p xs e => b p xs (a p xs e)
theorem Tups.upd {H : Hp} {a : Addr} {l : List V} {o : HO} (e : H a = some (.lst l)) : Tups H (upd H a o) := fun p xs h => by
  rw [upd_ne (ne_of h e (by intro z; cases z))]
  exact h
theorem PcsAt.tups {H H' : Hp} {ps : List Addr} {cs : List Pc} (h : PcsAt H ps cs) (k : Tups H H') : PcsAt H' ps cs := by
  induction h with
  | nil => exact .nil
  | cons r t ih => exact .cons (k _ _ r) ih
/-- but for these two all is as it was, where they are new -/
theorem upd_new {H G : Hp} {a : Addr} {o : HO} (n : H a = none) (h : Same H G) : Same H (upd G a o) := fun b u e => by
  rw [upd_ne (ne_of_none e n)]
  exact h b u e
/-- how many terms each open bracket lacks, the innermost last -/
def lkV (R : List (List U.Tm)) : List V := (R.map fun ks => V.int ks.length).reverse
theorem lkV_cons (ks : List U.Tm) (R : List (List U.Tm)) : lkV (ks :: R) = lkV R ++ [V.int ks.length] := by simp [lkV]
theorem lkV_len (R : List (List U.Tm)) : (lkV R).length = R.length := by simp [lkV]
theorem ar_in (w : Wd) : ∃ i, (tx w.cs, i) ∈ wkv := ⟨_, List.mem_map.mpr ⟨w, w.mem, rfl⟩⟩
theorem cs_inj : ∀ w v : Wd, w.cs = v.cs → w = v := by
  intro w v
  cases w <;> cases v <;> decide
theorem ar_is (w : Wd) {i : Int} (h : (tx w.cs, i) ∈ wkv) : i = w.ar := by
  obtain ⟨v, _, e⟩ := List.mem_map.mp h
  rw [Prod.mk.injEq] at e
  rw [← e.2, cs_inj v w (tx_inj e.1)]
def spPieces : Sp := fun vs H Q _ => ∃ (k : U.Tm), vs = [.str (tx k.pr)] ∧ k.pr.length ≤ sizeLine ∧ k.Ok ∧ k.size ≤ 1000 ∧ ∀ p H' ps, Same H H' → H' p = some (.lst (ps.map V.ref)) → PcsAt H' ps (k.pc 0) → Q (.ref p) H'
section
variable {P : Program} {w : World} {K : PySem.W.Frag} {mg : Str → Option Value} {base : Heap} {dW dB : Addr} {esW : Array DictEntry} {nW : Nat} (T : Txt K mg w dW dB esW nW)
include T
theorem ok_pieces_of {f f1 f2 : Addr} {fd fd1 fd2 : FuncData} (F : Fun K "pieces_of" "pieces_of" s_pieces_of f fd) (h_piece_at : Has P w K mg base "piece_at" 4 ["text", "at"] spPiece f1 fd1)
    (h_behind : Has P w K mg base "behind" 1 ["text", "at", "sign"] spBehind f2 fd2) : FnOk P w K mg base CX0 5 f fd ["text"] spPieces := by
  refine F.ok sc_pieces_of (fun vs H Q E h => ?_) (fun cdv A outer s H vs Q E hr h => ?_)
  · obtain ⟨k, rfl, _⟩ := h
    rfl
  · obtain ⟨k0, rfl, hl, ok, hsz, q⟩ := h
    have hls : (tx k0.pr).length ≤ sizeLine := by rw [tx_len]; exact hl
    refine ⟨_, (pss_cons (ps_set (i := 1) sc_pieces_of.nd rfl (.inl rfl) (pe_lst pa_nil))
      (pss_cons (ps_set (i := 2) sc_pieces_of.nd rfl (.inl rfl) (pe_lst pa_nil))
      (pss_cons (ps_set (i := 3) sc_pieces_of.nd rfl (.inl rfl) pe_int)
      (pss_cons (ps_while PassesOwn.never (pt_val pe_bl) 
        (pss_cons (ps_set (i := 4) sc_pieces_of.nd rfl (.inl rfl) (pe_callH h_piece_at (hr.mono (by first | decide | omega)) (by rfl) (pa_cons (pv 0) (pa_cons (pv 3) pa_nil))))
        (pss_cons (ps_expr (pe_bm PySem.F.plainAttrs_list PySem.F.slot_list_append PySem.F.type_list_append mt_append (pv 1) (pa_cons (pv 4) pa_nil)))
        (pss_cons (ps_set (i := 3) sc_pieces_of.nd rfl (.inl rfl) (pe_ix ix_tup (pv 4) pe_int (fun _ _ => rfl)))
        (Evl.pss_cut (ps_if (pt_cmpR (op_in_tab T.W) (pe_ix ix_tup (pv 4) pe_int (fun _ _ => rfl)) (pe_globR (by rfl) T.gW) (by rfl)) 
          (pss_one (ps_expr (pe_bm PySem.F.plainAttrs_list PySem.F.slot_list_append PySem.F.type_list_append mt_append (pv 2) (pa_cons (pe_ix (ix_tab T.W) (pe_globR (by rfl) T.gW) (pe_ix ix_tup (pv 4) pe_int (fun _ _ => rfl)) (fun _ _ => rfl)) pa_nil)))) pss_nil)
        (pss_cons (ps_while PassesOwn.never (PW.pt (pw_and (pt_truth (pv 2) (by intro _; rfl)) (pw_and1 (pt_cmpR op_eq (pe_ix ix_list (pv 2) (pe_un un_neg pe_int) (fun _ _ => rfl)) pe_int (nomark _))))) 
          (pss_cons (ps_expr (pe_bm0 PySem.F.plainAttrs_list PySem.F.slot_list_pop PySem.F.type_list_pop mt_pop (pv 2)))
          (pss_cons (ps_expr (pe_bm PySem.F.plainAttrs_list PySem.F.slot_list_append PySem.F.type_list_append mt_append (pv 1) (pa_cons (pe_tup (pa_cons (pe_globS (by rfl) T.g_CLOSE) (pa_cons (pv 3) (pa_cons (pe_callH h_behind (hr.mono (by first | decide | omega)) (by rfl) (pa_cons (pv 0) (pa_cons (pv 3) (pa_cons (pe_globS (by rfl) T.g_CLOSE) pa_nil)))) (pa_cons pe_non pa_nil))))) pa_nil)))
          (pss_one (ps_aug (i := 3) sc_pieces_of.nd rfl (.inl rfl) pe_int ip_add)))))
        (pss_cons (ps_if (pt_not (pt_truth (pv 2) (by intro _; rfl))) 
          (pss_one (ps_break)) pss_nil)
        (pss_cons (ps_set (i := 3) sc_pieces_of.nd rfl (.inl rfl) (pe_callH h_behind (hr.mono (by first | decide | omega)) (by rfl) (pa_cons (pv 0) (pa_cons (pv 3) (pa_cons pe_str pa_nil)))))
        (pss_one (ps_augS (pv 2) (pe_un un_neg pe_int) get_last pe_int ip_sub set_list))))))))))
      (pss_cons (ps_if (pt_cmpR op_ne (pv 3) (pe_callB call_len_str (by rfl) T.z_len (by decide +kernel) (pa_cons (pv 0) pa_nil)) (nomark _)) 
        (pss_one (ps_never)) pss_nil)
      (pss_one (ps_ret (pv 1)))))))), ?_⟩
    have plen := pc_len k0 0
    -- pieces = [], lacking = [], at = 0
    refine ⟨Nat.zero_le _, fun aP hP => ⟨Nat.zero_le _, fun aL hL => ?_⟩⟩
    have nPL : aP ≠ aL := ne_of_none upd_same hL
    have hL0 : H aL = none := (same_new hP).free hL
    refine ⟨fun m σ H' => ∃ (k : U.Tm) (R : List (List U.Tm)) (a : Nat) (done : List Pc) (ps : List Addr) (x4 : Option V), σ = [some (.str (tx k0.pr)), some (.ref aP), some (.ref aL), some (.int a), x4] ∧ Same H H' ∧ Ahead k0.pr (k0.pc 0) k R a done ∧
      H' aP = some (.lst (ps.map V.ref)) ∧ PcsAt H' ps done ∧ H' aL = some (.lst (lkV R)) ∧ m = k.size + Rsize R, ⟨_, k0, [], 0, [], [], _, rfl, (same_new hP).trans (same_new hL), ahead_start ok, ?_, .nil, upd_same, rfl⟩, ?_⟩
    · rw [upd_ne nPL]
      exact upd_same
    rintro m σ H1 ⟨k, R, a, done, ps, x4, rfl, s1, ah, eP, pcs, eL, hm⟩
    have less := ah.less
    have md := ah.mid
    obtain ⟨alen, dlen⟩ := ah.bound
    have pl := pcs.length
    refine ⟨_, rfl, iteT ⟨fun σ' H' => ∃ m', m' < m ∧ _, fun σ' H' h => h, ?_⟩⟩
    -- piece = piece_at(text, at); pieces.append(piece)
    refine ⟨_, rfl, _, rfl, k0.pr, rT R, a, k, rfl, hl, ah.2.1, ah.1, sep_rT R, fun p H2 s2 hp2 => ?_⟩
    have eP2 := s2 _ _ eP
    have eL2 := s2 _ _ eL
    have npP : p ≠ aP := ne_of hp2 eP2 (by intro z; cases z)
    have npL : p ≠ aL := ne_of hp2 eL2 (by intro z; cases z)
    refine ⟨_, rfl, .inl ⟨rfl, _, .inl (.inl eP2)⟩, _, rfl, aP, _, _, rfl, rfl, eP2, ?_, ?_⟩
    · rw [List.length_map]
      exact Nat.lt_of_lt_of_le (show ps.length < 10000 by omega) (sizeLine_ge (Nat.le_refl _))
    -- at = piece[2]
    have hp3 : (upd H2 aP (.lst (ps.map V.ref ++ [V.ref p]))) p = some (.tup (pcV (k.hp a))) := by
      rw [upd_ne npP]
      exact hp2
    refine ⟨_, rfl, p, _, _, _, rfl, rfl, .inl (.inl hp3), rfl, ?_⟩
    -- the words
    refine ⟨fun σ' H' => ∃ (R' : List (List U.Tm)) (a' : Nat) (done' : List Pc) (ps' : List Addr) (y4 : Option V), σ' = [some (.str (tx k0.pr)), some (.ref aP), some (.ref aL), some (.int a'), y4] ∧ Same H H' ∧ Mid k0.pr (k0.pc 0) R' a' done' ∧
      H' aP = some (.lst (ps'.map V.ref)) ∧ PcsAt H' ps' done' ∧ H' aL = some (.lst (lkV R')) ∧ a' ≤ k0.pr.length ∧ Rsize R' < m, ?_, ?_⟩
    · have eL3 : ∀ o, (upd H2 aP o) aL = some (.lst (lkV R)) := fun o => by
        rw [upd_ne nPL.symm]
        exact eL2
      have pcs2 : PcsAt (upd H2 aP (.lst (ps.map V.ref ++ [V.ref p]))) (ps ++ [p]) (done ++ [k.hp a]) :=
        Paired.app ((pcs.tups (Tups.of s2)).tups (Tups.upd eP2)) (.cons hp3 .nil)
      have sH : Same H (upd H2 aP (.lst (ps.map V.ref ++ [V.ref p]))) := upd_new hP (s1.trans s2)
      have lst : (upd H2 aP (.lst (ps.map V.ref ++ [V.ref p]))) aP = some (.lst ((ps ++ [p]).map V.ref)) := by
        rw [upd_same, List.map_append]
        rfl
      refine ⟨_, rfl, p, _, _, _, rfl, rfl, .inl (.inl hp3), rfl, _, rfl, rfl, _, rfl, ?_⟩
      have hend := hp_end k a
      rcases view ah.2.1 with ⟨kd, l, rfl, hk⟩ | ⟨wd, b, ks, v⟩
      · have e : decide (tx kd.cs ∈ wkv.map (·.1)) = false := decide_eq_false fun h => kd_wd kd ((in_keys _).mp h)
        show if decide (tx kd.cs ∈ wkv.map (·.1)) = true then _ else _
        rw [e]
        refine iteF ⟨R, a + l.length, _, ps ++ [p], _, rfl, sH, md, lst, pcs2, eL3 _, alen, by have h : Rsize R + 1 = _ := less; omega⟩
      · rw [v.hp a] at hp3 pcs2 md
        rw [v.openR, v.hlen] at md
        rw [v.hlen] at alen
        rw [v.openR] at less
        have e : decide (tx wd.cs ∈ wkv.map (·.1)) = true := decide_eq_true ((in_keys _).mpr (wd_is wd))
        rw [v.hp a]
        show if decide (tx wd.cs ∈ wkv.map (·.1)) = true then _ else _
        rw [e]
        refine iteT ⟨_, rfl, .inl ⟨rfl, _, .inl (.inl (eL3 _))⟩, _, rfl, p, _, _, _, rfl, rfl, .inl (.inl hp3), rfl, tx wd.cs, rfl, rfl, ar_in wd, fun i hi => ?_⟩
        rw [ar_is wd hi]
        refine ⟨aL, _, _, rfl, rfl, eL3 _, ?_, ?_⟩
        · rw [lkV_len]
          exact Nat.lt_of_lt_of_le ah.few hl
        · refine ⟨ks :: R, a + (hd wd b).length, _, ps ++ [p], _, rfl, upd_new hL0 sH, md, ?_, pcs2.tups (Tups.upd (eL3 _)), ?_, alen, by omega⟩
          · rw [upd_ne nPL]
            exact lst
          · rw [upd_same, lkV_cons, v.ar]
    · rintro σ2 H4 ⟨R4, a4, d4, p4, y4, rfl, s4, m4, eP4, pcs4, eL4, al4, lt4⟩
      refine ⟨fun n σ' H' => ∃ (R' : List (List U.Tm)) (a' : Nat) (done' : List Pc) (ps' : List Addr), σ' = [some (.str (tx k0.pr)), some (.ref aP), some (.ref aL), some (.int a'), y4] ∧ Same H H' ∧ Mid k0.pr (k0.pc 0) R' a' done' ∧
        H' aP = some (.lst (ps'.map V.ref)) ∧ PcsAt H' ps' done' ∧ H' aL = some (.lst (lkV R')) ∧ a' ≤ k0.pr.length ∧ Rsize R' < m ∧ n = R'.length, ⟨_, R4, a4, d4, p4, rfl, s4, m4, eP4, pcs4, eL4, al4, lt4, rfl⟩, ?_⟩
      rintro n σ5 H5 ⟨R', a', d', ps', rfl, s5, m5, eP5, pcs5, eL5, al5, lt5, rfl⟩
      have pl5 := pcs5.length
      cases R' with
      | nil =>
        -- all brackets are closed
        obtain ⟨e1, e2⟩ := m5.over al5
        refine ⟨_, rfl, false, .inl ⟨_, .inl (.inl eL5), rfl⟩, iteF (iteF ?_)⟩
        refine ⟨_, rfl, false, .inl ⟨_, .inl (.inl eL5), rfl⟩, iteT ?_⟩
        refine ⟨_, rfl, _, rfl, _, rfl, hls, rfl, _, rfl, ?_⟩
        refine iteNS (by rw [tx_len, e1]) ?_
        rw [e2] at pcs5
        exact ⟨_, rfl, q aP H5 ps' s5 eP5 pcs5⟩
      | cons ks R2 =>
        have eL6 := eL5
        rw [lkV_cons] at eL6
        have tru : true = !(lkV (ks :: R2)).isEmpty := by rw [lkV_cons]; simp
        refine ⟨_, rfl, true, .inl ⟨_, .inl (.inl eL5), tru⟩, iteT ⟨_, rfl, _, rfl, aL, _, _, _, rfl, rfl, .inl (.inl eL6), atI_end _ _, rfl, _, rfl, ?_⟩⟩
        cases ks with
        | nil =>
          rw [decide_eq_true (show V.int (([] : List U.Tm).length : Nat) = V.int 0 from rfl)]
          obtain ⟨at41, m6⟩ := m5.close
          have room := m5.room
          refine iteT ⟨fun σ' H' => ∃ n', n' < (([] : List U.Tm) :: R2).length ∧ _, fun σ' H' h => h, ?_⟩
          refine ⟨_, rfl, .inl ⟨rfl, _, .inl (.inl eL6)⟩, aL, _, .int (([] : List U.Tm).length : Nat), rfl, rfl, eL6, by simp, ?_⟩
          rw [List.dropLast_concat]
          have eP6 : (upd H5 aL (.lst (lkV R2))) aP = some (.lst (ps'.map V.ref)) := by
            rw [upd_ne nPL]
            exact eP5
          have cl41 : Str.ofString ")" = tx [41] := by decide +kernel
          refine ⟨_, rfl, .inl ⟨rfl, _, .inl (.inl eP6)⟩, _, rfl, _, rfl, _, rfl, k0.pr, a', 41, by rw [cl41]; rfl, hl, at41, sizeLine_ge (by show 4 ≤ 10000; decide), fun pT hT => ?_⟩
          have nT : aP ≠ pT := ne_of_none eP6 hT
          refine ⟨aP, _, _, rfl, rfl, (by rw [upd_ne nT]; exact eP6), ?_, ?_⟩
          · rw [List.length_map]
            exact Nat.lt_of_lt_of_le (show ps'.length < 10000 by omega) (sizeLine_ge (Nat.le_refl _))
          refine ⟨_, rfl, _, _, rfl, rfl, R2.length, by simp, R2, a' + 1, _, ps' ++ [pT], rfl, upd_new hP ((upd_new hL0 s5).trans (same_new hT)), m6, ?_, ?_, ?_, ?_, ?_, rfl⟩
          · rw [upd_same, List.map_append]
            rfl
          · refine Paired.app ((pcs5.tups (Tups.upd eL6)).tups ((Tups.of (same_new hT)).trans (Tups.upd ((same_new hT) _ _ eP6)))) (.cons ?_ .nil)
            rw [upd_ne nT.symm, upd_same, cl41]
            rfl
          · have nT2 : aL ≠ pT := ne_of_none (upd_same (H := H5) (o := .lst (lkV R2))) hT
            rw [upd_ne nPL.symm, upd_ne nT2, upd_same]
          · have := (List.getElem?_eq_some_iff.mp at41).1
            omega
          · have h : Rsize (([] : List U.Tm) :: R2) = Rsize R2 := by simp [Rsize]
            omega
        | cons k2 ks2 =>
          rw [decide_eq_false (show ¬ V.int ((k2 :: ks2).length : Nat) = V.int 0 from fun h => by have h := V.int.inj h; simp at h; omega)]
          obtain ⟨at32, ah6⟩ := m5.next
          refine iteF ?_
          refine ⟨_, rfl, true, .inl ⟨_, .inl (.inl eL5), tru⟩, iteF ?_⟩
          have bl : Str.ofString " " = tx [32] := by decide +kernel
          refine ⟨_, rfl, _, rfl, k0.pr, a', 32, by rw [bl]; rfl, hl, at32, ?_⟩
          refine ⟨_, rfl, _, rfl, aL, _, _, rfl, rfl, .inl (.inl eL6), _, _, rfl, rfl, aL, _, _, _, rfl, rfl, eL6, ixN_end _ _, ?_⟩
          rw [set_end]
          refine ⟨k2.size + Rsize (ks2 :: R2), ?_, k2, ks2 :: R2, a' + 1, d', ps', _, rfl, upd_new hL0 s5, ah6, ?_, pcs5.tups (Tups.upd eL5), ?_, rfl⟩
          · have h : Rsize ((k2 :: ks2) :: R2) = k2.size + Rsize (ks2 :: R2) := by
              simp [Rsize]
              omega
            omega
          · rw [upd_ne nPL]
            exact eP5
          · rw [upd_same, lkV_cons]
            simp
end
end K


set_option Elab.async false
set_option linter.all false
set_option maxRecDepth 100000
set_option maxHeartbeats 4000000
namespace K
open PySem PySem.Spec PyProof.Rows L2 U
def spCheck : Sp := fun vs H Q _ => ∃ (p : Addr) (ps : List Addr) (cs : List Pc), vs = [.ref p] ∧ H p = some (.lst (ps.map V.ref)) ∧ PcsAt H ps cs ∧ (cs.foldl szStep ⟨0, 0, 0⟩).d ≤ 30 ∧ (cs.foldl szStep ⟨0, 0, 0⟩).n ≤ 200 ∧ Q .non H
section
variable {P : Program} {w : World} {K : PySem.W.Frag} {mg : Str → Option Value} {base : Heap} {dW dB : Addr} {esW : Array DictEntry} {nW : Nat} (T : Txt K mg w dW dB esW nW)
include T
theorem ok_check_size {f : Addr} {fd : FuncData} (F : Fun K "check_size" "check_size" s_check_size f fd) : FnOk P w K mg base CX0 1 f fd ["pieces"] spCheck := by
  refine F.ok sc_check_size (fun vs H Q E h => ?_) (fun cdv A outer s H vs Q E hr h => ?_)
  · obtain ⟨p, ps, cs, rfl, _⟩ := h
    rfl
  · obtain ⟨p, ps, cs, rfl, hp, pcs, h30, h200, q⟩ := h
    refine ⟨_, (pss_cons (ps_set (i := 1) sc_check_size.nd rfl (.inl rfl) pe_int)
      (pss_cons (ps_set (i := 2) sc_check_size.nd rfl (.inl rfl) pe_int)
      (pss_cons (ps_set (i := 3) sc_check_size.nd rfl (.inl rfl) pe_int)
      (pss_cons (ps_for PassesOwn.never rfl (pi_list (pv 0)) (pg_name (i := 4) sc_check_size.nd rfl (.inl rfl)) 
        (Evl.pss_cut (ps_if (pt_cmpR op_eq (pe_ix ix_tup (pv 4) pe_int (fun _ _ => rfl)) (pe_globS (by rfl) T.g_CLOSE) (nomark _)) 
          (pss_one (ps_aug (i := 1) sc_check_size.nd rfl (.inl rfl) pe_int ip_sub)) 
          (pss_one (ps_aug (i := 2) sc_check_size.nd rfl (.inl rfl) pe_int ip_add)))
        (pss_one (ps_if (pt_cmpR (op_in_tab T.W) (pe_ix ix_tup (pv 4) pe_int (fun _ _ => rfl)) (pe_globR (by rfl) T.gW) (by rfl)) 
          (pss_cons (ps_aug (i := 1) sc_check_size.nd rfl (.inl rfl) pe_int ip_add)
          (pss_one (ps_set (i := 3) sc_check_size.nd rfl (.inl rfl) (pe_callB (call_max2 rfl) (by rfl) T.z_max (by decide +kernel) (pa_cons (pv 3) (pa_cons (pv 1) pa_nil)))))) pss_nil))))
      (pss_cons (ps_if (pt_cmpR op_gt (pv 3) (pe_globI (by rfl) T.g_MOST_OPEN) (nomark _)) 
        (pss_one (ps_never)) pss_nil)
      (pss_one (ps_if (pt_cmpR op_gt (pv 2) (pe_globI (by rfl) T.g_MOST_TERMS) (nomark _)) 
        (pss_one (ps_never)) pss_nil))))))), ?_⟩
    have len := pcs.length
    have cl41 : Str.ofString ")" = tx [41] := by decide +kernel
    refine ⟨_, rfl, p, rfl, ⟨_, .inl (.inl hp)⟩, for_it (walk_list (xs := ps.map V.ref)) (fun i σ H' => H' = H ∧ ∃ (z : Sz) (x4 : Option V), σ = [some (.ref p), some (.int z.o), some (.int z.n), some (.int z.d), x4] ∧ z = (cs.take i).foldl szStep ⟨0, 0, 0⟩)
      ⟨rfl, ⟨0, 0, 0⟩, _, rfl, rfl⟩ (fun i σ H' _ h => by rw [h.1]; exact .inl (.inl hp)) ?_ ?_⟩
    · rintro i x σ H1 H2 hi ⟨rfl, z, x4, rfl, hz⟩ ⟨rfl, hx⟩
      rw [List.length_map] at hi
      have hc : cs[i]? = some cs[i] := List.getElem?_eq_getElem (by omega)
      obtain ⟨pi, hpi, tp⟩ := Paired.at_ pcs hc
      have ex : x = .ref pi := by
        rw [List.getElem?_map, hpi] at hx
        exact (Option.some.inj hx).symm
      subst ex
      have nxt : (cs.take (i + 1)).foldl szStep ⟨0, 0, 0⟩ = szStep z cs[i] := by
        rw [List.take_add_one, hc, List.foldl_append, ← hz]
        rfl
      generalize cs[i] = c at tp nxt
      refine ⟨fun σ' H' => H' = H2 ∧ σ' = [some (.ref p), some (.int (sz1 c z).o), some (.int (sz1 c z).n), some (.int (sz1 c z).d), some (.ref pi)], ?_, ?_⟩
      · refine ⟨_, rfl, pi, _, _, _, rfl, rfl, .inl (.inl tp), rfl, rfl, _, rfl, ?_⟩
        rw [cl41, str_eq]
        unfold sz1
        by_cases h : c.kind = [41]
        · rw [decide_eq_true h, if_pos h]
          exact iteT ⟨_, rfl, _, _, rfl, rfl, rfl, rfl⟩
        · rw [decide_eq_false h, if_neg h]
          exact iteF ⟨_, rfl, _, _, rfl, rfl, rfl, rfl⟩
      · rintro σ' H' ⟨rfl, rfl⟩
        refine ⟨_, rfl, pi, _, _, _, rfl, rfl, .inl (.inl tp), rfl, tx c.kind, rfl, rfl, _, rfl, ?_⟩
        by_cases h : isWd c.kind
        · rw [decide_eq_true ((in_keys _).mpr h)]
          refine iteT ⟨_, rfl, _, _, rfl, rfl, _, rfl, _, rfl, _, _, rfl, rfl, szStep z c, some (.ref pi), ?_, nxt.symm⟩
          have e : szStep z c = ⟨(sz1 c z).o + 1, (sz1 c z).n, max (sz1 c z).d ((sz1 c z).o + 1)⟩ := by
            unfold szStep sz2
            rw [if_pos h]
          rw [e]
          have e2 : (if (sz1 c z).o + 1 > (sz1 c z).d then (sz1 c z).o + 1 else (sz1 c z).d) = max (sz1 c z).d ((sz1 c z).o + 1) := by
            split <;> omega
          show _ = [some (V.ref p), some (V.int ((sz1 c z).o + 1)), some (V.int (sz1 c z).n), some (V.int (max (sz1 c z).d ((sz1 c z).o + 1))), some (V.ref pi)]
          rw [← e2]
          rfl
        · rw [decide_eq_false (fun e => h ((in_keys _).mp e))]
          refine iteF ⟨rfl, szStep z c, some (.ref pi), ?_, nxt.symm⟩
          have e : szStep z c = sz1 c z := by
            unfold szStep sz2
            rw [if_neg h]
          rw [e]
    · rintro σ H1 ⟨rfl, z, x4, rfl, hz⟩
      rw [List.length_map, len, List.take_length] at hz
      rw [← hz] at h30 h200
      refine ⟨_, rfl, _, _, rfl, rfl, _, rfl, ?_⟩
      rw [decide_eq_false (show ¬ (30 : Int) < z.d by omega)]
      refine iteF ⟨_, rfl, _, _, rfl, rfl, _, rfl, ?_⟩
      rw [decide_eq_false (show ¬ (200 : Int) < z.n by omega)]
      exact iteF q
end
end K


set_option Elab.async false
set_option linter.all false
set_option maxRecDepth 100000
set_option maxHeartbeats 4000000
namespace K
open PySem PySem.Spec PyProof.Rows L2 U
/-- the class Tree as the top has made it -/
structure TreeC (K : PySem.W.Frag) (C : Addr) : Prop where
  cl : Cls K C
  nt : NoAttr K C "text"
  nk : NoAttr K C "kind"
  ns : NoAttr K C "small"
  nw : NoAttr K C "within"
  nf : NoAttr K C "free"
  nc : NoAttr K C "code"
/-- a tree at q, its free names -/
def FreeAt (C : Addr) (H : Hp) (q : Addr) (fr : List Str) : Prop := ∃ dx fs tf, H q = some (.ins C dx fs) ∧ fs.lookup ("free" : Str) = some (.ref tf) ∧ H tf = some (.tup (fr.map V.str))
theorem FreeAt.same {C : Addr} {H H' : Hp} {q : Addr} {fr : List Str} (h : FreeAt C H q fr) (s : Same H H') : FreeAt C H' q fr := by
  obtain ⟨dx, fs, tf, h1, h2, h3⟩ := h
  exact ⟨dx, fs, tf, s _ _ h1, h2, s _ _ h3⟩
/-- all free names within, the last one's without the small name -/
def found (frs : List (List Str)) (small : V) : List Str := frs.dropLast.flatten ++ ((frs.drop (frs.length - 1)).flatten.filter fun y => !decide (V.str y = small))
/-- what these slices of a tuple are -/
theorem sl_most {K : PySem.W.Frag} {H : Hp} {a : Addr} {xs : List V} {Q : VK} (h : SqT K H a xs) (hQ : ∀ p H', Same H H' → SqT K H' p xs.dropLast → Q (.ref p) H') : rSlA K (.ref a) none (some (-1)) H Q := by
  have e1 : HT.sIx xs.length xs.length (some (-1)) = xs.length - 1 := by
    show (if (-1 : Int) < 0 then (-1 + (xs.length : Int)).toNat else min (-1 : Int).toNat xs.length) = _
    rw [if_pos (by decide)]
    omega
  refine ⟨a, xs, rfl, h, fun e => ?_, fun e p hp => ?_⟩
  · rw [e1] at e
    have e2 : xs = [] := List.eq_nil_of_length_eq_zero (by omega)
    subst e2
    exact hQ a H (Same.refl H) h
  · refine hQ p _ (same_new hp) (.inl (.inl (upd_same.trans ?_)))
    unfold cutV
    rw [e1, HT.sIx_none, List.drop_zero, Nat.sub_zero, List.dropLast_eq_take]
theorem no_part {σ : L2.St} {H : Hp} {Q : Option Int → Hp → Prop} (h : Q none H) : tNoPart σ H Q := h
theorem sl_end {K : PySem.W.Frag} {H : Hp} {a : Addr} {xs : List V} {Q : VK} (h : SqT K H a xs) (hQ : ∀ p H', Same H H' → SqT K H' p (xs.drop (xs.length - 1)) → Q (.ref p) H') : rSlA K (.ref a) (some (-1)) none H Q := by
  have e1 : HT.sIx xs.length 0 (some (-1)) = xs.length - 1 := by
    show (if (-1 : Int) < 0 then (-1 + (xs.length : Int)).toNat else min (-1 : Int).toNat xs.length) = _
    rw [if_pos (by decide)]
    omega
  refine ⟨a, xs, rfl, h, fun e => ?_, fun e p hp => ?_⟩
  · rw [e1] at e
    have e2 := e.1
    refine hQ a H (Same.refl H) ?_
    rw [e2, List.drop_zero]
    exact h
  · refine hQ p _ (same_new hp) (.inl (.inl (upd_same.trans ?_)))
    unfold cutV
    rw [e1, HT.sIx_none, List.take_of_length_le (by rw [List.length_drop]; exact Nat.le_refl _)]
/-- free_in of a tree whose kind, text, small, within stand -/
def spFreeIn (C : Addr) : Sp := fun vs H Q _ => ∃ (p dx tw : Addr) (fs : List (Str × V)) (text kind : List Nat) (small : V) (qs : List Addr) (frs : List (List Str)), vs = [.ref p] ∧ H p = some (.ins C dx fs) ∧
  fs.lookup ("kind" : Str) = some (.str (tx kind)) ∧ fs.lookup ("text" : Str) = some (.str (tx text)) ∧ fs.lookup ("small" : Str) = some small ∧ (small = .non ∨ ∃ z, small = .str z) ∧ fs.lookup ("within" : Str) = some (.ref tw) ∧ H tw = some (.tup (qs.map V.ref)) ∧
  Paired (FreeAt C H) qs frs ∧ (found frs small).length ≤ 1000 ∧ (∃ N : List Str, N.length < 64 ∧ ∀ x ∈ found frs small, x ∈ N) ∧
  ∀ r H' ys, Same H H' → H' r = some (.tup (ys.map V.str)) → (kind = Kd.name.cs → ys = [tx text]) → (kind ≠ Kd.name.cs → ys.Nodup ∧ sortedS ys = true ∧ ∀ x, x ∈ ys ↔ x ∈ found frs small) → Q (.ref r) H'
theorem SqT.updL {K : PySem.W.Frag} {H : Hp} {a b : Addr} {l xs : List V} {o : HO} (e : H a = some (.lst l)) (h : SqT K H b xs) : SqT K (upd H a o) b xs := by
  rcases h with (h | ⟨ob, h⟩) | h
  · exact .inl (.inl (by rw [upd_ne (ne_of h e (by intro z; cases z))]; exact h))
  · exact .inl (.inr ⟨ob, by rw [upd_ne (ne_of h e (by intro z; cases z))]; exact h⟩)
  · exact .inr h
theorem Same.seqT {K : PySem.W.Frag} {H H' : Hp} {a : Addr} {xs : List V} (e : Same H H') (h : SqT K H a xs) : SqT K H' a xs := by
  rcases h with (h | ⟨o, h⟩) | h
  · exact .inl (.inl (e _ _ h))
  · exact .inl (.inr ⟨o, e _ _ h⟩)
  · exact .inr h
theorem flat_take {α : Type} (l : List (List α)) (n : Nat) : (l.take n).flatten.length ≤ l.flatten.length := by
  have h : l.flatten = (l.take n).flatten ++ (l.drop n).flatten := by rw [← List.flatten_append, List.take_append_drop]
  rw [h, List.length_append]
  omega
theorem nodup_sub {α : Type} [DecidableEq α] : ∀ (l N : List α), l.Nodup → (∀ x ∈ l, x ∈ N) → l.length ≤ N.length
  | [], N, _, _ => Nat.zero_le _
  | x :: l, N, h, s => by
    obtain ⟨h1, h2⟩ := List.nodup_cons.mp h
    have hx := s x List.mem_cons_self
    have ih := nodup_sub l (N.erase x) h2 fun y hy => by
      have ne : y ≠ x := fun e => h1 (e ▸ hy)
      exact (List.mem_erase_of_ne ne).mpr (s y (List.mem_cons_of_mem _ hy))
    rw [List.length_erase_of_mem hx] at ih
    have := List.length_pos_of_mem hx
    rw [List.length_cons]
    omega
section
variable {P : Program} {w : World} {K : PySem.W.Frag} {mg : Str → Option Value} {base : Heap} {dW dB : Addr} {esW : Array DictEntry} {nW : Nat} (T : Txt K mg w dW dB esW nW)
include T
theorem ok_free_in {f C : Addr} {fd : FuncData} (F : Fun K "free_in" "free_in" s_free_in f fd) (TC : TreeC K C) : FnOk P w K mg base CX0 1 f fd ["tree"] (spFreeIn C) := by
  refine F.ok sc_free_in (fun vs H Q E h => ?_) (fun cdv A outer s H vs Q E hr h => ?_)
  · obtain ⟨p, dx, tw, fs, text, kind, small, qs, frs, rfl, _⟩ := h
    rfl
  · obtain ⟨p, dx, tw, fs, text, kind, small, qs, frs, rfl, hp, hk, ht, hs, hs2, hw, htw, pf, hlen, ⟨N, hN, hN2⟩, q⟩ := h
    refine ⟨_, (pss_cons (ps_if (pt_cmpR op_eq (pe_fld (pv 0) (by rfl)) pe_str (nomark _)) 
        (pss_one (ps_ret (pe_tup (pa_cons (pe_fld (pv 0) (by rfl)) pa_nil)))) pss_nil)
      (pss_cons (ps_set (i := 1) sc_free_in.nd rfl (.inl rfl) (pe_lst pa_nil))
      (pss_cons (ps_for PassesOwn.never rfl (pi_tup (pe_slice sl_tupA (pe_fld (pv 0) (by rfl)) po_none (po_some (pe_un un_neg pe_int)))) (pg_name (i := 2) sc_free_in.nd rfl (.inl rfl)) 
        (pss_one (ps_expr (pe_bm PySem.F.plainAttrs_list PySem.F.slot_list_extend PySem.F.type_list_extend mt_extendT (pv 1) (pa_cons (pe_fld (pv 2) (by rfl)) pa_nil)))))
      (pss_cons (ps_for PassesOwn.never rfl (pi_tup (pe_slice sl_tupA (pe_fld (pv 0) (by rfl)) (po_some (pe_un un_neg pe_int)) po_none)) (pg_name (i := 2) sc_free_in.nd rfl (.inl rfl)) 
        (pss_one (ps_expr (pe_bm PySem.F.plainAttrs_list PySem.F.slot_list_extend PySem.F.type_list_extend mt_extend (pv 1) (pa_cons (pe_lc (own := [("small", 3)]) (g := gName 3) (tt := tTest (tOp rNe (tVar 3) (tFld K (tVar 0) "small"))) rfl sc_free_in.nd (pi_tup (pe_fld (pv 2) (by rfl))) (blkOk_by (N := nm_free_in) (sc := defScope s_free_in) (by decide +kernel)) (fun _ _ _ _ _ => pg_name (i := 3) sc_free_in.nd rfl (.inl rfl)) (fun _ _ _ _ _ => pts_one (pt_cmpR op_ne (pv 3) (pe_fld (pv 0) (by rfl)) (nomark _))) (fun _ _ _ _ _ => (pv 3))) pa_nil)))))
      (pss_one (ps_ret (pe_callTy call_tuple_of (by rfl) T.z_tuple (by decide +kernel) (pa_cons (pe_callB (cr_sortedOf rfl) (by rfl) T.z_sorted (by decide +kernel) (pa_cons (pe_callTy (cr_setOf rfl) (by rfl) T.z_set (by decide +kernel) (pa_cons (pv 1) pa_nil)) pa_nil)) pa_nil)))))))), ?_⟩
    have nm : Str.ofString "name" = tx Kd.name.cs := by decide +kernel
    refine ⟨_, rfl, p, C, dx, _, _, rfl, hp, TC.cl, TC.nk, hk, rfl, _, rfl, ?_⟩
    rw [nm, str_eq]
    by_cases h : kind = Kd.name.cs
    · rw [decide_eq_true h]
      refine iteT ⟨_, rfl, p, C, dx, _, _, rfl, hp, TC.cl, TC.nt, ht, sizeLine_ge (by show 1 ≤ 10000; decide), fun r hr => ?_⟩
      exact q r _ [tx text] (same_new hr) upd_same (fun _ => rfl) fun z => absurd h z
    · rw [decide_eq_false h]
      refine iteF ⟨Nat.zero_le _, fun aF hF => ?_⟩
      have s0 : Same H (upd H aF (.lst [])) := same_new hF
      refine ⟨_, rfl, p, C, dx, _, _, rfl, s0 _ _ hp, TC.cl, TC.nw, hw, _, rfl, ?_⟩
      have plen := pf.length
      have fl : (frs.dropLast.flatten).length + ((frs.drop (frs.length - 1)).flatten.filter fun y => !decide (V.str y = small)).length ≤ 1000 := by
        rw [← List.length_append]
        exact hlen
      -- the first ones' free names
      refine ⟨_, rfl, sl_most (.inl (.inl (s0 _ _ htw))) fun b1 H1 s1 hb1 => ⟨b1, rfl, ⟨_, hb1⟩, for_it (walk_tup (xs := (qs.map V.ref).dropLast)) (fun i σ H' => Same H H' ∧ SqT K H' b1 (qs.map V.ref).dropLast ∧ ∃ x2 x3, σ = [some (.ref p), some (.ref aF), x2, x3] ∧ H' aF = some (.lst ((frs.dropLast.take i).flatten.map V.str)))
        ⟨s0.trans s1, hb1, _, _, rfl, s1 _ _ upd_same⟩ (fun i σ H' _ h => h.2.1) ?_ ?_⟩⟩
      · rintro i x σ H2 H3 hi ⟨s2, hb2, x2, x3, rfl, eF⟩ ⟨rfl, hx⟩
        rw [List.length_dropLast, List.length_map] at hi
        have hq : qs[i]? = some qs[i] := List.getElem?_eq_getElem (by omega)
        have hr2 : frs[i]? = some frs[i] := List.getElem?_eq_getElem (by omega)
        obtain ⟨qi, e1, dq, fq, tf, g1, g2, g3⟩ := Paired.at_ pf hr2
        have ex : x = .ref qi := by
          rw [List.getElem?_dropLast, if_pos (by rw [List.length_map]; omega), List.getElem?_map, e1] at hx
          exact (Option.some.inj hx).symm
        subst ex
        have hd : frs.dropLast[i]? = some frs[i] := by
          rw [List.getElem?_dropLast, if_pos (by omega), hr2]
        have nF : aF ≠ b1 ∨ True := .inr trivial
        refine ⟨_, rfl, .inl ⟨rfl, _, .inl (.inl eF)⟩, _, rfl, qi, C, dq, _, _, rfl, s2 _ _ g1, TC.cl, TC.nf, g2, aF, tf, _, _, rfl, rfl, eF, .inl (.inl (s2 _ _ g3)), ?_, ?_⟩
        · have h := flat_take frs.dropLast (i + 1)
          rw [List.take_add_one, hd, List.flatten_append, List.length_append] at h
          simp only [Option.toList_some, List.flatten_cons, List.flatten_nil, List.append_nil] at h
          rw [List.length_map, List.length_map]
          exact sizeLine_ge (by omega)
        · refine ⟨upd_new hF s2, SqT.updL eF hb2, _, _, rfl, ?_⟩
          · rw [upd_same, List.take_add_one, hd, List.flatten_append, List.map_append]
            simp
      · rintro σ H2 ⟨s2, hb2, x2, x3, rfl, eF⟩
        rw [List.length_dropLast, List.length_map, plen, show frs.length - 1 = frs.dropLast.length by rw [List.length_dropLast], List.take_length] at eF
        -- the last one's free names
        refine ⟨_, rfl, p, C, dx, _, _, rfl, s2 _ _ hp, TC.cl, TC.nw, hw, _, rfl, _, rfl, ?_⟩
        refine no_part ?_
        refine sl_end (.inl (.inl (s2 _ _ htw))) fun b2 H3 s3 hb3 => ⟨b2, rfl, ⟨_, hb3⟩, for_it (walk_tup (xs := (qs.map V.ref).drop ((qs.map V.ref).length - 1)))
          (fun i σ H' => Same H H' ∧ SqT K H' b2 ((qs.map V.ref).drop ((qs.map V.ref).length - 1)) ∧ ∃ x2 x3, σ = [some (.ref p), some (.ref aF), x2, x3] ∧
            H' aF = some (.lst ((frs.dropLast.flatten ++ (((frs.drop (frs.length - 1)).take i).flatten.filter fun y => !decide (V.str y = small))).map V.str)))
          ⟨s2.trans s3, hb3, _, _, rfl, by rw [s3 _ _ eF]; simp⟩ (fun i σ H' _ h => h.2.1) ?_ ?_⟩
        · rintro i x σ H4 H5 hi ⟨s4, hb4, y2, y3, rfl, eF4⟩ ⟨rfl, hx⟩
          rw [List.length_drop, List.length_map] at hi
          have hi0 : i = 0 := by omega
          subst hi0
          have hr2 : frs[frs.length - 1]? = some (frs[frs.length - 1]'(by omega)) := List.getElem?_eq_getElem (by omega)
          obtain ⟨qi, e1, dq, fq, tf, g1, g2, g3⟩ := Paired.at_ pf hr2
          have ex : x = .ref qi := by
            rw [List.getElem?_drop, List.getElem?_map, List.length_map, Nat.add_zero, plen, e1] at hx
            exact (Option.some.inj hx).symm
          subst ex
          have hd : (frs.drop (frs.length - 1)).take 1 = [frs[frs.length - 1]'(by omega)] := by
            rw [List.take_one, List.head?_drop, hr2]
            rfl
          have hd2 : frs.drop (frs.length - 1) = [frs[frs.length - 1]'(by omega)] := by
            rw [← hd, List.take_of_length_le (by rw [List.length_drop]; omega)]
          rw [hd2] at fl
          generalize frs[frs.length - 1]'(by omega) = fr at g3 hd fl
          simp only [List.flatten_cons, List.flatten_nil, List.append_nil] at fl
          have eF5 : H5 aF = some (.lst (frs.dropLast.flatten.map V.str)) := by
            rw [eF4]
            simp
          refine ⟨_, rfl, .inl ⟨rfl, _, .inl (.inl eF5)⟩, _, rfl, qi, C, dq, _, _, rfl, s4 _ _ g1, TC.cl, TC.nf, g2, tf, rfl, ⟨_, .inl (.inl (s4 _ _ g3))⟩, fun D hD => lc_it (walk_tup (xs := fr.map V.str))
            (fun j H' => Same H5 H' ∧ H' D = some (.lst (((fr.take j).filter fun y => !decide (V.str y = small)).map V.str))) ⟨same_new hD, upd_same⟩ (fun j H' _ h => .inl (.inl (h.1 _ _ (s4 _ _ g3)))) ?_ ?_⟩
          · rintro j x H6 H7 hj ⟨s6, d6⟩ ⟨rfl, hx⟩
            rw [List.length_map] at hj
            have hy : x = .str fr[j] := by
              rw [List.getElem?_map, List.getElem?_eq_getElem hj] at hx
              exact (Option.some.inj hx).symm
            subst hy
            have sc : scal (V.str fr[j]) small = true := by
              rcases hs2 with h | ⟨z, h⟩ <;> rw [h] <;> rfl
            refine ⟨rfl, _, rfl, _, rfl, p, C, dx, _, _, rfl, s6 _ _ (s4 _ _ hp), TC.cl, TC.ns, hs, sc, _, rfl, ?_⟩
            have tk : (fr.take (j + 1)).filter (fun y => !decide (V.str y = small)) = (fr.take j).filter (fun y => !decide (V.str y = small)) ++ (if !decide (V.str fr[j] = small) then [fr[j]] else []) := by
              rw [List.take_add_one, List.getElem?_eq_getElem hj, List.filter_append]
              simp [List.filter_cons]
            by_cases hc : V.str fr[j] = small
            · rw [decide_eq_true hc] at tk ⊢
              refine iteF ⟨s6, ?_⟩
              rw [tk, d6]
              simp
            · rw [decide_eq_false hc] at tk ⊢
              refine iteT ⟨_, rfl, _, d6, ?_, fun b o e => ?_, ?_⟩
              · have := ((List.take_sublist j fr).filter fun y => !decide (V.str y = small)).length_le
                rw [List.length_map]
                exact small1000 (by omega)
              · rw [upd_ne (ne_of_none e hD)]
                exact s6 _ _ e
              · rw [upd_same, tk]
                simp
          · rintro H6 ⟨s6, d6⟩
            rw [List.length_map, List.take_length] at d6
            refine ⟨aF, D, _, _, rfl, rfl, s6 _ _ eF5, d6, ?_, ?_⟩
            · rw [List.length_map, List.length_map]
              exact sizeLine_ge (by omega)
            · refine ⟨upd_new hF (s4.trans s6), SqT.updL (s6 _ _ eF5) (Same.seqT s6 hb4), _, _, rfl, ?_⟩
              rw [upd_same, hd]
              simp
        · rintro σ H4 ⟨s4, hb4, y2, y3, rfl, eF4⟩
          rw [List.take_of_length_le (by rw [List.length_drop, List.length_drop, List.length_map]; omega)] at eF4
          -- tuple(sorted(set(found)))
          refine ⟨_, rfl, aF, found frs small, rfl, .inl (.inl eF4), ?_, fun a1 l s1' ll h1 => ⟨a1, l, rfl, upd_same, ?_, fun ys a2 pm so h2 => ⟨a2, ys.map V.str, rfl, .inl ⟨.inl (.inl upd_same), fun a3 h3 => ?_⟩⟩⟩⟩
          · exact Nat.lt_of_le_of_lt (Nat.add_le_add_right hlen 1) (by decide)
          · exact Nat.lt_of_le_of_lt (nodup_sub l N s1'.1 fun x hx => hN2 x ((s1'.2 x).mp hx)) hN
          · refine q a3 _ ys (s4.trans ((same_new h1).trans ((same_new h2).trans (same_new h3)))) upd_same (fun z => absurd z h) fun _ => ⟨pm.nodup_iff.mpr s1'.1, so, fun x => by rw [pm.mem_iff, s1'.2]⟩
end
end K


set_option Elab.async false
set_option linter.all false
set_option maxRecDepth 100000
set_option maxHeartbeats 4000000
namespace K
open PySem PySem.Spec PyProof.Rows L2 U
/-- a tree's attributes, in the order in which they are set -/
def treeF (t k s w f c : V) : List (Str × V) := putF "code" c (putF "free" f (putF "within" w (putF "small" s (putF "kind" k (putF "text" t [])))))
theorem ne_tk : ¬ (("text" : Str) = "kind") := by decide +kernel
theorem ne_ts : ¬ (("text" : Str) = "small") := by decide +kernel
theorem ne_tw : ¬ (("text" : Str) = "within") := by decide +kernel
theorem ne_tf : ¬ (("text" : Str) = "free") := by decide +kernel
theorem ne_tc : ¬ (("text" : Str) = "code") := by decide +kernel
theorem ne_kc : ¬ (("kind" : Str) = "code") := by decide +kernel
theorem ne_sc : ¬ (("small" : Str) = "code") := by decide +kernel
theorem ne_wc : ¬ (("within" : Str) = "code") := by decide +kernel
theorem ne_fc : ¬ (("free" : Str) = "code") := by decide +kernel
theorem ne_ks : ¬ (("kind" : Str) = "small") := by decide +kernel
theorem ne_kw : ¬ (("kind" : Str) = "within") := by decide +kernel
theorem ne_kf : ¬ (("kind" : Str) = "free") := by decide +kernel
theorem ne_sw : ¬ (("small" : Str) = "within") := by decide +kernel
theorem ne_sf : ¬ (("small" : Str) = "free") := by decide +kernel
theorem ne_wf : ¬ (("within" : Str) = "free") := by decide +kernel
section
variable (t k s w f c : V)
theorem tF_text : (treeF t k s w f c).lookup ("text" : Str) = some t := by
  unfold treeF
  rw [lookup_putF, if_neg ne_tc, lookup_putF, if_neg ne_tf, lookup_putF, if_neg ne_tw, lookup_putF, if_neg ne_ts, lookup_putF, if_neg ne_tk, lookup_putF, if_pos rfl]
theorem tF_kind : (treeF t k s w f c).lookup ("kind" : Str) = some k := by
  unfold treeF
  rw [lookup_putF, if_neg ne_kc, lookup_putF, if_neg ne_kf, lookup_putF, if_neg ne_kw, lookup_putF, if_neg ne_ks, lookup_putF, if_pos rfl]
theorem tF_small : (treeF t k s w f c).lookup ("small" : Str) = some s := by
  unfold treeF
  rw [lookup_putF, if_neg ne_sc, lookup_putF, if_neg ne_sf, lookup_putF, if_neg ne_sw, lookup_putF, if_pos rfl]
theorem tF_within : (treeF t k s w f c).lookup ("within" : Str) = some w := by
  unfold treeF
  rw [lookup_putF, if_neg ne_wc, lookup_putF, if_neg ne_wf, lookup_putF, if_pos rfl]
theorem tF_free : (treeF t k s w f c).lookup ("free" : Str) = some f := by
  unfold treeF
  rw [lookup_putF, if_neg ne_fc, lookup_putF, if_pos rfl]
theorem tF_code : (treeF t k s w f c).lookup ("code" : Str) = some c := by
  unfold treeF
  rw [lookup_putF, if_pos rfl]
end
def spTreeInit (C : Addr) : Sp := fun vs H Q _ => ∃ (p dx l : Addr) (text kind : List Nat) (small : V) (qs : List Addr) (frs : List (List Str)), vs = [.ref p, .str (tx text), .str (tx kind), small, .ref l] ∧ H p = some (.ins C dx []) ∧
  (small = .non ∨ ∃ z, small = .str z) ∧ H l = some (.lst (qs.map V.ref)) ∧ Paired (FreeAt C H) qs frs ∧ (found frs small).length ≤ 1000 ∧ (∃ N : List Str, N.length < 64 ∧ ∀ x ∈ found frs small, x ∈ N) ∧
  ∀ H' tw tf ys, But p H H' → H' p = some (.ins C dx (treeF (.str (tx text)) (.str (tx kind)) small (.ref tw) (.ref tf) .non)) → H' tw = some (.tup (qs.map V.ref)) → H' tf = some (.tup (ys.map V.str)) →
    (kind = Kd.name.cs → ys = [tx text]) → (kind ≠ Kd.name.cs → ys.Nodup ∧ sortedS ys = true ∧ ∀ x, x ∈ ys ↔ x ∈ found frs small) → Q .non H'
theorem FreeAt.but {C : Addr} {H H' : Hp} {p dx : Addr} {fs : List (Str × V)} {q : Addr} {fr : List Str} (h : FreeAt C H q fr) (hp : H p = some (.ins C dx fs)) (hf : fs.lookup ("free" : Str) = none) (b : But p H H') : FreeAt C H' q fr := by
  obtain ⟨dq, fq, tf, h1, h2, h3⟩ := h
  have n1 : q ≠ p := fun e => by
    rw [e, hp] at h1
    have e2 := Option.some.inj h1
    injection e2 with _ _ e3
    rw [← e3, hf] at h2
    cases h2
  have n2 : tf ≠ p := ne_of h3 hp (by intro z; cases z)
  exact ⟨dq, fq, tf, b _ _ h1 n1, h2, b _ _ h3 n2⟩
section
variable {P : Program} {w : World} {K : PySem.W.Frag} {mg : Str → Option Value} {base : Heap} {dW dB : Addr} {esW : Array DictEntry} {nW : Nat} (T : Txt K mg w dW dB esW nW)
include T
theorem ok_Tree_init {f f1 C : Addr} {fd fd1 : FuncData} (F : Fun K "__init__" "Tree.__init__" s_Tree___init__ f fd) (TC : TreeC K C) (h_free_in : Has P w K mg base "free_in" 1 ["tree"] (spFreeIn C) f1 fd1) : FnOk P w K mg base CX0 2 f fd ["self", "text", "kind", "small", "within"] (spTreeInit C) := by
  refine F.ok sc_Tree___init__ (fun vs H Q E h => ?_) (fun cdv A outer s H vs Q E hr h => ?_)
  · obtain ⟨p, dx, l, text, kind, small, qs, frs, rfl, _⟩ := h
    rfl
  · obtain ⟨p, dx, l, text, kind, small, qs, frs, rfl, hp, hs2, hl, pf, hlen, hN, q⟩ := h
    refine ⟨_, (pss_cons (ps_fld (pv 0) (pv 1) rfl)
      (pss_cons (ps_fld (pv 0) (pv 2) rfl)
      (pss_cons (ps_fld (pv 0) (pv 3) rfl)
      (pss_cons (ps_fld (pv 0) (pe_callTy call_tuple_of (by rfl) T.z_tuple (by decide +kernel) (pa_cons (pv 4) pa_nil)) rfl)
      (pss_cons (ps_fld (pv 0) (pe_callH h_free_in (hr.mono (by first | decide | omega)) (by rfl) (pa_cons (pv 0) pa_nil)) rfl)
      (pss_one (ps_fld (pv 0) pe_non rfl))))))), ?_⟩
    have npl : l ≠ p := ne_of hl hp (by intro z; cases z)
    refine ⟨_, rfl, _, rfl, p, C, dx, _, rfl, hp, TC.cl, TC.nt, by show 0 < 1000; decide, ?_⟩
    refine ⟨_, rfl, _, rfl, p, C, dx, _, rfl, upd_same, TC.cl, TC.nk, by show 1 < 1000; decide, ?_⟩
    refine ⟨_, rfl, _, rfl, p, C, dx, _, rfl, upd_same, TC.cl, TC.ns, by show 2 < 1000; decide, ?_⟩
    refine ⟨_, rfl, l, _, rfl, .inl ⟨.inl (.inl (by rw [upd_ne npl, upd_ne npl, upd_ne npl]; exact hl)), fun tw htw => ?_⟩⟩
    rw [upd_upd, upd_upd] at htw ⊢
    have ntw : p ≠ tw := ne_of_none upd_same htw
    have b1 : But p H (upd H p (.ins C dx (putF "small" small (putF "kind" (.str (tx kind)) (putF "text" (.str (tx text)) []))))) := But.upd
    refine ⟨_, rfl, p, C, dx, _, rfl, (by rw [upd_ne ntw]; exact upd_same), TC.cl, TC.nw, by show 3 < 1000; decide, ?_⟩
    have b2 := (b1.trans (But.of_same (same_new (o := .tup (qs.map V.ref)) htw))).trans (But.upd (o := .ins C dx (putF "within" (.ref tw) (putF "small" small (putF "kind" (.str (tx kind)) (putF "text" (.str (tx text)) []))))))
    have w2 : ∀ o, (upd (upd (upd H p (.ins C dx (putF "small" small (putF "kind" (.str (tx kind)) (putF "text" (.str (tx text)) []))))) tw (.tup (qs.map V.ref))) p o) tw = some (.tup (qs.map V.ref)) := fun o => by
      rw [upd_ne ntw.symm, upd_same]
    have pf2 : Paired (FreeAt C (upd (upd (upd H p (.ins C dx (putF "small" small (putF "kind" (.str (tx kind)) (putF "text" (.str (tx text)) []))))) tw (.tup (qs.map V.ref))) p (.ins C dx (putF "within" (.ref tw) (putF "small" small (putF "kind" (.str (tx kind)) (putF "text" (.str (tx text)) []))))))) qs frs :=
      Paired.mapP pf fun q fr h => h.but hp rfl b2
    refine ⟨_, rfl, p, dx, tw, _, text, kind, small, qs, frs, rfl, upd_same, ?_, ?_, ?_, hs2, ?_, w2 _, pf2, hlen, hN, fun r H' ys s1 hr hy1 hy2 => ?_⟩
    · rw [lookup_putF, if_neg ne_kw, lookup_putF, if_neg ne_ks, lookup_putF, if_pos rfl]
    · rw [lookup_putF, if_neg ne_tw, lookup_putF, if_neg ne_ts, lookup_putF, if_neg ne_tk, lookup_putF, if_pos rfl]
    · rw [lookup_putF, if_neg ne_sw, lookup_putF, if_pos rfl]
    · rw [lookup_putF, if_pos rfl]
    · have nrp : r ≠ p := ne_of hr (s1 _ _ upd_same) (by intro z; cases z)
      refine ⟨_, rfl, p, C, dx, _, rfl, s1 _ _ upd_same, TC.cl, TC.nf, by show 4 < 1000; decide, ?_⟩
      refine ⟨_, rfl, p, C, dx, _, rfl, upd_same, TC.cl, TC.nc, by show 5 < 1000; decide, ?_⟩
      rw [upd_upd]
      refine q _ tw r ys (b2.trans ((But.of_same s1).trans But.upd)) upd_same ?_ ?_ hy1 hy2
      · rw [upd_ne ntw.symm]
        exact s1 _ _ (w2 _)
      · rw [upd_ne nrp]
        exact hr
end
end K


set_option Elab.async false
set_option linter.all false
set_option maxRecDepth 100000
set_option maxHeartbeats 4000000
namespace K
open PySem PySem.Spec PyProof.Rows L2 U
/-- these are just the free names of a term -/
def FreeIs (t : U.Tm) (ys : List Str) : Prop := ys.Nodup ∧ sortedS ys = true ∧ ∀ x, x ∈ ys ↔ ∃ l, x = tx l ∧ t.Free l
theorem small_ne (w : Wd) (b : List Nat) (x : Str) : (!decide (V.str x = smV (sm w b))) = true ↔ ∀ l, x = tx l → (w.bd = true → l ≠ b) := by
  unfold sm
  cases hb : w.bd with
  | false => simp [smV]
  | true =>
    simp only [if_true, smV, Bool.not_eq_true', decide_eq_false_iff_not]
    constructor
    · intro h l hl _ e
      exact h (by rw [hl, e])
    · intro h e
      exact h b (V.str.inj e) trivial rfl
theorem found_free {t : U.Tm} {w : Wd} {b : List Nat} {ks : List U.Tm} (v : View t w b ks) {frs : List (List Str)} (h : Paired (fun fr k => FreeIs k fr) frs ks) (x : Str) : x ∈ found frs (smV (sm w b)) ↔ ∃ l, x = tx l ∧ t.Free l := by
  have hk := v.kids
  have hw : ∀ {w' : Wd} {b' : List Nat}, t.kind = w'.cs → t.small = sm w' b' → w' = w ∧ sm w' b' = sm w b := by
    intro w' b' h1 h2
    have e := cs_inj w' w (by rw [← h1, v.kind])
    exact ⟨e, by rw [← h2, v.small]⟩
  unfold found
  cases t with
  | atom k l =>
    have := v.some_kid
    obtain ⟨k1, ks', e⟩ := this
    rw [← hk] at e
    simp [U.Tm.kids] at e
  | n1 w' b' y =>
    obtain ⟨e1, e2⟩ := hw (w' := w') (b' := b') rfl rfl
    subst e1
    rw [← e2]
    rw [← hk] at h
    cases h with
    | cons h1 h =>
      cases h
      simp only [List.dropLast_singleton, List.flatten_nil, List.nil_append, List.length_singleton, Nat.sub_self, List.drop_zero, List.flatten_cons, List.append_nil, List.mem_filter]
      rw [h1.2.2, small_ne]
      exact ⟨fun ⟨⟨l, e, f⟩, g⟩ => ⟨l, e, f, g l e⟩, fun ⟨l, e, f, g⟩ => ⟨⟨l, e, f⟩, fun l' e' => tx_inj (e.symm.trans e') ▸ g⟩⟩
  | n2 w' b' y z =>
    obtain ⟨e1, e2⟩ := hw (w' := w') (b' := b') rfl rfl
    subst e1
    rw [← e2]
    rw [← hk] at h
    cases h with
    | cons h1 h =>
      cases h with
      | cons h2 h =>
        cases h
        simp only [List.dropLast, List.flatten_nil, List.length_cons, List.length_nil, List.flatten_cons, List.append_nil, List.mem_append, List.mem_filter, List.drop_succ_cons, List.drop_zero, Nat.add_sub_cancel, Nat.zero_add]
        rw [h1.2.2, h2.2.2, small_ne]
        constructor
        · rintro (⟨l, e, f⟩ | ⟨⟨l, e, f⟩, g⟩)
          · exact ⟨l, e, .inl f⟩
          · exact ⟨l, e, .inr ⟨f, g l e⟩⟩
        · rintro ⟨l, e, f | ⟨f, g⟩⟩
          · exact .inl ⟨l, e, f⟩
          · exact .inr ⟨⟨l, e, f⟩, fun l' e' => tx_inj (e.symm.trans e') ▸ g⟩
  | n3 w' b' y z u =>
    obtain ⟨e1, e2⟩ := hw (w' := w') (b' := b') rfl rfl
    subst e1
    rw [← e2]
    rw [← hk] at h
    cases h with
    | cons h1 h =>
      cases h with
      | cons h2 h =>
        cases h with
        | cons h3 h =>
          cases h
          simp only [List.dropLast, List.flatten_nil, List.length_cons, List.length_nil, List.flatten_cons, List.append_nil, List.mem_append, List.mem_filter, List.drop_succ_cons, List.drop_zero, Nat.add_sub_cancel, Nat.zero_add]
          rw [h1.2.2, h2.2.2, h3.2.2, small_ne]
          constructor
          · rintro ((⟨l, e, f⟩ | ⟨l, e, f⟩) | ⟨⟨l, e, f⟩, g⟩)
            · exact ⟨l, e, .inl f⟩
            · exact ⟨l, e, .inr (.inl f)⟩
            · exact ⟨l, e, .inr (.inr ⟨f, g l e⟩)⟩
          · rintro ⟨l, e, f | f | ⟨f, g⟩⟩
            · exact .inl (.inl ⟨l, e, f⟩)
            · exact .inl (.inr ⟨l, e, f⟩)
            · exact .inr ⟨⟨l, e, f⟩, fun l' e' => tx_inj (e.symm.trans e') ▸ g⟩
/-- a Tree at p, of these trees within, with these free names -/
def NodeAt (C : Addr) (H : Hp) (t : U.Tm) (qs : List Addr) (p : Addr) (ys : List Str) : Prop := ∃ dx tw tf cd, H p = some (.ins C dx (treeF (.str (tx t.pr)) (.str (tx t.kind)) (smV t.small) (.ref tw) (.ref tf) cd)) ∧ H tw = some (.tup (qs.map V.ref)) ∧ H tf = some (.tup (ys.map V.str)) ∧ FreeIs t ys
/-- the tree of a term at p -/
def TreeAt (C : Addr) (H : Hp) : U.Tm → Addr → Prop
  | .atom k l, p => ∃ ys, NodeAt C H (.atom k l) [] p ys
  | .n1 w b x, p => ∃ q ys, NodeAt C H (.n1 w b x) [q] p ys ∧ TreeAt C H x q
  | .n2 w b x y, p => ∃ q1 q2 ys, NodeAt C H (.n2 w b x y) [q1, q2] p ys ∧ TreeAt C H x q1 ∧ TreeAt C H y q2
  | .n3 w b x y z, p => ∃ q1 q2 q3 ys, NodeAt C H (.n3 w b x y z) [q1, q2, q3] p ys ∧ TreeAt C H x q1 ∧ TreeAt C H y q2 ∧ TreeAt C H z q3
/-- what is no list is as it was -/
def Keep (H H' : Hp) : Prop := ∀ p o, H p = some o → (∀ l, o ≠ .lst l) → H' p = some o
theorem Keep.of {H H' : Hp} (h : Same H H') : Keep H H' := fun p o e _ => h p o e
theorem Keep.trans {H H1 H2 : Hp} (a : Keep H H1) (b : Keep H1 H2) : Keep H H2 := fun p o e n => b p o (a p o e n) n
theorem Keep.upd {H : Hp} {a : Addr} {l : List V} {o : HO} (e : H a = some (.lst l)) : Keep H (upd H a o) := fun p u h n => by
  rw [upd_ne fun z => ?_]
  · exact h
  · rw [z, e] at h
    exact n l (Option.some.inj h).symm
theorem NodeAt.keep {C : Addr} {H H' : Hp} {t : U.Tm} {qs : List Addr} {p : Addr} {ys : List Str} (h : NodeAt C H t qs p ys) (k : Keep H H') : NodeAt C H' t qs p ys := by
  obtain ⟨dx, tw, tf, cd, h1, h2, h3, h4⟩ := h
  exact ⟨dx, tw, tf, cd, k _ _ h1 (by intro l z; cases z), k _ _ h2 (by intro l z; cases z), k _ _ h3 (by intro l z; cases z), h4⟩
theorem TreeAt.keep {C : Addr} {H H' : Hp} (k : Keep H H') : ∀ {t : U.Tm} {p : Addr}, TreeAt C H t p → TreeAt C H' t p
  | .atom _ _, _, ⟨ys, h⟩ => ⟨ys, h.keep k⟩
  | .n1 _ _ _, _, ⟨q, ys, h, h1⟩ => ⟨q, ys, h.keep k, h1.keep k⟩
  | .n2 _ _ _ _, _, ⟨q1, q2, ys, h, h1, h2⟩ => ⟨q1, q2, ys, h.keep k, h1.keep k, h2.keep k⟩
  | .n3 _ _ _ _ _, _, ⟨q1, q2, q3, ys, h, h1, h2, h3⟩ => ⟨q1, q2, q3, ys, h.keep k, h1.keep k, h2.keep k, h3.keep k⟩
theorem TreeAt.node {C : Addr} {H : Hp} {t : U.Tm} {p : Addr} (h : TreeAt C H t p) : ∃ qs ys, NodeAt C H t qs p ys ∧ Paired (fun q k => TreeAt C H k q) qs t.kids := by
  cases t with
  | atom k l =>
    obtain ⟨ys, h⟩ := h
    exact ⟨[], ys, h, .nil⟩
  | n1 w b x =>
    obtain ⟨q, ys, h, h1⟩ := h
    exact ⟨[q], ys, h, .cons h1 .nil⟩
  | n2 w b x y =>
    obtain ⟨q1, q2, ys, h, h1, h2⟩ := h
    exact ⟨_, ys, h, .cons h1 (.cons h2 .nil)⟩
  | n3 w b x y z =>
    obtain ⟨q1, q2, q3, ys, h, h1, h2, h3⟩ := h
    exact ⟨_, ys, h, .cons h1 (.cons h2 (.cons h3 .nil))⟩
theorem TreeAt.mk {C : Addr} {H : Hp} {t : U.Tm} {p : Addr} {qs : List Addr} {ys : List Str} (h : NodeAt C H t qs p ys) (hk : Paired (fun q k => TreeAt C H k q) qs t.kids) : TreeAt C H t p := by
  cases t with
  | atom k l =>
    cases hk
    exact ⟨ys, h⟩
  | n1 w b x =>
    cases hk with
    | cons h1 hk =>
      cases hk
      exact ⟨_, ys, h, h1⟩
  | n2 w b x y =>
    cases hk with
    | cons h1 hk =>
      cases hk with
      | cons h2 hk =>
        cases hk
        exact ⟨_, _, ys, h, h1, h2⟩
  | n3 w b x y z =>
    cases hk with
    | cons h1 hk =>
      cases hk with
      | cons h2 hk =>
        cases hk with
        | cons h3 hk =>
          cases hk
          exact ⟨_, _, _, ys, h, h1, h2, h3⟩
theorem TreeAt.free {C : Addr} {H : Hp} {t : U.Tm} {p : Addr} (h : TreeAt C H t p) : ∃ ys, FreeAt C H p ys ∧ FreeIs t ys := by
  obtain ⟨qs, ys, ⟨dx, tw, tf, cd, h1, h2, h3, h4⟩, _⟩ := h.node
  exact ⟨ys, ⟨dx, _, tf, h1, tF_free _ _ _ _ _ _, h3⟩, h4⟩
end K


set_option Elab.async false
set_option linter.all false
set_option maxRecDepth 100000
set_option maxHeartbeats 4000000
namespace K
open PySem PySem.Spec PyProof.Rows L2 U
def RowAt (C : Addr) (H : Hp) (r : Addr) (ds : List U.Tm) : Prop := ∃ qs, H r = some (.lst (qs.map V.ref)) ∧ Paired (fun q k => TreeAt C H k q) qs ds
/-- the brackets that are open and the rows of trees that are done, as built holds them (ops, rws: the innermost first) -/
structure BHeap (C : Addr) (H0 H : Hp) (aO aR r0 : Addr) (ops rws : List Addr) (fs : List Fr) (bot : List U.Tm) : Prop where
  eO : H aO = some (.lst (ops.reverse.map V.ref))
  eR : H aR = some (.lst ((r0 :: rws.reverse).map V.ref))
  pO : Paired (fun p f => H p = some (.tup (pcV (op f.at_ f.w f.b)))) ops fs
  pR : Paired (fun r f => RowAt C H r f.dn) rws fs
  b0 : RowAt C H r0 bot
  nd : (aO :: aR :: r0 :: rws).Nodup
  nw : ∀ b ∈ aO :: aR :: r0 :: rws, H0 b = none
  sm : Same H0 H
/-- all but lists, and these lists, are as they were -/
structure Stay (H H' : Hp) (ls : List Addr) : Prop where
  kp : Keep H H'
  at_ : ∀ r ∈ ls, H' r = H r
theorem RowAt.stay {C : Addr} {H H' : Hp} {r : Addr} {ds : List U.Tm} (h : RowAt C H r ds) (k : Keep H H') (e : H' r = H r) : RowAt C H' r ds := by
  obtain ⟨qs, h1, h2⟩ := h
  exact ⟨qs, e.trans h1, Paired.mapP h2 fun q t h => h.keep k⟩
theorem rows_stay {C : Addr} {H H' : Hp} (k : Keep H H') : ∀ {rws : List Addr} {fs : List Fr}, Paired (fun r f => RowAt C H r f.dn) rws fs → (∀ r ∈ rws, H' r = H r) → Paired (fun r f => RowAt C H' r f.dn) rws fs
  | _, _, .nil, _ => .nil
  | _, _, .cons r t, e => .cons (r.stay k (e _ List.mem_cons_self)) (rows_stay k t fun x hx => e x (List.mem_cons_of_mem _ hx))
theorem ops_stay {H H' : Hp} (k : Keep H H') {ops : List Addr} {fs : List Fr} (h : Paired (fun p f => H p = some (.tup (pcV (op f.at_ f.w f.b)))) ops fs) : Paired (fun p f => H' p = some (.tup (pcV (op f.at_ f.w f.b)))) ops fs :=
  Paired.mapP h fun p f e => k _ _ e (by intro l z; cases z)
def nameOk (N : List Str) (l : List Nat) : Prop := tx l ∈ N
def spBuilt (C : Addr) : Sp := fun vs H Q _ => ∃ (aP : Addr) (ps : List Addr) (k : U.Tm) (N : List Str), vs = [.str (tx k.pr), .ref aP] ∧ k.pr.length ≤ sizeLine ∧ k.Ok ∧ k.size ≤ 1000 ∧ H aP = some (.lst (ps.map V.ref)) ∧ PcsAt H ps (k.pc 0) ∧ N.length < 64 ∧ k.Names (nameOk N) ∧
  ∀ q H', Same H H' → TreeAt C H' k q → Q (.ref q) H'
/-- what an inner Tree leaves behind of a term whose trees within stand -/
theorem tree_made {C : Addr} {H H' : Hp} {p dx tw tf l : Addr} {t : U.Tm} {qs : List Addr} {frs : List (List Str)} {ys : List Str} (hk : Paired (fun q k => TreeAt C H k q) qs t.kids) (k : Keep H H')
    {cd : V} (hp : H' p = some (.ins C dx (treeF (.str (tx t.pr)) (.str (tx t.kind)) (smV t.small) (.ref tw) (.ref tf) cd))) (hw : H' tw = some (.tup (qs.map V.ref))) (hf : H' tf = some (.tup (ys.map V.str))) (fr : FreeIs t ys) : TreeAt C H' t p :=
  TreeAt.mk ⟨dx, tw, tf, cd, hp, hw, hf, fr⟩ (Paired.mapP hk fun q t h => h.keep k)
/-- the free names of trees within, few enough -/
theorem frees {C : Addr} {H : Hp} {N : List Str} : ∀ {qs : List Addr} {ks : List U.Tm}, Paired (fun q k => TreeAt C H k q) qs ks → (∀ k ∈ ks, k.Names (nameOk N)) →
    ∃ frs, Paired (FreeAt C H) qs frs ∧ Paired (fun fr k => FreeIs k fr) frs ks ∧ ∀ fr ∈ frs, fr.length ≤ N.length ∧ ∀ x ∈ fr, x ∈ N
  | [], [], .nil, _ => ⟨[], .nil, .nil, fun _ h => by simp at h⟩
  | q :: qs, k :: ks, .cons h t, nm => by
    obtain ⟨ys, f1, f2⟩ := h.free
    obtain ⟨frs, g1, g2, g3⟩ := frees t fun x hx => nm x (List.mem_cons_of_mem _ hx)
    refine ⟨ys :: frs, .cons f1 g1, .cons f2 g2, fun fr hfr => ?_⟩
    rcases List.mem_cons.mp hfr with rfl | hfr
    · have sub : ∀ x ∈ fr, x ∈ N := fun x hx => by
        obtain ⟨l, e, hl⟩ := (f2.2.2 x).mp hx
        rw [e]
        exact hl.in_names (nm k List.mem_cons_self)
      exact ⟨nodup_sub fr N f2.1 sub, sub⟩
    · exact g3 fr hfr
theorem flat_bound {N : List Str} : ∀ frs : List (List Str), (∀ fr ∈ frs, fr.length ≤ N.length ∧ ∀ x ∈ fr, x ∈ N) → frs.flatten.length ≤ frs.length * N.length ∧ ∀ x ∈ frs.flatten, x ∈ N
  | [], _ => ⟨by simp, by simp⟩
  | f :: r, h => by
    obtain ⟨h1, h2⟩ := flat_bound r fun fr hfr => h fr (List.mem_cons_of_mem _ hfr)
    obtain ⟨g1, g2⟩ := h f List.mem_cons_self
    refine ⟨?_, fun x hx => ?_⟩
    · rw [List.flatten_cons, List.length_append, List.length_cons, Nat.succ_mul]
      omega
    · rw [List.flatten_cons, List.mem_append] at hx
      exact hx.elim (g2 x) (h2 x)
theorem found_bound {N : List Str} {frs : List (List Str)} {small : V} (hl : frs.length ≤ 3) (hN : N.length < 64) (h : ∀ fr ∈ frs, fr.length ≤ N.length ∧ ∀ x ∈ fr, x ∈ N) : (found frs small).length ≤ 1000 ∧ ∀ x ∈ found frs small, x ∈ N := by
  have b1 := flat_bound frs.dropLast fun fr hfr => h fr ((List.dropLast_sublist frs).subset hfr)
  have b2 := flat_bound (frs.drop (frs.length - 1)) fun fr hfr => h fr (List.mem_of_mem_drop hfr)
  unfold found
  refine ⟨?_, fun x hx => ?_⟩
  · have l1 : frs.dropLast.length ≤ 2 := by rw [List.length_dropLast]; omega
    have l2 : (frs.drop (frs.length - 1)).length ≤ 1 := by rw [List.length_drop]; omega
    have m1 : frs.dropLast.length * N.length ≤ 2 * 63 := Nat.mul_le_mul l1 (by omega)
    have m2 : (frs.drop (frs.length - 1)).length * N.length ≤ 1 * 63 := Nat.mul_le_mul l2 (by omega)
    have m3 := (List.filter_sublist (p := fun y => !decide (V.str y = small)) (l := (frs.drop (frs.length - 1)).flatten)).length_le
    rw [List.length_append]
    omega
  · rcases List.mem_append.mp hx with hx | hx
    · exact b1.2 x hx
    · exact b2.2 x (List.mem_filter.mp hx).1
theorem BHeap.stay {C : Addr} {H0 H H' : Hp} {aO aR r0 : Addr} {ops rws : List Addr} {fs : List Fr} {bot : List U.Tm} (h : BHeap C H0 H aO aR r0 ops rws fs bot) (k : Keep H H') (e : ∀ b ∈ aO :: aR :: r0 :: rws, H' b = H b) (s : Same H0 H') : BHeap C H0 H' aO aR r0 ops rws fs bot :=
  ⟨(e _ (by simp)).trans h.eO, (e _ (by simp)).trans h.eR, ops_stay k h.pO, rows_stay k h.pR fun r hr => e r (by simp [hr]), h.b0.stay k (e _ (by simp)), h.nd, h.nw, s⟩
/-- where all that was is still there -/
theorem BHeap.same {C : Addr} {H0 H H' : Hp} {aO aR r0 : Addr} {ops rws : List Addr} {fs : List Fr} {bot : List U.Tm} (h : BHeap C H0 H aO aR r0 ops rws fs bot) (s : Same H H') : BHeap C H0 H' aO aR r0 ops rws fs bot := by
  have lst : ∀ b ∈ aO :: aR :: r0 :: rws, ∃ o, H b = some o := by
    intro b hb
    simp only [List.mem_cons] at hb
    rcases hb with rfl | rfl | rfl | hb
    · exact ⟨_, h.eO⟩
    · exact ⟨_, h.eR⟩
    · obtain ⟨qs, e, _⟩ := h.b0
      exact ⟨_, e⟩
    · have g : ∀ {rws : List Addr} {fs : List Fr}, Paired (fun r f => RowAt C H r f.dn) rws fs → ∀ b ∈ rws, ∃ o, H b = some o := by
        intro rws fs p
        induction p with
        | nil =>
          intro b hb
          simp at hb
        | cons r t ih =>
          intro b hb
          rcases List.mem_cons.mp hb with rfl | hb
          · obtain ⟨qs, e, _⟩ := r
            exact ⟨_, e⟩
          · exact ih b hb
      exact g h.pR b hb
  exact h.stay (Keep.of s) (fun b hb => by
    obtain ⟨o, e⟩ := lst b hb
    rw [e]
    exact s _ _ e) (h.sm.trans s)
theorem RowAt.put {C : Addr} {H : Hp} {r q : Addr} {ds : List U.Tm} {k : U.Tm} {qs : List Addr} (e : H r = some (.lst (qs.map V.ref))) (p : Paired (fun q k => TreeAt C H k q) qs ds) (t : TreeAt C H k q) : RowAt C (upd H r (.lst (qs.map V.ref ++ [V.ref q]))) r (ds ++ [k]) := by
  refine ⟨qs ++ [q], ?_, Paired.app (Paired.mapP p fun q t h => h.keep (Keep.upd e)) (.cons (t.keep (Keep.upd e)) .nil)⟩
  rw [upd_same, List.map_append]
  rfl
/-- a tree is put into the innermost row -/
theorem BHeap.put {C : Addr} {H0 H : Hp} {aO aR r0 : Addr} {ops rws : List Addr} {fs : List Fr} {k : U.Tm} {q : Addr} (h : BHeap C H0 H aO aR r0 ops rws fs []) (t : TreeAt C H k q) (hd : ∀ f g, fs = f :: g → f.dn.length ≤ 3) :
    ∃ (r : Addr) (qs : List Addr), (∃ L, (r0 :: rws.reverse).map V.ref = L ++ [V.ref r]) ∧ H r = some (.lst (qs.map V.ref)) ∧ qs.length ≤ 3 ∧ r ≠ aO ∧ r ≠ aR ∧ BHeap C H0 (upd H r (.lst (qs.map V.ref ++ [V.ref q]))) aO aR r0 ops rws (putDn fs k) (putBot fs k) := by
  have nd := h.nd
  simp only [List.nodup_cons, List.mem_cons, not_or] at nd
  obtain ⟨⟨n1, n2, n3⟩, ⟨n4, n5⟩, n6, n7⟩ := nd
  cases fs with
  | nil =>
    have hr : rws = [] := by
      have := h.pR
      cases this
      rfl
    have ho : ops = [] := by
      have := h.pO
      cases this
      rfl
    subst hr ho
    obtain ⟨qs, e, p⟩ := h.b0
    have pl := p.length
    refine ⟨r0, qs, ⟨[], rfl⟩, e, by simp at pl; simp [pl], Ne.symm n2, Ne.symm n4, (upd_ne n2).trans h.eO, (upd_ne n4).trans h.eR, .nil, .nil, RowAt.put e p t, h.nd, h.nw, upd_new (h.nw r0 (by simp)) h.sm⟩
  | cons f g =>
    have ⟨hp, hpe⟩ : ∃ x, x = h.pR := ⟨_, rfl⟩
    clear hpe
    cases hp with
    | @cons r _ rws' _ rr p2 =>
      obtain ⟨qs, e, p⟩ := rr
      simp only [List.mem_cons, not_or, List.nodup_cons] at n3 n5 n6 n7
      have kp : Keep H (upd H r (.lst (qs.map V.ref ++ [V.ref q]))) := Keep.upd e
      have pl := p.length
      have hl := hd f g rfl
      refine ⟨r, qs, ⟨(r0 :: rws'.reverse).map V.ref, by simp⟩, e, by omega, Ne.symm n3.1, Ne.symm n5.1, (upd_ne n3.1).trans h.eO, (upd_ne n5.1).trans h.eR, ops_stay kp ?_, .cons (RowAt.put e p t) (rows_stay kp p2 fun x hx => upd_ne fun z => n7.1 (z ▸ hx)), h.b0.stay kp (upd_ne n6.1), h.nd, h.nw, upd_new (h.nw r (by simp)) h.sm⟩
      have := h.pO
      cases this with
      | cons a b => exact .cons a b
/-- a bracket and a row are opened -/
theorem BHeap.push {C : Addr} {H0 H : Hp} {aO aR r0 pc aN : Addr} {ops rws : List Addr} {fs : List Fr} {f : Fr} (h : BHeap C H0 H aO aR r0 ops rws fs []) (e : H pc = some (.tup (pcV (op f.at_ f.w f.b)))) (hd : f.dn = [])
    (hN : (upd H aO (.lst (ops.reverse.map V.ref ++ [V.ref pc]))) aN = none) :
    BHeap C H0 (upd (upd (upd H aO (.lst (ops.reverse.map V.ref ++ [V.ref pc]))) aN (.lst [])) aR (.lst ((r0 :: rws.reverse).map V.ref ++ [V.ref aN]))) aO aR r0 (pc :: ops) (aN :: rws) (f :: fs) [] := by
  have nd := h.nd
  simp only [List.nodup_cons, List.mem_cons, not_or] at nd
  obtain ⟨⟨n1, n2, n3⟩, ⟨n4, n5⟩, n6, n7⟩ := nd
  have mO : aO ≠ aN := ne_of_none upd_same hN
  have hN' : H aN = none := by rw [upd_ne mO.symm] at hN; exact hN
  have mR : aR ≠ aN := ne_of_none h.eR hN'
  have m0 : r0 ≠ aN := by
    obtain ⟨qs, e, _⟩ := h.b0
    exact ne_of_none e hN'
  have mr : aN ∉ rws := by
    intro hm
    have g : ∀ {rws : List Addr} {fs : List Fr}, Paired (fun r f => RowAt C H r f.dn) rws fs → ∀ b ∈ rws, ∃ o, H b = some o := by
      intro rws fs p
      induction p with
      | nil =>
        intro b hb
        simp at hb
      | cons r t ih =>
        intro b hb
        rcases List.mem_cons.mp hb with rfl | hb
        · obtain ⟨qs, e, _⟩ := r
          exact ⟨_, e⟩
        · exact ih b hb
    obtain ⟨o, e⟩ := g h.pR aN hm
    rw [hN'] at e
    cases e
  have k1 : Keep H (upd H aO (.lst (ops.reverse.map V.ref ++ [V.ref pc]))) := Keep.upd h.eO
  have k2 := k1.trans (Keep.of (same_new (o := .lst []) hN))
  have eR2 : (upd (upd H aO (.lst (ops.reverse.map V.ref ++ [V.ref pc]))) aN (.lst [])) aR = some (.lst ((r0 :: rws.reverse).map V.ref)) := by
    rw [upd_ne mR, upd_ne (Ne.symm n1)]
    exact h.eR
  have kp := k2.trans (Keep.upd (o := .lst ((r0 :: rws.reverse).map V.ref ++ [V.ref aN])) eR2)
  have oth : ∀ b, b ≠ aO → b ≠ aR → b ≠ aN → (upd (upd (upd H aO (.lst (ops.reverse.map V.ref ++ [V.ref pc]))) aN (.lst [])) aR (.lst ((r0 :: rws.reverse).map V.ref ++ [V.ref aN]))) b = H b := fun b h1 h2 h3 => by rw [upd_ne h2, upd_ne h3, upd_ne h1]
  have nN0 : H0 aN = none := by
    cases hz : H0 aN with
    | none => rfl
    | some o =>
      have := h.sm _ _ hz
      rw [hN'] at this
      cases this
  refine ⟨?_, ?_, .cons (kp _ _ e (by intro l z; cases z)) (ops_stay kp h.pO), .cons ⟨[], ?_, ?_⟩ (rows_stay kp h.pR fun x hx => oth x (fun z => n3 (z ▸ hx)) (fun z => n5 (z ▸ hx)) (fun z => mr (z ▸ hx))), h.b0.stay kp (oth _ (Ne.symm n2) (Ne.symm n4) m0), ?_, ?_, ?_⟩
  · rw [upd_ne n1, upd_ne mO, upd_same]
    simp
  · rw [upd_same]
    simp
  · rw [upd_ne mR.symm, upd_same]
    rfl
  · rw [hd]
    exact .nil
  · simp only [List.nodup_cons, List.mem_cons, not_or]
    exact ⟨⟨n1, n2, mO, n3⟩, ⟨n4, mR, n5⟩, ⟨m0, n6⟩, mr, n7⟩
  · intro b hb
    simp only [List.mem_cons] at hb
    rcases hb with rfl | rfl | rfl | rfl | hb
    · exact h.nw _ (by simp)
    · exact h.nw _ (by simp)
    · exact h.nw _ (by simp)
    · exact nN0
    · exact h.nw _ (by simp [hb])
  · refine upd_new (h.nw aR (by simp)) ?_
    exact (upd_new (h.nw aO (by simp)) h.sm).trans (same_new hN)
/-- both are closed -/
theorem BHeap.pop {C : Addr} {H0 H : Hp} {aO aR r0 pc r : Addr} {ops rws : List Addr} {fs : List Fr} {f : Fr} (h : BHeap C H0 H aO aR r0 (pc :: ops) (r :: rws) (f :: fs) []) :
    H aO = some (.lst (ops.reverse.map V.ref ++ [V.ref pc])) ∧ H aR = some (.lst ((r0 :: rws.reverse).map V.ref ++ [V.ref r])) ∧ H pc = some (.tup (pcV (op f.at_ f.w f.b))) ∧ RowAt C H r f.dn ∧
    BHeap C H0 (upd (upd H aO (.lst (ops.reverse.map V.ref))) aR (.lst ((r0 :: rws.reverse).map V.ref))) aO aR r0 ops rws fs [] := by
  have ePc : ∃ t, h.pO = t := ⟨_, rfl⟩
  cases h.pO with
  | cons e1 p1 =>
    cases h.pR with
    | cons e2 p2 =>
      have eO : H aO = some (.lst (ops.reverse.map V.ref ++ [V.ref pc])) := by
        rw [h.eO]
        simp
      have eR : H aR = some (.lst ((r0 :: rws.reverse).map V.ref ++ [V.ref r])) := by
        rw [h.eR]
        simp
      have nd := h.nd
      simp only [List.nodup_cons, List.mem_cons, not_or] at nd
      obtain ⟨⟨n1, n2, n3, n4⟩, ⟨n5, n6, n7⟩, ⟨n8, n9⟩, n10, n11⟩ := nd
      have eR2 : ∀ o, (upd H aO o) aR = some (.lst ((r0 :: rws.reverse).map V.ref ++ [V.ref r])) := fun o => by rw [upd_ne (Ne.symm n1)]; exact eR
      have kp : Keep H (upd (upd H aO (.lst (ops.reverse.map V.ref))) aR (.lst ((r0 :: rws.reverse).map V.ref))) := (Keep.upd eO).trans (Keep.upd (eR2 _))
      have oth : ∀ b, b ≠ aO → b ≠ aR → (upd (upd H aO (.lst (ops.reverse.map V.ref))) aR (.lst ((r0 :: rws.reverse).map V.ref))) b = H b := fun b h1 h2 => by rw [upd_ne h2, upd_ne h1]
      refine ⟨eO, eR, e1, e2, ?_, upd_same, ops_stay kp p1, rows_stay kp p2 fun x hx => oth x (fun e => n4 (e ▸ hx)) (fun e => n7 (e ▸ hx)), h.b0.stay kp (oth _ (Ne.symm n2) (Ne.symm n5)), ?_, ?_, ?_⟩
      · rw [upd_ne n1, upd_same]
      · simp only [List.nodup_cons, List.mem_cons, not_or]
        exact ⟨⟨n1, n2, n4⟩, ⟨n5, n7⟩, n9, n11⟩
      · intro b hb
        refine h.nw b ?_
        simp only [List.mem_cons] at hb ⊢
        rcases hb with h | h | h | h
        · exact .inl h
        · exact .inr (.inl h)
        · exact .inr (.inr (.inl h))
        · exact .inr (.inr (.inr (.inr h)))
      · exact upd_new (h.nw aR (by simp)) (upd_new (h.nw aO (by simp)) h.sm)
end K


set_option Elab.async false
set_option linter.all false
set_option maxRecDepth 100000
set_option maxHeartbeats 4000000
namespace K
open PySem PySem.Spec PyProof.Rows L2 U
theorem But.sameN {p : Addr} {H0 H H' : Hp} (h : But p H H') (s : Same H0 H) (n : H0 p = none) : Same H0 H' := fun b o e => h b o (s b o e) (ne_of_none e n)
theorem ar_le (w : Wd) : w.ar ≤ 3 := by cases w <;> decide
theorem smV_is (o : Option (List Nat)) : smV o = .non ∨ ∃ z, smV o = .str z := by
  cases o with
  | none => exact .inl rfl
  | some b => exact .inr ⟨_, rfl⟩
theorem kids_few (k : U.Tm) : k.kids.length ≤ 3 := by cases k <;> simp [U.Tm.kids]
/-- what Tree.__init__ leaves as free names are those of the term -/
theorem free_is {k : U.Tm} {frs : List (List Str)} {ys : List Str} (ok : (∃ kd l, k = .atom kd l) ∨ ∃ w b ks, View k w b ks) (h : Paired (fun fr k => FreeIs k fr) frs k.kids) (y1 : k.kind = Kd.name.cs → ys = [tx k.pr]) (y2 : k.kind ≠ Kd.name.cs → ys.Nodup ∧ sortedS ys = true ∧ ∀ x, x ∈ ys ↔ x ∈ found frs (smV k.small)) : FreeIs k ys := by
  rcases ok with ⟨kd, l, rfl⟩ | ⟨wd, b, ks, v⟩
  · have hf : frs = [] := by
      cases h
      rfl
    subst hf
    by_cases e : kd = .name
    · subst e
      rw [y1 rfl]
      refine ⟨by simp, by rfl, fun x => ?_⟩
      rw [List.mem_singleton]
      exact ⟨fun z => ⟨l, z, rfl, rfl⟩, fun ⟨l', e1, _, e2⟩ => by rw [e1, e2]; rfl⟩
    · obtain ⟨a1, a2, a3⟩ := y2 fun z => e (by cases kd <;> first | rfl | exact absurd z (by simp only [U.Tm.kind]; decide))
      refine ⟨a1, a2, fun x => ?_⟩
      rw [a3]
      constructor
      · intro z
        simp [found] at z
      · rintro ⟨l', e1, e2, e3⟩
        exact absurd e2 e
  · have ne : k.kind ≠ Kd.name.cs := by
      rw [v.kind]
      cases wd <;> decide
    obtain ⟨a1, a2, a3⟩ := y2 ne
    rw [v.small] at a3
    rw [v.kids] at h
    exact ⟨a1, a2, fun x => (a3 x).trans (found_free v h x)⟩
/-- the innermost row -/
theorem BHeap.last {C : Addr} {H0 H : Hp} {aO aR r0 : Addr} {ops rws : List Addr} {fs : List Fr} {bot : List U.Tm} (h : BHeap C H0 H aO aR r0 ops rws fs bot) : ∃ (L : List V) (r : Addr) (zs : List V), (r0 :: rws.reverse).map V.ref = L ++ [V.ref r] ∧ H r = some (.lst zs) := by
  have hp := h.pR
  cases hp with
  | nil =>
    obtain ⟨qs, e, _⟩ := h.b0
    exact ⟨[], r0, _, rfl, e⟩
  | @cons r _ rws' _ rr p2 =>
    obtain ⟨qs, e, _⟩ := rr
    exact ⟨(r0 :: rws'.reverse).map V.ref, r, _, by simp, e⟩
section
variable {P : Program} {w : World} {K : PySem.W.Frag} {mg : Str → Option Value} {base : Heap} {dW dB : Addr} {esW : Array DictEntry} {nW : Nat} (T : Txt K mg w dW dB esW nW)
include T
theorem ok_built {f f1 C : Addr} {fd fd1 : FuncData} (F : Fun K "built" "built" s_built f fd) (TC : TreeC K C) (m_Tree : HasC P w K mg base "Tree" C 2 ["self", "text", "kind", "small", "within"] (spTreeInit C) f1 fd1) : FnOk P w K mg base CX0 4 f fd ["text", "pieces"] (spBuilt C) := by
  refine F.ok sc_built (fun vs H Q E h => ?_) (fun cdv A outer s H vs Q E hr h => ?_)
  · obtain ⟨aP, ps, k, N, rfl, _⟩ := h
    rfl
  · obtain ⟨aP, ps, k0, N, rfl, hl, hok, hsz, eP, pcs, hN, nm, q⟩ := h
    refine ⟨_, (pss_cons (ps_set (i := 2) sc_built.nd rfl (.inl rfl) (pe_lst pa_nil))
      (pss_cons (ps_set (i := 3) sc_built.nd rfl (.inl rfl) (pe_lst (pa_cons (pe_lst pa_nil) pa_nil)))
      (pss_cons (ps_for PassesOwn.never rfl (pi_list (pv 1)) (pg_name (i := 4) sc_built.nd rfl (.inl rfl)) 
        (pss_cons (ps_asg (pv 4) (pg_tup rfl (pgs_cons (pg_name (i := 5) sc_built.nd rfl (.inl rfl)) (pgs_cons (pg_name (i := 6) sc_built.nd rfl (.inl rfl)) (pgs_cons (pg_name (i := 7) sc_built.nd rfl (.inl rfl)) (pgs_cons (pg_name (i := 8) sc_built.nd rfl (.inl rfl)) pgs_nil))))))
        (pss_cons (ps_if (pt_cmpR (op_in_tab T.W) (pv 5) (pe_globR (by rfl) T.gW) (by rfl)) 
          (pss_cons (ps_expr (pe_bm PySem.F.plainAttrs_list PySem.F.slot_list_append PySem.F.type_list_append mt_append (pv 2) (pa_cons (pv 4) pa_nil)))
          (pss_cons (ps_expr (pe_bm PySem.F.plainAttrs_list PySem.F.slot_list_append PySem.F.type_list_append mt_append (pv 3) (pa_cons (pe_lst pa_nil) pa_nil)))
          (pss_one (ps_continue)))) pss_nil)
        (pss_cons (ps_set (i := 9) sc_built.nd rfl (.inl rfl) (pe_lst pa_nil))
        (Evl.pss_cut (ps_if (pt_cmpR op_eq (pv 5) (pe_globS (by rfl) T.g_CLOSE) (nomark _)) 
          (pss_cons (ps_asg (pe_bm0 PySem.F.plainAttrs_list PySem.F.slot_list_pop PySem.F.type_list_pop mt_pop (pv 2)) (pg_tup rfl (pgs_cons (pg_name (i := 5) sc_built.nd rfl (.inl rfl)) (pgs_cons (pg_name (i := 6) sc_built.nd rfl (.inl rfl)) (pgs_cons (pg_name (i := 10) sc_built.nd rfl (.inl rfl)) (pgs_cons (pg_name (i := 8) sc_built.nd rfl (.inl rfl)) pgs_nil))))))
          (pss_one (ps_set (i := 9) sc_built.nd rfl (.inl rfl) (pe_bm0 PySem.F.plainAttrs_list PySem.F.slot_list_pop PySem.F.type_list_pop mt_pop (pv 3))))) pss_nil)
        (pss_one (ps_expr (pe_bm PySem.F.plainAttrs_list PySem.F.slot_list_append PySem.F.type_list_append mt_append (pe_ix ix_list (pv 3) (pe_un un_neg pe_int) (fun _ _ => rfl)) (pa_cons (pe_makeH m_Tree (hr.mono (by first | decide | omega)) (by rfl) (pa_cons (pe_slice sl_str (pv 0) (po_some (pv 6)) (po_some (pv 7))) (pa_cons (pv 5) (pa_cons (pv 8) (pa_cons (pv 9) pa_nil))))) pa_nil)))))))))
      (pss_one (ps_ret (pe_ix ix_list (pe_ix ix_list (pv 3) pe_int (fun _ _ => rfl)) pe_int (fun _ _ => rfl))))))), ?_⟩
    have cl41 : Str.ofString ")" = tx [41] := by decide +kernel
    have plen := pcs.length
    have pcl := pc_len k0 0
    -- opened, rows
    refine ⟨Nat.zero_le _, fun aO hO => ⟨Nat.zero_le _, fun r0 h0 => ⟨sizeLine_ge (by show 1 ≤ 10000; decide), fun aR hR => ?_⟩⟩⟩
    have nO0 : aO ≠ r0 := ne_of_none upd_same h0
    have n0R : r0 ≠ aR := ne_of_none upd_same hR
    have nOR : aO ≠ aR := ne_of_none (show (upd (upd H aO (.lst [])) r0 (.lst [])) aO = some (.lst []) by rw [upd_ne nO0, upd_same]) hR
    have h0' : H r0 = none := by rw [upd_ne nO0.symm] at h0; exact h0
    have hR' : H aR = none := by rw [upd_ne n0R.symm, upd_ne nOR.symm] at hR; exact hR
    have B0 : BHeap C H (upd (upd (upd H aO (.lst [])) r0 (.lst [])) aR (.lst [V.ref r0])) aO aR r0 [] [] [] [] := by
      refine ⟨?_, upd_same, .nil, .nil, ⟨[], ?_, .nil⟩, by simp [nO0, n0R.symm, nOR], ?_, (same_new hO).trans ((same_new h0).trans (same_new hR))⟩
      · rw [upd_ne nOR, upd_ne nO0, upd_same]
        rfl
      · rw [upd_ne n0R, upd_same]
        rfl
      · intro b hb
        simp only [List.mem_cons, List.not_mem_nil, or_false] at hb
        rcases hb with rfl | rfl | rfl
        · exact hO
        · exact hR'
        · exact h0'
    refine ⟨_, rfl, aP, rfl, ⟨_, .inl (.inl (B0.sm _ _ eP))⟩, for_it (walk_list (xs := ps.map V.ref)) (fun i σ H' => ∃ (ops rws : List Addr) (fs : List Fr) (bot : List U.Tm) (x4 x5 x6 x7 x8 x9 x10 : Option V), σ = [some (.str (tx k0.pr)), some (.ref aP), some (.ref aO), some (.ref aR), x4, x5, x6, x7, x8, x9, x10] ∧
        BHeap C H H' aO aR r0 ops rws fs bot ∧ Bst (nameOk N) k0 ((k0.pc 0).drop i) fs bot ∧ ∀ f ∈ fs, f.t.Names (nameOk N))
      ⟨[], [], [], [], _, _, _, _, _, _, _, rfl, B0, .ahead k0 0 ⟨rfl, rfl⟩ hok nm (fun f hf => by simp at hf) (by simp [rests, rP]), fun f hf => by simp at hf⟩ ?_ ?_ ?_⟩
    · rintro i σ H' _ ⟨ops, rws, fs, bot, x4, x5, x6, x7, x8, x9, x10, rfl, bh, _⟩
      exact .inl (.inl (bh.sm _ _ eP))
    · rintro i x σ H1 H2 hi ⟨ops, rws, fs, bot, x4, x5, x6, x7, x8, x9, x10, rfl, bh, bst, fnm⟩ ⟨rfl, hx⟩
      rw [List.length_map] at hi
      have hc : (k0.pc 0)[i]? = some ((k0.pc 0)[i]'(by omega)) := List.getElem?_eq_getElem (by omega)
      have hdr : (k0.pc 0).drop i = (k0.pc 0)[i]'(by omega) :: (k0.pc 0).drop (i + 1) := List.drop_eq_getElem_cons (by omega)
      obtain ⟨pi, hpi, tp0⟩ := Paired.at_ pcs hc
      have ex : x = .ref pi := by
        rw [List.getElem?_map, hpi] at hx
        exact (Option.some.inj hx).symm
      subst ex
      rw [hdr] at bst
      generalize (k0.pc 0)[i]'(by omega) = c at tp0 bst hc hdr
      generalize (k0.pc 0).drop (i + 1) = rem at bst hdr
      have tp := bh.sm _ _ tp0
      refine ⟨_, rfl, pi, _, rfl, .inl (.inl tp), rfl, ?_⟩
      refine ⟨_, _, rfl, _, _, rfl, _, _, rfl, _, _, rfl, rfl, ?_⟩
      refine ⟨_, rfl, tx c.kind, rfl, rfl, _, rfl, ite2 (fun hw => ?_) (fun hw => ?_)⟩
      · -- a bracket opens
        have hw := (in_keys _).mp (of_decide_eq_true hw)
        have eOp : ∃ (k : U.Tm) (a : Nat) (w : Wd) (b : List Nat) (ks : List U.Tm), View k w b ks ∧ Ctx k0 fs k a ∧ k.Names (nameOk N) ∧ restsOk (nameOk N) fs ∧ c :: rem = k.pc a ++ rP (a + k.pr.length) (rests fs) ∧ bot = [] := by
          cases bst with
          | over e => cases e
          | ahead k a ctx ok nm' ro e =>
            rcases view ok with ⟨kd, l, rfl, hk⟩ | ⟨wd, b, ks, v⟩
            · have e1 := (List.cons.inj e).1
              subst e1
              exact absurd hw (kd_wd kd)
            · exact ⟨k, a, wd, b, ks, v, ctx, nm', ro, e, rfl⟩
          | close v ctx nm' ro e =>
            have e1 := (List.cons.inj e).1
            subst e1
            exact absurd hw cl_wd
        obtain ⟨k, a, wd, b, ks, v, ctx, nm', ro, e, rfl⟩ := eOp
        have eR := bh.eR
        have eO := bh.eO
        have ec : c = op a wd b := by
          rw [v.pc] at e
          exact (List.cons.inj e).1
        subst ec
        obtain ⟨k1, ks', rfl⟩ := v.some_kid
        have lO := bh.pO.length
        have lR := bh.pR.length
        have nOR := bh.nd
        simp only [List.nodup_cons, List.mem_cons, not_or] at nOR
        have nOR := nOR.1.1
        have few : fs.length + 1 < k0.pr.length := by
          have h0 : 1 ≤ (hd wd b).length := by simp [hd]
          have h1 := congrArg List.length ctx.text
          rw [List.length_drop, List.length_append, v.pr, List.length_append, List.length_append] at h1
          have h3 := rT_len (rests fs)
          rw [show (rests fs).length = fs.length from List.length_map ..] at h3
          simp at h1
          omega
        refine ⟨_, rfl, .inl ⟨rfl, _, .inl (.inl eO)⟩, _, rfl, aO, _, _, rfl, rfl, eO, ?_, ?_⟩
        · rw [List.length_map, List.length_reverse]
          omega
        have eR2 : ∀ o, (upd H2 aO o) aR = some (.lst ((r0 :: rws.reverse).map V.ref)) := fun o => by
          rw [upd_ne (Ne.symm nOR)]
          exact eR
        refine ⟨_, rfl, .inl ⟨rfl, _, .inl (.inl (eR2 _))⟩, Nat.zero_le _, fun aN hN2 => ?_⟩
        have nRN : aR ≠ aN := ne_of_none (eR2 _) hN2
        refine ⟨aR, _, _, rfl, rfl, (by rw [upd_ne nRN]; exact eR2 _), ?_, ?_⟩
        · rw [List.length_map, List.length_cons, List.length_reverse]
          omega
        exact ⟨pi :: ops, aN :: rws, ⟨k, wd, b, a, [], ks'⟩ :: fs, [], _, _, _, _, _, _, _, rfl, BHeap.push (f := ⟨k, wd, b, a, [], ks'⟩) bh tp rfl hN2, Bst.open v ctx nm' ro e, fun f hf => by
          rcases List.mem_cons.mp hf with rfl | hf
          · exact nm'
          · exact fnm f hf⟩
      · -- a tree is made
        have hw : ¬ isWd c.kind := fun h => hw (decide_eq_true ((in_keys _).mpr h))
        refine ⟨Nat.zero_le _, fun aW hW => ?_⟩
        have bh2 := bh.same (same_new (o := .lst []) hW)
        generalize hH3 : upd H2 aW (.lst []) = H3 at bh2
        have eW : H3 aW = some (.lst []) := by
          rw [← hH3]
          exact upd_same
        refine ⟨fun σ H' => ∃ (k : U.Tm) (a : Nat) (fs : List Fr) (ops rws qs : List Addr) (l : Addr) (y10 : Option V), σ = [some (.str (tx k0.pr)), some (.ref aP), some (.ref aO), some (.ref aR), some (.ref pi), some (.str (tx k.kind)), some (.int a), some (.int ((a + k.pr.length : Nat) : Int)), some (smV k.small), some (.ref l), y10] ∧
          BHeap C H H' aO aR r0 ops rws fs [] ∧ ((∃ kd l, k = .atom kd l) ∨ ∃ w b ks, View k w b ks) ∧ Ctx k0 fs k a ∧ k.Names (nameOk N) ∧ (∀ f ∈ fs, f.t.Names (nameOk N)) ∧ restsOk (nameOk N) fs ∧ rem = rP (a + k.pr.length) (rests fs) ∧ H' l = some (.lst (qs.map V.ref)) ∧ Paired (fun q k => TreeAt C H' k q) qs k.kids, ?_, ?_⟩
        · cases bst with
          | over e => cases e
          | ahead k a ctx ok nm' ro e =>
            rcases view ok with ⟨kd, l, rfl, hk⟩ | ⟨wd, b, ks, v⟩
            · obtain ⟨e1, e2⟩ := List.cons.inj e
              subst e1
              refine ⟨_, rfl, rfl, _, rfl, ?_⟩
              rw [cl41, str_eq, decide_eq_false (kd_not kd)]
              exact iteF ⟨.atom kd l, a, fs, ops, rws, [], aW, _, rfl, bh2, .inl ⟨kd, l, rfl⟩, ctx, nm', fnm, ro, e2, eW, .nil⟩
            · rw [v.pc] at e
              have e1 := (List.cons.inj e).1
              subst e1
              exact absurd (wd_is wd) hw
          | @close f fs' v ctx nm' ro e =>
            obtain ⟨e1, e2⟩ := List.cons.inj e
            subst e1
            refine ⟨_, rfl, rfl, _, rfl, ?_⟩
            rw [cl41, str_eq, decide_eq_true (show (cl (f.at_ + (hd f.w f.b).length + (kT f.dn).length)).kind = [41] from rfl)]
            have lO := bh2.pO.length
            have lR := bh2.pR.length
            cases ops with
            | nil => simp at lO
            | cons pc ops' =>
              cases rws with
              | nil => simp at lR
              | cons r rws' =>
                obtain ⟨eO, eR, ePc, ⟨qs, er, pq⟩, bh3⟩ := bh2.pop
                have nd := bh2.nd
                simp only [List.nodup_cons, List.mem_cons, not_or] at nd
                obtain ⟨⟨n1, n2, n3, n4⟩, ⟨n5, n6, n7⟩, ⟨n8, n9⟩, n10, n11⟩ := nd
                have npc : pc ≠ aO := ne_of ePc eO (by intro z; cases z)
                have k1 : Keep H3 (upd H3 aO (.lst (ops'.reverse.map V.ref))) := Keep.upd eO
                have eR2 : ∀ o, (upd H3 aO o) aR = some (.lst ((r0 :: rws'.reverse).map V.ref ++ [V.ref r])) := fun o => by
                  rw [upd_ne (Ne.symm n1)]
                  exact eR
                refine iteT ⟨_, rfl, .inl ⟨rfl, _, .inl (.inl eO)⟩, aO, _, .ref pc, rfl, rfl, eO, by simp, ?_⟩
                rw [List.dropLast_concat]
                refine ⟨pc, _, rfl, .inl (.inl (k1 _ _ ePc (by intro l z; cases z))), rfl, _, _, rfl, _, _, rfl, _, _, rfl, _, _, rfl, rfl, ?_⟩
                refine ⟨_, rfl, .inl ⟨rfl, _, .inl (.inl (eR2 _))⟩, aR, _, .ref r, rfl, rfl, eR2 _, by simp, ?_⟩
                rw [List.dropLast_concat]
                have kp := k1.trans (Keep.upd (o := .lst ((r0 :: rws'.reverse).map V.ref)) (eR2 _))
                have epr : f.at_ + (hd f.w f.b).length + (kT f.dn).length + 1 = f.at_ + f.t.pr.length := by
                  rw [v.pr]
                  simp
                  omega
                refine ⟨f.t, f.at_, fs', ops', rws', qs, r, some (.int (op f.at_ f.w f.b).e), ?_, bh3, .inr ⟨_, _, _, v⟩, ctx, nm', fun g hg => fnm g (List.mem_cons_of_mem _ hg), ro, e2, ?_, ?_⟩
                · rw [v.kind, v.small, ← epr]
                  rfl
                · rw [upd_ne (Ne.symm n6), upd_ne (Ne.symm n3)]
                  exact er
                · rw [v.kids]
                  exact Paired.mapP pq fun q t h => h.keep kp
        · rintro σ H4 ⟨k, a, fs, ops, rws, qs, l, y10, rfl, bh4, vw, ctx, nm', fnm', ro, erem, el, pq⟩
          have eR := bh4.eR
          obtain ⟨L, r, zs, eL, eRow⟩ := bh4.last
          rw [eL] at eR
          refine ⟨_, rfl, _, rfl, aR, _, _, _, rfl, rfl, .inl (.inl eR), atI_end _ _, .inl ⟨rfl, _, .inl (.inl eRow)⟩, ?_⟩
          -- Tree(text[begin:end], kind, small, within)
          have cut : cutS (tx k0.pr) (some (a : Int)) (some ((a + k.pr.length : Nat) : Int)) = tx k.pr := cut_at ctx.text rfl rfl
          refine ⟨_, rfl, _, rfl, _, rfl, _, rfl, _, rfl, _, rfl, by rw [tx_len]; exact hl, _, rfl, _, rfl, _, rfl, fun p dx hp hdx nxp => ?_⟩
          rw [cut]
          obtain ⟨frs, pf, pi2, hfr⟩ := frees pq (N := N) (by
            rcases vw with ⟨kd, l, rfl⟩ | ⟨w, b, ks, v⟩
            · exact fun k hk => by simp [U.Tm.kids] at hk
            · rw [v.kids]
              exact v.names nm')
          have flen := pf.length
          have plen2 := pq.length
          have kf := kids_few k
          have fb := found_bound (small := smV k.small) (by omega) hN hfr
          have s5 : Same H4 (upd (upd H4 dx (.own p)) p (.ins C dx [])) := (same_new hdx).trans (same_new (by rw [upd_ne (Ne.symm nxp)]; exact hp))
          have npl : l ≠ p := ne_of_none el hp
          refine ⟨p, dx, l, k.pr, k.kind, smV k.small, qs, frs, rfl, upd_same, smV_is _, s5 _ _ el, Paired.mapP pf fun q fr h => h.same s5, fb.1, ⟨N, hN, fb.2⟩, fun H' tw tf ys b1 e1 e2 e3 y1 y2 => ⟨rfl, ?_⟩⟩
          have s6 : Same H4 H' := But.sameN b1 s5 hp
          have fi := free_is vw pi2 y1 y2
          have tr : TreeAt C H' k p := TreeAt.mk ⟨dx, tw, tf, _, e1, e2, e3, fi⟩ (Paired.mapP pq fun q t h => h.keep (Keep.of s6))
          have bh6 := bh4.same s6
          have few : ∀ f g, fs = f :: g → f.dn.length ≤ 3 := by
            rintro f g rfl
            have h1 := ctx.1.ar
            have h2 := ar_le f.w
            rw [List.length_append] at h1
            omega
          obtain ⟨r', qs', ⟨L', eL'⟩, er', l3, _, _, bh7⟩ := bh6.put tr few
          have er : r' = r := by
            have h := (List.append_inj' (eL'.symm.trans eL) rfl).2
            injection h with h _
            injection h
          subst er
          refine ⟨r', _, _, rfl, rfl, er', ?_, ?_⟩
          · rw [List.length_map]
            exact sizeLine_ge (by omega)
          exact ⟨ops, rws, putDn fs k, putBot fs k, _, _, _, _, _, _, _, rfl, bh7, Bst.fin ctx nm fnm' ro erem, fun f hf => by
            cases fs with
            | nil => simp [putDn] at hf
            | cons g fs' =>
              rcases List.mem_cons.mp hf with rfl | hf
              · exact fnm' g List.mem_cons_self
              · exact fnm' f (List.mem_cons_of_mem _ hf)⟩
    · rintro σ H1 ⟨ops, rws, fs, bot, x4, x5, x6, x7, x8, x9, x10, rfl, bh, bst, fnm⟩
      rw [List.length_map, plen, List.drop_length] at bst
      cases bst with
      | ahead k a ctx ok nm' ro e => cases k <;> simp [U.Tm.pc] at e
      | close v ctx nm' ro e => cases e
      | over e =>
        have hr : rws = [] := by
          have := bh.pR
          cases this
          rfl
        subst hr
        obtain ⟨qs, er, pq⟩ := bh.b0
        cases pq with
        | @cons q0 _ qs' _ t0 p2 =>
          cases p2
          exact ⟨_, rfl, aR, _, _, _, rfl, rfl, .inl (.inl bh.eR), rfl, r0, _, _, _, rfl, rfl, .inl (.inl er), rfl, q q0 H1 bh.sm t0⟩
end
end K


set_option Elab.async false
set_option linter.all false
set_option maxRecDepth 100000
set_option maxHeartbeats 4000000
namespace K
open PySem PySem.Spec PyProof.Rows L2 U
def spTreeOf (C : Addr) : Sp := fun vs H Q _ => ∃ (k : U.Tm) (N : List Str), vs = [.str (tx k.pr)] ∧ k.pr.length ≤ sizeLine ∧ k.Ok ∧ k.size ≤ 200 ∧ k.depth ≤ 30 ∧ N.length < 64 ∧ k.Names (nameOk N) ∧
  ∀ q H', Same H H' → TreeAt C H' k q → Q (.ref q) H'
def spAll (C : Addr) : Sp := fun vs H Q _ => ∃ (k : U.Tm) (p : Addr), vs = [.ref p] ∧ TreeAt C H k p ∧ k.size ≤ 1000 ∧
  ∀ r H' qs zs, Same H H' → H r = none → H' r = some (.lst (qs.map V.ref)) → Paired (fun q k => TreeAt C H' k q) qs zs → zs = k :: zs.flatMap U.Tm.kids → zs.length = k.size → Q (.ref r) H'
def sizes (zs : List U.Tm) : Nat := (zs.map U.Tm.size).sum
theorem size_kids (k : U.Tm) : k.size = 1 + sizes k.kids := by
  cases k <;> simp [U.Tm.size, U.Tm.kids, sizes] <;> omega
theorem sizes_app (a b : List U.Tm) : sizes (a ++ b) = sizes a + sizes b := by simp [sizes]
theorem sizes_len : ∀ zs : List U.Tm, zs.length ≤ sizes zs
  | [] => Nat.le_refl _
  | z :: zs => by
    have := sizes_len zs
    have h := size_kids z
    simp only [sizes, List.map_cons, List.sum_cons, List.length_cons] at this ⊢
    omega
section
variable {P : Program} {w : World} {K : PySem.W.Frag} {mg : Str → Option Value} {base : Heap} {dW dB : Addr} {esW : Array DictEntry} {nW : Nat} (T : Txt K mg w dW dB esW nW)
include T
theorem ok_tree_of {f f1 f2 f3 C : Addr} {fd fd1 fd2 fd3 : FuncData} (F : Fun K "tree_of" "tree_of" s_tree_of f fd) (h_pieces_of : Has P w K mg base "pieces_of" 5 ["text"] spPieces f1 fd1) (h_check_size : Has P w K mg base "check_size" 1 ["pieces"] spCheck f2 fd2)
    (h_built : Has P w K mg base "built" 4 ["text", "pieces"] (spBuilt C) f3 fd3) : FnOk P w K mg base CX0 6 f fd ["text"] (spTreeOf C) := by
  refine F.ok sc_tree_of (fun vs H Q E h => ?_) (fun cdv A outer s H vs Q E hr h => ?_)
  · obtain ⟨k, N, rfl, _⟩ := h
    rfl
  · obtain ⟨k, N, rfl, hl, hok, hsz, hdp, hN, nm, q⟩ := h
    refine ⟨_, (pss_cons (ps_if (pt_not (pt_val (pe_callB call_isi (by rfl) T.z_isinstance (by decide +kernel) (pa_cons (pv 0) (pa_cons (pe_bltn (v := .ty "str") (u := .type "str") (by rfl) T.z_str (by decide +kernel) rfl) pa_nil))))) 
        (pss_one (ps_never)) pss_nil)
      (pss_cons (ps_set (i := 1) sc_tree_of.nd rfl (.inl rfl) (pe_callH h_pieces_of (hr.mono (by first | decide | omega)) (by rfl) (pa_cons (pv 0) pa_nil)))
      (pss_cons (ps_expr (pe_callH h_check_size (hr.mono (by first | decide | omega)) (by rfl) (pa_cons (pv 1) pa_nil)))
      (pss_one (ps_ret (pe_callH h_built (hr.mono (by first | decide | omega)) (by rfl) (pa_cons (pv 0) (pa_cons (pv 1) pa_nil)))))))), ?_⟩
    refine ⟨_, rfl, _, _, .type "str", _, true, rfl, .ty "str", .base (.str _), kit_ty rfl, ?_⟩
    refine ⟨true, rfl, iteF ?_⟩
    refine ⟨_, rfl, k, rfl, hl, hok, by omega, fun p H1 ps s1 e1 pcs => ?_⟩
    have sz := sz_term k 0 ⟨0, 0, 0⟩ (Int.le_refl _)
    refine ⟨_, rfl, p, ps, k.pc 0, rfl, e1, pcs, ?_, ?_, ?_⟩
    · rw [sz]
      show max (0 : Int) (0 + (k.depth : Int)) ≤ 30
      omega
    · rw [sz]
      show (0 : Int) + (k.size : Int) ≤ 200
      omega
    refine ⟨_, rfl, _, rfl, p, ps, k, N, rfl, hl, hok, by omega, e1, pcs, hN, nm, fun q0 H2 s2 t => q q0 H2 (s1.trans s2) t⟩
theorem ok_all_trees {f C : Addr} {fd : FuncData} (F : Fun K "all_trees" "all_trees" s_all_trees f fd) (TC : TreeC K C) : FnOk P w K mg base CX0 1 f fd ["tree"] (spAll C) := by
  refine F.ok sc_all_trees (fun vs H Q E h => ?_) (fun cdv A outer s H vs Q E hr h => ?_)
  · obtain ⟨k, p, rfl, _⟩ := h
    rfl
  · obtain ⟨k, p, rfl, ht, hsz, q⟩ := h
    refine ⟨_, (pss_cons (ps_set (i := 1) sc_all_trees.nd rfl (.inl rfl) (pe_lst (pa_cons (pv 0) pa_nil)))
      (pss_cons (ps_set (i := 2) sc_all_trees.nd rfl (.inl rfl) pe_int)
      (pss_cons (ps_while PassesOwn.never (pt_cmpR op_lt (pv 2) (pe_callB call_len_seq (by rfl) T.z_len (by decide +kernel) (pa_cons (pv 1) pa_nil)) (nomark _)) 
        (pss_cons (ps_set (i := 3) sc_all_trees.nd rfl (.inl rfl) (pe_fld (pe_ix ix_list (pv 1) (pv 2) (fun _ _ => rfl)) (by rfl)))
        (pss_cons (ps_expr (pe_bm PySem.F.plainAttrs_list PySem.F.slot_list_extend PySem.F.type_list_extend mt_extendT (pv 1) (pa_cons (pv 3) pa_nil)))
        (pss_one (ps_aug (i := 2) sc_all_trees.nd rfl (.inl rfl) pe_int ip_add)))))
      (pss_one (ps_ret (pv 1)))))), ?_⟩
    refine ⟨_, rfl, sizeLine_ge (by show 1 ≤ 10000; decide), fun aF hF => ?_⟩
    have s0 : Same H (upd H aF (.lst [.ref p])) := same_new hF
    refine ⟨fun m σ H' => Same H H' ∧ ∃ (qs : List Addr) (zs : List U.Tm) (i : Nat) (x3 : Option V), σ = [some (.ref p), some (.ref aF), some (.int i), x3] ∧ H' aF = some (.lst (qs.map V.ref)) ∧ Paired (fun q k => TreeAt C H' k q) qs zs ∧
      zs = k :: (zs.take i).flatMap U.Tm.kids ∧ i ≤ zs.length ∧ i + sizes (zs.drop i) = k.size ∧ m = sizes (zs.drop i), ⟨_, s0, [p], [k], 0, _, rfl, upd_same, .cons (ht.keep (Keep.of s0)) .nil, rfl, by simp, by simp [sizes], rfl⟩, ?_⟩
    rintro m σ H1 ⟨s1, qs, zs, i, x3, rfl, eF, pq, ez, hi, hs, rfl⟩
    have pl := pq.length
    refine ⟨_, rfl, _, rfl, aF, _, rfl, .inl (.inl (.inl eF)), _, _, rfl, rfl, _, rfl, ?_⟩
    rw [List.length_map, pl]
    refine ite2 (fun h => ?_) (fun h => ?_)
    · have h := of_decide_eq_true h
      have hi2 : i < zs.length := by omega
      have hz : zs[i]? = some zs[i] := List.getElem?_eq_getElem hi2
      obtain ⟨qi, e1, ti⟩ := Paired.at_ pq hz
      have dz : zs.drop i = zs[i] :: zs.drop (i + 1) := List.drop_eq_getElem_cons hi2
      generalize hzi : zs[i] = z at ti dz hz
      obtain ⟨ks, ys, ⟨dx, tw, tf, cd, n1, n2, n3, n4⟩, pk⟩ := ti.node
      rw [dz] at hs
      have hsz2 := size_kids z
      simp only [sizes, List.map_cons, List.sum_cons] at hs hsz2
      have zl := sizes_len zs
      have kk := sizes_len z.kids
      have pkl := pk.length
      have dl : sizes (zs.drop (i + 1)) = ((zs.drop (i + 1)).map U.Tm.size).sum := rfl
      have dl1 := sizes_len (zs.drop (i + 1))
      have dl2 : (zs.drop (i + 1)).length = zs.length - (i + 1) := List.length_drop ..
      rw [dl] at dl1
      have hk2 : sizes z.kids = (z.kids.map U.Tm.size).sum := rfl
      refine ⟨fun σ' H' => ∃ m', m' < sizes (zs.drop i) ∧ _, fun σ' H' h => h, ?_⟩
      refine ⟨_, rfl, _, rfl, aF, _, _, _, rfl, rfl, .inl (.inl eF), atI_nat (by rw [List.getElem?_map, e1]; rfl), qi, C, dx, _, _, rfl, n1, TC.cl, TC.nw, tF_within _ _ _ _ _ _, ?_⟩
      refine ⟨_, rfl, .inl ⟨rfl, _, .inl (.inl eF)⟩, _, rfl, aF, tw, _, _, rfl, rfl, eF, .inl (.inl n2), ?_, ?_⟩
      · rw [List.length_map, List.length_map]
        exact sizeLine_ge (by omega)
      have kp : Keep H1 (upd H1 aF (.lst (qs.map V.ref ++ ks.map V.ref))) := Keep.upd eF
      have tk : (zs ++ z.kids).take (i + 1) = zs.take i ++ [z] := by
        rw [List.take_append_of_le_length (by omega), List.take_add_one, hz]
        rfl
      have dr : (zs ++ z.kids).drop (i + 1) = zs.drop (i + 1) ++ z.kids := List.drop_append_of_le_length (by omega)
      refine ⟨_, rfl, _, _, rfl, rfl, sizes ((zs ++ z.kids).drop (i + 1)), ?_, upd_new hF s1, qs ++ ks, zs ++ z.kids, i + 1, _, rfl, ?_, Paired.app (Paired.mapP pq fun q t h => h.keep kp) (Paired.mapP pk fun q t h => h.keep kp), ?_, ?_, ?_, rfl⟩
      · rw [dr, dz, sizes_app]
        simp only [sizes, List.map_cons, List.sum_cons]
        omega
      · rw [upd_same, List.map_append]
      · rw [tk, List.flatMap_append, List.flatMap_singleton, ← List.cons_append, ← ez]
      · rw [List.length_append]
        omega
      · rw [dr, sizes_app]
        simp only [sizes]
        omega
    · have h : ¬ ((i : Int) < (zs.length : Int)) := fun e => h (decide_eq_true e)
      have hi2 : i = zs.length := by omega
      rw [hi2, List.take_length] at ez
      rw [hi2, List.drop_length] at hs
      exact ⟨_, rfl, q aF H1 qs zs s1 hF eF pq ez (by simpa [sizes] using hs)⟩
end
end K


set_option Elab.async false
set_option linter.all false
set_option maxRecDepth 100000
set_option maxHeartbeats 4000000
namespace K
open PySem PySem.Spec PyProof.Rows L2 U SkE
def termF (t s r : V) : List (Str × V) := putF "_trees" r (putF "_text" s (putF "_tree" t []))
theorem ne_ut_us : ¬ (("_tree" : Str) = "_text") := by decide +kernel
theorem ne_ut_ur : ¬ (("_tree" : Str) = "_trees") := by decide +kernel
theorem ne_us_ur : ¬ (("_text" : Str) = "_trees") := by decide +kernel
section
variable (t s r : V)
theorem mF_tree : (termF t s r).lookup ("_tree" : Str) = some t := by
  unfold termF
  rw [lookup_putF, if_neg ne_ut_ur, lookup_putF, if_neg ne_ut_us, lookup_putF, if_pos rfl]
theorem mF_text : (termF t s r).lookup ("_text" : Str) = some s := by
  unfold termF
  rw [lookup_putF, if_neg ne_us_ur, lookup_putF, if_pos rfl]
theorem mF_trees : (termF t s r).lookup ("_trees" : Str) = some r := by
  unfold termF
  rw [lookup_putF, if_pos rfl]
end
/-- the class Term as the top has made it -/
structure TermC (K : PySem.W.Frag) (C : Addr) : Prop where
  cl : Cls K C
  nt : NoAttr K C "_tree"
  ns : NoAttr K C "_text"
  nr : NoAttr K C "_trees"
/-- the Term of a term at p -/
def TermAt (CT C : Addr) (H : Hp) (k : U.Tm) (p : Addr) : Prop := ∃ dx q r qs zs, H p = some (.ins CT dx (termF (.ref q) (.str (tx k.pr)) (.ref r))) ∧ TreeAt C H k q ∧ H r = some (.lst (qs.map V.ref)) ∧ Paired (fun q k => TreeAt C H k q) qs zs ∧ zs = k :: zs.flatMap U.Tm.kids ∧ zs.length = k.size
theorem TermAt.same {CT C : Addr} {H H' : Hp} {k : U.Tm} {p : Addr} (h : TermAt CT C H k p) (s : Same H H') : TermAt CT C H' k p := by
  obtain ⟨dx, q, r, qs, zs, h1, h2, h3, h4, h5, h6⟩ := h
  exact ⟨dx, q, r, qs, zs, s _ _ h1, h2.keep (Keep.of s), s _ _ h3, Paired.mapP h4 fun q t h => h.keep (Keep.of s), h5, h6⟩
/-- the same, the place of its list of trees told -/
def TermG (G : Addr → Prop) (CT C : Addr) (H : Hp) (k : U.Tm) (p : Addr) : Prop := ∃ dx q r qs zs, G r ∧ H p = some (.ins CT dx (termF (.ref q) (.str (tx k.pr)) (.ref r))) ∧ TreeAt C H k q ∧ H r = some (.lst (qs.map V.ref)) ∧ Paired (fun q k => TreeAt C H k q) qs zs ∧ zs = k :: zs.flatMap U.Tm.kids ∧ zs.length = k.size
theorem TermG.at_ {G : Addr → Prop} {CT C : Addr} {H : Hp} {k : U.Tm} {p : Addr} (h : TermG G CT C H k p) : TermAt CT C H k p := by
  obtain ⟨dx, q, r, qs, zs, _, h⟩ := h
  exact ⟨dx, q, r, qs, zs, h⟩
/-- trees are as they were -/
def KeepT (H H' : Hp) : Prop := ∀ p o, H p = some o → (∀ l, o ≠ .lst l) → (∀ C dx fs, o = .ins C dx fs → fs.lookup ("text" : Str) ≠ none) → H' p = some o
theorem NodeAt.keepT {C : Addr} {H H' : Hp} {t : U.Tm} {qs : List Addr} {p : Addr} {ys : List Str} (h : NodeAt C H t qs p ys) (k : KeepT H H') : NodeAt C H' t qs p ys := by
  obtain ⟨dx, tw, tf, cd, h1, h2, h3, h4⟩ := h
  refine ⟨dx, tw, tf, cd, k _ _ h1 (by intro l z; cases z) ?_, k _ _ h2 (by intro l z; cases z) (by intro _ _ _ z; cases z), k _ _ h3 (by intro l z; cases z) (by intro _ _ _ z; cases z), h4⟩
  intro C' dx' fs z
  injection z with _ _ z
  rw [← z, tF_text]
  simp
theorem TreeAt.keepT {C : Addr} {H H' : Hp} (k : KeepT H H') : ∀ {t : U.Tm} {p : Addr}, TreeAt C H t p → TreeAt C H' t p
  | .atom _ _, _, ⟨ys, h⟩ => ⟨ys, h.keepT k⟩
  | .n1 _ _ _, _, ⟨q, ys, h, h1⟩ => ⟨q, ys, h.keepT k, h1.keepT k⟩
  | .n2 _ _ _ _, _, ⟨q1, q2, ys, h, h1, h2⟩ => ⟨q1, q2, ys, h.keepT k, h1.keepT k, h2.keepT k⟩
  | .n3 _ _ _ _ _, _, ⟨q1, q2, q3, ys, h, h1, h2, h3⟩ => ⟨q1, q2, q3, ys, h.keepT k, h1.keepT k, h2.keepT k, h3.keepT k⟩
theorem KeepT.upd {H : Hp} {p C dx : Addr} {fs : List (Str × V)} {o : HO} (e : H p = some (.ins C dx fs)) (h : fs.lookup ("text" : Str) = none) : KeepT H (upd H p o) := fun a u h1 _ h3 => by
  rw [upd_ne fun z => ?_]
  · exact h1
  · rw [z, e] at h1
    exact h3 C dx fs (Option.some.inj h1).symm h
theorem KeepT.trans {H H1 H2 : Hp} (a : KeepT H H1) (b : KeepT H1 H2) : KeepT H H2 := fun p o e n m => b p o (a p o e n m) n m
theorem ne_x_ut : ¬ (("text" : Str) = "_tree") := by decide +kernel
theorem ne_x_us : ¬ (("text" : Str) = "_text") := by decide +kernel
/-- a term that Term takes -/
structure Fit (k : U.Tm) (N : List Str) : Prop where
  len : k.pr.length ≤ sizeLine
  ok : k.Ok
  size : k.size ≤ 200
  depth : k.depth ≤ 30
  few : N.length < 64
  names : k.Names (nameOk N)
def spTermInit (CT C : Addr) : Sp := fun vs H Q _ => ∃ (k : U.Tm) (N : List Str) (p dx : Addr), vs = [.ref p, .str (tx k.pr)] ∧ Fit k N ∧ H p = some (.ins CT dx []) ∧ ∀ H', But p H H' → TermG (fun a => H a = none) CT C H' k p → Q .non H'
def spTermEq (K : PySem.W.Frag) (CT C : Addr) : Sp := fun vs H Q _ => ∃ (k : U.Tm) (p : Addr) (y : V), vs = [.ref p, y] ∧ TermAt CT C H k p ∧
  ((∃ t, TyX K H y t ∧ PySem.W.kitOne K t (.ref CT) = some false ∧ Q (.bl false) H) ∨ ∃ k2 p2, y = .ref p2 ∧ TermAt CT C H k2 p2 ∧ TyX K H y (.ref CT) ∧ PySem.W.kitOne K (.ref CT) (.ref CT) = some true ∧ Q (.bl (decide (k.pr = k2.pr))) H)
def spTermLen (CT C : Addr) : Sp := fun vs H Q _ => ∃ (k : U.Tm) (p : Addr), vs = [.ref p] ∧ TermAt CT C H k p ∧ k.size ≤ 1000 ∧ Q (.int k.size) H
def spTermStr (CT C : Addr) : Sp := fun vs H Q _ => ∃ (k : U.Tm) (p : Addr), vs = [.ref p] ∧ TermAt CT C H k p ∧ Q (.str (tx k.pr)) H
def reprOf (k : U.Tm) : Str := Str.empty ++ Str.ofString "Term('" ++ tx k.pr ++ Str.ofString "')"
def spTermRepr (CT C : Addr) : Sp := fun vs H Q _ => ∃ (k : U.Tm) (p : Addr), vs = [.ref p] ∧ TermAt CT C H k p ∧ k.pr.length ≤ 9000 ∧ Q (.str (reprOf k)) H
section
variable {P : Program} {w : World} {K : PySem.W.Frag} {mg : Str → Option Value} {base : Heap} {dW dB : Addr} {esW : Array DictEntry} {nW : Nat} (T : Txt K mg w dW dB esW nW)
include T
theorem ok_Term_init {f f1 f2 C CT : Addr} {fd fd1 fd2 : FuncData} (F : Fun K "__init__" "Term.__init__" s_Term___init__ f fd) (MC : TermC K CT) (h_tree_of : Has P w K mg base "tree_of" 6 ["text"] (spTreeOf C) f1 fd1) (h_all_trees : Has P w K mg base "all_trees" 1 ["tree"] (spAll C) f2 fd2) :
    FnOk P w K mg base CX0 7 f fd ["self", "text"] (spTermInit CT C) := by
  refine F.ok sc_Term___init__ (fun vs H Q E h => ?_) (fun cdv A outer s H vs Q E hr h => ?_)
  · obtain ⟨k, N, p, dx, rfl, _⟩ := h
    rfl
  · obtain ⟨k, N, p, dx, rfl, fit, hp, q⟩ := h
    refine ⟨_, (pss_cons (ps_fld (pv 0) (pe_callH h_tree_of (hr.mono (by first | decide | omega)) (by rfl) (pa_cons (pv 1) pa_nil)) rfl)
      (pss_cons (ps_fld (pv 0) (pv 1) rfl)
      (pss_one (ps_fld (pv 0) (pe_callH h_all_trees (hr.mono (by first | decide | omega)) (by rfl) (pa_cons (pe_fld (pv 0) (by rfl)) pa_nil)) rfl)))), ?_⟩
    refine ⟨_, rfl, k, N, rfl, fit.len, fit.ok, fit.size, fit.depth, fit.few, fit.names, fun q0 H1 s1 t1 => ?_⟩
    refine ⟨_, rfl, p, CT, dx, _, rfl, s1 _ _ hp, MC.cl, MC.nt, by show 0 < 1000; decide, ?_⟩
    refine ⟨_, rfl, _, rfl, p, CT, dx, _, rfl, upd_same, MC.cl, MC.ns, by show 1 < 1000; decide, ?_⟩
    have k2 : KeepT H1 (upd (upd H1 p (.ins CT dx (putF "_tree" (.ref q0) []))) p (.ins CT dx (putF "_text" (.str (tx k.pr)) (putF "_tree" (.ref q0) [])))) := by
      rw [upd_upd]
      exact KeepT.upd (s1 _ _ hp) rfl
    have b2 : But p H (upd (upd H1 p (.ins CT dx (putF "_tree" (.ref q0) []))) p (.ins CT dx (putF "_text" (.str (tx k.pr)) (putF "_tree" (.ref q0) [])))) := by
      rw [upd_upd]
      exact (But.of_same s1).trans But.upd
    have fsz := fit.size
    refine ⟨_, rfl, p, CT, dx, _, _, rfl, upd_same, MC.cl, MC.nt, (by rw [lookup_putF, if_neg ne_ut_us, lookup_putF, if_pos rfl]), k, q0, rfl, t1.keepT k2, by omega, fun r H' qs zs s2 nr e2 pq ez el => ?_⟩
    have e3 := s2 _ _ (upd_same (H := upd H1 p (.ins CT dx (putF "_tree" (.ref q0) []))) (o := .ins CT dx (putF "_text" (.str (tx k.pr)) (putF "_tree" (.ref q0) []))))
    refine ⟨_, rfl, p, CT, dx, _, rfl, e3, MC.cl, MC.nr, by show 2 < 1000; decide, ?_⟩
    have k3 : KeepT H' (upd H' p (.ins CT dx (termF (.ref q0) (.str (tx k.pr)) (.ref r)))) := KeepT.upd e3 (by rw [lookup_putF, if_neg ne_x_us, lookup_putF, if_neg ne_x_ut]; rfl)
    have nr0 : H r = none := by
      rw [upd_upd] at nr
      have nrp : r ≠ p := fun z => by rw [z, upd_same] at nr; cases nr
      rw [upd_ne nrp] at nr
      cases h : H r with
      | none => rfl
      | some o => rw [s1 _ _ h] at nr; cases nr
    refine q _ ((b2.trans (But.of_same s2)).trans But.upd) ⟨dx, q0, r, qs, zs, nr0, upd_same, ((t1.keepT k2).keep (Keep.of s2)).keepT k3, ?_, Paired.mapP pq fun q t h => h.keepT k3, ez, el⟩
    rw [upd_ne (ne_of e2 e3 (by intro z; cases z))]
    exact e2
theorem ok_Term_len {f C CT : Addr} {fd : FuncData} (F : Fun K "__len__" "Term.__len__" s_Term___len__ f fd) (MC : TermC K CT) : FnOk P w K mg base CX0 1 f fd ["self"] (spTermLen CT C) := by
  refine F.ok sc_Term___len__ (fun vs H Q E h => ?_) (fun cdv A outer s H vs Q E hr h => ?_)
  · obtain ⟨k, p, rfl, _⟩ := h
    rfl
  · obtain ⟨k, p, rfl, ⟨dx, q0, r, qs, zs, h1, h2, h3, h4, h5, h6⟩, hs, q⟩ := h
    refine ⟨_, (pss_one (ps_ret (pe_callB call_len_seq (by rfl) T.z_len (by decide +kernel) (pa_cons (pe_fld (pv 0) (by rfl)) pa_nil)))), ?_⟩
    have e : (qs.map V.ref).length = k.size := by rw [List.length_map, h4.length, h6]
    rw [← e] at q
    exact ⟨_, rfl, p, CT, dx, _, _, rfl, h1, MC.cl, MC.nr, mF_trees _ _ _, r, _, rfl, .inl (.inl (.inl h3)), q⟩
theorem ok_Term_str {f C CT : Addr} {fd : FuncData} (F : Fun K "__str__" "Term.__str__" s_Term___str__ f fd) (MC : TermC K CT) : FnOk P w K mg base CX0 1 f fd ["self"] (spTermStr CT C) := by
  refine F.ok sc_Term___str__ (fun vs H Q E h => ?_) (fun cdv A outer s H vs Q E hr h => ?_)
  · obtain ⟨k, p, rfl, _⟩ := h
    rfl
  · obtain ⟨k, p, rfl, ⟨dx, q0, r, qs, zs, h1, h2, h3, h4, h5, h6⟩, q⟩ := h
    refine ⟨_, (pss_one (ps_ret (pe_callTy call_str_str (by rfl) T.z_str (by decide +kernel) (pa_cons (pe_fld (pv 0) (by rfl)) pa_nil)))), ?_⟩
    exact ⟨_, rfl, p, CT, dx, _, _, rfl, h1, MC.cl, MC.ns, mF_text _ _ _, _, rfl, q⟩
theorem ok_Term_repr {f C CT : Addr} {fd : FuncData} (F : Fun K "__repr__" "Term.__repr__" s_Term___repr__ f fd) (MC : TermC K CT) : FnOk P w K mg base CX0 1 f fd ["self"] (spTermRepr CT C) := by
  refine F.ok sc_Term___repr__ (fun vs H Q E h => ?_) (fun cdv A outer s H vs Q E hr h => ?_)
  · obtain ⟨k, p, rfl, _⟩ := h
    rfl
  · obtain ⟨k, p, rfl, ⟨dx, q0, r, qs, zs, h1, h2, h3, h4, h5, h6⟩, hl, q⟩ := h
    refine ⟨_, (pss_one (ps_ret (pe_joined (.cons pe_str (.cons (pe_fmt (pe_fld (pv 0) (by rfl))) (.cons pe_str .nil)))))), ?_⟩
    have z1 : (Str.empty ++ Str.ofString "Term('").length = 6 := by decide +kernel
    have z2 : (Str.ofString "')").length = 2 := by decide +kernel
    have app : ∀ a b : Str, (a ++ b).length = a.length + b.length := fun a b => by
      show (a.cps ++ b.cps).size = _
      simp [Str.length]
    refine ⟨_, rfl, sizeLine_ge (by rw [z1]; decide), _, rfl, p, CT, dx, _, _, rfl, h1, MC.cl, MC.ns, mF_text _ _ _, .inl ⟨_, rfl, ?_, _, rfl, ?_, _, rfl, ?_, q⟩⟩
    · rw [tx_len]
      exact sizeLine_ge (by omega)
    · rw [app, z1, tx_len]
      exact sizeLine_ge (by omega)
    · rw [app, app, z1, z2, tx_len]
      exact sizeLine_ge (by omega)
theorem ok_Term_eq {f C CT : Addr} {fd : FuncData} (F : Fun K "__eq__" "Term.__eq__" s_Term___eq__ f fd) (MC : TermC K CT) (hT : mg "Term" = some (.ref CT)) : FnOk P w K mg base CX0 1 f fd ["self", "other"] (spTermEq K CT C) := by
  refine F.ok sc_Term___eq__ (fun vs H Q E h => ?_) (fun cdv A outer s H vs Q E hr h => ?_)
  · obtain ⟨k, p, y, rfl, _⟩ := h
    rfl
  · obtain ⟨k, p, y, rfl, ⟨dx, q0, r, qs, zs, h1, h2, h3, h4, h5, h6⟩, q⟩ := h
    refine ⟨_, (pss_one (ps_ret (pe_and (pe_callB call_isi (by rfl) T.z_isinstance (by decide +kernel) (pa_cons (pv 1) (pa_cons (pe_globR (by rfl) hT) pa_nil))) (pe_one (pe_cmpR op_eq (pe_fld (pv 0) (by rfl)) (pe_fld (pv 1) (by rfl)) (nomark _)))))), ?_⟩
    rcases q with ⟨t, ty, kt, q⟩ | ⟨k2, p2, rfl, ⟨dx2, q2, r2, qs2, zs2, g1, g2, g3, g4, g5, g6⟩, ty, kt, q⟩
    · refine ⟨_, rfl, _, _, t, _, false, rfl, .own CT, ty, kt, false, rfl, iteF q⟩
    · refine ⟨_, rfl, _, _, _, _, true, rfl, .own CT, ty, kt, true, rfl, iteT ⟨_, rfl, p, CT, dx, _, _, rfl, h1, MC.cl, MC.ns, mF_text _ _ _, _, rfl, p2, CT, dx2, _, _, rfl, g1, MC.cl, MC.ns, mF_text _ _ _, rfl, ?_⟩⟩
      rw [str_eq]
      exact q
end
end K


set_option Elab.async false
set_option linter.all false
set_option maxRecDepth 100000
set_option maxHeartbeats 4000000
namespace K
open PySem PySem.Spec PyProof.Rows L2 U SkE
/-- a purse: digits left, what is mixed, how many were mixed -/
def Purse (H : Hp) (p : Addr) (c : Int) : Prop := ∃ a b c', H p = some (.lst [.int a, .int b, .int c']) ∧ 0 ≤ a ∧ 0 ≤ b ∧ b < 2 ^ 62 ∧ 0 ≤ c' ∧ c' ≤ c
def spPurse (K : PySem.W.Frag) : Sp := fun vs H Q _ => ∃ (l : Addr) (ns : List Int) (i : Nat), vs = [.ref l, .int i] ∧ SqL K H l (ns.map V.int) ∧ i ≤ 100 ∧ ∀ p a b, H p = none → 0 ≤ a → 0 ≤ b → b < 2 ^ 62 → Q (.ref p) (upd H p (.lst [.int a, .int b, .int 0]))
theorem b01 (k : Bool) : -(2 ^ 64) < (if k = true then (1 : Int) else 0) ∧ (if k = true then (1 : Int) else 0) < 2 ^ 64 := by
  cases k <;> decide
theorem purse_a (c : Int) (k : Bool) : 0 ≤ (if c < 0 then -c else c) * (if k = true then (1 : Int) else 0) := by
  refine Int.mul_nonneg ?_ ?_
  · split <;> omega
  · cases k <;> decide
theorem purse_b (c : Int) (i : Nat) (hi : i ≤ 100) : 0 ≤ c % 2305843009213693951 + 6607 * (i : Int) + 3 ∧ c % 2305843009213693951 + 6607 * (i : Int) + 3 < 2 ^ 62 := by
  have h1 := Int.emod_nonneg c (show (2305843009213693951 : Int) ≠ 0 by decide)
  have h2 := Int.emod_lt_of_pos c (show (0 : Int) < 2305843009213693951 by decide)
  have e : (2 : Int) ^ 62 = 4611686018427387904 := by decide
  omega
section
variable {P : Program} {w : World} {K : PySem.W.Frag} {mg : Str → Option Value} {base : Heap} {dW dB : Addr} {esW : Array DictEntry} {nW : Nat} (T : Txt K mg w dW dB esW nW)
include T
theorem ok__law_purse {f : Addr} {fd : FuncData} (F : Fun K "_law_purse" "_law_purse" s__law_purse f fd) : FnOk P w K mg base CX0 1 f fd ["_law_script", "_law_at"] (spPurse K) := by
  refine F.ok sc__law_purse (fun vs H Q E h => ?_) (fun cdv A outer s H vs Q E hr h => ?_)
  · obtain ⟨l, ns, i, rfl, _⟩ := h
    rfl
  · obtain ⟨l, ns, i, rfl, hl, hi, q⟩ := h
    refine ⟨_, (pss_cons (ps_set (i := 2) sc__law_purse.nd rfl (.inl rfl) pe_int)
      (pss_cons (ps_if (pt_cmpR op_lt (pv 1) (pe_callB call_len_seq (by rfl) T.z_len (by decide +kernel) (pa_cons (pv 0) pa_nil)) (nomark _)) 
        (pss_one (ps_set (i := 2) sc__law_purse.nd rfl (.inl rfl) (pe_ix ix_list (pv 0) (pv 1) (fun _ _ => rfl)))) pss_nil)
      (pss_cons (ps_set (i := 3) sc__law_purse.nd rfl (.inl rfl) (pe_callB call_abs (by rfl) T.z_abs (by decide +kernel) (pa_cons (pv 2) pa_nil)))
      (pss_one (ps_ret (pe_lst (pa_cons (pe_op op_mul (pv 3) (pe_callTy call_int1 (by rfl) T.z_int (by decide +kernel) (pa_cons (pe_cmpR op_ge (pv 3) (pe_op op_powW pe_int pe_int) (nomark _)) pa_nil))) (pa_cons (pe_op op_add (pe_op op_add (pe_op op_mod (pv 2) pe_int) (pe_op op_mul pe_int (pv 1))) pe_int) (pa_cons pe_int pa_nil))))))))), ?_⟩
    refine ⟨_, rfl, _, rfl, l, _, rfl, .inl hl, _, _, rfl, rfl, _, rfl, ?_⟩
    refine ite2 (fun h => ?_) (fun h => ?_)
    · have h := of_decide_eq_true h
      have h2 : i < ns.length := by
        rw [List.length_map] at h
        omega
      have h3 : (ns.map V.int)[i]? = some (.int ns[i]) := by
        rw [List.getElem?_map, List.getElem?_eq_getElem h2]
        rfl
      refine ⟨_, rfl, _, rfl, l, _, _, _, rfl, rfl, hl, atI_nat h3, ?_⟩
      refine ⟨_, rfl, _, rfl, _, rfl, _, rfl, _, _, rfl, rfl, ⟨by decide, by decide, by decide +kernel⟩, _, _, rfl, rfl, .inr ⟨_, rfl, _, _, rfl, rfl, .inr (b01 _), _, rfl, _, _, rfl, rfl, (show (0 : Int) < 2305843009213693951 by decide), _, rfl, _, _, rfl, rfl, .inl ⟨by decide, by decide⟩, _, _, rfl, rfl, _, _, rfl, rfl, sizeLine_ge (by show 3 ≤ 10000; decide), fun p hp => ?_⟩⟩
      exact q p _ _ hp (purse_a _ _) (purse_b _ _ hi).1 (purse_b _ _ hi).2
    · refine ⟨_, rfl, _, rfl, _, rfl, _, rfl, _, _, rfl, rfl, ⟨by decide, by decide, by decide +kernel⟩, _, _, rfl, rfl, .inr ⟨_, rfl, _, _, rfl, rfl, .inr (b01 _), _, rfl, _, _, rfl, rfl, (show (0 : Int) < 2305843009213693951 by decide), _, rfl, _, _, rfl, rfl, .inl ⟨by decide, by decide⟩, _, _, rfl, rfl, _, _, rfl, rfl, sizeLine_ge (by show 3 ≤ 10000; decide), fun p hp => ?_⟩⟩
      exact q p _ _ hp (purse_a _ _) (purse_b _ _ hi).1 (purse_b _ _ hi).2
/-- a draw: some number below many; the purse goes on -/
def spTake : Sp := fun vs H Q _ => ∃ (p : Addr) (m c : Int), vs = [.ref p, .int m] ∧ Purse H p c ∧ c < 2 ^ 40 ∧ 0 < m ∧ m < 2 ^ 60 ∧
  ∀ r H', 0 ≤ r → r < m → Purse H' p (c + 1) → But p H H' → Q (.int r) H'
omit T in
theorem primes_at (x : Int) (hx : 0 ≤ x) : ∃ z : Int, 0 < z ∧ z < 2 ^ 31 ∧ atI [V.int 2147483647, V.int 2147483629, V.int 2147483587, V.int 2147483579, V.int 2147483563, V.int 2147483549, V.int 2147483543] (x % 7) = some (.int z) := by
  have h1 := Int.emod_nonneg x (show (7 : Int) ≠ 0 by decide)
  have h2 := Int.emod_lt_of_pos x (show (0 : Int) < 7 by decide)
  have h3 : x % 7 = 0 ∨ x % 7 = 1 ∨ x % 7 = 2 ∨ x % 7 = 3 ∨ x % 7 = 4 ∨ x % 7 = 5 ∨ x % 7 = 6 := by omega
  rcases h3 with e | e | e | e | e | e | e <;> rw [e] <;> exact ⟨_, by decide, by decide, rfl⟩
omit T in
theorem base_small {b s : Int} (hb : 0 ≤ b) (hb2 : b < 2 ^ 62) (hs : 0 ≤ s) (hs2 : s < 2 ^ 41) : ((b + 104729 * s) * (3 * s + 4) + 7919 * s * s).natAbs < 2 ^ 1000 ∧ 0 ≤ (b + 104729 * s) * (3 * s + 4) + 7919 * s * s := by
  have e62 : (2 : Int) ^ 62 = 4611686018427387904 := by decide
  have e41 : (2 : Int) ^ 41 = 2199023255552 := by decide
  have h1 : (b + 104729 * s) * (3 * s + 4) ≤ 2 ^ 63 * 2 ^ 43 := Int.mul_le_mul (by rw [show (2 : Int) ^ 63 = 9223372036854775808 by decide]; omega) (by rw [show (2 : Int) ^ 43 = 8796093022208 by decide]; omega) (by omega) (by decide)
  have h2 : 7919 * s * s ≤ 2 ^ 54 * 2 ^ 41 := Int.mul_le_mul (by rw [show (2 : Int) ^ 54 = 18014398509481984 by decide]; omega) (by omega) hs (by decide)
  have h3 : 0 ≤ (b + 104729 * s) * (3 * s + 4) := Int.mul_nonneg (by omega) (by omega)
  have h4 : 0 ≤ 7919 * s * s := Int.mul_nonneg (by omega) hs
  have h5 : (2 : Int) ^ 63 * 2 ^ 43 + 2 ^ 54 * 2 ^ 41 < 2 ^ 200 := by decide
  refine ⟨?_, by omega⟩
  have h6 : (b + 104729 * s) * (3 * s + 4) + 7919 * s * s < 2 ^ 200 := by omega
  have h8 : 0 ≤ (b + 104729 * s) * (3 * s + 4) + 7919 * s * s := by omega
  have h7 : ((b + 104729 * s) * (3 * s + 4) + 7919 * s * s).natAbs < 2 ^ 200 := by omega
  exact Nat.lt_trans h7 (Nat.pow_lt_pow_right (by decide) (by decide))
theorem ok__law_take {f : Addr} {fd : FuncData} (F : Fun K "_law_take" "_law_take" s__law_take f fd) : FnOk P w K mg base CX0 1 f fd ["_law_purse_here", "_law_many"] spTake := by
  refine F.ok sc__law_take (fun vs H Q E h => ?_) (fun cdv A outer s H vs Q E hr h => ?_)
  · obtain ⟨p, m, c, rfl, _⟩ := h
    rfl
  · obtain ⟨p, m, c0, rfl, ⟨a, b, c, hp, ha, hb, hb2, hc, hcc⟩, hc2, hm, hm2, q⟩ := h
    refine ⟨_, (pss_cons (ps_if (pt_cmpR op_gt (pe_ix ix_list (pv 0) pe_int (fun _ _ => rfl)) pe_int (nomark _)) 
        (pss_cons (ps_set (i := 2) sc__law_take.nd rfl (.inl rfl) (pe_op op_mod (pe_ix ix_list (pv 0) pe_int (fun _ _ => rfl)) (pv 1)))
        (pss_cons (ps_asg (pe_op op_fdivW (pe_ix ix_list (pv 0) pe_int (fun _ _ => rfl)) (pv 1)) (pg_sub (pv 0) pe_int set_list))
        (pss_one (ps_ret (pv 2))))) pss_nil)
      (pss_cons (ps_set (i := 3) sc__law_take.nd rfl (.inl rfl) (pe_tup (pa_cons pe_int (pa_cons pe_int (pa_cons pe_int (pa_cons pe_int (pa_cons pe_int (pa_cons pe_int (pa_cons pe_int pa_nil)))))))))
      (pss_cons (ps_asg (pe_op op_add (pe_ix ix_list (pv 0) pe_int (fun _ _ => rfl)) pe_int) (pg_sub (pv 0) pe_int set_list))
      (pss_cons (ps_set (i := 4) sc__law_take.nd rfl (.inl rfl) (pe_ix ix_list (pv 0) pe_int (fun _ _ => rfl)))
      (pss_cons (ps_set (i := 5) sc__law_take.nd rfl (.inl rfl) (pe_op op_add (pe_op op_mul (pe_op op_add (pe_ix ix_list (pv 0) pe_int (fun _ _ => rfl)) (pe_op op_mul pe_int (pv 4))) (pe_op op_add (pe_op op_mul pe_int (pv 4)) pe_int)) (pe_op op_mul (pe_op op_mul pe_int (pv 4)) (pv 4))))
      (pss_cons (ps_set (i := 6) sc__law_take.nd rfl (.inl rfl) (pe_op op_mod (pe_op op_powW (pv 5) pe_int) (pe_ix ix_tup (pv 3) (pe_op op_mod (pv 4) pe_int) (fun _ _ => rfl))))
      (pss_one (ps_ret (pe_op op_mod (pe_op op_fdiv (pe_op op_mod (pe_op op_mul (pv 6) (pe_op op_add (pe_op op_add (pe_op op_fdiv (pv 6) pe_int) (pe_op op_mul pe_int (pv 4))) pe_int)) (pe_ix ix_tup (pv 3) (pe_op op_mod (pe_op op_add (pv 4) pe_int) pe_int) (fun _ _ => rfl))) pe_int) (pv 1)))))))))), ?_⟩
    refine ⟨_, rfl, p, _, _, _, rfl, rfl, .inl (.inl hp), rfl, _, _, rfl, rfl, _, rfl, ?_⟩
    refine ite2 (fun h => ?_) (fun h => ?_)
    · have h := of_decide_eq_true h
      refine ⟨_, rfl, p, _, _, _, rfl, rfl, .inl (.inl hp), rfl, _, rfl, _, _, rfl, rfl, hm, _, rfl, p, _, _, _, rfl, rfl, .inl (.inl hp), rfl, _, rfl, _, _, rfl, rfl, wide_div hm (b := 60) (by omega) (by decide) (by decide), _, rfl, p, _, _, _, rfl, rfl, hp, rfl, _, rfl, ?_⟩
      exact q (a % m) _ (Int.emod_nonneg a (by omega)) (Int.emod_lt_of_pos a hm) ⟨a / m, b, c, upd_same, Int.ediv_nonneg ha (by omega), hb, hb2, hc, by omega⟩ fun b' o e n => by rw [upd_ne n]; exact e
    · refine ⟨by show 7 ≤ sizeLine; exact sizeLine_ge (by decide), fun t ht => ?_⟩
      have npt : p ≠ t := ne_of_none hp ht
      refine ⟨_, rfl, p, _, _, _, rfl, rfl, .inl (.inl (by rw [upd_ne npt]; exact hp)), rfl, _, _, rfl, rfl, _, rfl, p, _, _, _, rfl, rfl, (by rw [upd_ne npt]; exact hp), rfl, ?_⟩
      have gp : ∀ (G : Hp), (upd G p (.lst ([V.int a, V.int b, V.int c].set (Int.toNat 2) (V.int (c + 1))))) p = some (.lst [.int a, .int b, .int (c + 1)]) := fun _ => upd_same
      have gt : (upd (upd H t (.tup [.int 2147483647, .int 2147483629, .int 2147483587, .int 2147483579, .int 2147483563, .int 2147483549, .int 2147483543])) p (.lst ([V.int a, V.int b, V.int c].set (Int.toNat 2) (V.int (c + 1))))) t = some (.tup [.int 2147483647, .int 2147483629, .int 2147483587, .int 2147483579, .int 2147483563, .int 2147483549, .int 2147483543]) := by
        rw [upd_ne npt.symm, upd_same]
      obtain ⟨z1, z1a, z1b, z1c⟩ := primes_at (c + 1) (by omega)
      obtain ⟨z2, z2a, z2b, z2c⟩ := primes_at (c + 1 + 3) (by omega)
      have bs := base_small hb hb2 (show 0 ≤ c + 1 by omega) (by omega)
      refine ⟨_, rfl, p, _, _, _, rfl, rfl, .inl (.inl (gp _)), rfl, ?_⟩
      refine ⟨_, rfl, p, _, _, _, rfl, rfl, .inl (.inl (gp _)), rfl, _, rfl, _, _, rfl, rfl, .inl ⟨by decide, by decide⟩, _, _, rfl, rfl, _, rfl, _, _, rfl, rfl, .inl ⟨by decide, by decide⟩, _, _, rfl, rfl, _, _, rfl, rfl, .inr ⟨by omega, by omega⟩,
        _, rfl, _, _, rfl, rfl, .inl ⟨by decide, by decide⟩, _, rfl, _, _, rfl, rfl, .inr ⟨by omega, by omega⟩, _, _, rfl, rfl, ?_⟩
      refine ⟨_, rfl, _, _, rfl, rfl, ⟨by decide, by decide, bs.1⟩, _, rfl, _, rfl, _, _, rfl, rfl, (show (0 : Int) < 7 by decide), t, _, _, _, rfl, rfl, .inl (.inl gt), z1c, _, _, rfl, rfl, z1a, ?_⟩
      have m1 := Int.emod_nonneg (((b + 104729 * (c + 1)) * (3 * (c + 1) + 4) + 7919 * (c + 1) * (c + 1)) ^ (Int.toNat 3)) (show z1 ≠ 0 by omega)
      have m2 := Int.emod_lt_of_pos (((b + 104729 * (c + 1)) * (3 * (c + 1) + 4) + 7919 * (c + 1) * (c + 1)) ^ (Int.toNat 3)) z1a
      refine ⟨_, rfl, _, rfl, _, _, rfl, rfl, ⟨by decide, by decide⟩, _, rfl, _, _, rfl, rfl, .inl ⟨by decide, by decide⟩, _, _, rfl, rfl, _, _, rfl, rfl, _, _, rfl, rfl, .inl ⟨by omega, by omega⟩,
        _, rfl, _, rfl, _, _, rfl, rfl, _, _, rfl, rfl, (show (0 : Int) < 7 by decide), t, _, _, _, rfl, rfl, .inl (.inl gt), z2c, _, _, rfl, rfl, z2a, _, _, rfl, rfl, ⟨by decide, by decide⟩, _, rfl, _, _, rfl, rfl, hm, ?_⟩
      refine q _ _ (Int.emod_nonneg _ (by omega)) (Int.emod_lt_of_pos _ hm) ⟨a, b, c + 1, gp _, ha, hb, hb2, by omega, by omega⟩ fun b' o e n => ?_
      rw [upd_ne n, upd_ne (ne_of_none e ht)]
      exact e
end
end K


set_option Elab.async false
set_option linter.all false
set_option maxRecDepth 100000
set_option maxHeartbeats 4000000
namespace K
open PySem PySem.Spec PyProof.Rows L2 U SkE
theorem foldl_tx (sep : List Nat) : ∀ (ps : List (List Nat)) (acc : List Nat), (ps.map tx).foldl (fun (a : Array Nat) (p : Str) => a ++ (tx sep).cps ++ p.cps) acc.toArray = (acc ++ (ps.map (sep ++ ·)).flatten).toArray
  | [], acc => by simp
  | p :: ps, acc => by
    rw [List.map_cons, List.foldl_cons, show acc.toArray ++ (tx sep).cps ++ (tx p).cps = (acc ++ sep ++ p).toArray by simp, foldl_tx sep ps]
    simp
theorem join_tx (sep p : List Nat) (ps : List (List Nat)) : Txt.join (tx sep) (tx p :: ps.map tx) = tx (p ++ (ps.map (sep ++ ·)).flatten) := by
  show PySem.Builtin.Str.glued (tx sep) (tx p :: ps.map tx) = _
  unfold PySem.Builtin.Str.glued
  rw [List.drop_one, List.tail_cons, List.headD_cons]
  exact congrArg Str.mk (foldl_tx sep ps p)
theorem join_nil (sep : Str) : Txt.join sep [] = tx [] := rfl
theorem empty_tx : Str.ofString "" = tx [] := by decide +kernel
theorem join_signs (zs : List Nat) : Txt.join (Str.ofString "") (zs.map fun c => tx [c]) = tx zs := by
  rw [empty_tx]
  cases zs with
  | nil => rfl
  | cons z zs =>
    have h := join_tx [] [z] (zs.map fun c => [c])
    rw [List.map_map] at h
    rw [List.map_cons]
    refine h.trans (congrArg (fun l : List Nat => tx l) ?_)
    clear h
    induction zs with
    | nil => rfl
    | cons y zs ih => simp at ih ⊢; exact ih
theorem cut_to (t : List Nat) (a : Nat) : cutS (tx t) none (some (a : Int)) = tx (t.take a) := by
  unfold cutS
  rw [HT.sIx_nat, HT.sIx_none, tx_len, tx_cps]
  refine congrArg (fun l : List Nat => tx l) ?_
  simp
theorem cut_from (t : List Nat) (a : Nat) : cutS (tx t) (some (a : Int)) none = tx (t.drop a) := by
  unfold cutS
  rw [HT.sIx_nat, HT.sIx_none, tx_len, tx_cps]
  refine congrArg (fun l : List Nat => tx l) ?_
  by_cases h : a ≤ t.length
  · rw [Nat.min_eq_left h, List.take_of_length_le (by rw [List.length_drop]; exact Nat.le_refl _)]
  · rw [Nat.min_eq_right (by omega), Nat.sub_self, List.take_zero, List.drop_eq_nil_of_le (by omega)]
theorem Purse.same {p : Addr} {H H' : Hp} {c : Int} (h : Purse H p c) (s : Same H H') : Purse H' p c := by
  obtain ⟨a, b, c', e, r⟩ := h
  exact ⟨a, b, c', s _ _ e, r⟩
theorem Purse.ne {p q : Addr} {H : Hp} {c : Int} (h : Purse H p c) (e : H q = none) : p ≠ q := by
  obtain ⟨a, b, c', h, r⟩ := h
  exact ne_of_none h e
theorem Purse.mono {p : Addr} {H : Hp} {c d : Int} (h : Purse H p c) (l : c ≤ d) : Purse H p d := by
  obtain ⟨a, b, c', e, h1, h2, h3, h4, h5⟩ := h
  exact ⟨a, b, c', e, h1, h2, h3, h4, by omega⟩
theorem Purse.put {p q : Addr} {H : Hp} {c : Int} {o : HO} (h : Purse H p c) (n : p ≠ q) : Purse (upd H q o) p c := by
  obtain ⟨a, b, c', e, r⟩ := h
  exact ⟨a, b, c', by rw [upd_ne n]; exact e, r⟩
theorem But.gone {p D : Addr} {H H2 : Hp} (b : But p H H2) (e : H2 D = none) (n : D ≠ p) : H D = none := by
  cases h : H D with
  | none => rfl
  | some o =>
    have := b D o h n
    rw [e] at this
    cases this
theorem But.updN {p D : Addr} {H G : Hp} {o : HO} (b : But p H G) (e : H D = none) : But p H (upd G D o) := fun c u h n => by
  rw [upd_ne (ne_of_none h e)]
  exact b c u h n
theorem sum_ones : ∀ zs : List Nat, ((zs.map fun c => tx [c]).map (·.length)).sum = zs.length
  | [] => rfl
  | x :: r => by
    rw [List.map_cons, List.map_cons, List.sum_cons, sum_ones r, tx_len]
    simp
    omega
theorem signs_at {z : List Nat} {r : Int} (h0 : 0 ≤ r) (h1 : r < z.length) : ∃ c, c ∈ z ∧ atI (tx z).cps.toList r = some c := by
  obtain ⟨j, rfl⟩ : ∃ j : Nat, r = j := ⟨r.toNat, by omega⟩
  have h : j < z.length := by omega
  exact ⟨z[j], List.getElem_mem h, atI_tx (List.getElem?_eq_getElem h)⟩
/-- some texts of these signs -/
def NameL (z : List Nat) (m : Nat) (ns : List (List Nat)) : Prop := ∀ n ∈ ns, 1 ≤ n.length ∧ n.length ≤ m ∧ ∀ c ∈ n, c ∈ z
def spNames : Sp := fun vs H Q _ => ∃ (p : Addr) (c : Int) (z : List Nat) (m k : Nat), vs = [.ref p, .int k, .str (tx z), .int m] ∧ Purse H p c ∧ c < 2 ^ 39 ∧ z.length = 26 ∧ 1 ≤ m ∧ m ≤ 6 ∧ k ≤ 10 ∧
  ∀ r H' ns, But p H H' → Purse H' p (c + 10) → H r = none → H' r = some (.lst (ns.map fun n => V.str (tx n))) → ns.length = k → NameL z m ns → Q (.ref r) H'
section
variable {P : Program} {w : World} {K : PySem.W.Frag} {mg : Str → Option Value} {base : Heap} {dW dB : Addr} {esW : Array DictEntry} {nW : Nat} (T : Txt K mg w dW dB esW nW)
include T
theorem ok__law_names {f f1 : Addr} {fd fd1 : FuncData} (F : Fun K "_law_names" "_law_names" s__law_names f fd) (h__law_take : Has P w K mg base "_law_take" 1 ["_law_purse_here", "_law_many"] spTake f1 fd1) :
    FnOk P w K mg base CX0 2 f fd ["_law_purse_here", "_law_many", "_law_signs", "_law_wide"] spNames := by
  refine F.ok sc__law_names (fun vs H Q E h => ?_) (fun cdv A outer s H vs Q E hr h => ?_)
  · obtain ⟨p, c, z, m, k, rfl, _⟩ := h
    rfl
  · obtain ⟨p, c, z, m, k, rfl, P0, hc, hz, hm1, hm6, hk, q⟩ := h
    have hzs : (tx z).length ≤ sizeLine := by rw [tx_len, hz]; exact sizeLine_ge (by decide)
    refine ⟨_, (pss_cons (ps_set (i := 4) sc__law_names.nd rfl (.inr rfl) (pe_join pe_str (pe_lc (own := [("_law_k", 7)]) (g := gName 7) (tt := tYes) rfl sc__law_names.nd (pi_range1 (by rfl) T.z_range (pa_cons (pe_callH h__law_take (hr.mono (by first | decide | omega)) (by rfl) (pa_cons (pv 0) (pa_cons (pv 3) pa_nil))) pa_nil)) (blkOk_by (N := nm__law_names) (sc := defScope s__law_names) (by decide +kernel)) (fun _ _ _ _ _ => pg_name (i := 7) sc__law_names.nd rfl (.inl rfl)) (fun _ _ _ _ _ => pts_nil) (fun _ _ _ _ _ => (pe_ix ix_str (pv 2) (pe_callH h__law_take (hr.mono (by first | decide | omega)) (by rfl) (pa_cons (pv 0) (pa_cons pe_int pa_nil))) (fun _ _ => rfl))))))
      (pss_cons (ps_asg (pe_tup (pa_cons (pe_callH h__law_take (hr.mono (by first | decide | omega)) (by rfl) (pa_cons (pv 0) (pa_cons (pe_op op_add (pe_callB call_len_str (by rfl) T.z_len (by decide +kernel) (pa_cons (pv 4) pa_nil)) pe_int) pa_nil))) (pa_cons (pe_callH h__law_take (hr.mono (by first | decide | omega)) (by rfl) (pa_cons (pv 0) (pa_cons pe_int pa_nil))) pa_nil))) (pg_tup rfl (pgs_cons (pg_name (i := 5) sc__law_names.nd rfl (.inr rfl)) (pgs_cons (pg_name (i := 6) sc__law_names.nd rfl (.inr rfl)) pgs_nil))))
      (pss_one (ps_ret (pe_lc (own := [("_law_k", 7)]) (g := gName 7) (tt := tYes) rfl sc__law_names.nd (pi_range1 (by rfl) T.z_range (pa_cons (pv 1) pa_nil)) (blkOk_by (N := nm__law_names) (sc := defScope s__law_names) (by decide +kernel)) (fun _ _ _ _ _ => pg_name (i := 7) sc__law_names.nd rfl (.inl rfl)) (fun _ _ _ _ _ => pts_nil) (fun _ _ _ _ _ => (pe_op op_add_str (pe_op op_add_str (pe_slice sl_str (pv 4) po_none (po_some (pv 5))) (pe_ix ix_str (pv 2) (pe_op op_mod (pe_op op_add (pv 6) (pv 7)) pe_int) (fun _ _ => rfl))) (pe_slice sl_str (pv 4) (po_some (pv 5)) po_none)))))))), ?_⟩
    have e39 : (2 : Int) ^ 39 = 549755813888 := by decide
    have e40 : (2 : Int) ^ 40 = 1099511627776 := by decide
    have e60 : (2 : Int) ^ 60 = 1152921504606846976 := by decide
    refine ⟨⟨_, rfl⟩, _, rfl, _, rfl, p, m, c, rfl, P0, by omega, by omega, by omega, fun r H2 hr0 hr7 P1 b1 => ?_⟩
    refine ⟨_, rfl, by omega, by omega, fun D hD => lc_do walk_range (fun j H' => Purse H' p (c + 1 + j) ∧ But p H H' ∧ ∃ zs : List Nat, zs.length = j ∧ (∀ x ∈ zs, x ∈ z) ∧ H' D = some (.lst (zs.map fun c => V.str (tx [c])))) (fun _ => rfl) ?_ (fun _ _ _ _ => trivial) ?_ ?_⟩
    · have n1 := P1.ne hD
      exact ⟨(P1.put n1).mono (by omega), But.updN b1 (But.gone b1 hD (Ne.symm n1)), [], rfl, fun x hx => by simp at hx, upd_same⟩
    · have hD0 := But.gone b1 hD (Ne.symm (P1.ne hD))
      have nD := P1.ne hD
      rintro j x H3 H4 hj ⟨P3, b3, zs, hzs1, hzs2, hD3⟩ ⟨rfl, rfl⟩
      refine ⟨_, rfl, _, rfl, p, 26, _, rfl, P3, by omega, by decide, by decide, fun r4 H5 h40 h41 P5 b5 => ?_⟩
      obtain ⟨c4, hcz, hc4⟩ := signs_at (z := z) h40 (by omega)
      have hD5 := b5 D _ hD3 (Ne.symm nD)
      refine ⟨_, r4, c4, rfl, rfl, hzs, hc4, _, hD5, ?_, (P5.put nD).mono (by omega), But.updN (But.trans b3 b5) hD0, zs ++ [c4], by rw [List.length_append, hzs1]; rfl, fun x hx => ?_, ?_⟩
      · rw [List.length_map]
        exact sizeLine_ge (by omega)
      · rcases List.mem_append.mp hx with hx | hx
        · exact hzs2 x hx
        · rw [List.mem_singleton.mp hx]
          exact hcz
      · rw [upd_same, List.map_append]
        rfl
    · have hD0 := But.gone b1 hD (Ne.symm (P1.ne hD))
      rintro H3 ⟨P3, b3, zs, hzs1, hzs2, hD3⟩
      have hn : r.toNat ≤ 6 := by omega
      refine ⟨_, D, zs.map fun c => tx [c], rfl, rfl, .inl (.inl (.inl (by rw [hD3, List.map_map]; rfl))), ?_, ?_⟩
      · have h2 : (Str.ofString "").length = 0 := by decide +kernel
        rw [sum_ones, h2]
        omega
      · rw [join_signs]
        have hl : (tx zs).length ≤ sizeLine := by rw [tx_len]; exact sizeLine_ge (by omega)
        have hl2 : ((tx zs).length : Int) = zs.length := by rw [tx_len]
        refine ⟨_, rfl, _, rfl, _, rfl, hl, _, _, rfl, rfl, p, _, _, rfl, P3, by omega, by omega, by omega, fun r4 H4 h40 h41 P4 b4 => ?_⟩
        refine ⟨_, rfl, p, 26, _, rfl, P4, by omega, by decide, by decide, fun r5 H5 h50 h51 P5 b5 => ?_⟩
        rw [hl2] at h41
        obtain ⟨i4, rfl⟩ : ∃ j : Nat, r4 = j := ⟨r4.toNat, by omega⟩
        have h42 : i4 ≤ zs.length := by omega
        refine ⟨sizeLine_ge (by show 2 ≤ 10000; decide), fun t ht => ⟨t, _, rfl, .inl (.inl upd_same), rfl, _, _, rfl, _, _, rfl, rfl, ?_⟩⟩
        have bt : But p H (upd H5 t (.tup [.int i4, .int r5])) := But.trans b3 (But.trans b4 (But.trans b5 (But.of_same (same_new ht))))
        have Pt := P5.same (same_new (o := .tup [.int i4, .int r5]) ht)
        generalize upd H5 t (.tup [.int i4, .int r5]) = G at bt Pt ⊢
        refine ⟨_, rfl, _, rfl, by omega, by omega, fun D2 hD2 => lc_do walk_range (fun j H' => Same G H' ∧ ∃ ns : List (List Nat), ns.length = j ∧ NameL z m ns ∧ H' D2 = some (.lst (ns.map fun n => V.str (tx n)))) (fun _ => rfl) ⟨same_new hD2, [], rfl, fun x hx => by simp at hx, upd_same⟩ (fun _ _ _ _ => trivial) ?_ ?_⟩
        · rintro j x H6 H7 hj ⟨s6, ns, hn1, hn2, hD6⟩ ⟨rfl, rfl⟩
          have m0 := Int.emod_nonneg (r5 + (0 + (j : Int))) (show (26 : Int) ≠ 0 by decide)
          have m1 := Int.emod_lt_of_pos (r5 + (0 + (j : Int))) (show (0 : Int) < 26 by decide)
          obtain ⟨c4, hcz, hc4⟩ := signs_at (z := z) m0 (by omega)
          have len1 : ∀ l : List Nat, l.length ≤ 100 → (tx l).length ≤ 100 := fun l h => by rw [tx_len]; exact h
          have e1 : cutS (tx zs) none (some (i4 : Int)) = tx (zs.take i4) := cut_to _ _
          have e2 : cutS (tx zs) (some (i4 : Int)) none = tx (zs.drop i4) := cut_from _ _
          have e3 : (tx (zs.take i4) ++ (⟨#[c4]⟩ : Str) : Str) = tx (zs.take i4 ++ [c4]) := tx_app _ _
          have e4 : (tx (zs.take i4 ++ [c4]) ++ tx (zs.drop i4) : Str) = tx (zs.take i4 ++ [c4] ++ zs.drop i4) := tx_app _ _
          have tl : (zs.take i4).length ≤ 6 := by rw [List.length_take]; omega
          have dl : (zs.drop i4).length ≤ 6 := by rw [List.length_drop]; omega
          refine ⟨_, rfl, _, rfl, _, rfl, _, rfl, hl, _, rfl, _, rfl, _, rfl, _, _, rfl, rfl, _, _, rfl, rfl, (show (0 : Int) < 26 by decide), _, _, c4, rfl, rfl, hzs, hc4, _, _, rfl, rfl, ?_, _, rfl, _, rfl, _, rfl, _, rfl, hl, _, _, rfl, rfl, ?_, ?_⟩
          · rw [e1, tx_len]
            exact sizeLine_ge (by show _ + 1 ≤ 10000; omega)
          · rw [e1, e2, e3, tx_len, tx_len, List.length_append]
            exact sizeLine_ge (by show _ + 1 + _ ≤ 10000; omega)
          · rw [e1, e2, e3, e4]
            refine ⟨_, hD6, ?_, ?_, ns ++ [zs.take i4 ++ [c4] ++ zs.drop i4], by rw [List.length_append, hn1]; rfl, fun n hn => ?_, ?_⟩
            · rw [List.length_map]
              exact sizeLine_ge (by omega)
            · exact fun b o e => by
                rw [upd_ne (ne_of_none e hD2)]
                exact s6 b o e
            · rcases List.mem_append.mp hn with hn | hn
              · exact hn2 n hn
              · rw [List.mem_singleton.mp hn]
                have hlen : (zs.take i4 ++ [c4] ++ zs.drop i4).length = zs.length + 1 := by
                  rw [List.length_append, List.length_append, List.length_take, List.length_drop, List.length_singleton]
                  omega
                refine ⟨by omega, by omega, fun c hc => ?_⟩
                rcases List.mem_append.mp hc with hc | hc
                · rcases List.mem_append.mp hc with hc | hc
                  · exact hzs2 c (List.mem_of_mem_take hc)
                  · rw [List.mem_singleton.mp hc]
                    exact hcz
                · exact hzs2 c (List.mem_of_mem_drop hc)
            · rw [upd_same, List.map_append]
              rfl
        · rintro H6 ⟨s6, ns, hn1, hn2, hD6⟩
          have hDp : D2 ≠ p := Ne.symm (Pt.ne hD2)
          exact q D2 H6 ns (But.trans bt (But.of_same s6)) ((Pt.same s6).mono (by omega)) (But.gone bt hD2 hDp) hD6 (by omega) hn2
end
end K


set_option Elab.async false
set_option linter.all false
set_option maxRecDepth 100000
set_option maxHeartbeats 4000000
namespace U
open PySem PySem.Spec PyProof.Rows L2
theorem dig_in {c : Char} (h : c.isDigit = true) : c.toNat ∈ figs := by
  have h2 : 48 ≤ c.toNat ∧ c.toNat ≤ 57 := by
    simp only [Char.isDigit, Bool.and_eq_true, decide_eq_true_eq] at h
    exact h
  unfold figs
  refine List.mem_map.mpr ⟨c.toNat - 48, List.mem_range.mpr (by omega), by omega⟩
theorem dig_first : ∀ n : Nat, 0 < n → ∃ d ds, Nat.toDigits 10 n = d :: ds ∧ d.toNat ∈ figs1 := by
  intro n
  induction n using Nat.strongRecOn with
  | ind n ih =>
    intro hn
    rw [Nat.toDigits_eq_if (by decide)]
    by_cases h : n < 10
    · rw [if_pos h]
      refine ⟨_, [], rfl, ?_⟩
      have : n = 1 ∨ n = 2 ∨ n = 3 ∨ n = 4 ∨ n = 5 ∨ n = 6 ∨ n = 7 ∨ n = 8 ∨ n = 9 := by omega
      rcases this with rfl | rfl | rfl | rfl | rfl | rfl | rfl | rfl | rfl <;> decide
    · rw [if_neg h]
      obtain ⟨d, ds, e, hd⟩ := ih (n / 10) (by omega) (by omega)
      exact ⟨d, ds ++ [_], by rw [e]; rfl, hd⟩
theorem nat_text {n : Nat} (h : n < 10 ^ 12) : n = 0 ∧ (Nat.repr n).toList.map Char.toNat = [48] ∨ ∃ d ds, (Nat.repr n).toList.map Char.toNat = d :: ds ∧ d ∈ figs1 ∧ ds.length ≤ 11 ∧ ∀ c ∈ ds, c ∈ figs := by
  rw [Nat.toList_repr]
  by_cases h0 : n = 0
  · subst h0
    exact .inl ⟨rfl, by decide⟩
  · obtain ⟨d, ds, e, hd⟩ := dig_first n (by omega)
    have hl := (Nat.length_toDigits_le_iff (b := 10) (n := n) (k := 12) (by decide) (by decide)).mpr h
    have hm : ∀ c ∈ Nat.toDigits 10 n, c.toNat ∈ figs := fun c hc => dig_in (Nat.isDigit_of_mem_toDigits (by decide) (by decide) hc)
    rw [e] at hl hm
    refine .inr ⟨d.toNat, ds.map Char.toNat, by rw [e]; rfl, hd, by simp at hl ⊢; omega, fun c hc => ?_⟩
    obtain ⟨x, hx, rfl⟩ := List.mem_map.mp hc
    exact hm x (List.mem_cons_of_mem _ hx)
theorem num_text {i : Int} (h : i.natAbs < 10 ^ 12) : ∃ l, Str.ofString (toString i) = tx l ∧ NumOk l := by
  cases i with
  | ofNat n =>
    refine ⟨(Nat.repr n).toList.map Char.toNat, PySem.Str.ofString_eq_toList _, ?_⟩
    rcases nat_text (n := n) h with ⟨_, e⟩ | ⟨d, ds, e, h1, h2, h3⟩
    · exact .inl e
    · exact .inr ⟨d, ds, .inl e, h1, h2, h3⟩
  | negSucc n =>
    refine ⟨45 :: (Nat.repr (n + 1)).toList.map Char.toNat, ?_, ?_⟩
    · show Str.ofString ("-" ++ Nat.repr (n + 1)) = _
      rw [PySem.Str.ofString_eq_toList]
      simp
    · rcases nat_text (n := n + 1) h with ⟨z, e⟩ | ⟨d, ds, e, h1, h2, h3⟩
      · omega
      · exact .inr ⟨d, ds, .inr (by rw [e]), h1, h2, h3⟩
end U

set_option Elab.async false
set_option linter.all false
set_option maxRecDepth 100000
set_option maxHeartbeats 4000000
namespace K
open PySem PySem.Spec PyProof.Rows L2 U SkE
def spNumber : Sp := fun vs H Q _ => ∃ (p : Addr) (c : Int), vs = [.ref p] ∧ Purse H p c ∧ c < 2 ^ 39 ∧ ∀ H' l, But p H H' → Purse H' p (c + 3) → NumOk l → Q (.str (tx l)) H'
theorem log_small {i : Int} (h : i.natAbs < 10 ^ 12) : i.natAbs.log2 < 1920 := by
  by_cases h0 : i.natAbs = 0
  · rw [h0]
    decide
  · exact (Nat.log2_lt h0).mpr (Nat.lt_trans h (by decide))
section
variable {P : Program} {w : World} {K : PySem.W.Frag} {mg : Str → Option Value} {base : Heap} {dW dB : Addr} {esW : Array DictEntry} {nW : Nat} (T : Txt K mg w dW dB esW nW)
include T
theorem ok__law_number {f f1 : Addr} {fd fd1 : FuncData} (F : Fun K "_law_number" "_law_number" s__law_number f fd) (h__law_take : Has P w K mg base "_law_take" 1 ["_law_purse_here", "_law_many"] spTake f1 fd1) :
    FnOk P w K mg base CX0 2 f fd ["_law_purse_here"] spNumber := by
  refine F.ok sc__law_number (fun vs H Q E h => ?_) (fun cdv A outer s H vs Q E hr h => ?_)
  · obtain ⟨p, c, rfl, _⟩ := h
    rfl
  · obtain ⟨p, c, rfl, P0, hc, q⟩ := h
    refine ⟨_, (pss_cons (ps_set (i := 1) sc__law_number.nd rfl (.inl rfl) (pe_callH h__law_take (hr.mono (by first | decide | omega)) (by rfl) (pa_cons (pv 0) (pa_cons pe_int pa_nil))))
      (pss_cons (ps_if (pt_cmpR op_lt (pv 1) pe_int (nomark _)) 
        (pss_one (ps_ret (pe_callTy call_str_int (by rfl) T.z_str (by decide +kernel) (pa_cons (pe_op op_sub (pe_callH h__law_take (hr.mono (by first | decide | omega)) (by rfl) (pa_cons (pv 0) (pa_cons pe_int pa_nil))) pe_int) pa_nil)))) pss_nil)
      (pss_cons (ps_set (i := 2) sc__law_number.nd rfl (.inl rfl) (pe_callH h__law_take (hr.mono (by first | decide | omega)) (by rfl) (pa_cons (pv 0) (pa_cons (pe_ix ix_list (pe_lst (pa_cons pe_int (pa_cons (pe_op op_powW pe_int pe_int) (pa_cons (pe_op op_powW pe_int pe_int) pa_nil)))) (pe_op op_sub (pv 1) pe_int) (fun _ _ => rfl)) pa_nil))))
      (pss_one (ps_ret (pe_callTy call_str_int (by rfl) T.z_str (by decide +kernel) (pa_cons (pe_ix ix_list (pe_lst (pa_cons (pv 2) (pa_cons (pe_op op_sub pe_int (pv 2)) (pa_cons (pe_op op_sub (pe_op op_powW pe_int pe_int) pe_int) pa_nil)))) (pe_op op_fdiv (pe_callH h__law_take (hr.mono (by first | decide | omega)) (by rfl) (pa_cons (pv 0) (pa_cons pe_int pa_nil))) pe_int) (fun _ _ => rfl)) pa_nil))))))), ?_⟩
    have e39 : (2 : Int) ^ 39 = 549755813888 := by decide
    have e40 : (2 : Int) ^ 40 = 1099511627776 := by decide
    have e60 : (2 : Int) ^ 60 = 1152921504606846976 := by decide
    have e12 : (10 : Nat) ^ 12 = 1000000000000 := by decide
    refine ⟨_, rfl, p, 6, c, rfl, P0, by omega, by decide, by decide, fun r H1 hr0 hr1 P1 b1 => ?_⟩
    refine ⟨_, rfl, _, _, rfl, rfl, _, rfl, ite2 (fun h => ?_) (fun h => ?_)⟩
    · refine ⟨_, rfl, p, 7, _, rfl, P1, by omega, by decide, by decide, fun r2 H2 h20 h21 P2 b2 => ?_⟩
      have hb : (r2 - 2).natAbs < 10 ^ 12 := by omega
      obtain ⟨l, el, nl⟩ := num_text hb
      refine ⟨_, _, rfl, rfl, _, rfl, log_small hb, ?_⟩
      rw [el]
      exact q H2 l (But.trans b1 b2) (P2.mono (by omega)) nl
    · have h : ¬ r < 3 := fun z => h (decide_eq_true z)
      have hw : r = 3 ∨ r = 4 ∨ r = 5 := by omega
      obtain ⟨m, hm0, hm1, hm2⟩ : ∃ m : Int, 0 < m ∧ m ≤ 1000000000000 ∧ atI [V.int 100, V.int (10 ^ Int.toNat 6), V.int (10 ^ Int.toNat 12)] (r - 3) = some (.int m) := by
        rcases hw with rfl | rfl | rfl
        · exact ⟨100, by decide, by decide, rfl⟩
        · exact ⟨10 ^ Int.toNat 6, by decide, by decide, rfl⟩
        · exact ⟨10 ^ Int.toNat 12, by decide, by decide, rfl⟩
      refine ⟨_, rfl, _, _, rfl, rfl, ⟨by decide, by decide, by decide +kernel⟩, _, _, rfl, rfl, ⟨by decide, by decide, by decide +kernel⟩, sizeLine_ge (by show 3 ≤ 10000; decide), fun q1 hq1 => ?_⟩
      have s1 : Same H1 (upd H1 q1 (.lst [V.int 100, V.int (10 ^ Int.toNat 6), V.int (10 ^ Int.toNat 12)])) := same_new hq1
      have P1' := P1.same s1
      refine ⟨_, rfl, _, _, rfl, rfl, q1, _, _, _, rfl, rfl, .inl (.inl upd_same), hm2, p, m, _, rfl, P1', by omega, hm0, by omega, fun r2 H2 h20 h21 P2 b2 => ?_⟩
      have b12 : But p H H2 := But.trans b1 (But.trans (But.of_same s1) b2)
      have hv : ∀ x : Int, 0 ≤ x → x < 5 → ∃ v : Int, v.natAbs < 10 ^ 12 ∧ atI [V.int r2, V.int (0 - r2), V.int (10 ^ Int.toNat 12 - 1)] (x / 2) = some (.int v) := by
        intro x x0 x5
        have hx : x / 2 = 0 ∨ x / 2 = 1 ∨ x / 2 = 2 := by omega
        rcases hx with e | e | e <;> rw [e]
        · exact ⟨r2, by omega, rfl⟩
        · exact ⟨0 - r2, by omega, rfl⟩
        · exact ⟨10 ^ Int.toNat 12 - 1, by decide, rfl⟩
      refine ⟨_, rfl, _, rfl, _, _, rfl, rfl, _, _, rfl, rfl, ⟨by decide, by decide, by decide +kernel⟩, _, _, rfl, rfl, sizeLine_ge (by show 3 ≤ 10000; decide), fun q2 hq2 => ?_⟩
      have s2 : Same H2 (upd H2 q2 (.lst [V.int r2, V.int (0 - r2), V.int (10 ^ Int.toNat 12 - 1)])) := same_new hq2
      refine ⟨_, rfl, p, 5, _, rfl, P2.same s2, by omega, by decide, by decide, fun r3 H3 h30 h31 P3 b3 => ?_⟩
      obtain ⟨v, hv0, hv1⟩ := hv r3 h30 h31
      have nq : q2 ≠ p := Ne.symm (P2.ne hq2)
      obtain ⟨l, el, nl⟩ := num_text hv0
      refine ⟨_, _, rfl, rfl, ⟨by decide, by decide⟩, q2, _, _, _, rfl, rfl, .inl (.inl (b3 _ _ upd_same nq)), hv1, _, rfl, log_small hv0, ?_⟩
      rw [el]
      exact q H3 l (But.trans b12 (But.trans (But.of_same s2) b3)) (P3.mono (by omega)) nl
end
end K


set_option Elab.async false
set_option linter.all false
set_option maxRecDepth 100000
set_option maxHeartbeats 4000000
namespace K
open PySem PySem.Spec PyProof.Rows L2 U SkE
/-- a node of the law's own tree: its form, its name, the list of its nodes, its line; F holds of all its places -/
def HeadL (F : Addr → Prop) (H : Hp) (t : U.Tm) (qs : List Addr) (r : Addr) : Prop := ∃ li, F r ∧ F li ∧ H r = some (.tup [.str (tx t.kind), smV t.small, .ref li, .str (tx t.pr)]) ∧ H li = some (.lst (qs.map V.ref))
def NodeL (F : Addr → Prop) (H : Hp) : U.Tm → Addr → Prop
  | .atom k l, r => HeadL F H (.atom k l) [] r
  | .n1 w b x, r => ∃ q, HeadL F H (.n1 w b x) [q] r ∧ NodeL F H x q
  | .n2 w b x y, r => ∃ q1 q2, HeadL F H (.n2 w b x y) [q1, q2] r ∧ NodeL F H x q1 ∧ NodeL F H y q2
  | .n3 w b x y z, r => ∃ q1 q2 q3, HeadL F H (.n3 w b x y z) [q1, q2, q3] r ∧ NodeL F H x q1 ∧ NodeL F H y q2 ∧ NodeL F H z q3
def KeepF (F : Addr → Prop) (H H' : Hp) : Prop := ∀ a o, F a → H a = some o → H' a = some o
theorem HeadL.keep {F G : Addr → Prop} {H H' : Hp} {t : U.Tm} {qs : List Addr} {r : Addr} (h : HeadL F H t qs r) (b : KeepF F H H') (m : ∀ a, F a → G a) : HeadL G H' t qs r := by
  obtain ⟨li, h1, h2, h3, h4⟩ := h
  exact ⟨li, m _ h1, m _ h2, b _ _ h1 h3, b _ _ h2 h4⟩
theorem NodeL.keep {F G : Addr → Prop} {H H' : Hp} (b : KeepF F H H') (m : ∀ a, F a → G a) : ∀ {t : U.Tm} {r : Addr}, NodeL F H t r → NodeL G H' t r
  | .atom _ _, _, h => HeadL.keep h b m
  | .n1 _ _ _, _, ⟨q, h, h1⟩ => ⟨q, h.keep b m, NodeL.keep b m h1⟩
  | .n2 _ _ _ _, _, ⟨q1, q2, h, h1, h2⟩ => ⟨q1, q2, h.keep b m, NodeL.keep b m h1, NodeL.keep b m h2⟩
  | .n3 _ _ _ _ _, _, ⟨q1, q2, q3, h, h1, h2, h3⟩ => ⟨q1, q2, q3, h.keep b m, NodeL.keep b m h1, NodeL.keep b m h2, NodeL.keep b m h3⟩
theorem NodeL.head {p : Addr → Prop} {H : Hp} {t : U.Tm} {r : Addr} (h : NodeL p H t r) : ∃ qs, HeadL p H t qs r ∧ Paired (fun q k => NodeL p H k q) qs t.kids := by
  cases t with
  | atom k l => exact ⟨[], h, .nil⟩
  | n1 w b x =>
    obtain ⟨q, h, h1⟩ := h
    exact ⟨[q], h, .cons h1 .nil⟩
  | n2 w b x y =>
    obtain ⟨q1, q2, h, h1, h2⟩ := h
    exact ⟨_, h, .cons h1 (.cons h2 .nil)⟩
  | n3 w b x y z =>
    obtain ⟨q1, q2, q3, h, h1, h2, h3⟩ := h
    exact ⟨_, h, .cons h1 (.cons h2 (.cons h3 .nil))⟩
theorem NodeL.mk {p : Addr → Prop} {H : Hp} {t : U.Tm} {r : Addr} {qs : List Addr} (h : HeadL p H t qs r) (hk : Paired (fun q k => NodeL p H k q) qs t.kids) : NodeL p H t r := by
  cases t with
  | atom k l =>
    cases hk
    exact h
  | n1 w b x =>
    cases hk with
    | cons h1 hk =>
      cases hk
      exact ⟨_, h, h1⟩
  | n2 w b x y =>
    cases hk with
    | cons h1 hk =>
      cases hk with
      | cons h2 hk =>
        cases hk
        exact ⟨_, _, h, h1, h2⟩
  | n3 w b x y z =>
    cases hk with
    | cons h1 hk =>
      cases hk with
      | cons h2 hk =>
        cases hk with
        | cons h3 hk =>
          cases hk
          exact ⟨_, _, _, h, h1, h2, h3⟩
theorem bd_same {w w' : Wd} {b b' : List Nat} {ks : List U.Tm} {t : U.Tm} (v : View t w' b' ks) (h1 : t.kind = w.cs) (h2 : t.small = sm w b) (hb : BndOk w b) : w' = w ∧ b' = b := by
  have e : w' = w := cs_inj w' w (by rw [← v.kind, h1])
  subst e
  refine ⟨rfl, ?_⟩
  have h3 : sm w' b = sm w' b' := h2.symm.trans v.small
  unfold sm at h3
  have bn := v.bn
  unfold BndOk at bn hb
  cases hbd : w'.bd with
  | true =>
    rw [hbd] at h3
    simp at h3
    exact h3.symm
  | false =>
    rw [hbd] at bn hb
    simp at bn hb
    rw [bn, hb]
/-- a term of this form, of these terms -/
theorem mk_tm {w : Wd} {b : List Nat} {ks : List U.Tm} {N : List Nat → Prop} (hl : ks.length = w.ar) (hb : BndOk w b) (hk : ∀ k ∈ ks, k.Ok ∧ k.Names N) : ∃ t, View t w b ks ∧ t.Ok ∧ t.Names N := by
  have ex : ∀ t : U.Tm, t.Ok → t.kids = ks → (∀ kd l, t ≠ .atom kd l) → t.kind = w.cs → t.small = sm w b → t.Names N → ∃ t, View t w b ks ∧ t.Ok ∧ t.Names N := by
    intro t ok e1 e2 e3 e4 nm
    rcases view ok with ⟨kd, l, rfl, _⟩ | ⟨w', b', ks', v⟩
    · exact absurd rfl (e2 kd l)
    · have h1 : ks' = ks := by rw [← v.kids, e1]
      subst h1
      obtain ⟨rfl, rfl⟩ := bd_same v e3 e4 hb
      exact ⟨t, v, ok, nm⟩
  match ks, hl, hk, ex with
  | [x], hl, hk, ex => exact ex (.n1 w b x) ⟨hl.symm, hb, (hk x (by simp)).1⟩ rfl (by intro _ _ z; cases z) rfl rfl (hk x (by simp)).2
  | [x, y], hl, hk, ex => exact ex (.n2 w b x y) ⟨hl.symm, hb, (hk x (by simp)).1, (hk y (by simp)).1⟩ rfl (by intro _ _ z; cases z) rfl rfl ⟨(hk x (by simp)).2, (hk y (by simp)).2⟩
  | [x, y, z], hl, hk, ex => exact ex (.n3 w b x y z) ⟨hl.symm, hb, (hk x (by simp)).1, (hk y (by simp)).1, (hk z (by simp)).1⟩ rfl (by intro _ _ z; cases z) rfl rfl ⟨(hk x (by simp)).2, (hk y (by simp)).2, (hk z (by simp)).2⟩
  | [], hl, _, _ => cases w <;> cases hl
  | _ :: _ :: _ :: _ :: _, hl, _, _ =>
    have := ar_le w
    simp at hl
    omega
/-- how large a term of this depth may be -/
structure Small (k : U.Tm) (d : Nat) : Prop where
  size : 2 * k.size + 1 ≤ 3 ^ (d + 1)
  depth : k.depth ≤ d
  len : k.pr.length + 8 ≤ 21 * 3 ^ d
theorem sum_le {ks : List U.Tm} {f : U.Tm → Nat} {m : Nat} (h : ∀ k ∈ ks, f k ≤ m) : (ks.map f).sum ≤ ks.length * m := by
  induction ks with
  | nil => simp
  | cons x r ih =>
    rw [List.map_cons, List.sum_cons, List.length_cons, Nat.succ_mul]
    have h1 := h x List.mem_cons_self
    have h2 := ih fun k hk => h k (List.mem_cons_of_mem _ hk)
    omega
theorem Small.mono {k : U.Tm} {d e : Nat} (h : Small k d) (l : d ≤ e) : Small k e := by
  have h1 : 3 ^ (d + 1) ≤ 3 ^ (e + 1) := Nat.pow_le_pow_right (by decide) (by omega)
  have h2 : 3 ^ d ≤ 3 ^ e := Nat.pow_le_pow_right (by decide) l
  exact ⟨Nat.le_trans h.size h1, Nat.le_trans h.depth l, Nat.le_trans h.len (Nat.mul_le_mul_left _ h2)⟩
theorem cs_len (w : Wd) : w.cs.length ≤ 6 := by cases w <;> decide
theorem small_view {t : U.Tm} {w : Wd} {b : List Nat} {ks : List U.Tm} {d : Nat} (v : View t w b ks) (h : ∀ k ∈ ks, Small k d) : Small t (d + 1) := by
  have ar := v.ar
  have ar3 := ar_le w
  have p1 : 3 ^ (d + 1 + 1) = 3 * 3 ^ (d + 1) := by rw [Nat.pow_succ]; omega
  have p2 : 3 ^ (d + 1) = 3 * 3 ^ d := by rw [Nat.pow_succ]; omega
  have p0 : 1 ≤ 3 ^ d := Nat.pow_pos (by decide)
  refine ⟨?_, ?_, ?_⟩
  · rw [v.size]
    have h1 : (ks.map fun k => 2 * k.size + 1).sum ≤ ks.length * 3 ^ (d + 1) := sum_le fun k hk => (h k hk).size
    have h2 : (ks.map fun k => 2 * k.size + 1).sum = 2 * (ks.map U.Tm.size).sum + ks.length := by
      clear h1 h ar v
      induction ks with
      | nil => rfl
      | cons x r ih =>
        rw [List.map_cons, List.sum_cons, ih, List.map_cons, List.sum_cons, List.length_cons]
        omega
    have h3 : ks.length * 3 ^ (d + 1) ≤ 3 * 3 ^ (d + 1) := Nat.mul_le_mul_right _ (by omega)
    obtain ⟨k1, ks', e⟩ := v.some_kid
    have h4 : 1 ≤ ks.length := by rw [e]; simp
    by_cases h5 : ks.length = 3
    · omega
    · have h6 : ks.length * 3 ^ (d + 1) ≤ 2 * 3 ^ (d + 1) := Nat.mul_le_mul_right _ (by omega)
      omega
  · rw [v.depth]
    have : (ks.map U.Tm.depth).foldr max 0 ≤ d := by
      clear ar v
      induction ks with
      | nil => exact Nat.zero_le _
      | cons x r ih =>
        rw [List.map_cons, List.foldr_cons]
        exact Nat.max_le.mpr ⟨(h x List.mem_cons_self).depth, ih fun k hk => h k (List.mem_cons_of_mem _ hk)⟩
    omega
  · rw [v.pr, List.length_append, List.length_append, kT_len, List.length_singleton]
    have h1 : (ks.map fun k => 1 + k.pr.length).sum ≤ ks.length * (21 * 3 ^ d - 7) := sum_le fun k hk => by have := (h k hk).len; omega
    have h3 : ks.length * (21 * 3 ^ d - 7) ≤ 3 * (21 * 3 ^ d - 7) := Nat.mul_le_mul_right _ (by omega)
    have h2 : (hd w b).length ≤ 12 := by
      have := cs_len w
      have bn := v.bn
      unfold BndOk at bn
      unfold hd
      cases hb : w.bd with
      | true =>
        rw [hb] at bn
        have := bn.2.1
        simp
        omega
      | false =>
        simp
        omega
    omega
end K


set_option Elab.async false
set_option linter.all false
set_option maxRecDepth 100000
set_option maxHeartbeats 4000000
namespace K
open PySem PySem.Spec PyProof.Rows L2 U SkE
def cB : Nat → Nat
  | 0 => 10
  | d + 1 => 10 + 3 * cB d
def spLTree (d : Nat) : Sp := fun vs H Q _ => ∃ (p aS aG : Addr) (c : Int) (ss gs : List (List Nat)), vs = [.ref p, .ref aS, .ref aG, .int d] ∧ Purse H p c ∧ c + cB d < 2 ^ 39 ∧ H aS = some (.lst (ss.map fun n => V.str (tx n))) ∧ H aG = some (.lst (gs.map fun n => V.str (tx n))) ∧ aS ≠ p ∧ aG ≠ p ∧
  ss.length = 3 ∧ gs.length = 3 ∧ (∀ n ∈ ss, SmallOk n) ∧ (∀ n ∈ gs, GreatOk n) ∧
  ∀ r H' k, But p H H' → Purse H' p (c + cB d) → NodeL (fun a => H a = none) H' k r → k.Ok → k.Names (nameOk (ss.map tx)) → Small k d → Q (.ref r) H'
theorem num_len {l : List Nat} (h : NumOk l) : l.length ≤ 13 := by
  rcases h with rfl | ⟨d, ds, h, _, hl, _⟩
  · decide
  · rcases h with rfl | rfl <;> simp <;> omega
theorem small_atom {kd : Kd} {l : List Nat} (d : Nat) (h : l.length ≤ 13) : Small (.atom kd l) d := by
  have p0 : 1 ≤ 3 ^ d := Nat.pow_pos (by decide)
  have p2 : 3 ^ (d + 1) = 3 * 3 ^ d := by rw [Nat.pow_succ]; omega
  refine ⟨?_, Nat.zero_le _, ?_⟩
  · show 2 * 1 + 1 ≤ _
    omega
  · show l.length + 8 ≤ _
    omega
theorem atom_of {l a b : List Nat} {ss : List (List Nat)} {m : Int} (m0 : 0 ≤ m) (m1 : m < 3) (hl : NumOk l) (ha : a ∈ ss) (oa : SmallOk a) (ob : GreatOk b) : ∃ kd line, AtomOk kd line ∧ (kd = .name → line ∈ ss) ∧ line.length ≤ 13 ∧
    atI [V.str (tx l), V.str (tx a), V.str (tx b)] m = some (.str (tx line)) ∧ atI [V.str (Str.ofString "number"), V.str (Str.ofString "name"), V.str (Str.ofString "part")] m = some (.str (tx kd.cs)) := by
  have e1 : Str.ofString "number" = tx Kd.num.cs := by decide +kernel
  have e2 : Str.ofString "name" = tx Kd.name.cs := by decide +kernel
  have e3 : Str.ofString "part" = tx Kd.part.cs := by decide +kernel
  have hm : m = 0 ∨ m = 1 ∨ m = 2 := by omega
  rw [e1, e2, e3]
  rcases hm with rfl | rfl | rfl
  · exact ⟨.num, l, hl, (by intro z; cases z), num_len hl, rfl, rfl⟩
  · exact ⟨.name, a, oa, fun _ => ha, Nat.le_trans oa.2.1 (by decide), rfl, rfl⟩
  · exact ⟨.part, b, ob, (by intro z; cases z), Nat.le_trans ob.2.1 (by decide), rfl, rfl⟩
theorem text_at {ss : List (List Nat)} {r : Int} (h0 : 0 ≤ r) (h1 : r < ss.length) : ∃ n, n ∈ ss ∧ atI (ss.map fun n => V.str (tx n)) r = some (.str (tx n)) := by
  obtain ⟨j, rfl⟩ : ∃ j : Nat, r = j := ⟨r.toNat, by omega⟩
  have h : j < ss.length := by omega
  exact ⟨ss[j], List.getElem_mem h, atI_nat (by rw [List.getElem?_map, List.getElem?_eq_getElem h]; rfl)⟩
theorem word_at {i : Int} (h0 : 0 ≤ i) (h1 : i < 11) : ∃ w : Wd, atI [V.str (Str.ofString "sum"), V.str (Str.ofString "less"), V.str (Str.ofString "times"), V.str (Str.ofString "below"), V.str (Str.ofString "if"), V.str (Str.ofString "pair"), V.str (Str.ofString "first"), V.str (Str.ofString "second"), V.str (Str.ofString "let"), V.str (Str.ofString "def"), V.str (Str.ofString "call")] i = some (.str (tx w.cs)) := by
  have e : ∀ w ∈ Wd.all, ∃ x : String, x ∈ ["sum", "less", "times", "below", "if", "pair", "first", "second", "let", "def", "call"] ∧ Str.ofString x = tx w.cs := by
    intro w _
    cases w <;> first | exact ⟨"sum", by decide, by decide +kernel⟩ | exact ⟨"less", by decide, by decide +kernel⟩ | exact ⟨"times", by decide, by decide +kernel⟩ | exact ⟨"below", by decide, by decide +kernel⟩ | exact ⟨"if", by decide, by decide +kernel⟩ | exact ⟨"pair", by decide, by decide +kernel⟩ | exact ⟨"first", by decide, by decide +kernel⟩ | exact ⟨"second", by decide, by decide +kernel⟩ | exact ⟨"let", by decide, by decide +kernel⟩ | exact ⟨"def", by decide, by decide +kernel⟩ | exact ⟨"call", by decide, by decide +kernel⟩
  have hi : i = 0 ∨ i = 1 ∨ i = 2 ∨ i = 3 ∨ i = 4 ∨ i = 5 ∨ i = 6 ∨ i = 7 ∨ i = 8 ∨ i = 9 ∨ i = 10 := by omega
  clear e
  rcases hi with rfl | rfl | rfl | rfl | rfl | rfl | rfl | rfl | rfl | rfl | rfl
  · exact ⟨.sum, by decide +kernel⟩
  · exact ⟨.less, by decide +kernel⟩
  · exact ⟨.times, by decide +kernel⟩
  · exact ⟨.below, by decide +kernel⟩
  · exact ⟨.iff, by decide +kernel⟩
  · exact ⟨.pair, by decide +kernel⟩
  · exact ⟨.first, by decide +kernel⟩
  · exact ⟨.second, by decide +kernel⟩
  · exact ⟨.lett, by decide +kernel⟩
  · exact ⟨.deff, by decide +kernel⟩
  · exact ⟨.call, by decide +kernel⟩
theorem many_of (w : Wd) : (valV (mergeK [] [((.inr (Str.ofString "if") : Key), V.int 3), (.inr (Str.ofString "first"), .int 1), (.inr (Str.ofString "second"), .int 1), (.inr (Str.ofString "def"), .int 1)]) (.inr (tx w.cs))).getD (.int 2) = V.int w.ar := by
  cases w <;> decide +kernel
theorem bind_rep {w : Wd} {b : List Nat} : ∃ (k : Int) (bn : List (List Nat)), (if (!decide (smV (sm w b) = V.non)) = true then (1 : Int) else 0) = k ∧ 0 ≤ k ∧ k ≤ 1 ∧ (List.replicate k.toNat [smV (sm w b)]).flatten = bn.map (fun n => V.str (tx n)) ∧ bn.length ≤ 1 ∧ (bn.map ([32] ++ ·)).flatten = (if w.bd then 32 :: b else []) ∧ (∀ n ∈ bn, w.bd = true ∧ n = b) := by
  unfold sm
  cases hb : w.bd with
  | true => exact ⟨1, [b], rfl, by decide, by decide, rfl, by simp, by simp, fun n hn => ⟨rfl, List.mem_singleton.mp hn⟩⟩
  | false => exact ⟨0, [], rfl, by decide, by decide, rfl, by decide, rfl, fun n hn => by simp at hn⟩
theorem lines_kT : ∀ ks : List U.Tm, ((ks.map U.Tm.pr).map ([32] ++ ·)).flatten = kT ks
  | [] => rfl
  | k :: ks => by
    rw [List.map_cons, List.map_cons, List.flatten_cons, lines_kT ks, kT]
    rfl
theorem sum_tx : ∀ ls : List (List Nat), ((ls.map tx).map (·.length)).sum = (ls.map List.length).sum
  | [] => rfl
  | l :: ls => by
    rw [List.map_cons, List.map_cons, List.sum_cons, sum_tx ls, tx_len, List.map_cons, List.sum_cons]
theorem sum_lens : ∀ (ls : List (List Nat)), (ls.map List.length).sum ≤ ((ls.map ([32] ++ ·)).flatten).length
  | [] => Nat.le_refl _
  | l :: ls => by
    have := sum_lens ls
    rw [List.map_cons, List.sum_cons, List.map_cons, List.flatten_cons, List.length_append, List.length_append]
    omega
def spBelow : Nat → Sp
  | 0 => fun _ _ _ _ => False
  | d + 1 => spLTree d
section
variable {P : Program} {w : World} {K : PySem.W.Frag} {mg : Str → Option Value} {base : Heap} {dW dB : Addr} {esW : Array DictEntry} {nW : Nat} (T : Txt K mg w dW dB esW nW)
include T
theorem ok__law_tree_step (d : Nat) (hd4 : d ≤ 4) {f f1 f2 f3 : Addr} {fd fd1 fd2 fd3 : FuncData} (F : Fun K "_law_tree" "_law_tree" s__law_tree f fd) (h__law_take : Has P w K mg base "_law_take" 1 ["_law_purse_here", "_law_many"] spTake f1 fd1)
    (h__law_number : Has P w K mg base "_law_number" 2 ["_law_purse_here"] spNumber f2 fd2) (h__law_tree : Has P w K mg base "_law_tree" (d + 2) ["_law_purse_here", "_law_smalls", "_law_greats", "_law_deep"] (spBelow d) f3 fd3) :
    FnOk P w K mg base CX0 (d + 3) f fd ["_law_purse_here", "_law_smalls", "_law_greats", "_law_deep"] (spLTree d) := by
  refine F.ok sc__law_tree (fun vs H Q E h => ?_) (fun cdv A outer s H vs Q E hr h => ?_)
  · obtain ⟨p, aS, aG, c, ss, gs, rfl, _⟩ := h
    rfl
  · obtain ⟨p, aS, aG, c, ss, gs, rfl, P0, hc, eS, eG, nS, nG, l3, g3, oS, oG, q⟩ := h
    refine ⟨_, (pss_cons (ps_set (i := 4) sc__law_tree.nd rfl (.inl rfl) (pe_callH h__law_take (hr.mono (by first | decide | omega)) (by rfl) (pa_cons (pv 0) (pa_cons pe_int pa_nil))))
      (pss_cons (ps_if (PW.pt (pw_or (pt_cmpR op_eq (pv 3) pe_int (nomark _)) (pw_or1 (pt_cmpR op_lt (pv 4) pe_int (nomark _))))) 
        (pss_cons (ps_set (i := 5) sc__law_tree.nd rfl (.inl rfl) (pe_ix ix_list (pe_lst (pa_cons (pe_callH h__law_number (hr.mono (by first | decide | omega)) (by rfl) (pa_cons (pv 0) pa_nil)) (pa_cons (pe_ix ix_list (pv 1) (pe_callH h__law_take (hr.mono (by first | decide | omega)) (by rfl) (pa_cons (pv 0) (pa_cons pe_int pa_nil))) (fun _ _ => rfl)) (pa_cons (pe_ix ix_list (pv 2) (pe_callH h__law_take (hr.mono (by first | decide | omega)) (by rfl) (pa_cons (pv 0) (pa_cons pe_int pa_nil))) (fun _ _ => rfl)) pa_nil)))) (pe_op op_mod (pv 4) pe_int) (fun _ _ => rfl)))
        (pss_one (ps_ret (pe_tup (pa_cons (pe_ix ix_list (pe_lst (pa_cons pe_str (pa_cons pe_str (pa_cons pe_str pa_nil)))) (pe_op op_mod (pv 4) pe_int) (fun _ _ => rfl)) (pa_cons pe_non (pa_cons (pe_lst pa_nil) (pa_cons (pv 5) pa_nil)))))))) pss_nil)
      (pss_cons (ps_set (i := 6) sc__law_tree.nd rfl (.inl rfl) (pe_ix ix_list (pe_lst (pa_cons pe_str (pa_cons pe_str (pa_cons pe_str (pa_cons pe_str (pa_cons pe_str (pa_cons pe_str (pa_cons pe_str (pa_cons pe_str (pa_cons pe_str (pa_cons pe_str (pa_cons pe_str pa_nil)))))))))))) (pe_op op_sub (pv 4) pe_int) (fun _ _ => rfl)))
      (Evl.pss_cut (ps_set (i := 7) sc__law_tree.nd rfl (.inl rfl) (pe_ifExp (pt_cmpR op_in_seq (pv 6) (pe_tup (pa_cons pe_str (pa_cons pe_str pa_nil))) (by rfl)) (pe_ix ix_list (pv 1) (pe_callH h__law_take (hr.mono (by first | decide | omega)) (by rfl) (pa_cons (pv 0) (pa_cons pe_int pa_nil))) (fun _ _ => rfl)) pe_non))
      (pss_cons (ps_set (i := 8) sc__law_tree.nd rfl (.inl rfl) (pe_dget2 (Nat.lt_of_le_of_lt (Nat.add_le_add_left (by decide) _) hr.units) (pe_disp (pps_cons pe_str pe_int (pps_cons pe_str pe_int (pps_cons pe_str pe_int (pps_cons pe_str pe_int pps_nil)))) rfl rfl (by simp) (Nat.le_of_ble_eq_true rfl)) (pv 6) pe_int ⟨by rfl, by rfl, by rfl, by rfl⟩))
      (pss_cons (ps_setLc (i := 9) (own := [("_law_k", 11)]) (g := gName 11) (tt := tYes) rfl sc__law_tree.nd rfl rfl (sw_true rfl rfl rfl rfl) (pi_range1 (by rfl) T.z_range (pa_cons (pv 8) pa_nil)) (blkOk_by (N := nm__law_tree) (sc := defScope s__law_tree) (by decide +kernel)) (fun _ _ _ _ _ => pg_name (i := 11) sc__law_tree.nd rfl (.inl rfl)) (fun _ _ _ _ _ => pts_nil) (fun _ _ _ _ _ => (pe_callH h__law_tree (hr.mono (by first | decide | omega)) (by rfl) (pa_cons (pv 0) (pa_cons (pv 1) (pa_cons (pv 2) (pa_cons (pe_op op_sub (pv 3) pe_int) pa_nil)))))))
      (pss_cons (ps_set (i := 10) sc__law_tree.nd rfl (.inl rfl) (pe_op op_cat (pe_op op_cat (pe_lst (pa_cons (pv 6) pa_nil)) (pe_op op_rep (pe_lst (pa_cons (pv 7) pa_nil)) (pe_callTy call_int1 (by rfl) T.z_int (by decide +kernel) (pa_cons (pe_cmpR op_notN (pv 7) pe_non (nomark _)) pa_nil)))) (pe_lc (own := [("_law_one", 12)]) (g := gName 12) (tt := tYes) (te := tOp (rIxT K) (tVar 12) (tC (V.int 3))) rfl sc__law_tree.nd (pi_list (pv 9)) (blkOk_by (N := nm__law_tree) (sc := defScope s__law_tree) (by decide +kernel)) (fun _ _ _ _ _ => pg_name (i := 12) sc__law_tree.nd rfl (.inl rfl)) (fun _ _ _ _ _ => pts_nil) (fun _ _ _ _ _ => (pe_ix ix_tup (pv 12) pe_int (fun _ _ => rfl))))))
      (pss_one (ps_ret (pe_tup (pa_cons (pv 6) (pa_cons (pv 7) (pa_cons (pv 9) (pa_cons (pe_op op_add_str (pe_op op_add_str pe_str (pe_join pe_str (pv 10))) pe_str) pa_nil)))))))))))))), ?_⟩
    have e39 : (2 : Int) ^ 39 = 549755813888 := by decide
    have e40 : (2 : Int) ^ 40 = 1099511627776 := by decide
    have e60 : (2 : Int) ^ 60 = 1152921504606846976 := by decide
    have cb : 10 ≤ cB d := by cases d <;> simp [cB]
    refine ⟨_, rfl, p, 15, c, rfl, P0, by omega, by decide, by decide, fun way H1 hw0 hw1 P1 b1 => ?_⟩
    refine ⟨_, rfl, rfl, _, rfl, ite2 (fun h => ?a) (fun h => ⟨_, rfl, _, _, rfl, rfl, _, rfl, ite2 (fun h2 => ?b) (fun h2 => ?c)⟩)⟩
    case a | b =>
      refine ⟨_, rfl, p, _, rfl, P1, by omega, fun H2 l b2 P2 nl => ⟨_, rfl, _, rfl, p, 3, _, rfl, P2, by omega, by decide, by decide, fun r3 H3 h30 h31 P3 b3 => ?_⟩⟩
      obtain ⟨na, ha1, ha2⟩ := text_at (ss := ss) h30 (by omega)
      have b13 : But p H H3 := But.trans b1 (But.trans b2 b3)
      refine ⟨aS, _, _, _, rfl, rfl, .inl (.inl (b13 _ _ eS nS)), ha2, _, rfl, _, rfl, p, 3, _, rfl, P3, by omega, by decide, by decide, fun r4 H4 h40 h41 P4 b4 => ?_⟩
      obtain ⟨ng, hg1, hg2⟩ := text_at (ss := gs) h40 (by omega)
      have b14 : But p H H4 := But.trans b13 b4
      obtain ⟨kd, line, ao, an, al, at1, at2⟩ := atom_of (ss := ss) (Int.emod_nonneg way (show (3 : Int) ≠ 0 by decide)) (Int.emod_lt_of_pos way (show (0 : Int) < 3 by decide)) nl ha1 (oS _ ha1) (oG _ hg1)
      refine ⟨aG, _, _, _, rfl, rfl, .inl (.inl (b14 _ _ eG nG)), hg2, sizeLine_ge (by show 3 ≤ 10000; decide), fun q1 hq1 => ?_⟩
      refine ⟨_, rfl, _, _, rfl, rfl, (show (0 : Int) < 3 by decide), q1, _, _, _, rfl, rfl, .inl (.inl upd_same), at1, ?_⟩
      have b15 : But p H (upd H4 q1 (.lst [V.str (tx l), V.str (tx na), V.str (tx ng)])) := But.trans b14 (But.of_same (same_new hq1))
      have P5 := P4.same (same_new (o := .lst [V.str (tx l), V.str (tx na), V.str (tx ng)]) hq1)
      generalize upd H4 q1 (.lst [V.str (tx l), V.str (tx na), V.str (tx ng)]) = H5 at b15 P5 ⊢
      refine ⟨sizeLine_ge (by show 3 ≤ 10000; decide), fun q2 hq2 => ⟨_, rfl, _, _, rfl, rfl, (show (0 : Int) < 3 by decide), q2, _, _, _, rfl, rfl, .inl (.inl upd_same), at2, Nat.zero_le _, fun li hli => ⟨_, rfl, sizeLine_ge (by show 4 ≤ 10000; decide), fun r hr => ?_⟩⟩⟩
      have P6 := P5.same (same_new (o := .lst [V.str (Str.ofString "number"), V.str (Str.ofString "name"), V.str (Str.ofString "part")]) hq2)
      have P7 := P6.same (same_new (o := .lst []) hli)
      have P8 := P7.same (same_new (o := .tup [.str (tx kd.cs), .non, .ref li, .str (tx line)]) hr)
      have nlr : li ≠ r := ne_of_none (upd_same (o := .lst [])) hr
      refine q r _ (.atom kd line) (But.trans b15 (But.of_same ((same_new hq2).trans ((same_new hli).trans (same_new hr))))) (P8.mono (by omega)) ⟨li, But.gone (But.trans b15 (But.of_same ((same_new hq2).trans (same_new hli)))) hr (Ne.symm (P7.ne hr)), But.gone (But.trans b15 (But.of_same (same_new hq2))) hli (Ne.symm (P6.ne hli)), upd_same, ?_⟩ ao (fun e => List.mem_map.mpr ⟨line, an e, rfl⟩) (small_atom d al)
      rw [upd_ne nlr]
      exact upd_same
    case c =>
      have h : d ≠ 0 := fun e => h (decide_eq_true (by rw [e]; rfl))
      have h2 : ¬ way < 4 := fun e => h2 (decide_eq_true e)
      obtain ⟨d, rfl⟩ : ∃ e, d = e + 1 := ⟨d - 1, by omega⟩
      obtain ⟨wd, hwd⟩ := word_at (show 0 ≤ way - 4 by omega) (by omega)
      refine ⟨sizeLine_ge (by show 11 ≤ 10000; decide), fun q1 hq1 => ⟨_, rfl, _, _, rfl, rfl, q1, _, _, _, rfl, rfl, .inl (.inl upd_same), hwd, ?_⟩⟩
      have b2 := But.trans b1 (But.of_same (same_new (o := .lst [V.str (Str.ofString "sum"), V.str (Str.ofString "less"), V.str (Str.ofString "times"), V.str (Str.ofString "below"), V.str (Str.ofString "if"), V.str (Str.ofString "pair"), V.str (Str.ofString "first"), V.str (Str.ofString "second"), V.str (Str.ofString "let"), V.str (Str.ofString "def"), V.str (Str.ofString "call")]) hq1))
      have P2 := P1.same (same_new (o := .lst [V.str (Str.ofString "sum"), V.str (Str.ofString "less"), V.str (Str.ofString "times"), V.str (Str.ofString "below"), V.str (Str.ofString "if"), V.str (Str.ofString "pair"), V.str (Str.ofString "first"), V.str (Str.ofString "second"), V.str (Str.ofString "let"), V.str (Str.ofString "def"), V.str (Str.ofString "call")]) hq1)
      generalize upd H1 q1 (.lst [V.str (Str.ofString "sum"), V.str (Str.ofString "less"), V.str (Str.ofString "times"), V.str (Str.ofString "below"), V.str (Str.ofString "if"), V.str (Str.ofString "pair"), V.str (Str.ofString "first"), V.str (Str.ofString "second"), V.str (Str.ofString "let"), V.str (Str.ofString "def"), V.str (Str.ofString "call")]) = H2 at b2 P2 ⊢
      refine ⟨fun σ H' => ∃ b, BndOk wd b ∧ (∀ n, sm wd b = some n → n ∈ ss) ∧ σ = [some (.ref p), some (.ref aS), some (.ref aG), some (.int ((d + 1 : Nat) : Int)), some (.int way), none, some (.str (tx wd.cs)), some (smV (sm wd b)), none, none, none, none, none] ∧ But p H H' ∧ Purse H' p (c + 2), ?_, ?_⟩
      · refine ⟨_, rfl, sizeLine_ge (by show 2 ≤ 10000; decide), fun t ht => ⟨t, _, rfl, .inr (.inl (.inl upd_same)), rfl, rfl, _, rfl, ?_⟩⟩
        have b3 := But.trans b2 (But.of_same (same_new (o := .tup [V.str (Str.ofString "let"), V.str (Str.ofString "def")]) ht))
        have P3 := P2.same (same_new (o := .tup [V.str (Str.ofString "let"), V.str (Str.ofString "def")]) ht)
        generalize upd H2 t (.tup [V.str (Str.ofString "let"), V.str (Str.ofString "def")]) = H3 at b3 P3 ⊢
        rw [show (if false = true then !inV (V.str (tx wd.cs)) [V.str (Str.ofString "let"), V.str (Str.ofString "def")] else inV (V.str (tx wd.cs)) [V.str (Str.ofString "let"), V.str (Str.ofString "def")]) = wd.bd by rw [if_neg (by decide), bind_in]]
        cases hbd : wd.bd with
        | true =>
          refine iteT ⟨_, rfl, _, rfl, p, 3, _, rfl, P3, by omega, by decide, by decide, fun r4 H4 h40 h41 P4 b4 => ?_⟩
          obtain ⟨n, hn1, hn2⟩ := text_at (ss := ss) h40 (by omega)
          refine ⟨aS, _, _, _, rfl, rfl, .inl (.inl ((But.trans b3 b4) _ _ eS nS)), hn2, n, ?_, ?_, ?_, But.trans b3 b4, P4.mono (by omega)⟩
          · unfold BndOk
            rw [hbd]
            exact oS n hn1
          · intro m hm
            unfold sm at hm
            rw [hbd] at hm
            exact (Option.some.inj hm) ▸ hn1
          · unfold sm
            rw [hbd]
            rfl
        | false =>
          refine iteF ⟨[], ?_, ?_, ?_, b3, P3.mono (by omega)⟩
          · unfold BndOk
            rw [hbd]
            rfl
          · intro m hm
            unfold sm at hm
            rw [hbd] at hm
            cases hm
          · unfold sm
            rw [hbd]
            rfl
      · rintro σ H3 ⟨b, hb, hbs, rfl, b3, P3⟩
        refine fun pd hpd => ⟨upd_same, [((.inr (Str.ofString "if") : Key), V.int 3), (.inr (Str.ofString "first"), .int 1), (.inr (Str.ofString "second"), .int 1), (.inr (Str.ofString "def"), .int 1)], rfl, by show 4 ≤ 15; decide, pd, rfl, ?_, _, rfl, ?_⟩
        · exact .inl ⟨_, .inl upd_same⟩
        · refine ⟨_, .inl ⟨_, .inr (tx wd.cs), .inl upd_same, rfl, rfl⟩, ?_⟩
          rw [many_of]
          have ar3 := ar_le wd
          have b4 : But p H (upd (upd H3 pd (.dK [])) pd (.dK (mergeK [] [((.inr (Str.ofString "if") : Key), V.int 3), (.inr (Str.ofString "first"), .int 1), (.inr (Str.ofString "second"), .int 1), (.inr (Str.ofString "def"), .int 1)]))) := by
            rw [upd_upd]
            exact But.updN b3 (But.gone b3 hpd (Ne.symm (P3.ne hpd)))
          have P4 : Purse (upd (upd H3 pd (.dK [])) pd (.dK (mergeK [] [((.inr (Str.ofString "if") : Key), V.int 3), (.inr (Str.ofString "first"), .int 1), (.inr (Str.ofString "second"), .int 1), (.inr (Str.ofString "def"), .int 1)]))) p (c + 2) := by
            rw [upd_upd]
            exact P3.put (P3.ne hpd)
          generalize upd (upd H3 pd (.dK [])) pd (.dK (mergeK [] [((.inr (Str.ofString "if") : Key), V.int 3), (.inr (Str.ofString "first"), .int 1), (.inr (Str.ofString "second"), .int 1), (.inr (Str.ofString "def"), .int 1)])) = H4 at b4 P4 ⊢
          have ecb : cB (d + 1) = 10 + 3 * cB d := rfl
          refine ⟨_, rfl, _, rfl, by omega, by omega, fun D hD => lc_do walk_range (fun j H' => Purse H' p (c + 2 + ((j * cB d : Nat) : Int)) ∧ But p H H' ∧ ∃ (qs : List Addr) (ks : List U.Tm), ks.length = j ∧ Paired (fun q k => NodeL (fun a => H a = none ∧ a ≠ D) H' k q) qs ks ∧ (∀ k ∈ ks, k.Ok ∧ k.Names (nameOk (ss.map tx))) ∧ (∀ k ∈ ks, Small k d) ∧ H' D = some (.lst (qs.map V.ref))) (fun _ => rfl) ?_ (fun _ _ _ _ => trivial) ?_ ?_⟩
          · have n1 := P4.ne hD
            refine ⟨(P4.put n1).mono ?_, But.updN b4 (But.gone b4 hD (Ne.symm n1)), [], [], rfl, .nil, fun k hk => by simp at hk, fun k hk => by simp at hk, upd_same⟩
            rw [Nat.zero_mul]
            omega
          · have hD0 := But.gone b4 hD (Ne.symm (P4.ne hD))
            have nD := P4.ne hD
            rintro j x H5 H6 hj ⟨P5, b5, qs, ks, hk1, hk2, hk3, hk4, hD5⟩ ⟨rfl, rfl⟩
            have hj3 : (j + 1) * cB d ≤ 3 * cB d := Nat.mul_le_mul_right _ (by omega)
            have hj4 : (j + 1) * cB d = j * cB d + cB d := Nat.succ_mul _ _
            rw [hj4] at hj3 ⊢
            generalize j * cB d = m at P5 hj3 ⊢
            refine ⟨_, rfl, _, rfl, _, rfl, _, rfl, _, _, rfl, rfl, p, aS, aG, _, ss, gs, ?_, P5, ?_, b5 _ _ eS nS, b5 _ _ eG nG, nS, nG, l3, g3, oS, oG, fun r H7 k b7 P7 nk ok nm sk => ?_⟩
            · show [V.ref p, V.ref aS, V.ref aG, V.int (((d + 1 : Nat) : Int) - 1)] = _
              rw [show ((d + 1 : Nat) : Int) - 1 = (d : Int) by omega]
            · omega
            · have hD7 := b7 D _ hD5 (Ne.symm nD)
              refine ⟨_, hD7, ?_, (P7.put nD).mono (by omega), But.updN (But.trans b5 b7) hD0, qs ++ [r], ks ++ [k], by rw [List.length_append, hk1]; rfl, ?_, fun x hx => ?_, fun x hx => ?_, ?_⟩
              · rw [List.length_map, hk2.length]
                exact sizeLine_ge (by omega)
              · have pn : ∀ {a : Addr}, H a = none → a ≠ p := fun e z => by
                  rw [z] at e
                  obtain ⟨_, _, _, h, _⟩ := P0
                  rw [e] at h
                  cases h
                refine Paired.app (Paired.mapP hk2 fun q t h => NodeL.keep (fun a o h1 h2 => ?_) (fun a h => h) h) (.cons (NodeL.keep (fun a o h1 h2 => ?_) (fun a h1 => ?_) nk) .nil)
                · rw [upd_ne h1.2]
                  exact b7 _ _ h2 (pn h1.1)
                · rw [upd_ne fun z => ?_]
                  · exact h2
                  · rw [z, hD5] at h1
                    cases h1
                · refine ⟨?_, fun z => ?_⟩
                  · cases e : H a with
                    | none => rfl
                    | some o =>
                      by_cases z : a = p
                      · obtain ⟨_, _, _, h, _⟩ := P5
                        rw [z, h] at h1
                        cases h1
                      · have := b5 a o e z
                        rw [h1] at this
                        cases this
                  · rw [z, hD5] at h1
                    cases h1
              · rcases List.mem_append.mp hx with hx | hx
                · exact hk3 x hx
                · rw [List.mem_singleton.mp hx]
                  exact ⟨ok, nm⟩
              · rcases List.mem_append.mp hx with hx | hx
                · exact hk4 x hx
                · rw [List.mem_singleton.mp hx]
                  exact sk
              · rw [upd_same, List.map_append]
                rfl
          · rintro H5 ⟨P5, b5, qs, ks, hk1, hk2, hk3, hk4, hD5⟩
            have har : ks.length = wd.ar := by omega
            obtain ⟨tm, v, tok, tnm⟩ := mk_tm (N := nameOk (ss.map tx)) har hb hk3
            have tsm := small_view v hk4
            rw [show ((wd.ar : Nat) : Int).toNat = wd.ar from Int.toNat_natCast _] at P5
            have hm3 : wd.ar * cB d ≤ 3 * cB d := Nat.mul_le_mul_right _ ar3
            generalize wd.ar * cB d = m at P5 hm3
            -- words
            obtain ⟨kk, bn, ek, k0, k1, erep, hbn, eflat, hbn2⟩ := bind_rep (w := wd) (b := b)
            refine ⟨_, rfl, sizeLine_ge (by show 1 ≤ 10000; decide), fun w1 hw1 => ⟨_, rfl, sizeLine_ge (by show 1 ≤ 10000; decide), fun w2 hw2 => ⟨_, rfl, rfl, .inr ⟨_, rfl, ?_⟩⟩⟩⟩
            rw [ek]
            have s1 : Same H5 (upd H5 w1 (.lst [V.str (tx wd.cs)])) := same_new hw1
            have s2 := s1.trans (same_new (o := .lst [smV (sm wd b)]) hw2)
            have n12 : w1 ≠ w2 := ne_of_none upd_same hw2
            refine ⟨w2, kk, _, rfl, rfl, upd_same, by omega, by omega, ?_, fun w3 hw3 => ?_⟩
            · show 1 * kk.toNat ≤ sizeLine
              exact sizeLine_ge (by omega)
            rw [erep] at *
            have s3 := s2.trans (same_new (o := .lst (bn.map fun n => V.str (tx n))) hw3)
            have g3 : Same (upd H5 w1 (.lst [V.str (tx wd.cs)])) (upd (upd (upd H5 w1 (.lst [V.str (tx wd.cs)])) w2 (.lst [smV (sm wd b)])) w3 (.lst (bn.map fun n => V.str (tx n)))) := (same_new hw2).trans (same_new hw3)
            have e1 := g3 w1 _ upd_same
            have e3 : (upd (upd (upd H5 w1 (.lst [V.str (tx wd.cs)])) w2 (.lst [smV (sm wd b)])) w3 (.lst (bn.map fun n => V.str (tx n)))) w3 = some (.lst (bn.map fun n => V.str (tx n))) := upd_same
            generalize upd (upd (upd H5 w1 (.lst [V.str (tx wd.cs)])) w2 (.lst [smV (sm wd b)])) w3 (.lst (bn.map fun n => V.str (tx n))) = G3 at s3 e1 e3 ⊢
            refine ⟨w1, w3, _, _, rfl, rfl, e1, e3, ?_, fun w4 hw4 => ?_⟩
            · rw [List.length_map]
              exact sizeLine_ge (by show 1 + bn.length ≤ 10000; omega)
            have s4 := s3.trans (same_new (o := .lst ([V.str (tx wd.cs)] ++ bn.map fun n => V.str (tx n))) hw4)
            have e4 : (upd G3 w4 (.lst ([V.str (tx wd.cs)] ++ bn.map fun n => V.str (tx n)))) w4 = some (.lst ([V.str (tx wd.cs)] ++ bn.map fun n => V.str (tx n))) := upd_same
            generalize upd G3 w4 (.lst ([V.str (tx wd.cs)] ++ bn.map fun n => V.str (tx n))) = G4 at s4 e4 ⊢
            have eD4 := s4 _ _ hD5
            have lq := hk2.length
            refine ⟨_, rfl, D, rfl, ⟨_, .inl (.inl eD4)⟩, fun D2 hD2 => lc_do (walk_list (xs := qs.map V.ref)) (fun j H' => Same G4 H' ∧ H' D2 = some (.lst ((ks.take j).map fun k => V.str (tx k.pr)))) (fun _ => rfl) ⟨same_new hD2, upd_same⟩ (fun _ H' _ h => .inl (.inl (h.1 _ _ eD4))) ?_ ?_⟩
            · rintro j x H6 H7 hj ⟨s6, e6⟩ ⟨rfl, hx⟩
              rw [List.length_map] at hj
              have hkj : ks[j]? = some ks[j] := List.getElem?_eq_getElem (by omega)
              obtain ⟨r, hr1, hr2⟩ := Paired.at_ hk2 hkj
              have ex : x = .ref r := by
                rw [List.getElem?_map, hr1] at hx
                exact (Option.some.inj hx).symm
              subst ex
              obtain ⟨qs', ⟨li, _, _, g1, g2⟩, _⟩ := hr2.head
              have g1' := s6 _ _ (s4 _ _ g1)
              refine ⟨_, rfl, r, _, _, _, rfl, rfl, .inl (.inl g1'), rfl, _, e6, ?_, ?_, ?_⟩
              · rw [List.length_map, List.length_take]
                exact sizeLine_ge (by omega)
              · exact fun c u e => by
                  rw [upd_ne (ne_of_none e hD2)]
                  exact s6 c u e
              · rw [upd_same, List.take_add_one, hkj, List.map_append]
                rfl
            · rintro H6 ⟨s6, e6⟩
              rw [List.length_map, lq, List.take_length] at e6
              have e46 := s6 _ _ e4
              have tl := tsm.len
              have t81 : 3 ^ (d + 1) ≤ 3 ^ 4 := Nat.pow_le_pow_right (by decide) hd4
              have e81 : 3 ^ 4 = 81 := by decide
              have t17 : tm.pr.length ≤ 2000 := by omega
              refine ⟨w4, D2, _, _, rfl, rfl, e46, e6, ?_, fun w5 hw5 => ?_⟩
              · rw [List.length_append, List.length_map, List.length_map]
                exact sizeLine_ge (by show 1 + bn.length + ks.length ≤ 10000; omega)
              have s5 := (s4.trans s6).trans (same_new (o := .lst ([V.str (tx wd.cs)] ++ (bn.map fun n => V.str (tx n)) ++ ks.map fun k => V.str (tx k.pr))) hw5)
              have e5 : (upd H6 w5 (.lst ([V.str (tx wd.cs)] ++ (bn.map fun n => V.str (tx n)) ++ ks.map fun k => V.str (tx k.pr)))) w5 = some (.lst ((tx wd.cs :: (bn ++ ks.map U.Tm.pr).map tx).map V.str)) := by
                rw [upd_same]
                simp [List.map_map, Function.comp_def]
              generalize upd H6 w5 (.lst ([V.str (tx wd.cs)] ++ (bn.map fun n => V.str (tx n)) ++ ks.map fun k => V.str (tx k.pr))) = G5 at s5 e5 ⊢
              have sp1 : Str.ofString " " = tx [32] := by decide +kernel
              have sp2 : Str.ofString "(" = tx [40] := by decide +kernel
              have sp3 : Str.ofString ")" = tx [41] := by decide +kernel
              have jn : Txt.join (Str.ofString " ") (tx wd.cs :: (bn ++ ks.map U.Tm.pr).map tx) = tx (wd.cs ++ (if wd.bd then 32 :: b else []) ++ kT ks) := by
                rw [sp1, join_tx]
                refine congrArg (fun l : List Nat => tx l) ?_
                rw [List.map_append, List.flatten_append, eflat, lines_kT, List.append_assoc]
              have tp : (tx [40] ++ tx (wd.cs ++ (if wd.bd then 32 :: b else []) ++ kT ks) ++ tx [41] : Str) = tx tm.pr := by
                rw [tx_app, tx_app, v.pr]
                rfl
              have lp : (wd.cs ++ (if wd.bd then 32 :: b else []) ++ kT ks).length + 2 = tm.pr.length := by
                rw [v.pr]
                unfold hd
                simp only [List.length_append, List.length_cons, List.length_nil]
                omega
              refine ⟨_, rfl, _, rfl, _, rfl, ⟨_, rfl⟩, _, rfl, _, w5, tx wd.cs :: (bn ++ ks.map U.Tm.pr).map tx, rfl, rfl, .inl (.inl (.inl e5)), ?_, ?_⟩
              · have l1 := sum_lens (bn ++ ks.map U.Tm.pr)
                have le : ((bn ++ ks.map U.Tm.pr).map ([32] ++ ·)).flatten = (if wd.bd then 32 :: b else []) ++ kT ks := by
                  rw [List.map_append, List.flatten_append, eflat, lines_kT]
                rw [le, List.length_append] at l1
                have l2 : (if wd.bd then 32 :: b else []).length + (kT ks).length ≤ 2000 := by
                  simp only [List.length_append] at lp
                  omega
                have l3 := cs_len wd
                rw [List.map_cons, List.sum_cons, sum_tx, tx_len, List.length_cons, List.length_map, List.length_append, List.length_map, sp1, tx_len]
                have : ([32] : List Nat).length = 1 := rfl
                rw [this]
                omega
              rw [jn, sp2, sp3]
              refine ⟨_, _, rfl, rfl, ?_, _, _, rfl, rfl, ?_, sizeLine_ge (by show 4 ≤ 10000; decide), fun r hr => ?_⟩
              · rw [tx_len, tx_len]
                exact sizeLine_ge (by show 1 + _ ≤ 10000; omega)
              · rw [tx_app, tx_len, tx_len]
                exact sizeLine_ge (by simp only [List.length_append, List.length_cons, List.length_nil] at lp ⊢; omega)
              rw [tp]
              have PG := (P5.same s5)
              have bG : But p H G5 := But.trans b5 (But.of_same s5)
              have sr : Same G5 (upd G5 r (.tup [V.str (tx wd.cs), smV (sm wd b), V.ref D, V.str (tx tm.pr)])) := same_new hr
              have hD0 := But.gone b4 hD (Ne.symm (P4.ne hD))
              refine q r _ tm (But.trans bG (But.of_same sr)) ((PG.same sr).mono (by rw [ecb]; omega)) (NodeL.mk (qs := qs) ⟨D, But.gone bG hr (Ne.symm (PG.ne hr)), hD0, ?_, (s5.trans sr) _ _ hD5⟩ ?_) tok tnm tsm
              · rw [upd_same, v.kind, v.small]
              · rw [v.kids]
                exact Paired.mapP hk2 fun q t h => NodeL.keep (fun a o _ h2 => (s5.trans sr) _ _ h2) (fun a h => h.1) h
end
end K


set_option Elab.async false
set_option linter.all false
set_option maxRecDepth 100000
set_option maxHeartbeats 4000000
namespace K
open PySem PySem.Spec PyProof.Rows L2 U SkE
def spTreeAll : Sp := fun vs H Q E => ∃ d, d ≤ 4 ∧ spLTree d vs H Q E
def spDrawn : Sp := fun vs H Q _ => ∃ (p : Addr) (c : Int), vs = [.ref p] ∧ Purse H p c ∧ c < 2 ^ 38 ∧
  ∀ r H' k N, But p H H' → Purse H' p (c + 2000) → NodeL (fun a => H a = none) H' k r → Fit k N → k.pr.length ≤ 2000 → k.depth ≤ 4 → Q (.ref r) H'
def spLAll (n : Nat) : Sp := fun vs H Q _ => ∃ (k : U.Tm) (r : Addr) (F : Addr → Prop), vs = [.ref r] ∧ NodeL F H k r ∧ k.depth < n ∧ k.size ≤ 1000 ∧ ∀ q H' xs, Same H H' → H' q = some (.lst xs) → xs.length = k.size → Q (.ref q) H'
theorem fit_of {k : U.Tm} {d : Nat} {ss : List (List Nat)} (hd : d ≤ 4) (h : Small k d) (ok : k.Ok) (nm : k.Names (nameOk (ss.map tx))) (l3 : ss.length = 3) : Fit k (ss.map tx) ∧ k.pr.length ≤ 2000 ∧ k.depth ≤ 4 := by
  have h4 := h.mono hd
  have e5 : 3 ^ (4 + 1) = 243 := by decide
  have e4 : 3 ^ 4 = 81 := by decide
  have h1 := h4.size
  have h2 := h4.depth
  have h3 := h4.len
  exact ⟨⟨sizeLine_ge (by omega), ok, by omega, by omega, by rw [List.length_map, l3]; decide, nm⟩, by omega, by omega⟩
theorem depth_kids {k x : U.Tm} (h : x ∈ k.kids) : x.depth < k.depth := by
  cases k with
  | atom => simp [U.Tm.kids] at h
  | n1 w b y =>
    simp only [U.Tm.kids, List.mem_singleton] at h
    subst h
    simp only [U.Tm.depth]
    omega
  | n2 w b y z =>
    simp only [U.Tm.kids, List.mem_cons, List.not_mem_nil, or_false] at h
    rcases h with rfl | rfl <;> simp only [U.Tm.depth] <;> omega
  | n3 w b y z u =>
    simp only [U.Tm.kids, List.mem_cons, List.not_mem_nil, or_false] at h
    rcases h with rfl | rfl | rfl <;> simp only [U.Tm.depth] <;> omega
section
variable {P : Program} {w : World} {K : PySem.W.Frag} {mg : Str → Option Value} {base : Heap} {dW dB : Addr} {esW : Array DictEntry} {nW : Nat} (T : Txt K mg w dW dB esW nW)
include T
theorem ok__law_tree {f f1 f2 : Addr} {fd fd1 fd2 : FuncData} (F : Fun K "_law_tree" "_law_tree" s__law_tree f fd) (h__law_take : Has P w K mg base "_law_take" 1 ["_law_purse_here", "_law_many"] spTake f1 fd1)
    (h__law_number : Has P w K mg base "_law_number" 2 ["_law_purse_here"] spNumber f2 fd2) (at_ : mg "_law_tree" = some (.ref f)) (kp : PySem.W.keepIn K (.ref f) = true) (bi : Binds K fd ["_law_purse_here", "_law_smalls", "_law_greats", "_law_deep"] []) :
    FnOk P w K mg base CX0 7 f fd ["_law_purse_here", "_law_smalls", "_law_greats", "_law_deep"] spTreeAll := by
  have all : ∀ d, d ≤ 4 → FnOk P w K mg base CX0 (d + 3) f fd ["_law_purse_here", "_law_smalls", "_law_greats", "_law_deep"] (spLTree d) := by
    intro d
    induction d with
    | zero =>
      intro hd
      exact ok__law_tree_step T 0 hd F h__law_take h__law_number ⟨at_, kp, bi, ⟨fun vs H Q E h => h.elim, fun A outer s H args us vs Q E hr e b v h => h.elim⟩⟩
    | succ d ih =>
      intro hd
      exact ok__law_tree_step T (d + 1) hd F h__law_take h__law_number ⟨at_, kp, bi, ih (by omega)⟩
  exact ⟨fun vs H Q E ⟨d, hd, h⟩ => (all d hd).len vs H Q E h, fun A outer s H args us vs Q E hr e b v ⟨d, hd, h⟩ => ((all d hd).mono (by omega)).run A outer s H args us vs Q E hr e b v h⟩
theorem ok__law_drawn {f f1 f2 f3 : Addr} {fd fd1 fd2 fd3 : FuncData} (F : Fun K "_law_drawn" "_law_drawn" s__law_drawn f fd) (h__law_take : Has P w K mg base "_law_take" 1 ["_law_purse_here", "_law_many"] spTake f1 fd1)
    (h__law_names : Has P w K mg base "_law_names" 2 ["_law_purse_here", "_law_many", "_law_signs", "_law_wide"] spNames f2 fd2) (h__law_tree : Has P w K mg base "_law_tree" 7 ["_law_purse_here", "_law_smalls", "_law_greats", "_law_deep"] spTreeAll f3 fd3) :
    FnOk P w K mg base CX0 8 f fd ["_law_purse_here"] spDrawn := by
  refine F.ok sc__law_drawn (fun vs H Q E h => ?_) (fun cdv A outer s H vs Q E hr h => ?_)
  · obtain ⟨p, c, rfl, _⟩ := h
    rfl
  · obtain ⟨p, c, rfl, P0, hc, q⟩ := h
    refine ⟨_, (pss_cons (ps_set (i := 1) sc__law_drawn.nd rfl (.inl rfl) (pe_callH h__law_names (hr.mono (by first | decide | omega)) (by rfl) (pa_cons (pv 0) (pa_cons pe_int (pa_cons pe_str (pa_cons pe_int pa_nil))))))
      (pss_cons (ps_set (i := 2) sc__law_drawn.nd rfl (.inl rfl) (pe_callH h__law_names (hr.mono (by first | decide | omega)) (by rfl) (pa_cons (pv 0) (pa_cons pe_int (pa_cons pe_str (pa_cons pe_int pa_nil))))))
      (pss_one (ps_ret (pe_callH h__law_tree (hr.mono (by first | decide | omega)) (by rfl) (pa_cons (pv 0) (pa_cons (pv 1) (pa_cons (pv 2) (pa_cons (pe_callH h__law_take (hr.mono (by first | decide | omega)) (by rfl) (pa_cons (pv 0) (pa_cons pe_int pa_nil))) pa_nil))))))))), ?_⟩
    have e38 : (2 : Int) ^ 38 = 274877906944 := by decide
    have e39 : (2 : Int) ^ 39 = 549755813888 := by decide
    have e40 : (2 : Int) ^ 40 = 1099511627776 := by decide
    have pn : ∀ {a : Addr} {G : Hp} {x : Int}, Purse G p x → G a = none → a ≠ p := fun P e => Ne.symm (P.ne e)
    refine ⟨_, rfl, p, c, smalls, 4, 3, by rw [smalls_tx]; rfl, P0, by omega, by decide, by decide, by decide, by decide, fun aS H1 ss b1 P1 nS eS l3 oS => ?_⟩
    refine ⟨_, rfl, p, _, greats, 6, 3, by rw [greats_tx]; rfl, P1, by omega, by decide, by decide, by decide, by decide, fun aG H2 gs b2 P2 nG eG g3 oG => ?_⟩
    have b12 : But p H H2 := But.trans b1 b2
    have nSp := pn P0 nS
    have nGp := pn P1 nG
    refine ⟨_, rfl, _, rfl, _, rfl, _, rfl, p, 5, _, rfl, P2, by omega, by decide, by decide, fun r H3 hr0 hr5 P3 b3 => ?_⟩
    obtain ⟨d, rfl⟩ : ∃ d : Nat, r = d := ⟨r.toNat, by omega⟩
    have hd4 : d ≤ 4 := by omega
    have cb4 : cB d ≤ 1210 := by
      have : d = 0 ∨ d = 1 ∨ d = 2 ∨ d = 3 ∨ d = 4 := by omega
      rcases this with rfl | rfl | rfl | rfl | rfl <;> decide
    have b13 : But p H H3 := But.trans b12 b3
    refine ⟨d, hd4, p, aS, aG, _, ss, gs, rfl, P3, by omega, b3 _ _ (b2 _ _ eS nSp) nSp, b3 _ _ eG nGp, nSp, nGp, l3, g3, fun n hn => oS n hn, fun n hn => oG n hn, fun r H4 k b4 P4 nk ok nm sk => ?_⟩
    obtain ⟨ft, fl, fd4⟩ := fit_of hd4 sk ok nm l3
    refine q r H4 k _ (But.trans b13 b4) (P4.mono (by omega)) (NodeL.keep (fun a o _ h => h) (fun a h => ?_) nk) ft fl fd4
    exact But.gone b13 h (pn P3 h)
end
end K


set_option Elab.async false
set_option linter.all false
set_option maxRecDepth 100000
set_option maxHeartbeats 4000000
/-! data of texts, compared -/
namespace U
open PySem PySem.Spec PyProof.Rows L2
/-- a text of signs that Python's texts have -/
def Asc (x : Str) : Prop := ∀ c ∈ x.cps.toList, c < 128
theorem Asc.ok {x : Str} (h : Asc x) : PyData.strOk x = true := by
  unfold PyData.strOk
  rw [Array.all_eq_true_iff_forall_mem]
  intro c hc
  have := h c (by simpa using hc)
  exact decide_eq_true (Nat.lt_trans this (by decide))
theorem Asc.tx {l : List Nat} (h : ∀ c ∈ l, c < 128) : Asc (tx l) := fun c hc => h c (by simpa using hc)
theorem asc_smalls : ∀ c ∈ smalls, c < 128 := by decide
theorem asc_greats : ∀ c ∈ greats, c < 128 := by decide
theorem asc_figs : ∀ c ∈ figs, c < 128 := by decide
theorem asc_figs1 : ∀ c ∈ figs1, c < 128 := by decide
theorem asc_hd {w : Wd} {b : List Nat} (h : BndOk w b) : ∀ c ∈ hd w b, c < 128 := by
  have e : ∀ c ∈ w.cs, c < 128 := by cases w <;> decide
  intro c hc
  unfold hd at hc
  unfold BndOk at h
  rcases List.mem_append.mp hc with hc | hc
  · rcases List.mem_cons.mp hc with rfl | hc
    · decide
    · exact e c hc
  · cases hb : w.bd with
    | true =>
      rw [hb] at hc h
      simp only [if_true] at hc h
      rcases List.mem_cons.mp hc with rfl | hc
      · decide
      · exact asc_smalls c (h.2.2 c hc)
    | false =>
      rw [hb] at hc
      simp at hc
def AL (l : List Nat) : Prop := ∀ c ∈ l, c < 128
theorem al_nil : AL [] := fun c h => by simp at h
theorem al_app {a b : List Nat} (h1 : AL a) (h2 : AL b) : AL (a ++ b) := fun c h => (List.mem_append.mp h).elim (h1 c) (h2 c)
theorem al_cons {x : Nat} {l : List Nat} (h1 : x < 128) (h2 : AL l) : AL (x :: l) := fun c h => by
  rcases List.mem_cons.mp h with h | h
  · rw [h]
    exact h1
  · exact h2 c h
theorem asc_num {l : List Nat} (h : NumOk l) : AL l := by
  rcases h with rfl | ⟨d, ds, e, h1, _, h3⟩
  · exact al_cons (by decide) al_nil
  · have h : AL (d :: ds) := al_cons (asc_figs1 _ h1) fun c hc => asc_figs _ (h3 c hc)
    rcases e with rfl | rfl
    · exact h
    · exact al_cons (by decide) h
theorem asc_pr : ∀ k : Tm, k.Ok → AL k.pr
  | .atom .num l, h => asc_num h
  | .atom .name l, h => fun c hc => asc_smalls c ((show SmallOk l from h).2.2 c hc)
  | .atom .part l, h => fun c hc => asc_greats c ((show GreatOk l from h).2.2 c hc)
  | .n1 w b x, h => al_app (al_app (asc_hd h.2.1) (al_cons (by decide) (asc_pr x h.2.2))) (al_cons (by decide) al_nil)
  | .n2 w b x y, h => al_app (al_app (asc_hd h.2.1) (al_app (al_cons (by decide) (asc_pr x h.2.2.1)) (al_cons (by decide) (asc_pr y h.2.2.2)))) (al_cons (by decide) al_nil)
  | .n3 w b x y z, h => al_app (al_app (asc_hd h.2.1) (al_app (al_app (al_cons (by decide) (asc_pr x h.2.2.1)) (al_cons (by decide) (asc_pr y h.2.2.2.1))) (al_cons (by decide) (asc_pr z h.2.2.2.2)))) (al_cons (by decide) al_nil)
theorem canLay_strs : ∀ xs : List Str, (∀ x ∈ xs, Asc x) → PyData.canLayAll0 (xs.map PyData.str) = true
  | [], _ => rfl
  | x :: xs, h => by
    rw [List.map_cons, PyData.canLayAll0, canLay_strs xs fun y hy => h y (List.mem_cons_of_mem _ hy), Bool.and_true]
    have := h x List.mem_cons_self
    rw [PyData.canLay0]
    exact this.ok
theorem depth_strs : ∀ xs : List Str, PyData.depthAll (xs.map PyData.str) ≤ 1
  | [] => by simp [PyData.depthAll]
  | x :: xs => by
    have := depth_strs xs
    simp only [List.map_cons, PyData.depthAll, PyData.depth]
    omega
theorem shaped_strs {xs : List Str} (h : ∀ x ∈ xs, Asc x) : SeqAt.shaped (.list (xs.map PyData.str)) = true := by
  have := depth_strs xs
  simp only [SeqAt.shaped, PyData.canLay0, canLay_strs xs h, Bool.true_and]
  refine decide_eq_true ?_
  simp only [PyData.depth]
  omega
theorem dpAll_strs {K : PySem.W.Frag} {H : Hp} : ∀ xs : List Str, DpAll K H (xs.map V.str) (xs.map PyData.str)
  | [] => .nil
  | x :: xs => .cons (.str x) (dpAll_strs xs)
theorem eqvAll_strs : ∀ xs ys : List Str, PyData.eqvAll (xs.map PyData.str) (ys.map PyData.str) = decide (xs = ys)
  | [], [] => by simp [PyData.eqvAll]
  | [], y :: ys => by simp [PyData.eqvAll]
  | x :: xs, [] => by simp [PyData.eqvAll]
  | x :: xs, y :: ys => by
    rw [List.map_cons, List.map_cons, PyData.eqvAll, eqvAll_strs xs ys, PyData.eqv]
    rw [Bool.eq_iff_iff]
    simp
end U

set_option Elab.async false
set_option linter.all false
set_option maxRecDepth 100000
set_option maxHeartbeats 4000000
/-! sorted(xs), texts, any number of them, in a list or a tuple -/
namespace U
open PySem PySem.Spec PyProof.Rows L2
section
variable {prog : Program} {w : World} {A : Around} {E : Value → Shared → Prop} {s : Shared}
theorem collect_tup {l : Addr} {vs : List Value} {o : Obj} {n : Nat} {Q : List Value → Shared → Prop} (ho : s.heap.get? l = some o) (hc : o.cls = .type "tuple") (hd : o.data = .seq vs.toArray n)
    (h : Q vs { s with heap := (s.heap.push (seqObj "list" #[] 0)).update s.heap.objs.size (Obj.mapSeq (· ++ vs.toArray)) }) (hsz : vs.length ≤ sizeLine) :
    wpAny (model prog w) A (collect (.ref l)) Q E s := by
  unfold collect
  refine wpAny_bind (wpAny_runValue (codeAny_builtin entry_proto_collect' ?_))
  show wpAny _ _ (do again (.builtin "list.__iadd__" ⟨[← newList [], .ref l], []⟩)) _ _ s
  refine wpAny_bind (wpAny_newList (wpAny_pure ⟨Code.quiet_builtin _ (by decide +kernel), codeAny_builtin entry_list_iadd' ?_⟩))
  show wpAny _ _ (Builtin.List.listExtendWith (.ref s.heap.objs.size) (.ref l) (.ref s.heap.objs.size)) _ _ { s with heap := s.heap.push (seqObj "list" #[] 0) }
  unfold Builtin.List.listExtendWith
  have ho' : (s.heap.push (seqObj "list" #[] 0)).get? l = some o := Heap.get?_push_of_some _ ho
  refine wpAny_bind (wpAny_typeOf (T := "tuple") ⟨o, ho', hc⟩ ?_)
  have ht : (Value.type "tuple" == Value.type "tuple") = true := by rfl
  rw [if_pos (by rw [ht]; simp)]
  refine wpAny_bind (listItems_at ho' hd ?_)
  refine wpAny_bind (listItems_at (xs := #[]) (n := 0) (Heap.get?_push_size _ rfl) rfl ?_)
  rw [if_neg (by simp)]
  refine wpAny_bind (listUpdate_at (xs := #[]) (n := 0) (Heap.get?_push_size _ rfl) rfl ?_ (Nat.zero_le _) (by show (#[] ++ vs.toArray).size ≤ sizeLine + 1; simp only [Array.size_append, List.size_toArray, List.length_nil]; omega))
  refine wpAny_pure ?_
  show wpAny (model prog w) A (do
      let o ← load s.heap.objs.size
      match o.data with
      | .seq xs _ => pure xs.toList
      | _ => unsupported "internal:collect") Q E { s with heap := (s.heap.push (seqObj "list" #[] 0)).update s.heap.objs.size (Obj.mapSeq (· ++ vs.toArray)) }
  refine wpAny_bind (wpAny_load (get?_update_seq (Heap.get?_push_size _ rfl) _) ?_)
  show wpAny _ _ (pure ((#[] : Array Value) ++ vs.toArray).toList) Q E _
  rw [show ((#[] : Array Value) ++ vs.toArray).toList = vs by simp]
  exact wpAny_pure h
theorem sorted_tup {l : Addr} {vs : List Value} {ss : List Str} {o : Obj} {n : Nat} {Q : Value → Shared → Prop} (ho : s.heap.get? l = some o) (hc : o.cls = .type "tuple") (hd : o.data = .seq vs.toArray n) (hS : StrsAre vs ss) (hL : vs.length ≤ sizeLine)
    (h : ∀ (out : Array Value) (ss' : List Str), StrsAre out.toList ss' → ss'.Perm ss → sortedS ss' = true → Q (.ref (s.heap.objs.size + 1)) { s with heap := sortedAll s.heap vs out }) :
    wpAny (model prog w) A (call (.builtin "sorted") [.ref l]) Q E s := by
  refine Calls.call_function_entry kind_sorted plain_sorted entry_sorted (args_sorted1 _) ?_
  unfold Builtin.«sorted»
  refine wpAny_bind (m := checkCount "sorted" 1 1 _) (wpAny_pure ?_)
  refine wpAny_bind (collect_tup ho hc hd ?_ hL)
  refine wpAny_bind (wpAny_newList ?_ hL)
  have hsz : ((s.heap.push (seqObj "list" #[] 0)).update s.heap.objs.size (Obj.mapSeq (· ++ vs.toArray))).objs.size = s.heap.objs.size + 1 := by
    rw [Heap.size_update, size_push']
  have hoL : (((s.heap.push (seqObj "list" #[] 0)).update s.heap.objs.size (Obj.mapSeq (· ++ vs.toArray))).push (seqObj "list" vs.toArray 0)).get? (s.heap.objs.size + 1) = some (seqObj "list" vs.toArray 0) := by
    rw [← hsz]; exact Heap.get?_push_size _ rfl
  show wpAny _ _ _ _ _ { s with heap := ((s.heap.push (seqObj "list" #[] 0)).update s.heap.objs.size (Obj.mapSeq (· ++ vs.toArray))).push (seqObj "list" vs.toArray 0) }
  rw [hsz]
  refine wpAny_bind (wpAny_holding (wpAny_call_entry slot_list_sort ⟨_, hoL, rfl⟩ entry_list_sort (list_sort_treeKAny strKind_oneLt hoL hS.keysOf (fun v₁ v₂ rest e => keyKind_strs (by rw [← e]; exact hS)) hL fun st' hp hs => ⟨_, rfl, ?_⟩) (args_list_sort _)))
  obtain ⟨ss', h1, h2, h3⟩ := sorted_out_str hS hp hs
  exact wpAny_pure ⟨_, rfl, h _ ss' h1 h2 h3⟩
end
section
variable {X : Cx}
def rSortedA (K : PySem.W.Frag) : List V → Hp → VK → Prop := fun vs H Q => ∃ (a : Addr) (xs : List Str), vs = [V.ref a] ∧ (SqL K H a (xs.map V.str) ∨ SqT K H a (xs.map V.str)) ∧
  ∀ (ys : List Str) (p : Addr), ys.Perm xs → sortedS ys = true → H p = none → Q (.ref p) (upd H p (.lst (ys.map V.str)))
theorem cr_sortedA : CallR X (.builtin "sorted") (rSortedA X.K) := by
  intro pins s σ H vs us Q I r h
  obtain ⟨a, xs, rfl, hs, q⟩ := h
  rw [Vals.ref1 r]
  rcases hs with hs | hs
  · obtain ⟨its, rv, hl, hz⟩ := I.list hs
    have hlen0 := rv.length
    rw [List.length_map] at hlen0 hz
    refine PyProof.Rows.sorted_strsAny hl.isList rv.strs (by rw [← hlen0]; exact hz) fun out ys h1 h2 h3 => ?_
    obtain ⟨ep, he'⟩ := PyProof.Rows.sortedAll_at s.heap its out
    have hlen : (ys.map V.str).length ≤ sizeLine := by rw [List.length_map, h2.length_eq]; exact hz
    exact ⟨.ref _, upd H (s.heap.objs.size + 1) (.lst (ys.map V.str)), I.laid (t' := s.toks) (fun _ _ => PyProof.Rows.sortedAll_old) (Nat.le_succ _) ⟨hlen, out.toList, ep, vals_of_strs h1, he'⟩, rfl, q ys _ h2 h3 (I.hok.fresh (Nat.le_succ _))⟩
  · obtain ⟨its, rv, ⟨⟨c2, dd, d2, sl⟩, g2, k2, n2, k3⟩, hz⟩ := I.tuple hs
    have hlen0 := rv.length
    rw [List.length_map] at hlen0 hz
    refine sorted_tup g2 k2 k3 rv.strs (by rw [← hlen0]; exact hz) fun out ys h1 h2 h3 => ?_
    obtain ⟨ep, he'⟩ := PyProof.Rows.sortedAll_at s.heap its out
    have hlen : (ys.map V.str).length ≤ sizeLine := by rw [List.length_map, h2.length_eq]; exact hz
    exact ⟨.ref _, upd H (s.heap.objs.size + 1) (.lst (ys.map V.str)), I.laid (t' := s.toks) (fun _ _ => PyProof.Rows.sortedAll_old) (Nat.le_succ _) ⟨hlen, out.toList, ep, vals_of_strs h1, he'⟩, rfl, q ys _ h2 h3 (I.hok.fresh (Nat.le_succ _))⟩
end
end U

set_option Elab.async false
set_option linter.all false
set_option maxRecDepth 100000
set_option maxHeartbeats 4000000
namespace U
open PySem PySem.Spec PyProof.Rows L2
theorem rising_le : ∀ (l : List Str) (p : Str), risingS p l = true → (∀ y ∈ l, p.cps.toList ≤ y.cps.toList) ∧ sortedS l = true
  | [], _, _ => ⟨fun y hy => by simp at hy, rfl⟩
  | x :: r, p, h => by
    have h' : (!ltCps x.cps.toList p.cps.toList && risingS x r) = true := h
    rw [Bool.and_eq_true] at h'
    obtain ⟨h1, h2⟩ := h'
    rw [ltCps_eq] at h1
    have px : p.cps.toList ≤ x.cps.toList := by
      refine List.not_lt.mp ?_
      simpa using h1
    obtain ⟨h3, _⟩ := rising_le r x h2
    refine ⟨fun y hy => ?_, h2⟩
    rcases List.mem_cons.mp hy with rfl | hy
    · exact px
    · exact List.le_trans px (h3 y hy)
theorem sorted_cons {x : Str} {r : List Str} (h : sortedS (x :: r) = true) : (∀ y ∈ r, x.cps.toList ≤ y.cps.toList) ∧ sortedS r = true := rising_le r x h
theorem sorted_unique : ∀ {a b : List (List Nat)}, a.Perm b → sortedS (a.map tx) = true → sortedS (b.map tx) = true → a = b
  | [], b, p, _, _ => (List.nil_perm.mp p).symm
  | x :: a, [], p, _, _ => absurd p.length_eq (by simp)
  | x :: a, y :: b, p, ha, hb => by
    obtain ⟨a1, a2⟩ := sorted_cons ha
    obtain ⟨b1, b2⟩ := sorted_cons hb
    have le1 : x ≤ y := by
      have : y ∈ x :: a := p.mem_iff.mpr List.mem_cons_self
      rcases List.mem_cons.mp this with e | h
      · rw [e]
        exact List.le_refl _
      · have := a1 (tx y) (List.mem_map.mpr ⟨y, h, rfl⟩)
        simpa using this
    have le2 : y ≤ x := by
      have : x ∈ y :: b := p.mem_iff.mp List.mem_cons_self
      rcases List.mem_cons.mp this with e | h
      · rw [e]
        exact List.le_refl _
      · have := b1 (tx x) (List.mem_map.mpr ⟨x, h, rfl⟩)
        simpa using this
    have e : x = y := List.le_antisymm le1 le2
    subst e
    rw [sorted_unique (p.cons_inv) a2 b2]
end U

set_option Elab.async false
set_option linter.all false
set_option maxRecDepth 100000
set_option maxHeartbeats 4000000
/-! sorted(a set of texts), of any number -/
namespace U
open PySem PySem.Spec PyProof.Rows L2
section
variable {P : Program} {w : World} {A : Around} {E : Value → Shared → Prop} {s : Shared} {a : Addr}
theorem sorted_setA {l : List Str} {Q : Value → Shared → Prop} (R : SetS w s.heap a l) (hh : A.handled = none) (hz : l.length ≤ sizeLine)
    (fin : ∀ s' p (out : Array Value) (c : Nat) (ys : List Str), (∀ b o, s.heap.get? b = some o → s'.heap.get? b = some o) → s'.gens = s.gens → s'.os = s.os → s.heap.objs.size ≤ p →
      s'.heap.get? p = some (seqObj "list" out c) → StrsAre out.toList ys → ys.Perm l → sortedS ys = true → Q (.ref p) s') :
    wpAny (model P w) A (call (.builtin "sorted") [.ref a]) Q E s := by
  obtain ⟨ob, es, ep, tb, ⟨o1, o2, o3⟩, ⟨e1, e2, e3⟩, ⟨e4, e5⟩, e6, e7⟩ := R
  refine Calls.call_function_entry kind_sorted plain_sorted entry_sorted (args_sorted1 _) ?_
  unfold Builtin.«sorted»
  refine wpAny_bind (m := checkCount "sorted" 1 1 _) (wpAny_pure (wpAny_bind (collect_set (A := A.in1) hh ⟨ob, o1, o2.1, o3⟩ e5 e4 e6 e7 fun s1 vs k1 z1 g1 p1 pm => ?_)))
  have len : vs.length = l.length := by
    have q1 := pm.length_eq
    have q2 := e2.length_eq
    simp only [List.length_map] at q1 q2
    omega
  have tx : StrsAre vs (vs.map fun v => textOf (0, v)) := texts_of (w := w) vs fun v hv => by
    obtain ⟨e, he, q⟩ := List.mem_map.mp (pm.mem_iff.mp hv)
    obtain ⟨x, u, h1, _⟩ := e1 e he
    exact ⟨x, u, q ▸ h1⟩
  have pl : (vs.map fun v => textOf (0, v)).Perm l := by
    have q := pm.map fun v => textOf (0, v)
    rw [List.map_map] at q
    exact q.trans e2
  refine wpAny_bind (wpAny_newList ?_ (by rw [len]; exact hz))
  have at1 : (s1.heap.push (seqObj "list" vs.toArray 0)).get? s1.heap.objs.size = some (seqObj "list" vs.toArray 0) := Heap.get?_push_size _ rfl
  refine wpAny_bind (wpAny_holding (wpAny_call_entry slot_list_sort ⟨_, at1, rfl⟩ entry_list_sort
    (list_sort_treeKAny strKind_oneLt at1 tx.keysOf (fun v₁ v₂ rest e => keyKind_strs (by rw [← e]; exact tx)) (by rw [len]; exact hz) fun st' hp hs => ?_) (args_list_sort _)))
  obtain ⟨ys, y1, y2, y3⟩ := sorted_out_str tx hp hs
  obtain ⟨c, hc⟩ := sortedHeap_at (vs := vs) (out := (arrOf st').map (·.2)) at1
  refine ⟨_, rfl, wpAny_pure ⟨_, rfl, fin _ s1.heap.objs.size _ c ys (fun b u e => ?_) g1 p1 z1 hc y1 (y2.trans pl) y3⟩⟩
  have old := k1 b u e
  have lt := Heap.lt_size old
  exact (sortedHeap_old (Nat.ne_of_lt lt) (by rw [size_push']; exact Nat.lt_succ_of_lt lt)).trans (Heap.get?_push_of_some _ old)
end
section
variable {X : Cx}
def rSortedOfA (w : World) : List V → Hp → VK → Prop := fun vs H Q => ∃ (a : Addr) (l : List Str), vs = [V.ref a] ∧ H a = some (SetSO w a l) ∧ l.length ≤ sizeLine ∧ ∀ (ys : List Str) (p : Addr), ys.Perm l → sortedS ys = true → H p = none → Q (.ref p) (upd H p (.lst (ys.map V.str)))
theorem cr_sortedOfA (hc : X.calm = true) : CallR X (.builtin "sorted") (rSortedOfA X.w) := by
  intro pins s σ H vs us Q I r h
  obtain ⟨a, l, rfl, ha, hz, go⟩ := h
  rw [Vals.ref1 r]
  refine sorted_setA (I.hok a _ ha).1 (I.ok.hd hc) hz fun s' p out c ys k g o hp at' st pm so => ?_
  have fr : H p = none := I.hok.fresh hp
  have sz : (ys.map V.str).length ≤ sizeLine := by
    rw [List.length_map, pm.length_eq]
    exact hz
  obtain ⟨h1, g1, d1, t1, o1⟩ := s'
  obtain rfl : o1 = s.os := o
  refine ⟨.ref p, upd H p (.lst (ys.map V.str)), ?_, rfl, go ys p pm so fr⟩
  exact I.call (ch := []) (Un.laid k hp fr) (I.hok.laid k hp ⟨sz, out.toList, c, vals_of_strs st, at'⟩) (by rw [show g1 = s.gens from g]; exact I.bare) (fun _ z => nomatch z)
end
/-- the sorted texts of these -/
def NamesIs (S : List Nat → Prop) (ys : List Str) : Prop := ys.Nodup ∧ sortedS ys = true ∧ ∀ x, x ∈ ys ↔ ∃ l, x = tx l ∧ S l
theorem NamesIs.uniq {S : List Nat → Prop} {a b : List Str} (h1 : NamesIs S a) (h2 : NamesIs S b) : a = b := by
  obtain ⟨a1, a2, a3⟩ := h1
  obtain ⟨b1, b2, b3⟩ := h2
  have p : a.Perm b := (List.perm_ext_iff_of_nodup a1 b1).mpr fun x => (a3 x).trans (b3 x).symm
  have ta : ∀ l : List Str, (l.map (·.cps.toList)).map tx = l := fun l => by
    rw [List.map_map]
    refine (List.map_congr_left fun z _ => ?_).trans (List.map_id l)
    exact (tx_of z).symm
  have := sorted_unique (p.map (·.cps.toList)) (by rw [ta]; exact a2) (by rw [ta]; exact b2)
  have := congrArg (List.map tx) this
  rwa [ta, ta] at this
/-- each once -/
def once : List (List Nat) → List (List Nat)
  | [] => []
  | [x] => [x]
  | x :: y :: r => if x = y then once (y :: r) else x :: once (y :: r)
end U

set_option Elab.async false
set_option linter.all false
set_option maxRecDepth 100000
set_option maxHeartbeats 4000000
namespace K
open PySem PySem.Spec PyProof.Rows L2 U SkE
/-- a part's name that stands in it -/
def PartIn : U.Tm → List Nat → Prop
  | .atom k l, y => k = .part ∧ y = l
  | .n1 _ _ x, y => PartIn x y
  | .n2 _ _ x z, y => PartIn x y ∨ PartIn z y
  | .n3 _ _ x z v, y => PartIn x y ∨ PartIn z y ∨ PartIn v y
def partOf (z : U.Tm) : List (List Nat) := if z.kind = Kd.part.cs then [z.pr] else []
theorem partIn_kid {k x : U.Tm} {y : List Nat} (m : x ∈ k.kids) (h : PartIn x y) : PartIn k y := by
  cases k with
  | atom => simp [U.Tm.kids] at m
  | n1 w b z =>
    simp only [U.Tm.kids, List.mem_singleton] at m
    subst m
    exact h
  | n2 w b z u =>
    simp only [U.Tm.kids, List.mem_cons, List.not_mem_nil, or_false] at m
    rcases m with rfl | rfl
    · exact .inl h
    · exact .inr h
  | n3 w b z u v =>
    simp only [U.Tm.kids, List.mem_cons, List.not_mem_nil, or_false] at m
    rcases m with rfl | rfl | rfl
    · exact .inl h
    · exact .inr (.inl h)
    · exact .inr (.inr h)
theorem wd_part (w : Wd) : w.cs ≠ Kd.part.cs := by cases w <;> decide
theorem partOf_in {z : U.Tm} {y : List Nat} (h : y ∈ partOf z) : PartIn z y := by
  unfold partOf at h
  split at h
  · rename_i e
    cases z with
    | atom k l =>
      have : k = .part := by
        cases k <;> first | rfl | (revert e; simp only [U.Tm.kind]; decide)
      exact ⟨this, List.mem_singleton.mp h⟩
    | n1 w b x => exact absurd e (wd_part w)
    | n2 w b x y => exact absurd e (wd_part w)
    | n3 w b x y z => exact absurd e (wd_part w)
  · simp at h
theorem size_kid {k x : U.Tm} (m : x ∈ k.kids) : x.size < k.size := by
  cases k with
  | atom => simp [U.Tm.kids] at m
  | n1 w b z =>
    simp only [U.Tm.kids, List.mem_singleton] at m
    subst m
    simp only [U.Tm.size]
    omega
  | n2 w b z u =>
    simp only [U.Tm.kids, List.mem_cons, List.not_mem_nil, or_false] at m
    rcases m with rfl | rfl <;> simp only [U.Tm.size] <;> omega
  | n3 w b z u v =>
    simp only [U.Tm.kids, List.mem_cons, List.not_mem_nil, or_false] at m
    rcases m with rfl | rfl | rfl <;> simp only [U.Tm.size] <;> omega
theorem size_le_sizes {z : U.Tm} : ∀ {zs : List U.Tm}, z ∈ zs → z.size ≤ sizes zs
  | [], h => by simp at h
  | x :: zs, h => by
    simp only [sizes, List.map_cons, List.sum_cons]
    rcases List.mem_cons.mp h with rfl | h
    · omega
    · have := size_le_sizes h
      simp only [sizes] at this
      omega
theorem part_up {k : U.Tm} {zs : List U.Tm} {y : List Nat} (hz : zs = k :: zs.flatMap U.Tm.kids) : ∀ (n : Nat) (z : U.Tm), z ∈ zs → sizes zs - z.size ≤ n → PartIn z y → PartIn k y := by
  intro n
  induction n with
  | zero =>
    intro z hm hs hp
    have h1 := size_le_sizes hm
    rw [hz] at hm
    rcases List.mem_cons.mp hm with rfl | hm
    · exact hp
    · obtain ⟨z', h2, h3⟩ := List.mem_flatMap.mp hm
      have h4 := size_kid h3
      have h5 := size_le_sizes h2
      omega
  | succ n ih =>
    intro z hm hs hp
    have h1 := size_le_sizes hm
    have hm' := hm
    rw [hz] at hm'
    rcases List.mem_cons.mp hm' with rfl | hm'
    · exact hp
    · obtain ⟨z', h2, h3⟩ := List.mem_flatMap.mp hm'
      have h4 := size_kid h3
      have h5 := size_le_sizes h2
      exact ih z' h2 (by omega) (partIn_kid h3 hp)
theorem part_down {zs : List U.Tm} {y : List Nat} (hz : ∀ z ∈ zs, ∀ x ∈ z.kids, x ∈ zs) : ∀ z : U.Tm, z ∈ zs → PartIn z y → ∃ u ∈ zs, y ∈ partOf u
  | .atom k l, m, ⟨h1, h2⟩ => ⟨_, m, by subst h1; subst h2; simp [partOf, U.Tm.kind, U.Tm.pr]⟩
  | .n1 w b x, m, h => part_down hz x (hz _ m x (by simp [U.Tm.kids])) h
  | .n2 w b x u, m, h => h.elim (part_down hz x (hz _ m x (by simp [U.Tm.kids]))) (part_down hz u (hz _ m u (by simp [U.Tm.kids])))
  | .n3 w b x u v, m, h => h.elim (part_down hz x (hz _ m x (by simp [U.Tm.kids]))) fun h => h.elim (part_down hz u (hz _ m u (by simp [U.Tm.kids]))) (part_down hz v (hz _ m v (by simp [U.Tm.kids])))
theorem parts_mem {k : U.Tm} {zs : List U.Tm} (hz : zs = k :: zs.flatMap U.Tm.kids) (y : List Nat) : y ∈ zs.flatMap partOf ↔ PartIn k y := by
  rw [List.mem_flatMap]
  constructor
  · rintro ⟨z, h1, h2⟩
    exact part_up hz _ z h1 (Nat.le_refl _) (partOf_in h2)
  · intro h
    refine part_down (fun z hm x hx => ?_) k (by rw [hz]; exact List.mem_cons_self) h
    rw [hz]
    exact List.mem_cons_of_mem _ (List.mem_flatMap.mpr ⟨z, hm, hx⟩)
theorem partOf_len (z : U.Tm) : (partOf z).length ≤ 1 := by
  unfold partOf
  split <;> simp
theorem parts_len : ∀ zs : List U.Tm, (zs.flatMap partOf).length ≤ zs.length
  | [] => Nat.le_refl _
  | z :: zs => by
    have := partOf_len z
    have := parts_len zs
    rw [List.flatMap_cons, List.length_append, List.length_cons]
    omega
def stx (l : List (List Nat)) : List V := l.map fun z => V.str (tx z)
theorem stx_app (a b : List (List Nat)) : stx (a ++ b) = stx a ++ stx b := List.map_append ..
def spTermFree (CT C : Addr) : Sp := fun vs H Q _ => ∃ (k : U.Tm) (p : Addr), vs = [.ref p] ∧ TermAt CT C H k p ∧ k.size ≤ 1000 ∧ ∀ r H' ys, Same H H' → H r = none → H' r = some (.lst (ys.map V.str)) → NamesIs k.Free ys → Q (.ref r) H'
def spTermParts (CT C : Addr) : Sp := fun vs H Q _ => ∃ (k : U.Tm) (p : Addr), vs = [.ref p] ∧ TermAt CT C H k p ∧ k.size ≤ 1000 ∧ ∀ r H' ys, Same H H' → H r = none → H' r = some (.lst (ys.map V.str)) → NamesIs (PartIn k) ys → ys.length ≤ 1000 → Q (.ref r) H'
theorem part_tx : Str.ofString "part" = tx Kd.part.cs := by decide +kernel
section
variable {P : Program} {w : World} {K : PySem.W.Frag} {mg : Str → Option Value} {base : Heap} {dW dB : Addr} {esW : Array DictEntry} {nW : Nat} (T : Txt K mg w dW dB esW nW)
include T
theorem ok_Term_free {f C CT : Addr} {fd : FuncData} (F : Fun K "free_names" "Term.free_names" s_Term_free_names f fd) (MC : TermC K CT) (TC : TreeC K C) : FnOk P w K mg base CX0 1 f fd ["self"] (spTermFree CT C) := by
  refine F.ok sc_Term_free_names (fun vs H Q E h => ?_) (fun cdv A outer s H vs Q E hr h => ?_)
  · obtain ⟨k, p, rfl, _⟩ := h
    rfl
  · obtain ⟨k, p, rfl, ⟨dx, q0, r, qs, zs, h1, h2, h3, h4, h5, h6⟩, hs, q⟩ := h
    obtain ⟨ks, ys, ⟨dxq, tw, tf, cdq, n1, n2, n3, n4⟩, pk⟩ := h2.node
    refine ⟨_, (pss_one (ps_ret (pe_callTy call_list_of (by rfl) T.z_list (by decide +kernel) (pa_cons (pe_fld (pe_fld (pv 0) (by rfl)) (by rfl)) pa_nil)))), ?_⟩
    exact ⟨_, rfl, p, CT, dx, _, _, rfl, h1, MC.cl, MC.nt, mF_tree _ _ _, q0, C, dxq, _, _, rfl, n1, TC.cl, TC.nf, tF_free _ _ _ _ _ _, tf, _, rfl, .inr (.inl (.inl n3)), fun l hl => q l _ ys (same_new hl) hl upd_same n4⟩
theorem ok_Term_parts {f C CT : Addr} {fd : FuncData} (F : Fun K "part_names" "Term.part_names" s_Term_part_names f fd) (MC : TermC K CT) (TC : TreeC K C) : FnOk P w K mg base CX0 1 f fd ["self"] (spTermParts CT C) := by
  refine F.ok sc_Term_part_names (fun vs H Q E h => ?_) (fun cdv A outer s H vs Q E hr h => ?_)
  · obtain ⟨k, p, rfl, _⟩ := h
    rfl
  · obtain ⟨k, p, rfl, ⟨dx, q0, r, qs, zs, h1, h2, h3, h4, h5, h6⟩, hs, q⟩ := h
    have lq := h4.length
    refine ⟨_, (pss_one (ps_ret (pe_callB (cr_sortedOfA rfl) (by rfl) T.z_sorted (by decide +kernel) (pa_cons (pe_callTy (cr_setOf rfl) (by rfl) T.z_set (by decide +kernel) (pa_cons (pe_lc (own := [("tree", 1)]) (g := gName 1) (tt := tTest (tOp rEq (tFld K (tVar 1) "kind") (tC (V.str (Str.ofString "part"))))) (te := tFld K (tVar 1) "text") rfl sc_Term_part_names.nd (pi_list (pe_fld (pv 0) (by rfl))) (blkOk_by (N := nm_Term_part_names) (sc := defScope s_Term_part_names) (by decide +kernel)) (fun _ _ _ _ _ => pg_name (i := 1) sc_Term_part_names.nd rfl (.inl rfl)) (fun _ _ _ _ _ => pts_one (pt_cmpR op_eq (pe_fld (pv 1) (by rfl)) pe_str (nomark _))) (fun _ _ _ _ _ => (pe_fld (pv 1) (by rfl)))) pa_nil)) pa_nil)))), ?_⟩
    refine ⟨_, rfl, p, CT, dx, _, _, rfl, h1, MC.cl, MC.nr, mF_trees _ _ _, r, rfl, ⟨_, .inl (.inl h3)⟩, fun D hD => lc_it (walk_list (xs := qs.map V.ref))
      (fun j H' => Same H H' ∧ H' D = some (.lst (stx ((zs.take j).flatMap partOf)))) ⟨same_new hD, upd_same⟩ (fun j H' _ h => .inl (.inl (h.1 _ _ h3))) ?_ ?_⟩
    · rintro j x H6 H7 hj ⟨s6, d6⟩ ⟨rfl, hx⟩
      rw [List.length_map] at hj
      have hzj : zs[j]? = some (zs[j]'(by omega)) := List.getElem?_eq_getElem (by omega)
      obtain ⟨ri, hr1, hr2⟩ := Paired.at_ h4 hzj
      have ex : x = .ref ri := by
        rw [List.getElem?_map, hr1] at hx
        exact (Option.some.inj hx).symm
      subst ex
      generalize zs[j]'(by omega) = z at hzj hr2
      obtain ⟨ks2, ys2, ⟨dx2, tw2, tf2, cd2, m1, m2, m3, m4⟩, pk2⟩ := (hr2.keep (Keep.of s6)).node
      refine ⟨rfl, _, rfl, ri, C, dx2, _, _, rfl, m1, TC.cl, TC.nk, tF_kind _ _ _ _ _ _, rfl, _, rfl, ?_⟩
      have tk : (zs.take (j + 1)).flatMap partOf = (zs.take j).flatMap partOf ++ partOf z := by
        rw [List.take_add_one, hzj, List.flatMap_append]
        simp
      rw [part_tx, str_eq]
      by_cases hc : z.kind = Kd.part.cs
      · rw [decide_eq_true hc]
        have e1 : partOf z = [z.pr] := by unfold partOf; rw [if_pos hc]
        refine iteT ⟨_, rfl, ri, C, dx2, _, _, rfl, m1, TC.cl, TC.nt, tF_text _ _ _ _ _ _, _, d6, ?_, upd_new hD s6, ?_⟩
        · have := parts_len (zs.take j)
          rw [stx, List.length_map]
          rw [List.length_take] at this
          exact sizeLine_ge (by omega)
        · rw [upd_same, tk, e1, stx_app]
          rfl
      · rw [decide_eq_false hc]
        have e1 : partOf z = [] := by unfold partOf; rw [if_neg hc]
        exact iteF ⟨s6, by rw [d6, tk, e1, List.append_nil]⟩
    · rintro H6 ⟨s6, d6⟩
      rw [List.length_map, lq, List.take_length] at d6
      have pl := parts_len zs
      have d6' : H6 D = some (.lst (((zs.flatMap partOf).map tx).map V.str)) := by rw [d6, List.map_map]; rfl
      refine ⟨D, (zs.flatMap partOf).map tx, rfl, .inl (.inl d6'), ?_, fun a l s1 ll ha => ⟨a, l, rfl, upd_same, ?_, fun ys q5 pm so hq5 => ?_⟩⟩
      · rw [List.length_map]
        exact Nat.lt_of_le_of_lt (show (zs.flatMap partOf).length + 1 ≤ 2000 by omega) (by decide)
      · rw [List.length_map] at ll
        exact sizeLine_ge (by omega)
      have sB := s6.trans ((same_new ha).trans (same_new (o := .lst (ys.map V.str)) hq5))
      have nH : H q5 = none := by
        cases h : H q5 with
        | none => rfl
        | some o => exact absurd (((s6.trans (same_new (o := SetSO w a l) ha)) _ _ h).symm.trans hq5) (by intro z; cases z)
      refine q q5 _ ys sB nH upd_same ⟨pm.nodup_iff.mpr s1.1, so, fun x => ?_⟩ (by have h9 := pm.length_eq; rw [List.length_map] at ll; omega)
      rw [pm.mem_iff, s1.2, List.mem_map]
      constructor
      · rintro ⟨y, hy, rfl⟩
        exact ⟨y, rfl, (parts_mem h5 y).mp hy⟩
      · rintro ⟨y, rfl, hy⟩
        exact ⟨y, (parts_mem h5 y).mpr hy, rfl⟩
end
end K


set_option Elab.async false
set_option linter.all false
set_option maxRecDepth 100000
set_option maxHeartbeats 4000000
namespace K
open PySem PySem.Spec PyProof.Rows L2 U SkE
/-- what stands stays: all but lists, and the lists at these places -/
def KeepG (G : Addr → Prop) (H H' : Hp) : Prop := ∀ a o, H a = some o → (G a ∨ ∀ l, o ≠ .lst l) → H' a = some o
theorem KeepG.of {G : Addr → Prop} {H H' : Hp} (s : Same H H') : KeepG G H H' := fun a o e _ => s a o e
theorem KeepG.keep {G : Addr → Prop} {H H' : Hp} (h : KeepG G H H') : Keep H H' := fun a o e n => h a o e (.inr n)
theorem KeepG.upd {G : Addr → Prop} {H : Hp} {D : Addr} {l : List V} {o : HO} (e : H D = some (.lst l)) (n : ¬ G D) : KeepG G H (upd H D o) := fun a u h g => by
  rw [upd_ne fun z => ?_]
  · exact h
  · rw [z, e] at h
    rcases g with g | g
    · exact n (z ▸ g)
    · exact g l (Option.some.inj h).symm
theorem KeepG.updN {G : Addr → Prop} {H H' : Hp} {D : Addr} {o : HO} (k : KeepG G H H') (e : H D = none) : KeepG G H (L2.upd H' D o) := fun a u h g => by
  rw [upd_ne (ne_of_none h e)]
  exact k a u h g
theorem TermG.keep {G : Addr → Prop} {CT C : Addr} {H H' : Hp} {k : U.Tm} {p : Addr} (h : TermG G CT C H k p) (b : KeepG G H H') : TermG G CT C H' k p := by
  obtain ⟨dx, q, r, qs, zs, g, h1, h2, h3, h4, h5, h6⟩ := h
  exact ⟨dx, q, r, qs, zs, g, b _ _ h1 (.inr (by intro l z; cases z)), h2.keep b.keep, b _ _ h3 (.inl g), Paired.mapP h4 fun q t h => h.keep b.keep, h5, h6⟩
theorem TermG.mono {G G' : Addr → Prop} {CT C : Addr} {H : Hp} {k : U.Tm} {p : Addr} (h : TermG G CT C H k p) (m : ∀ a, G a → G' a) : TermG G' CT C H k p := by
  obtain ⟨dx, q, r, qs, zs, g, h⟩ := h
  exact ⟨dx, q, r, qs, zs, m _ g, h⟩
theorem Fit.kid {k x : U.Tm} {N : List Str} (h : Fit k N) (m : x ∈ k.kids) : Fit x N := by
  obtain ⟨h1, h2, h3, h4, h5, h6⟩ := h
  cases k with
  | atom => simp [U.Tm.kids] at m
  | n1 w b y =>
    simp only [U.Tm.kids, List.mem_singleton] at m
    subst m
    simp only [U.Tm.pr, U.Tm.size, U.Tm.depth, List.length_append, List.length_cons] at h1 h3 h4
    exact ⟨by omega, h2.2.2, by omega, by omega, h5, h6⟩
  | n2 w b y z =>
    simp only [U.Tm.kids, List.mem_cons, List.not_mem_nil, or_false] at m
    simp only [U.Tm.pr, U.Tm.size, U.Tm.depth, List.length_append, List.length_cons] at h1 h3 h4
    rcases m with rfl | rfl
    · exact ⟨by omega, h2.2.2.1, by omega, by omega, h5, h6.1⟩
    · exact ⟨by omega, h2.2.2.2, by omega, by omega, h5, h6.2⟩
  | n3 w b y z u =>
    simp only [U.Tm.kids, List.mem_cons, List.not_mem_nil, or_false] at m
    simp only [U.Tm.pr, U.Tm.size, U.Tm.depth, List.length_append, List.length_cons] at h1 h3 h4
    rcases m with rfl | rfl | rfl
    · exact ⟨by omega, h2.2.2.1, by omega, by omega, h5, h6.1⟩
    · exact ⟨by omega, h2.2.2.2.1, by omega, by omega, h5, h6.2.1⟩
    · exact ⟨by omega, h2.2.2.2.2, by omega, by omega, h5, h6.2.2⟩
def spTermForm (CT C : Addr) : Sp := fun vs H Q _ => ∃ (k : U.Tm) (p : Addr), vs = [.ref p] ∧ TermAt CT C H k p ∧ Q (.str (tx k.kind)) H
def spTermBound (CT C : Addr) : Sp := fun vs H Q _ => ∃ (k : U.Tm) (p : Addr), vs = [.ref p] ∧ TermAt CT C H k p ∧ Q (smV k.small) H
def spTermInner (CT C : Addr) : Sp := fun vs H Q _ => ∃ (k : U.Tm) (N : List Str) (p : Addr), vs = [.ref p] ∧ TermAt CT C H k p ∧ Fit k N ∧
  ∀ r H' ps, Same H H' → H r = none → H' r = some (.lst (ps.map V.ref)) → Paired (fun q k => TermG (fun a => H a = none ∧ a ≠ r) CT C H' k q) ps k.kids → Q (.ref r) H'
theorem kids_len (k : U.Tm) : k.kids.length ≤ 3 := by cases k <;> simp [U.Tm.kids]
section
variable {P : Program} {w : World} {K : PySem.W.Frag} {mg : Str → Option Value} {base : Heap} {dW dB : Addr} {esW : Array DictEntry} {nW : Nat} (T : Txt K mg w dW dB esW nW)
include T
theorem ok_Term_form {f C CT : Addr} {fd : FuncData} (F : Fun K "form" "Term.form" s_Term_form f fd) (MC : TermC K CT) (TC : TreeC K C) : FnOk P w K mg base CX0 1 f fd ["self"] (spTermForm CT C) := by
  refine F.ok sc_Term_form (fun vs H Q E h => ?_) (fun cdv A outer s H vs Q E hr h => ?_)
  · obtain ⟨k, p, rfl, _⟩ := h
    rfl
  · obtain ⟨k, p, rfl, ⟨dx, q0, r, qs, zs, h1, h2, h3, h4, h5, h6⟩, q⟩ := h
    obtain ⟨ks, ys, ⟨dxq, tw, tf, cdq, n1, n2, n3, n4⟩, pk⟩ := h2.node
    refine ⟨_, (pss_one (ps_ret (pe_fld (pe_fld (pv 0) (by rfl)) (by rfl)))), ?_⟩
    exact ⟨_, rfl, p, CT, dx, _, _, rfl, h1, MC.cl, MC.nt, mF_tree _ _ _, q0, C, dxq, _, _, rfl, n1, TC.cl, TC.nk, tF_kind _ _ _ _ _ _, q⟩
theorem ok_Term_bound {f C CT : Addr} {fd : FuncData} (F : Fun K "bound" "Term.bound" s_Term_bound f fd) (MC : TermC K CT) (TC : TreeC K C) : FnOk P w K mg base CX0 1 f fd ["self"] (spTermBound CT C) := by
  refine F.ok sc_Term_bound (fun vs H Q E h => ?_) (fun cdv A outer s H vs Q E hr h => ?_)
  · obtain ⟨k, p, rfl, _⟩ := h
    rfl
  · obtain ⟨k, p, rfl, ⟨dx, q0, r, qs, zs, h1, h2, h3, h4, h5, h6⟩, q⟩ := h
    obtain ⟨ks, ys, ⟨dxq, tw, tf, cdq, n1, n2, n3, n4⟩, pk⟩ := h2.node
    refine ⟨_, (pss_one (ps_ret (pe_fld (pe_fld (pv 0) (by rfl)) (by rfl)))), ?_⟩
    exact ⟨_, rfl, p, CT, dx, _, _, rfl, h1, MC.cl, MC.nt, mF_tree _ _ _, q0, C, dxq, _, _, rfl, n1, TC.cl, TC.ns, tF_small _ _ _ _ _ _, q⟩
theorem ok_Term_inner {f f0 C CT : Addr} {fd fd0 : FuncData} (F : Fun K "inner" "Term.inner" s_Term_inner f fd) (MC : TermC K CT) (TC : TreeC K C) (m_Term : HasC P w K mg base "Term" CT 7 ["self", "text"] (spTermInit CT C) f0 fd0) :
    FnOk P w K mg base CX0 9 f fd ["self"] (spTermInner CT C) := by
  refine F.ok sc_Term_inner (fun vs H Q E h => ?_) (fun cdv A outer s H vs Q E hr h => ?_)
  · obtain ⟨k, N, p, rfl, _⟩ := h
    rfl
  · obtain ⟨k, N, p, rfl, ⟨dx, q0, r, qs, zs, h1, h2, h3, h4, h5, h6⟩, fit, q⟩ := h
    obtain ⟨ks, ys, ⟨dxq, tw, tf, cdq, n1, n2, n3, n4⟩, pk⟩ := h2.node
    have pkl := pk.length
    have kl := kids_len k
    refine ⟨_, (pss_one (ps_ret (pe_lc (own := [("tree", 1)]) (g := gName 1) (tt := tYes) (te := tMake CT (spTermInit CT C) [] E0 (tCons (tFld K (tVar 1) "text") tNil)) rfl sc_Term_inner.nd (pi_tup (pe_fld (pe_fld (pv 0) (by rfl)) (by rfl))) (blkOk_by (N := nm_Term_inner) (sc := defScope s_Term_inner) (by decide +kernel)) (fun _ _ _ _ _ => pg_name (i := 1) sc_Term_inner.nd rfl (.inl rfl)) (fun _ _ _ _ _ => pts_nil) (fun _ _ _ _ _ => (pe_makeH m_Term (hr.mono (by first | decide | omega)) (by rfl) (pa_cons (pe_fld (pv 1) (by rfl)) pa_nil)))))), ?_⟩
    refine ⟨_, rfl, p, CT, dx, _, _, rfl, h1, MC.cl, MC.nt, mF_tree _ _ _, q0, C, dxq, _, _, rfl, n1, TC.cl, TC.nw, tF_within _ _ _ _ _ _, tw, rfl, ⟨_, .inl (.inl n2)⟩, fun D hD => ?_⟩
    refine lc_do (walk_tup (xs := ks.map V.ref)) (fun i H' => Same H H' ∧ ∃ ps : List Addr, H' D = some (.lst (ps.map V.ref)) ∧ ps.length = i ∧ Paired (fun q k => TermG (fun a => H a = none ∧ a ≠ D) CT C H' k q) ps (k.kids.take i)) (fun _ => rfl) ⟨same_new hD, [], upd_same, rfl, by rw [List.take_zero]; exact .nil⟩ (fun i H' _ h => .inl (.inl (h.1 _ _ n2))) ?_ ?_
    · rintro i x H1 H2 hi ⟨s1, ps, eD, pl, pp⟩ ⟨rfl, hx⟩
      rw [List.length_map] at hi
      have hki : k.kids[i]? = some (k.kids[i]'(by omega)) := List.getElem?_eq_getElem (by omega)
      obtain ⟨ri, hr1, hr2⟩ := Paired.at_ pk hki
      have ex : x = .ref ri := by
        rw [List.getElem?_map, hr1] at hx
        exact (Option.some.inj hx).symm
      subst ex
      have hmem : k.kids[i]'(by omega) ∈ k.kids := List.getElem_mem _
      generalize k.kids[i]'(by omega) = z at hki hr2 hmem
      have tk : k.kids.take (i + 1) = k.kids.take i ++ [z] := by
        rw [List.take_add_one, hki]
        rfl
      have fz := fit.kid hmem
      obtain ⟨ks2, ys2, ⟨dx2, tw2, tf2, cd2, m1, m2, m3, m4⟩, pk2⟩ := (hr2.keep (Keep.of s1)).node
      refine ⟨_, rfl, ri, C, dx2, _, _, rfl, m1, TC.cl, TC.nt, tF_text _ _ _ _ _ _, fun a dy ha hdy nxa => ⟨z, N, a, dy, rfl, fz, upd_same, fun H3 b3 t3 => ⟨rfl, ?_⟩⟩⟩
      have s3 : Same H2 H3 := But.sameN b3 ((same_new hdy).trans (same_new (by rw [upd_ne (Ne.symm nxa)]; exact ha))) ha
      have eD3 := s3 _ _ eD
      have back : ∀ x, H2 x = none → H x = none := fun x e => by
        cases h : H x with
        | none => rfl
        | some o => rw [s1 _ _ h] at e; cases e
      have t3' : TermG (fun a => H a = none ∧ a ≠ D) CT C H3 z a := t3.mono fun x e => by
        have e2 : H2 x = none := by
          cases h : H2 x with
          | none => rfl
          | some o =>
            have s : Same H2 (upd (upd H2 dy (.own a)) a (.ins CT dy [])) := (same_new hdy).trans (same_new (by rw [upd_ne (Ne.symm nxa)]; exact ha))
            rw [s _ _ h] at e
            cases e
        exact ⟨back x e2, fun z => by rw [z, eD] at e2; cases e2⟩
      have kG : KeepG (fun a => H a = none ∧ a ≠ D) H3 (upd H3 D (.lst (ps.map V.ref ++ [.ref a]))) := KeepG.upd eD3 fun h => h.2 rfl
      refine ⟨_, eD3, by rw [List.length_map]; exact sizeLine_ge (by omega), upd_new hD (s1.trans s3), ps ++ [a], by rw [upd_same, List.map_append]; rfl, by rw [List.length_append, pl]; rfl, ?_⟩
      rw [tk]
      exact Paired.app (Paired.mapP pp fun q k h => (h.keep (KeepG.of s3)).keep kG) (.cons (t3'.keep kG) .nil)
    · rintro H1 ⟨s1, ps, eD, pl, pp⟩
      rw [List.length_map, pkl, List.take_length] at pp
      exact q D H1 ps s1 hD eD pp
end
end K


set_option Elab.async false
set_option linter.all false
set_option maxRecDepth 100000
set_option maxHeartbeats 4000000
namespace K
open PySem PySem.Spec PyProof.Rows L2 U SkE
structure HasM (P : Program) (w : World) (K : PySem.W.Frag) (mg : Str → Option Value) (base : Heap) (C : Addr) (m : Str) (k : Nat) (ps : List Str) (sp : Sp) (f : Addr) (fd : FuncData) : Prop where
  at_ : PySem.W.findIn K (.ref C) m = some (some (.ref f))
  fn : PySem.W.isFn K (.ref f) = true
  bi : Binds K fd ps []
  ok : FnOk P w K mg base CX0 k f fd ps sp
structure HasT (P : Program) (w : World) (K : PySem.W.Frag) (mg : Str → Option Value) (base : Heap) (C : Addr) (m : Str) (k : Nat) (ps : List Str) (sp : Sp) (f : Addr) (fd : FuncData) : Prop where
  me : Meth K C m f
  bi : Binds K fd ps []
  ok : FnOk P w K mg base CX0 k f fd ps sp
theorem TermAt.some {CT C : Addr} {H : Hp} {k : U.Tm} {p : Addr} (h : TermAt CT C H k p) : ∃ dx q r, H p = some (.ins CT dx (termF (.ref q) (.str (tx k.pr)) (.ref r))) := by
  obtain ⟨dx, q, r, qs, zs, h1, _⟩ := h
  exact ⟨dx, _, _, h1⟩
theorem mF_no {t s r : V} {m : Str} (h1 : ¬ (m = "_trees")) (h2 : ¬ (m = "_text")) (h3 : ¬ (m = "_tree")) : (termF t s r).lookup m = none := by
  unfold termF
  rw [lookup_putF, if_neg h1, lookup_putF, if_neg h2, lookup_putF, if_neg h3]
  rfl
theorem smV_scal (x : Option (List Nat)) : scal (smV x) (smV x) = true := by cases x <;> rfl
theorem name_tx : Str.ofString "name" = tx Kd.name.cs := by decide +kernel
theorem part_law {k : U.Tm} {y : List Nat} : (y ∈ partOf k ∨ ∃ x ∈ k.kids, PartIn x y) ↔ PartIn k y := by
  constructor
  · rintro (h | ⟨x, hx, h⟩)
    · exact partOf_in h
    · exact partIn_kid hx h
  · intro h
    cases k with
    | atom kd l =>
      obtain ⟨rfl, rfl⟩ := h
      exact .inl (by simp [partOf, U.Tm.kind, U.Tm.pr])
    | n1 w b x => exact .inr ⟨x, by simp [U.Tm.kids], h⟩
    | n2 w b x z => exact .inr (h.elim (fun h => ⟨x, by simp [U.Tm.kids], h⟩) fun h => ⟨z, by simp [U.Tm.kids], h⟩)
    | n3 w b x z v => exact .inr (h.elim (fun h => ⟨x, by simp [U.Tm.kids], h⟩) fun h => h.elim (fun h => ⟨z, by simp [U.Tm.kids], h⟩) fun h => ⟨v, by simp [U.Tm.kids], h⟩)
theorem atom_name {k : U.Tm} (h : k.kind = Kd.name.cs) : ∃ l, k = .atom .name l := by
  have wn : ∀ w : Wd, w.cs ≠ Kd.name.cs := fun w => by cases w <;> decide
  cases k with
  | atom kd l => cases kd <;> first | exact ⟨l, rfl⟩ | (exfalso; revert h; simp only [U.Tm.kind]; decide)
  | n1 w b x => exact absurd h (wn w)
  | n2 w b x y => exact absurd h (wn w)
  | n3 w b x y z => exact absurd h (wn w)
theorem free_asc : ∀ {k : U.Tm} {y : List Nat}, k.Ok → k.Free y → AL y
  | .atom kd l, y, ok, ⟨h1, h2⟩ => by
    subst h1
    subst h2
    exact fun c hc => asc_smalls c ((show SmallOk y from ok).2.2 c hc)
  | .n1 w b x, y, ok, h => free_asc ok.2.2 h.1
  | .n2 w b x z, y, ok, h => h.elim (free_asc ok.2.2.1) fun h => free_asc ok.2.2.2 h.1
  | .n3 w b x z v, y, ok, h => h.elim (free_asc ok.2.2.1) fun h => h.elim (free_asc ok.2.2.2.1) fun h => free_asc ok.2.2.2.2 h.1
theorem part_asc : ∀ {k : U.Tm} {y : List Nat}, k.Ok → PartIn k y → AL y
  | .atom kd l, y, ok, ⟨h1, h2⟩ => by
    subst h1
    subst h2
    exact fun c hc => asc_greats c ((show GreatOk y from ok).2.2 c hc)
  | .n1 w b x, y, ok, h => part_asc ok.2.2 h
  | .n2 w b x z, y, ok, h => h.elim (part_asc ok.2.2.1) (part_asc ok.2.2.2)
  | .n3 w b x z v, y, ok, h => h.elim (part_asc ok.2.2.1) fun h => h.elim (part_asc ok.2.2.2.1) (part_asc ok.2.2.2.2)
theorem names_asc {S : List Nat → Prop} {ys : List Str} (h : NamesIs S ys) (ha : ∀ y, S y → AL y) : ∀ x ∈ ys, Asc x := fun x hx => by
  obtain ⟨l, rfl, hl⟩ := (h.2.2 x).mp hx
  exact Asc.tx (ha l hl)
theorem names_iff {S S' : List Nat → Prop} {ys : List Str} (h : NamesIs S ys) (e : ∀ y, S y ↔ S' y) : NamesIs S' ys := by
  refine ⟨h.1, h.2.1, fun x => (h.2.2 x).trans ⟨fun ⟨l, h1, h2⟩ => ⟨l, h1, (e l).mp h2⟩, fun ⟨l, h1, h2⟩ => ⟨l, h1, (e l).mpr h2⟩⟩⟩
theorem sv_flat (bs : List Str) : (bs.map V.str).all flatV = true := by
  rw [List.all_eq_true]
  intro x hx
  obtain ⟨y, _, rfl⟩ := List.mem_map.mp hx
  rfl
theorem sv_in (y : Str) (bs : List Str) : inV (V.str y) (bs.map V.str) = decide (y ∈ bs) := by
  induction bs with
  | nil => rfl
  | cons b bs ih =>
    show (eqV (V.str b) (V.str y) || inV (V.str y) (bs.map V.str)) = _
    rw [ih]
    have e : eqV (V.str b) (V.str y) = decide (y = b) := by
      show (b == y) = _
      rw [Bool.eq_iff_iff]
      simp
      exact eq_comm
    rw [e, Bool.eq_iff_iff]
    simp
/-- whether let or def -/
theorem kbd {k : U.Tm} (ok : k.Ok) : ∃ β : Bool, inV (V.str (tx k.kind)) [.str (Str.ofString "let"), .str (Str.ofString "def")] = β ∧ (β = true → ∃ w b ks, View k w b ks ∧ w.bd = true) ∧ (β = false → k.small = none) := by
  rcases view ok with ⟨kd, l, rfl, _⟩ | ⟨w, b, ks, v⟩
  · refine ⟨false, ?_, (fun h => (by cases h)), fun _ => rfl⟩
    cases kd <;> (simp only [U.Tm.kind]; decide +kernel)
  · refine ⟨w.bd, ?_, fun h => ⟨w, b, ks, v, h⟩, fun h => ?_⟩
    · rw [v.kind]
      exact bind_in w
    · rw [v.small]
      unfold sm
      rw [h]
      rfl
def spUnion : Sp := fun vs H Q _ => ∃ (a : Addr) (as : List Addr) (rows : List (List Str)), vs = [.ref a] ∧ H a = some (.lst (as.map V.ref)) ∧ Paired (fun a r => H a = some (.lst (r.map V.str))) as rows ∧ (∀ r ∈ rows, r.Nodup) ∧ (rows.map List.length).sum ≤ 9000 ∧
  ∀ q H' ys, Same H H' → H' q = some (.lst (ys.map V.str)) → NamesIs (fun y => ∃ r ∈ rows, tx y ∈ r) ys → Q (.ref q) H'
def spNR (CT C : Addr) : Sp := fun vs H Q _ => ∃ (k : U.Tm) (N : List Str) (p ai : Addr) (ps : List Addr), vs = [.ref p, .ref ai] ∧ TermAt CT C H k p ∧ Fit k N ∧ H ai = some (.lst (ps.map V.ref)) ∧ Paired (fun q x => TermAt CT C H x q) ps k.kids ∧ ∀ H', Same H H' → Q (.bl true) H'
section
variable {P : Program} {w : World} {K : PySem.W.Frag} {mg : Str → Option Value} {base : Heap} {dW dB : Addr} {esW : Array DictEntry} {nW : Nat} (T : Txt K mg w dW dB esW nW)
include T
theorem ok__law_union {f : Addr} {fd : FuncData} (F : Fun K "_law_union" "_law_union" s__law_union f fd) : FnOk P w K mg base CX0 1 f fd ["_law_rows"] spUnion := by
  refine F.ok sc__law_union (fun vs H Q E h => ?_) (fun cdv A outer s H vs Q E hr h => ?_)
  · obtain ⟨a, as, rows, rfl, _⟩ := h
    rfl
  · obtain ⟨a, as, rows, rfl, ea, pr, nd, hsum, q⟩ := h
    refine ⟨_, (pss_cons (ps_set (i := 1) sc__law_union.nd rfl (.inr rfl) (pe_lst pa_nil))
      (pss_cons (ps_for PassesOwn.never rfl (pi_list (pv 0)) (pg_name (i := 2) sc__law_union.nd rfl (.inl rfl)) 
        (pss_one (ps_expr (pe_bm PySem.F.plainAttrs_list PySem.F.slot_list_extend PySem.F.type_list_extend mt_extend (pv 1) (pa_cons (pe_lc (own := [("_law_name", 3)]) (g := gName 3) (tt := tTest (tOp (rIn K true) (tVar 3) (tVar 1))) rfl sc__law_union.nd (pi_list (pv 2)) (blkOk_by (N := nm__law_union) (sc := defScope s__law_union) (by decide +kernel)) (fun _ _ _ _ _ => pg_name (i := 3) sc__law_union.nd rfl (.inl rfl)) (fun _ _ _ _ _ => pts_one (pt_cmpR op_notIn_seq (pv 3) (pv 1) (by rfl))) (fun _ _ _ _ _ => (pv 3))) pa_nil)))))
      (pss_one (ps_ret (pe_callB cr_sortedA (by rfl) T.z_sorted (by decide +kernel) (pa_cons (pv 1) pa_nil)))))), ?_⟩
    have lp := pr.length
    refine ⟨sizeLine_ge (by show 0 ≤ 10000; decide), fun aF hF => ?_⟩
    have s0 : Same H (upd H aF (.lst [])) := same_new hF
    have sums : ∀ i, ((rows.take i).map List.length).sum ≤ (rows.map List.length).sum := fun i => by
      have h : rows = rows.take i ++ rows.drop i := (List.take_append_drop i rows).symm
      have h2 : (rows.map List.length).sum = ((rows.take i).map List.length).sum + ((rows.drop i).map List.length).sum := by
        conv => lhs; rw [h]
        rw [List.map_append, List.sum_append]
      omega
    refine ⟨_, rfl, a, rfl, ⟨_, .inl (.inl (s0 _ _ ea))⟩, for_it (walk_list (xs := as.map V.ref)) (fun i σ H' => Same H H' ∧ ∃ (fs : List Str) (x2 x3 : Option V), σ = [some (.ref a), some (.ref aF), x2, x3] ∧ H' aF = some (.lst (fs.map V.str)) ∧ fs.Nodup ∧ (∀ x, x ∈ fs ↔ ∃ r ∈ rows.take i, x ∈ r) ∧ fs.length ≤ ((rows.take i).map List.length).sum)
      ⟨s0, [], _, _, rfl, upd_same, .nil, fun x => by simp, Nat.zero_le _⟩ (fun i σ H' _ h => .inl (.inl (h.1 _ _ ea))) ?_ ?_⟩
    · rintro i x σ H1 H2 hi ⟨s1, fs, x2, x3, rfl, eF, nf, mem, hl⟩ ⟨rfl, hx⟩
      rw [List.length_map] at hi
      have hri : rows[i]? = some (rows[i]'(by omega)) := List.getElem?_eq_getElem (by omega)
      obtain ⟨ri, hr1, hr2⟩ := Paired.at_ pr hri
      have ex : x = .ref ri := by
        rw [List.getElem?_map, hr1] at hx
        exact (Option.some.inj hx).symm
      subst ex
      have hmem : rows[i]'(by omega) ∈ rows := List.getElem_mem _
      generalize rows[i]'(by omega) = r at hri hr2 hmem
      have ndr := nd r hmem
      have tk : rows.take (i + 1) = rows.take i ++ [r] := by
        rw [List.take_add_one, hri]
        rfl
      have sm1 := sums (i + 1)
      rw [tk, List.map_append, List.sum_append] at sm1
      have e1r : ([r].map List.length).sum = r.length := by simp
      refine ⟨_, rfl, .inl ⟨rfl, _, .inl (.inl eF)⟩, _, rfl, ri, rfl, ⟨_, .inl (.inl (s1 _ _ hr2))⟩, fun D hD => lc_it (walk_list (xs := r.map V.str))
        (fun j H' => Same H2 H' ∧ H' D = some (.lst (((r.take j).filter fun x => !decide (x ∈ fs)).map V.str))) ⟨same_new hD, upd_same⟩ (fun j H' _ h => .inl (.inl (h.1 _ _ (s1 _ _ hr2)))) ?_ ?_⟩
      · rintro j x H6 H7 hj ⟨s6, d6⟩ ⟨rfl, hx⟩
        rw [List.length_map] at hj
        have hy : x = .str r[j] := by
          rw [List.getElem?_map, List.getElem?_eq_getElem hj] at hx
          exact (Option.some.inj hx).symm
        subst hy
        refine ⟨rfl, _, rfl, _, rfl, aF, _, rfl, .inl (.inl (.inl (s6 _ _ eF))), rfl, sv_flat fs, _, rfl, ?_⟩
        rw [show (if true = true then !inV (V.str r[j]) (fs.map V.str) else inV (V.str r[j]) (fs.map V.str)) = !decide (r[j] ∈ fs) by rw [if_pos rfl, sv_in]]
        have tk2 : (r.take (j + 1)).filter (fun y => !decide (y ∈ fs)) = (r.take j).filter (fun y => !decide (y ∈ fs)) ++ (if !decide (r[j] ∈ fs) then [r[j]] else []) := by
          rw [List.take_add_one, List.getElem?_eq_getElem hj, List.filter_append]
          simp [List.filter_cons]
        by_cases hc : r[j] ∈ fs
        · rw [decide_eq_true hc] at tk2 ⊢
          refine iteF ⟨s6, ?_⟩
          rw [tk2, d6]
          simp
        · rw [decide_eq_false hc] at tk2 ⊢
          refine iteT ⟨_, rfl, _, d6, ?_, upd_new hD s6, ?_⟩
          · have h3 := ((List.take_sublist j r).filter fun y => !decide (y ∈ fs)).length_le
            have h4 := List.length_filter_le (fun y => !decide (y ∈ fs)) r
            rw [List.length_map]
            exact sizeLine_ge (by omega)
          · rw [upd_same, tk2]
            simp
      · rintro H6 ⟨s6, d6⟩
        rw [List.length_map, List.take_length] at d6
        have h4 := List.length_filter_le (fun y => !decide (y ∈ fs)) r
        refine ⟨aF, D, _, _, rfl, rfl, s6 _ _ eF, d6, ?_, upd_new hF (s1.trans s6), fs ++ r.filter (fun x => !decide (x ∈ fs)), _, _, rfl, by rw [upd_same, List.map_append], ?_, fun x => ?_, ?_⟩
        · rw [List.length_map, List.length_map]
          exact sizeLine_ge (by omega)
        · refine List.nodup_append.mpr ⟨nf, ndr.filter _, fun x hx y hy e => ?_⟩
          have := (List.mem_filter.mp hy).2
          rw [← e] at this
          simp [hx] at this
        · rw [List.mem_append, mem, List.mem_filter, tk]
          constructor
          · rintro (⟨r', h1, h2⟩ | ⟨h1, h2⟩)
            · exact ⟨r', List.mem_append_left _ h1, h2⟩
            · exact ⟨r, List.mem_append_right _ List.mem_cons_self, h1⟩
          · rintro ⟨r', h1, h2⟩
            rcases List.mem_append.mp h1 with h1 | h1
            · exact .inl ⟨r', h1, h2⟩
            · rw [List.mem_singleton.mp h1] at h2
              by_cases hf : x ∈ fs
              · exact .inl ((mem x).mp hf)
              · exact .inr ⟨h2, by simp [hf]⟩
        · rw [List.length_append, tk, List.map_append, List.sum_append]
          omega
    · rintro σ H1 ⟨s1, fs, x2, x3, rfl, eF, nf, mem, hl⟩
      rw [List.length_map, lp, List.take_length] at mem hl
      refine ⟨_, rfl, aF, fs, rfl, .inl (.inl (.inl eF)), fun ys p pm so hp => q p _ ys (s1.trans (same_new hp)) upd_same ⟨pm.nodup_iff.mpr nf, so, fun x => ?_⟩⟩
      rw [pm.mem_iff, mem]
      constructor
      · exact fun h => ⟨x.cps.toList, tx_of x, by show ∃ r ∈ rows, tx x.cps.toList ∈ r; rw [← tx_of x]; exact h⟩
      · rintro ⟨l, rfl, h⟩
        exact h
end
end K


set_option Elab.async false
set_option linter.all false
set_option maxRecDepth 100000
set_option maxHeartbeats 4000000
namespace K
open PySem PySem.Spec PyProof.Rows L2 U SkE
theorem sum_le_of {frs : List (List Str)} {m : Nat} (h : ∀ r ∈ frs, r.length ≤ m) : (frs.map List.length).sum ≤ frs.length * m := by
  induction frs with
  | nil => simp
  | cons x r ih =>
    rw [List.map_cons, List.sum_cons, List.length_cons, Nat.succ_mul]
    have h1 := h x List.mem_cons_self
    have h2 := ih fun k hk => h k (List.mem_cons_of_mem _ hk)
    omega
theorem free_few {k : U.Tm} {N : List Str} {ys : List Str} (fit : Fit k N) (h : NamesIs k.Free ys) : ys.length ≤ N.length :=
  nodup_sub ys N h.1 fun x hx => by
    obtain ⟨l, rfl, hl⟩ := (h.2.2 x).mp hx
    exact Tm.Free.in_names hl fit.names
theorem paired_mem {α β : Type} {F : α → β → Prop} : ∀ {a : List α} {b : List β} {x : α}, Paired F a b → x ∈ a → ∃ y ∈ b, F x y
  | _, _, _, .nil, h => by simp at h
  | _, _, _, .cons h p, hx => by
    rcases List.mem_cons.mp hx with rfl | hx
    · exact ⟨_, List.mem_cons_self, h⟩
    · obtain ⟨y, hy, h⟩ := paired_mem p hx
      exact ⟨y, List.mem_cons_of_mem _ hy, h⟩
theorem paired_mem2 {α β : Type} {F : α → β → Prop} : ∀ {a : List α} {b : List β} {y : β}, Paired F a b → y ∈ b → ∃ x ∈ a, F x y
  | _, _, _, .nil, h => by simp at h
  | _, _, _, .cons h p, hx => by
    rcases List.mem_cons.mp hx with rfl | hx
    · exact ⟨_, List.mem_cons_self, h⟩
    · obtain ⟨y, hy, h⟩ := paired_mem2 p hx
      exact ⟨y, List.mem_cons_of_mem _ hy, h⟩
theorem paired_last {α β : Type} {F : α → β → Prop} {a : List α} {b : List β} {y : β} (h : Paired F a (b ++ [y])) : ∃ a0 x, a = a0 ++ [x] ∧ Paired F a0 b ∧ F x y := by
  induction b generalizing a with
  | nil =>
    cases h with
    | cons h1 h2 =>
      cases h2
      exact ⟨[], _, rfl, .nil, h1⟩
  | cons z b ih =>
    cases h with
    | cons h1 h2 =>
      obtain ⟨a0, x, rfl, p, f⟩ := ih h2
      exact ⟨_ :: a0, x, rfl, .cons h1 p, f⟩
/-- the rows at D -/
def RowsAt (H : Hp) (D : Addr) (rows : List (List Str)) : Prop := ∃ as : List Addr, H D = some (.lst (as.map V.ref)) ∧ Paired (fun a r => H a = some (.lst (r.map V.str))) as rows
theorem RowsAt.same {H H' : Hp} {D : Addr} {rows : List (List Str)} (h : RowsAt H D rows) (s : Same H H') : RowsAt H' D rows := by
  obtain ⟨as, h1, h2⟩ := h
  exact ⟨as, s _ _ h1, Paired.mapP h2 fun a r h => s _ _ h⟩
theorem rep1 (n : Int) (x : V) (h : n = 0 ∨ n = 1) : (List.replicate n.toNat [x]).flatten = if n = 1 then [x] else [] := by
  rcases h with rfl | rfl <;> rfl
section
variable {P : Program} {w : World} {K : PySem.W.Frag} {mg : Str → Option Value} {base : Heap} {dW dB : Addr} {esW : Array DictEntry} {nW : Nat} (T : Txt K mg w dW dB esW nW)
include T
theorem ok__law_names_right {f f0 f1 f2 f3 f4 f5 C CT : Addr} {fd fd0 fd1 fd2 fd3 fd4 fd5 : FuncData} (F : Fun K "_law_names_right" "_law_names_right" s__law_names_right f fd) (hCl : Cls K CT)
    (hFr : HasT P w K mg base CT "free_names" 1 ["self"] (spTermFree CT C) f0 fd0) (hPa : HasT P w K mg base CT "part_names" 1 ["self"] (spTermParts CT C) f1 fd1) (hFo : HasT P w K mg base CT "form" 1 ["self"] (spTermForm CT C) f2 fd2) (hBo : HasT P w K mg base CT "bound" 1 ["self"] (spTermBound CT C) f3 fd3)
    (hS : HasM P w K mg base CT "__str__" 1 ["self"] (spTermStr CT C) f4 fd4) (h__law_union : Has P w K mg base "_law_union" 1 ["_law_rows"] spUnion f5 fd5) :
    FnOk P w K mg base CX0 5 f fd ["_law_term", "_law_inner"] (spNR CT C) := by
  refine F.ok sc__law_names_right (fun vs H Q E h => ?_) (fun cdv A outer s H vs Q E hr h => ?_)
  · obtain ⟨k, N, p, ai, ps, rfl, _⟩ := h
    rfl
  · obtain ⟨k, N, p, ai, ps, rfl, A, fit, ei, pk, q⟩ := h
    refine ⟨_, (pss_cons (ps_setLc (i := 2) (own := [("_law_one", 4)]) (g := gName 4) (tt := tYes) (te := tMeth CT "free_names" (spTermFree CT C) [] E0 (tVar 4) tNil) rfl sc__law_names_right.nd rfl rfl (sw_true rfl rfl rfl rfl) (pi_list (pv 1)) (blkOk_by (N := nm__law_names_right) (sc := defScope s__law_names_right) (by decide +kernel)) (fun _ _ _ _ _ => pg_name (i := 4) sc__law_names_right.nd rfl (.inl rfl)) (fun _ _ _ _ _ => pts_nil) (fun _ _ _ _ _ => (pe_meth0 (pv 4) hCl hFr.me hFr.ok (hr.mono (by first | decide | omega)) hFr.bi .nil pass0)))
      (Evl.pss_cut (ps_if (pt_cmpR op_in_seq (pe_meth0 (pv 0) hCl hFo.me hFo.ok (hr.mono (by first | decide | omega)) hFo.bi .nil pass0) (pe_tup (pa_cons pe_str (pa_cons pe_str pa_nil))) (by rfl)) 
        (pss_one (ps_asg (pe_lc (own := [("_law_name", 5)]) (g := gName 5) (tt := tTest (tOp rNe (tVar 5) (tMeth CT "bound" (spTermBound CT C) [] E0 (tVar 0) tNil))) rfl sc__law_names_right.nd (pi_list (pe_ix ix_list (pv 2) (pe_un un_neg pe_int) (fun _ _ => rfl))) (blkOk_by (N := nm__law_names_right) (sc := defScope s__law_names_right) (by decide +kernel)) (fun _ _ _ _ _ => pg_name (i := 5) sc__law_names_right.nd rfl (.inl rfl)) (fun _ _ _ _ _ => pts_one (pt_cmpR op_ne (pv 5) (pe_meth0 (pv 0) hCl hBo.me hBo.ok (hr.mono (by first | decide | omega)) hBo.bi .nil pass0) (nomark _))) (fun _ _ _ _ _ => (pv 5))) (pg_sub (pv 2) (pe_un un_neg pe_int) set_list))) pss_nil)
      (Evl.pss_cut (ps_if (pt_cmpR op_eq (pe_meth0 (pv 0) hCl hFo.me hFo.ok (hr.mono (by first | decide | omega)) hFo.bi .nil pass0) pe_str (nomark _)) 
        (pss_one (ps_set (i := 2) sc__law_names_right.nd rfl (.inl rfl) (pe_lst (pa_cons (pe_lst (pa_cons (pe_callTy (call_strOwn hS.ok hS.bi pass0 hS.at_ hS.fn (hr.mono (by first | decide | omega))) (by rfl) T.z_str (by decide +kernel) (pa_cons (pv 0) pa_nil)) pa_nil)) pa_nil)))) pss_nil)
      (pss_cons (ps_set (i := 3) sc__law_names_right.nd rfl (.inl rfl) (pe_op op_cat (pe_lc (own := [("_law_one", 4)]) (g := gName 4) (tt := tYes) (te := tMeth CT "part_names" (spTermParts CT C) [] E0 (tVar 4) tNil) rfl sc__law_names_right.nd (pi_list (pv 1)) (blkOk_by (N := nm__law_names_right) (sc := defScope s__law_names_right) (by decide +kernel)) (fun _ _ _ _ _ => pg_name (i := 4) sc__law_names_right.nd rfl (.inl rfl)) (fun _ _ _ _ _ => pts_nil) (fun _ _ _ _ _ => (pe_meth0 (pv 4) hCl hPa.me hPa.ok (hr.mono (by first | decide | omega)) hPa.bi .nil pass0))) (pe_op op_rep (pe_lst (pa_cons (pe_lst (pa_cons (pe_callTy (call_strOwn hS.ok hS.bi pass0 hS.at_ hS.fn (hr.mono (by first | decide | omega))) (by rfl) T.z_str (by decide +kernel) (pa_cons (pv 0) pa_nil)) pa_nil)) pa_nil)) (pe_callTy call_int1 (by rfl) T.z_int (by decide +kernel) (pa_cons (pe_cmpR op_eq (pe_meth0 (pv 0) hCl hFo.me hFo.ok (hr.mono (by first | decide | omega)) hFo.bi .nil pass0) pe_str (nomark _)) pa_nil)))))
      (pss_one (ps_ret (pe_and (pe_cmpR (op_eqD hr.units) (pe_meth0 (pv 0) hCl hFr.me hFr.ok (hr.mono (by first | decide | omega)) hFr.bi .nil pass0) (pe_callH h__law_union (hr.mono (by first | decide | omega)) (by rfl) (pa_cons (pv 2) pa_nil)) (nomark _)) (pe_one (pe_cmpR (op_eqD hr.units) (pe_meth0 (pv 0) hCl hPa.me hPa.ok (hr.mono (by first | decide | omega)) hPa.bi .nil pass0) (pe_callH h__law_union (hr.mono (by first | decide | omega)) (by rfl) (pa_cons (pv 3) pa_nil)) (nomark _)))))))))), ?_⟩
    have lq := pk.length
    have kl := kids_len k
    have fsz := fit.size
    have few := fit.few
    obtain ⟨dx, t1, r1, ea⟩ := A.some
    -- the free names of the inner ones
    refine ⟨_, rfl, ai, rfl, ⟨_, .inl (.inl ei)⟩, fun D hD => lc_do (walk_list (xs := ps.map V.ref)) (fun i H' => Same H H' ∧ ∃ (as : List Addr) (frs : List (List Str)), H' D = some (.lst (as.map V.ref)) ∧ as.length = i ∧ Paired (fun a r => H' a = some (.lst (r.map V.str)) ∧ a ≠ D) as frs ∧ Paired (fun fr x => FreeIs x fr) frs (k.kids.take i)) (fun _ => rfl) ⟨same_new hD, [], [], upd_same, rfl, .nil, .nil⟩ (fun i H' _ h => .inl (.inl (h.1 _ _ ei))) ?_ ?_⟩
    · rintro i x H1 H2 hi ⟨s1, as, frs, eD, la, pa, pf⟩ ⟨rfl, hx⟩
      rw [List.length_map] at hi
      have hki : k.kids[i]? = some (k.kids[i]'(by omega)) := List.getElem?_eq_getElem (by omega)
      obtain ⟨ri, hr1, hr2⟩ := Paired.at_ pk hki
      have ex : x = .ref ri := by
        rw [List.getElem?_map, hr1] at hx
        exact (Option.some.inj hx).symm
      subst ex
      have hmem : k.kids[i]'(by omega) ∈ k.kids := List.getElem_mem _
      generalize k.kids[i]'(by omega) = z at hki hr2 hmem
      have tk : k.kids.take (i + 1) = k.kids.take i ++ [z] := by
        rw [List.take_add_one, hki]
        rfl
      have fz := fit.kid hmem
      have fzs := fz.size
      have A1 := hr2.same s1
      obtain ⟨dz, tz, rz, ez⟩ := A1.some
      refine ⟨_, rfl, ri, dz, _, rfl, ez, mF_no (by decide) (by decide) (by decide), z, ri, rfl, A1, by omega, fun r H3 ys s3 n3 e3 nm => ⟨_, s3 _ _ eD, by rw [List.length_map, la]; exact sizeLine_ge (by omega), upd_new hD (s1.trans s3), as ++ [r], frs ++ [ys], by rw [upd_same, List.map_append]; rfl, by rw [List.length_append, la]; rfl, ?_, ?_⟩⟩
      · have nr : r ≠ D := (ne_of_none eD n3).symm
        refine Paired.app (Paired.mapP pa fun a r h => ⟨?_, h.2⟩) (.cons ⟨?_, nr⟩ .nil)
        · rw [upd_ne h.2]
          exact s3 _ _ h.1
        · rw [upd_ne nr]
          exact e3
      · rw [tk]
        exact Paired.app pf (.cons nm .nil)
    · rintro H1 ⟨s1, as, frs, eD, la, pa, pf⟩
      rw [List.length_map, lq, List.take_length] at pf
      have lfr := pf.length
      have frnd : ∀ r ∈ frs, r.Nodup := fun r hr => by
        obtain ⟨x, _, h⟩ := paired_mem pf hr
        exact h.1
      have frlen : ∀ r ∈ frs, r.length ≤ 64 := fun r hr => by
        obtain ⟨x, hx, h⟩ := paired_mem pf hr
        have := free_few (fit.kid hx) h
        omega
      have frsum := sum_le_of frlen
      have lfr3 : frs.length ≤ 3 := by omega
      -- let and def
      refine ⟨fun σ H' => ∃ (x4 x5 : Option V) (rows : List (List Str)), σ = [some (.ref p), some (.ref ai), some (.ref D), none, x4, x5] ∧ Same H H' ∧ RowsAt H' D rows ∧ (∀ r ∈ rows, r.Nodup) ∧ (rows.map List.length).sum ≤ 300 ∧ (k.kind ≠ Kd.name.cs → ∀ y, (∃ r ∈ rows, tx y ∈ r) ↔ k.Free y), ?_, ?_⟩
      · refine ⟨_, rfl, p, dx, _, rfl, s1 _ _ ea, mF_no (by decide) (by decide) (by decide), k, p, rfl, A.same s1, sizeLine_ge (by show 2 ≤ 10000; decide), fun tt htt => ⟨tt, _, rfl, .inr (.inl (.inl upd_same)), rfl, rfl, _, rfl, ?_⟩⟩
        obtain ⟨β, eβ, hβ1, hβ2⟩ := kbd fit.ok
        rw [show (if false = true then !inV (V.str (tx k.kind)) [V.str (Str.ofString "let"), V.str (Str.ofString "def")] else inV (V.str (tx k.kind)) [V.str (Str.ofString "let"), V.str (Str.ofString "def")]) = β by rw [if_neg (by decide), eβ]]
        have s2 : Same H1 (upd H1 tt (.tup [.str (Str.ofString "let"), .str (Str.ofString "def")])) := same_new htt
        have s12 := s1.trans s2
        have eD2 := s2 _ _ eD
        have pa2 : Paired (fun a r => (upd H1 tt (.tup [.str (Str.ofString "let"), .str (Str.ofString "def")])) a = some (.lst (r.map V.str)) ∧ a ≠ D) as frs := Paired.mapP pa fun a r h => ⟨s2 _ _ h.1, h.2⟩
        generalize upd H1 tt (.tup [.str (Str.ofString "let"), .str (Str.ofString "def")]) = H2 at s2 s12 eD2 pa2 ⊢
        cases β with
        | false =>
          refine iteF ⟨_, _, frs, rfl, s12, ⟨as, eD2, Paired.mapP pa2 fun a r h => h.1⟩, frnd, by omega, fun hn y => ?_⟩
          rcases view fit.ok with ⟨kd, l, rfl, _⟩ | ⟨w, b, ks, v⟩
          · cases pf
            simp only [List.not_mem_nil, false_and, exists_false, false_iff]
            rintro ⟨rfl, _⟩
            exact hn rfl
          · have h2 := hβ2 rfl
            have hf := found_free v (frs := frs) (by rw [← v.kids]; exact pf) (tx y)
            rw [← v.small, h2] at hf
            have e1 : (tx y ∈ found frs (smV none)) ↔ ∃ r ∈ frs, tx y ∈ r := by
              unfold found
              have hne : frs ≠ [] := by
                intro e
                obtain ⟨k1, ks', e2⟩ := v.some_kid
                rw [e, v.kids, e2] at lfr
                simp at lfr
              obtain ⟨f0, fl, rfl⟩ : ∃ f0 fl, frs = f0 ++ [fl] := ⟨frs.dropLast, frs.getLast hne, (List.dropLast_concat_getLast hne).symm⟩
              simp [smV]
            rw [← e1, hf]
            exact ⟨fun ⟨l, e, h⟩ => tx_inj e ▸ h, fun h => ⟨y, rfl, h⟩⟩
        | true =>
          obtain ⟨w, b, ks, v, hbd⟩ := hβ1 rfl
          have hne : frs ≠ [] := by
            intro e
            obtain ⟨k1, ks', e2⟩ := v.some_kid
            rw [e, v.kids, e2] at lfr
            simp at lfr
          obtain ⟨f0, fl, rfl⟩ : ∃ f0 fl, frs = f0 ++ [fl] := ⟨frs.dropLast, frs.getLast hne, (List.dropLast_concat_getLast hne).symm⟩
          obtain ⟨as0, aL, rfl, pa0, eL⟩ := paired_last pa2
          rw [List.map_append] at eD2
          have ll := frlen fl (by simp)
          have A2 := A.same s12
          refine iteT ⟨_, rfl, _, rfl, D, _, _, _, rfl, rfl, .inl (.inl eD2), atI_last _ _, aL, rfl, ⟨_, .inl (.inl eL.1)⟩, fun D2 hD2 => lc_it (walk_list (xs := fl.map V.str))
            (fun j H' => Same H2 H' ∧ H' D2 = some (.lst (((fl.take j).filter fun x => !decide (V.str x = smV k.small)).map V.str))) ⟨same_new hD2, upd_same⟩ (fun j H' _ h => .inl (.inl (h.1 _ _ eL.1))) ?_ ?_⟩
          · rintro j x H6 H7 hj ⟨s6, d6⟩ ⟨rfl, hx⟩
            rw [List.length_map] at hj
            have hy : x = .str fl[j] := by
              rw [List.getElem?_map, List.getElem?_eq_getElem hj] at hx
              exact (Option.some.inj hx).symm
            subst hy
            have sc : scal (V.str fl[j]) (smV k.small) = true := by cases k.small <;> rfl
            refine ⟨rfl, _, rfl, _, rfl, p, dx, _, rfl, (s12.trans s6) _ _ ea, mF_no (by decide) (by decide) (by decide), k, p, rfl, A2.same s6, sc, _, rfl, ?_⟩
            have tk2 : (fl.take (j + 1)).filter (fun y => !decide (V.str y = smV k.small)) = (fl.take j).filter (fun y => !decide (V.str y = smV k.small)) ++ (if !decide (V.str fl[j] = smV k.small) then [fl[j]] else []) := by
              rw [List.take_add_one, List.getElem?_eq_getElem hj, List.filter_append]
              simp [List.filter_cons]
            by_cases hc : V.str fl[j] = smV k.small
            · rw [decide_eq_true hc] at tk2 ⊢
              refine iteF ⟨s6, ?_⟩
              rw [tk2, d6]
              simp
            · rw [decide_eq_false hc] at tk2 ⊢
              refine iteT ⟨_, rfl, _, d6, ?_, upd_new hD2 s6, ?_⟩
              · have h3 := ((List.take_sublist j fl).filter fun y => !decide (V.str y = smV k.small)).length_le
                have h4 := List.length_filter_le (fun y => !decide (V.str y = smV k.small)) fl
                rw [List.length_map]
                exact sizeLine_ge (by omega)
              · rw [upd_same, tk2]
                simp
          · rintro H6 ⟨s6, d6⟩
            rw [List.length_map, List.take_length] at d6
            have h4 := List.length_filter_le (fun y => !decide (V.str y = smV k.small)) fl
            have eD6 := s6 _ _ eD2
            have nD2 : D2 ≠ D := (ne_of_none eD2 hD2).symm
            refine ⟨_, rfl, _, rfl, D, _, _, as0.length, rfl, rfl, eD6, ?_, ?_⟩
            · unfold ixN
              rw [if_neg (by decide), List.length_append, List.length_map]
              simp
              omega
            have eset : ((as0.map V.ref ++ [V.ref aL]).set as0.length (V.ref D2)) = (as0 ++ [D2]).map V.ref := by
              rw [List.map_append, List.set_append_right _ _ (by rw [List.length_map]; exact Nat.le_refl _)]
              simp
            have nH : H D = none := hD
            refine ⟨_, _, f0 ++ [fl.filter fun x => !decide (V.str x = smV k.small)], rfl, upd_new nH (s12.trans s6), ⟨as0 ++ [D2], by rw [upd_same]; exact congrArg (fun l => Option.some (HO.lst l)) eset, ?_⟩, ?_, ?_, fun _ y => ?_⟩
            · refine Paired.app (Paired.mapP pa0 fun a r h => ?_) (.cons ?_ .nil)
              · rw [upd_ne h.2]
                exact s6 _ _ h.1
              · rw [upd_ne nD2]
                exact d6
            · intro r hr
              rcases List.mem_append.mp hr with hr | hr
              · exact frnd r (List.mem_append_left _ hr)
              · rw [List.mem_singleton.mp hr]
                exact (frnd fl (by simp)).filter _
            · rw [List.map_append, List.sum_append] at frsum ⊢
              simp only [List.map_cons, List.map_nil, List.sum_cons, List.sum_nil] at frsum ⊢
              omega
            · have hf := found_free v (frs := f0 ++ [fl]) (by rw [← v.kids]; exact pf) (tx y)
              rw [← v.small] at hf
              have e1 : (tx y ∈ found (f0 ++ [fl]) (smV k.small)) ↔ ∃ r ∈ f0 ++ [fl.filter fun x => !decide (V.str x = smV k.small)], tx y ∈ r := by
                unfold found
                simp
              rw [← e1, hf]
              exact ⟨fun ⟨l, e, h⟩ => tx_inj e ▸ h, fun h => ⟨y, rfl, h⟩⟩
      · rintro σ H2 ⟨x4, x5, rows, rfl, s2, ra, rnd, rsum, rfree⟩
        -- a name
        refine ⟨fun σ H' => ∃ (x4 x5 : Option V) (D3 : Addr) (rows : List (List Str)), σ = [some (.ref p), some (.ref ai), some (.ref D3), none, x4, x5] ∧ Same H H' ∧ RowsAt H' D3 rows ∧ (∀ r ∈ rows, r.Nodup) ∧ (rows.map List.length).sum ≤ 300 ∧ ∀ y, (∃ r ∈ rows, tx y ∈ r) ↔ k.Free y, ?_, ?_⟩
        · refine ⟨_, rfl, p, dx, _, rfl, s2 _ _ ea, mF_no (by decide) (by decide) (by decide), k, p, rfl, A.same s2, rfl, _, rfl, ?_⟩
          rw [name_tx, str_eq]
          by_cases hn : k.kind = Kd.name.cs
          · rw [decide_eq_true hn]
            obtain ⟨l, rfl⟩ := atom_name hn
            refine iteT ⟨_, rfl, p, dx, _, rfl, s2 _ _ ea, _, p, rfl, A.same s2, _, rfl, sizeLine_ge (by show 1 ≤ 10000; decide), fun q1 hq1 => ⟨sizeLine_ge (by show 1 ≤ 10000; decide), fun q2 hq2 => ?_⟩⟩
            have s3 := same_new (o := .lst [V.str (tx (U.Tm.atom .name l).pr)]) hq1
            have s4 := same_new (o := .lst [V.ref q1]) hq2
            refine ⟨_, _, q2, [[tx l]], rfl, s2.trans (s3.trans s4), ⟨[q1], upd_same, .cons (s4 _ _ upd_same) .nil⟩, ?_, by simp, fun y => ?_⟩
            · intro r hr
              rw [List.mem_singleton.mp hr]
              simp
            · constructor
              · rintro ⟨r, hr, h⟩
                rw [List.mem_singleton.mp hr, List.mem_singleton] at h
                exact ⟨rfl, tx_inj h⟩
              · rintro ⟨_, rfl⟩
                exact ⟨[tx y], List.mem_cons_self, List.mem_cons_self⟩
          · rw [decide_eq_false hn]
            exact iteF ⟨x4, x5, D, rows, rfl, s2, ra, rnd, rsum, rfree hn⟩
        · clear ra rnd rsum rfree s2
          rintro σ H3 ⟨x4, x5, D3, rows, rfl, s3, ra, rnd, rsum, rfree⟩
          have ei3 := s3 _ _ ei
          -- the parts
          refine ⟨_, rfl, ai, rfl, ⟨_, .inl (.inl ei3)⟩, fun D4 hD4 => lc_do (walk_list (xs := ps.map V.ref)) (fun i H' => Same H3 H' ∧ ∃ (as : List Addr) (prs : List (List Str)), H' D4 = some (.lst (as.map V.ref)) ∧ as.length = i ∧ Paired (fun a r => H' a = some (.lst (r.map V.str)) ∧ a ≠ D4) as prs ∧ Paired (fun r x => NamesIs (PartIn x) r ∧ r.length ≤ 1000) prs (k.kids.take i)) (fun _ => rfl) ⟨same_new hD4, [], [], upd_same, rfl, .nil, .nil⟩ (fun i H' _ h => .inl (.inl (h.1 _ _ ei3))) ?_ ?_⟩
          · rintro i x H4 H5 hi ⟨s4, as, prs, eD, la, pa, pf⟩ ⟨rfl, hx⟩
            rw [List.length_map] at hi
            have hki : k.kids[i]? = some (k.kids[i]'(by omega)) := List.getElem?_eq_getElem (by omega)
            obtain ⟨ri, hr1, hr2⟩ := Paired.at_ pk hki
            have ex : x = .ref ri := by
              rw [List.getElem?_map, hr1] at hx
              exact (Option.some.inj hx).symm
            subst ex
            have hmem : k.kids[i]'(by omega) ∈ k.kids := List.getElem_mem _
            generalize k.kids[i]'(by omega) = z at hki hr2 hmem
            have tk : k.kids.take (i + 1) = k.kids.take i ++ [z] := by
              rw [List.take_add_one, hki]
              rfl
            have fz := fit.kid hmem
            have fzs := fz.size
            have A1 := hr2.same (s3.trans s4)
            obtain ⟨dz, tz, rz, ez⟩ := A1.some
            refine ⟨_, rfl, ri, dz, _, rfl, ez, mF_no (by decide) (by decide) (by decide), z, ri, rfl, A1, by omega, fun r H6 ys s6 n6 e6 nm lm => ⟨_, s6 _ _ eD, by rw [List.length_map, la]; exact sizeLine_ge (by omega), upd_new hD4 (s4.trans s6), as ++ [r], prs ++ [ys], by rw [upd_same, List.map_append]; rfl, by rw [List.length_append, la]; rfl, ?_, ?_⟩⟩
            · have nr : r ≠ D4 := (ne_of_none eD n6).symm
              refine Paired.app (Paired.mapP pa fun a r h => ⟨?_, h.2⟩) (.cons ⟨?_, nr⟩ .nil)
              · rw [upd_ne h.2]
                exact s6 _ _ h.1
              · rw [upd_ne nr]
                exact e6
            · rw [tk]
              exact Paired.app pf (.cons ⟨nm, lm⟩ .nil)
          · rintro H4 ⟨s4, as, prs, eD, la, pa, pf⟩
            rw [List.length_map, lq, List.take_length] at pf
            have lpr := pf.length
            have lpa := pa.length
            have prlen : ∀ r ∈ prs, r.length ≤ 1000 := fun r hr => by
              obtain ⟨x, hx, h⟩ := paired_mem pf hr
              exact h.2
            have prsum := sum_le_of prlen
            have s34 := s3.trans s4
            have A4 := A.same s34
            refine ⟨_, rfl, p, dx, _, rfl, s34 _ _ ea, k, p, rfl, A4, _, rfl, sizeLine_ge (by show 1 ≤ 10000; decide), fun q1 hq1 => ⟨sizeLine_ge (by show 1 ≤ 10000; decide), fun q2 hq2 => ?_⟩⟩
            have s5 := (same_new (o := .lst [V.str (tx k.pr)]) hq1).trans (same_new (o := .lst [V.ref q1]) hq2)
            have e1 : (upd (upd H4 q1 (.lst [V.str (tx k.pr)])) q2 (.lst [V.ref q1])) q1 = some (.lst [V.str (tx k.pr)]) := (same_new hq2) _ _ upd_same
            have e2 : (upd (upd H4 q1 (.lst [V.str (tx k.pr)])) q2 (.lst [V.ref q1])) q2 = some (.lst [V.ref q1]) := upd_same
            generalize upd (upd H4 q1 (.lst [V.str (tx k.pr)])) q2 (.lst [V.ref q1]) = H5 at s5 e1 e2 ⊢
            have s35 := s34.trans s5
            refine ⟨_, rfl, p, dx, _, rfl, s35 _ _ ea, mF_no (by decide) (by decide) (by decide), k, p, rfl, A.same s35, rfl, .inr ⟨_, rfl, ?_⟩⟩
            rw [part_tx, str_eq]
            obtain ⟨c, hc⟩ : ∃ c : Int, (if decide (k.kind = Kd.part.cs) = true then (1 : Int) else 0) = c := ⟨_, rfl⟩
            rw [hc]
            have hc01 : c = 0 ∨ c = 1 := by
              rw [← hc]
              split
              · exact .inr rfl
              · exact .inl rfl
            refine ⟨q2, c, _, rfl, rfl, e2, by omega, by omega, by show 1 * c.toNat ≤ sizeLine; exact sizeLine_ge (by omega), fun q3 hq3 => ?_⟩
            have e3 : (List.replicate c.toNat [V.ref q1]).flatten = (if c = 1 then [q1] else []).map V.ref := by
              rcases hc01 with rfl | rfl <;> rfl
            rw [e3]
            have s6 := s5.trans (same_new (o := .lst ((if c = 1 then [q1] else []).map V.ref)) hq3)
            have e4 : (upd H5 q3 (.lst ((if c = 1 then [q1] else []).map V.ref))) q3 = some (.lst ((if c = 1 then [q1] else []).map V.ref)) := upd_same
            have e1' := (same_new (o := .lst ((if c = 1 then [q1] else []).map V.ref)) hq3) _ _ e1
            generalize upd H5 q3 (.lst ((if c = 1 then [q1] else []).map V.ref)) = H6 at s6 e4 e1' ⊢
            have l1 : ((if c = 1 then [q1] else []).map V.ref).length ≤ 1 := by split <;> simp
            refine ⟨D4, q3, _, _, rfl, rfl, s6 _ _ eD, e4, by rw [List.length_map]; exact sizeLine_ge (by omega), fun q4 hq4 => ?_⟩
            have s7 := s6.trans (same_new (o := .lst (as.map V.ref ++ (if c = 1 then [q1] else []).map V.ref)) hq4)
            have e5 : (upd H6 q4 (.lst (as.map V.ref ++ (if c = 1 then [q1] else []).map V.ref))) q4 = some (.lst ((as ++ if c = 1 then [q1] else []).map V.ref)) := by rw [upd_same, List.map_append]
            have e1'' := (same_new (o := .lst (as.map V.ref ++ (if c = 1 then [q1] else []).map V.ref)) hq4) _ _ e1'
            generalize upd H6 q4 (.lst (as.map V.ref ++ (if c = 1 then [q1] else []).map V.ref)) = H7 at s7 e5 e1'' ⊢
            have s37 := s34.trans s7
            have rp : Paired (fun a r => H7 a = some (.lst (r.map V.str))) (as ++ if c = 1 then [q1] else []) (prs ++ (partOf k).map fun y => [tx y]) := by
              refine Paired.app (Paired.mapP pa fun a r h => s7 _ _ h.1) ?_
              unfold partOf
              by_cases hp : k.kind = Kd.part.cs
              · have : c = 1 := by rw [← hc, decide_eq_true hp]; rfl
                rw [if_pos this, if_pos hp]
                exact .cons e1'' .nil
              · have : c = 0 := by rw [← hc, decide_eq_false hp]; rfl
                rw [if_neg (by omega), if_neg hp]
                exact .nil
            have pnd : ∀ r ∈ prs ++ (partOf k).map fun y => [tx y], r.Nodup := fun r hr => by
              rcases List.mem_append.mp hr with hr | hr
              · obtain ⟨x, _, h⟩ := paired_mem pf hr
                exact h.1.1
              · obtain ⟨y, _, rfl⟩ := List.mem_map.mp hr
                simp
            have psum : ((prs ++ (partOf k).map fun y => [tx y]).map List.length).sum ≤ 9000 := by
              rw [List.map_append, List.sum_append, List.map_map]
              have h1 : ((partOf k).map (List.length ∘ fun y => [tx y])).sum ≤ 1 := by
                unfold partOf
                split <;> simp
              have : prs.length * 1000 ≤ 3 * 1000 := Nat.mul_le_mul_right _ (by omega)
              omega
            have pmem : ∀ y, (∃ r ∈ prs ++ (partOf k).map fun y => [tx y], tx y ∈ r) ↔ PartIn k y := fun y => by
              rw [← part_law]
              constructor
              · rintro ⟨r, hr, h⟩
                rcases List.mem_append.mp hr with hr | hr
                · obtain ⟨x, hx, hn⟩ := paired_mem pf hr
                  obtain ⟨l, e, hl⟩ := (hn.1.2.2 _).mp h
                  exact .inr ⟨x, hx, tx_inj e ▸ hl⟩
                · obtain ⟨z, hz, rfl⟩ := List.mem_map.mp hr
                  rw [List.mem_singleton] at h
                  exact .inl (tx_inj h ▸ hz)
              · rintro (h | ⟨x, hx, h⟩)
                · exact ⟨[tx y], List.mem_append_right _ (List.mem_map.mpr ⟨y, h, rfl⟩), List.mem_cons_self⟩
                · obtain ⟨r, hr, hn⟩ := paired_mem2 pf hx
                  exact ⟨r, List.mem_append_left _ hr, (hn.1.2.2 _).mpr ⟨y, rfl, h⟩⟩
            obtain ⟨as3, eD3, rp3⟩ := ra.same (s4.trans s7)
            have A7 := A.same s37
            refine ⟨_, rfl, p, dx, _, rfl, s37 _ _ ea, mF_no (by decide) (by decide) (by decide), k, p, rfl, A7, by omega, fun u1 G1 z1 g1 n1 eu1 nz1 => ?_⟩
            refine ⟨_, rfl, D3, as3, rows, rfl, g1 _ _ eD3, Paired.mapP rp3 fun a r h => g1 _ _ h, rnd, by omega, fun u2 G2 z2 g2 eu2 nz2 => ?_⟩
            have ez : z1 = z2 := nz1.uniq (names_iff nz2 rfree)
            subst ez
            have as1 := names_asc nz1 fun y hy => free_asc fit.ok hy
            refine ⟨.list _, .list _, .lst (.inl (.inl (g2 _ _ eu1))) (dpAll_strs _), .lst (.inl (.inl eu2)) (dpAll_strs _), shaped_strs as1, shaped_strs as1, true, by rw [PyData.eqv, eqvAll_strs]; simp, iteT ?_⟩
            have g12 := g1.trans g2
            have s3G := s37.trans g12
            refine ⟨_, rfl, p, dx, _, rfl, s3G _ _ ea, mF_no (by decide) (by decide) (by decide), k, p, rfl, A.same s3G, by omega, fun u3 G3 z3 g3 n3 eu3 nz3 lz3 => ?_⟩
            have g13 := g12.trans g3
            refine ⟨_, rfl, q4, _, _, rfl, g13 _ _ e5, Paired.mapP rp fun a r h => g13 _ _ h, pnd, psum, fun u4 G4 z4 g4 eu4 nz4 => ?_⟩
            have ez : z3 = z4 := nz3.uniq (names_iff nz4 pmem)
            subst ez
            have as2 := names_asc nz3 fun y hy => part_asc fit.ok hy
            refine ⟨.list _, .list _, .lst (.inl (.inl (g4 _ _ eu3))) (dpAll_strs _), .lst (.inl (.inl eu4)) (dpAll_strs _), shaped_strs as2, shaped_strs as2, ?_⟩
            rw [PyData.eqv, eqvAll_strs, decide_eq_true rfl]
            exact q _ (s37.trans (g13.trans g4))
end
end K


set_option Elab.async false
set_option linter.all false
set_option maxRecDepth 100000
set_option maxHeartbeats 4000000
namespace K
open PySem PySem.Spec PyProof.Rows L2 U SkE
/-- what == finds at the class -/
structure OwnE (K : PySem.W.Frag) (C : Addr) : Prop where
  ne : PySem.W.findIn K (.ref C) "__ne__" = some (some (.builtin "object.__ne__"))
  ob : PySem.W.subIn K (.ref C) (.type "object") = some true
  ty : ∀ (H : Hp) (a dx : Addr) (fs : List (Str × V)), H a = some (.ins C dx fs) → TyX K H (.ref a) (.ref C)
  self : PySem.W.kitOne K (.ref C) (.ref C) = some true
def spWhole (CT C : Addr) (n : Nat) : Sp := fun vs H Q _ => ∃ (k : U.Tm) (N : List Str) (p : Addr), vs = [.ref p] ∧ TermAt CT C H k p ∧ Fit k N ∧ k.pr.length ≤ 9000 ∧ k.depth < n ∧ ∀ H', Same H H' → Q (.bl true) H'
theorem pr_kid {k x : U.Tm} (m : x ∈ k.kids) : x.pr.length ≤ k.pr.length := by
  cases k with
  | atom => simp [U.Tm.kids] at m
  | n1 w b y =>
    simp only [U.Tm.kids, List.mem_singleton] at m
    subst m
    simp only [U.Tm.pr, List.length_append, List.length_cons]
    omega
  | n2 w b y z =>
    simp only [U.Tm.kids, List.mem_cons, List.not_mem_nil, or_false] at m
    simp only [U.Tm.pr, List.length_append, List.length_cons]
    rcases m with rfl | rfl <;> omega
  | n3 w b y z u =>
    simp only [U.Tm.kids, List.mem_cons, List.not_mem_nil, or_false] at m
    simp only [U.Tm.pr, List.length_append, List.length_cons]
    rcases m with rfl | rfl | rfl <;> omega
section
variable {P : Program} {w : World} {K : PySem.W.Frag} {mg : Str → Option Value} {base : Heap} {dW dB : Addr} {esW : Array DictEntry} {nW : Nat} (T : Txt K mg w dW dB esW nW)
include T
theorem ok__law_whole_step (n : Nat) {f f0 f1 f2 f3 f4 f5 f6 f7 f8 C CT : Addr} {fd fd0 fd1 fd2 fd3 fd4 fd5 fd6 fd7 fd8 : FuncData} (F : Fun K "_law_whole" "_law_whole" s__law_whole f fd) (O : OwnE K CT) (hCl : Cls K CT) (m_Term : HasC P w K mg base "Term" CT 7 ["self", "text"] (spTermInit CT C) f0 fd0)
    (hE : HasM P w K mg base CT "__eq__" 1 ["self", "other"] (spTermEq K CT C) f1 fd1) (hL : HasM P w K mg base CT "__len__" 1 ["self"] (spTermLen CT C) f2 fd2) (hS : HasM P w K mg base CT "__str__" 1 ["self"] (spTermStr CT C) f3 fd3)
    (hFo : HasT P w K mg base CT "form" 1 ["self"] (spTermForm CT C) f4 fd4) (hBo : HasT P w K mg base CT "bound" 1 ["self"] (spTermBound CT C) f5 fd5) (hIn : HasT P w K mg base CT "inner" 9 ["self"] (spTermInner CT C) f6 fd6)
    (h__law_names_right : Has P w K mg base "_law_names_right" 5 ["_law_term", "_law_inner"] (spNR CT C) f7 fd7) (h__law_whole : Has P w K mg base "_law_whole" (n + 9) ["_law_term"] (spWhole CT C n) f8 fd8) :
    FnOk P w K mg base CX0 (n + 10) f fd ["_law_term"] (spWhole CT C (n + 1)) := by
  refine F.ok sc__law_whole (fun vs H Q E h => ?_) (fun cdv A outer s H vs Q E hr h => ?_)
  · obtain ⟨k, N, p, rfl, _⟩ := h
    rfl
  · obtain ⟨k, N, p, rfl, A, fit, hl, hdp, q⟩ := h
    refine ⟨_, (pss_cons (ps_par (i := 1) (j := 2) (by rfl) sc__law_whole.nd rfl rfl (by decide) rfl rfl (pa_cons (pe_meth0 (pv 0) hCl hIn.me hIn.ok (hr.mono (by first | decide | omega)) hIn.bi .nil pass0) (pa_cons (pe_meth0 (pv 0) hCl hBo.me hBo.ok (hr.mono (by first | decide | omega)) hBo.bi .nil pass0) pa_nil)) (by rfl))
      (pss_cons (ps_if (pt_cmpR (op_eqNil hr.units0) (pv 1) (pe_lst pa_nil) (nomark _)) 
        (pss_one (ps_ret (pe_and (pe_cmpR op_in_seq (pe_meth0 (pv 0) hCl hFo.me hFo.ok (hr.mono (by first | decide | omega)) hFo.bi .nil pass0) (pe_tup (pa_cons pe_str (pa_cons pe_str (pa_cons pe_str pa_nil)))) (by rfl)) (pe_and (pe_cmpR op_isN (pv 2) pe_non (nomark _)) (pe_one (pe_cmpR op_eq (pe_callB (call_lenOwn hL.ok hL.bi pass0 hL.at_ hL.fn (hr.mono (by first | decide | omega))) (by rfl) T.z_len (by decide +kernel) (pa_cons (pv 0) pa_nil)) pe_int (nomark _))))))) pss_nil)
      (pss_cons (ps_set (i := 3) sc__law_whole.nd rfl (.inl rfl) (pe_op op_cat (pe_op op_cat (pe_lst (pa_cons (pe_meth0 (pv 0) hCl hFo.me hFo.ok (hr.mono (by first | decide | omega)) hFo.bi .nil pass0) pa_nil)) (pe_op op_rep (pe_lst (pa_cons (pv 2) pa_nil)) (pe_callTy call_int1 (by rfl) T.z_int (by decide +kernel) (pa_cons (pe_cmpR op_notN (pv 2) pe_non (nomark _)) pa_nil)))) (pe_lc (own := [("_law_one", 5)]) (g := gName 5) (tt := tYes) (te := tCB (rTxtOwn CT (spTermStr CT C) E0) (tCons (tVar 5) tNil)) rfl sc__law_whole.nd (pi_list (pv 1)) (blkOk_by (N := nm__law_whole) (sc := defScope s__law_whole) (by decide +kernel)) (fun _ _ _ _ _ => pg_name (i := 5) sc__law_whole.nd rfl (.inl rfl)) (fun _ _ _ _ _ => pts_nil) (fun _ _ _ _ _ => (pe_callTy (call_strOwn hS.ok hS.bi pass0 hS.at_ hS.fn (hr.mono (by first | decide | omega))) (by rfl) T.z_str (by decide +kernel) (pa_cons (pv 5) pa_nil))))))
      (pss_cons (ps_set (i := 4) sc__law_whole.nd rfl (.inl rfl) (pe_op op_add_str (pe_op op_add_str pe_str (pe_join pe_str (pv 3))) pe_str))
      (pss_cons (ps_if (PW.pt (pw_or (pt_cmpR op_ne (pe_callTy (call_strOwn hS.ok hS.bi pass0 hS.at_ hS.fn (hr.mono (by first | decide | omega))) (by rfl) T.z_str (by decide +kernel) (pa_cons (pv 0) pa_nil)) (pv 4) (nomark _)) (pw_or (pt_cmpR (op_neOwn hE.ok hE.at_ hE.fn O.ne O.ob hE.bi pass0 (hr.mono (by first | decide | omega))) (pe_makeH m_Term (hr.mono (by first | decide | omega)) (by rfl) (pa_cons (pv 4) pa_nil)) (pv 0) (nomark _)) (pw_or1 (pt_cmpR op_ne (pe_callB (call_lenOwn hL.ok hL.bi pass0 hL.at_ hL.fn (hr.mono (by first | decide | omega))) (by rfl) T.z_len (by decide +kernel) (pa_cons (pv 0) pa_nil)) (pe_op op_add pe_int (pe_callB (cr_sum rfl) (by rfl) T.z_sum (by decide +kernel) (pa_cons (pe_lc (own := [("_law_one", 5)]) (g := gName 5) (tt := tYes) (te := tCB (rLenOwn CT (spTermLen CT C) E0) (tCons (tVar 5) tNil)) rfl sc__law_whole.nd (pi_list (pv 1)) (blkOk_by (N := nm__law_whole) (sc := defScope s__law_whole) (by decide +kernel)) (fun _ _ _ _ _ => pg_name (i := 5) sc__law_whole.nd rfl (.inl rfl)) (fun _ _ _ _ _ => pts_nil) (fun _ _ _ _ _ => (pe_callB (call_lenOwn hL.ok hL.bi pass0 hL.at_ hL.fn (hr.mono (by first | decide | omega))) (by rfl) T.z_len (by decide +kernel) (pa_cons (pv 5) pa_nil)))) pa_nil))) (nomark _)))))) 
        (pss_one (ps_ret pe_bl)) pss_nil)
      (pss_one (ps_ret (pe_callB (cr_all rfl) (by rfl) T.z_all (by decide +kernel) (pa_cons (pe_lc (own := [("_law_one", 5)]) (g := gName 5) (tt := tYes) (te := tAndV (tCall (spWhole CT C n) [] E0 (tCons (tVar 5) tNil)) (tCall (spNR CT C) [] E0 (tCons (tVar 5) (tCons (tMeth CT "inner" (spTermInner CT C) [] E0 (tVar 5) tNil) tNil)))) rfl sc__law_whole.nd (pi_list (pv 1)) (blkOk_by (N := nm__law_whole) (sc := defScope s__law_whole) (by decide +kernel)) (fun _ _ _ _ _ => pg_name (i := 5) sc__law_whole.nd rfl (.inl rfl)) (fun _ _ _ _ _ => pts_nil) (fun _ _ _ _ _ => (pe_and (pe_callH h__law_whole (hr.mono (by first | decide | omega)) (by rfl) (pa_cons (pv 5) pa_nil)) (pe_one (pe_callH h__law_names_right (hr.mono (by first | decide | omega)) (by rfl) (pa_cons (pv 5) (pa_cons (pe_meth0 (pv 5) hCl hIn.me hIn.ok (hr.mono (by first | decide | omega)) hIn.bi .nil pass0) pa_nil))))))) pa_nil))))))))), ?_⟩
    have kl := kids_len k
    have fsz := fit.size
    have nf : PySem.W.notFirst K CT (.ref CT) = true := by simp [PySem.W.notFirst]
    obtain ⟨dx, t1, r1, ea⟩ := A.some
    refine ⟨_, rfl, p, dx, _, rfl, ea, mF_no (by decide) (by decide) (by decide), k, N, p, rfl, A, fit, fun a H1 ps s1 n1 ea1 pp => ?_⟩
    have pp : Paired (fun q x => TermAt CT C H1 x q) ps k.kids := Paired.mapP pp fun q x h => h.at_
    have lp := pp.length
    refine ⟨_, rfl, p, dx, _, rfl, s1 _ _ ea, mF_no (by decide) (by decide) (by decide), k, p, rfl, A.same s1, _, _, rfl, ?_⟩
    refine ⟨_, rfl, sizeLine_ge (by show 0 ≤ 10000; decide), fun q0 hq0 => ⟨a, q0, _, rfl, rfl, .inl (.inl ((same_new hq0) _ _ ea1)), .inl (.inl upd_same), _, rfl, ?_⟩⟩
    have s2 := s1.trans (same_new (o := .lst []) hq0)
    have ea2 := (same_new (o := .lst []) hq0) _ _ ea1
    have pp2 : Paired (fun q x => TermAt CT C (upd H1 q0 (.lst [])) x q) ps k.kids := Paired.mapP pp fun q x h => h.same (same_new hq0)
    generalize upd H1 q0 (.lst []) = H2 at s2 ea2 pp2 ⊢
    clear pp ea1
    have A2 := A.same s2
    have ea' := s2 _ _ ea
    rcases view fit.ok with ⟨kd, l, rfl, ao⟩ | ⟨w, b, ks, v⟩
    · have hps : ps = [] := List.length_eq_zero_iff.mp lp
      subst hps
      refine iteT ?_
      refine ⟨_, rfl, p, dx, _, rfl, ea', mF_no (by decide) (by decide) (by decide), _, p, rfl, A2, sizeLine_ge (by show 3 ≤ 10000; decide), fun tt htt => ⟨tt, _, rfl, .inr (.inl (.inl upd_same)), rfl, rfl, true, ?_, iteT ?_⟩⟩
      · cases kd <;> (simp only [U.Tm.kind]; decide +kernel)
      have s3 := s2.trans (same_new (o := .tup [.str (Str.ofString "number"), .str (Str.ofString "name"), .str (Str.ofString "part")]) htt)
      refine ⟨_, rfl, rfl, true, rfl, iteT ?_⟩
      refine ⟨_, rfl, p, dx, _, rfl, s3 _ _ ea, _, p, rfl, A.same s3, by omega, _, rfl, by omega, by omega, rfl, ?_⟩
      exact q _ s3
    · obtain ⟨k1, ks1, ek⟩ := v.some_kid
      have hne : (ps.map V.ref).isEmpty = false := by
        cases ps with
        | nil =>
          rw [v.kids, ek] at lp
          simp at lp
        | cons x ps => rfl
      rw [hne]
      refine iteF ?_
      obtain ⟨kk, bn, ekk, k0, k1', erep, hbn, eflat, hbn2⟩ := bind_rep (w := w) (b := b)
      -- words
      refine ⟨_, rfl, p, dx, _, rfl, ea', mF_no (by decide) (by decide) (by decide), k, p, rfl, A2, sizeLine_ge (by show 1 ≤ 10000; decide), fun w1 hw1 => ⟨_, rfl, sizeLine_ge (by show 1 ≤ 10000; decide), fun w2 hw2 => ⟨_, rfl, rfl, .inr ⟨_, rfl, ?_⟩⟩⟩⟩
      rw [v.small, ekk]
      have s3 : Same H2 (upd H2 w1 (.lst [V.str (tx k.kind)])) := same_new hw1
      have s4 := s3.trans (same_new (o := .lst [smV (sm w b)]) hw2)
      have e1 := (same_new (o := .lst [smV (sm w b)]) hw2) w1 _ upd_same
      have e2 : (upd (upd H2 w1 (.lst [V.str (tx k.kind)])) w2 (.lst [smV (sm w b)])) w2 = some (.lst [smV (sm w b)]) := upd_same
      generalize upd (upd H2 w1 (.lst [V.str (tx k.kind)])) w2 (.lst [smV (sm w b)]) = G2 at s4 e1 e2 ⊢
      refine ⟨w2, kk, _, rfl, rfl, e2, by omega, by omega, ?_, fun w3 hw3 => ?_⟩
      · show 1 * kk.toNat ≤ sizeLine
        exact sizeLine_ge (by omega)
      rw [erep]
      have s5 := s4.trans (same_new (o := .lst (bn.map fun n => V.str (tx n))) hw3)
      have e1' := (same_new (o := .lst (bn.map fun n => V.str (tx n))) hw3) _ _ e1
      have e3 : (upd G2 w3 (.lst (bn.map fun n => V.str (tx n)))) w3 = some (.lst (bn.map fun n => V.str (tx n))) := upd_same
      generalize upd G2 w3 (.lst (bn.map fun n => V.str (tx n))) = G3 at s5 e1' e3 ⊢
      refine ⟨w1, w3, _, _, rfl, rfl, e1', e3, ?_, fun w4 hw4 => ?_⟩
      · rw [List.length_map]
        exact sizeLine_ge (by show 1 + bn.length ≤ 10000; omega)
      have s6 := s5.trans (same_new (o := .lst ([V.str (tx k.kind)] ++ bn.map fun n => V.str (tx n))) hw4)
      have e4 : (upd G3 w4 (.lst ([V.str (tx k.kind)] ++ bn.map fun n => V.str (tx n)))) w4 = some (.lst ([V.str (tx k.kind)] ++ bn.map fun n => V.str (tx n))) := upd_same
      generalize upd G3 w4 (.lst ([V.str (tx k.kind)] ++ bn.map fun n => V.str (tx n))) = G4 at s6 e4 ⊢
      have ea4 := s6 _ _ ea2
      refine ⟨_, rfl, a, rfl, ⟨_, .inl (.inl ea4)⟩, fun D hD => lc_do (walk_list (xs := ps.map V.ref)) (fun i H' => Same G4 H' ∧ H' D = some (.lst ((k.kids.take i).map fun k => V.str (tx k.pr)))) (fun _ => rfl) ⟨same_new hD, upd_same⟩ (fun i H' _ h => .inl (.inl (h.1 _ _ ea4))) ?_ ?_⟩
      · rintro j x H4 H5 hj ⟨s7, e5⟩ ⟨rfl, hx⟩
        rw [List.length_map] at hj
        have hki : k.kids[j]? = some (k.kids[j]'(by omega)) := List.getElem?_eq_getElem (by omega)
        obtain ⟨ri, hr1, hr2⟩ := Paired.at_ pp2 hki
        have ex : x = .ref ri := by
          rw [List.getElem?_map, hr1] at hx
          exact (Option.some.inj hx).symm
        subst ex
        generalize k.kids[j]'(by omega) = z at hki hr2
        have Az := hr2.same (s6.trans s7)
        obtain ⟨dz, tz, rz, ez⟩ := Az.some
        refine ⟨_, rfl, ri, dz, _, rfl, ez, z, ri, rfl, Az, _, rfl, _, e5, by rw [List.length_map, List.length_take]; exact sizeLine_ge (by omega), upd_new hD s7, ?_⟩
        rw [upd_same, List.take_add_one, hki, List.map_append]
        rfl
      · rintro H6 ⟨s7, e6⟩
        rw [List.length_map, lp, List.take_length] at e6
        have e46 := s7 _ _ e4
        refine ⟨w4, D, _, _, rfl, rfl, e46, e6, ?_, fun w5 hw5 => ?_⟩
        · rw [List.length_append, List.length_map, List.length_map]
          exact sizeLine_ge (by show 1 + bn.length + k.kids.length ≤ 10000; omega)
        have s8 := (s6.trans s7).trans (same_new (o := .lst ([V.str (tx k.kind)] ++ (bn.map fun n => V.str (tx n)) ++ k.kids.map fun k => V.str (tx k.pr))) hw5)
        have e5 : (upd H6 w5 (.lst ([V.str (tx k.kind)] ++ (bn.map fun n => V.str (tx n)) ++ k.kids.map fun k => V.str (tx k.pr)))) w5 = some (.lst ((tx w.cs :: (bn ++ ks.map U.Tm.pr).map tx).map V.str)) := by
          rw [upd_same, v.kind, v.kids]
          simp [List.map_map, Function.comp_def]
        generalize upd H6 w5 (.lst ([V.str (tx k.kind)] ++ (bn.map fun n => V.str (tx n)) ++ k.kids.map fun k => V.str (tx k.pr))) = G5 at s8 e5 ⊢
        have sp1 : Str.ofString " " = tx [32] := by decide +kernel
        have sp2 : Str.ofString "(" = tx [40] := by decide +kernel
        have sp3 : Str.ofString ")" = tx [41] := by decide +kernel
        have jn : Txt.join (Str.ofString " ") (tx w.cs :: (bn ++ ks.map U.Tm.pr).map tx) = tx (w.cs ++ (if w.bd then 32 :: b else []) ++ kT ks) := by
          rw [sp1, join_tx]
          refine congrArg (fun l : List Nat => tx l) ?_
          rw [List.map_append, List.flatten_append, eflat, lines_kT, List.append_assoc]
        have tp : (tx [40] ++ tx (w.cs ++ (if w.bd then 32 :: b else []) ++ kT ks) ++ tx [41] : Str) = tx k.pr := by
          rw [tx_app, tx_app, v.pr]
          rfl
        have lp2 : (w.cs ++ (if w.bd then 32 :: b else []) ++ kT ks).length + 2 = k.pr.length := by
          rw [v.pr]
          unfold hd
          simp only [List.length_append, List.length_cons, List.length_nil]
          omega
        refine ⟨⟨_, rfl⟩, _, rfl, _, w5, tx w.cs :: (bn ++ ks.map U.Tm.pr).map tx, rfl, rfl, .inl (.inl (.inl e5)), ?_, ?_⟩
        · have l1 := sum_lens (bn ++ ks.map U.Tm.pr)
          have le : ((bn ++ ks.map U.Tm.pr).map ([32] ++ ·)).flatten = (if w.bd then 32 :: b else []) ++ kT ks := by
            rw [List.map_append, List.flatten_append, eflat, lines_kT]
          rw [le, List.length_append] at l1
          have l2 : (if w.bd then 32 :: b else []).length + (kT ks).length ≤ 9000 := by
            simp only [List.length_append] at lp2
            omega
          have l3 := cs_len w
          have l4 : ks.length ≤ 3 := by rw [← v.kids]; exact kl
          rw [List.map_cons, List.sum_cons, sum_tx, tx_len, List.length_cons, List.length_map, List.length_append, List.length_map, sp1, tx_len]
          have : ([32] : List Nat).length = 1 := rfl
          rw [this]
          omega
        rw [jn, sp2, sp3]
        refine ⟨_, _, rfl, rfl, ?_, _, _, rfl, rfl, ?_, ?_⟩
        · rw [tx_len, tx_len]
          exact sizeLine_ge (by show 1 + _ ≤ 10000; omega)
        · rw [tx_app, tx_len, tx_len]
          exact sizeLine_ge (by rw [List.length_append]; show 1 + _ + 1 ≤ 10000; omega)
        rw [tp]
        have s9 := s2.trans s8
        have ea9 := s9 _ _ ea
        have A9 := A.same s9
        have ea10 := s8 _ _ ea2
        have pp9 : Paired (fun q x => TermAt CT C G5 x q) ps k.kids := Paired.mapP pp2 fun q x h => h.same s8
        -- the text, a term of it, its len
        refine ⟨_, rfl, p, dx, _, rfl, ea9, k, p, rfl, A9, _, rfl, _, rfl, rfl, _, rfl, iteNS rfl ?_⟩
        refine ⟨_, rfl, fun g dg hg hdg nxg => ⟨k, N, g, dg, rfl, fit, upd_same, fun H7 b7 t7 => ⟨rfl, ?_⟩⟩⟩
        have s10 : Same G5 H7 := But.sameN b7 ((same_new hdg).trans (same_new (by rw [upd_ne (Ne.symm nxg)]; exact hg))) hg
        have A10 := A9.same s10
        have ea11 := s10 _ _ ea9
        have B := t7.at_
        obtain ⟨dg2, tg2, rg2, eg2⟩ := B.some
        refine ⟨_, rfl, g, dg2, _, .ref CT, rfl, eg2, O.ty _ _ _ _ ea11, nf, k, g, .ref p, rfl, B, .inr ⟨k, p, rfl, A10, O.ty _ _ _ _ ea11, O.self, _, rfl, false, by rw [decide_eq_true rfl]; rfl, iteF ?_⟩⟩
        have ea12 := s10 _ _ ea10
        have pp10 : Paired (fun q x => TermAt CT C H7 x q) ps k.kids := Paired.mapP pp9 fun q x h => h.same s10
        refine ⟨_, rfl, p, dx, _, rfl, ea11, k, p, rfl, A10, by omega, _, rfl, by omega, by omega, _, rfl, a, rfl, ⟨_, .inl (.inl ea12)⟩, fun D2 hD2 => lc_do (walk_list (xs := ps.map V.ref)) (fun i H' => Same H7 H' ∧ H' D2 = some (.lst (((k.kids.take i).map fun k => ((k.size : Nat) : Int)).map V.int))) (fun _ => rfl) ⟨same_new hD2, upd_same⟩ (fun i H' _ h => .inl (.inl (h.1 _ _ ea12))) ?_ ?_⟩
        · rintro j x H8 H9 hj ⟨s11, e11⟩ ⟨rfl, hx⟩
          rw [List.length_map] at hj
          have hki : k.kids[j]? = some (k.kids[j]'(by omega)) := List.getElem?_eq_getElem (by omega)
          obtain ⟨ri, hr1, hr2⟩ := Paired.at_ pp10 hki
          have ex : x = .ref ri := by
            rw [List.getElem?_map, hr1] at hx
            exact (Option.some.inj hx).symm
          subst ex
          have hmem : k.kids[j]'(by omega) ∈ k.kids := List.getElem_mem _
          generalize k.kids[j]'(by omega) = z at hki hr2 hmem
          have Az := hr2.same s11
          have szz := (fit.kid hmem).size
          obtain ⟨dz, tz, rz, ez⟩ := Az.some
          refine ⟨_, rfl, ri, dz, _, rfl, ez, z, ri, rfl, Az, by omega, _, rfl, by omega, by omega, _, e11, by rw [List.length_map, List.length_map, List.length_take]; exact sizeLine_ge (by omega), upd_new hD2 s11, ?_⟩
          rw [upd_same, List.take_add_one, hki, List.map_append, List.map_append]
          rfl
        · rintro H8 ⟨s11, e11⟩
          rw [List.length_map, lp, List.take_length] at e11
          have hsum : ((k.kids.map fun k => ((k.size : Nat) : Int))).sum = ((sizes k.kids : Nat) : Int) := by
            unfold sizes
            generalize k.kids = l
            induction l with
            | nil => rfl
            | cons x l ih => simp only [List.map_cons, List.sum_cons, ih]; push_cast; rfl
          have sk := size_kids k
          refine ⟨D2, _, rfl, .inl (.inl e11), _, _, rfl, rfl, rfl, _, rfl, iteNS (by rw [hsum, sk]; push_cast; rfl) ?_⟩
          have ea13 := s11 _ _ ea12
          have pp11 : Paired (fun q x => TermAt CT C H8 x q) ps k.kids := Paired.mapP pp10 fun q x h => h.same s11
          refine ⟨_, rfl, a, rfl, ⟨_, .inl (.inl ea13)⟩, fun D3 hD3 => lc_do (walk_list (xs := ps.map V.ref)) (fun i H' => Same H8 H' ∧ H' D3 = some (.lst ((List.replicate i true).map V.bl))) (fun _ => rfl) ⟨same_new hD3, upd_same⟩ (fun i H' _ h => .inl (.inl (h.1 _ _ ea13))) ?_ ?_⟩
          · rintro j x H9 H10 hj ⟨s12, e12⟩ ⟨rfl, hx⟩
            rw [List.length_map] at hj
            have hki : k.kids[j]? = some (k.kids[j]'(by omega)) := List.getElem?_eq_getElem (by omega)
            obtain ⟨ri, hr1, hr2⟩ := Paired.at_ pp11 hki
            have ex : x = .ref ri := by
              rw [List.getElem?_map, hr1] at hx
              exact (Option.some.inj hx).symm
            subst ex
            have hmem : k.kids[j]'(by omega) ∈ k.kids := List.getElem_mem _
            generalize k.kids[j]'(by omega) = z at hki hr2 hmem
            have Az := hr2.same s12
            have fz := fit.kid hmem
            have dz := depth_kids hmem
            have prz := pr_kid hmem
            refine ⟨_, rfl, z, N, ri, rfl, Az, fz, by omega, by omega, fun H11 s13 => ⟨true, rfl, iteT ?_⟩⟩
            have Az2 := Az.same s13
            obtain ⟨dz2, tz2, rz2, ez2⟩ := Az2.some
            refine ⟨_, rfl, _, rfl, ri, dz2, _, rfl, ez2, mF_no (by decide) (by decide) (by decide), z, N, ri, rfl, Az2, fz, fun u H12 qs s14 n14 e14 p14 => ⟨z, N, ri, u, qs, rfl, Az2.same s14, fz, e14, Paired.mapP p14 fun q x h => h.at_, fun H13 s15 => ?_⟩⟩
            have s16 := s13.trans (s14.trans s15)
            refine ⟨_, s16 _ _ e12, by rw [List.length_map, List.length_replicate]; exact sizeLine_ge (by omega), upd_new hD3 (s12.trans s16), ?_⟩
            rw [upd_same, List.replicate_succ', List.map_append]
            rfl
          · rintro H9 ⟨s12, e12⟩
            refine ⟨D3, _, rfl, .inl (.inl e12), ?_⟩
            have ha : (List.replicate (ps.map V.ref).length true).all id = true := by
              induction (ps.map V.ref).length with
              | zero => rfl
              | succ n ih => rw [List.replicate_succ, List.all_cons, ih]; rfl
            rw [ha]
            exact q _ (s9.trans (s10.trans (s11.trans s12)))
theorem ok__law_whole {f f0 f1 f2 f3 f4 f5 f6 f7 C CT : Addr} {fd fd0 fd1 fd2 fd3 fd4 fd5 fd6 fd7 : FuncData} (F : Fun K "_law_whole" "_law_whole" s__law_whole f fd) (O : OwnE K CT) (hCl : Cls K CT) (m_Term : HasC P w K mg base "Term" CT 7 ["self", "text"] (spTermInit CT C) f0 fd0)
    (hE : HasM P w K mg base CT "__eq__" 1 ["self", "other"] (spTermEq K CT C) f1 fd1) (hL : HasM P w K mg base CT "__len__" 1 ["self"] (spTermLen CT C) f2 fd2) (hS : HasM P w K mg base CT "__str__" 1 ["self"] (spTermStr CT C) f3 fd3)
    (hFo : HasT P w K mg base CT "form" 1 ["self"] (spTermForm CT C) f4 fd4) (hBo : HasT P w K mg base CT "bound" 1 ["self"] (spTermBound CT C) f5 fd5) (hIn : HasT P w K mg base CT "inner" 9 ["self"] (spTermInner CT C) f6 fd6)
    (h__law_names_right : Has P w K mg base "_law_names_right" 5 ["_law_term", "_law_inner"] (spNR CT C) f7 fd7) (at_ : mg "_law_whole" = some (.ref f)) (kp : PySem.W.keepIn K (.ref f) = true) (bi : Binds K fd ["_law_term"] []) :
    ∀ n, FnOk P w K mg base CX0 (n + 9) f fd ["_law_term"] (spWhole CT C n)
  | 0 => ⟨fun vs H Q E ⟨k, N, p, _, _, _, _, h, _⟩ => by omega, fun A outer s H args us vs Q E hr e b v ⟨k, N, p, _, _, _, _, h, _⟩ => by omega⟩
  | n + 1 => ok__law_whole_step T n F O hCl m_Term hE hL hS hFo hBo hIn h__law_names_right ⟨at_, kp, bi, ok__law_whole F O hCl m_Term hE hL hS hFo hBo hIn h__law_names_right at_ kp bi n⟩
end
end K


set_option Elab.async false
set_option linter.all false
set_option maxRecDepth 100000
set_option maxHeartbeats 4000000
namespace K
open PySem PySem.Spec PyProof.Rows L2 U SkE
/-- a chain of so many brackets -/
structure Ch (l2 : List Nat) (k : U.Tm) (j : Nat) : Prop where
  ok : k.Ok
  nm : k.Names (nameOk [tx l2])
  size : k.size ≤ 1 + 2 * j
  depth : k.depth ≤ j
  len : k.pr.length ≤ 13 + 30 * j
theorem ch_atom {l1 l2 l3 : List Nat} {r : Int} (h0 : 0 ≤ r) (h1 : r < 3) (o1 : NumOk l1) (o2 : SmallOk l2) (o3 : GreatOk l3) : ∃ z : U.Tm, Ch l2 z 0 ∧ atI [V.str (tx l1), V.str (tx l2), V.str (tx l3)] r = some (.str (tx z.pr)) := by
  have hm : r = 0 ∨ r = 1 ∨ r = 2 := by omega
  rcases hm with rfl | rfl | rfl
  · exact ⟨.atom .num l1, ⟨o1, (fun z => by cases z), Nat.le_refl _, Nat.le_refl _, num_len o1⟩, rfl⟩
  · exact ⟨.atom .name l2, ⟨o2, (fun _ => List.mem_singleton.mpr rfl), Nat.le_refl _, Nat.le_refl _, Nat.le_trans o2.2.1 (by decide)⟩, rfl⟩
  · exact ⟨.atom .part l3, ⟨o3, (fun z => by cases z), Nat.le_refl _, Nat.le_refl _, Nat.le_trans o3.2.1 (by decide)⟩, rfl⟩
theorem hd_def (l : List Nat) : (Str.ofString "def " ++ tx l : Str) = tx ([100, 101, 102, 32] ++ l) := by
  rw [show Str.ofString "def " = tx [100, 101, 102, 32] by decide +kernel, tx_app]
theorem hd_sum (l : List Nat) : (Str.ofString "sum " ++ tx l : Str) = tx ([115, 117, 109, 32] ++ l) := by
  rw [show Str.ofString "sum " = tx [115, 117, 109, 32] by decide +kernel, tx_app]
theorem hd_let (l m : List Nat) : (Str.ofString "let " ++ tx l ++ Str.ofString " " ++ tx m : Str) = tx ([108, 101, 116, 32] ++ l ++ [32] ++ m) := by
  rw [show Str.ofString "let " = tx [108, 101, 116, 32] by decide +kernel, show Str.ofString " " = tx [32] by decide +kernel, tx_app, tx_app, tx_app]
theorem ch_step {l2 : List Nat} {k z : U.Tm} {j : Nat} {r : Int} (h0 : 0 ≤ r) (h1 : r < 5) (o2 : SmallOk l2) (hk : Ch l2 k j) (hz : Ch l2 z 0) : ∃ (hl : List Nat) (k' : U.Tm), hl.length ≤ 23 ∧ Ch l2 k' (j + 1) ∧ k'.pr = [40] ++ hl ++ [32] ++ k.pr ++ [41] ∧
    atI [V.str (Str.ofString "first"), V.str (Str.ofString "second"), V.str (Str.ofString "def " ++ tx l2), V.str (Str.ofString "sum " ++ tx z.pr), V.str (Str.ofString "let " ++ tx l2 ++ Str.ofString " " ++ tx z.pr)] r = some (.str (tx hl)) := by
  have z1 := hz.len
  have z2 := hz.size
  have z3 := hz.depth
  have k1 := hk.len
  have k2 := hk.size
  have k3 := hk.depth
  have l4 := o2.2.1
  have hm : r = 0 ∨ r = 1 ∨ r = 2 ∨ r = 3 ∨ r = 4 := by omega
  rw [hd_def, hd_sum, hd_let, show Str.ofString "first" = tx [102, 105, 114, 115, 116] by decide +kernel, show Str.ofString "second" = tx [115, 101, 99, 111, 110, 100] by decide +kernel]
  rcases hm with rfl | rfl | rfl | rfl | rfl
  · refine ⟨_, .n1 .first [] k, by decide, ⟨⟨rfl, rfl, hk.ok⟩, hk.nm, ?_, ?_, ?_⟩, ?_, rfl⟩
    · simp only [U.Tm.size]; omega
    · simp only [U.Tm.depth]; omega
    · simp [U.Tm.pr, hd, Wd.cs, Wd.bd]; omega
    · simp [U.Tm.pr, hd, Wd.cs, Wd.bd]
  · refine ⟨_, .n1 .second [] k, by decide, ⟨⟨rfl, rfl, hk.ok⟩, hk.nm, ?_, ?_, ?_⟩, ?_, rfl⟩
    · simp only [U.Tm.size]; omega
    · simp only [U.Tm.depth]; omega
    · simp [U.Tm.pr, hd, Wd.cs, Wd.bd]; omega
    · simp [U.Tm.pr, hd, Wd.cs, Wd.bd]
  · refine ⟨_, .n1 .deff l2 k, ?_, ⟨⟨rfl, o2, hk.ok⟩, hk.nm, ?_, ?_, ?_⟩, ?_, rfl⟩
    · simp; omega
    · simp only [U.Tm.size]; omega
    · simp only [U.Tm.depth]; omega
    · simp [U.Tm.pr, hd, Wd.cs, Wd.bd]; omega
    · simp [U.Tm.pr, hd, Wd.cs, Wd.bd]
  · refine ⟨_, .n2 .sum [] z k, ?_, ⟨⟨rfl, rfl, hz.ok, hk.ok⟩, ⟨hz.nm, hk.nm⟩, ?_, ?_, ?_⟩, ?_, rfl⟩
    · simp; omega
    · simp only [U.Tm.size]; omega
    · simp only [U.Tm.depth]; omega
    · simp [U.Tm.pr, hd, Wd.cs, Wd.bd]; omega
    · simp [U.Tm.pr, hd, Wd.cs, Wd.bd]
  · refine ⟨_, .n2 .lett l2 z k, ?_, ⟨⟨rfl, o2, hz.ok, hk.ok⟩, ⟨hz.nm, hk.nm⟩, ?_, ?_, ?_⟩, ?_, rfl⟩
    · simp; omega
    · simp only [U.Tm.size]; omega
    · simp only [U.Tm.depth]; omega
    · simp [U.Tm.pr, hd, Wd.cs, Wd.bd]; omega
    · simp [U.Tm.pr, hd, Wd.cs, Wd.bd]
theorem ch_fit {l2 : List Nat} {k : U.Tm} {j : Nat} (h : Ch l2 k j) (hj : j ≤ 30) : Fit k [tx l2] ∧ k.pr.length ≤ 2000 ∧ k.depth ≤ 30 := by
  obtain ⟨h1, h2, h3, h4, h5⟩ := h
  exact ⟨⟨sizeLine_ge (by omega), h1, by omega, by omega, by simp, h2⟩, by omega, by omega⟩
def spChain : Sp := fun vs H Q _ => ∃ (p aA : Addr) (c : Int) (l1 l2 l3 : List Nat) (m : Nat), vs = [.ref p, .ref aA, .int (m : Int)] ∧ Purse H p c ∧ c < 2 ^ 38 ∧ H aA = some (.lst [.str (tx l1), .str (tx l2), .str (tx l3)]) ∧ aA ≠ p ∧ NumOk l1 ∧ SmallOk l2 ∧ GreatOk l3 ∧ m ≤ 30 ∧
  ∀ H' k, But p H H' → Purse H' p (c + 100) → Ch l2 k m → Q (.str (tx k.pr)) H'
def spLaw (K : PySem.W.Frag) : Sp := fun vs H Q _ => ∃ (l : Addr) (ns : List Int), vs = [.ref l] ∧ SqL K H l (ns.map V.int) ∧ ns.length ≤ 63 ∧ ∀ H', Q (.bl true) H'
section
variable {P : Program} {w : World} {K : PySem.W.Frag} {mg : Str → Option Value} {base : Heap} {dW dB : Addr} {esW : Array DictEntry} {nW : Nat} (T : Txt K mg w dW dB esW nW)
include T
theorem ok__law_chain {f f1 : Addr} {fd fd1 : FuncData} (F : Fun K "_law_chain" "_law_chain" s__law_chain f fd) (h__law_take : Has P w K mg base "_law_take" 1 ["_law_purse_here", "_law_many"] spTake f1 fd1) : FnOk P w K mg base CX0 2 f fd ["_law_purse_here", "_law_atoms", "_law_many"] spChain := by
  refine F.ok sc__law_chain (fun vs H Q E h => ?_) (fun cdv A outer s H vs Q E hr h => ?_)
  · obtain ⟨p, aA, c, l1, l2, l3, m, rfl, _⟩ := h
    rfl
  · obtain ⟨p, aA, c, l1, l2, l3, m, rfl, P0, hc, eA, nA, o1, o2, o3, hm, q⟩ := h
    refine ⟨_, (pss_cons (ps_set (i := 3) sc__law_chain.nd rfl (.inl rfl) (pe_ix ix_list (pv 1) (pe_callH h__law_take (hr.mono (by first | decide | omega)) (by rfl) (pa_cons (pv 0) (pa_cons pe_int pa_nil))) (fun _ _ => rfl)))
      (pss_cons (ps_for PassesOwn.never rfl (pi_range1 (by rfl) T.z_range (pa_cons (pv 2) pa_nil)) (pg_name (i := 4) sc__law_chain.nd rfl (.inl rfl)) 
        (pss_cons (ps_par (i := 5) (j := 6) (by rfl) sc__law_chain.nd rfl rfl (by decide) rfl rfl (pa_cons (pe_callH h__law_take (hr.mono (by first | decide | omega)) (by rfl) (pa_cons (pv 0) (pa_cons pe_int pa_nil))) (pa_cons (pe_ix ix_list (pv 1) (pe_callH h__law_take (hr.mono (by first | decide | omega)) (by rfl) (pa_cons (pv 0) (pa_cons pe_int pa_nil))) (fun _ _ => rfl)) pa_nil)) (by rfl))
        (pss_cons (ps_set (i := 7) sc__law_chain.nd rfl (.inl rfl) (pe_lst (pa_cons pe_str (pa_cons pe_str (pa_cons (pe_op op_add_str pe_str (pe_ix ix_list (pv 1) pe_int (fun _ _ => rfl))) (pa_cons (pe_op op_add_str pe_str (pv 6)) (pa_cons (pe_op op_add_str (pe_op op_add_str (pe_op op_add_str pe_str (pe_ix ix_list (pv 1) pe_int (fun _ _ => rfl))) pe_str) (pv 6)) pa_nil)))))))
        (pss_one (ps_set (i := 3) sc__law_chain.nd rfl (.inl rfl) (pe_op op_add_str (pe_op op_add_str (pe_op op_add_str (pe_op op_add_str pe_str (pe_ix ix_list (pv 7) (pv 5) (fun _ _ => rfl))) pe_str) (pv 3)) pe_str))))))
      (pss_one (ps_ret (pv 3))))), ?_⟩
    have e38 : (2 : Int) ^ 38 = 274877906944 := by decide
    have e40 : (2 : Int) ^ 40 = 1099511627776 := by decide
    refine ⟨_, rfl, _, rfl, p, 3, c, rfl, P0, by omega, by decide, by decide, fun r H1 h0 h1 P1 b1 => ?_⟩
    obtain ⟨z, hz, hat⟩ := ch_atom h0 h1 o1 o2 o3
    refine ⟨aA, _, _, _, rfl, rfl, .inl (.inl (b1 _ _ eA nA)), hat, ?_⟩
    refine ⟨_, rfl, _, rfl, by omega, by omega, for_range (fun (j : Nat) σ H' => ∃ (k : U.Tm) (a4 a5 a6 a7 : Option V), σ = [some (.ref p), some (.ref aA), some (.int (m : Int)), some (.str (tx k.pr)), a4, a5, a6, a7] ∧ But p H H' ∧ Purse H' p (c + 1 + 2 * j) ∧ Ch l2 k j) ⟨z, _, _, _, _, rfl, b1, P1.mono (by omega), hz⟩ ?_ ?_⟩
    · rintro j σ H2 hj ⟨k, a4, a5, a6, a7, rfl, b2, P2, hk⟩
      have hj : j < 30 := by omega
      have kl := hk.len
      refine ⟨_, rfl, p, 5, _, rfl, P2, by omega, by decide, by decide, fun r2 H3 h20 h21 P3 b3 => ?_⟩
      refine ⟨_, rfl, _, rfl, p, 3, _, rfl, P3, by omega, by decide, by decide, fun r3 H4 h30 h31 P4 b4 => ?_⟩
      obtain ⟨z2, hz2, hat2⟩ := ch_atom h30 h31 o1 o2 o3
      have zl := hz2.len
      have b24 := b2.trans (b3.trans b4)
      refine ⟨aA, _, _, _, rfl, rfl, .inl (.inl (b24 _ _ eA nA)), hat2, _, _, rfl, ?_⟩
      obtain ⟨hl, k', lh, hk', pr', hat3⟩ := ch_step h20 h21 o2 hk hz2
      have l4 := o2.2.1
      have y1 : (Str.ofString "def ").length = 4 := by decide +kernel
      have y2 : (Str.ofString "sum ").length = 4 := by decide +kernel
      have y3 : (Str.ofString "let ").length = 4 := by decide +kernel
      have y4 : (Str.ofString " ").length = 1 := by decide +kernel
      have y5 : (Str.ofString "(").length = 1 := by decide +kernel
      have y6 : (Str.ofString ")").length = 1 := by decide +kernel
      have app : ∀ a b : Str, (a ++ b).length = a.length + b.length := fun a b => by
        show (a.cps ++ b.cps).size = _
        simp [Str.length]
      refine ⟨_, rfl, _, _, _, _, rfl, rfl, .inl (.inl (b24 _ _ eA nA)), rfl, _, _, rfl, rfl, by rw [y1, tx_len]; exact sizeLine_ge (by omega), _, rfl, _, _, rfl, rfl, by rw [y2, tx_len]; exact sizeLine_ge (by omega), _, rfl, _, _, _, _, rfl, rfl, .inl (.inl (b24 _ _ eA nA)), rfl, _, _, rfl, rfl, by rw [y3, tx_len]; exact sizeLine_ge (by omega), _, _, rfl, rfl, by rw [app, y3, y4, tx_len]; exact sizeLine_ge (by omega), _, rfl, _, _, rfl, rfl, by rw [app, app, y3, y4, tx_len, tx_len]; exact sizeLine_ge (by omega), sizeLine_ge (by show 5 ≤ 10000; decide), fun q1 hq1 => ?_⟩
      refine ⟨_, rfl, _, rfl, q1, _, _, _, rfl, rfl, .inl (.inl upd_same), hat3, ?_⟩
      refine ⟨_, _, rfl, rfl, by rw [y5, tx_len]; exact sizeLine_ge (by omega), _, _, rfl, rfl, by rw [app, y5, y4, tx_len]; exact sizeLine_ge (by omega), _, rfl, _, _, rfl, rfl, by rw [app, app, y5, y4, tx_len, tx_len]; exact sizeLine_ge (by omega), _, _, rfl, rfl, by rw [app, app, app, y5, y4, y6, tx_len, tx_len]; exact sizeLine_ge (by omega), ?_⟩
      have et : (Str.ofString "(" ++ tx hl ++ Str.ofString " " ++ tx k.pr ++ Str.ofString ")" : Str) = tx k'.pr := by
        rw [show Str.ofString "(" = tx [40] by decide +kernel, show Str.ofString " " = tx [32] by decide +kernel, show Str.ofString ")" = tx [41] by decide +kernel, tx_app, tx_app, tx_app, tx_app, pr']
      rw [et]
      exact ⟨k', _, _, _, _, rfl, b24.trans (But.of_same (same_new hq1)), (P4.same (same_new hq1)).mono (by omega), hk'⟩
    · rintro σ H2 ⟨k, a4, a5, a6, a7, rfl, b2, P2, hk⟩
      have hmm : ((m : Int)).toNat = m := Int.toNat_natCast m
      rw [hmm] at hk P2
      exact ⟨_, rfl, q H2 k b2 (P2.mono (by omega)) hk⟩
theorem ok_law {f f0 f1 f2 f3 f4 f5 f6 f7 f8 f9 C CT : Addr} {fd fd0 fd1 fd2 fd3 fd4 fd5 fd6 fd7 fd8 fd9 : FuncData} (F : Fun K "law" "law" s_law f fd) (hCl : Cls K CT) (m_Term : HasC P w K mg base "Term" CT 7 ["self", "text"] (spTermInit CT C) f0 fd0)
    (hS : HasM P w K mg base CT "__str__" 1 ["self"] (spTermStr CT C) f1 fd1) (hIn : HasT P w K mg base CT "inner" 9 ["self"] (spTermInner CT C) f2 fd2) (h__law_purse : Has P w K mg base "_law_purse" 1 ["_law_script", "_law_at"] (spPurse K) f3 fd3)
    (h__law_take : Has P w K mg base "_law_take" 1 ["_law_purse_here", "_law_many"] spTake f4 fd4) (h__law_names : Has P w K mg base "_law_names" 2 ["_law_purse_here", "_law_many", "_law_signs", "_law_wide"] spNames f5 fd5)
    (h__law_number : Has P w K mg base "_law_number" 2 ["_law_purse_here"] spNumber f6 fd6) (h__law_drawn : Has P w K mg base "_law_drawn" 8 ["_law_purse_here"] spDrawn f7 fd7) (h__law_whole : Has P w K mg base "_law_whole" 40 ["_law_term"] (spWhole CT C 31) f8 fd8)
    (h__law_names_right : Has P w K mg base "_law_names_right" 5 ["_law_term", "_law_inner"] (spNR CT C) f9 fd9) {f10 : Addr} {fd10 : FuncData} (h__law_chain : Has P w K mg base "_law_chain" 2 ["_law_purse_here", "_law_atoms", "_law_many"] spChain f10 fd10) : FnOk P w K mg base CX0 41 f fd ["_law_script"] (spLaw K) := by
  refine F.ok sc_law (fun vs H Q E h => ?_) (fun cdv A outer s H vs Q E hr h => ?_)
  · obtain ⟨a, ns, rfl, _⟩ := h
    rfl
  · obtain ⟨l, ns, rfl, hl, hlen, q⟩ := h
    refine ⟨_, (pss_cons (ps_for PassesOwn.never rfl (pi_range1 (by rfl) T.z_range (pa_cons (pe_callB (call_max2 rfl) (by rfl) T.z_max (by decide +kernel) (pa_cons pe_int (pa_cons (pe_callB (call_min2 rfl) (by rfl) T.z_min (by decide +kernel) (pa_cons pe_int (pa_cons (pe_callB call_len_seq (by rfl) T.z_len (by decide +kernel) (pa_cons (pv 0) pa_nil)) pa_nil))) pa_nil))) pa_nil)) (pg_name (i := 1) sc_law.nd rfl (.inl rfl)) 
        (pss_cons (ps_set (i := 2) sc_law.nd rfl (.inl rfl) (pe_callH h__law_purse (hr.mono (by first | decide | omega)) (by rfl) (pa_cons (pv 0) (pa_cons (pv 1) pa_nil))))
        (pss_cons (ps_set (i := 3) sc_law.nd rfl (.inl rfl) (pe_callH h__law_drawn (hr.mono (by first | decide | omega)) (by rfl) (pa_cons (pv 2) pa_nil)))
        (pss_cons (ps_set (i := 4) sc_law.nd rfl (.inl rfl) (pe_ix ix_list (pe_callH h__law_names (hr.mono (by first | decide | omega)) (by rfl) (pa_cons (pv 2) (pa_cons pe_int (pa_cons pe_str (pa_cons pe_int pa_nil))))) pe_int (fun _ _ => rfl)))
        (pss_cons (ps_set (i := 5) sc_law.nd rfl (.inl rfl) (pe_lst (pa_cons (pe_callH h__law_number (hr.mono (by first | decide | omega)) (by rfl) (pa_cons (pv 2) pa_nil)) (pa_cons (pv 4) (pa_cons (pe_ix ix_list (pe_callH h__law_names (hr.mono (by first | decide | omega)) (by rfl) (pa_cons (pv 2) (pa_cons pe_int (pa_cons pe_str (pa_cons pe_int pa_nil))))) pe_int (fun _ _ => rfl)) pa_nil)))))
        (pss_one (ps_for PassesOwn.never rfl (pi_list (pe_lst (pa_cons (pe_ix ix_tup (pv 3) pe_int (fun _ _ => rfl)) (pa_cons (pe_callH h__law_chain (hr.mono (by first | decide | omega)) (by rfl) (pa_cons (pv 2) (pa_cons (pv 5) (pa_cons (pe_callH h__law_take (hr.mono (by first | decide | omega)) (by rfl) (pa_cons (pv 2) (pa_cons pe_int pa_nil))) pa_nil)))) pa_nil)))) (pg_name (i := 6) sc_law.nd rfl (.inl rfl)) 
          (pss_cons (ps_set (i := 7) sc_law.nd rfl (.inl rfl) (pe_makeH m_Term (hr.mono (by first | decide | omega)) (by rfl) (pa_cons (pv 6) pa_nil)))
          (pss_one (ps_if (PW.pt (pw_or (pt_cmpR op_ne (pe_callTy (call_strOwn hS.ok hS.bi pass0 hS.at_ hS.fn (hr.mono (by first | decide | omega))) (by rfl) T.z_str (by decide +kernel) (pa_cons (pv 7) pa_nil)) (pv 6) (nomark _)) (pw_or (pt_not (pt_val (pe_callH h__law_whole (hr.mono (by first | decide | omega)) (by rfl) (pa_cons (pv 7) pa_nil)))) (pw_or1 (pt_not (pt_val (pe_callH h__law_names_right (hr.mono (by first | decide | omega)) (by rfl) (pa_cons (pv 7) (pa_cons (pe_meth0 (pv 7) hCl hIn.me hIn.ok (hr.mono (by first | decide | omega)) hIn.bi .nil pass0) pa_nil))))))))) 
            (pss_one (ps_ret pe_bl)) pss_nil))))))))))
      (pss_one (ps_ret pe_bl))), ?_⟩
    have e38 : (2 : Int) ^ 38 = 274877906944 := by decide
    have e39 : (2 : Int) ^ 39 = 549755813888 := by decide
    have e40 : (2 : Int) ^ 40 = 1099511627776 := by decide
    refine ⟨_, rfl, l, _, rfl, .inl hl, _, _, rfl, _, _, rfl, ?_⟩
    have hb : (if (if ((ns.map V.int).length : Int) < 4 then ((ns.map V.int).length : Int) else 4) > 1 then (if ((ns.map V.int).length : Int) < 4 then ((ns.map V.int).length : Int) else 4) else 1) ≤ 4 ∧ 0 ≤ (if (if ((ns.map V.int).length : Int) < 4 then ((ns.map V.int).length : Int) else 4) > 1 then (if ((ns.map V.int).length : Int) < 4 then ((ns.map V.int).length : Int) else 4) else 1) := by
      split <;> split <;> omega
    refine ⟨_, rfl, by omega, by omega, for_range (fun _ σ H' => (∃ a1 a2 a3 a4 a5 a6 a7, σ = [some (.ref l), a1, a2, a3, a4, a5, a6, a7]) ∧ SqL K H' l (ns.map V.int)) ⟨⟨_, _, _, _, _, _, _, rfl⟩, hl⟩ ?_ ?_⟩
    · rintro i σ H0 hi ⟨⟨a1, a2, a3, a4, a5, a6, a7, rfl⟩, hl0⟩
      have hi : i ≤ 100 := by omega
      refine ⟨_, rfl, _, rfl, l, ns, i, ?_, hl0, hi, fun p pa pb hp ha hb hb2 => ?_⟩
      · rw [Int.zero_add]
        rfl
      have P0 : Purse (upd H0 p (.lst [.int pa, .int pb, .int 0])) p 0 := ⟨pa, pb, 0, upd_same, ha, hb, hb2, Int.le_refl _, Int.le_refl _⟩
      have s0 : Same H0 (upd H0 p (.lst [.int pa, .int pb, .int 0])) := same_new hp
      generalize upd H0 p (.lst [.int pa, .int pb, .int 0]) = H1 at P0 s0 ⊢
      have pn : ∀ {a : Addr} {G : Hp} {x : Int}, Purse G p x → G a = none → a ≠ p := fun P e => Ne.symm (P.ne e)
      refine ⟨_, rfl, p, 0, rfl, P0, by decide, fun r H2 k N b1 P1 n1 f1 l1 d1 => ?_⟩
      obtain ⟨_, ⟨li1, _, _, g1, _⟩, _⟩ := n1.head
      have nr : r ≠ p := by
        obtain ⟨_, _, _, e, _⟩ := P1
        exact ne_of g1 e (by intro z; cases z)
      refine ⟨_, rfl, p, _, smalls, 4, 1, by rw [smalls_tx]; rfl, P1, by omega, by decide, by decide, by decide, by decide, fun aS H3 ss b2 P2 nS eS lS oS => ?_⟩
      obtain ⟨l2, rfl⟩ : ∃ l2, ss = [l2] := List.length_eq_one_iff.mp lS
      have o2 : SmallOk l2 := oS l2 List.mem_cons_self
      refine ⟨aS, _, _, _, rfl, rfl, .inl (.inl eS), rfl, ?_⟩
      refine ⟨_, rfl, p, _, rfl, P2, by omega, fun H4 l1' b3 P3 o1 => ⟨_, rfl, ?_⟩⟩
      refine ⟨_, rfl, p, _, greats, 6, 1, by rw [greats_tx]; rfl, P3, by omega, by decide, by decide, by decide, by decide, fun aG H5 gs b4 P4 nG eG lG oG => ?_⟩
      obtain ⟨l3, rfl⟩ : ∃ l3, gs = [l3] := List.length_eq_one_iff.mp lG
      have o3 : GreatOk l3 := oG l3 List.mem_cons_self
      refine ⟨aG, _, _, _, rfl, rfl, .inl (.inl eG), rfl, sizeLine_ge (by show 3 ≤ 10000; decide), fun aA hA => ?_⟩
      have sA := same_new (o := .lst [.str (tx l1'), .str (tx l2), .str (tx l3)]) hA
      have eA : (upd H5 aA (.lst [.str (tx l1'), .str (tx l2), .str (tx l3)])) aA = some (.lst [.str (tx l1'), .str (tx l2), .str (tx l3)]) := upd_same
      have nA := pn P4 hA
      have P5 := P4.same sA
      have b5 : But p H2 (upd H5 aA (.lst [.str (tx l1'), .str (tx l2), .str (tx l3)])) := b2.trans (b3.trans (b4.trans (But.of_same sA)))
      generalize upd H5 aA (.lst [.str (tx l1'), .str (tx l2), .str (tx l3)]) = H6 at eA P5 b5 ⊢
      have g6 := b5 _ _ g1 nr
      refine ⟨_, rfl, r, _, _, _, rfl, rfl, .inl (.inl g6), rfl, _, rfl, _, rfl, _, rfl, p, 31, _, rfl, P5, by omega, by decide, by decide, fun r7 H7 h70 h71 P7 b7 => ?_⟩
      obtain ⟨m, rfl⟩ : ∃ m : Nat, r7 = m := ⟨r7.toNat, by omega⟩
      refine ⟨p, aA, _, l1', l2, l3, m, rfl, P7, by omega, b7 _ _ eA nA, nA, o1, o2, o3, by omega, fun H8 kc b8 P8 hch => ?_⟩
      obtain ⟨fc, lc, dc⟩ := ch_fit hch (by omega)
      refine ⟨sizeLine_ge (by show 2 ≤ 10000; decide), fun q1 hq1 => ?_⟩
      have s9 := same_new (o := .lst [.str (tx k.pr), .str (tx kc.pr)]) hq1
      have e9 : (upd H8 q1 (.lst [.str (tx k.pr), .str (tx kc.pr)])) q1 = some (.lst [.str (tx k.pr), .str (tx kc.pr)]) := upd_same
      have sAll : Same H0 (upd H8 q1 (.lst [.str (tx k.pr), .str (tx kc.pr)])) := (But.sameN ((b1.trans b5).trans (b7.trans b8)) s0 hp).trans s9
      generalize upd H8 q1 (.lst [.str (tx k.pr), .str (tx kc.pr)]) = H9 at s9 e9 sAll ⊢
      refine ⟨q1, rfl, ⟨_, .inl (.inl e9)⟩, for_it (walk_list (xs := [V.str (tx k.pr), .str (tx kc.pr)])) (fun _ σ H' => (∃ a1 a2 a3 a4 a5 a6 a7, σ = [some (.ref l), a1, a2, a3, a4, a5, a6, a7]) ∧ Same H9 H') ⟨⟨_, _, _, _, _, _, _, rfl⟩, Same.refl _⟩ (fun _ σ H' _ h => .inl (.inl (h.2 _ _ e9))) ?_ ?_⟩
      · rintro j x σ G G' hj ⟨⟨a1, a2, a3, a4, a5, a6, a7, rfl⟩, sG⟩ ⟨rfl, hx⟩
        obtain ⟨z, N, rfl, fz, lz, dz⟩ : ∃ z N, x = V.str (tx z.pr) ∧ Fit z N ∧ z.pr.length ≤ 2000 ∧ z.depth ≤ 30 := by
          have hj2 : j = 0 ∨ j = 1 := by
            have : [V.str (tx k.pr), V.str (tx kc.pr)].length = 2 := rfl
            omega
          rcases hj2 with rfl | rfl
          · exact ⟨k, N, (Option.some.inj hx).symm, f1, l1, by omega⟩
          · exact ⟨kc, _, (Option.some.inj hx).symm, fc, lc, dc⟩
        refine ⟨_, rfl, fun a dx ha hdx nxa => ⟨z, N, a, dx, rfl, fz, upd_same, fun G2 c2 t2 => ⟨rfl, ?_⟩⟩⟩
        have s2 : Same G' G2 := But.sameN c2 ((same_new hdx).trans (same_new (by rw [upd_ne (Ne.symm nxa)]; exact ha))) ha
        have B := t2.at_
        obtain ⟨dz2, tz2, rz2, ez2⟩ := B.some
        refine ⟨_, rfl, a, dz2, _, rfl, ez2, z, a, rfl, B, _, rfl, _, rfl, rfl, _, rfl, iteNS rfl ?_⟩
        refine ⟨_, rfl, z, N, a, rfl, B, fz, by omega, by omega, fun G3 s3 => ⟨true, rfl, iteF ?_⟩⟩
        refine ⟨_, rfl, _, rfl, a, dz2, _, rfl, s3 _ _ ez2, mF_no (by decide) (by decide) (by decide), z, N, a, rfl, B.same s3, fz, fun u G4 qs s4 n4 e4 p4 => ⟨z, N, a, u, qs, rfl, (B.same s3).same s4, fz, e4, Paired.mapP p4 fun q x h => h.at_, fun G5 s5 => ⟨true, rfl, iteF ?_⟩⟩⟩
        exact ⟨⟨_, _, _, _, _, _, _, rfl⟩, sG.trans (s2.trans (s3.trans (s4.trans s5)))⟩
      · rintro σ G ⟨⟨a1, a2, a3, a4, a5, a6, a7, rfl⟩, sG⟩
        exact ⟨⟨_, _, _, _, _, _, _, rfl⟩, (sAll.trans sG).seq hl0⟩
    · rintro σ H1 ⟨⟨a1, a2, a3, a4, a5, a6, a7, rfl⟩, hl0⟩
      exact q H1
end
end K


set_option Elab.async false
set_option linter.all false
set_option maxRecDepth 100000
set_option maxHeartbeats 4000000
namespace K
open PySem PySem.Spec PyProof.Rows L2 U SkE
theorem wkv_is : wkv = [(Str.ofString "sum", 2), (Str.ofString "less", 2), (Str.ofString "times", 2), (Str.ofString "below", 2), (Str.ofString "if", 3), (Str.ofString "pair", 2), (Str.ofString "first", 1), (Str.ofString "second", 1), (Str.ofString "let", 2), (Str.ofString "def", 1), (Str.ofString "call", 2)] := by decide +kernel
theorem wkv_nd : (wkv.map (·.1)).Nodup := by decide +kernel
theorem all_mk {l : PySem.W.OpenLaw} {w : World} {K : PySem.W.Frag} {h : Heap} {mg : Str → Option Value} {fa : Addr} (X : K.In h) (G : h.Ns mainGlobals mg) (hfa : mg "law" = some (.ref fa))
    {od_free_in an_free_in : Option Addr} {sl_free_in : Array (Option Value)} {oc_free_in kV_free_in dc_free_in pm_free_in cd_free_in ct_free_in : Value} {f_free_in : Addr}
    (a_free_in : PySem.W.nsIn K mainGlobals "free_in" = some (some (.ref f_free_in))) (l_free_in : K.lookup f_free_in = some ⟨oc_free_in, od_free_in, .func (PySem.W.fnOf "free_in" "free_in" (defArgs s_free_in) (defBody s_free_in) (defScope s_free_in) .none kV_free_in dc_free_in pm_free_in an_free_in cd_free_in ct_free_in), sl_free_in⟩) (c_free_in : PySem.W.codeIn K cd_free_in "free_in" = true) (k_free_in : PySem.W.keepIn K (.ref f_free_in) = true)
    {od_all_trees an_all_trees : Option Addr} {sl_all_trees : Array (Option Value)} {oc_all_trees kV_all_trees dc_all_trees pm_all_trees cd_all_trees ct_all_trees : Value} {f_all_trees : Addr}
    (a_all_trees : PySem.W.nsIn K mainGlobals "all_trees" = some (some (.ref f_all_trees))) (l_all_trees : K.lookup f_all_trees = some ⟨oc_all_trees, od_all_trees, .func (PySem.W.fnOf "all_trees" "all_trees" (defArgs s_all_trees) (defBody s_all_trees) (defScope s_all_trees) .none kV_all_trees dc_all_trees pm_all_trees an_all_trees cd_all_trees ct_all_trees), sl_all_trees⟩) (c_all_trees : PySem.W.codeIn K cd_all_trees "all_trees" = true) (k_all_trees : PySem.W.keepIn K (.ref f_all_trees) = true)
    {od_run_end an_run_end : Option Addr} {sl_run_end : Array (Option Value)} {oc_run_end kV_run_end dc_run_end pm_run_end cd_run_end ct_run_end : Value} {f_run_end : Addr}
    (a_run_end : PySem.W.nsIn K mainGlobals "run_end" = some (some (.ref f_run_end))) (l_run_end : K.lookup f_run_end = some ⟨oc_run_end, od_run_end, .func (PySem.W.fnOf "run_end" "run_end" (defArgs s_run_end) (defBody s_run_end) (defScope s_run_end) .none kV_run_end dc_run_end pm_run_end an_run_end cd_run_end ct_run_end), sl_run_end⟩) (c_run_end : PySem.W.codeIn K cd_run_end "run_end" = true) (k_run_end : PySem.W.keepIn K (.ref f_run_end) = true)
    {od_behind an_behind : Option Addr} {sl_behind : Array (Option Value)} {oc_behind kV_behind dc_behind pm_behind cd_behind ct_behind : Value} {f_behind : Addr}
    (a_behind : PySem.W.nsIn K mainGlobals "behind" = some (some (.ref f_behind))) (l_behind : K.lookup f_behind = some ⟨oc_behind, od_behind, .func (PySem.W.fnOf "behind" "behind" (defArgs s_behind) (defBody s_behind) (defScope s_behind) .none kV_behind dc_behind pm_behind an_behind cd_behind ct_behind), sl_behind⟩) (c_behind : PySem.W.codeIn K cd_behind "behind" = true) (k_behind : PySem.W.keepIn K (.ref f_behind) = true)
    {od_number_end an_number_end : Option Addr} {sl_number_end : Array (Option Value)} {oc_number_end kV_number_end dc_number_end pm_number_end cd_number_end ct_number_end : Value} {f_number_end : Addr}
    (a_number_end : PySem.W.nsIn K mainGlobals "number_end" = some (some (.ref f_number_end))) (l_number_end : K.lookup f_number_end = some ⟨oc_number_end, od_number_end, .func (PySem.W.fnOf "number_end" "number_end" (defArgs s_number_end) (defBody s_number_end) (defScope s_number_end) .none kV_number_end dc_number_end pm_number_end an_number_end cd_number_end ct_number_end), sl_number_end⟩) (c_number_end : PySem.W.codeIn K cd_number_end "number_end" = true) (k_number_end : PySem.W.keepIn K (.ref f_number_end) = true)
    {od_word_end an_word_end : Option Addr} {sl_word_end : Array (Option Value)} {oc_word_end kV_word_end dc_word_end pm_word_end cd_word_end ct_word_end : Value} {f_word_end : Addr}
    (a_word_end : PySem.W.nsIn K mainGlobals "word_end" = some (some (.ref f_word_end))) (l_word_end : K.lookup f_word_end = some ⟨oc_word_end, od_word_end, .func (PySem.W.fnOf "word_end" "word_end" (defArgs s_word_end) (defBody s_word_end) (defScope s_word_end) .none kV_word_end dc_word_end pm_word_end an_word_end cd_word_end ct_word_end), sl_word_end⟩) (c_word_end : PySem.W.codeIn K cd_word_end "word_end" = true) (k_word_end : PySem.W.keepIn K (.ref f_word_end) = true)
    {od_small_end an_small_end : Option Addr} {sl_small_end : Array (Option Value)} {oc_small_end kV_small_end dc_small_end pm_small_end cd_small_end ct_small_end : Value} {f_small_end : Addr}
    (a_small_end : PySem.W.nsIn K mainGlobals "small_end" = some (some (.ref f_small_end))) (l_small_end : K.lookup f_small_end = some ⟨oc_small_end, od_small_end, .func (PySem.W.fnOf "small_end" "small_end" (defArgs s_small_end) (defBody s_small_end) (defScope s_small_end) .none kV_small_end dc_small_end pm_small_end an_small_end cd_small_end ct_small_end), sl_small_end⟩) (c_small_end : PySem.W.codeIn K cd_small_end "small_end" = true) (k_small_end : PySem.W.keepIn K (.ref f_small_end) = true)
    {od_bracket_at an_bracket_at : Option Addr} {sl_bracket_at : Array (Option Value)} {oc_bracket_at kV_bracket_at dc_bracket_at pm_bracket_at cd_bracket_at ct_bracket_at : Value} {f_bracket_at : Addr}
    (a_bracket_at : PySem.W.nsIn K mainGlobals "bracket_at" = some (some (.ref f_bracket_at))) (l_bracket_at : K.lookup f_bracket_at = some ⟨oc_bracket_at, od_bracket_at, .func (PySem.W.fnOf "bracket_at" "bracket_at" (defArgs s_bracket_at) (defBody s_bracket_at) (defScope s_bracket_at) .none kV_bracket_at dc_bracket_at pm_bracket_at an_bracket_at cd_bracket_at ct_bracket_at), sl_bracket_at⟩) (c_bracket_at : PySem.W.codeIn K cd_bracket_at "bracket_at" = true) (k_bracket_at : PySem.W.keepIn K (.ref f_bracket_at) = true)
    {od_piece_at an_piece_at : Option Addr} {sl_piece_at : Array (Option Value)} {oc_piece_at kV_piece_at dc_piece_at pm_piece_at cd_piece_at ct_piece_at : Value} {f_piece_at : Addr}
    (a_piece_at : PySem.W.nsIn K mainGlobals "piece_at" = some (some (.ref f_piece_at))) (l_piece_at : K.lookup f_piece_at = some ⟨oc_piece_at, od_piece_at, .func (PySem.W.fnOf "piece_at" "piece_at" (defArgs s_piece_at) (defBody s_piece_at) (defScope s_piece_at) .none kV_piece_at dc_piece_at pm_piece_at an_piece_at cd_piece_at ct_piece_at), sl_piece_at⟩) (c_piece_at : PySem.W.codeIn K cd_piece_at "piece_at" = true) (k_piece_at : PySem.W.keepIn K (.ref f_piece_at) = true)
    {od_pieces_of an_pieces_of : Option Addr} {sl_pieces_of : Array (Option Value)} {oc_pieces_of kV_pieces_of dc_pieces_of pm_pieces_of cd_pieces_of ct_pieces_of : Value} {f_pieces_of : Addr}
    (a_pieces_of : PySem.W.nsIn K mainGlobals "pieces_of" = some (some (.ref f_pieces_of))) (l_pieces_of : K.lookup f_pieces_of = some ⟨oc_pieces_of, od_pieces_of, .func (PySem.W.fnOf "pieces_of" "pieces_of" (defArgs s_pieces_of) (defBody s_pieces_of) (defScope s_pieces_of) .none kV_pieces_of dc_pieces_of pm_pieces_of an_pieces_of cd_pieces_of ct_pieces_of), sl_pieces_of⟩) (c_pieces_of : PySem.W.codeIn K cd_pieces_of "pieces_of" = true) (k_pieces_of : PySem.W.keepIn K (.ref f_pieces_of) = true)
    {od_check_size an_check_size : Option Addr} {sl_check_size : Array (Option Value)} {oc_check_size kV_check_size dc_check_size pm_check_size cd_check_size ct_check_size : Value} {f_check_size : Addr}
    (a_check_size : PySem.W.nsIn K mainGlobals "check_size" = some (some (.ref f_check_size))) (l_check_size : K.lookup f_check_size = some ⟨oc_check_size, od_check_size, .func (PySem.W.fnOf "check_size" "check_size" (defArgs s_check_size) (defBody s_check_size) (defScope s_check_size) .none kV_check_size dc_check_size pm_check_size an_check_size cd_check_size ct_check_size), sl_check_size⟩) (c_check_size : PySem.W.codeIn K cd_check_size "check_size" = true) (k_check_size : PySem.W.keepIn K (.ref f_check_size) = true)
    {od_built an_built : Option Addr} {sl_built : Array (Option Value)} {oc_built kV_built dc_built pm_built cd_built ct_built : Value} {f_built : Addr}
    (a_built : PySem.W.nsIn K mainGlobals "built" = some (some (.ref f_built))) (l_built : K.lookup f_built = some ⟨oc_built, od_built, .func (PySem.W.fnOf "built" "built" (defArgs s_built) (defBody s_built) (defScope s_built) .none kV_built dc_built pm_built an_built cd_built ct_built), sl_built⟩) (c_built : PySem.W.codeIn K cd_built "built" = true) (k_built : PySem.W.keepIn K (.ref f_built) = true)
    {od_tree_of an_tree_of : Option Addr} {sl_tree_of : Array (Option Value)} {oc_tree_of kV_tree_of dc_tree_of pm_tree_of cd_tree_of ct_tree_of : Value} {f_tree_of : Addr}
    (a_tree_of : PySem.W.nsIn K mainGlobals "tree_of" = some (some (.ref f_tree_of))) (l_tree_of : K.lookup f_tree_of = some ⟨oc_tree_of, od_tree_of, .func (PySem.W.fnOf "tree_of" "tree_of" (defArgs s_tree_of) (defBody s_tree_of) (defScope s_tree_of) .none kV_tree_of dc_tree_of pm_tree_of an_tree_of cd_tree_of ct_tree_of), sl_tree_of⟩) (c_tree_of : PySem.W.codeIn K cd_tree_of "tree_of" = true) (k_tree_of : PySem.W.keepIn K (.ref f_tree_of) = true)
    {od__law_purse an__law_purse : Option Addr} {sl__law_purse : Array (Option Value)} {oc__law_purse kV__law_purse dc__law_purse pm__law_purse cd__law_purse ct__law_purse : Value} {f__law_purse : Addr}
    (a__law_purse : PySem.W.nsIn K mainGlobals "_law_purse" = some (some (.ref f__law_purse))) (l__law_purse : K.lookup f__law_purse = some ⟨oc__law_purse, od__law_purse, .func (PySem.W.fnOf "_law_purse" "_law_purse" (defArgs s__law_purse) (defBody s__law_purse) (defScope s__law_purse) .none kV__law_purse dc__law_purse pm__law_purse an__law_purse cd__law_purse ct__law_purse), sl__law_purse⟩) (c__law_purse : PySem.W.codeIn K cd__law_purse "_law_purse" = true) (k__law_purse : PySem.W.keepIn K (.ref f__law_purse) = true)
    {od__law_take an__law_take : Option Addr} {sl__law_take : Array (Option Value)} {oc__law_take kV__law_take dc__law_take pm__law_take cd__law_take ct__law_take : Value} {f__law_take : Addr}
    (a__law_take : PySem.W.nsIn K mainGlobals "_law_take" = some (some (.ref f__law_take))) (l__law_take : K.lookup f__law_take = some ⟨oc__law_take, od__law_take, .func (PySem.W.fnOf "_law_take" "_law_take" (defArgs s__law_take) (defBody s__law_take) (defScope s__law_take) .none kV__law_take dc__law_take pm__law_take an__law_take cd__law_take ct__law_take), sl__law_take⟩) (c__law_take : PySem.W.codeIn K cd__law_take "_law_take" = true) (k__law_take : PySem.W.keepIn K (.ref f__law_take) = true)
    {od__law_names an__law_names : Option Addr} {sl__law_names : Array (Option Value)} {oc__law_names kV__law_names dc__law_names pm__law_names cd__law_names ct__law_names : Value} {f__law_names : Addr}
    (a__law_names : PySem.W.nsIn K mainGlobals "_law_names" = some (some (.ref f__law_names))) (l__law_names : K.lookup f__law_names = some ⟨oc__law_names, od__law_names, .func (PySem.W.fnOf "_law_names" "_law_names" (defArgs s__law_names) (defBody s__law_names) (defScope s__law_names) .none kV__law_names dc__law_names pm__law_names an__law_names cd__law_names ct__law_names), sl__law_names⟩) (c__law_names : PySem.W.codeIn K cd__law_names "_law_names" = true) (k__law_names : PySem.W.keepIn K (.ref f__law_names) = true)
    {od__law_number an__law_number : Option Addr} {sl__law_number : Array (Option Value)} {oc__law_number kV__law_number dc__law_number pm__law_number cd__law_number ct__law_number : Value} {f__law_number : Addr}
    (a__law_number : PySem.W.nsIn K mainGlobals "_law_number" = some (some (.ref f__law_number))) (l__law_number : K.lookup f__law_number = some ⟨oc__law_number, od__law_number, .func (PySem.W.fnOf "_law_number" "_law_number" (defArgs s__law_number) (defBody s__law_number) (defScope s__law_number) .none kV__law_number dc__law_number pm__law_number an__law_number cd__law_number ct__law_number), sl__law_number⟩) (c__law_number : PySem.W.codeIn K cd__law_number "_law_number" = true) (k__law_number : PySem.W.keepIn K (.ref f__law_number) = true)
    {od__law_tree an__law_tree : Option Addr} {sl__law_tree : Array (Option Value)} {oc__law_tree kV__law_tree dc__law_tree pm__law_tree cd__law_tree ct__law_tree : Value} {f__law_tree : Addr}
    (a__law_tree : PySem.W.nsIn K mainGlobals "_law_tree" = some (some (.ref f__law_tree))) (l__law_tree : K.lookup f__law_tree = some ⟨oc__law_tree, od__law_tree, .func (PySem.W.fnOf "_law_tree" "_law_tree" (defArgs s__law_tree) (defBody s__law_tree) (defScope s__law_tree) .none kV__law_tree dc__law_tree pm__law_tree an__law_tree cd__law_tree ct__law_tree), sl__law_tree⟩) (c__law_tree : PySem.W.codeIn K cd__law_tree "_law_tree" = true) (k__law_tree : PySem.W.keepIn K (.ref f__law_tree) = true)
    {od__law_drawn an__law_drawn : Option Addr} {sl__law_drawn : Array (Option Value)} {oc__law_drawn kV__law_drawn dc__law_drawn pm__law_drawn cd__law_drawn ct__law_drawn : Value} {f__law_drawn : Addr}
    (a__law_drawn : PySem.W.nsIn K mainGlobals "_law_drawn" = some (some (.ref f__law_drawn))) (l__law_drawn : K.lookup f__law_drawn = some ⟨oc__law_drawn, od__law_drawn, .func (PySem.W.fnOf "_law_drawn" "_law_drawn" (defArgs s__law_drawn) (defBody s__law_drawn) (defScope s__law_drawn) .none kV__law_drawn dc__law_drawn pm__law_drawn an__law_drawn cd__law_drawn ct__law_drawn), sl__law_drawn⟩) (c__law_drawn : PySem.W.codeIn K cd__law_drawn "_law_drawn" = true) (k__law_drawn : PySem.W.keepIn K (.ref f__law_drawn) = true)
    {od__law_union an__law_union : Option Addr} {sl__law_union : Array (Option Value)} {oc__law_union kV__law_union dc__law_union pm__law_union cd__law_union ct__law_union : Value} {f__law_union : Addr}
    (a__law_union : PySem.W.nsIn K mainGlobals "_law_union" = some (some (.ref f__law_union))) (l__law_union : K.lookup f__law_union = some ⟨oc__law_union, od__law_union, .func (PySem.W.fnOf "_law_union" "_law_union" (defArgs s__law_union) (defBody s__law_union) (defScope s__law_union) .none kV__law_union dc__law_union pm__law_union an__law_union cd__law_union ct__law_union), sl__law_union⟩) (c__law_union : PySem.W.codeIn K cd__law_union "_law_union" = true) (k__law_union : PySem.W.keepIn K (.ref f__law_union) = true)
    {od__law_names_right an__law_names_right : Option Addr} {sl__law_names_right : Array (Option Value)} {oc__law_names_right kV__law_names_right dc__law_names_right pm__law_names_right cd__law_names_right ct__law_names_right : Value} {f__law_names_right : Addr}
    (a__law_names_right : PySem.W.nsIn K mainGlobals "_law_names_right" = some (some (.ref f__law_names_right))) (l__law_names_right : K.lookup f__law_names_right = some ⟨oc__law_names_right, od__law_names_right, .func (PySem.W.fnOf "_law_names_right" "_law_names_right" (defArgs s__law_names_right) (defBody s__law_names_right) (defScope s__law_names_right) .none kV__law_names_right dc__law_names_right pm__law_names_right an__law_names_right cd__law_names_right ct__law_names_right), sl__law_names_right⟩) (c__law_names_right : PySem.W.codeIn K cd__law_names_right "_law_names_right" = true) (k__law_names_right : PySem.W.keepIn K (.ref f__law_names_right) = true)
    {od__law_whole an__law_whole : Option Addr} {sl__law_whole : Array (Option Value)} {oc__law_whole kV__law_whole dc__law_whole pm__law_whole cd__law_whole ct__law_whole : Value} {f__law_whole : Addr}
    (a__law_whole : PySem.W.nsIn K mainGlobals "_law_whole" = some (some (.ref f__law_whole))) (l__law_whole : K.lookup f__law_whole = some ⟨oc__law_whole, od__law_whole, .func (PySem.W.fnOf "_law_whole" "_law_whole" (defArgs s__law_whole) (defBody s__law_whole) (defScope s__law_whole) .none kV__law_whole dc__law_whole pm__law_whole an__law_whole cd__law_whole ct__law_whole), sl__law_whole⟩) (c__law_whole : PySem.W.codeIn K cd__law_whole "_law_whole" = true) (k__law_whole : PySem.W.keepIn K (.ref f__law_whole) = true)
    {od__law_chain an__law_chain : Option Addr} {sl__law_chain : Array (Option Value)} {oc__law_chain kV__law_chain dc__law_chain pm__law_chain cd__law_chain ct__law_chain : Value} {f__law_chain : Addr}
    (a__law_chain : PySem.W.nsIn K mainGlobals "_law_chain" = some (some (.ref f__law_chain))) (l__law_chain : K.lookup f__law_chain = some ⟨oc__law_chain, od__law_chain, .func (PySem.W.fnOf "_law_chain" "_law_chain" (defArgs s__law_chain) (defBody s__law_chain) (defScope s__law_chain) .none kV__law_chain dc__law_chain pm__law_chain an__law_chain cd__law_chain ct__law_chain), sl__law_chain⟩) (c__law_chain : PySem.W.codeIn K cd__law_chain "_law_chain" = true) (k__law_chain : PySem.W.keepIn K (.ref f__law_chain) = true)
    {od_law an_law : Option Addr} {sl_law : Array (Option Value)} {oc_law kV_law dc_law pm_law cd_law ct_law : Value} {f_law : Addr}
    (a_law : PySem.W.nsIn K mainGlobals "law" = some (some (.ref f_law))) (l_law : K.lookup f_law = some ⟨oc_law, od_law, .func (PySem.W.fnOf "law" "law" (defArgs s_law) (defBody s_law) (defScope s_law) .none kV_law dc_law pm_law an_law cd_law ct_law), sl_law⟩) (c_law : PySem.W.codeIn K cd_law "law" = true) (k_law : PySem.W.keepIn K (.ref f_law) = true)
    {od_Tree___init__ an_Tree___init__ : Option Addr} {sl_Tree___init__ : Array (Option Value)} {oc_Tree___init__ kV_Tree___init__ dc_Tree___init__ pm_Tree___init__ cd_Tree___init__ ct_Tree___init__ : Value} {f_Tree___init__ : Addr}
    (l_Tree___init__ : K.lookup f_Tree___init__ = some ⟨oc_Tree___init__, od_Tree___init__, .func (PySem.W.fnOf "__init__" "Tree.__init__" (defArgs s_Tree___init__) (defBody s_Tree___init__) (defScope s_Tree___init__) .none kV_Tree___init__ dc_Tree___init__ pm_Tree___init__ an_Tree___init__ cd_Tree___init__ ct_Tree___init__), sl_Tree___init__⟩) (c_Tree___init__ : PySem.W.codeIn K cd_Tree___init__ "Tree.__init__" = true) (k_Tree___init__ : PySem.W.keepIn K (.ref f_Tree___init__) = true)
    {od_Term___init__ an_Term___init__ : Option Addr} {sl_Term___init__ : Array (Option Value)} {oc_Term___init__ kV_Term___init__ dc_Term___init__ pm_Term___init__ cd_Term___init__ ct_Term___init__ : Value} {f_Term___init__ : Addr}
    (l_Term___init__ : K.lookup f_Term___init__ = some ⟨oc_Term___init__, od_Term___init__, .func (PySem.W.fnOf "__init__" "Term.__init__" (defArgs s_Term___init__) (defBody s_Term___init__) (defScope s_Term___init__) .none kV_Term___init__ dc_Term___init__ pm_Term___init__ an_Term___init__ cd_Term___init__ ct_Term___init__), sl_Term___init__⟩) (c_Term___init__ : PySem.W.codeIn K cd_Term___init__ "Term.__init__" = true) (k_Term___init__ : PySem.W.keepIn K (.ref f_Term___init__) = true)
    {od_Term___str__ an_Term___str__ : Option Addr} {sl_Term___str__ : Array (Option Value)} {oc_Term___str__ kV_Term___str__ dc_Term___str__ pm_Term___str__ cd_Term___str__ ct_Term___str__ : Value} {f_Term___str__ : Addr}
    (l_Term___str__ : K.lookup f_Term___str__ = some ⟨oc_Term___str__, od_Term___str__, .func (PySem.W.fnOf "__str__" "Term.__str__" (defArgs s_Term___str__) (defBody s_Term___str__) (defScope s_Term___str__) .none kV_Term___str__ dc_Term___str__ pm_Term___str__ an_Term___str__ cd_Term___str__ ct_Term___str__), sl_Term___str__⟩) (c_Term___str__ : PySem.W.codeIn K cd_Term___str__ "Term.__str__" = true) (k_Term___str__ : PySem.W.keepIn K (.ref f_Term___str__) = true)
    {od_Term___eq__ an_Term___eq__ : Option Addr} {sl_Term___eq__ : Array (Option Value)} {oc_Term___eq__ kV_Term___eq__ dc_Term___eq__ pm_Term___eq__ cd_Term___eq__ ct_Term___eq__ : Value} {f_Term___eq__ : Addr}
    (l_Term___eq__ : K.lookup f_Term___eq__ = some ⟨oc_Term___eq__, od_Term___eq__, .func (PySem.W.fnOf "__eq__" "Term.__eq__" (defArgs s_Term___eq__) (defBody s_Term___eq__) (defScope s_Term___eq__) .none kV_Term___eq__ dc_Term___eq__ pm_Term___eq__ an_Term___eq__ cd_Term___eq__ ct_Term___eq__), sl_Term___eq__⟩) (c_Term___eq__ : PySem.W.codeIn K cd_Term___eq__ "Term.__eq__" = true) (k_Term___eq__ : PySem.W.keepIn K (.ref f_Term___eq__) = true)
    {od_Term___len__ an_Term___len__ : Option Addr} {sl_Term___len__ : Array (Option Value)} {oc_Term___len__ kV_Term___len__ dc_Term___len__ pm_Term___len__ cd_Term___len__ ct_Term___len__ : Value} {f_Term___len__ : Addr}
    (l_Term___len__ : K.lookup f_Term___len__ = some ⟨oc_Term___len__, od_Term___len__, .func (PySem.W.fnOf "__len__" "Term.__len__" (defArgs s_Term___len__) (defBody s_Term___len__) (defScope s_Term___len__) .none kV_Term___len__ dc_Term___len__ pm_Term___len__ an_Term___len__ cd_Term___len__ ct_Term___len__), sl_Term___len__⟩) (c_Term___len__ : PySem.W.codeIn K cd_Term___len__ "Term.__len__" = true) (k_Term___len__ : PySem.W.keepIn K (.ref f_Term___len__) = true)
    {od_Term_form an_Term_form : Option Addr} {sl_Term_form : Array (Option Value)} {oc_Term_form kV_Term_form dc_Term_form pm_Term_form cd_Term_form ct_Term_form : Value} {f_Term_form : Addr}
    (l_Term_form : K.lookup f_Term_form = some ⟨oc_Term_form, od_Term_form, .func (PySem.W.fnOf "form" "Term.form" (defArgs s_Term_form) (defBody s_Term_form) (defScope s_Term_form) .none kV_Term_form dc_Term_form pm_Term_form an_Term_form cd_Term_form ct_Term_form), sl_Term_form⟩) (c_Term_form : PySem.W.codeIn K cd_Term_form "Term.form" = true) (k_Term_form : PySem.W.keepIn K (.ref f_Term_form) = true)
    {od_Term_bound an_Term_bound : Option Addr} {sl_Term_bound : Array (Option Value)} {oc_Term_bound kV_Term_bound dc_Term_bound pm_Term_bound cd_Term_bound ct_Term_bound : Value} {f_Term_bound : Addr}
    (l_Term_bound : K.lookup f_Term_bound = some ⟨oc_Term_bound, od_Term_bound, .func (PySem.W.fnOf "bound" "Term.bound" (defArgs s_Term_bound) (defBody s_Term_bound) (defScope s_Term_bound) .none kV_Term_bound dc_Term_bound pm_Term_bound an_Term_bound cd_Term_bound ct_Term_bound), sl_Term_bound⟩) (c_Term_bound : PySem.W.codeIn K cd_Term_bound "Term.bound" = true) (k_Term_bound : PySem.W.keepIn K (.ref f_Term_bound) = true)
    {od_Term_inner an_Term_inner : Option Addr} {sl_Term_inner : Array (Option Value)} {oc_Term_inner kV_Term_inner dc_Term_inner pm_Term_inner cd_Term_inner ct_Term_inner : Value} {f_Term_inner : Addr}
    (l_Term_inner : K.lookup f_Term_inner = some ⟨oc_Term_inner, od_Term_inner, .func (PySem.W.fnOf "inner" "Term.inner" (defArgs s_Term_inner) (defBody s_Term_inner) (defScope s_Term_inner) .none kV_Term_inner dc_Term_inner pm_Term_inner an_Term_inner cd_Term_inner ct_Term_inner), sl_Term_inner⟩) (c_Term_inner : PySem.W.codeIn K cd_Term_inner "Term.inner" = true) (k_Term_inner : PySem.W.keepIn K (.ref f_Term_inner) = true)
    {od_Term_free_names an_Term_free_names : Option Addr} {sl_Term_free_names : Array (Option Value)} {oc_Term_free_names kV_Term_free_names dc_Term_free_names pm_Term_free_names cd_Term_free_names ct_Term_free_names : Value} {f_Term_free_names : Addr}
    (l_Term_free_names : K.lookup f_Term_free_names = some ⟨oc_Term_free_names, od_Term_free_names, .func (PySem.W.fnOf "free_names" "Term.free_names" (defArgs s_Term_free_names) (defBody s_Term_free_names) (defScope s_Term_free_names) .none kV_Term_free_names dc_Term_free_names pm_Term_free_names an_Term_free_names cd_Term_free_names ct_Term_free_names), sl_Term_free_names⟩) (c_Term_free_names : PySem.W.codeIn K cd_Term_free_names "Term.free_names" = true) (k_Term_free_names : PySem.W.keepIn K (.ref f_Term_free_names) = true)
    {od_Term_part_names an_Term_part_names : Option Addr} {sl_Term_part_names : Array (Option Value)} {oc_Term_part_names kV_Term_part_names dc_Term_part_names pm_Term_part_names cd_Term_part_names ct_Term_part_names : Value} {f_Term_part_names : Addr}
    (l_Term_part_names : K.lookup f_Term_part_names = some ⟨oc_Term_part_names, od_Term_part_names, .func (PySem.W.fnOf "part_names" "Term.part_names" (defArgs s_Term_part_names) (defBody s_Term_part_names) (defScope s_Term_part_names) .none kV_Term_part_names dc_Term_part_names pm_Term_part_names an_Term_part_names cd_Term_part_names ct_Term_part_names), sl_Term_part_names⟩) (c_Term_part_names : PySem.W.codeIn K cd_Term_part_names "Term.part_names" = true) (k_Term_part_names : PySem.W.keepIn K (.ref f_Term_part_names) = true)
    (z_OverflowError : PySem.W.nsIn K mainGlobals "OverflowError" = some none)
    (z_ValueError : PySem.W.nsIn K mainGlobals "ValueError" = some none)
    (z_abs : PySem.W.nsIn K mainGlobals "abs" = some none)
    (z_all : PySem.W.nsIn K mainGlobals "all" = some none)
    (z_any : PySem.W.nsIn K mainGlobals "any" = some none)
    (z_int : PySem.W.nsIn K mainGlobals "int" = some none)
    (z_isinstance : PySem.W.nsIn K mainGlobals "isinstance" = some none)
    (z_len : PySem.W.nsIn K mainGlobals "len" = some none)
    (z_list : PySem.W.nsIn K mainGlobals "list" = some none)
    (z_max : PySem.W.nsIn K mainGlobals "max" = some none)
    (z_min : PySem.W.nsIn K mainGlobals "min" = some none)
    (z_range : PySem.W.nsIn K mainGlobals "range" = some none)
    (z_set : PySem.W.nsIn K mainGlobals "set" = some none)
    (z_sorted : PySem.W.nsIn K mainGlobals "sorted" = some none)
    (z_str : PySem.W.nsIn K mainGlobals "str" = some none)
    (z_sum : PySem.W.nsIn K mainGlobals "sum" = some none)
    (z_tuple : PySem.W.nsIn K mainGlobals "tuple" = some none)
    {t_CLOSE : Tok} (g_CLOSE : PySem.W.nsIn K mainGlobals "CLOSE" = some (some (.str (Str.ofString ")") t_CLOSE)))
    {t_FIGURES : Tok} (g_FIGURES : PySem.W.nsIn K mainGlobals "FIGURES" = some (some (.str (Str.ofString "0123456789") t_FIGURES)))
    {t_FIRST_FIGURES : Tok} (g_FIRST_FIGURES : PySem.W.nsIn K mainGlobals "FIRST_FIGURES" = some (some (.str (Str.ofString "123456789") t_FIRST_FIGURES)))
    {t_GREAT : Tok} (g_GREAT : PySem.W.nsIn K mainGlobals "GREAT" = some (some (.str (Str.ofString "ABCDEFGHIJKLMNOPQRSTUVWXYZ") t_GREAT)))
    {t_MOST_FIGURES : Tok} (g_MOST_FIGURES : PySem.W.nsIn K mainGlobals "MOST_FIGURES" = some (some (.int 12 t_MOST_FIGURES)))
    {t_MOST_GREAT : Tok} (g_MOST_GREAT : PySem.W.nsIn K mainGlobals "MOST_GREAT" = some (some (.int 6 t_MOST_GREAT)))
    {t_MOST_OPEN : Tok} (g_MOST_OPEN : PySem.W.nsIn K mainGlobals "MOST_OPEN" = some (some (.int 30 t_MOST_OPEN)))
    {t_MOST_SMALL : Tok} (g_MOST_SMALL : PySem.W.nsIn K mainGlobals "MOST_SMALL" = some (some (.int 4 t_MOST_SMALL)))
    {t_MOST_TERMS : Tok} (g_MOST_TERMS : PySem.W.nsIn K mainGlobals "MOST_TERMS" = some (some (.int 200 t_MOST_TERMS)))
    {t_SMALL : Tok} (g_SMALL : PySem.W.nsIn K mainGlobals "SMALL" = some (some (.str (Str.ofString "abcdefghijklmnopqrstuvwxyz") t_SMALL)))
    {C CT dW dB : Addr} {esW : Array DictEntry} {nW nB : Nat} {ddB : Option Addr} {itsB : Array Value} {slB : Array (Option Value)}
    (aTree : PySem.W.nsIn K mainGlobals "Tree" = some (some (.ref C))) (mTree : Mk K C f_Tree___init__) (clTree : TreeC K C)
    (aTerm : PySem.W.nsIn K mainGlobals "Term" = some (some (.ref CT))) (mTerm : Mk K CT f_Term___init__) (clTerm : TermC K CT)
    (iEq : PySem.W.findIn K (.ref CT) "__eq__" = some (some (.ref f_Term___eq__)) ∧ PySem.W.isFn K (.ref f_Term___eq__) = true) (iLen : PySem.W.findIn K (.ref CT) "__len__" = some (some (.ref f_Term___len__)) ∧ PySem.W.isFn K (.ref f_Term___len__) = true)
    (iStr : PySem.W.findIn K (.ref CT) "__str__" = some (some (.ref f_Term___str__)) ∧ PySem.W.isFn K (.ref f_Term___str__) = true)
    (mForm : Meth K CT "form" f_Term_form) (mBound : Meth K CT "bound" f_Term_bound) (mInner : Meth K CT "inner" f_Term_inner) (mFree : Meth K CT "free_names" f_Term_free_names) (mParts : Meth K CT "part_names" f_Term_part_names) (O : OwnE K CT)
    (gW : PySem.W.nsIn K mainGlobals "WORDS" = some (some (.ref dW))) (lW : K.lookup dW = some ⟨.type "dict", none, .dict esW nW, #[]⟩) (kW : PySem.W.KeysLit w.params esW.toList) (oW : (dW == sysModules) = false)
    (rW : Paired (fun (p : Str × Int) (e : DictEntry) => ∃ t u, e.key = .str p.1 t ∧ e.val = .int p.2 u) [(Str.ofString "sum", 2), (Str.ofString "less", 2), (Str.ofString "times", 2), (Str.ofString "below", 2), (Str.ofString "if", 3), (Str.ofString "pair", 2), (Str.ofString "first", 1), (Str.ofString "second", 1), (Str.ofString "let", 2), (Str.ofString "def", 1), (Str.ofString "call", 2)] esW.toList)
    (gB : PySem.W.nsIn K mainGlobals "BINDERS" = some (some (.ref dB))) (lB : K.lookup dB = some ⟨.type "tuple", ddB, .seq itsB nB, slB⟩) (vB : Vals [.str (Str.ofString "let"), .str (Str.ofString "def")] itsB.toList) :
    ∃ fd : FuncData, (∀ (s : Shared) (v : Value), BindsTo s fd ⟨[v], []⟩ [("_law_script", v)]) ∧ ∀ base : Heap, K.In base → base.Ns mainGlobals mg → FnOk l.prog w K mg base CX0 41 fa fd ["_law_script"] (spLaw K) := by
  have e := hfa.symm.trans (PySem.W.mg_of X G a_law)
  cases e
  have T0 : TxtB K mg := ⟨PySem.W.mg_none_of X G z_OverflowError, PySem.W.mg_none_of X G z_ValueError, PySem.W.mg_none_of X G z_abs, PySem.W.mg_none_of X G z_all, PySem.W.mg_none_of X G z_any, PySem.W.mg_none_of X G z_int, PySem.W.mg_none_of X G z_isinstance, PySem.W.mg_none_of X G z_len, PySem.W.mg_none_of X G z_list, PySem.W.mg_none_of X G z_max, PySem.W.mg_none_of X G z_min, PySem.W.mg_none_of X G z_range, PySem.W.mg_none_of X G z_set, PySem.W.mg_none_of X G z_sorted, PySem.W.mg_none_of X G z_str, PySem.W.mg_none_of X G z_sum, PySem.W.mg_none_of X G z_tuple, ⟨_, PySem.W.mg_of X G g_CLOSE⟩, ⟨_, PySem.W.mg_of X G g_FIGURES⟩, ⟨_, PySem.W.mg_of X G g_FIRST_FIGURES⟩, ⟨_, PySem.W.mg_of X G g_GREAT⟩, ⟨_, PySem.W.mg_of X G g_MOST_FIGURES⟩, ⟨_, PySem.W.mg_of X G g_MOST_GREAT⟩, ⟨_, PySem.W.mg_of X G g_MOST_OPEN⟩, ⟨_, PySem.W.mg_of X G g_MOST_SMALL⟩, ⟨_, PySem.W.mg_of X G g_MOST_TERMS⟩, ⟨_, PySem.W.mg_of X G g_SMALL⟩⟩
  have F_free_in := fun_mk (st := s_free_in) l_free_in c_free_in k_free_in
  have b_free_in := F_free_in.binds (ps := ["tree"]) fun _ _ _ _ _ _ us hl => match us, hl with | [_], _ => rfl
  have m_free_in := PySem.W.mg_of X G a_free_in
  have F_all_trees := fun_mk (st := s_all_trees) l_all_trees c_all_trees k_all_trees
  have b_all_trees := F_all_trees.binds (ps := ["tree"]) fun _ _ _ _ _ _ us hl => match us, hl with | [_], _ => rfl
  have m_all_trees := PySem.W.mg_of X G a_all_trees
  have F_run_end := fun_mk (st := s_run_end) l_run_end c_run_end k_run_end
  have b_run_end := F_run_end.binds (ps := ["text", "at", "signs", "most"]) fun _ _ _ _ _ _ us hl => match us, hl with | [_, _, _, _], _ => rfl
  have m_run_end := PySem.W.mg_of X G a_run_end
  have F_behind := fun_mk (st := s_behind) l_behind c_behind k_behind
  have b_behind := F_behind.binds (ps := ["text", "at", "sign"]) fun _ _ _ _ _ _ us hl => match us, hl with | [_, _, _], _ => rfl
  have m_behind := PySem.W.mg_of X G a_behind
  have F_number_end := fun_mk (st := s_number_end) l_number_end c_number_end k_number_end
  have b_number_end := F_number_end.binds (ps := ["text", "at"]) fun _ _ _ _ _ _ us hl => match us, hl with | [_, _], _ => rfl
  have m_number_end := PySem.W.mg_of X G a_number_end
  have F_word_end := fun_mk (st := s_word_end) l_word_end c_word_end k_word_end
  have b_word_end := F_word_end.binds (ps := ["text", "at"]) fun _ _ _ _ _ _ us hl => match us, hl with | [_, _], _ => rfl
  have m_word_end := PySem.W.mg_of X G a_word_end
  have F_small_end := fun_mk (st := s_small_end) l_small_end c_small_end k_small_end
  have b_small_end := F_small_end.binds (ps := ["text", "at"]) fun _ _ _ _ _ _ us hl => match us, hl with | [_, _], _ => rfl
  have m_small_end := PySem.W.mg_of X G a_small_end
  have F_bracket_at := fun_mk (st := s_bracket_at) l_bracket_at c_bracket_at k_bracket_at
  have b_bracket_at := F_bracket_at.binds (ps := ["text", "at"]) fun _ _ _ _ _ _ us hl => match us, hl with | [_, _], _ => rfl
  have m_bracket_at := PySem.W.mg_of X G a_bracket_at
  have F_piece_at := fun_mk (st := s_piece_at) l_piece_at c_piece_at k_piece_at
  have b_piece_at := F_piece_at.binds (ps := ["text", "at"]) fun _ _ _ _ _ _ us hl => match us, hl with | [_, _], _ => rfl
  have m_piece_at := PySem.W.mg_of X G a_piece_at
  have F_pieces_of := fun_mk (st := s_pieces_of) l_pieces_of c_pieces_of k_pieces_of
  have b_pieces_of := F_pieces_of.binds (ps := ["text"]) fun _ _ _ _ _ _ us hl => match us, hl with | [_], _ => rfl
  have m_pieces_of := PySem.W.mg_of X G a_pieces_of
  have F_check_size := fun_mk (st := s_check_size) l_check_size c_check_size k_check_size
  have b_check_size := F_check_size.binds (ps := ["pieces"]) fun _ _ _ _ _ _ us hl => match us, hl with | [_], _ => rfl
  have m_check_size := PySem.W.mg_of X G a_check_size
  have F_built := fun_mk (st := s_built) l_built c_built k_built
  have b_built := F_built.binds (ps := ["text", "pieces"]) fun _ _ _ _ _ _ us hl => match us, hl with | [_, _], _ => rfl
  have m_built := PySem.W.mg_of X G a_built
  have F_tree_of := fun_mk (st := s_tree_of) l_tree_of c_tree_of k_tree_of
  have b_tree_of := F_tree_of.binds (ps := ["text"]) fun _ _ _ _ _ _ us hl => match us, hl with | [_], _ => rfl
  have m_tree_of := PySem.W.mg_of X G a_tree_of
  have F__law_purse := fun_mk (st := s__law_purse) l__law_purse c__law_purse k__law_purse
  have b__law_purse := F__law_purse.binds (ps := ["_law_script", "_law_at"]) fun _ _ _ _ _ _ us hl => match us, hl with | [_, _], _ => rfl
  have m__law_purse := PySem.W.mg_of X G a__law_purse
  have F__law_take := fun_mk (st := s__law_take) l__law_take c__law_take k__law_take
  have b__law_take := F__law_take.binds (ps := ["_law_purse_here", "_law_many"]) fun _ _ _ _ _ _ us hl => match us, hl with | [_, _], _ => rfl
  have m__law_take := PySem.W.mg_of X G a__law_take
  have F__law_names := fun_mk (st := s__law_names) l__law_names c__law_names k__law_names
  have b__law_names := F__law_names.binds (ps := ["_law_purse_here", "_law_many", "_law_signs", "_law_wide"]) fun _ _ _ _ _ _ us hl => match us, hl with | [_, _, _, _], _ => rfl
  have m__law_names := PySem.W.mg_of X G a__law_names
  have F__law_number := fun_mk (st := s__law_number) l__law_number c__law_number k__law_number
  have b__law_number := F__law_number.binds (ps := ["_law_purse_here"]) fun _ _ _ _ _ _ us hl => match us, hl with | [_], _ => rfl
  have m__law_number := PySem.W.mg_of X G a__law_number
  have F__law_tree := fun_mk (st := s__law_tree) l__law_tree c__law_tree k__law_tree
  have b__law_tree := F__law_tree.binds (ps := ["_law_purse_here", "_law_smalls", "_law_greats", "_law_deep"]) fun _ _ _ _ _ _ us hl => match us, hl with | [_, _, _, _], _ => rfl
  have m__law_tree := PySem.W.mg_of X G a__law_tree
  have F__law_drawn := fun_mk (st := s__law_drawn) l__law_drawn c__law_drawn k__law_drawn
  have b__law_drawn := F__law_drawn.binds (ps := ["_law_purse_here"]) fun _ _ _ _ _ _ us hl => match us, hl with | [_], _ => rfl
  have m__law_drawn := PySem.W.mg_of X G a__law_drawn
  have F__law_union := fun_mk (st := s__law_union) l__law_union c__law_union k__law_union
  have b__law_union := F__law_union.binds (ps := ["_law_rows"]) fun _ _ _ _ _ _ us hl => match us, hl with | [_], _ => rfl
  have m__law_union := PySem.W.mg_of X G a__law_union
  have F__law_names_right := fun_mk (st := s__law_names_right) l__law_names_right c__law_names_right k__law_names_right
  have b__law_names_right := F__law_names_right.binds (ps := ["_law_term", "_law_inner"]) fun _ _ _ _ _ _ us hl => match us, hl with | [_, _], _ => rfl
  have m__law_names_right := PySem.W.mg_of X G a__law_names_right
  have F__law_whole := fun_mk (st := s__law_whole) l__law_whole c__law_whole k__law_whole
  have b__law_whole := F__law_whole.binds (ps := ["_law_term"]) fun _ _ _ _ _ _ us hl => match us, hl with | [_], _ => rfl
  have m__law_whole := PySem.W.mg_of X G a__law_whole
  have F__law_chain := fun_mk (st := s__law_chain) l__law_chain c__law_chain k__law_chain
  have b__law_chain := F__law_chain.binds (ps := ["_law_purse_here", "_law_atoms", "_law_many"]) fun _ _ _ _ _ _ us hl => match us, hl with | [_, _, _], _ => rfl
  have m__law_chain := PySem.W.mg_of X G a__law_chain
  have F_law := fun_mk (st := s_law) l_law c_law k_law
  have b_law := F_law.binds (ps := ["_law_script"]) fun _ _ _ _ _ _ us hl => match us, hl with | [_], _ => rfl
  have m_law := PySem.W.mg_of X G a_law
  have F_Tree___init__ := fun_mk (st := s_Tree___init__) l_Tree___init__ c_Tree___init__ k_Tree___init__
  have b_Tree___init__ := F_Tree___init__.binds (ps := ["self", "text", "kind", "small", "within"]) fun _ _ _ _ _ _ us hl => match us, hl with | [_, _, _, _, _], _ => rfl
  have F_Term___init__ := fun_mk (st := s_Term___init__) l_Term___init__ c_Term___init__ k_Term___init__
  have b_Term___init__ := F_Term___init__.binds (ps := ["self", "text"]) fun _ _ _ _ _ _ us hl => match us, hl with | [_, _], _ => rfl
  have F_Term___str__ := fun_mk (st := s_Term___str__) l_Term___str__ c_Term___str__ k_Term___str__
  have b_Term___str__ := F_Term___str__.binds (ps := ["self"]) fun _ _ _ _ _ _ us hl => match us, hl with | [_], _ => rfl
  have F_Term___eq__ := fun_mk (st := s_Term___eq__) l_Term___eq__ c_Term___eq__ k_Term___eq__
  have b_Term___eq__ := F_Term___eq__.binds (ps := ["self", "other"]) fun _ _ _ _ _ _ us hl => match us, hl with | [_, _], _ => rfl
  have F_Term___len__ := fun_mk (st := s_Term___len__) l_Term___len__ c_Term___len__ k_Term___len__
  have b_Term___len__ := F_Term___len__.binds (ps := ["self"]) fun _ _ _ _ _ _ us hl => match us, hl with | [_], _ => rfl
  have F_Term_form := fun_mk (st := s_Term_form) l_Term_form c_Term_form k_Term_form
  have b_Term_form := F_Term_form.binds (ps := ["self"]) fun _ _ _ _ _ _ us hl => match us, hl with | [_], _ => rfl
  have F_Term_bound := fun_mk (st := s_Term_bound) l_Term_bound c_Term_bound k_Term_bound
  have b_Term_bound := F_Term_bound.binds (ps := ["self"]) fun _ _ _ _ _ _ us hl => match us, hl with | [_], _ => rfl
  have F_Term_inner := fun_mk (st := s_Term_inner) l_Term_inner c_Term_inner k_Term_inner
  have b_Term_inner := F_Term_inner.binds (ps := ["self"]) fun _ _ _ _ _ _ us hl => match us, hl with | [_], _ => rfl
  have F_Term_free_names := fun_mk (st := s_Term_free_names) l_Term_free_names c_Term_free_names k_Term_free_names
  have b_Term_free_names := F_Term_free_names.binds (ps := ["self"]) fun _ _ _ _ _ _ us hl => match us, hl with | [_], _ => rfl
  have F_Term_part_names := fun_mk (st := s_Term_part_names) l_Term_part_names c_Term_part_names k_Term_part_names
  have b_Term_part_names := F_Term_part_names.binds (ps := ["self"]) fun _ _ _ _ _ _ us hl => match us, hl with | [_], _ => rfl
  have T : Txt K mg w dW dB esW nW := ⟨T0, PySem.W.mg_of X G gW, ⟨⟨lW, kW, oW⟩, by rw [wkv_is]; exact rW, wkv_nd⟩, PySem.W.mg_of X G gB, fun H => .inr ⟨_, itsB, nB, lB, rfl, rfl, sizeLine_ge (by have h := vB.length; simp at h; omega), vB⟩⟩
  refine ⟨PySem.W.fnOf "law" "law" (defArgs s_law) (defBody s_law) (defScope s_law) .none kV_law dc_law pm_law an_law cd_law ct_law, fun s v => .of_eq rfl, fun base _ _ => ?_⟩
  have mgTree := PySem.W.mg_of X G aTree
  have mgTerm := PySem.W.mg_of X G aTerm
  have h_run_end : Has l.prog w K mg base "run_end" 1 ["text", "at", "signs", "most"] spRunEnd _ _ := ⟨m_run_end, k_run_end, b_run_end, ok_run_end T F_run_end⟩
  have h_behind : Has l.prog w K mg base "behind" 1 ["text", "at", "sign"] spBehind _ _ := ⟨m_behind, k_behind, b_behind, ok_behind T F_behind⟩
  have h_number_end : Has l.prog w K mg base "number_end" 2 ["text", "at"] spNumEnd _ _ := ⟨m_number_end, k_number_end, b_number_end, ok_number_end T F_number_end h_run_end⟩
  have h_small_end : Has l.prog w K mg base "small_end" 2 ["text", "at"] spSmallEnd _ _ := ⟨m_small_end, k_small_end, b_small_end, ok_small_end T F_small_end h_run_end⟩
  have h_word_end : Has l.prog w K mg base "word_end" 1 ["text", "at"] spWordEnd _ _ := ⟨m_word_end, k_word_end, b_word_end, ok_word_end T F_word_end⟩
  have h_bracket_at : Has l.prog w K mg base "bracket_at" 3 ["text", "at"] spBracket _ _ := ⟨m_bracket_at, k_bracket_at, b_bracket_at, ok_bracket_at T F_bracket_at h_word_end h_behind h_small_end⟩
  have h_piece_at : Has l.prog w K mg base "piece_at" 4 ["text", "at"] spPiece _ _ := ⟨m_piece_at, k_piece_at, b_piece_at, ok_piece_at T F_piece_at h_bracket_at h_run_end h_number_end⟩
  have h_pieces_of : Has l.prog w K mg base "pieces_of" 5 ["text"] spPieces _ _ := ⟨m_pieces_of, k_pieces_of, b_pieces_of, ok_pieces_of T F_pieces_of h_piece_at h_behind⟩
  have h_check_size : Has l.prog w K mg base "check_size" 1 ["pieces"] spCheck _ _ := ⟨m_check_size, k_check_size, b_check_size, ok_check_size T F_check_size⟩
  have h_free_in : Has l.prog w K mg base "free_in" 1 ["tree"] (spFreeIn C) _ _ := ⟨m_free_in, k_free_in, b_free_in, ok_free_in T F_free_in clTree⟩
  have m_Tree : HasC l.prog w K mg base "Tree" C 2 ["self", "text", "kind", "small", "within"] (spTreeInit C) _ _ := ⟨mgTree, mTree, b_Tree___init__, ok_Tree_init T F_Tree___init__ clTree h_free_in⟩
  have h_built : Has l.prog w K mg base "built" 4 ["text", "pieces"] (spBuilt C) _ _ := ⟨m_built, k_built, b_built, ok_built T F_built clTree m_Tree⟩
  have h_tree_of : Has l.prog w K mg base "tree_of" 6 ["text"] (spTreeOf C) _ _ := ⟨m_tree_of, k_tree_of, b_tree_of, ok_tree_of T F_tree_of h_pieces_of h_check_size h_built⟩
  have h_all_trees : Has l.prog w K mg base "all_trees" 1 ["tree"] (spAll C) _ _ := ⟨m_all_trees, k_all_trees, b_all_trees, ok_all_trees T F_all_trees clTree⟩
  have m_Term : HasC l.prog w K mg base "Term" CT 7 ["self", "text"] (spTermInit CT C) _ _ := ⟨mgTerm, mTerm, b_Term___init__, ok_Term_init T F_Term___init__ clTerm h_tree_of h_all_trees⟩
  have hS : HasM l.prog w K mg base CT "__str__" 1 ["self"] (spTermStr CT C) _ _ := ⟨iStr.1, iStr.2, b_Term___str__, ok_Term_str T F_Term___str__ clTerm⟩
  have hFo : HasT l.prog w K mg base CT "form" 1 ["self"] (spTermForm CT C) _ _ := ⟨mForm, b_Term_form, ok_Term_form T F_Term_form clTerm clTree⟩
  have hBo : HasT l.prog w K mg base CT "bound" 1 ["self"] (spTermBound CT C) _ _ := ⟨mBound, b_Term_bound, ok_Term_bound T F_Term_bound clTerm clTree⟩
  have hIn : HasT l.prog w K mg base CT "inner" 9 ["self"] (spTermInner CT C) _ _ := ⟨mInner, b_Term_inner, ok_Term_inner T F_Term_inner clTerm clTree m_Term⟩
  have hE : HasM l.prog w K mg base CT "__eq__" 1 ["self", "other"] (spTermEq K CT C) _ _ := ⟨iEq.1, iEq.2, b_Term___eq__, ok_Term_eq T F_Term___eq__ clTerm mgTerm⟩
  have hL : HasM l.prog w K mg base CT "__len__" 1 ["self"] (spTermLen CT C) _ _ := ⟨iLen.1, iLen.2, b_Term___len__, ok_Term_len T F_Term___len__ clTerm⟩
  have hFr : HasT l.prog w K mg base CT "free_names" 1 ["self"] (spTermFree CT C) _ _ := ⟨mFree, b_Term_free_names, ok_Term_free T F_Term_free_names clTerm clTree⟩
  have hPa : HasT l.prog w K mg base CT "part_names" 1 ["self"] (spTermParts CT C) _ _ := ⟨mParts, b_Term_part_names, ok_Term_parts T F_Term_part_names clTerm clTree⟩
  have h__law_purse : Has l.prog w K mg base "_law_purse" 1 ["_law_script", "_law_at"] (spPurse K) _ _ := ⟨m__law_purse, k__law_purse, b__law_purse, ok__law_purse T F__law_purse⟩
  have h__law_take : Has l.prog w K mg base "_law_take" 1 ["_law_purse_here", "_law_many"] spTake _ _ := ⟨m__law_take, k__law_take, b__law_take, ok__law_take T F__law_take⟩
  have h__law_names : Has l.prog w K mg base "_law_names" 2 ["_law_purse_here", "_law_many", "_law_signs", "_law_wide"] spNames _ _ := ⟨m__law_names, k__law_names, b__law_names, ok__law_names T F__law_names h__law_take⟩
  have h__law_number : Has l.prog w K mg base "_law_number" 2 ["_law_purse_here"] spNumber _ _ := ⟨m__law_number, k__law_number, b__law_number, ok__law_number T F__law_number h__law_take⟩
  have h__law_tree : Has l.prog w K mg base "_law_tree" 7 ["_law_purse_here", "_law_smalls", "_law_greats", "_law_deep"] spTreeAll _ _ := ⟨m__law_tree, k__law_tree, b__law_tree, ok__law_tree T F__law_tree h__law_take h__law_number m__law_tree k__law_tree b__law_tree⟩
  have h__law_drawn : Has l.prog w K mg base "_law_drawn" 8 ["_law_purse_here"] spDrawn _ _ := ⟨m__law_drawn, k__law_drawn, b__law_drawn, ok__law_drawn T F__law_drawn h__law_take h__law_names h__law_tree⟩
  have h__law_union : Has l.prog w K mg base "_law_union" 1 ["_law_rows"] spUnion _ _ := ⟨m__law_union, k__law_union, b__law_union, ok__law_union T F__law_union⟩
  have h__law_names_right : Has l.prog w K mg base "_law_names_right" 5 ["_law_term", "_law_inner"] (spNR CT C) _ _ := ⟨m__law_names_right, k__law_names_right, b__law_names_right, ok__law_names_right T F__law_names_right clTerm.cl hFr hPa hFo hBo hS h__law_union⟩
  have h__law_whole : Has l.prog w K mg base "_law_whole" 40 ["_law_term"] (spWhole CT C 31) _ _ := ⟨m__law_whole, k__law_whole, b__law_whole, ok__law_whole T F__law_whole O clTerm.cl m_Term hE hL hS hFo hBo hIn h__law_names_right m__law_whole k__law_whole b__law_whole 31⟩
  have h__law_chain : Has l.prog w K mg base "_law_chain" 2 ["_law_purse_here", "_law_atoms", "_law_many"] spChain _ _ := ⟨m__law_chain, k__law_chain, b__law_chain, ok__law_chain T F__law_chain h__law_take⟩
  exact ok_law T F_law clTerm.cl m_Term hS hIn h__law_purse h__law_take h__law_names h__law_number h__law_drawn h__law_whole h__law_names_right h__law_chain
end K


set_option Elab.async false
set_option linter.all false
set_option maxRecDepth 100000
set_option maxHeartbeats 4000000
open PySem PySem.W PyProof.Rows
set_option maxHeartbeats 0 in
theorem PySem.Challenge.cw_unwritparts_k06_whole_terms_put_together_holds : PySem.Challenge.rw_unwritparts_k06_whole_terms_put_together.Holds := by
  w_on; o_law; k_head; (case hw => w_witness2)
  k_fill
  refine L2.walk_of (l := PySem.Challenge.rw_unwritparts_k06_whole_terms_put_together) (n := 63) (k := 41) (x := "_law_script") (CX := fun _ => L2.CX0) (sp := fun w => K.spLaw _) rfl (by decide) rfl ⟨rfl, by decide, by decide⟩ (fun w h Y => PySem.W.kIn_of Y) ?F (fun _ _ a ns hl _ hS => ⟨a, ns, rfl, hS, hl, fun _ => rfl⟩) (fun _ _ _ _ _ h => h)
  case F =>
    intro w mg fa h KX G hmg
    refine' K.all_mk KX G hmg ?a_free_in ?l_free_in ?c_free_in ?k_free_in ?a_all_trees ?l_all_trees ?c_all_trees ?k_all_trees ?a_run_end ?l_run_end ?c_run_end ?k_run_end ?a_behind ?l_behind ?c_behind ?k_behind ?a_number_end ?l_number_end ?c_number_end ?k_number_end ?a_word_end ?l_word_end ?c_word_end ?k_word_end ?a_small_end ?l_small_end ?c_small_end ?k_small_end ?a_bracket_at ?l_bracket_at ?c_bracket_at ?k_bracket_at ?a_piece_at ?l_piece_at ?c_piece_at ?k_piece_at ?a_pieces_of ?l_pieces_of ?c_pieces_of ?k_pieces_of ?a_check_size ?l_check_size ?c_check_size ?k_check_size ?a_built ?l_built ?c_built ?k_built ?a_tree_of ?l_tree_of ?c_tree_of ?k_tree_of ?a__law_purse ?l__law_purse ?c__law_purse ?k__law_purse ?a__law_take ?l__law_take ?c__law_take ?k__law_take ?a__law_names ?l__law_names ?c__law_names ?k__law_names ?a__law_number ?l__law_number ?c__law_number ?k__law_number ?a__law_tree ?l__law_tree ?c__law_tree ?k__law_tree ?a__law_drawn ?l__law_drawn ?c__law_drawn ?k__law_drawn ?a__law_union ?l__law_union ?c__law_union ?k__law_union ?a__law_names_right ?l__law_names_right ?c__law_names_right ?k__law_names_right ?a__law_whole ?l__law_whole ?c__law_whole ?k__law_whole ?a__law_chain ?l__law_chain ?c__law_chain ?k__law_chain ?a_law ?l_law ?c_law ?k_law ?l_Tree___init__ ?c_Tree___init__ ?k_Tree___init__ ?l_Term___init__ ?c_Term___init__ ?k_Term___init__ ?l_Term___str__ ?c_Term___str__ ?k_Term___str__ ?l_Term___eq__ ?c_Term___eq__ ?k_Term___eq__ ?l_Term___len__ ?c_Term___len__ ?k_Term___len__ ?l_Term_form ?c_Term_form ?k_Term_form ?l_Term_bound ?c_Term_bound ?k_Term_bound ?l_Term_inner ?c_Term_inner ?k_Term_inner ?l_Term_free_names ?c_Term_free_names ?k_Term_free_names ?l_Term_part_names ?c_Term_part_names ?k_Term_part_names ?z_OverflowError ?z_ValueError ?z_abs ?z_all ?z_any ?z_int ?z_isinstance ?z_len ?z_list ?z_max ?z_min ?z_range ?z_set ?z_sorted ?z_str ?z_sum ?z_tuple ?g_CLOSE ?g_FIGURES ?g_FIRST_FIGURES ?g_GREAT ?g_MOST_FIGURES ?g_MOST_GREAT ?g_MOST_OPEN ?g_MOST_SMALL ?g_MOST_TERMS ?g_SMALL ?aTree ?mTree ?clTree ?aTerm ?mTerm ?clTerm ?iEq ?iLen ?iStr ?mForm ?mBound ?mInner ?mFree ?mParts ?O ?gW ?lW ?kW ?oW ?rW ?gB ?lB ?vB
    (case aTree => k_is)
    (case aTerm => k_is)
    (case mTree => refine' ⟨?mk1, ?mk2, ?mk3, ?mk4⟩; (case mk1 => k_is); (case mk2 => k_is); (case mk3 => k_is); (case mk4 => k_is))
    (case mTerm => refine' ⟨?mk1, ?mk2, ?mk3, ?mk4⟩; (case mk1 => k_is); (case mk2 => k_is); (case mk3 => k_is); (case mk4 => k_is))
    (case iEq => refine' ⟨?in1, ?in2⟩; (case in1 => k_is); (case in2 => k_is))
    (case iLen => refine' ⟨?in1, ?in2⟩; (case in1 => k_is); (case in2 => k_is))
    (case mFree => refine' ⟨?mk1, ?mk2, ?mk3⟩; (case mk1 => k_is); (case mk2 => k_is); (case mk3 => k_is))
    (case mParts => refine' ⟨?mk1, ?mk2, ?mk3⟩; (case mk1 => k_is); (case mk2 => k_is); (case mk3 => k_is))
    (case iStr => refine' ⟨?in1, ?in2⟩; (case in1 => k_is); (case in2 => k_is))
    (case mForm => refine' ⟨?mk1, ?mk2, ?mk3⟩; (case mk1 => k_is); (case mk2 => k_is); (case mk3 => k_is))
    (case mBound => refine' ⟨?mk1, ?mk2, ?mk3⟩; (case mk1 => k_is); (case mk2 => k_is); (case mk3 => k_is))
    (case mInner => refine' ⟨?mk1, ?mk2, ?mk3⟩; (case mk1 => k_is); (case mk2 => k_is); (case mk3 => k_is))
    (case clTree => refine' ⟨⟨?_, ?_, ?_, ?_⟩, ?_, ?_, ?_, ?_, ?_, ?_⟩ <;> (try unfold L2.NoAttr) <;> k_is)
    (case clTerm => refine' ⟨⟨?_, ?_, ?_, ?_⟩, ?_, ?_, ?_⟩ <;> (try unfold L2.NoAttr) <;> k_is)
    (case gW => k_is); (case lW => k_is); (case kW => k_keys); (case oW => first | rfl | decide)
    (case gB => k_is); (case lB => k_is)
    (case vB => exact .cons ⟨_, rfl⟩ (.cons ⟨_, rfl⟩ .nil))
    (case rW => exact (.cons ⟨_, _, rfl, rfl⟩ (.cons ⟨_, _, rfl, rfl⟩ (.cons ⟨_, _, rfl, rfl⟩ (.cons ⟨_, _, rfl, rfl⟩ (.cons ⟨_, _, rfl, rfl⟩ (.cons ⟨_, _, rfl, rfl⟩ (.cons ⟨_, _, rfl, rfl⟩ (.cons ⟨_, _, rfl, rfl⟩ (.cons ⟨_, _, rfl, rfl⟩ (.cons ⟨_, _, rfl, rfl⟩ (.cons ⟨_, _, rfl, rfl⟩ .nil))))))))))))
    (case O =>
      refine' ⟨?ne, ?ob, fun H a dx fs e => .base (.ins e ⟨?c1, ?c2, ?c3, ?c4⟩ ?ha ?hn ?htk ?hm), ?self⟩
      all_goals first | kit_is | k_is)
    (case a_free_in => k_is); (case l_free_in => k_is); (case c_free_in => k_is); (case k_free_in => k_is); (case a_all_trees => k_is); (case l_all_trees => k_is); (case c_all_trees => k_is); (case k_all_trees => k_is); (case a_run_end => k_is); (case l_run_end => k_is); (case c_run_end => k_is); (case k_run_end => k_is); (case a_behind => k_is); (case l_behind => k_is); (case c_behind => k_is); (case k_behind => k_is); (case a_number_end => k_is); (case l_number_end => k_is); (case c_number_end => k_is); (case k_number_end => k_is); (case a_word_end => k_is); (case l_word_end => k_is); (case c_word_end => k_is); (case k_word_end => k_is); (case a_small_end => k_is); (case l_small_end => k_is); (case c_small_end => k_is); (case k_small_end => k_is); (case a_bracket_at => k_is); (case l_bracket_at => k_is); (case c_bracket_at => k_is); (case k_bracket_at => k_is); (case a_piece_at => k_is); (case l_piece_at => k_is); (case c_piece_at => k_is); (case k_piece_at => k_is); (case a_pieces_of => k_is); (case l_pieces_of => k_is); (case c_pieces_of => k_is); (case k_pieces_of => k_is); (case a_check_size => k_is); (case l_check_size => k_is); (case c_check_size => k_is); (case k_check_size => k_is); (case a_built => k_is); (case l_built => k_is); (case c_built => k_is); (case k_built => k_is); (case a_tree_of => k_is); (case l_tree_of => k_is); (case c_tree_of => k_is); (case k_tree_of => k_is); (case a__law_purse => k_is); (case l__law_purse => k_is); (case c__law_purse => k_is); (case k__law_purse => k_is); (case a__law_take => k_is); (case l__law_take => k_is); (case c__law_take => k_is); (case k__law_take => k_is); (case a__law_names => k_is); (case l__law_names => k_is); (case c__law_names => k_is); (case k__law_names => k_is); (case a__law_number => k_is); (case l__law_number => k_is); (case c__law_number => k_is); (case k__law_number => k_is); (case a__law_tree => k_is); (case l__law_tree => k_is); (case c__law_tree => k_is); (case k__law_tree => k_is); (case a__law_drawn => k_is); (case l__law_drawn => k_is); (case c__law_drawn => k_is); (case k__law_drawn => k_is); (case a__law_union => k_is); (case l__law_union => k_is); (case c__law_union => k_is); (case k__law_union => k_is); (case a__law_names_right => k_is); (case l__law_names_right => k_is); (case c__law_names_right => k_is); (case k__law_names_right => k_is); (case a__law_whole => k_is); (case l__law_whole => k_is); (case c__law_whole => k_is); (case k__law_whole => k_is); (case a__law_chain => k_is); (case l__law_chain => k_is); (case c__law_chain => k_is); (case k__law_chain => k_is); (case a_law => k_is); (case l_law => k_is); (case c_law => k_is); (case k_law => k_is); (case l_Tree___init__ => k_is); (case c_Tree___init__ => k_is); (case k_Tree___init__ => k_is); (case l_Term___init__ => k_is); (case c_Term___init__ => k_is); (case k_Term___init__ => k_is); (case l_Term___str__ => k_is); (case c_Term___str__ => k_is); (case k_Term___str__ => k_is); (case l_Term___eq__ => k_is); (case c_Term___eq__ => k_is); (case k_Term___eq__ => k_is); (case l_Term___len__ => k_is); (case c_Term___len__ => k_is); (case k_Term___len__ => k_is); (case l_Term_form => k_is); (case c_Term_form => k_is); (case k_Term_form => k_is); (case l_Term_bound => k_is); (case c_Term_bound => k_is); (case k_Term_bound => k_is); (case l_Term_inner => k_is); (case c_Term_inner => k_is); (case k_Term_inner => k_is); (case l_Term_free_names => k_is); (case c_Term_free_names => k_is); (case k_Term_free_names => k_is); (case l_Term_part_names => k_is); (case c_Term_part_names => k_is); (case k_Term_part_names => k_is); (case z_OverflowError => k_is); (case z_ValueError => k_is); (case z_abs => k_is); (case z_all => k_is); (case z_any => k_is); (case z_int => k_is); (case z_isinstance => k_is); (case z_len => k_is); (case z_list => k_is); (case z_max => k_is); (case z_min => k_is); (case z_range => k_is); (case z_set => k_is); (case z_sorted => k_is); (case z_str => k_is); (case z_sum => k_is); (case z_tuple => k_is); (case g_CLOSE => k_is); (case g_FIGURES => k_is); (case g_FIRST_FIGURES => k_is); (case g_GREAT => k_is); (case g_MOST_FIGURES => k_is); (case g_MOST_GREAT => k_is); (case g_MOST_OPEN => k_is); (case g_MOST_SMALL => k_is); (case g_MOST_TERMS => k_is); (case g_SMALL => k_is)
    all_goals clear hmg G KX


