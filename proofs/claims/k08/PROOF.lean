import PyProof.Rows.All
import Wide.All
import OpenK.AllK
import Wide.FinOn
import HandS.ForMost
import HandS.Wide
import HandS.IsInst
import HandS.Walk
import PyProof.ListStr
import HandS.OwnEq
import HandS.SlotsOwn
import HandS.List
import HandS.Set
import HandS.SetFor
import HandS.Strs
import PyProof.Rows.SortShellAny
import HandS.FStr
import HandS.RaiseMore
import HandS.Style
import HandS.MakeKwOnly
import HandS.Flow
import HandS.Evl
import PySem.Challenge.RW_unwritparts_k08_tellings_told
import HandS.NoneIn
set_option Elab.async false
set_option linter.all false
set_option maxRecDepth 100000
set_option maxHeartbeats 4000000
namespace U
open PySem PySem.Spec PyProof.Rows L2
/-! ### words of one's own over the hand layer -/
/-- a ** b, of a base of at most a thousand bits -/
def CPowW (i j : Int) : Prop := 0 ≤ j ∧ j ≤ 1000 ∧ i.natAbs < 2 ^ 1000
theorem op_powW {X : Cx} : OpR X (binaryOp .Pow) (rI CPowW fun i j => .int (i ^ j.toNat)) := opI fun i j _ _ _ _ _ hc q => by
  refine pow_int hc.1 ?_ q
  have h1 : Builtin.Int.intBits i ≤ 1000 := by
    have := PySem.Flt.log2_lt_of (by decide) hc.2.2
    unfold Builtin.Int.intBits
    split <;> omega
  have h2 := hc.1
  have h3 := hc.2.1
  have h4 : (Builtin.Int.intBits i : Int) * j ≤ 1000 * 1000 := Int.mul_le_mul (by omega) h3 h2 (by decide)
  exact Int.le_trans h4 (by decide)
/-- a def of the module: where it stands, how it is called, what it promises -/
structure Has (P : Program) (w : World) (K : PySem.W.Frag) (mg : Str → Option Value) (base : Heap) (x : Str) (k : Nat) (ps : List Str) (sp : Sp) (f : Addr) (fd : FuncData) : Prop where
  at_ : mg x = some (.ref f)
  kp : PySem.W.keepIn K (.ref f) = true
  bi : Binds K fd ps []
  ok : FnOk P w K mg base CX0 k f fd ps sp
section
variable {X : Cx} {k : Nat} {f : Addr} {fd : FuncData} {ps : List Str} {sp : Sp} {x : Str} {p pos : Pos} {e : Expr} {es : List Expr} {t : TA}
theorem pe_callH (h : Has X.prog X.w X.K X.mg X.base x k ps sp f fd) (hr : Room k X.A) (hg : Gl X x) (ha : PA X (e :: es) t) (hdb : (x == ("__debug__" : Str)) = false := by decide)
    (he : starEach (e :: es) X.env = (false, eval e X.env) :: starEach es X.env := by rfl) (hpl : (backTo pos (starEach es X.env)).any (·.1) = false := by rfl) :
    PE X (.Call (.Name x p) (e :: es) [] pos) (tCall sp [] E0 t) :=
  pe_call h.ok hr hg h.at_ h.kp h.bi .nil pass0 ha hdb he hpl
end
/-- a class of the module: where it stands, how its __init__ is called, what that promises -/
structure HasC (P : Program) (w : World) (K : PySem.W.Frag) (mg : Str → Option Value) (base : Heap) (x : Str) (C : Addr) (k : Nat) (ps : List Str) (sp : Sp) (f : Addr) (fd : FuncData) : Prop where
  at_ : mg x = some (.ref C)
  mkC : Mk K C f
  bi : Binds K fd ps []
  ok : FnOk P w K mg base CX0 k f fd ps sp
section
variable {X : Cx} {k : Nat} {f C : Addr} {fd : FuncData} {ps : List Str} {sp : Sp} {x : Str} {p pos : Pos} {e : Expr} {es : List Expr} {t : TA}
theorem pe_makeH (h : HasC X.prog X.w X.K X.mg X.base x C k ps sp f fd) (hr : Room (k + 1) X.A) (hg : Gl X x) (ha : PA X (e :: es) t) (hdb : (x == ("__debug__" : Str)) = false := by decide)
    (he : starEach (e :: es) X.env = (false, eval e X.env) :: starEach es X.env := by rfl) (hpl : (backTo pos (starEach es X.env)).any (·.1) = false := by rfl) :
    PE X (.Call (.Name x p) (e :: es) [] pos) (tMake C sp [] E0 t) :=
  pe_make h.mkC h.ok hr hg h.at_ h.bi .nil pass0 ha hdb he hpl
end
section
variable {X : Cx}
theorem vals_signs (x : Str) : ∀ (zs : List Nat) (us : List Value) (n : Nat), zs.length = us.length → (∀ (j : Nat) (v : Value), us[j]? = some v → ∃ (c : Nat) (u : Tok), zs[j]? = some c ∧ v = Value.str ⟨#[c]⟩ u) → Vals (zs.map fun c => V.str ⟨#[c]⟩) us
  | [], [], _, _, _ => .nil
  | [], _ :: _, _, h, _ => by simp at h
  | _ :: _, [], _, h, _ => by simp at h
  | z :: zs, u :: us, n, h, f => by
    obtain ⟨c, t, e1, e2⟩ := f 0 u rfl
    have e : z = c := Option.some.inj e1
    subst e
    exact .cons ⟨t, e2⟩ (vals_signs x zs us n (by simpa using h) fun j v e => f (j + 1) v e)
/-- list(text) -/
theorem call_list_txt (hc : X.calm = true) : CallR X (.type "list") (fun xs H Q => ∃ z : Str, xs = [.str z] ∧ z.length ≤ sizeLine ∧ ∀ l, H l = none → Q (.ref l) (upd H l (.lst (z.cps.toList.map fun c => V.str ⟨#[c]⟩)))) := by
  intro pins s σ H xs us Q I r h
  obtain ⟨z, rfl, hz, q⟩ := h
  obtain ⟨u, rfl, t, rfl⟩ := vals1 r
  refine PySem.call_list_str (I.ok.hd hc) z t (fun h' tk acc' c' kp e hi => ?_) (by simpa [Str.length] using hz)
  have hl : acc'.size = z.cps.size := hi.1
  have hz2 : z.cps.size ≤ sizeLine := by simpa [Str.length] using hz
  refine ⟨.ref s.heap.objs.size, _, I.laid (t' := tk) kp (Nat.le_refl _) (o := .lst (z.cps.toList.map fun c => V.str ⟨#[c]⟩)) ?_, rfl, q _ (I.hok.fresh (Nat.le_refl _))⟩
  refine ⟨by simpa using hz2, acc'.toList, c', vals_signs z z.cps.toList acc'.toList 0 (by simp [hl]) (fun j v e => ?_), by simpa using e⟩
  obtain ⟨c, u, h1, h2⟩ := hi.2 j v (by simpa using e)
  exact ⟨c, u, by simpa using h1, h2⟩
end

section
variable {X : Cx} {x : Str} {pos : Pos} {i : Int} {z : Str}
theorem pe_globI (hg : Gl X x) (hm : ∃ t, X.mg x = some (.int i t)) (hdb : (x == ("__debug__" : Str)) = false := by decide) : PE X (.Name x pos) (tC (.int i)) := by
  obtain ⟨t, h⟩ := hm
  exact pe_glob hg h ⟨_, rfl⟩ hdb
theorem pe_globR {d : Addr} (hg : Gl X x) (hm : X.mg x = some (.ref d)) (hdb : (x == ("__debug__" : Str)) = false := by decide) : PE X (.Name x pos) (tC (.ref d)) := pe_glob hg hm rfl hdb
theorem pe_globS (hg : Gl X x) (hm : ∃ t, X.mg x = some (.str z t)) (hdb : (x == ("__debug__" : Str)) = false := by decide) : PE X (.Name x pos) (tC (.str z)) := by
  obtain ⟨t, h⟩ := hm
  exact pe_glob hg h ⟨_, rfl⟩ hdb
end
/-- a text of these signs -/
abbrev tx (l : List Nat) : Str := ⟨l.toArray⟩
theorem tx_len (l : List Nat) : (tx l).length = l.length := by simp [Str.length]
theorem tx_cps (l : List Nat) : (tx l).cps.toList = l := by simp
theorem tx_inj {a b : List Nat} (h : tx a = tx b) : a = b := by
  have := congrArg (fun z : Str => z.cps.toList) h
  simpa using this
theorem tx_app (a b : List Nat) : (tx a ++ tx b : Str) = tx (a ++ b) := congrArg Str.mk (show a.toArray ++ b.toArray = (a ++ b).toArray by simp)
theorem tx_of (z : Str) : z = tx z.cps.toList := by cases z; simp
theorem atI_tx {l : List Nat} {j : Nat} {c : Nat} (h : l[j]? = some c) : atI (tx l).cps.toList (j : Int) = some c := by
  rw [tx_cps]
  exact atI_nat h

/-! ### keywords alone -/
section
variable {X : Cx} {CX : CXT} {k : Nat} {f : Addr} {fd : FuncData} {ps ks : List Str} {sp : Sp} {E : XK} {x : Str} {p pos : Pos} {kws : List Keyword} {tk : TA} {g : List Value → List Value → List Value} {gV : List V → List V → List V}
theorem pe_callK0 (F : FnOk X.prog X.w X.K X.mg X.base CX k f fd ps sp) (hr : Room k X.A) (hg : Gl X x) (hm : X.mg x = some (.ref f)) (hk : PySem.W.keepIn X.K (.ref f) = true) (hb : KBinds X.K fd ps ks g gV) (hx : Passes CX X E)
    (hkw : PK X kws tk) (hall : (backToKw pos (keywordEach kws X.env)).all (·.1.isSome) = true := by rfl) (hks : (backToKw pos (keywordEach kws X.env)).filterMap (·.1) = ks := by rfl)
    (hdb : (x == ("__debug__" : Str)) = false := by decide)
    (hpl : ((backTo pos (starEach [] X.env)).any (·.1) || (backToKw pos (keywordEach kws X.env)).any (·.1.isNone)) = false := by rfl) :
    PE X (.Call (.Name x p) [] kws pos) (tCallK sp gV E tNil tk) := by
  refine ⟨fun pins s σ H Q I h => ?_⟩
  refine wpAny_Call_Name_kw (ld_glob I hg hm ?_ hdb)
  refine PySem.W.callWith_KW0 (h₀ := X.base) I.ok.mod.kin hk hall (thn (hkw.run pos pins s σ H _ I h) fun ws s2 ⟨zs, H2, I2, rz, q2⟩ => ⟨I2.kIn, ?_⟩) hpl
  rw [hks]
  exact run_fnk (us := []) F hr hb hx I2 .nil rz q2
/-- one keyword for the one parameter -/
theorem kb_one {K : PySem.W.Frag} {a : Str} (h1 : ∀ u : Value, bindArgs fd ⟨[u], []⟩ = pure [(a, u)]) (h : ∀ u : Value, bindArgs fd ⟨[], [(a, u)]⟩ = pure [(a, u)]) : KBinds K fd [a] [a] (fun us ws => us ++ ws) (fun us ws => us ++ ws) := by
  refine ⟨fun s us ws _ hl => ?_, fun r r2 => Vals.append r r2⟩
  match us, ws, hl with
  | [u], [], _ => exact .of_eq (h1 u)
  | [], [u], _ => exact .of_eq (h u)
end
/-! ### lengths -/
theorem cutS_len (z : Str) (lo hi : Option Int) : (cutS z lo hi).length ≤ z.length := by
  unfold cutS
  simp only [Str.length, List.size_toArray, List.length_take, List.length_drop, Array.length_toList]
  omega
theorem sizeLine_ge {n : Nat} (h : n ≤ 10000) : n ≤ sizeLine := Nat.le_trans h (by decide)
/-- what may be asked of any kind -/
inductive Th (H : Hp) : V → Prop where
  | non : Th H .non
  | bl (b : Bool) : Th H (.bl b)
  | int (i : Int) : Th H (.int i)
  | txt (z : Str) (h : z.length ≤ 10000) : Th H (.str z)
  | lst {a : Addr} {xs : List V} (e : H a = some (.lst xs)) : Th H (.ref a)
  | tup {a : Addr} {xs : List V} (e : H a = some (.tup xs)) : Th H (.ref a)
theorem Th.same {H H' : Hp} {v : V} (h : Th H v) (s : Same H H') : Th H' v := by
  cases h with
  | non => exact .non
  | bl b => exact .bl b
  | int i => exact .int i
  | txt z h => exact .txt z h
  | lst e => exact .lst (s _ _ e)
  | tup e => exact .tup (s _ _ e)
theorem tx_ne (t : List Nat) : decide (V.str (tx t) = V.str (Str.ofString "")) = decide (t = []) := by
  have e : Str.ofString "" = tx [] := by decide +kernel
  rw [e]
  by_cases h : t = []
  · subst h
    simp
  · rw [decide_eq_false h]
    refine decide_eq_false fun z => h (tx_inj (V.str.inj z))
theorem le_sign (a b : Nat) : (!decide ((⟨#[b]⟩ : Str).cps.toList < (⟨#[a]⟩ : Str).cps.toList)) = decide (a ≤ b) := by
  have e : decide ((⟨#[b]⟩ : Str).cps.toList < (⟨#[a]⟩ : Str).cps.toList) = decide (b < a) := decide_eq_decide.mpr (by simp [List.cons_lt_cons_iff])
  rw [e]
  by_cases h : b < a
  · rw [decide_eq_true h, decide_eq_false (by omega)]
    rfl
  · rw [decide_eq_false h, decide_eq_true (by omega)]
    rfl
theorem same_new {H : Hp} {p : Addr} {o : HO} (h : H p = none) : Same H (upd H p o) := fun b x e => by
  rw [upd_ne (ne_of_none e h)]
  exact e
/-- a comprehension of one name, without a test -/
theorem lc_do {J : It} {n : Nat} {G : Hp → Prop} {Y : Nat → Hp → V → Hp → Prop} (w : Walk J n G Y) {k : Nat} {te : TE} {vs : List Nat} {σ : L2.St} {H1 : Hp} {D : Addr} {Qd : Hp → Prop} (Pv : Nat → Hp → Prop)
    (hw : ∀ x, wipe ((wipe σ vs).set k (some x)) vs = wipe σ vs) (h0 : Pv 0 (upd H1 D (.lst []))) (hG : ∀ i H, i ≤ n → Pv i H → G H)
    (hs : ∀ i x H H', i < n → Pv i H → Y i H x H' → te ((wipe σ vs).set k (some x)) H' fun y H4 => ∃ acc, H4 D = some (.lst acc) ∧ acc.length < sizeLine ∧ Pv (i + 1) (upd H4 D (.lst (acc ++ [y])))) (hd : ∀ H, Pv n H → Qd H) :
    ∃ W : Nat → Nat → Hp → Prop, (∃ m, W 0 m (upd H1 D (.lst []))) ∧ ∀ i m H, W i m H →
      (J.stop i H ∧ Qd H) ∨ (J.go i H ∧ ∃ Nx : Hp → Prop, (∀ H', Nx H' → ∃ m', m' < m ∧ W (i + 1) m' H') ∧ ∀ x H', J.yld i H x H' → gName k x (wipe σ vs) H' fun σ2 H2 => wipe σ2 vs = wipe σ vs ∧ tYes σ2 H2 fun b H3 =>
        if b = true then te σ2 H3 fun y H4 => ∃ acc, H4 D = some (.lst acc) ∧ acc.length < sizeLine ∧ Nx (upd H4 D (.lst (acc ++ [y]))) else Nx H3) := by
  refine lc_it w Pv h0 hG (fun i x H H' hi p y => ⟨hw x, ?_⟩) hd
  show if true = true then te ((wipe σ vs).set k (some x)) H' (fun y H4 => ∃ acc, H4 D = some (.lst acc) ∧ acc.length < sizeLine ∧ Pv (i + 1) (upd H4 D (.lst (acc ++ [y])))) else Pv (i + 1) H'
  rw [if_pos rfl]
  exact hs i x H H' hi p y
/-- a new object: the heap behind it by what it keeps and what is new -/
theorem alloc {H : Hp} {o : HO} {R : V → Hp → Prop} (h : ∀ p G, H p = none → Same H G → G p = some o → R (.ref p) G) : ∀ p, H p = none → R (.ref p) (upd H p o) := fun p hp => h p _ hp (same_new hp) upd_same
end U

set_option Elab.async false
set_option linter.all false
set_option maxRecDepth 100000
set_option maxHeartbeats 4000000
namespace U
open PySem PySem.Spec PyProof.Rows L2
/-- x == y, x of the class C with an __eq__ of its own, y of any class but a lower one: its answer, a bool -/
def rEqOwn (K : PySem.W.Frag) (C : Addr) (sp : Sp) (E : XK) : R2 := fun x y H Q => ∃ (a dx : Addr) (fs : List (Str × V)) (t : Value), x = .ref a ∧ H a = some (.ins C dx fs) ∧ TyX K H y t ∧ PySem.W.notFirst K C t = true ∧ sp [.ref a, y] H (fun z H' => ∃ b, z = .bl b ∧ Q (.bl b) H') E
section
open PySem.W
variable {prog : Program} {w : World} {A : Around} {E : Value → Shared → Prop} {s : Shared} {K : Frag} {x C L f : Addr} {h₀ : Heap} {m : Str → Option Value} {ox : Obj} {od : Option Obj} {name : Str} {b tb : Value}
theorem ifBoundB {M : Model} {id : String} {args : List Value} {Q : Option Value → Shared → Prop} (X : K.In s.heap) (I : InstAt s.heap x ox C od) (hs : findIn K (.ref C) name = some (some (.builtin id))) (hb : ∀ self, bindSpecial (.builtin id) self = pure (.builtin id, [self]))
    (h : wpAny M A (call (.builtin id) (.ref x :: args)) (fun v => Q (some v)) E s) : wpAny M A (callSpecialIfBound? (.ref x) name args) Q E s := by
  simp only [callSpecialIfBound?, bindSpecialIfBound?]
  refine wpAny_holding (wpAny_bind (wpAny_bind (wpAny_bind (I.type.here ((looks_findIn X hs).here ?_)))))
  simp only [hb]
  refine wpAny_bind (wpAny_askSetting (wpAny_ite ?_))
  have fin : wpAny M A (call (.builtin id) ([.ref x] ++ args) >>= fun v => pure (some v)) Q E s := wpAny_bind (wpAny_mono h (fun v s' h' => wpAny_pure h') fun _ _ h' => h')
  split
  · exact wpAny_bind (wpAny_pure (wpAny_pure fin))
  · exact wpAny_tryCatch (wpAny_bind (wpAny_pure (wpAny_pure fin)))
theorem check_own {M : Model} {id owner n : String} {rest : List Value} {Q : Unit → Shared → Prop} (hk : builtinKind id = some .slot) (hsp : splitId id = some (owner, n)) (ha : argsOk id ⟨.ref x :: rest, []⟩) (X : K.In s.heap) (I : InstAt s.heap x ox C od)
    (hsub : subIn K (.ref C) (.type owner) = some true) (hq : Q () s) : wpAny M A (checkBuiltinCall id ⟨.ref x :: rest, []⟩) Q E s := by
  simp only [checkBuiltinCall, hk, hsp]
  refine wpAny_bind ?_
  · unfold isInstance
    refine wpAny_bind (I.type.here ((looks_subIn X hsub).here ?_))
    cases hsig : Manifest.signature? id with
    | none => exact wpAny_pure hq
    | some sig =>
      simp only [argsOk, hsig] at ha
      have h2 : Bind.checkArgs id sig ⟨.ref x :: rest, []⟩ = pure () := ha
      show wpAny M A (Bind.checkArgs id sig ⟨.ref x :: rest, []⟩) Q E _
      rw [h2]; exact wpAny_pure hq
theorem objNe_own (X : K.In s.heap) (I : InstAt s.heap x ox C od) (hs : findIn K (.ref C) "__eq__" = some (some (.ref f))) (hf : isFn K (.ref f) = true) (hu : A.units < cLine) {Q : Fin → Shared → Prop}
    (hcall : wpAny (model prog w) A (call (.ref f) [.ref x, b]) (fun v s' => ∃ r, v = .bool r ∧ Q (.done (.ret (.bool (!r)))) s') E s) :
    wpAny (model prog w) A (Builtin.«object.__ne__» ⟨[.ref x, b], []⟩) Q E s := by
  obtain ⟨h, g, d, t, os⟩ := s
  unfold Builtin.«object.__ne__»
  repeat (first
    | with_reducible refine wpAny_cRoomFor hu ?_
    | (refine wpAny_bind (m := callSpecialIfBound? (.ref x) (Str.ofString "__eq__") [b])
        (ifBound_K X I hs hf (wpAny_mono hcall (fun r s' hr => by
          obtain ⟨b, rfl, hq⟩ := hr
          repeat (first | exact hq | exact wpAny_pure hq | exact wpAny_truthy_bool hq | (refine wpAny_bind (m := truthy (.bool _)) (wpAny_truthy_bool ?_)) | wp_step)) fun _ _ e => e)))
    | wp_step)
theorem ne_own {Q : Value → Shared → Prop} (hu : A.units + 1 < cLine) (FF : Fr h₀ L s.heap m) (X₀ : K.In h₀) (I : InstAt s.heap x ox C od) (hb : Looks (model prog w) s.heap (typeOf b) tb) (hn : notFirst K C tb = true)
    (hne : findIn K (.ref C) "__ne__" = some (some (.builtin "object.__ne__"))) (hob : subIn K (.ref C) (.type "object") = some true)
    (hs : findIn K (.ref C) "__eq__" = some (some (.ref f))) (hf : isFn K (.ref f) = true)
    (h : wpAny (model prog w) A.in1 (call (.ref f) [.ref x, b]) (fun v s' => ∃ r, v = .bool r ∧ Q (.bool (!r)) s') E s) : wpAny (model prog w) A (richCompare .NotEq (.ref x) b) Q E s := by
  have X := X₀.keeps FF.keep
  have one : wpAny (model prog w) A (tryCompare (.ref x) (cmpInfo .NotEq).2.1 b) (fun r s' => ∃ v, r = some v ∧ Q v s') E s := by
    unfold tryCompare
    refine wpAny_bind (ifBoundB X I hne F.cmp_object.ne.bind (wpAny_call (codeAny_call_builtin F.cmp_object.ne.plain F.cmpEntry_ne (check_own F.cmpKind_ne F.cmpSplit_ne (F.cmpArgs_ne _ _) X I hob
      (objNe_own (A := A.in1) X I hs hf hu (wpAny_mono h (fun v s' hv => ?_) fun _ _ e => e))))))
    obtain ⟨r, rfl, hq⟩ := hv
    exact ⟨r, rfl, wpAny_pure ⟨_, rfl, hq⟩⟩
  unfold richCompare
  simp only [oneThing_ref]
  refine wpAny_holding (wpAny_bind (wpAny_cRoomFor (Nat.lt_of_succ_lt hu) ?_))
  refine wpAny_bind (I.type.here (wpAny_bind (hb.here ?_)))
  split
  · rename_i q
    have e : subIn K tb (.ref C) = some false := by
      rcases Bool.or_eq_true_iff.mp hn with e | e
      · rw [beq_iff_eq.mp e] at q; simp at q
      · exact beq_iff_eq.mp e
    refine wpAny_bind ((looks_subIn X e).here ?_)
    simp only [Bool.false_eq_true, if_false]
    refine wpAny_bind (wpAny_mono one (fun r s' z => ?_) fun _ _ e => e)
    obtain ⟨v, rfl, hq⟩ := z
    exact wpAny_pure hq
  · refine wpAny_bind (wpAny_pure ?_)
    simp only [Bool.false_eq_true, if_false]
    refine wpAny_bind (wpAny_mono one (fun r s' z => ?_) fun _ _ e => e)
    obtain ⟨v, rfl, hq⟩ := z
    exact wpAny_pure hq
end
section
variable {X : Cx} {CX : CXT} {n : Nat} {C f : Addr} {fd : FuncData} {ps : List Str} {sp : Sp} {E : XK}
theorem rc_own (F : FnOk X.prog X.w X.K X.mg X.base CX n f fd ps sp) (hs : PySem.W.findIn X.K (.ref C) "__eq__" = some (some (.ref f))) (hf : PySem.W.isFn X.K (.ref f) = true) (hb : Binds X.K fd ps []) (hx : Passes CX X E) {A : Around} (sb : L2.Sub X n A)
    {pins : List (Addr × Obj)} {s : Shared} {σ : L2.St} {H : Hp} {x y : V} {v u : Value} {Q : VK} (I : Inv X pins σ H s) (rx : RelV x v) (ry : RelV y u) (h : rEqOwn X.K C sp E x y H Q) :
    wpAny (model X.prog X.w) A (richCompare .Eq v u) (EP X pins σ Q) X.xe s := by
  obtain ⟨a, dx, fs, t, rfl, ha, ty, hn, hsp⟩ := h
  cases (show v = Value.ref a from rx)
  obtain ⟨mA, J, _⟩ := ins_get I.hok ha
  obtain ⟨od, J, _⟩ := J.look
  obtain ⟨m, hF⟩ := I.fr
  obtain ⟨PP, kit, hP, _⟩ := kit_of I ry ty
  refine PySem.W.cmp_K (op := .Eq) (tb := t) sb.room.units0 hF I.ok.mod.kin J (kit.ty _ _ I.kIn hP) hn hs hf ?_
  have e0 : Env0 X.prog X.w X.K X.mg X.base A X.stack s H := by
    have e := I.env0
    exact ⟨by rw [sb.fr]; exact e.frames, e.mod, e.bs, e.bsz, e.funs, e.frf, e.hok, e.bare⟩
  have hl := F.len _ _ _ _ hsp
  have r2 : Vals [V.ref a, y] [Value.ref a, u] := .cons rfl (.cons ry .nil)
  refine wpAny_call (codeAny_mono (F.run A X.stack s H ⟨[.ref a, u], []⟩ [.ref a, u] [.ref a, y] _ E sb.room e0 (by
    have := hb s [.ref a, u] I.kIn (by simpa using hl)
    simpa using this) r2 hsp) fun r s' hq => ?_)
  cases r with
  | error e => exact hx pins σ H s e s' I hq
  | ok fl =>
    cases fl with
    | ret w =>
      obtain ⟨z, H', I', rz, b, ez, q⟩ := I.after hq
      subst ez
      cases (show w = Value.bool b from rz)
      exact ⟨.bl b, H', I', rfl, q⟩
    | next => exact False.elim hq
    | brk => exact False.elim hq
    | cont => exact False.elim hq
theorem op_eqOwn (F : FnOk X.prog X.w X.K X.mg X.base CX n f fd ps sp) (hs : PySem.W.findIn X.K (.ref C) "__eq__" = some (some (.ref f))) (hf : PySem.W.isFn X.K (.ref f) = true) (hb : Binds X.K fd ps []) (hx : Passes CX X E) (hr : Room n X.A) : OpR X (compareOp .Eq) (rEqOwn X.K C sp E) := by
  intro pins s σ H x y v u Q I rx ry h
  show wpAny (model X.prog X.w) X.A (richCompare .Eq v u) (EP X pins σ Q) X.xe s
  exact rc_own F hs hf hb hx ⟨hr, rfl⟩ I rx ry h
end
end U

set_option Elab.async false
set_option linter.all false
set_option maxRecDepth 100000
set_option maxHeartbeats 4000000
namespace U
open PySem PySem.Spec PyProof.Rows L2
section
open PySem.W
variable {prog : Program} {w : World} {A : Around} {E : Value → Shared → Prop} {s : Shared} {K : Frag} {x C L f : Addr} {h₀ : Heap} {m : Str → Option Value} {ox : Obj} {od : Option Obj} {name : Str} {b tb : Value}
open Builtin Builtin.Str in
theorem str_own {Q : Value → Shared → Prop} (hu : A.in1.in1.units < cLine) (X : K.In s.heap) (I : InstAt s.heap x ox C od) (hs : findIn K (.ref C) "__str__" = some (some (.ref f))) (hf : isFn K (.ref f) = true)
    (h : wpAny (model prog w) A.in1.in1 (call (.ref f) [.ref x]) (StrBack Q) E s) : wpAny (model prog w) A (call (.type "str") [.ref x]) Q E s := by
  refine callType_codes (T := "str") (Bi := Builtin.«object.__init__») (Q₁ := fun r s₁ => ∃ y u, r = .str y u ∧ Q r s₁) PySem.F.called_str (PySem.F.typeCall_str_1 _) PySem.F.entry_object_init ?_ ?_
  · refine codeAny_of_tree ?_
    show wpAny _ A.in1.in1 (do checkBuiltinCall "str.__new__" ⟨[.type "str", .ref x], []⟩; again (.builtin "str.__new__" ⟨[.type "str", .ref x], []⟩)) _ _ s
    refine wpAny_bind (wpAny_of_eq (PySem.F.newCall_str_1 _) (wpAny_pure ⟨plainId_quiet (by decide +kernel) _, codeAny_builtin PySem.F.entry_str_new ?_⟩))
    rw [Around.under_plainId (by decide +kernel) _]
    rw [str_new_tree]
    refine wpAny_bind (wpAny_pure ?_)
    refine wpAny_bind (wpAny_of_eq isSubtype_str_str ?_)
    have key : wpAny (model prog w) A.in1.in1 (PySem.Builtin.Str.strOf (.ref x)) (fun r s₁ => ∃ y u, r = .str y u ∧ Q r s₁) E s := by
      unfold PySem.Builtin.Str.strOf
      rw [show isExactStr (.ref x) = false from rfl]
      refine wpAny_bind (m := cRoomFor _ _) (wpAny_cRoomFor hu ?_)
      refine wpAny_bind (m := callSpecial? (.ref x) (Str.ofString "__str__")) (special_fn X I hs (beq_iff_eq.mp hf) (wpAny_mono h (fun r s' z => ?_) fun _ _ y => y))
      cases r <;> first | exact z.elim | exact wpAny_pure ⟨_, _, rfl, z⟩
    exact wpAny_bind (wpAny_mono key (fun r s₁ hr => wpAny_pure hr) fun _ _ y => y)
  · rintro obj s₁ ⟨y, u, rfl, hq⟩
    exact ⟨typeIs_str _ _ _, PySem.F.args_object_init_2 _ _, object_init_meets PySem.F.called_str.init.lookup PySem.F.called_str.made (by decide) prog w A.in1 _ s₁ ⟨typeIs_str _ _ _, rfl, hq⟩⟩
theorem len_body {Q : Value → Shared → Prop} (X : K.In s.heap) (I : InstAt s.heap x ox C od) (hs : findIn K (.ref C) "__len__" = some (some (.ref f))) (hf : isFn K (.ref f) = true)
    (h : wpAny (model prog w) A (call (.ref f) [.ref x]) (W.LenBack Q) E s) : wpAny (model prog w) A (Builtin.«len» ⟨[.ref x], []⟩) (fun fin s' => ∃ v, fin = .done (.ret v) ∧ Q v s') E s := by
  unfold Builtin.«len»
  refine wpAny_bind (m := oneArg "len" _) (wpAny_pure ?_)
  refine wpAny_bind (m := callSpecial? (.ref x) (Str.ofString "__len__")) (special_fn X I hs (beq_iff_eq.mp hf) (wpAny_mono h (fun r s' hr => ?_) fun _ _ y => y))
  cases r <;> first | exact hr.elim | skip
  rename_i n u
  obtain ⟨⟨h0, h1⟩, hq⟩ := hr
  refine wpAny_bind (wpAny_holding (wpAny_pure ?_))
  refine wpAny_bind (wpAny_letGo ?_)
  show wpAny _ _ (if n < 0 then _ else _) _ _ _
  rw [if_neg (by omega)]
  show wpAny _ _ (if n ≥ 2 ^ 63 then _ else _) _ _ _
  rw [if_neg (by omega)]
  exact wpAny_bind (wpAny_mkInt (wpAny_pure ⟨_, rfl, hq⟩))
theorem truthy_len {Q : Bool → Shared → Prop} (X : K.In s.heap) (I : InstAt s.heap x ox C od) (hs : findIn K (.ref C) "__bool__" = some none) (hl : findIn K (.ref C) "__len__" = some (some (.ref f))) (hf : isFn K (.ref f) = true)
    (h : wpAny (model prog w) A.in1 (call (.ref f) [.ref x]) (W.LenBack fun v s' => ∃ n t, v = .int n t ∧ Q (n != 0) s') E s) : wpAny (model prog w) A (truthy (.ref x)) Q E s := by
  unfold truthy
  refine wpAny_bind (m := callSpecial? (.ref x) (Str.ofString "__bool__")) (wpAny_bind (wpAny_bind (I.type.here ((looks_findIn X hs).here (wpAny_pure ?_)))))
  refine wpAny_bind (wpAny_bind (I.type.here ((looks_findIn X hl).here ?_)))
  show wpAny _ _ (if (some (Value.ref f)).isNone = true then _ else _) _ _ _
  rw [if_neg (by simp)]
  refine wpAny_bind (runValue_entry entry_len ?_)
  rw [Around.under_plainId plain_len _]
  refine len_body X I hl hf (wpAny_mono h (fun v s' hv => ?_) fun _ _ e => e)
  cases v <;> first | exact hv.elim | skip
  obtain ⟨h1, n, t, e, q⟩ := hv
  cases e
  exact ⟨h1, wpAny_pure q⟩
open Builtin Builtin.Str in
theorem bool_own {Q : Value → Shared → Prop} (X : K.In s.heap) (I : InstAt s.heap x ox C od) (hs : findIn K (.ref C) "__bool__" = some none) (hl : findIn K (.ref C) "__len__" = some (some (.ref f))) (hf : isFn K (.ref f) = true)
    (h : wpAny (model prog w) A.in1.in1.in1 (call (.ref f) [.ref x]) (W.LenBack fun v s' => ∃ n t, v = .int n t ∧ Q (.bool (n != 0)) s') E s) : wpAny (model prog w) A (call (.type "bool") [.ref x]) Q E s := by
  refine callType_codes (T := "bool") (Bi := Builtin.«object.__init__») (Q₁ := fun r s₁ => ∃ y, r = .bool y ∧ Q r s₁) PySem.F.called_bool (PySem.F.typeCall_bool_1 _) PySem.F.entry_object_init ?_ ?_
  · refine codeAny_of_tree ?_
    show wpAny _ A.in1.in1 (do checkBuiltinCall "bool.__new__" ⟨[.type "bool", .ref x], []⟩; again (.builtin "bool.__new__" ⟨[.type "bool", .ref x], []⟩)) _ _ s
    refine wpAny_bind (wpAny_of_eq (PySem.F.newCall_bool_1 _) (wpAny_pure ⟨plainId_quiet (by decide +kernel) _, codeAny_builtin PySem.F.entry_bool_new ?_⟩))
    rw [Around.under_plainId (by decide +kernel) _]
    have key : wpAny (model prog w) A.in1.in1 (truthy (.ref x)) (fun b s₁ => Q (.bool b) s₁) E s := truthy_len X I hs hl hf h
    have f1 := PySem.F.conv_sub_bool
    obtain ⟨hp, g, d, tk, os⟩ := s
    unfold Builtin.«bool.__new__»
    repeat (any_goals (first | assumption | (with_reducible refine wpAny_mono key (fun b s1 hb => ?_) (fun _ _ e => e)) | wp_step))
    all_goals first | exact ⟨_, rfl, hb⟩ | exact wpAny_pure ⟨_, rfl, hb⟩ | skip
    trace_state
  · rintro obj s₁ ⟨y, rfl, hq⟩
    exact ⟨rfl, PySem.F.args_object_init_2 _ _, object_init_meets PySem.F.called_bool.init.lookup PySem.F.called_bool.made (by decide) prog w A.in1 _ s₁ ⟨rfl, rfl, hq⟩⟩
end
section
variable {X : Cx} {CX : CXT} {n : Nat} {C f : Addr} {fd : FuncData} {ps : List Str} {sp : Sp} {E : XK}
/-- a def is called with these values -/
theorem run_own (F : FnOk X.prog X.w X.K X.mg X.base CX n f fd ps sp) (hb : Binds X.K fd ps []) (hx : Passes CX X E) {A : Around} (sb : L2.Sub X n A)
    {pins : List (Addr × Obj)} {s : Shared} {σ : L2.St} {H : Hp} {vs : List V} {us : List Value} {Q : VK} (I : Inv X pins σ H s) (r : Vals vs us) (hsp : sp vs H Q E) :
    wpAny (model X.prog X.w) A (call (.ref f) us) (EP X pins σ Q) X.xe s := by
  have e0 : Env0 X.prog X.w X.K X.mg X.base A X.stack s H := by
    have e := I.env0
    exact ⟨by rw [sb.fr]; exact e.frames, e.mod, e.bs, e.bsz, e.funs, e.frf, e.hok, e.bare⟩
  have hl := F.len _ _ _ _ hsp
  have hr := r.length
  refine wpAny_call (codeAny_mono (F.run A X.stack s H ⟨us, []⟩ us vs _ E sb.room e0 (by
    have := hb s us I.kIn (by simp; omega)
    simpa using this) r hsp) fun r s' hq => ?_)
  cases r with
  | error e => exact hx pins σ H s e s' I hq
  | ok fl =>
    cases fl with
    | ret w => exact I.after hq
    | next => exact False.elim hq
    | brk => exact False.elim hq
    | cont => exact False.elim hq
theorem inst_of {pins : List (Addr × Obj)} {s : Shared} {σ : L2.St} {H : Hp} {a dx : Addr} {fs : List (Str × V)} (I : Inv X pins σ H s) (ha : H a = some (.ins C dx fs)) : ∃ ox od, PySem.W.InstAt s.heap a ox C od := by
  obtain ⟨mA, J, _⟩ := ins_get I.hok ha
  obtain ⟨od, J, _⟩ := J.look
  exact ⟨_, _, J⟩
/-- len(x), x of the class C with a __len__ of its own -/
def rLenOwn (C : Addr) (sp : Sp) (E : XK) : List V → Hp → VK → Prop := fun xs H Q => ∃ (a dx : Addr) (fs : List (Str × V)), xs = [.ref a] ∧ H a = some (.ins C dx fs) ∧ sp [.ref a] H (fun z H' => ∃ n : Int, z = .int n ∧ 0 ≤ n ∧ n < 2 ^ 63 ∧ Q (.int n) H') E
theorem call_lenOwn (F : FnOk X.prog X.w X.K X.mg X.base CX n f fd ps sp) (hb : Binds X.K fd ps []) (hx : Passes CX X E) (hs : PySem.W.findIn X.K (.ref C) "__len__" = some (some (.ref f))) (hf : PySem.W.isFn X.K (.ref f) = true) (hr : Room (n + 1) X.A) : CallR X (.builtin "len") (rLenOwn C sp E) := by
  intro pins s σ H xs us Q I r h
  obtain ⟨a, dx, fs, rfl, ha, hsp⟩ := h
  obtain ⟨u, rfl, ru⟩ := vals1 r
  obtain rfl : u = Value.ref a := ru
  obtain ⟨ox, od, J⟩ := inst_of I ha
  obtain ⟨m, hF⟩ := I.fr
  refine PySem.W.len_K hF I.ok.mod.kin J hs hf (wpAny_mono (run_own F hb hx ⟨hr.in1, rfl⟩ I r hsp) (fun v s' z => ?_) fun _ _ e => e)
  obtain ⟨z, H', I', rz, k, rfl, h0, h1, q⟩ := z
  obtain ⟨t, rfl⟩ := (show ∃ t, v = Value.int k t from rz)
  exact ⟨⟨h0, h1⟩, .int k, H', I'.tok _, ⟨_, rfl⟩, q⟩
/-- bool(x) by that -/
def rBoolOwn (C : Addr) (sp : Sp) (E : XK) : List V → Hp → VK → Prop := fun xs H Q => ∃ (a dx : Addr) (fs : List (Str × V)), xs = [.ref a] ∧ H a = some (.ins C dx fs) ∧ sp [.ref a] H (fun z H' => ∃ n : Int, z = .int n ∧ 0 ≤ n ∧ n < 2 ^ 63 ∧ Q (.bl (n != 0)) H') E
theorem call_boolOwn (F : FnOk X.prog X.w X.K X.mg X.base CX n f fd ps sp) (hb : Binds X.K fd ps []) (hx : Passes CX X E) (hn : PySem.W.findIn X.K (.ref C) "__bool__" = some none) (hs : PySem.W.findIn X.K (.ref C) "__len__" = some (some (.ref f))) (hf : PySem.W.isFn X.K (.ref f) = true) (hr : Room (n + 3) X.A) :
    CallR X (.type "bool") (rBoolOwn C sp E) := by
  intro pins s σ H xs us Q I r h
  obtain ⟨a, dx, fs, rfl, ha, hsp⟩ := h
  obtain ⟨u, rfl, ru⟩ := vals1 r
  obtain rfl : u = Value.ref a := ru
  obtain ⟨ox, od, J⟩ := inst_of I ha
  refine bool_own I.kIn J hn hs hf (wpAny_mono (run_own F hb hx ⟨hr.in1.in1.in1, rfl⟩ I r hsp) (fun v s' z => ?_) fun _ _ e => e)
  obtain ⟨z, H', I', rz, k, rfl, h0, h1, q⟩ := z
  obtain ⟨t, rfl⟩ := (show ∃ t, v = Value.int k t from rz)
  exact ⟨⟨h0, h1⟩, k, _, rfl, .bl _, H', I'.tok _, rfl, q⟩
/-- str(x), repr(x) by defs of its own -/
def rTxtOwn (C : Addr) (sp : Sp) (E : XK) : List V → Hp → VK → Prop := fun xs H Q => ∃ (a dx : Addr) (fs : List (Str × V)), xs = [.ref a] ∧ H a = some (.ins C dx fs) ∧ sp [.ref a] H (fun z H' => ∃ y : Str, z = .str y ∧ Q (.str y) H') E
theorem call_reprOwn (F : FnOk X.prog X.w X.K X.mg X.base CX n f fd ps sp) (hb : Binds X.K fd ps []) (hx : Passes CX X E) (hs : PySem.W.findIn X.K (.ref C) "__repr__" = some (some (.ref f))) (hf : PySem.W.isFn X.K (.ref f) = true) (hr : Room (n + 1) X.A) : CallR X (.builtin "repr") (rTxtOwn C sp E) := by
  intro pins s σ H xs us Q I r h
  obtain ⟨a, dx, fs, rfl, ha, hsp⟩ := h
  obtain ⟨u, rfl, ru⟩ := vals1 r
  obtain rfl : u = Value.ref a := ru
  obtain ⟨ox, od, J⟩ := inst_of I ha
  obtain ⟨m, hF⟩ := I.fr
  refine PySem.W.repr_K hr.in1.units0 hF I.ok.mod.kin J hs hf (wpAny_mono (run_own F hb hx ⟨hr.in1, rfl⟩ I r hsp) (fun v s' z => ?_) fun _ _ e => e)
  obtain ⟨z, H', I', rz, k, rfl, q⟩ := z
  obtain ⟨t, rfl⟩ := (show ∃ t, v = Value.str k t from rz)
  exact ⟨.str k, H', I', ⟨_, rfl⟩, q⟩
theorem call_strOwn (F : FnOk X.prog X.w X.K X.mg X.base CX n f fd ps sp) (hb : Binds X.K fd ps []) (hx : Passes CX X E) (hs : PySem.W.findIn X.K (.ref C) "__str__" = some (some (.ref f))) (hf : PySem.W.isFn X.K (.ref f) = true) (hr : Room (n + 2) X.A) : CallR X (.type "str") (rTxtOwn C sp E) := by
  intro pins s σ H xs us Q I r h
  obtain ⟨a, dx, fs, rfl, ha, hsp⟩ := h
  obtain ⟨u, rfl, ru⟩ := vals1 r
  obtain rfl : u = Value.ref a := ru
  obtain ⟨ox, od, J⟩ := inst_of I ha
  refine str_own hr.in1.in1.units0 I.kIn J hs hf (wpAny_mono (run_own F hb hx ⟨hr.in1.in1, rfl⟩ I r hsp) (fun v s' z => ?_) fun _ _ e => e)
  obtain ⟨z, H', I', rz, k, rfl, q⟩ := z
  obtain ⟨t, rfl⟩ := (show ∃ t, v = Value.str k t from rz)
  exact ⟨.str k, H', I', ⟨_, rfl⟩, q⟩
/-- x != y by the own __eq__ -/
def rNeOwn (K : PySem.W.Frag) (C : Addr) (sp : Sp) (E : XK) : R2 := fun x y H Q => ∃ (a dx : Addr) (fs : List (Str × V)) (t : Value), x = .ref a ∧ H a = some (.ins C dx fs) ∧ TyX K H y t ∧ PySem.W.notFirst K C t = true ∧ sp [.ref a, y] H (fun z H' => ∃ b, z = .bl b ∧ Q (.bl (!b)) H') E
theorem op_neOwn (F : FnOk X.prog X.w X.K X.mg X.base CX n f fd ps sp) (hs : PySem.W.findIn X.K (.ref C) "__eq__" = some (some (.ref f))) (hf : PySem.W.isFn X.K (.ref f) = true) (hne : PySem.W.findIn X.K (.ref C) "__ne__" = some (some (.builtin "object.__ne__")))
    (hob : PySem.W.subIn X.K (.ref C) (.type "object") = some true) (hb : Binds X.K fd ps []) (hx : Passes CX X E) (hr : Room (n + 1) X.A) : OpR X (compareOp .NotEq) (rNeOwn X.K C sp E) := by
  intro pins s σ H x y v u Q I rx ry h
  obtain ⟨a, dx, fs, t, rfl, ha, ty, hn, hsp⟩ := h
  cases (show v = Value.ref a from rx)
  obtain ⟨ox, od, J⟩ := inst_of I ha
  obtain ⟨m, hF⟩ := I.fr
  obtain ⟨PP, kit, hP, _⟩ := kit_of I ry ty
  show wpAny (model X.prog X.w) X.A (richCompare .NotEq (.ref a) u) (EP X pins σ Q) X.xe s
  refine ne_own hr.in1.units0 hF I.ok.mod.kin J (kit.ty _ _ I.kIn hP) hn hne hob hs hf (wpAny_mono (run_own (vs := [V.ref a, y]) F hb hx ⟨hr.in1, rfl⟩ I (.cons rfl (.cons ry .nil)) hsp) (fun w s' z => ?_) fun _ _ e => e)
  obtain ⟨z, H', I', rz, b, rfl, q⟩ := z
  cases (show w = Value.bool b from rz)
  exact ⟨b, rfl, .bl _, H', I', rfl, q⟩
end
end U

set_option Elab.async false
set_option linter.all false
set_option maxRecDepth 100000
set_option maxHeartbeats 4000000
namespace U
open PySem PySem.Spec PyProof.Rows L2
section
open PySem.W PySem.SeqAt
open AutoSeq1 (wpAny_loadPart')
open MeetsSeq MeetsSeq2 MeetsSeq3 SeqRoads2
variable {prog : Program} {w : World} {A : Around} {E : Value → Shared → Prop} {s : Shared} {K : Frag} {x C L f : Addr} {h₀ : Heap} {m : Str → Option Value} {ox : Obj} {od : Option Obj} {name : Str} {b tb : Value}
/-- None == x, x with an __eq__ of its own: x is asked -/
theorem none_eq {Q : Value → Shared → Prop} (hu : A.units < cLine) (X : K.In s.heap) (I : InstAt s.heap x ox C od) (hn : subIn K (.ref C) (.type "NoneType") = some false)
    (hs : findIn K (.ref C) "__eq__" = some (some (.ref f))) (hf : isFn K (.ref f) = true)
    (h : wpAny (model prog w) A (call (.ref f) [.ref x, .none]) (W.CmpBack Q) E s) : wpAny (model prog w) A (richCompare .Eq .none (.ref x)) Q E s := by
  have one : wpAny (model prog w) A (tryCompare (.ref x) (cmpInfo .Eq).2.2 .none) (fun r s' => ∃ v, r = some v ∧ Q v s') E s := by
    unfold tryCompare
    refine wpAny_bind (ifBound_K X I hs hf (wpAny_mono h (fun v s' hv => ?_) fun _ _ e => e))
    cases v <;> first | exact hv.elim | exact wpAny_pure ⟨_, rfl, hv⟩
  have hT : s.TypeIs .none "NoneType" := rfl
  simp only [richCompare, hT.oneThing_none]
  refine wpAny_holding (wpAny_bind (wpAny_cRoomFor hu ?_))
  refine wpAny_bind (wpAny_typeOf hT (wpAny_bind (I.type.here ?_)))
  split
  · refine wpAny_bind ((looks_subIn X hn).here ?_)
    simp only [Bool.false_eq_true, if_false, Bool.not_false, if_true]
    refine wpAny_bind (m := tryCompare .none _ (.ref x)) (wpAny_tryCompare_declines hT PySem.F.slot_NoneType_eq (call_gives PySem.F.slot_NoneType_eq rfl PySem.F.entry_NoneType_eq (PySem.F.args_NoneType_eq_2 _ _) (NoneType___eq___none_ref_0 x) ⟨rfl, ?_⟩))
    refine wpAny_bind (wpAny_mono one (fun r s' z => ?_) fun _ _ e => e)
    obtain ⟨v, rfl, hq⟩ := z
    exact wpAny_pure hq
  · rename_i q
    simp at q
/-- the list is walked, each item asked whether it is x -/
theorem con_loop {R : Result → Shared → Prop} (l : Addr) (x : Value) (N : Nat) (J : Nat → Shared → Prop)
    (hl : ∀ i s, J i s → ∃ (items : Array Value) (n : Nat), items.size = N ∧ s.heap.get? l = some { cls := .type "list", data := .seq items n } ∧ ∀ h : i < items.size, wpAny (model prog w) A.in1 (eqBool items[i] x) (fun r s' => (r = true → R (.ok (.ret (.bool true))) s') ∧ (r = false → J (i + 1) s')) (fun e s' => R (.error e) s') s)
    (fin : ∀ s, J N s → R (.ok (.ret (.bool false))) s) (k : Nat) : ∀ i : Nat, N - i = k → i ≤ N → ∀ s, J i s →
      wpAny (model prog w) A.in1 (Builtin.«list.__contains__.loop» ⟨[.ref l, x, rawInt i], []⟩) (GQ.FinOf prog w A R) (fun e s' => R (.error e) s') s := by
  induction k with
  | zero =>
    intro i hk hi s h
    obtain ⟨items, n, hN, hle, _⟩ := hl _ _ h
    have hi' : i = N := by omega
    have hR := fin s (hi' ▸ h)
    obtain ⟨hp, g, d, tk, os⟩ := s
    wp_walk using wpAny_loadPart' hle
    have hi1 : items[((i : Nat) : Int).toNat]? = none := by simp; omega
    rw [hi1]
    wp_walk
    exact hR
  | succ k ih =>
    intro i hk hi s h
    obtain ⟨items, n, hN, hle, turn⟩ := hl _ _ h
    have hlt : i < items.size := by omega
    have ht := turn hlt
    obtain ⟨hp, g, d, tk, os⟩ := s
    wp_walk using wpAny_loadPart' hle
    have hi1 : items[((i : Nat) : Int).toNat]? = some items[i] := by simp [hlt]
    rw [hi1]
    refine wpAny_bind (wpAny_mono ht (fun r s' z => ?_) fun _ _ e => e)
    cases r with
    | true =>
      have z := z.1 rfl
      wp_walk
      exact z
    | false =>
      have z := z.2 rfl
      have hc : ((i : Int) + 1) = ((i + 1 : Nat) : Int) := by push_cast; rfl
      wp_walk
      rw [hc]
      exact ⟨plainId_quiet plain_contains_loop _, codeAny_builtin entry_contains_loop (by
        rw [Around.under_plainId plain_contains_loop _]
        exact ih (i + 1) (by omega) (by omega) s' z)⟩
theorem notIn_own {l : Addr} {x : Value} {N : Nat} {Q : Value → Shared → Prop} (J : Nat → Shared → Prop)
    (hl : ∀ i s, J i s → ∃ (items : Array Value) (n : Nat), items.size = N ∧ s.heap.get? l = some { cls := .type "list", data := .seq items n } ∧ ∀ h : i < items.size, wpAny (model prog w) A.in1 (eqBool items[i] x) (fun r s' => (r = true → Q (.bool false) s') ∧ (r = false → J (i + 1) s')) E s)
    (fin : ∀ s, J N s → Q (.bool true) s) (h0 : J 0 s) : wpAny (model prog w) A (compareOp .NotIn x (.ref l)) Q E s := by
  show wpAny _ A (do return .bool (!(← contains (.ref l) x))) Q E s
  obtain ⟨items, n, hN, hle, _⟩ := hl _ _ h0
  refine wpAny_bind (wpAny_contains_slot (T := "list") ⟨_, hle, rfl⟩ PySem.F.slot_list_contains (wpAny_mono (Q := fun v s' => ∃ r : Bool, v = .bool r ∧ Q (.bool (!r)) s') (GQ.call_here PySem.F.slot_list_contains ⟨_, hle, rfl⟩ PySem.F.entry_list_contains (PySem.F.args_list_contains_2 _ _) ?_) (fun v s' hv => ?_) fun _ _ e => e))
  · obtain ⟨hp, g, d, tk, os⟩ := s
    wp_walk using wpAny_loadPart' hle
    exact ⟨plainId_quiet plain_contains_loop _, codeAny_builtin entry_contains_loop (by
      rw [Around.under_plainId plain_contains_loop _]
      refine con_loop (R := wants (fun v s' => ∃ r : Bool, v = .bool r ∧ Q (.bool (!r)) s') E) l x N J (fun i s h => ?_) (fun s h => ⟨false, rfl, fin s h⟩) _ 0 rfl (Nat.zero_le _) _ h0
      obtain ⟨items, n, h1, h2, h3⟩ := hl i s h
      exact ⟨items, n, h1, h2, fun hi => wpAny_mono (h3 hi) (fun r s' z => ⟨fun e => ⟨true, rfl, z.1 e⟩, z.2⟩) fun _ _ e => e⟩)⟩
  · obtain ⟨b, rfl, hq⟩ := hv
    exact wpAny_truthy_bool (wpAny_pure hq)
end
/-- x not in [None, y], both of the class C with an __eq__ of its own: None is not it, y is -/
def rNotIn2 (C : Addr) (sp : Sp) (E : XK) : R2 := fun x y H Q => ∃ (a b l dx dx2 : Addr) (fs fs2 : List (Str × V)), x = .ref a ∧ y = .ref l ∧ H l = some (.lst [.non, .ref b]) ∧ H a = some (.ins C dx fs) ∧ H b = some (.ins C dx2 fs2) ∧ a ≠ b ∧
  sp [.ref a, .non] H (fun z H1 => z = .bl false ∧ Same H H1 ∧ sp [.ref b, .ref a] H1 (fun z H2 => ∃ r, z = .bl r ∧ V.bl r = .bl true ∧ Q (.bl false) H2) E) E
section
variable {X : Cx} {CX : CXT} {n : Nat} {C f : Addr} {fd : FuncData} {ps : List Str} {sp : Sp} {E : XK}
theorem op_notIn2 (F : FnOk X.prog X.w X.K X.mg X.base CX n f fd ps sp) (hs : PySem.W.findIn X.K (.ref C) "__eq__" = some (some (.ref f))) (hf : PySem.W.isFn X.K (.ref f) = true) (hno : PySem.W.subIn X.K (.ref C) (.type "NoneType") = some false) (hty : ∀ H a dx fs, H a = some (.ins C dx fs) → TyX X.K H (.ref a) (.ref C))
    (hb : Binds X.K fd ps []) (hx : Passes CX X E) (hr : Room (n + 1) X.A) : OpR X (compareOp .NotIn) (rNotIn2 C sp E) := by
  intro pins s σ H x y v u Q I rx ry h
  obtain ⟨a, b, l, dx, dx2, fs, fs2, rfl, rfl, hl, ha, hb2, hab, hsp⟩ := h
  cases (show v = Value.ref a from rx)
  cases (show u = Value.ref l from ry)
  refine notIn_own (N := 2) (fun i s => (i = 0 ∧ Inv X pins σ H s) ∨ (i = 1 ∧ ∃ H1, Inv X pins σ H1 s ∧ Same H H1 ∧ sp [.ref b, .ref a] H1 (fun z H2 => ∃ r, z = .bl r ∧ V.bl r = .bl true ∧ Q (.bl false) H2) E)) (fun i s h => ?_) (fun s h => ?_) (.inl ⟨rfl, I⟩)
  · rcases h with ⟨rfl, I⟩ | ⟨rfl, H1, I1, s1, hsp1⟩
    · obtain ⟨z, its, m, r, hlen, e⟩ := I.lstM hl
      cases r with
      | cons r0 r =>
        cases r with
        | cons r1 r =>
          cases r
          refine ⟨_, m, rfl, e, fun _ => ?_⟩
          cases (show _ = Value.none from r0)
          obtain ⟨ox, od, J⟩ := inst_of I ha
          show wpAny _ _ (eqBool Value.none (.ref a)) _ _ _
          unfold eqBool
          refine wpAny_holding ?_
          refine wpAny_ite_split (fun hab => absurd (eq_of_beq hab) nofun) (fun _ => ?_)
          refine wpAny_bind (none_eq hr.in1.units0 I.kIn J hno hs hf (wpAny_mono (run_own (vs := [V.ref a, V.non]) F hb hx ⟨hr.in1, rfl⟩ I (.cons rfl (.cons rfl .nil)) hsp) (fun w s' z => ?_) fun _ _ e => e))
          obtain ⟨z, H', I', rz, rfl, s1, q⟩ := z
          cases (show w = Value.bool false from rz)
          exact wpAny_truthy_bool ⟨fun z => (by cases z), fun _ => .inr ⟨rfl, H', I', s1, q⟩⟩
    · obtain ⟨z, its, m, r, hlen, e⟩ := I1.lstM (s1 _ _ hl)
      cases r with
      | cons r0 r =>
        cases r with
        | cons r1 r =>
          cases r
          refine ⟨_, m, rfl, e, fun _ => ?_⟩
          cases (show _ = Value.ref b from r1)
          show wpAny _ _ (eqBool (Value.ref b) (.ref a)) _ _ _
          refine GQ.eqBool_refG (Ne.symm hab) ?_
          refine wpAny_mono (rc_own F hs hf hb hx ⟨hr.in1, rfl⟩ I1 (x := .ref b) (y := .ref a) rfl rfl ⟨b, dx2, fs2, .ref C, rfl, s1 _ _ hb2, hty _ _ _ _ (s1 _ _ ha), by simp [PySem.W.notFirst], ?_⟩ (Q := fun z H2 => z = .bl true ∧ Q (.bl false) H2)) (fun w s' z => ?_) fun _ _ e => e
          · exact hsp1
          · obtain ⟨z, H', I', rz, rfl, q⟩ := z
            cases (show w = Value.bool true from rz)
            exact ⟨true, rfl, fun _ => ⟨.bl false, H', I', rfl, q⟩, fun z => (by cases z)⟩
  · rcases h with ⟨h, _⟩ | ⟨h, _⟩ <;> cases h
end
end U

set_option Elab.async false
set_option linter.all false
set_option maxRecDepth 100000
set_option maxHeartbeats 4000000
namespace U
open PySem PySem.Spec PyProof.Rows L2
section
open PySem.W PySem.SeqAt
open AutoSeq1 (wpAny_loadPart')
open MeetsSeq MeetsSeq2 MeetsSeq3 SeqRoads2
variable {prog : Program} {w : World} {A : Around} {E : Value → Shared → Prop} {s : Shared} {K : Frag} {x C L f : Addr} {h₀ : Heap} {m : Str → Option Value} {ox : Obj} {od : Option Obj} {name : Str} {b tb : Value}
theorem in_own {l : Addr} {x : Value} {N : Nat} {Q : Value → Shared → Prop} (J : Nat → Shared → Prop)
    (hl : ∀ i s, J i s → ∃ (items : Array Value) (n : Nat), items.size = N ∧ s.heap.get? l = some { cls := .type "list", data := .seq items n } ∧ ∀ h : i < items.size, wpAny (model prog w) A.in1 (eqBool items[i] x) (fun r s' => (r = true → Q (.bool true) s') ∧ (r = false → J (i + 1) s')) E s)
    (fin : ∀ s, J N s → Q (.bool false) s) (h0 : J 0 s) : wpAny (model prog w) A (compareOp .In x (.ref l)) Q E s := by
  show wpAny _ A (do return .bool (← contains (.ref l) x)) Q E s
  obtain ⟨items, n, hN, hle, _⟩ := hl _ _ h0
  refine wpAny_bind (wpAny_contains_slot (T := "list") ⟨_, hle, rfl⟩ PySem.F.slot_list_contains (wpAny_mono (Q := fun v s' => ∃ r : Bool, v = .bool r ∧ Q (.bool r) s') (GQ.call_here PySem.F.slot_list_contains ⟨_, hle, rfl⟩ PySem.F.entry_list_contains (PySem.F.args_list_contains_2 _ _) ?_) (fun v s' hv => ?_) fun _ _ e => e))
  · obtain ⟨hp, g, d, tk, os⟩ := s
    wp_walk using wpAny_loadPart' hle
    exact ⟨plainId_quiet plain_contains_loop _, codeAny_builtin entry_contains_loop (by
      rw [Around.under_plainId plain_contains_loop _]
      refine con_loop (R := wants (fun v s' => ∃ r : Bool, v = .bool r ∧ Q (.bool r) s') E) l x N J (fun i s h => ?_) (fun s h => ⟨false, rfl, fin s h⟩) _ 0 rfl (Nat.zero_le _) _ h0
      obtain ⟨items, n, h1, h2, h3⟩ := hl i s h
      exact ⟨items, n, h1, h2, fun hi => wpAny_mono (h3 hi) (fun r s' z => ⟨fun e => ⟨true, rfl, z.1 e⟩, z.2⟩) fun _ _ e => e⟩)⟩
  · obtain ⟨b, rfl, hq⟩ := hv
    exact wpAny_truthy_bool (wpAny_pure hq)
end
/-- x in [y], both of the class C with an __eq__ of its own, by which y is it -/
def rIn1 (C : Addr) (sp : Sp) (E : XK) : R2 := fun x y H Q => ∃ (a b l dx dx2 : Addr) (fs fs2 : List (Str × V)), x = .ref a ∧ y = .ref l ∧ H l = some (.lst [.ref b]) ∧ H a = some (.ins C dx fs) ∧ H b = some (.ins C dx2 fs2) ∧ a ≠ b ∧
  sp [.ref b, .ref a] H (fun z H2 => ∃ r, z = .bl r ∧ V.bl r = .bl true ∧ Q (.bl true) H2) E
section
variable {X : Cx} {CX : CXT} {n : Nat} {C f : Addr} {fd : FuncData} {ps : List Str} {sp : Sp} {E : XK}
theorem op_in1 (F : FnOk X.prog X.w X.K X.mg X.base CX n f fd ps sp) (hs : PySem.W.findIn X.K (.ref C) "__eq__" = some (some (.ref f))) (hf : PySem.W.isFn X.K (.ref f) = true) (hty : ∀ H a dx fs, H a = some (.ins C dx fs) → TyX X.K H (.ref a) (.ref C))
    (hb : Binds X.K fd ps []) (hx : Passes CX X E) (hr : Room (n + 1) X.A) : OpR X (compareOp .In) (rIn1 C sp E) := by
  intro pins s σ H x y v u Q I rx ry h
  obtain ⟨a, b, l, dx, dx2, fs, fs2, rfl, rfl, hl, ha, hb2, hab, hsp⟩ := h
  cases (show v = Value.ref a from rx)
  cases (show u = Value.ref l from ry)
  refine in_own (N := 1) (fun i s => i = 0 ∧ Inv X pins σ H s) (fun i s h => ?_) (fun s h => ?_) ⟨rfl, I⟩
  · rcases h with ⟨rfl, I⟩
    obtain ⟨z, its, m, r, hlen, e⟩ := I.lstM hl
    cases r with
    | cons r0 r =>
      cases r
      refine ⟨_, m, rfl, e, fun _ => ?_⟩
      cases (show _ = Value.ref b from r0)
      show wpAny _ _ (eqBool (Value.ref b) (.ref a)) _ _ _
      refine GQ.eqBool_refG (Ne.symm hab) ?_
      refine wpAny_mono (rc_own F hs hf hb hx ⟨hr.in1, rfl⟩ I (x := .ref b) (y := .ref a) rfl rfl ⟨b, dx2, fs2, .ref C, rfl, hb2, hty _ _ _ _ ha, by simp [PySem.W.notFirst], ?_⟩ (Q := fun z H2 => z = .bl true ∧ Q (.bl true) H2)) (fun w s' z => ?_) fun _ _ e => e
      · exact hsp
      · obtain ⟨z, H', I', rz, rfl, q⟩ := z
        cases (show w = Value.bool true from rz)
        exact ⟨true, rfl, fun _ => ⟨.bl true, H', I', rfl, q⟩, fun z => (by cases z)⟩
  · rcases h with ⟨h, _⟩
    cases h
end
end U

set_option Elab.async false
set_option linter.all false
set_option maxRecDepth 100000
set_option maxHeartbeats 4000000
/-! terms, their texts, the pieces of a text: no program here -/
namespace U
inductive Kd where
  | num | name | part
  deriving DecidableEq
inductive Wd where
  | sum | less | times | below | iff | pair | first | second | lett | deff | call
  deriving DecidableEq
inductive Tm where
  | atom (k : Kd) (l : List Nat)
  | n1 (w : Wd) (b : List Nat) (x : Tm)
  | n2 (w : Wd) (b : List Nat) (x y : Tm)
  | n3 (w : Wd) (b : List Nat) (x y z : Tm)
  deriving DecidableEq
def Kd.cs : Kd → List Nat
  | .num => [110, 117, 109, 98, 101, 114]
  | .name => [110, 97, 109, 101]
  | .part => [112, 97, 114, 116]
def Wd.cs : Wd → List Nat
  | .sum => [115, 117, 109]
  | .less => [108, 101, 115, 115]
  | .times => [116, 105, 109, 101, 115]
  | .below => [98, 101, 108, 111, 119]
  | .iff => [105, 102]
  | .pair => [112, 97, 105, 114]
  | .first => [102, 105, 114, 115, 116]
  | .second => [115, 101, 99, 111, 110, 100]
  | .lett => [108, 101, 116]
  | .deff => [100, 101, 102]
  | .call => [99, 97, 108, 108]
def Wd.ar : Wd → Nat
  | .sum => 2 | .less => 2 | .times => 2 | .below => 2 | .iff => 3 | .pair => 2 | .first => 1 | .second => 1 | .lett => 2 | .deff => 1 | .call => 2
def Wd.bd : Wd → Bool
  | .lett => true
  | .deff => true
  | _ => false
def Wd.all : List Wd := [.sum, .less, .times, .below, .iff, .pair, .first, .second, .lett, .deff, .call]
theorem Wd.mem (w : Wd) : w ∈ Wd.all := by cases w <;> decide
/-- a bracket's head: the word, the small name behind it -/
def hd (w : Wd) (b : List Nat) : List Nat := 40 :: w.cs ++ (if w.bd then 32 :: b else [])
def Tm.pr : Tm → List Nat
  | .atom _ l => l
  | .n1 w b x => hd w b ++ (32 :: x.pr) ++ [41]
  | .n2 w b x y => hd w b ++ (32 :: x.pr ++ 32 :: y.pr) ++ [41]
  | .n3 w b x y z => hd w b ++ (32 :: x.pr ++ 32 :: y.pr ++ 32 :: z.pr) ++ [41]
def Tm.kids : Tm → List Tm
  | .atom _ _ => []
  | .n1 _ _ x => [x]
  | .n2 _ _ x y => [x, y]
  | .n3 _ _ x y z => [x, y, z]
def Tm.size : Tm → Nat
  | .atom _ _ => 1
  | .n1 _ _ x => 1 + x.size
  | .n2 _ _ x y => 1 + x.size + y.size
  | .n3 _ _ x y z => 1 + x.size + y.size + z.size
def Tm.depth : Tm → Nat
  | .atom _ _ => 0
  | .n1 _ _ x => 1 + x.depth
  | .n2 _ _ x y => 1 + max x.depth y.depth
  | .n3 _ _ x y z => 1 + max (max x.depth y.depth) z.depth
def Tm.kind : Tm → List Nat
  | .atom k _ => k.cs
  | .n1 w _ _ => w.cs
  | .n2 w _ _ _ => w.cs
  | .n3 w _ _ _ _ => w.cs
def sm (w : Wd) (b : List Nat) : Option (List Nat) := if w.bd then some b else none
def Tm.small : Tm → Option (List Nat)
  | .atom _ _ => none
  | .n1 w b _ => sm w b
  | .n2 w b _ _ => sm w b
  | .n3 w b _ _ _ => sm w b
/-- small letters, figures -/
def smalls : List Nat := (List.range 26).map (97 + ·)
def greats : List Nat := (List.range 26).map (65 + ·)
def figs : List Nat := (List.range 10).map (48 + ·)
def figs1 : List Nat := (List.range 9).map (49 + ·)
def SmallOk (l : List Nat) : Prop := 1 ≤ l.length ∧ l.length ≤ 4 ∧ ∀ c ∈ l, c ∈ smalls
def GreatOk (l : List Nat) : Prop := 1 ≤ l.length ∧ l.length ≤ 6 ∧ ∀ c ∈ l, c ∈ greats
def NumOk (l : List Nat) : Prop := l = [48] ∨ ∃ d ds, (l = d :: ds ∨ l = 45 :: d :: ds) ∧ d ∈ figs1 ∧ ds.length ≤ 11 ∧ ∀ c ∈ ds, c ∈ figs
def AtomOk : Kd → List Nat → Prop
  | .num, l => NumOk l
  | .name, l => SmallOk l
  | .part, l => GreatOk l
def BndOk (w : Wd) (b : List Nat) : Prop := if w.bd = true then SmallOk b else b = []
def Tm.Ok : Tm → Prop
  | .atom k l => AtomOk k l
  | .n1 w b x => w.ar = 1 ∧ BndOk w b ∧ x.Ok
  | .n2 w b x y => w.ar = 2 ∧ BndOk w b ∧ x.Ok ∧ y.Ok
  | .n3 w b x y z => w.ar = 3 ∧ BndOk w b ∧ x.Ok ∧ y.Ok ∧ z.Ok
/-- a piece: its form or the bracket that closes, where it begins and ends, its small name -/
structure Pc where
  kind : List Nat
  b : Nat
  e : Nat
  small : Option (List Nat)
  deriving DecidableEq
def cl (a : Nat) : Pc := ⟨[41], a, a + 1, none⟩
/-- the texts of terms behind one another, a blank ahead of each -/
def kT : List Tm → List Nat
  | [] => []
  | k :: ks => 32 :: k.pr ++ kT ks
def op (a : Nat) (w : Wd) (b : List Nat) : Pc := ⟨w.cs, a, a + (hd w b).length, sm w b⟩
def Tm.pc : Tm → Nat → List Pc
  | .atom k l, a => [⟨k.cs, a, a + l.length, none⟩]
  | .n1 w b x, a => op a w b :: (x.pc (a + (hd w b).length + 1) ++ [cl (a + (hd w b).length + (kT [x]).length)])
  | .n2 w b x y, a => op a w b :: (x.pc (a + (hd w b).length + 1) ++ (y.pc (a + (hd w b).length + (kT [x]).length + 1) ++ [cl (a + (hd w b).length + (kT [x, y]).length)]))
  | .n3 w b x y z, a => op a w b :: (x.pc (a + (hd w b).length + 1) ++ (y.pc (a + (hd w b).length + (kT [x]).length + 1) ++ (z.pc (a + (hd w b).length + (kT [x, y]).length + 1) ++ [cl (a + (hd w b).length + (kT [x, y, z]).length)])))
def kP : Nat → List Tm → List Pc
  | _, [] => []
  | a, k :: ks => k.pc (a + 1) ++ kP (a + 1 + k.pr.length) ks
/-- what is left of a text, of its pieces, where these brackets are open: behind what stands, the terms still lacking in each -/
def rT : List (List Tm) → List Nat
  | [] => []
  | ks :: fs => kT ks ++ 41 :: rT fs
def rP : Nat → List (List Tm) → List Pc
  | _, [] => []
  | a, ks :: fs => kP a ks ++ cl (a + (kT ks).length) :: rP (a + (kT ks).length + 1) fs
/-- a bracket's view -/
structure View (t : Tm) (w : Wd) (b : List Nat) (ks : List Tm) : Prop where
  pr : t.pr = hd w b ++ kT ks ++ [41]
  pc : ∀ a, t.pc a = op a w b :: (kP (a + (hd w b).length) ks ++ [cl (a + (hd w b).length + (kT ks).length)])
  ar : ks.length = w.ar
  bn : BndOk w b
  kids : t.kids = ks
  kind : t.kind = w.cs
  small : t.small = sm w b
  size : t.size = 1 + (ks.map Tm.size).sum
  depth : t.depth = 1 + (ks.map Tm.depth).foldr max 0
  oks : ∀ k ∈ ks, k.Ok
theorem kT_len : ∀ ks, (kT ks).length = (ks.map fun k => 1 + k.pr.length).sum
  | [] => rfl
  | k :: ks => by
    rw [kT, List.cons_append, List.length_cons, List.length_append, kT_len ks, List.map_cons, List.sum_cons]
    omega
theorem kT_app : ∀ xs ys, kT (xs ++ ys) = kT xs ++ kT ys
  | [], ys => rfl
  | x :: xs, ys => by
    rw [List.cons_append, kT, kT, kT_app xs ys]
    simp
theorem view {t : Tm} (h : t.Ok) : (∃ k l, t = .atom k l ∧ AtomOk k l) ∨ ∃ w b ks, View t w b ks := by
  cases t with
  | atom k l => exact .inl ⟨k, l, rfl, h⟩
  | n1 w b x =>
    obtain ⟨h1, h2, h3⟩ := h
    refine .inr ⟨w, b, [x], ⟨by simp [Tm.pr, kT], fun a => by simp [Tm.pc, kP], h1.symm, h2, rfl, rfl, rfl, by simp [Tm.size], by simp [Tm.depth], fun k hk => ?_⟩⟩
    simp only [List.mem_singleton] at hk
    exact hk ▸ h3
  | n2 w b x y =>
    obtain ⟨h1, h2, h3, h4⟩ := h
    refine .inr ⟨w, b, [x, y], ⟨by simp [Tm.pr, kT], fun a => by simp [Tm.pc, kP, kT]; congr 1; omega, h1.symm, h2, rfl, rfl, rfl, by simp [Tm.size]; omega, by simp [Tm.depth], fun k hk => ?_⟩⟩
    simp only [List.mem_cons, List.not_mem_nil, or_false] at hk
    rcases hk with rfl | rfl
    · exact h3
    · exact h4
  | n3 w b x y z =>
    obtain ⟨h1, h2, h3, h4, h5⟩ := h
    refine .inr ⟨w, b, [x, y, z], ⟨by simp [Tm.pr, kT], fun a => by
      simp only [Tm.pc, kP, kT, List.append_nil, List.length_cons, List.length_append, List.length_nil, List.append_assoc]
      rw [show a + (hd w b).length + (x.pr.length + 1) + 1 = a + (hd w b).length + 1 + x.pr.length + 1 by omega, show a + (hd w b).length + (x.pr.length + 1 + (y.pr.length + 1)) + 1 = a + (hd w b).length + 1 + x.pr.length + 1 + y.pr.length + 1 by omega], h1.symm, h2, rfl, rfl, rfl, by simp [Tm.size]; omega, by simp [Tm.depth, Nat.max_assoc], fun k hk => ?_⟩⟩
    simp only [List.mem_cons, List.not_mem_nil, or_false] at hk
    rcases hk with rfl | rfl | rfl
    · exact h3
    · exact h4
    · exact h5
/-! ### runs of signs -/
/-- how many of these signs stand from a on, at most m -/
def runLen (t s : List Nat) (a m : Nat) : Nat := (((t.drop a).take m).takeWhile fun c => decide (c ∈ s)).length
theorem run_in {t s : List Nat} {a m j : Nat} (h : j < runLen t s a m) : a + j < t.length ∧ j < m ∧ ∃ c, t[a + j]? = some c ∧ c ∈ s := by
  unfold runLen at h
  obtain ⟨r, e⟩ := List.takeWhile_prefix (l := (t.drop a).take m) fun c => decide (c ∈ s)
  have h2 : j < ((t.drop a).take m).length := by
    rw [← e, List.length_append]
    omega
  have h3 := h2
  rw [List.length_take, List.length_drop] at h3
  have h4 : ((t.drop a).take m)[j]? = (((t.drop a).take m).takeWhile fun c => decide (c ∈ s))[j]? := by
    conv => lhs; rw [← e]
    exact List.getElem?_append_left h
  rw [List.getElem?_take_of_lt (by omega), List.getElem?_drop, List.getElem?_eq_getElem h] at h4
  have h8 := List.all_takeWhile (l := (t.drop a).take m) (p := fun c => decide (c ∈ s))
  rw [List.all_eq_true] at h8
  exact ⟨by omega, by omega, _, h4, of_decide_eq_true (h8 _ (List.getElem_mem h))⟩
theorem while_stops {p : Nat → Bool} : ∀ {l : List Nat} {c : Nat}, l[(l.takeWhile p).length]? = some c → p c = false
  | [], c, h => by simp at h
  | x :: r, c, h => by
    rw [List.takeWhile_cons] at h
    by_cases hx : p x = true
    · rw [if_pos hx] at h
      exact while_stops (l := r) (by simpa using h)
    · rw [if_neg hx] at h
      have e : x = c := by simpa using h
      subst e
      simpa using hx
theorem run_ends {t s : List Nat} {a m : Nat} (h1 : a + runLen t s a m < t.length) (h2 : runLen t s a m < m) : ∃ c, t[a + runLen t s a m]? = some c ∧ c ∉ s := by
  refine ⟨_, List.getElem?_eq_getElem h1, fun hc => ?_⟩
  have h5 : ((t.drop a).take m)[runLen t s a m]? = t[a + runLen t s a m]? := by
    rw [List.getElem?_take_of_lt h2, List.getElem?_drop]
  have h6 := while_stops (p := fun c => decide (c ∈ s)) (l := (t.drop a).take m) (h5.trans (List.getElem?_eq_getElem h1))
  exact absurd hc (of_decide_eq_false h6)
/-- a run that stands there, and no more -/
theorem run_is {t s l r : List Nat} {a m : Nat} (h : t.drop a = l ++ r) (hl : ∀ c ∈ l, c ∈ s) (hm : l.length ≤ m) (hr : l.length = m ∨ ∀ c, r.head? = some c → c ∉ s) : runLen t s a m = l.length := by
  unfold runLen
  rw [h, List.take_append]
  have e1 : l.take m = l := List.take_of_length_le hm
  rw [e1]
  have all : ∀ x : List Nat, (∀ c ∈ x, c ∈ s) → ∀ y : List Nat, ((x ++ y).takeWhile fun c => decide (c ∈ s)) = x ++ y.takeWhile fun c => decide (c ∈ s) := by
    intro x
    induction x with
    | nil => intro _ y; rfl
    | cons c x ih =>
      intro hx y
      rw [List.cons_append, List.takeWhile_cons, if_pos (decide_eq_true (hx c List.mem_cons_self)), ih (fun d hd => hx d (List.mem_cons_of_mem _ hd))]
      rfl
  rw [all l hl, List.length_append]
  have e2 : ((r.take (m - l.length)).takeWhile fun c => decide (c ∈ s)) = [] := by
    rcases hr with e | e
    · rw [e, Nat.sub_self]
      rfl
    · cases r with
      | nil => simp
      | cons c r =>
        have hc := e c rfl
        cases hq : m - l.length with
        | zero => rfl
        | succ q => rw [List.take_succ_cons, List.takeWhile_cons, if_neg (by simpa using hc)]
  rw [e2]
  rfl
theorem drop_more {t l r : List Nat} {a : Nat} (h : t.drop a = l ++ r) : t.drop (a + l.length) = r := by
  rw [← List.drop_drop, h, List.drop_left]
theorem drop_at {t r : List Nat} {a c : Nat} (h : t.drop a = c :: r) : t[a]? = some c ∧ a < t.length := by
  have h1 : t[a]? = some c := by
    have := congrArg List.head? h
    rwa [List.head?_drop, List.head?_cons] at this
  exact ⟨h1, (List.getElem?_eq_some_iff.mp h1).1⟩
/-- what may stand behind a term -/
def Sep (r : List Nat) : Prop := ∀ c, r.head? = some c → c = 32 ∨ c = 41
theorem sep_rT : ∀ R : List (List Tm), Sep (rT R)
  | [], c, h => by simp [rT] at h
  | [] :: fs, c, h => by
    simp [rT, kT] at h
    exact .inr h.symm
  | (k :: ks) :: fs, c, h => by
    simp [rT, kT] at h
    exact .inl h.symm
theorem Sep.not {r s : List Nat} (h : Sep r) (h1 : 32 ∉ s) (h2 : 41 ∉ s) : ∀ c, r.head? = some c → c ∉ s := by
  intro c hc
  rcases h c hc with rfl | rfl
  · exact h1
  · exact h2
/-! ### how deep, how many -/
structure Sz where
  o : Int
  n : Int
  d : Int
def isWd (l : List Nat) : Prop := ∃ w : Wd, l = w.cs
instance (l : List Nat) : Decidable (isWd l) := decidable_of_iff (l ∈ Wd.all.map Wd.cs) ⟨fun h => by
  obtain ⟨w, _, e⟩ := List.mem_map.mp h
  exact ⟨w, e.symm⟩, fun ⟨w, e⟩ => List.mem_map.mpr ⟨w, w.mem, e.symm⟩⟩
def sz1 (p : Pc) (z : Sz) : Sz := if p.kind = [41] then ⟨z.o - 1, z.n, z.d⟩ else ⟨z.o, z.n + 1, z.d⟩
def sz2 (p : Pc) (z : Sz) : Sz := if isWd p.kind then ⟨z.o + 1, z.n, max z.d (z.o + 1)⟩ else z
def szStep (z : Sz) (p : Pc) : Sz := sz2 p (sz1 p z)
theorem wd_not (w : Wd) : w.cs ≠ [41] := by cases w <;> decide
theorem wd_is (w : Wd) : isWd w.cs := ⟨w, rfl⟩
theorem kd_not (k : Kd) : k.cs ≠ [41] := by cases k <;> decide
theorem kd_wd (k : Kd) : ¬ isWd k.cs := by cases k <;> decide
theorem cl_wd : ¬ isWd [41] := by decide
theorem sz_open (a : Nat) (w : Wd) (b : List Nat) (z : Sz) : szStep z (op a w b) = ⟨z.o + 1, z.n + 1, max z.d (z.o + 1)⟩ := by
  unfold szStep sz1 sz2 op
  rw [if_neg (wd_not w), if_pos (wd_is w)]
theorem sz_close (a : Nat) (z : Sz) : szStep z (cl a) = ⟨z.o - 1, z.n, z.d⟩ := by
  unfold szStep sz1 sz2 cl
  rw [if_pos rfl, if_neg cl_wd]
theorem sz_atom (k : Kd) (a e : Nat) (s : Option (List Nat)) (z : Sz) : szStep z ⟨k.cs, a, e, s⟩ = ⟨z.o, z.n + 1, z.d⟩ := by
  unfold szStep sz1 sz2
  rw [if_neg (kd_not k), if_neg (kd_wd k)]
theorem sz_term : ∀ (t : Tm) (a : Nat) (z : Sz), z.o ≤ z.d → (t.pc a).foldl szStep z = ⟨z.o, z.n + t.size, max z.d (z.o + t.depth)⟩
  | .atom k l, a, z, h => by
    rw [Tm.pc, List.foldl_cons, List.foldl_nil, sz_atom, Tm.size, Tm.depth, Sz.mk.injEq]
    exact ⟨rfl, by omega, by omega⟩
  | .n1 w b x, a, z, h => by
    rw [Tm.pc, List.foldl_cons, sz_open, List.foldl_append, sz_term x _ _ (by dsimp only; omega), List.foldl_cons, List.foldl_nil, sz_close, Tm.size, Tm.depth, Sz.mk.injEq]
    dsimp only
    exact ⟨by omega, by omega, by omega⟩
  | .n2 w b x y, a, z, h => by
    rw [Tm.pc, List.foldl_cons, sz_open, List.foldl_append, sz_term x _ _ (by dsimp only; omega), List.foldl_append, sz_term y _ _ (by dsimp only; omega), List.foldl_cons, List.foldl_nil, sz_close, Tm.size, Tm.depth, Sz.mk.injEq]
    dsimp only
    exact ⟨by omega, by omega, by omega⟩
  | .n3 w b x y v, a, z, h => by
    rw [Tm.pc, List.foldl_cons, sz_open, List.foldl_append, sz_term x _ _ (by dsimp only; omega), List.foldl_append, sz_term y _ _ (by dsimp only; omega), List.foldl_append, sz_term v _ _ (by dsimp only; omega), List.foldl_cons, List.foldl_nil, sz_close, Tm.size, Tm.depth, Sz.mk.injEq]
    dsimp only
    exact ⟨by omega, by omega, by omega⟩
/-! ### a place within a term -/
structure Fr where
  t : Tm
  w : Wd
  b : List Nat
  at_ : Nat
  dn : List Tm
  rs : List Tm
def Ctx (t0 : Tm) : List Fr → Tm → Nat → Prop
  | [], k, a => k = t0 ∧ a = 0
  | f :: fs, k, a => View f.t f.w f.b (f.dn ++ k :: f.rs) ∧ a = f.at_ + (hd f.w f.b).length + (kT f.dn).length + 1 ∧ Ctx t0 fs f.t f.at_
def rests (fs : List Fr) : List (List Tm) := fs.map (·.rs)
theorem Ctx.text {t0 : Tm} : ∀ {fs : List Fr} {k : Tm} {a : Nat}, Ctx t0 fs k a → t0.pr.drop a = k.pr ++ rT (rests fs)
  | [], k, a, ⟨h1, h2⟩ => by
    subst h1 h2
    simp [rests, rT]
  | f :: fs, k, a, ⟨v, e, c⟩ => by
    have ih := c.text
    rw [v.pr, kT_app, kT] at ih
    have e2 : a = f.at_ + (hd f.w f.b ++ kT f.dn ++ [32]).length := by simp; omega
    rw [e2]
    refine drop_more ?_
    rw [ih]
    simp [rests, rT]
/-- the piece with which a term begins -/
def Tm.hp (t : Tm) (a : Nat) : Pc := match t with
  | .atom k l => ⟨k.cs, a, a + l.length, none⟩
  | .n1 w b _ => op a w b
  | .n2 w b _ _ => op a w b
  | .n3 w b _ _ _ => op a w b
theorem View.hp {t : Tm} {w : Wd} {b : List Nat} {ks : List Tm} (v : View t w b ks) (a : Nat) : t.hp a = op a w b := by
  have h := v.pc a
  cases t with
  | atom k l =>
    rw [Tm.pc, List.cons.injEq] at h
    have h2 := congrArg List.length h.2
    simp at h2
  | n1 w' b' x =>
    rw [Tm.pc, List.cons.injEq] at h
    exact h.1
  | n2 w' b' x y =>
    rw [Tm.pc, List.cons.injEq] at h
    exact h.1
  | n3 w' b' x y z =>
    rw [Tm.pc, List.cons.injEq] at h
    exact h.1
theorem num_first {l : List Nat} (h : NumOk l) : ∃ c r, l = c :: r ∧ (c = 45 ∨ c ∈ figs) := by
  rcases h with rfl | ⟨d, ds, h | h, h1, _⟩
  · exact ⟨48, [], rfl, .inr (by decide)⟩
  · refine ⟨d, ds, h, .inr ?_⟩
    unfold figs1 at h1
    unfold figs
    obtain ⟨j, hj, rfl⟩ := List.mem_map.mp h1
    have := List.mem_range.mp hj
    exact List.mem_map.mpr ⟨j + 1, List.mem_range.mpr (by omega), by omega⟩
  · exact ⟨45, d :: ds, h, .inl rfl⟩
theorem some_first {l s : List Nat} (h1 : 1 ≤ l.length) (h2 : ∀ c ∈ l, c ∈ s) : ∃ c r, l = c :: r ∧ c ∈ s := by
  cases l with
  | nil => simp at h1
  | cons c r => exact ⟨c, r, rfl, h2 c List.mem_cons_self⟩
/-! ### the walk over a text -/
def Oks (R : List (List Tm)) : Prop := ∀ ks ∈ R, ∀ k ∈ ks, k.Ok
/-- a term is ahead, these brackets are open around it: what is left of the text and of its pieces -/
def Ahead (t0 : List Nat) (all : List Pc) (k : Tm) (R : List (List Tm)) (a : Nat) (done : List Pc) : Prop :=
  t0.drop a = k.pr ++ rT R ∧ k.Ok ∧ Oks R ∧ done ++ (k.pc a ++ rP (a + k.pr.length) R) = all
/-- a piece was read, these brackets are open -/
def Mid (t0 : List Nat) (all : List Pc) (R : List (List Tm)) (a : Nat) (done : List Pc) : Prop :=
  t0.drop a = rT R ∧ Oks R ∧ done ++ rP a R = all
/-- what is open behind the piece of a term -/
def openR (k : Tm) (R : List (List Tm)) : List (List Tm) := match k with
  | .atom _ _ => R
  | t => t.kids :: R
def hlen (k : Tm) : Nat := match k with
  | .atom _ l => l.length
  | .n1 w b _ => (hd w b).length
  | .n2 w b _ _ => (hd w b).length
  | .n3 w b _ _ _ => (hd w b).length
theorem hp_end (k : Tm) (a : Nat) : (k.hp a).e = a + hlen k := by cases k <;> rfl
theorem View.hlen {t : Tm} {w : Wd} {b : List Nat} {ks : List Tm} (v : View t w b ks) : hlen t = (hd w b).length := by
  have h := hp_end t 0
  rw [v.hp 0] at h
  have h2 : (op 0 w b).e = 0 + (hd w b).length := rfl
  omega
theorem View.openR {t : Tm} {w : Wd} {b : List Nat} {ks : List Tm} (v : View t w b ks) (R : List (List Tm)) : openR t R = ks :: R := by
  have h := v.pc 0
  cases t with
  | atom k l =>
    rw [Tm.pc, List.cons.injEq] at h
    have h2 := congrArg List.length h.2
    simp at h2
  | n1 w' b' x => rw [← v.kids]; rfl
  | n2 w' b' x y => rw [← v.kids]; rfl
  | n3 w' b' x y z => rw [← v.kids]; rfl
theorem Ahead.mid {t0 : List Nat} {all : List Pc} {k : Tm} {R : List (List Tm)} {a : Nat} {done : List Pc} (h : Ahead t0 all k R a done) : Mid t0 all (openR k R) (a + hlen k) (done ++ [k.hp a]) := by
  obtain ⟨h1, h2, h3, h4⟩ := h
  rcases view h2 with ⟨kd, l, rfl, _⟩ | ⟨w, b, ks, v⟩
  · exact ⟨drop_more h1, h3, by rw [List.append_assoc]; exact h4⟩
  · rw [v.openR, v.hlen, v.hp]
    refine ⟨drop_more ?_, ?_, ?_⟩
    · rw [h1, v.pr]
      simp [rT]
    · intro x hx k hk
      rcases List.mem_cons.mp hx with rfl | hx
      · exact v.oks k hk
      · exact h3 x hx k hk
    · rw [← h4, v.pc, v.pr, rP]
      simp only [List.length_append, List.length_cons, List.length_nil, List.append_assoc, List.cons_append, List.nil_append]
      rw [show a + ((hd w b).length + ((kT ks).length + (0 + 1))) = a + (hd w b).length + (kT ks).length + 1 by omega]
theorem Mid.next {t0 : List Nat} {all : List Pc} {k : Tm} {ks : List Tm} {R : List (List Tm)} {a : Nat} {done : List Pc} (h : Mid t0 all ((k :: ks) :: R) a done) : t0[a]? = some 32 ∧ Ahead t0 all k (ks :: R) (a + 1) done := by
  obtain ⟨h1, h2, h3⟩ := h
  have e : t0.drop a = 32 :: (k.pr ++ rT (ks :: R)) := by
    rw [h1]
    simp [rT, kT]
  refine ⟨(drop_at e).1, drop_more (l := [32]) e, h2 _ List.mem_cons_self k List.mem_cons_self, ?_, ?_⟩
  · intro x hx y hy
    rcases List.mem_cons.mp hx with rfl | hx
    · exact h2 _ List.mem_cons_self y (List.mem_cons_of_mem _ hy)
    · exact h2 x (List.mem_cons_of_mem _ hx) y hy
  · rw [← h3, rP, rP, kP, kT]
    simp only [List.length_append, List.length_cons, List.append_assoc, List.cons_append]
    rw [show a + (k.pr.length + (kT ks).length + 1) = a + 1 + k.pr.length + (kT ks).length by omega]
theorem Mid.close {t0 : List Nat} {all : List Pc} {R : List (List Tm)} {a : Nat} {done : List Pc} (h : Mid t0 all ([] :: R) a done) : t0[a]? = some 41 ∧ Mid t0 all R (a + 1) (done ++ [cl a]) := by
  obtain ⟨h1, h2, h3⟩ := h
  have e : t0.drop a = 41 :: rT R := h1
  refine ⟨(drop_at e).1, drop_more (l := [41]) e, fun x hx => h2 x (List.mem_cons_of_mem _ hx), ?_⟩
  rw [← h3, List.append_assoc]
  rfl
theorem Mid.over {t0 : List Nat} {all : List Pc} {a : Nat} {done : List Pc} (h : Mid t0 all [] a done) (l : a ≤ t0.length) : a = t0.length ∧ done = all := by
  obtain ⟨h1, h2, h3⟩ := h
  have e : t0.drop a = [] := h1
  have h4 := List.drop_eq_nil_iff.mp e
  exact ⟨by omega, by rw [← h3]; simp [rP]⟩
theorem ahead_start {k : Tm} (h : k.Ok) : Ahead k.pr (k.pc 0) k [] 0 [] := ⟨by simp [rT], h, fun x hx => by simp at hx, by simp [rP]⟩
def Rsize (R : List (List Tm)) : Nat := (R.map fun ks => (ks.map Tm.size).sum).sum
theorem Ahead.less {t0 : List Nat} {all : List Pc} {k : Tm} {R : List (List Tm)} {a : Nat} {done : List Pc} (h : Ahead t0 all k R a done) : Rsize (openR k R) + 1 = k.size + Rsize R := by
  rcases view h.2.1 with ⟨kd, l, rfl, _⟩ | ⟨w, b, ks, v⟩
  · show Rsize R + 1 = 1 + Rsize R
    omega
  · rw [v.openR, v.size]
    simp [Rsize]
    omega
theorem pc_len : ∀ (t : Tm) (a : Nat), (t.pc a).length ≤ 2 * t.size
  | .atom k l, a => by simp [Tm.pc, Tm.size]
  | .n1 w b x, a => by
    have := pc_len x (a + (hd w b).length + 1)
    simp [Tm.pc, Tm.size]
    omega
  | .n2 w b x y, a => by
    have h1 := pc_len x (a + (hd w b).length + 1)
    have h2 := pc_len y (a + (hd w b).length + (kT [x]).length + 1)
    simp [Tm.pc, Tm.size] at h1 h2 ⊢
    omega
  | .n3 w b x y z, a => by
    have h1 := pc_len x (a + (hd w b).length + 1)
    have h2 := pc_len y (a + (hd w b).length + (kT [x]).length + 1)
    have h3 := pc_len z (a + (hd w b).length + (kT [x, y]).length + 1)
    simp [Tm.pc, Tm.size] at h1 h2 h3 ⊢
    omega
theorem hlen_le (k : Tm) : hlen k ≤ k.pr.length := by
  cases k <;> simp [hlen, Tm.pr]
theorem pr_pos {k : Tm} (h : k.Ok) : 1 ≤ k.pr.length := by
  rcases view h with ⟨kd, l, rfl, hk⟩ | ⟨w, b, ks, v⟩
  · cases kd with
    | num =>
      obtain ⟨c, r, e, _⟩ := num_first hk
      show 1 ≤ l.length
      rw [e]
      simp
    | name => exact hk.1
    | part => exact hk.1
  · rw [v.pr]
    simp
    omega
theorem Ahead.bound {t0 : List Nat} {all : List Pc} {k : Tm} {R : List (List Tm)} {a : Nat} {done : List Pc} (h : Ahead t0 all k R a done) : a + hlen k ≤ t0.length ∧ done.length < all.length := by
  have h1 := congrArg List.length h.1
  rw [List.length_drop, List.length_append] at h1
  have h2 := hlen_le k
  have h3 := pr_pos h.2.1
  refine ⟨by omega, ?_⟩
  have h4 := h.mid.2.2
  rw [← h4]
  simp
theorem rT_len : ∀ R : List (List Tm), R.length ≤ (rT R).length
  | [] => Nat.le_refl _
  | ks :: R => by
    have := rT_len R
    simp [rT]
    omega
theorem Ahead.few {t0 : List Nat} {all : List Pc} {k : Tm} {R : List (List Tm)} {a : Nat} {done : List Pc} (h : Ahead t0 all k R a done) : R.length < t0.length := by
  have h1 := congrArg List.length h.1
  rw [List.length_drop, List.length_append] at h1
  have h2 := pr_pos h.2.1
  have h3 := rT_len R
  omega
theorem Mid.room {t0 : List Nat} {all : List Pc} {R : List (List Tm)} {a : Nat} {done : List Pc} (h : Mid t0 all ([] :: R) a done) : done.length < all.length := by
  rw [← h.2.2]
  simp [rP]
  omega
/-! ### free names, all names -/
def Tm.Free : Tm → List Nat → Prop
  | .atom k l, y => k = .name ∧ y = l
  | .n1 w b x, y => x.Free y ∧ (w.bd = true → y ≠ b)
  | .n2 w b x z, y => x.Free y ∨ (z.Free y ∧ (w.bd = true → y ≠ b))
  | .n3 w b x z v, y => x.Free y ∨ z.Free y ∨ (v.Free y ∧ (w.bd = true → y ≠ b))
/-- a small name that stands in it as a term -/
def Tm.Names (N : List Nat → Prop) : Tm → Prop
  | .atom k l => k = .name → N l
  | .n1 _ _ x => x.Names N
  | .n2 _ _ x z => x.Names N ∧ z.Names N
  | .n3 _ _ x z v => x.Names N ∧ z.Names N ∧ v.Names N
theorem Tm.Free.in_names {N : List Nat → Prop} : ∀ {t : Tm} {y : List Nat}, t.Free y → t.Names N → N y
  | .atom _ _, _, ⟨h1, h2⟩, n => h2 ▸ n h1
  | .n1 _ _ _, _, h, n => Tm.Free.in_names h.1 n
  | .n2 _ _ _ _, _, h, n => h.elim (fun h => Tm.Free.in_names h n.1) fun h => Tm.Free.in_names h.1 n.2
  | .n3 _ _ _ _ _, _, h, n => h.elim (fun h => Tm.Free.in_names h n.1) fun h => h.elim (fun h => Tm.Free.in_names h n.2.1) fun h => Tm.Free.in_names h.1 n.2.2
theorem View.names {t : Tm} {w : Wd} {b : List Nat} {ks : List Tm} (v : View t w b ks) {N : List Nat → Prop} (h : t.Names N) : ∀ k ∈ ks, k.Names N := by
  rw [← v.kids]
  cases t with
  | atom k l =>
    intro x hx
    simp [Tm.kids] at hx
  | n1 w' b' x =>
    intro k hk
    simp only [Tm.kids, List.mem_singleton] at hk
    exact hk ▸ h
  | n2 w' b' x y =>
    intro k hk
    simp only [Tm.kids, List.mem_cons, List.not_mem_nil, or_false] at hk
    rcases hk with rfl | rfl
    · exact h.1
    · exact h.2
  | n3 w' b' x y z =>
    intro k hk
    simp only [Tm.kids, List.mem_cons, List.not_mem_nil, or_false] at hk
    rcases hk with rfl | rfl | rfl
    · exact h.1
    · exact h.2.1
    · exact h.2.2
/-! ### trees on their way -/
def restsOk (N : List Nat → Prop) (fs : List Fr) : Prop := ∀ f ∈ fs, ∀ x ∈ f.rs, x.Ok ∧ x.Names N
/-- what comes next: a term's own piece, a bracket that closes, nothing -/
inductive Bst (N : List Nat → Prop) (t0 : Tm) (rem : List Pc) : List Fr → List Tm → Prop where
  | ahead {fs : List Fr} (k : Tm) (a : Nat) (c : Ctx t0 fs k a) (ok : k.Ok) (nm : k.Names N) (ro : restsOk N fs) (e : rem = k.pc a ++ rP (a + k.pr.length) (rests fs)) : Bst N t0 rem fs []
  | close {f : Fr} {fs : List Fr} (v : View f.t f.w f.b f.dn) (c : Ctx t0 fs f.t f.at_) (nm : f.t.Names N) (ro : restsOk N fs) (e : rem = cl (f.at_ + (hd f.w f.b).length + (kT f.dn).length) :: rP (f.at_ + f.t.pr.length) (rests fs)) : Bst N t0 rem (f :: fs) []
  | over (e : rem = []) : Bst N t0 rem [] [t0]
/-- a term is put where it belongs -/
def putDn (fs : List Fr) (k : Tm) : List Fr := match fs with
  | [] => []
  | f :: r => { f with dn := f.dn ++ [k], rs := f.rs.tail } :: r
def putBot (fs : List Fr) (k : Tm) : List Tm := match fs with
  | [] => [k]
  | _ :: _ => []
theorem Bst.fin {N : List Nat → Prop} {t0 k : Tm} {fs : List Fr} {a : Nat} {rem : List Pc} (c : Ctx t0 fs k a) (nm : t0.Names N) (hn : ∀ f ∈ fs, f.t.Names N) (ro : restsOk N fs) (e : rem = rP (a + k.pr.length) (rests fs)) : Bst N t0 rem (putDn fs k) (putBot fs k) := by
  cases fs with
  | nil =>
    obtain ⟨h1, _⟩ := c
    subst h1
    exact .over e
  | cons f r =>
    obtain ⟨v, h1, h2⟩ := c
    have ro' : restsOk N r := fun g hg => ro g (List.mem_cons_of_mem _ hg)
    cases hrs : f.rs with
    | nil =>
      rw [hrs] at v
      show Bst N t0 rem ({ f with dn := f.dn ++ [k], rs := f.rs.tail } :: r) []
      refine .close v h2 (hn f List.mem_cons_self) ro' ?_
      rw [e]
      show rP (a + k.pr.length) (f.rs :: rests r) = _
      rw [hrs, rP, kP, kT, kT_app, v.pr, kT_app]
      simp only [kT, List.append_nil, List.length_append, List.length_cons, List.length_nil, List.nil_append, h1]
      rw [show f.at_ + (hd f.w f.b).length + (kT f.dn).length + 1 + k.pr.length + 0 = f.at_ + (hd f.w f.b).length + ((kT f.dn).length + (k.pr.length + 1)) by omega,
        show f.at_ + (hd f.w f.b).length + ((kT f.dn).length + (k.pr.length + 1)) + 1 = f.at_ + ((hd f.w f.b).length + ((kT f.dn).length + (k.pr.length + 1)) + (0 + 1)) by omega]
    | cons k' rs' =>
      rw [hrs] at v
      show Bst N t0 rem ({ f with dn := f.dn ++ [k], rs := f.rs.tail } :: r) []
      have hk := ro f List.mem_cons_self k' (by rw [hrs]; exact List.mem_cons_self)
      refine .ahead k' (a + k.pr.length + 1) ⟨?_, ?_, h2⟩ hk.1 hk.2 ?_ ?_
      · show View f.t f.w f.b (f.dn ++ [k] ++ k' :: f.rs.tail)
        rw [hrs]
        simpa using v
      · show a + k.pr.length + 1 = f.at_ + (hd f.w f.b).length + (kT (f.dn ++ [k])).length + 1
        rw [kT_app, h1]
        simp [kT]
        omega
      · intro g hg x hx
        rcases List.mem_cons.mp hg with rfl | hg
        · have hx2 : x ∈ f.rs.tail := hx
          exact ro f List.mem_cons_self x (List.mem_of_mem_tail hx2)
        · exact ro' g hg x hx
      · rw [e]
        show rP (a + k.pr.length) (f.rs :: rests r) = k'.pc (a + k.pr.length + 1) ++ rP _ (f.rs.tail :: rests r)
        rw [hrs, List.tail_cons, rP, rP, kP, kT]
        simp only [List.length_append, List.length_cons, List.append_assoc, List.cons_append]
        rw [show a + k.pr.length + (k'.pr.length + (kT rs').length + 1) = a + k.pr.length + 1 + k'.pr.length + (kT rs').length by omega]
theorem View.some_kid {t : Tm} {w : Wd} {b : List Nat} {ks : List Tm} (v : View t w b ks) : ∃ k1 ks', ks = k1 :: ks' := by
  have h := v.ar
  cases ks with
  | nil =>
    exfalso
    cases w <;> simp [Wd.ar] at h
  | cons k1 ks' => exact ⟨k1, ks', rfl⟩
/-- a bracket opens -/
theorem Bst.open {N : List Nat → Prop} {t0 k k1 : Tm} {ks : List Tm} {w : Wd} {b : List Nat} {fs : List Fr} {a : Nat} {rem : List Pc} (v : View k w b (k1 :: ks)) (c : Ctx t0 fs k a) (nm : k.Names N) (ro : restsOk N fs)
    (e : op a w b :: rem = k.pc a ++ rP (a + k.pr.length) (rests fs)) : Bst N t0 rem (⟨k, w, b, a, [], ks⟩ :: fs) [] := by
  have hk := v.names nm
  refine .ahead k1 (a + (hd w b).length + 1) ⟨v, by simp [kT], c⟩ (v.oks _ List.mem_cons_self) (hk _ List.mem_cons_self) ?_ ?_
  · intro g hg x hx
    rcases List.mem_cons.mp hg with rfl | hg
    · exact ⟨v.oks x (List.mem_cons_of_mem _ hx), hk x (List.mem_cons_of_mem _ hx)⟩
    · exact ro g hg x hx
  · rw [v.pc, v.pr, List.cons_append] at e
    have e := (List.cons.inj e).2
    rw [e]
    show _ = k1.pc _ ++ rP _ (ks :: rests fs)
    rw [rP, kP, kT]
    simp only [List.length_append, List.length_cons, List.length_nil, List.append_assoc, List.cons_append, List.nil_append]
    rw [show a + ((hd w b).length + (k1.pr.length + ((kT ks).length + (0 + 1)) + 1)) = a + (hd w b).length + 1 + k1.pr.length + (kT ks).length + 1 by omega,
      show a + (hd w b).length + (k1.pr.length + (kT ks).length + 1) = a + (hd w b).length + 1 + k1.pr.length + (kT ks).length by omega]
end U

set_option Elab.async false
set_option linter.all false
set_option maxRecDepth 100000
set_option maxHeartbeats 4000000
namespace U
open PySem PySem.Spec PyProof.Rows L2
open Sem (wp)
open Builtin
theorem ext_tup (l b : Addr) (items items2 : Array Value) (n n2 : Nat) (dd : Option Addr) (sl : Array (Option Value)) (h1 : ¬(!items.isEmpty && Builtin.List.listTooLong (items.size + items2.size)) = true) (h2 : items.size ≤ sizeLine) (h3 : items.size + items2.size ≤ sizeLine) :
    Meets (Builtin.«list.extend» ⟨[.ref l, .ref b], []⟩) (fun _ R s => s.heap.get? l = some { cls := .type "list", dict := none, data := .seq items n, slots := #[] } ∧
      s.heap.get? b = some { cls := .type "tuple", dict := dd, data := .seq items2 n2, slots := sl } ∧ R (.ok (.ret Value.none)) { s with heap := s.heap.update l (Obj.mapSeq fun x => x ++ items2), toks := s.toks }) := by
  refine .of_wp fun prog w A R s h => ?_
  have sz : (items ++ items2).size ≤ sizeLine + 1 := by
    rw [Array.size_append]
    omega
  obtain ⟨hp, gg, dr, tk, os⟩ := s
  obtain ⟨e1, e2, r⟩ := h
  have g1 := PySem.AutoSeq1.idx_int
  have g2 := PySem.AutoSeq1.sub_tuple_tuple
  have g3 := PySem.AutoSeq1.sub_list_list
  have g4 := PySem.AutoSeq1.sub_tuple_list
  have g5 := PySem.AutoSeq1.sub_list_tuple
  wp_walk using (wpAny_updateSeq e1 rfl (hz := h2) (_hz' := sz)), PySem.AutoSeq1.wpAny_loadPart' e2
  exact ⟨_, rfl, r⟩
section
variable {X : Cx}
def rExtendT (K : PySem.W.Frag) : V → List V → Hp → VK → Prop := fun x vs H Q => ∃ l b xs zs, x = .ref l ∧ vs = [.ref b] ∧ H l = some (.lst xs) ∧ SqT K H b zs ∧ xs.length + zs.length ≤ sizeLine ∧ Q .non (upd H l (.lst (xs ++ zs)))
/-- xs.extend(t), t a tuple -/
theorem mt_extendT : MtR X "list.extend" (rExtendT X.K) := by
  intro pins s σ H x vs v us Q I rx rv h
  obtain ⟨l, b, xs, zs, rfl, rfl, hl, hb, hz, q⟩ := h
  cases rx
  obtain ⟨u, rfl, ru⟩ := rv.one
  cases ru
  obtain ⟨z1, its, n, r, len, e⟩ := I.lstM hl
  obtain ⟨its2, r2, ⟨⟨c2, dd, d2, sl⟩, g2, k2, n2, k3⟩, _⟩ := I.tuple hb
  simp only at k2 k3
  subst k2
  subst k3
  have len2 := r2.length
  have sz : its.toArray.size + its2.toArray.size ≤ sizeLine := by
    rw [List.size_toArray, List.size_toArray]
    omega
  refine call_meets PySem.F.slot_list_extend ⟨_, e, rfl⟩ PySem.F.entry_list_extend (PySem.F.args_list_extend_2 _ _) (ext_tup l b its.toArray its2.toArray n n2 dd sl ?_ (by omega) sz) ⟨e, g2, ?_⟩
  · rw [notLongL sz, Bool.and_false]
    exact Bool.false_ne_true
  · refine ⟨.non, _, I.lset (its' := its ++ its2) hl e (by simp) (r.append r2) ?_, rfl, q⟩
    rw [List.length_append]
    omega
/-- xs[-1], to be put anew -/
def rLast (K : PySem.W.Frag) : V → V → Hp → VK → Prop := fun x y H Q => ∃ p xs v, x = .ref p ∧ y = .int (-1) ∧ SqL K H p (xs ++ [v]) ∧ Q v H
theorem get_last : PGet X (rLast X.K) := by
  intro pins s σ H x y ov iv Q I rx ry h
  obtain ⟨p, xs, v, rfl, rfl, hp, q⟩ := h
  cases rx
  obtain ⟨t, rfl⟩ := ry
  obtain ⟨its, r, li, hz⟩ := I.list hp
  have len := r.length
  rw [List.length_append, List.length_singleton] at len
  obtain ⟨u, hu, ru⟩ := r.get (i := xs.length) (x := v) (by simp)
  have e : (-1 + (its.toArray.size : Int)).toNat = xs.length := by
    rw [List.size_toArray]
    omega
  exact wpAny_getItem_list_neg li.isList (by decide) (by rw [List.size_toArray]; omega) (by decide) (by rw [e]; simpa using hu) ⟨v, H, I, ru, q⟩
end
/-- a list's last place -/
theorem atI_end {α : Type} (xs : List α) (v : α) : atI (xs ++ [v]) (-1) = some v := by
  have h : ixN (xs ++ [v]).length (-1) = some xs.length := by
    unfold ixN
    rw [if_neg (by decide), if_pos (by simp; omega)]
    simp
    omega
  unfold atI
  rw [h]
  show (xs ++ [v])[xs.length]? = some v
  simp
theorem ixN_end {α : Type} (xs : List α) (v : α) : ixN (xs ++ [v]).length (-1) = some xs.length := by
  unfold ixN
  rw [if_neg (by decide), if_pos (by simp; omega)]
  simp
  omega
theorem set_end {α : Type} (xs : List α) (v y : α) : (xs ++ [v]).set xs.length y = xs ++ [y] := by simp
theorem Paired.app {α β : Type} {F : α → β → Prop} : ∀ {a : List α} {b : List β} {c : List α} {d : List β}, Paired F a b → Paired F c d → Paired F (a ++ c) (b ++ d)
  | _, _, _, _, .nil, h => h
  | _, _, _, _, .cons r t, h => .cons r (Paired.app t h)
theorem Paired.at_ {α β : Type} {F : α → β → Prop} : ∀ {a : List α} {b : List β} {i : Nat} {y : β}, Paired F a b → b[i]? = some y → ∃ x, a[i]? = some x ∧ F x y
  | _, _, i, _, .nil, h => by simp at h
  | _, _, 0, _, .cons (a := x) r t, h => by
    simp at h
    subst h
    exact ⟨x, rfl, r⟩
  | _, _, i + 1, _, .cons r t, h => by
    obtain ⟨x, h1, h2⟩ := Paired.at_ (i := i) t (by simpa using h)
    exact ⟨x, by simpa using h1, h2⟩
/-- all but what stands at p is as it was -/
def But (p : Addr) (H H' : Hp) : Prop := ∀ b o, H b = some o → b ≠ p → H' b = some o
theorem But.refl (p : Addr) (H : Hp) : But p H H := fun _ _ e _ => e
theorem But.trans {p : Addr} {H H1 H2 : Hp} (a : But p H H1) (b : But p H1 H2) : But p H H2 := fun c o e n => b c o (a c o e n) n
theorem But.of_same {p : Addr} {H H' : Hp} (s : Same H H') : But p H H' := fun b o e _ => s b o e
theorem But.upd {p : Addr} {H : Hp} {o : HO} : But p H (upd H p o) := fun b u e n => by
  rw [upd_ne n]
  exact e
theorem But.same {p : Addr} {H0 H H' : Hp} (h : But p H H') (s : Same H0 H) (n : H0 p = none) : Same H0 H' := fun b o e => h b o (s b o e) (ne_of_none e n)
end U

set_option Elab.async false
set_option linter.all false
set_option maxRecDepth 100000
set_option maxHeartbeats 4000000
/-! sets of texts: made of a list, sorted -/
namespace U
open PySem PySem.Spec PyProof.Rows L2
def textOf (e : Int × Value) : Str := match e.2 with
  | .str x _ => x
  | _ => Str.empty
def TextE (w : World) (e : Int × Value) : Prop := ∃ x u, e.2 = Value.str x u ∧ e.1 = hashStr w x
/-- a set of texts at a: its members in some order; its table as a walk wants it -/
def SetS (w : World) (h : Heap) (a : Addr) (l : List Str) : Prop :=
  ∃ ob es ep tb, (h.get? a = some ob ∧ ob.ExactSet ∧ ob.data = .set es ep tb) ∧ ((∀ e ∈ es.toList, TextE w e) ∧ (es.toList.map textOf).Perm l ∧ l.Nodup) ∧
    (es.size < scanBound ∧ tb.fits es.size = true) ∧ Ris tb.place.toList ∧ (w.params.followText "set-order" = true ∨ tb.led = true)
section
variable {P : Program} {w : World} {h h' : Heap} {a : Addr} {l : List Str}
theorem SetS.moved (R : SetS w h a l) (k : ∀ o, h.get? a = some o → h'.get? a = some o) : SetS w h' a l := by
  obtain ⟨ob, es, ep, tb, ⟨h1, h2⟩, r⟩ := R
  exact ⟨ob, es, ep, tb, ⟨k ob h1, h2⟩, r⟩
theorem text_elems {l : List (Int × Value)} (g : ∀ e ∈ l, TextE w e) : ElemsOf (PySem.strKind P w) l := by
  intro e he
  obtain ⟨x, u, h1, h2⟩ := g e he
  refine ⟨⟨x, ?_, h2⟩, ?_⟩ <;> rw [h1]
  · exact strKind_is P w x u
  · rfl
theorem text_is {e : Int × Value} (g : TextE w e) (k : Str) : (PySem.strKind P w).is k e.2 = true ↔ textOf e = k := by
  obtain ⟨x, u, h1, _⟩ := g
  unfold textOf
  rw [h1]
  show Value.isStrOf k (.str x u) = true ↔ x = k
  simp [Value.isStrOf]
end
section
variable {P : Program} {w : World} {A : Around} {E : Value → Shared → Prop} {s : Shared} {a : Addr}
/-- the table is stored, and laid anew where it is too full -/
theorem setS_store {gv : Bool → Sem Unit} (hg : ∀ (b : Bool) (s₁ : Shared) (Q' : Unit → Shared → Prop), Q' () s₁ → wpAny (model P w) A (gv b) Q' E s₁)
    {ob : Obj} {es es1 : Array (Int × Value)} {ep : Nat} {tb tb1 : SetTable} {l : List Str} {wd : Bool} {R : Option Bool → Shared → Prop}
    (o1 : s.heap.get? a = some ob) (o2 : ob.ExactSet) (o3 : ob.data = .set es ep tb)
    (e1 : ∀ e ∈ es1.toList, TextE w e) (e2 : (es1.toList.map textOf).Perm l) (e3 : l.Nodup) (e4 : es1.size < scanBound) (e5 : tb1.fits es1.size = true) (e6 : Ris tb1.place.toList) (e7 : w.params.followText "set-order" = true ∨ tb1.led = true)
    (hR : ∀ h', Heap.SameBut a s.heap h' → SetS w h' a l → R (some true) { s with heap := h' }) :
    wpAny (model P w) A (storeSet a es1 tb1 >>= fun _ => if (!wd && tb1.tooFull) = true then
        gv (relayAll tb1 es1 (SetTable.grown es1.size)).2.2 >>= fun _ => storeSet a (relayAll tb1 es1 (SetTable.grown es1.size)).1 (relayAll tb1 es1 (SetTable.grown es1.size)).2.1 >>= fun _ => pure (some true)
      else pure (some true)) R E s := by
  have st := store_at (es' := es1) (t' := tb1) o1 o3
  have same := Heap.SameBut.update s.heap a (Obj.putSet es1 tb1)
  refine wpAny_bind (wpAny_storeSet_of o1 o3 ?_ (fits_of_scanBound e4))
  split
  · have p1 := relayAll_perm tb1 es1 (SetTable.grown es1.size)
    have p2 := relayAll_fits tb1 es1 (SetTable.grown es1.size)
    have p3 := relayAll_ris tb1 es1 (SetTable.grown es1.size)
    have p4 := relayAll_led tb1 es1 (SetTable.grown es1.size)
    revert p1 p2 p3 p4
    generalize relayAll tb1 es1 (SetTable.grown es1.size) = z
    intro p1 p2 p3 p4
    have sz : z.1.size = es1.size := by
      have := p1.length_eq
      simpa using this
    have bd : z.1.size < scanBound := by omega
    have st2 := store_at (es' := z.1) (t' := z.2.1) st rfl
    refine wpAny_bind (hg _ _ _ (wpAny_bind (wpAny_storeSet_of st rfl (wpAny_pure (hR _ (same.trans (Heap.SameBut.update _ a _)) ?_)) (fits_of_scanBound bd))))
    refine ⟨_, z.1, _, z.2.1, ⟨st2, o2, rfl⟩, ⟨fun e he => e1 e (p1.mem_iff.mp he), (p1.map textOf).trans e2, e3⟩, ⟨bd, p2⟩, p3, ?_⟩
    rcases e7 with h | h
    · exact .inl h
    · exact .inr (p4.trans h)
  · exact wpAny_pure (hR _ same ⟨_, es1, _, tb1, ⟨st, o2, rfl⟩, ⟨e1, e2, e3⟩, ⟨e4, e5⟩, e6, e7⟩)
/-- a text is added -/
theorem setS_add {l : List Str} {k : Str} {u : Tok} {Q : Bool → Shared → Prop} (R : SetS w s.heap a l) (room : l.length + 1 < scanBound)
    (hQ : ∀ (b : Bool) (h' : Heap), Heap.SameBut a s.heap h' → SetS w h' a (if k ∈ l then l else k :: l) → Q b { s with heap := h' }) :
    wpAny (model P w) A (setAddHashed a (.str k u) ((PySem.strKind P w).hash k)) Q E s := by
  obtain ⟨ob, es, ep, tb, ⟨o1, o2, o3⟩, ⟨e1, e2, e3⟩, ⟨e4, e5⟩, e6, e7⟩ := R
  have key := strKind_is P w k u
  have el : ElemsOf (PySem.strKind P w) es.toList := text_elems e1
  unfold setAddHashed setAddHashedIn
  refine wpAny_holding (wpAny_bind (wpAny_setState_of o1 o3 e5 ?_))
  dsimp only
  rw [byScan_of (show (Value.str k u).scannable = true from rfl) e4 el, if_pos rfl]
  unfold setAddByScan
  refine wpAny_bind (wpAny_bind (wpAny_rule (wpAny_bind (wpAny_setScan_of key o1 o3 e5 el ?_))))
  have mem : k ∈ l ↔ ∃ e ∈ es.toList, (PySem.strKind P w).is k e.2 = true := by
    rw [← e2.mem_iff, List.mem_map]
    exact ⟨fun ⟨e, he, q⟩ => ⟨e, he, (text_is (e1 e he) k).mpr q⟩, fun ⟨e, he, q⟩ => ⟨e, he, (text_is (e1 e he) k).mp q⟩⟩
  cases hf : List.findIdx? (fun e => (PySem.strKind P w).is k e.2) es.toList with
  | some j =>
    obtain ⟨hj, pj, _⟩ := List.findIdx?_eq_some_iff_getElem.mp hf
    have hm : k ∈ l := mem.mpr ⟨_, List.getElem_mem hj, pj⟩
    have q := fun b => hQ b s.heap (Heap.SameBut.refl a s.heap)
    rw [if_pos hm] at q
    exact wpAny_pure (wpAny_pure (q _ ⟨ob, es, ep, tb, ⟨o1, o2, o3⟩, ⟨e1, e2, e3⟩, ⟨e4, e5⟩, e6, e7⟩))
  | none =>
    have hm : k ∉ l := fun z => by
      obtain ⟨e, he, q⟩ := mem.mp z
      have := List.findIdx?_eq_none_iff.mp hf e he
      rw [q] at this
      cases this
    rw [if_neg hm] at hQ
    dsimp only
    have p1 := layNew_perm tb es ((PySem.strKind P w).hash k) (.str k u)
    have p2 := layNew_fits tb es ((PySem.strKind P w).hash k) (.str k u)
    have p3 := layNew_ris tb es ((PySem.strKind P w).hash k) (.str k u) e6
    have p4 := layNew_led tb es ((PySem.strKind P w).hash k) (.str k u)
    revert p1 p2 p3 p4
    generalize layNew tb es ((PySem.strKind P w).hash k) (.str k u) = z
    obtain ⟨es1, tb1, wd, gave⟩ := z
    intro p1 p2 p3 p4
    dsimp only at p1 p2 p3 p4 ⊢
    have pc : es1.toList.Perm (((PySem.strKind P w).hash k, Value.str k u) :: es.toList) := by
      rw [Array.toList_push] at p1
      exact p1.trans (List.perm_append_singleton _ _)
    have sz : es1.size = l.length + 1 := by
      have h1 := pc.length_eq
      have h2 := e2.length_eq
      simp only [Array.length_toList, List.length_cons, List.length_map] at h1 h2
      omega
    have f1 : ∀ e ∈ es1.toList, TextE w e := by
      intro e he
      rcases List.mem_cons.mp (pc.mem_iff.mp he) with z | z
      · rw [z]
        exact ⟨k, u, rfl, rfl⟩
      · exact e1 e z
    have f2 : (es1.toList.map textOf).Perm (k :: l) := (pc.map textOf).trans (List.Perm.cons k e2)
    have f3 : (k :: l).Nodup := List.nodup_cons.mpr ⟨hm, e3⟩
    have f4 : es1.size < scanBound := by omega
    have f7 : w.params.followText "set-order" = true ∨ tb1.led = true := by
      rcases e7 with h | h
      · exact .inl h
      · exact .inr (p4.trans h)
    have gw : ∀ (b : Bool) (s₁ : Shared) (Q' : Unit → Shared → Prop), Q' () s₁ → wpAny (model P w) A (match b with | true => rule "set.scan.the-table-gave-way" | false => pure ()) Q' E s₁ := by
      intro b s₁ Q' q
      cases b with
      | true => exact wpAny_rule q
      | false => exact wpAny_pure q
    refine wpAny_bind (gw _ _ _ ?_)
    have go : ∀ h', Heap.SameBut a s.heap h' → SetS w h' a (k :: l) → Q true { s with heap := h' } := fun h' sb r => hQ true h' sb r
    split
    · refine wpAny_bind ?_
      rw [hashByValue_scannable 8 (show (Value.str k u).scannable = true from rfl)]
      refine wpAny_pure ?_
      generalize plainKind (Value.str k u) = pk
      cases pk with
      | true =>
        simp only [↓reduceIte]
        refine setS_store ?_ o1 o2 o3 f1 f2 f3 f4 p2 p3 f7 fun h' sb r => wpAny_pure (go h' sb r)
        intro b s₁ Q' q
        cases b <;> first | exact wpAny_rule q | exact wpAny_pure q
      | false =>
        simp only [Bool.false_eq_true, ↓reduceIte]
        refine setS_store (tb1 := { tb1 with plain := false }) ?_ o1 o2 o3 f1 f2 f3 f4 (SetTable.fits_plain_off p2) p3 f7 fun h' sb r => wpAny_pure (go h' sb r)
        intro b s₁ Q' q
        cases b <;> first | exact wpAny_rule q | exact wpAny_pure q
    · refine wpAny_bind (wpAny_pure ?_)
      simp only [↓reduceIte]
      refine setS_store ?_ o1 o2 o3 f1 f2 f3 f4 p2 p3 f7 fun h' sb r => wpAny_pure (go h' sb r)
      intro b s₁ Q' q
      cases b <;> first | exact wpAny_rule q | exact wpAny_pure q
/-- the first i of the texts, each once, in some order -/
def Same1 (l xs : List Str) : Prop := l.Nodup ∧ ∀ x, x ∈ l ↔ x ∈ xs
theorem setS_loop {I : Addr} {fp wr : List Addr} {G : Array GenState → Array GenState → Prop} {n : Nat} {Pv : Nat → Value → Prop} {St : Nat → Shared → Prop} {R : Result → Shared → Prop}
    (W : WalksS P w A.in1 I fp wr G n Pv St) (a : Addr) (ha : a ∉ fp) (xs : List Str) (hn : xs.length = n) (hb : xs.length + 1 < scanBound) (hv : ∀ i v, Pv i v → ∃ x u, xs[i]? = some x ∧ v = Value.str x u) :
    ∀ (m i : Nat) (s : Shared) (l : List Str), i + m = n → St i s → SetS w s.heap a l → Same1 l (xs.take i) → l.length ≤ i →
      (∀ s' l', Moved (a :: wr) G s s' → SetS w s'.heap a l' → Same1 l' xs → l'.length ≤ n → R (.ok (.ret .none)) s') →
      codeAny (model P w) A (.builtin "set.update.loop" ⟨[.ref a, .ref I], []⟩) R s := by
  have hw : a ∉ wr := fun h => ha (W.sub _ h)
  have more : ∀ b ∈ wr, b ∈ a :: wr := fun b hb => List.mem_cons_of_mem _ hb
  intro m
  induction m with
  | zero =>
    intro i s l hi st R1 R2 R3 fin
    have e : i = n := by omega
    subst e
    refine codeAny_builtin PyProof.Rows.F.entry_set_update_loop ?_
    rw [Around.under_plainId PyProof.Rows.F.plain_set_update_loop _]
    refine (show wpAny _ A.in1 (pyNext (.ref I) >>= _) _ _ s from wpAny_bind (W.done s _ _ st fun s' mv => wpAny_pure (fin s' l (mv.mono more) (R1.moved fun o e => mv.heap a o hw e) ?_ R3)))
    rw [List.take_of_length_le (by omega)] at R2
    exact R2
  | succ m ih =>
    intro i s l hi st R1 R2 R3 fin
    refine codeAny_builtin PyProof.Rows.F.entry_set_update_loop ?_
    rw [Around.under_plainId PyProof.Rows.F.plain_set_update_loop _]
    refine (show wpAny _ A.in1 (pyNext (.ref I) >>= _) _ _ s from wpAny_bind (W.item i s _ _ (by omega) st fun v s' pv st' mv => ?_))
    obtain ⟨x, u, hx, rfl⟩ := hv i v pv
    refine (show wpAny _ A.in1 (holding [Value.str x u] (setAdd a (.str x u)) >>= _) _ _ s' from wpAny_bind (wpAny_holding ?_))
    unfold setAdd
    refine wpAny_holding (wpAny_bind ((PySem.strKind P w).pyHash (k := x) (strKind_is _ _ _ _) ?_))
    refine setS_add (s := { s' with toks := s'.toks + 1 }) (R1.moved fun o e => mv.heap a o hw e) (by omega) fun b h' sb R4 => ?_
    have R5 : Same1 (if x ∈ l then l else x :: l) (xs.take (i + 1)) := by
      refine ⟨?_, fun y => ?_⟩
      · split
        · exact R2.1
        · rename_i hx
          exact List.nodup_cons.mpr ⟨hx, R2.1⟩
      · rw [List.take_add_one, hx, List.mem_append, ← R2.2 y]
        split
        · rename_i hx
          refine ⟨.inl, fun z => z.elim id fun z => ?_⟩
          have z := (List.mem_singleton.mp z : y = x)
          rw [z]
          exact hx
        · rw [List.mem_cons]
          exact ⟨fun z => z.elim (fun z => .inr (z ▸ List.mem_cons_self)) .inl, fun z => z.elim .inr fun z => .inl (List.mem_singleton.mp z)⟩
    have R6 : (if x ∈ l then l else x :: l).length ≤ i + 1 := by
      split
      · omega
      · rw [List.length_cons]
        omega
    refine wpAny_pure ⟨plainId_quiet PyProof.Rows.F.plain_set_update_loop _, ih (i + 1) _ _ (by omega) (W.frame _ s' _ _ st' (Nat.le_succ _) fun b hb o e => ?_) R4 R5 R6 fun s2 l2 mv2 r1 r2 r3 => ?_⟩
    · exact (sb.2 b fun z => ha (z ▸ hb)).trans e
    · exact fin s2 l2 (Moved.trans W.gtrans ((mv.mono more).then_heap (Nat.le_succ _) fun b o hb e => (sb.2 b fun z => hb (z ▸ List.mem_cons_self)).trans e) mv2) r1 r2 r3
theorem setS_fresh {h : Heap} {a : Addr} (e : h.get? a = some { cls := .type "set", dict := none, data := .set #[] 0 (.fresh 0 0 (!w.params.followText "set-order")) }) : SetS w h a [] := by
  refine ⟨_, #[], 0, _, ⟨e, ⟨rfl, rfl, rfl⟩, rfl⟩, ⟨fun e he => by simp at he, .refl _, .nil⟩, ⟨by decide, rfl⟩, List.Pairwise.nil, ?_⟩
  show _ ∨ (!w.params.followText "set-order") = true
  cases w.params.followText "set-order" <;> simp
abbrev set0 (w : World) : Obj := { cls := .type "set", dict := none, data := .set #[] 0 (.fresh 0 0 (!w.params.followText "set-order")) }
/-- set(xs), xs a list of texts -/
theorem call_set_texts {q : Addr} {items : Array Value} {xs : List Str} {Q : Value → Shared → Prop} (hh : A.handled = none) (hq : s.heap.IsList q items) (hx : StrsAre items.toList xs) (hb : xs.length + 1 < scanBound)
    (fin : ∀ (h' : Heap) (tk : Nat) (l : List Str), SetS w h' s.heap.objs.size l → Same1 l xs → l.length ≤ xs.length → (∀ b o, s.heap.get? b = some o → h'.get? b = some o) → Q (.ref s.heap.objs.size) { s with heap := h', toks := tk }) :
    wpAny (model P w) A (call (.type "set") [.ref q]) Q E s := by
  have hsz : xs.length = items.size := by rw [← StrsAre.len_eq hx, Array.length_toList]
  obtain ⟨cc, tl, m1⟩ := PySem.F.called_set.mro
  have m2 := PySem.F.called_set.made
  have m3 := PySem.F.called_set.sub
  refine wpAny_call (codeAny_of_tree (show wpAny _ _ (callAny (.type "set") _) _ _ _ from wpAny_pure ⟨Code.quiet_builtin _ (by decide +kernel), codeAny_builtin PySem.F.entry_type_call ?_⟩))
  rw [Around.under_plain (weight_type_call_type "set" [.ref q] []) rfl]
  have m4 := PySem.F.called_set.notType
  have m5 := PySem.F.called_set.canCreate
  have m6 := PySem.F.typeCall_set_1 (.ref q)
  repeat (any_goals (first | assumption | wp_step))
  refine codeAny_mono (code_set_led1 (.ref q) (E := E) (Q₁ := fun ob s1 => ob = .ref s.heap.objs.size ∧ s1 = { s with heap := s.heap.push (set0 w) }) ⟨rfl, rfl⟩) fun r s1 hr => ?_
  match r, hr with
  | .error e, hr => exact hr
  | .ok (.ret ob), hr =>
    obtain ⟨rfl, rfl⟩ := hr
    have at0 : (s.heap.push (set0 w)).get? s.heap.objs.size = some (set0 w) := Heap.get?_push_size _ rfl
    have ty0 : Shared.TypeIs { s with heap := s.heap.push (set0 w) } (.ref s.heap.objs.size) "set" := ⟨_, at0, rfl⟩
    have n1 := PySem.F.called_set.init.lookup
    have n2 := PySem.F.called_set.init.bind (.ref s.heap.objs.size)
    repeat (any_goals (first | assumption | wp_step))
    refine codeAny_mono (codeAny_call_builtin (R := wants (fun r s2 => r = .none ∧ ∃ h' tk l, s2 = { s with heap := h', toks := tk } ∧ (SetS w h' s.heap.objs.size l ∧ Same1 l xs ∧ l.length ≤ xs.length) ∧ (∀ b o, s.heap.get? b = some o → h'.get? b = some o)) E)
      PySem.F.called_set.init.plain PySem.F.entry_set_init (check_set_init_1 ty0 ?_)) fun r2 s2 hr2 => ?_
    · obtain ⟨⟨c1, c2, c3, c4⟩, g1, g2, nn, g3⟩ := hq
      simp only at g2 g3
      subst g2
      subst g3
      have at1 := Heap.get?_push_of_some (set0 w) g1
      have li : (s.heap.push (set0 w)).IsList q items := ⟨_, at1, rfl, nn, rfl⟩
      have u1 := PySem.F.sub_list_set
      have u2 := PySem.F.sub_list_frozenset
      have u3 : (Value.type "list" == Value.type "dict") = false := by decide
      unfold Builtin.«set.__init__» noKeywords Builtin.Frozenset.updateFrom
      generalize hPI : pyIter = PI
      wp_walk
      subst hPI
      refine wpAny_pyIter_list li (wpAny_bind (wpAny_runValue ?_))
      have lt : q < s.heap.objs.size := Heap.lt_size g1
      have hh3 : A.in1.in1.in1.handled = none := by simp [hh]
      have z1 : (s.heap.push (set0 w)).objs.size = s.heap.objs.size + 1 := Heap.size_push ..
      have ne1 : q ≠ (s.heap.push (set0 w)).objs.size := by
        rw [z1]
        exact Nat.ne_of_lt (Nat.lt_succ_of_lt lt)
      have ne2 : s.heap.objs.size ∉ [(s.heap.push (set0 w)).objs.size, q] := by
        rw [z1]
        simp only [List.mem_cons, List.mem_singleton, List.not_mem_nil, or_false, not_or]
        exact ⟨Nat.ne_of_lt (Nat.lt_succ_self _), Nat.ne_of_gt lt⟩
      have val : ∀ (i : Nat) (v : Value), items[i]? = some v → ∃ x u, xs[i]? = some x ∧ v = Value.str x u := fun i v hv => by
        have hi : i < xs.length := by
          have := (Array.getElem?_eq_some_iff.mp hv).1
          omega
        obtain ⟨t, e⟩ := SS.strs_at hx i v (by rw [Array.getElem?_toList]; exact hv)
        exact ⟨xs[i], t, List.getElem?_eq_getElem hi, by rw [e, List.getD_eq_getElem?_getD, List.getElem?_eq_getElem hi]; rfl⟩
      refine setS_loop ((Walks.list hh3 _ q ne1 items).toS) s.heap.objs.size ne2 xs hsz hb val (items.size - 0) 0 _ [] (by omega) ⟨⟨_, Heap.get?_push_size _ rfl, rfl, rfl⟩, li.push _⟩ (setS_fresh (Heap.get?_push_of_some _ at0)) ⟨.nil, fun x => by simp⟩ (Nat.le_refl 0) ?_
      intro s3 l mv r1 r2 r3
      obtain ⟨h3, g3, d3, t3, o3⟩ := s3
      obtain rfl : g3 = s.gens := mv.gens
      obtain rfl : d3 = s.drawn := mv.drawn
      obtain rfl : o3 = s.os := mv.os
      refine (show wpAny _ _ _ _ _ _ from wpAny_pure (show wpAny _ _ (ret Value.none) _ _ _ from wpAny_pure ⟨rfl, h3, t3, l, rfl, ⟨r1, r2, by omega⟩, fun b o e => ?_⟩))
      have lb : b < s.heap.objs.size := Heap.lt_size e
      refine mv.heap b o ?_ (Heap.get?_push_of_some _ (Heap.get?_push_of_some _ e))
      rw [z1]
      simp only [List.mem_cons, List.mem_singleton, List.not_mem_nil, or_false, not_or]
      exact ⟨Nat.ne_of_lt lb, Nat.ne_of_lt (Nat.lt_succ_of_lt lb)⟩
    · match r2, hr2 with
      | .error e, hr2 => exact hr2
      | .ok (.ret r), hr2 =>
        obtain ⟨rfl, h3, t3, l, rfl, ⟨r1, r2, r3⟩, kp⟩ := hr2
        repeat (any_goals (first | assumption | wp_step))
        exact fin _ _ l r1 r2 r3 kp
      | .ok .next, hr2 => exact hr2.elim
      | .ok .brk, hr2 => exact hr2.elim
      | .ok .cont, hr2 => exact hr2.elim
  | .ok .next, hr => exact hr.elim
  | .ok .brk, hr => exact hr.elim
  | .ok .cont, hr => exact hr.elim
end
end U

set_option Elab.async false
set_option linter.all false
set_option maxRecDepth 100000
set_option maxHeartbeats 4000000
/-! sets of texts, sorted; both as rules -/
namespace U
open PySem PySem.Spec PyProof.Rows L2
theorem texts_of {w : World} : ∀ (vs : List Value), (∀ v ∈ vs, ∃ x u, v = Value.str x u) → StrsAre vs (vs.map fun v => textOf (0, v))
  | [], _ => .nil
  | v :: r, h => by
    obtain ⟨x, u, rfl⟩ := h v List.mem_cons_self
    exact .cons x u (texts_of (w := w) r fun y hy => h y (List.mem_cons_of_mem _ hy))
section
variable {P : Program} {w : World} {A : Around} {E : Value → Shared → Prop} {s : Shared} {a : Addr}
theorem sorted_setS {l : List Str} {Q : Value → Shared → Prop} (R : SetS w s.heap a l) (hh : A.handled = none) (h64 : l.length < 64)
    (fin : ∀ s' p (out : Array Value) (c : Nat) (ys : List Str), (∀ b o, s.heap.get? b = some o → s'.heap.get? b = some o) → s'.gens = s.gens → s'.os = s.os → s.heap.objs.size ≤ p →
      s'.heap.get? p = some (seqObj "list" out c) → StrsAre out.toList ys → ys.Perm l → sortedS ys = true → Q (.ref p) s') :
    wpAny (model P w) A (call (.builtin "sorted") [.ref a]) Q E s := by
  obtain ⟨ob, es, ep, tb, ⟨o1, o2, o3⟩, ⟨e1, e2, e3⟩, ⟨e4, e5⟩, e6, e7⟩ := R
  refine Calls.call_function_entry kind_sorted plain_sorted entry_sorted (args_sorted1 _) ?_
  unfold Builtin.«sorted»
  refine wpAny_bind (m := checkCount "sorted" 1 1 _) (wpAny_pure (wpAny_bind (collect_set (A := A.in1) hh ⟨ob, o1, o2.1, o3⟩ e5 e4 e6 e7 fun s1 vs k1 z1 g1 p1 pm => ?_)))
  have len : vs.length = l.length := by
    have q1 := pm.length_eq
    have q2 := e2.length_eq
    simp only [List.length_map] at q1 q2
    omega
  have tx : StrsAre vs (vs.map fun v => textOf (0, v)) := texts_of (w := w) vs fun v hv => by
    obtain ⟨e, he, q⟩ := List.mem_map.mp (pm.mem_iff.mp hv)
    obtain ⟨x, u, h1, _⟩ := e1 e he
    exact ⟨x, u, q ▸ h1⟩
  have pl : (vs.map fun v => textOf (0, v)).Perm l := by
    have q := pm.map fun v => textOf (0, v)
    rw [List.map_map] at q
    exact q.trans e2
  refine wpAny_bind (wpAny_newList ?_ (by rw [len, sizeLine_eq]; omega))
  have at1 : (s1.heap.push (seqObj "list" vs.toArray 0)).get? s1.heap.objs.size = some (seqObj "list" vs.toArray 0) := Heap.get?_push_size _ rfl
  refine wpAny_bind (wpAny_holding (wpAny_call_entry slot_list_sort ⟨_, at1, rfl⟩ entry_list_sort
    (list_sort_treeK strKind_oneLt at1 tx.keysOf (fun v₁ v₂ rest e => keyKind_strs (by rw [← e]; exact tx)) (by rw [len]; exact h64) fun st' hp hs => ?_) (args_list_sort _)))
  obtain ⟨ys, y1, y2, y3⟩ := sorted_out_str tx hp hs
  obtain ⟨c, hc⟩ := sortedHeap_at (vs := vs) (out := (arrOf st').map (·.2)) at1
  refine ⟨_, rfl, wpAny_pure ⟨_, rfl, fin _ s1.heap.objs.size _ c ys (fun b u e => ?_) g1 p1 z1 hc y1 (y2.trans pl) y3⟩⟩
  have old := k1 b u e
  have lt := Heap.lt_size old
  exact (sortedHeap_old (Nat.ne_of_lt lt) (by rw [size_push']; exact Nat.lt_succ_of_lt lt)).trans (Heap.get?_push_of_some _ old)
end
/-! ### as rules -/
/-- the set of these texts at a -/
def SetSO (w : World) (a : Addr) (l : List Str) : HO := .ext fun h => SetS w h a l
theorem setSO_ok {w : World} {P : Program} {H : Hp} {h : Heap} {a : Addr} {l : List Str} (R : SetS w h a l) : ObjOk P w H h a (SetSO w a l) := by
  refine ⟨R, ?_, fun h1 h2 p k => p.moved k⟩
  obtain ⟨ob, _, _, _, ⟨e, _⟩, _⟩ := R
  exact ⟨ob, e⟩
section
variable {X : Cx}
/-- set(xs), xs a list of texts -/
def rSetOf (K : PySem.W.Frag) (w : World) : List V → Hp → VK → Prop := fun vs H Q => ∃ (q : Addr) (xs : List Str), vs = [V.ref q] ∧ SqL K H q (xs.map V.str) ∧ xs.length + 1 < scanBound ∧ ∀ p l, Same1 l xs → l.length ≤ xs.length → H p = none → Q (.ref p) (upd H p (SetSO w p l))
theorem cr_setOf (hc : X.calm = true) : CallR X (.type "set") (rSetOf X.K X.w) := by
  intro pins s σ H vs us Q I r h
  obtain ⟨q, xs, rfl, hq, hb, go⟩ := h
  obtain ⟨its, rv, li, _⟩ := I.list hq
  rw [Vals.ref1 r]
  refine call_set_texts (I.ok.hd hc) li.isList (by simpa using strsAre_of rv) hb fun h' tk l r1 r2 r3 kp => ?_
  have fr : H s.heap.objs.size = none := I.hok.fresh (Nat.le_refl _)
  exact ⟨.ref _, upd H s.heap.objs.size (SetSO X.w s.heap.objs.size l), I.laid (t' := tk) kp (Nat.le_refl _) (setSO_ok r1), rfl, go _ l r2 r3 fr⟩
/-- sorted(found), a set of fewer than 64 texts -/
def rSortedOf (w : World) : List V → Hp → VK → Prop := fun vs H Q => ∃ (a : Addr) (l : List Str), vs = [V.ref a] ∧ H a = some (SetSO w a l) ∧ l.length < 64 ∧ ∀ (ys : List Str) (p : Addr), ys.Perm l → sortedS ys = true → H p = none → Q (.ref p) (upd H p (.lst (ys.map V.str)))
theorem cr_sortedOf (hc : X.calm = true) : CallR X (.builtin "sorted") (rSortedOf X.w) := by
  intro pins s σ H vs us Q I r h
  obtain ⟨a, l, rfl, ha, h64, go⟩ := h
  rw [Vals.ref1 r]
  refine sorted_setS (I.hok a _ ha).1 (I.ok.hd hc) h64 fun s' p out c ys k g o hp at' st pm so => ?_
  have fr : H p = none := I.hok.fresh hp
  have sz : (ys.map V.str).length ≤ sizeLine := by
    rw [List.length_map, pm.length_eq, sizeLine_eq]
    omega
  obtain ⟨h1, g1, d1, t1, o1⟩ := s'
  obtain rfl : o1 = s.os := o
  refine ⟨.ref p, upd H p (.lst (ys.map V.str)), ?_, rfl, go ys p pm so fr⟩
  exact I.call (ch := []) (Un.laid k hp fr) (I.hok.laid k hp ⟨sz, out.toList, c, vals_of_strs st, at'⟩) (by rw [show g1 = s.gens from g]; exact I.bare) (fun _ z => nomatch z)
end
end U

set_option Elab.async false
set_option linter.all false
set_option maxRecDepth 100000
set_option maxHeartbeats 4000000
namespace U
open PySem PySem.Spec PyProof.Rows L2
theorem dig_in {c : Char} (h : c.isDigit = true) : c.toNat ∈ figs := by
  have h2 : 48 ≤ c.toNat ∧ c.toNat ≤ 57 := by
    simp only [Char.isDigit, Bool.and_eq_true, decide_eq_true_eq] at h
    exact h
  unfold figs
  refine List.mem_map.mpr ⟨c.toNat - 48, List.mem_range.mpr (by omega), by omega⟩
theorem dig_first : ∀ n : Nat, 0 < n → ∃ d ds, Nat.toDigits 10 n = d :: ds ∧ d.toNat ∈ figs1 := by
  intro n
  induction n using Nat.strongRecOn with
  | ind n ih =>
    intro hn
    rw [Nat.toDigits_eq_if (by decide)]
    by_cases h : n < 10
    · rw [if_pos h]
      refine ⟨_, [], rfl, ?_⟩
      have : n = 1 ∨ n = 2 ∨ n = 3 ∨ n = 4 ∨ n = 5 ∨ n = 6 ∨ n = 7 ∨ n = 8 ∨ n = 9 := by omega
      rcases this with rfl | rfl | rfl | rfl | rfl | rfl | rfl | rfl | rfl <;> decide
    · rw [if_neg h]
      obtain ⟨d, ds, e, hd⟩ := ih (n / 10) (by omega) (by omega)
      exact ⟨d, ds ++ [_], by rw [e]; rfl, hd⟩
theorem nat_text {n : Nat} (h : n < 10 ^ 12) : n = 0 ∧ (Nat.repr n).toList.map Char.toNat = [48] ∨ ∃ d ds, (Nat.repr n).toList.map Char.toNat = d :: ds ∧ d ∈ figs1 ∧ ds.length ≤ 11 ∧ ∀ c ∈ ds, c ∈ figs := by
  rw [Nat.toList_repr]
  by_cases h0 : n = 0
  · subst h0
    exact .inl ⟨rfl, by decide⟩
  · obtain ⟨d, ds, e, hd⟩ := dig_first n (by omega)
    have hl := (Nat.length_toDigits_le_iff (b := 10) (n := n) (k := 12) (by decide) (by decide)).mpr h
    have hm : ∀ c ∈ Nat.toDigits 10 n, c.toNat ∈ figs := fun c hc => dig_in (Nat.isDigit_of_mem_toDigits (by decide) (by decide) hc)
    rw [e] at hl hm
    refine .inr ⟨d.toNat, ds.map Char.toNat, by rw [e]; rfl, hd, by simp at hl ⊢; omega, fun c hc => ?_⟩
    obtain ⟨x, hx, rfl⟩ := List.mem_map.mp hc
    exact hm x (List.mem_cons_of_mem _ hx)
theorem num_text {i : Int} (h : i.natAbs < 10 ^ 12) : ∃ l, Str.ofString (toString i) = tx l ∧ NumOk l := by
  cases i with
  | ofNat n =>
    refine ⟨(Nat.repr n).toList.map Char.toNat, PySem.Str.ofString_eq_toList _, ?_⟩
    rcases nat_text (n := n) h with ⟨_, e⟩ | ⟨d, ds, e, h1, h2, h3⟩
    · exact .inl e
    · exact .inr ⟨d, ds, .inl e, h1, h2, h3⟩
  | negSucc n =>
    refine ⟨45 :: (Nat.repr (n + 1)).toList.map Char.toNat, ?_, ?_⟩
    · show Str.ofString ("-" ++ Nat.repr (n + 1)) = _
      rw [PySem.Str.ofString_eq_toList]
      simp
    · rcases nat_text (n := n + 1) h with ⟨z, e⟩ | ⟨d, ds, e, h1, h2, h3⟩
      · omega
      · exact .inr ⟨d, ds, .inr (by rw [e]), h1, h2, h3⟩
end U

set_option Elab.async false
set_option linter.all false
set_option maxRecDepth 100000
set_option maxHeartbeats 4000000
/-! data of texts, compared -/
namespace U
open PySem PySem.Spec PyProof.Rows L2
/-- a text of signs that Python's texts have -/
def Asc (x : Str) : Prop := ∀ c ∈ x.cps.toList, c < 128
theorem Asc.ok {x : Str} (h : Asc x) : PyData.strOk x = true := by
  unfold PyData.strOk
  rw [Array.all_eq_true_iff_forall_mem]
  intro c hc
  have := h c (by simpa using hc)
  exact decide_eq_true (Nat.lt_trans this (by decide))
theorem Asc.tx {l : List Nat} (h : ∀ c ∈ l, c < 128) : Asc (tx l) := fun c hc => h c (by simpa using hc)
theorem asc_smalls : ∀ c ∈ smalls, c < 128 := by decide
theorem asc_greats : ∀ c ∈ greats, c < 128 := by decide
theorem asc_figs : ∀ c ∈ figs, c < 128 := by decide
theorem asc_figs1 : ∀ c ∈ figs1, c < 128 := by decide
theorem asc_hd {w : Wd} {b : List Nat} (h : BndOk w b) : ∀ c ∈ hd w b, c < 128 := by
  have e : ∀ c ∈ w.cs, c < 128 := by cases w <;> decide
  intro c hc
  unfold hd at hc
  unfold BndOk at h
  rcases List.mem_append.mp hc with hc | hc
  · rcases List.mem_cons.mp hc with rfl | hc
    · decide
    · exact e c hc
  · cases hb : w.bd with
    | true =>
      rw [hb] at hc h
      simp only [if_true] at hc h
      rcases List.mem_cons.mp hc with rfl | hc
      · decide
      · exact asc_smalls c (h.2.2 c hc)
    | false =>
      rw [hb] at hc
      simp at hc
def AL (l : List Nat) : Prop := ∀ c ∈ l, c < 128
theorem al_nil : AL [] := fun c h => by simp at h
theorem al_app {a b : List Nat} (h1 : AL a) (h2 : AL b) : AL (a ++ b) := fun c h => (List.mem_append.mp h).elim (h1 c) (h2 c)
theorem al_cons {x : Nat} {l : List Nat} (h1 : x < 128) (h2 : AL l) : AL (x :: l) := fun c h => by
  rcases List.mem_cons.mp h with h | h
  · rw [h]
    exact h1
  · exact h2 c h
theorem asc_num {l : List Nat} (h : NumOk l) : AL l := by
  rcases h with rfl | ⟨d, ds, e, h1, _, h3⟩
  · exact al_cons (by decide) al_nil
  · have h : AL (d :: ds) := al_cons (asc_figs1 _ h1) fun c hc => asc_figs _ (h3 c hc)
    rcases e with rfl | rfl
    · exact h
    · exact al_cons (by decide) h
theorem asc_pr : ∀ k : Tm, k.Ok → AL k.pr
  | .atom .num l, h => asc_num h
  | .atom .name l, h => fun c hc => asc_smalls c ((show SmallOk l from h).2.2 c hc)
  | .atom .part l, h => fun c hc => asc_greats c ((show GreatOk l from h).2.2 c hc)
  | .n1 w b x, h => al_app (al_app (asc_hd h.2.1) (al_cons (by decide) (asc_pr x h.2.2))) (al_cons (by decide) al_nil)
  | .n2 w b x y, h => al_app (al_app (asc_hd h.2.1) (al_app (al_cons (by decide) (asc_pr x h.2.2.1)) (al_cons (by decide) (asc_pr y h.2.2.2)))) (al_cons (by decide) al_nil)
  | .n3 w b x y z, h => al_app (al_app (asc_hd h.2.1) (al_app (al_app (al_cons (by decide) (asc_pr x h.2.2.1)) (al_cons (by decide) (asc_pr y h.2.2.2.1))) (al_cons (by decide) (asc_pr z h.2.2.2.2)))) (al_cons (by decide) al_nil)
theorem canLay_strs : ∀ xs : List Str, (∀ x ∈ xs, Asc x) → PyData.canLayAll0 (xs.map PyData.str) = true
  | [], _ => rfl
  | x :: xs, h => by
    rw [List.map_cons, PyData.canLayAll0, canLay_strs xs fun y hy => h y (List.mem_cons_of_mem _ hy), Bool.and_true]
    have := h x List.mem_cons_self
    rw [PyData.canLay0]
    exact this.ok
theorem depth_strs : ∀ xs : List Str, PyData.depthAll (xs.map PyData.str) ≤ 1
  | [] => by simp [PyData.depthAll]
  | x :: xs => by
    have := depth_strs xs
    simp only [List.map_cons, PyData.depthAll, PyData.depth]
    omega
theorem shaped_strs {xs : List Str} (h : ∀ x ∈ xs, Asc x) : SeqAt.shaped (.list (xs.map PyData.str)) = true := by
  have := depth_strs xs
  simp only [SeqAt.shaped, PyData.canLay0, canLay_strs xs h, Bool.true_and]
  refine decide_eq_true ?_
  simp only [PyData.depth]
  omega
theorem dpAll_strs {K : PySem.W.Frag} {H : Hp} : ∀ xs : List Str, DpAll K H (xs.map V.str) (xs.map PyData.str)
  | [] => .nil
  | x :: xs => .cons (.str x) (dpAll_strs xs)
theorem eqvAll_strs : ∀ xs ys : List Str, PyData.eqvAll (xs.map PyData.str) (ys.map PyData.str) = decide (xs = ys)
  | [], [] => by simp [PyData.eqvAll]
  | [], y :: ys => by simp [PyData.eqvAll]
  | x :: xs, [] => by simp [PyData.eqvAll]
  | x :: xs, y :: ys => by
    rw [List.map_cons, List.map_cons, PyData.eqvAll, eqvAll_strs xs ys, PyData.eqv]
    rw [Bool.eq_iff_iff]
    simp
end U

set_option Elab.async false
set_option linter.all false
set_option maxRecDepth 100000
set_option maxHeartbeats 4000000
/-! sorted(xs), texts, any number of them, in a list or a tuple -/
namespace U
open PySem PySem.Spec PyProof.Rows L2
section
variable {prog : Program} {w : World} {A : Around} {E : Value → Shared → Prop} {s : Shared}
theorem collect_tup {l : Addr} {vs : List Value} {o : Obj} {n : Nat} {Q : List Value → Shared → Prop} (ho : s.heap.get? l = some o) (hc : o.cls = .type "tuple") (hd : o.data = .seq vs.toArray n)
    (h : Q vs { s with heap := (s.heap.push (seqObj "list" #[] 0)).update s.heap.objs.size (Obj.mapSeq (· ++ vs.toArray)) }) (hsz : vs.length ≤ sizeLine) :
    wpAny (model prog w) A (collect (.ref l)) Q E s := by
  unfold collect
  refine wpAny_bind (wpAny_runValue (codeAny_builtin entry_proto_collect' ?_))
  show wpAny _ _ (do again (.builtin "list.__iadd__" ⟨[← newList [], .ref l], []⟩)) _ _ s
  refine wpAny_bind (wpAny_newList (wpAny_pure ⟨Code.quiet_builtin _ (by decide +kernel), codeAny_builtin entry_list_iadd' ?_⟩))
  show wpAny _ _ (Builtin.List.listExtendWith (.ref s.heap.objs.size) (.ref l) (.ref s.heap.objs.size)) _ _ { s with heap := s.heap.push (seqObj "list" #[] 0) }
  unfold Builtin.List.listExtendWith
  have ho' : (s.heap.push (seqObj "list" #[] 0)).get? l = some o := Heap.get?_push_of_some _ ho
  refine wpAny_bind (wpAny_typeOf (T := "tuple") ⟨o, ho', hc⟩ ?_)
  have ht : (Value.type "tuple" == Value.type "tuple") = true := by rfl
  rw [if_pos (by rw [ht]; simp)]
  refine wpAny_bind (listItems_at ho' hd ?_)
  refine wpAny_bind (listItems_at (xs := #[]) (n := 0) (Heap.get?_push_size _ rfl) rfl ?_)
  rw [if_neg (by simp)]
  refine wpAny_bind (listUpdate_at (xs := #[]) (n := 0) (Heap.get?_push_size _ rfl) rfl ?_ (Nat.zero_le _) (by show (#[] ++ vs.toArray).size ≤ sizeLine + 1; simp only [Array.size_append, List.size_toArray, List.length_nil]; omega))
  refine wpAny_pure ?_
  show wpAny (model prog w) A (do
      let o ← load s.heap.objs.size
      match o.data with
      | .seq xs _ => pure xs.toList
      | _ => unsupported "internal:collect") Q E { s with heap := (s.heap.push (seqObj "list" #[] 0)).update s.heap.objs.size (Obj.mapSeq (· ++ vs.toArray)) }
  refine wpAny_bind (wpAny_load (get?_update_seq (Heap.get?_push_size _ rfl) _) ?_)
  show wpAny _ _ (pure ((#[] : Array Value) ++ vs.toArray).toList) Q E _
  rw [show ((#[] : Array Value) ++ vs.toArray).toList = vs by simp]
  exact wpAny_pure h
theorem sorted_tup {l : Addr} {vs : List Value} {ss : List Str} {o : Obj} {n : Nat} {Q : Value → Shared → Prop} (ho : s.heap.get? l = some o) (hc : o.cls = .type "tuple") (hd : o.data = .seq vs.toArray n) (hS : StrsAre vs ss) (hL : vs.length ≤ sizeLine)
    (h : ∀ (out : Array Value) (ss' : List Str), StrsAre out.toList ss' → ss'.Perm ss → sortedS ss' = true → Q (.ref (s.heap.objs.size + 1)) { s with heap := sortedAll s.heap vs out }) :
    wpAny (model prog w) A (call (.builtin "sorted") [.ref l]) Q E s := by
  refine Calls.call_function_entry kind_sorted plain_sorted entry_sorted (args_sorted1 _) ?_
  unfold Builtin.«sorted»
  refine wpAny_bind (m := checkCount "sorted" 1 1 _) (wpAny_pure ?_)
  refine wpAny_bind (collect_tup ho hc hd ?_ hL)
  refine wpAny_bind (wpAny_newList ?_ hL)
  have hsz : ((s.heap.push (seqObj "list" #[] 0)).update s.heap.objs.size (Obj.mapSeq (· ++ vs.toArray))).objs.size = s.heap.objs.size + 1 := by
    rw [Heap.size_update, size_push']
  have hoL : (((s.heap.push (seqObj "list" #[] 0)).update s.heap.objs.size (Obj.mapSeq (· ++ vs.toArray))).push (seqObj "list" vs.toArray 0)).get? (s.heap.objs.size + 1) = some (seqObj "list" vs.toArray 0) := by
    rw [← hsz]; exact Heap.get?_push_size _ rfl
  show wpAny _ _ _ _ _ { s with heap := ((s.heap.push (seqObj "list" #[] 0)).update s.heap.objs.size (Obj.mapSeq (· ++ vs.toArray))).push (seqObj "list" vs.toArray 0) }
  rw [hsz]
  refine wpAny_bind (wpAny_holding (wpAny_call_entry slot_list_sort ⟨_, hoL, rfl⟩ entry_list_sort (list_sort_treeKAny strKind_oneLt hoL hS.keysOf (fun v₁ v₂ rest e => keyKind_strs (by rw [← e]; exact hS)) hL fun st' hp hs => ⟨_, rfl, ?_⟩) (args_list_sort _)))
  obtain ⟨ss', h1, h2, h3⟩ := sorted_out_str hS hp hs
  exact wpAny_pure ⟨_, rfl, h _ ss' h1 h2 h3⟩
end
section
variable {X : Cx}
def rSortedA (K : PySem.W.Frag) : List V → Hp → VK → Prop := fun vs H Q => ∃ (a : Addr) (xs : List Str), vs = [V.ref a] ∧ (SqL K H a (xs.map V.str) ∨ SqT K H a (xs.map V.str)) ∧
  ∀ (ys : List Str) (p : Addr), ys.Perm xs → sortedS ys = true → H p = none → Q (.ref p) (upd H p (.lst (ys.map V.str)))
theorem cr_sortedA : CallR X (.builtin "sorted") (rSortedA X.K) := by
  intro pins s σ H vs us Q I r h
  obtain ⟨a, xs, rfl, hs, q⟩ := h
  rw [Vals.ref1 r]
  rcases hs with hs | hs
  · obtain ⟨its, rv, hl, hz⟩ := I.list hs
    have hlen0 := rv.length
    rw [List.length_map] at hlen0 hz
    refine PyProof.Rows.sorted_strsAny hl.isList rv.strs (by rw [← hlen0]; exact hz) fun out ys h1 h2 h3 => ?_
    obtain ⟨ep, he'⟩ := PyProof.Rows.sortedAll_at s.heap its out
    have hlen : (ys.map V.str).length ≤ sizeLine := by rw [List.length_map, h2.length_eq]; exact hz
    exact ⟨.ref _, upd H (s.heap.objs.size + 1) (.lst (ys.map V.str)), I.laid (t' := s.toks) (fun _ _ => PyProof.Rows.sortedAll_old) (Nat.le_succ _) ⟨hlen, out.toList, ep, vals_of_strs h1, he'⟩, rfl, q ys _ h2 h3 (I.hok.fresh (Nat.le_succ _))⟩
  · obtain ⟨its, rv, ⟨⟨c2, dd, d2, sl⟩, g2, k2, n2, k3⟩, hz⟩ := I.tuple hs
    have hlen0 := rv.length
    rw [List.length_map] at hlen0 hz
    refine sorted_tup g2 k2 k3 rv.strs (by rw [← hlen0]; exact hz) fun out ys h1 h2 h3 => ?_
    obtain ⟨ep, he'⟩ := PyProof.Rows.sortedAll_at s.heap its out
    have hlen : (ys.map V.str).length ≤ sizeLine := by rw [List.length_map, h2.length_eq]; exact hz
    exact ⟨.ref _, upd H (s.heap.objs.size + 1) (.lst (ys.map V.str)), I.laid (t' := s.toks) (fun _ _ => PyProof.Rows.sortedAll_old) (Nat.le_succ _) ⟨hlen, out.toList, ep, vals_of_strs h1, he'⟩, rfl, q ys _ h2 h3 (I.hok.fresh (Nat.le_succ _))⟩
end
end U

set_option Elab.async false
set_option linter.all false
set_option maxRecDepth 100000
set_option maxHeartbeats 4000000
/-! tellings: their rows, no program here -/
namespace U
open PySem PySem.Spec PyProof.Rows L2
/-- a number's signs -/
def nL (n : Int) : List Nat := (Str.ofString (toString n)).cps.toList
theorem nL_tx (n : Int) : Str.ofString (toString n) = tx (nL n) := tx_of _
theorem nL_ok {n : Int} (h : n.natAbs < 10 ^ 12) : NumOk (nL n) := by
  obtain ⟨l, e, o⟩ := num_text h
  have : nL n = l := by
    unfold nL
    rw [e]
  rw [this]
  exact o
theorem num_short {l : List Nat} (h : NumOk l) : 1 ≤ l.length ∧ l.length ≤ 13 := by
  rcases h with rfl | ⟨d, ds, h, _, hl, _⟩
  · decide
  · rcases h with rfl | rfl <;> simp <;> omega
theorem nL_inj {n m : Nat} (h : nL n = nL m) : n = m := by
  have e1 : nL n = TL.numL n := TL.tl_num n
  have e2 : nL m = TL.numL m := TL.tl_num m
  rw [e1, e2] at h
  exact TL.numL_inj h
/-- the texts with a blank between -/
def jn : List (List Nat) → List Nat
  | [] => []
  | p :: ps => p ++ (ps.map ([32] ++ ·)).flatten
theorem jn_cons (p q : List Nat) (ps : List (List Nat)) : jn (p :: q :: ps) = p ++ 32 :: jn (q :: ps) := by
  simp [jn]
theorem jn_app : ∀ (a b : List (List Nat)), b ≠ [] → a ≠ [] → jn (a ++ b) = jn a ++ 32 :: jn b
  | [], b, _, h => absurd rfl h
  | [p], q :: b, _, _ => by
    show jn (p :: q :: b) = _
    rw [jn_cons]
    simp [jn]
  | [p], [], h, _ => absurd rfl h
  | p :: q :: a, b, h, _ => by
    show jn (p :: (q :: a ++ b)) = _
    have ih := jn_app (q :: a) b h (by simp)
    show jn (p :: q :: (a ++ b)) = _
    rw [jn_cons, jn_cons]
    show p ++ 32 :: jn (q :: a ++ b) = _
    rw [ih]
    simp
/-- without blanks -/
def NB (l : List Nat) : Prop := 32 ∉ l
theorem jn_inj : ∀ {a b : List (List Nat)}, (∀ x ∈ a, NB x) → (∀ x ∈ b, NB x) → a ≠ [] → b ≠ [] → jn a = jn b → a = b
  | [], _, _, _, h, _, _ => absurd rfl h
  | _, [], _, _, _, h, _ => absurd rfl h
  | [p], [q], _, _, _, _, h => by simpa [jn] using h
  | [p], q :: r :: b, ha, _, _, _, h => by
    rw [jn_cons] at h
    have : 32 ∈ p := by
      have e : jn [p] = p := by simp [jn]
      rw [← e, h]
      simp
    exact absurd this (ha p List.mem_cons_self)
  | p :: q :: a, [r], _, hb, _, _, h => by
    rw [jn_cons] at h
    have : 32 ∈ r := by
      have e : jn [r] = r := by simp [jn]
      rw [← e, ← h]
      simp
    exact absurd this (hb r List.mem_cons_self)
  | p :: q :: a, r :: t :: b, ha, hb, _, _, h => by
    rw [jn_cons, jn_cons] at h
    have key : ∀ (p r x y : List Nat), NB p → NB r → p ++ 32 :: x = r ++ 32 :: y → p = r ∧ x = y := by
      intro p
      induction p with
      | nil =>
        intro r x y _ hr e
        cases r with
        | nil => exact ⟨rfl, by simpa using e⟩
        | cons c r =>
          simp only [List.nil_append, List.cons_append, List.cons.injEq] at e
          exact absurd (e.1 ▸ List.mem_cons_self) hr
      | cons c p ih =>
        intro r x y hp hr e
        cases r with
        | nil =>
          simp only [List.nil_append, List.cons_append, List.cons.injEq] at e
          exact absurd (e.1 ▸ List.mem_cons_self) hp
        | cons d r =>
          simp only [List.cons_append, List.cons.injEq] at e
          obtain ⟨e1, e2⟩ := ih r x y (fun z => hp (List.mem_cons_of_mem _ z)) (fun z => hr (List.mem_cons_of_mem _ z)) e.2
          exact ⟨by rw [e.1, e1], e2⟩
    obtain ⟨e1, e2⟩ := key p r _ _ (ha p List.mem_cons_self) (hb r List.mem_cons_self) h
    have ih := jn_inj (a := q :: a) (b := t :: b) (fun x hx => ha x (List.mem_cons_of_mem _ hx)) (fun x hx => hb x (List.mem_cons_of_mem _ hx)) (by simp) (by simp) e2
    rw [e1, ih]
/-- what is told -/
inductive Tl where
  | word (z : List Nat)
  | fault (a b : List Nat)
  | ring (zs : List (List Nat))
  | waits (z : List Nat)
  | opn
  deriving DecidableEq
def Tl.kd : Tl → List Nat
  | .word _ => [119, 111, 114, 100]
  | .fault _ _ => [102, 97, 117, 108, 116]
  | .ring _ => [114, 105, 110, 103]
  | .waits _ => [119, 97, 105, 116, 115]
  | .opn => [111, 112, 101, 110]
def Tl.ws : Tl → List (List Nat)
  | .word z => [z]
  | .fault a b => [a, b]
  | .ring zs => zs
  | .waits z => [z]
  | .opn => []
def Tl.two : Tl → Bool
  | .fault _ _ => true
  | .ring _ => true
  | _ => false
def Tl.sure : Tl → Bool
  | .word _ => true
  | .fault _ _ => true
  | .ring _ => true
  | _ => false
def Tl.open? : Tl → Bool
  | .opn => true
  | _ => false
def byL : List Nat := [98, 121]
def tailW (ys : List (List Nat)) : List (List Nat) := if ys = [] then [] else byL :: ys
def rowW (t : Tl) (n : Int) (ys : List (List Nat)) : List (List Nat) := t.kd :: (t.ws ++ (nL n :: tailW ys))
def rowL (t : Tl) (n : Int) (ys : List (List Nat)) : List Nat := jn (rowW t n ys)
/-! ### their words, token by token -/
/-- a word's signs: a number, or a pair -/
inductive WTok : List Nat → List (List Nat) → Prop where
  | num {l : List Nat} (h : NumOk l) : WTok l [l]
  | two {l : List Nat} (h : NumOk l) : WTok (91 :: l ++ [32, 48, 93]) [91 :: l, [48, 93]]
  | four {l : List Nat} (h : NumOk l) : WTok ([91, 91, 49, 32] ++ l ++ [93, 32, 91, 50, 32, 51, 93, 93]) [[91, 91, 49], l ++ [93], [91, 50], [51, 93, 93]]
theorem WTok.jn {z : List Nat} {ts : List (List Nat)} (h : WTok z ts) : jn ts = z := by
  cases h <;> simp [U.jn]
/-- begins with a great letter -/
def Gr (l : List Nat) : Prop := NB l ∧ ∃ c r, l = c :: r ∧ c ∈ greats
inductive Shp : Tl → List (List Nat) → Prop where
  | word {z : List Nat} {ts : List (List Nat)} (h : WTok z ts) : Shp (.word z) ts
  | fault {a b : List Nat} (ha : NB a) (hb : NB b) : Shp (.fault a b) [a, b]
  | ring {zs : List (List Nat)} (h : ∀ z ∈ zs, Gr z) : Shp (.ring zs) zs
  | waits {z : List Nat} (h : NB z) : Shp (.waits z) [z]
  | opn : Shp .opn []
theorem num_nb {l : List Nat} (h : NumOk l) : NB l := by
  intro hm
  rcases h with rfl | ⟨d, ds, e, h1, _, h3⟩
  · simp at hm
  · have f1 : 32 ∉ figs1 := by decide
    have f2 : 32 ∉ figs := by decide
    rcases e with rfl | rfl
    · rcases List.mem_cons.mp hm with e | hm
      · exact f1 (e ▸ h1)
      · exact f2 (h3 _ hm)
    · rcases List.mem_cons.mp hm with e | hm
      · cases e
      · rcases List.mem_cons.mp hm with e | hm
        · exact f1 (e ▸ h1)
        · exact f2 (h3 _ hm)
/-- how a number begins -/
theorem num_head {l : List Nat} (h : NumOk l) : ∃ c r, l = c :: r ∧ (c = 45 ∨ c ∈ figs) := by
  rcases h with rfl | ⟨d, ds, e, h1, _, h3⟩
  · exact ⟨48, [], rfl, .inr (by decide)⟩
  · have f1 : ∀ c ∈ figs1, c ∈ figs := by decide
    rcases e with rfl | rfl
    · exact ⟨d, ds, rfl, .inr (f1 d h1)⟩
    · exact ⟨45, _, rfl, .inl rfl⟩
theorem WTok.nb {z : List Nat} {ts : List (List Nat)} (h : WTok z ts) : ∀ x ∈ ts, NB x := by
  cases h with
  | num h =>
    intro x hx
    rw [List.mem_singleton.mp hx]
    exact num_nb h
  | @two l h =>
    have n := num_nb h
    unfold NB at n ⊢
    intro x hx
    simp only [List.mem_cons, List.not_mem_nil, or_false] at hx
    rcases hx with rfl | rfl <;> simp [n]
  | @four l h =>
    have n := num_nb h
    unfold NB at n ⊢
    intro x hx
    simp only [List.mem_cons, List.not_mem_nil, or_false] at hx
    rcases hx with rfl | rfl | rfl | rfl <;> simp [n]
theorem Shp.nb {t : Tl} {ts : List (List Nat)} (h : Shp t ts) : ∀ x ∈ ts, NB x := by
  cases h with
  | word h => exact h.nb
  | fault ha hb =>
    intro x hx
    simp only [List.mem_cons, List.not_mem_nil, or_false] at hx
    rcases hx with rfl | rfl
    · exact ha
    · exact hb
  | ring h => exact fun x hx => (h x hx).1
  | waits h =>
    intro x hx
    rw [List.mem_singleton.mp hx]
    exact h
  | opn => exact fun x hx => by simp at hx
theorem kd_nb (t : Tl) : NB t.kd := by cases t <;> simp [NB, Tl.kd]
/-- the row's words, token by token -/
theorem Shp.row {t : Tl} {ts : List (List Nat)} (h : Shp t ts) (n : Int) (ys : List (List Nat)) : rowL t n ys = jn (t.kd :: (ts ++ (nL n :: tailW ys))) := by
  unfold rowL rowW
  cases h with
  | @word z ts h =>
    have hj := h.jn
    have hne : ts ≠ [] := by cases h <;> simp
    show jn ([_] ++ ([z] ++ (nL n :: tailW ys))) = jn ([_] ++ (ts ++ (nL n :: tailW ys)))
    rw [jn_app _ _ (by simp) (by simp), jn_app _ (ts ++ _) (by simp [hne]) (by simp), jn_app [z] _ (by simp) (by simp), jn_app ts _ (by simp) hne, hj]
    simp [jn]
  | fault ha hb => rfl
  | ring h => rfl
  | waits h => rfl
  | opn => rfl
theorem kd_same {t u : Tl} (h : t.kd = u.kd) : t.kd = u.kd ∧ ((∃ a b, t = .word a ∧ u = .word b) ∨ (∃ a b c d, t = .fault a b ∧ u = .fault c d) ∨ (∃ a b, t = .ring a ∧ u = .ring b) ∨ (∃ a b, t = .waits a ∧ u = .waits b) ∨ (t = .opn ∧ u = .opn)) := by
  refine ⟨h, ?_⟩
  cases t <;> cases u <;> first | simp [Tl.kd] at h; done | skip
  · exact .inl ⟨_, _, rfl, rfl⟩
  · exact .inr (.inl ⟨_, _, _, _, rfl, rfl⟩)
  · exact .inr (.inr (.inl ⟨_, _, rfl, rfl⟩))
  · exact .inr (.inr (.inr (.inl ⟨_, _, rfl, rfl⟩)))
  · exact .inr (.inr (.inr (.inr ⟨rfl, rfl⟩)))
theorem wtok_same {z1 z2 : List Nat} {t1 t2 r1 r2 : List (List Nat)} (h1 : WTok z1 t1) (h2 : WTok z2 t2) (e : t1 ++ r1 = t2 ++ r2) : z1 = z2 ∧ r1 = r2 := by
  have ff : ∀ {l m : List Nat}, NumOk l → l = 91 :: m → False := fun {l m} h e => by
    obtain ⟨c, r, h3, h4⟩ := num_head h
    rw [e] at h3
    injection h3 with h3 _
    rcases h4 with h4 | h4
    · omega
    · rw [← h3] at h4
      revert h4
      decide
  cases h1 with
  | num h1 =>
    cases h2 with
    | num h2 =>
      simp only [List.cons_append, List.nil_append, List.cons.injEq] at e
      exact e
    | two h2 =>
      simp only [List.cons_append, List.nil_append, List.cons.injEq] at e
      exact (ff h1 e.1).elim
    | four h2 =>
      simp only [List.cons_append, List.nil_append, List.cons.injEq] at e
      exact (ff h1 e.1).elim
  | two h1 =>
    cases h2 with
    | num h2 =>
      simp only [List.cons_append, List.nil_append, List.cons.injEq] at e
      exact (ff h2 e.1.symm).elim
    | two h2 =>
      simp only [List.cons_append, List.nil_append, List.cons.injEq, true_and] at e
      exact ⟨by rw [e.1], e.2⟩
    | four h2 =>
      simp only [List.cons_append, List.nil_append, List.cons.injEq, true_and] at e
      exact (ff h1 e.1).elim
  | four h1 =>
    cases h2 with
    | num h2 =>
      simp only [List.cons_append, List.nil_append, List.cons.injEq] at e
      exact (ff h2 e.1.symm).elim
    | two h2 =>
      simp only [List.cons_append, List.nil_append, List.cons.injEq, true_and] at e
      exact (ff h2 e.1.symm).elim
    | four h2 =>
      simp only [List.cons_append, List.nil_append, List.cons.injEq, true_and] at e
      have := List.append_cancel_right e.1
      exact ⟨by rw [this], e.2⟩
theorem ring_same : ∀ {z1 z2 : List (List Nat)} {n1 n2 : List Nat} {r1 r2 : List (List Nat)}, (∀ z ∈ z1, Gr z) → (∀ z ∈ z2, Gr z) → NumOk n1 → NumOk n2 → z1 ++ n1 :: r1 = z2 ++ n2 :: r2 → z1 = z2 ∧ n1 :: r1 = n2 :: r2
  | [], [], _, _, _, _, _, _, _, _, e => ⟨rfl, e⟩
  | [], y :: z2, n1, _, _, _, _, h2, o1, _, e => by
    simp only [List.nil_append, List.cons_append, List.cons.injEq] at e
    obtain ⟨_, c, r, e1, hc⟩ := h2 y List.mem_cons_self
    obtain ⟨d, s, e2, hd⟩ := num_head o1
    rw [e.1, e1] at e2
    injection e2 with e2 _
    subst e2
    have g1 : ∀ c ∈ greats, 65 ≤ c := by decide
    have g2 : ∀ c ∈ figs, c < 58 := by decide
    have := g1 c hc
    rcases hd with hd | hd
    · omega
    · have := g2 c hd
      omega
  | x :: z1, [], _, n2, _, _, h1, _, _, o2, e => by
    simp only [List.nil_append, List.cons_append, List.cons.injEq] at e
    obtain ⟨_, c, r, e1, hc⟩ := h1 x List.mem_cons_self
    obtain ⟨d, s, e2, hd⟩ := num_head o2
    rw [← e.1, e1] at e2
    injection e2 with e2 _
    subst e2
    have g1 : ∀ c ∈ greats, 65 ≤ c := by decide
    have g2 : ∀ c ∈ figs, c < 58 := by decide
    have := g1 c hc
    rcases hd with hd | hd
    · omega
    · have := g2 c hd
      omega
  | x :: z1, y :: z2, _, _, _, _, h1, h2, o1, o2, e => by
    simp only [List.cons_append, List.cons.injEq] at e
    obtain ⟨e1, e2⟩ := ring_same (fun z hz => h1 z (List.mem_cons_of_mem _ hz)) (fun z hz => h2 z (List.mem_cons_of_mem _ hz)) o1 o2 e.2
    exact ⟨by rw [e.1, e1], e2⟩
theorem tail_inj {a b : List (List Nat)} (h : tailW a = tailW b) : a = b := by
  unfold tailW at h
  by_cases h1 : a = []
  · by_cases h2 : b = []
    · rw [h1, h2]
    · rw [if_pos h1, if_neg h2] at h
      cases h
  · by_cases h2 : b = []
    · rw [if_neg h1, if_pos h2] at h
      cases h
    · rw [if_neg h1, if_neg h2] at h
      injection h
theorem row_inj {t u : Tl} {ts us : List (List Nat)} {n m : Nat} {xs ys : List (List Nat)} (ht : Shp t ts) (hu : Shp u us) (hn : n < 10 ^ 9) (hm : m < 10 ^ 9) (hx : ∀ x ∈ xs, NB x) (hy : ∀ y ∈ ys, NB y) (e : rowL t n xs = rowL u m ys) : t = u ∧ n = m ∧ xs = ys := by
  have on : NumOk (nL (n : Int)) := nL_ok (by omega)
  have om : NumOk (nL (m : Int)) := nL_ok (by omega)
  have tb : ∀ {a : List (List Nat)}, (∀ x ∈ a, NB x) → ∀ x ∈ tailW a, NB x := fun {a} h x hx => by
    unfold tailW at hx
    split at hx
    · simp at hx
    · rcases List.mem_cons.mp hx with rfl | hx
      · simp [NB, byL]
      · exact h x hx
  rw [ht.row, hu.row] at e
  have all : ∀ {t : Tl} {ts : List (List Nat)} {k : Int} {a : List (List Nat)}, Shp t ts → NumOk (nL k) → (∀ x ∈ a, NB x) → ∀ x ∈ t.kd :: (ts ++ (nL k :: tailW a)), NB x := fun {t ts k a} h o ha x hx => by
    rcases List.mem_cons.mp hx with rfl | hx
    · exact kd_nb t
    · rcases List.mem_append.mp hx with hx | hx
      · exact h.nb x hx
      · rcases List.mem_cons.mp hx with rfl | hx
        · exact num_nb o
        · exact tb ha x hx
  have e := jn_inj (all ht on hx) (all hu om hy) (by simp) (by simp) e
  injection e with e1 e2
  have fin : t = u → nL (n : Int) :: tailW xs = nL (m : Int) :: tailW ys → t = u ∧ n = m ∧ xs = ys := fun h1 h2 => by
    injection h2 with h2 h3
    exact ⟨h1, nL_inj h2, tail_inj h3⟩
  rcases (kd_same e1).2 with ⟨a, b, rfl, rfl⟩ | ⟨a, b, c, d, rfl, rfl⟩ | ⟨a, b, rfl, rfl⟩ | ⟨a, b, rfl, rfl⟩ | ⟨rfl, rfl⟩
  · cases ht with
    | word ht =>
      cases hu with
      | word hu =>
        obtain ⟨e3, e4⟩ := wtok_same ht hu e2
        exact fin (by rw [e3]) e4
  · cases ht
    cases hu
    simp only [List.cons_append, List.nil_append, List.cons.injEq] at e2
    exact fin (by rw [e2.1, e2.2.1]) (by rw [e2.2.2.1, e2.2.2.2])
  · cases ht with
    | ring ht =>
      cases hu with
      | ring hu =>
        obtain ⟨e3, e4⟩ := ring_same ht hu on om e2
        exact fin (by rw [e3]) e4
  · cases ht
    cases hu
    simp only [List.cons_append, List.nil_append, List.cons.injEq] at e2
    exact fin (by rw [e2.1]) (by rw [e2.2.1, e2.2.2])
  · cases ht
    cases hu
    exact fin rfl e2
end U

set_option Elab.async false
set_option linter.all false
set_option maxRecDepth 100000
set_option maxHeartbeats 4000000
namespace U
open PySem PySem.Spec PyProof.Rows L2
theorem rising_le : ∀ (l : List Str) (p : Str), risingS p l = true → (∀ y ∈ l, p.cps.toList ≤ y.cps.toList) ∧ sortedS l = true
  | [], _, _ => ⟨fun y hy => by simp at hy, rfl⟩
  | x :: r, p, h => by
    have h' : (!ltCps x.cps.toList p.cps.toList && risingS x r) = true := h
    rw [Bool.and_eq_true] at h'
    obtain ⟨h1, h2⟩ := h'
    rw [ltCps_eq] at h1
    have px : p.cps.toList ≤ x.cps.toList := by
      refine List.not_lt.mp ?_
      simpa using h1
    obtain ⟨h3, _⟩ := rising_le r x h2
    refine ⟨fun y hy => ?_, h2⟩
    rcases List.mem_cons.mp hy with rfl | hy
    · exact px
    · exact List.le_trans px (h3 y hy)
theorem sorted_cons {x : Str} {r : List Str} (h : sortedS (x :: r) = true) : (∀ y ∈ r, x.cps.toList ≤ y.cps.toList) ∧ sortedS r = true := rising_le r x h
theorem sorted_unique : ∀ {a b : List (List Nat)}, a.Perm b → sortedS (a.map tx) = true → sortedS (b.map tx) = true → a = b
  | [], b, p, _, _ => (List.nil_perm.mp p).symm
  | x :: a, [], p, _, _ => absurd p.length_eq (by simp)
  | x :: a, y :: b, p, ha, hb => by
    obtain ⟨a1, a2⟩ := sorted_cons ha
    obtain ⟨b1, b2⟩ := sorted_cons hb
    have le1 : x ≤ y := by
      have : y ∈ x :: a := p.mem_iff.mpr List.mem_cons_self
      rcases List.mem_cons.mp this with e | h
      · rw [e]
        exact List.le_refl _
      · have := a1 (tx y) (List.mem_map.mpr ⟨y, h, rfl⟩)
        simpa using this
    have le2 : y ≤ x := by
      have : x ∈ y :: b := p.mem_iff.mp List.mem_cons_self
      rcases List.mem_cons.mp this with e | h
      · rw [e]
        exact List.le_refl _
      · have := b1 (tx x) (List.mem_map.mpr ⟨x, h, rfl⟩)
        simpa using this
    have e : x = y := List.le_antisymm le1 le2
    subst e
    rw [sorted_unique (p.cons_inv) a2 b2]
end U

set_option Elab.async false
set_option linter.all false
set_option maxRecDepth 100000
set_option maxHeartbeats 4000000
namespace K
open PySem PySem.Spec PyProof.Rows L2 U SkE
def topS (i : Nat) : Stmt := PySem.Challenge.pw_unwritparts_k08_tellings_told.main.body.getD i (.Pass ⟨0, 0, 0, 0⟩)
abbrev s_Telling___init__ : Stmt := inClass (topS 2) 0
abbrev nm_Telling___init__ : List Str := ["self", "kind", "what", "steps", "known"]
theorem sc_Telling___init__ : FnScope nm_Telling___init__ ["self", "kind", "what", "steps", "known"] (defScope s_Telling___init__) := ⟨rfl, rfl, rfl, by decide +kernel, rfl, by decide +kernel, by decide +kernel⟩
abbrev s_Telling_is_sure : Stmt := inClass (topS 2) 1
abbrev nm_Telling_is_sure : List Str := ["self"]
theorem sc_Telling_is_sure : FnScope nm_Telling_is_sure ["self"] (defScope s_Telling_is_sure) := ⟨rfl, rfl, rfl, by decide +kernel, rfl, by decide +kernel, by decide +kernel⟩
abbrev s_Telling___eq__ : Stmt := inClass (topS 2) 2
abbrev nm_Telling___eq__ : List Str := ["self", "other"]
theorem sc_Telling___eq__ : FnScope nm_Telling___eq__ ["self", "other"] (defScope s_Telling___eq__) := ⟨rfl, rfl, rfl, by decide +kernel, rfl, by decide +kernel, by decide +kernel⟩
abbrev s_Telling___len__ : Stmt := inClass (topS 2) 3
abbrev nm_Telling___len__ : List Str := ["self"]
theorem sc_Telling___len__ : FnScope nm_Telling___len__ ["self"] (defScope s_Telling___len__) := ⟨rfl, rfl, rfl, by decide +kernel, rfl, by decide +kernel, by decide +kernel⟩
abbrev s_Telling___str__ : Stmt := inClass (topS 2) 4
abbrev nm_Telling___str__ : List Str := ["self"]
theorem sc_Telling___str__ : FnScope nm_Telling___str__ ["self"] (defScope s_Telling___str__) := ⟨rfl, rfl, rfl, by decide +kernel, rfl, by decide +kernel, by decide +kernel⟩
abbrev s_Telling___repr__ : Stmt := inClass (topS 2) 5
abbrev nm_Telling___repr__ : List Str := ["self"]
theorem sc_Telling___repr__ : FnScope nm_Telling___repr__ ["self"] (defScope s_Telling___repr__) := ⟨rfl, rfl, rfl, by decide +kernel, rfl, by decide +kernel, by decide +kernel⟩
abbrev s_words_of : Stmt := topS 3
abbrev nm_words_of : List Str := ["kind", "what", "steps", "known", "words"]
theorem sc_words_of : FnScope nm_words_of ["kind", "what", "steps", "known"] (defScope s_words_of) := ⟨rfl, rfl, rfl, by decide +kernel, rfl, by decide +kernel, by decide +kernel⟩
abbrev s__law_purse : Stmt := topS 5
abbrev nm__law_purse : List Str := ["_law_script", "_law_at", "_law_cell", "_law_far"]
theorem sc__law_purse : FnScope nm__law_purse ["_law_script", "_law_at"] (defScope s__law_purse) := ⟨rfl, rfl, rfl, by decide +kernel, rfl, by decide +kernel, by decide +kernel⟩
abbrev s__law_take : Stmt := topS 6
abbrev nm__law_take : List Str := ["_law_purse_here", "_law_many", "_law_digit", "_law_primes", "_law_step", "_law_base", "_law_mixed"]
theorem sc__law_take : FnScope nm__law_take ["_law_purse_here", "_law_many"] (defScope s__law_take) := ⟨rfl, rfl, rfl, by decide +kernel, rfl, by decide +kernel, by decide +kernel⟩
abbrev s__law_names : Stmt := topS 7
abbrev nm__law_names : List Str := ["_law_purse_here", "_law_many", "_law_signs", "_law_wide", "_law_base", "_law_at", "_law_first", "_law_k"]
theorem sc__law_names : FnScope nm__law_names ["_law_purse_here", "_law_many", "_law_signs", "_law_wide"] (defScope s__law_names) := ⟨rfl, rfl, rfl, by decide +kernel, rfl, by decide +kernel, by decide +kernel⟩
abbrev s__law_drawn : Stmt := topS 8
abbrev nm__law_drawn : List Str := ["_law_purse_here", "_law_parts", "_law_word_of", "_law_knots", "_law_number", "_law_word", "_law_fault", "_law_told_of", "_law_set_of", "_law_k"]
theorem sc__law_drawn : FnScope nm__law_drawn ["_law_purse_here"] (defScope s__law_drawn) := ⟨rfl, rfl, rfl, by decide +kernel, rfl, by decide +kernel, by decide +kernel⟩
abbrev s__law_text : Stmt := topS 9
abbrev nm__law_text : List Str := ["_law_word_of", "_law_told_of", "_law_many", "_law_set_of", "_law_words"]
theorem sc__law_text : FnScope nm__law_text ["_law_word_of", "_law_told_of", "_law_many", "_law_set_of"] (defScope s__law_text) := ⟨rfl, rfl, rfl, by decide +kernel, rfl, by decide +kernel, by decide +kernel⟩
abbrev s__law_right : Stmt := topS 10
abbrev nm__law_right : List Str := ["_law_drawn_here", "_law_word_of", "_law_told_of", "_law_many", "_law_set_of", "_law_handed", "_law_made", "_law_told", "_law_sure", "_law_text_here", "_law_thing"]
theorem sc__law_right : FnScope nm__law_right ["_law_drawn_here"] (defScope s__law_right) := ⟨rfl, rfl, rfl, by decide +kernel, rfl, by decide +kernel, by decide +kernel⟩
abbrev s_law : Stmt := topS 11
abbrev nm_law : List Str := ["_law_script", "_law_k", "_law_purse_here", "_law_one", "_law_other", "_law_first", "_law_second", "_law_more", "_law_row"]
theorem sc_law : FnScope nm_law ["_law_script"] (defScope s_law) := ⟨rfl, rfl, rfl, by decide +kernel, rfl, by decide +kernel, by decide +kernel⟩
structure TxtB (K : PySem.W.Frag) (mg : Str → Option Value) : Prop where
  z_abs : mg "abs" = none
  z_any : mg "any" = none
  z_bool : mg "bool" = none
  z_int : mg "int" = none
  z_isinstance : mg "isinstance" = none
  z_len : mg "len" = none
  z_list : mg "list" = none
  z_max : mg "max" = none
  z_min : mg "min" = none
  z_range : mg "range" = none
  z_repr : mg "repr" = none
  z_set : mg "set" = none
  z_sorted : mg "sorted" = none
  z_str : mg "str" = none
  z_tuple : mg "tuple" = none
structure Txt (K : PySem.W.Frag) (mg : Str → Option Value) (dS : Addr) : Prop extends TxtB K mg where
  gS : mg "SURE" = some (.ref dS)
  S : ∀ H, SqT K H dS [.str (Str.ofString "word"), .str (Str.ofString "fault"), .str (Str.ofString "ring")]
theorem str_eq (a b : List Nat) : decide (V.str (tx a) = V.str (tx b)) = decide (a = b) := decide_eq_decide.mpr ⟨fun h => tx_inj (V.str.inj h), fun h => by rw [h]⟩
theorem upd_new {H G : Hp} {a : Addr} {o : HO} (n : H a = none) (h : Same H G) : Same H (upd G a o) := fun b u e => by
  rw [upd_ne (ne_of_none e n)]
  exact h b u e
/-- what of a telling -/
def WhatAt (H : Hp) (v : V) : Tl → Prop
  | .word z => v = .str (tx z)
  | .fault a b => ∃ t, v = .ref t ∧ H t = some (.tup [.str (tx a), .str (tx b)])
  | .ring zs => ∃ t, v = .ref t ∧ H t = some (.tup (zs.map fun z => V.str (tx z)))
  | .waits z => v = .str (tx z)
  | .opn => v = .non
theorem WhatAt.same {H H' : Hp} {v : V} {t : Tl} (h : WhatAt H v t) (s : Same H H') : WhatAt H' v t := by
  cases t with
  | word z => exact h
  | fault a b =>
    obtain ⟨t, e, h⟩ := h
    exact ⟨t, e, s _ _ h⟩
  | ring zs =>
    obtain ⟨t, e, h⟩ := h
    exact ⟨t, e, s _ _ h⟩
  | waits z => exact h
  | opn => exact h
/-- what, where it is a tuple -/
theorem WhatAt.two {H : Hp} {v : V} {t : Tl} (h : WhatAt H v t) (e : t.two = true) : ∃ a, v = .ref a ∧ H a = some (.tup (t.ws.map fun z => V.str (tx z))) := by
  cases t with
  | word z => cases e
  | fault a b => exact h
  | ring zs => exact h
  | waits z => cases e
  | opn => cases e
theorem WhatAt.one {H : Hp} {v : V} {t : Tl} (h : WhatAt H v t) (e : t.two = false) (e2 : t.open? = false) : ∃ z, v = .str (tx z) ∧ t.ws = [z] := by
  cases t with
  | word z => exact ⟨z, h, rfl⟩
  | fault a b => cases e
  | ring zs => cases e
  | waits z => exact ⟨z, h, rfl⟩
  | opn => cases e2
theorem kd_two (t : Tl) : inV (V.str (tx t.kd)) [V.str (Str.ofString "fault"), V.str (Str.ofString "ring")] = t.two := by cases t <;> (simp only [Tl.kd, Tl.two]; decide +kernel)
theorem kd_sure (t : Tl) : inV (V.str (tx t.kd)) [V.str (Str.ofString "word"), V.str (Str.ofString "fault"), V.str (Str.ofString "ring")] = t.sure := by cases t <;> (simp only [Tl.kd, Tl.sure]; decide +kernel)
theorem kd_open (t : Tl) : (!decide (V.str (tx t.kd) = V.str (Str.ofString "open"))) = !t.open? := by
  rw [show Str.ofString "open" = tx [111, 112, 101, 110] by decide +kernel, str_eq]
  cases t <;> rfl
theorem open_ws (t : Tl) (e : t.open? = true) : t.ws = [] := by cases t <;> first | rfl | cases e
theorem by_tx : Str.ofString "by" = tx byL := by decide +kernel
theorem log_num {i : Int} (h : i.natAbs < 10 ^ 9) : i.natAbs.log2 < 1920 := by
  by_cases h0 : i.natAbs = 0
  · rw [h0]
    decide
  · exact (Nat.log2_lt h0).mpr (Nat.lt_trans h (by decide))
def sts (l : List (List Nat)) : List V := l.map fun z => V.str (tx z)
theorem sts_app (a b : List (List Nat)) : sts a ++ sts b = sts (a ++ b) := (List.map_append ..).symm
def spWordsOf : Sp := fun vs H Q _ => ∃ (t : Tl) (wv : V) (n : Int) (ka : Addr) (ys : List (List Nat)), vs = [.str (tx t.kd), wv, .int n, .ref ka] ∧ WhatAt H wv t ∧ H ka = some (.tup (sts ys)) ∧ n.natAbs < 10 ^ 9 ∧ t.ws.length ≤ 100 ∧ ys.length ≤ 100 ∧
  ∀ r H', Same H H' → H r = none → H' r = some (.lst (sts (rowW t n ys))) → Q (.ref r) H'
section
variable {P : Program} {w : World} {K : PySem.W.Frag} {mg : Str → Option Value} {base : Heap} {dS : Addr} (T : Txt K mg dS)
include T
theorem ok_words_of {f : Addr} {fd : FuncData} (F : Fun K "words_of" "words_of" s_words_of f fd) : FnOk P w K mg base CX0 1 f fd ["kind", "what", "steps", "known"] spWordsOf := by
  refine F.ok sc_words_of (fun vs H Q E h => ?_) (fun cdv A outer s H vs Q E hr h => ?_)
  · obtain ⟨t, wv, n, ka, ys, rfl, _⟩ := h
    rfl
  · obtain ⟨t, wv, n, ka, ys, rfl, wa, hk, hn, lw, ly, q⟩ := h
    refine ⟨_, (pss_cons (ps_set (i := 4) sc_words_of.nd rfl (.inl rfl) (pe_lst (pa_cons (pv 0) pa_nil)))
      (Evl.pss_cut (ps_if (pt_cmpR op_in_seq (pv 0) (pe_tup (pa_cons pe_str (pa_cons pe_str pa_nil))) (by rfl)) 
        (pss_one (ps_expr (pe_bm PySem.F.plainAttrs_list PySem.F.slot_list_extend PySem.F.type_list_extend mt_extendT (pv 4) (pa_cons (pv 1) pa_nil)))) 
        (pss_one (ps_if (pt_cmpR op_ne (pv 0) pe_str (nomark _)) 
          (pss_one (ps_expr (pe_bm PySem.F.plainAttrs_list PySem.F.slot_list_append PySem.F.type_list_append mt_append (pv 4) (pa_cons (pv 1) pa_nil)))) pss_nil)))
      (pss_cons (ps_expr (pe_bm PySem.F.plainAttrs_list PySem.F.slot_list_append PySem.F.type_list_append mt_append (pv 4) (pa_cons (pe_callTy call_str_int (by rfl) T.z_str (by decide +kernel) (pa_cons (pv 2) pa_nil)) pa_nil)))
      (pss_cons (ps_if (pt_truth (pv 3) (by intro _; rfl)) 
        (pss_cons (ps_expr (pe_bm PySem.F.plainAttrs_list PySem.F.slot_list_append PySem.F.type_list_append mt_append (pv 4) (pa_cons pe_str pa_nil)))
        (pss_one (ps_expr (pe_bm PySem.F.plainAttrs_list PySem.F.slot_list_extend PySem.F.type_list_extend mt_extendT (pv 4) (pa_cons (pv 3) pa_nil))))) pss_nil)
      (pss_one (ps_ret (pv 4))))))), ?_⟩
    refine ⟨_, rfl, sizeLine_ge (by show 1 ≤ 10000; decide), fun aF hF => ?_⟩
    have s0 : Same H (upd H aF (.lst [.str (tx t.kd)])) := same_new hF
    have e0 : (upd H aF (.lst [.str (tx t.kd)])) aF = some (.lst (sts [t.kd])) := upd_same
    generalize upd H aF (.lst [.str (tx t.kd)]) = H0 at s0 e0 ⊢
    refine ⟨fun σ H' => σ = [some (.str (tx t.kd)), some wv, some (.int n), some (.ref ka), some (.ref aF)] ∧ Same H H' ∧ H' aF = some (.lst (sts (t.kd :: t.ws))), ?_, ?_⟩
    · refine ⟨_, rfl, sizeLine_ge (by show 2 ≤ 10000; decide), fun tt htt => ⟨tt, _, rfl, .inr (.inl (.inl upd_same)), rfl, rfl, _, rfl, ?_⟩⟩
      rw [show (if false = true then !inV (V.str (tx t.kd)) [V.str (Str.ofString "fault"), V.str (Str.ofString "ring")] else inV (V.str (tx t.kd)) [V.str (Str.ofString "fault"), V.str (Str.ofString "ring")]) = t.two by rw [if_neg (by decide), kd_two]]
      have s1 : Same H0 (upd H0 tt (.tup [.str (Str.ofString "fault"), .str (Str.ofString "ring")])) := same_new htt
      generalize upd H0 tt (.tup [.str (Str.ofString "fault"), .str (Str.ofString "ring")]) = H1 at s1 ⊢
      have s01 := s0.trans s1
      have e1 := s1 _ _ e0
      cases h2 : t.two with
      | true =>
        obtain ⟨wt, rfl, ew⟩ := wa.two h2
        refine iteT ⟨_, rfl, .inl ⟨rfl, _, .inl (.inl e1)⟩, _, rfl, aF, wt, _, _, rfl, rfl, e1, .inl (.inl (s01 _ _ ew)), ?_, rfl, upd_new hF s01, ?_⟩
        · have : (sts [t.kd]).length = 1 := rfl
          rw [this, List.length_map]
          exact sizeLine_ge (by omega)
        · rw [upd_same]
          rfl
      | false =>
        refine iteF ⟨_, rfl, rfl, _, rfl, ?_⟩
        rw [kd_open]
        cases h3 : t.open? with
        | true => exact iteF ⟨rfl, s01, by rw [e1, open_ws t h3]⟩
        | false =>
          obtain ⟨z, rfl, ew⟩ := wa.one h2 h3
          refine iteT ⟨_, rfl, .inl ⟨rfl, _, .inl (.inl e1)⟩, _, rfl, aF, _, _, rfl, rfl, e1, sizeLine_ge (by show 1 + 1 ≤ 10000; decide), rfl, upd_new hF s01, ?_⟩
          rw [upd_same, ew]
          rfl
    · rintro σ H1 ⟨rfl, s1, e1⟩
      refine ⟨_, rfl, .inl ⟨rfl, _, .inl (.inl e1)⟩, _, rfl, _, rfl, log_num hn, aF, _, _, rfl, rfl, e1, ?_, ?_⟩
      · show (sts (t.kd :: t.ws)).length < sizeLine
        rw [sts, List.length_map, List.length_cons]
        exact sizeLine_ge (by omega)
      have e2 : (upd H1 aF (.lst (sts (t.kd :: t.ws) ++ [.str (Str.ofString (toString n))]))) aF = some (.lst (sts (t.kd :: (t.ws ++ [nL n])))) := by
        rw [upd_same, nL_tx, show [V.str (tx (nL n))] = sts [nL n] from rfl, sts_app]
        rfl
      have s2 : Same H (upd H1 aF (.lst (sts (t.kd :: t.ws) ++ [.str (Str.ofString (toString n))]))) := upd_new hF s1
      generalize upd H1 aF (.lst (sts (t.kd :: t.ws) ++ [.str (Str.ofString (toString n))])) = H2 at e2 s2 ⊢
      have k2 := s2 _ _ hk
      by_cases hy : ys = []
      · refine ⟨_, rfl, false, .inr (.inl ⟨_, .inl (.inl k2), by rw [hy]; rfl⟩), iteF ⟨_, rfl, q aF H2 s2 hF ?_⟩⟩
        rw [e2, rowW, tailW, if_pos hy]
      · refine ⟨_, rfl, true, .inr (.inl ⟨_, .inl (.inl k2), by cases ys with | nil => exact absurd rfl hy | cons y ys => rfl⟩), iteT ?_⟩
        refine ⟨_, rfl, .inl ⟨rfl, _, .inl (.inl e2)⟩, aF, _, _, rfl, rfl, e2, ?_, ?_⟩
        · rw [sts, List.length_map, List.length_cons, List.length_append]
          exact sizeLine_ge (by show t.ws.length + 1 + 1 + 1 ≤ 10000; omega)
        have e3 : (upd H2 aF (.lst (sts (t.kd :: (t.ws ++ [nL n])) ++ [.str (Str.ofString "by")]))) aF = some (.lst (sts (t.kd :: (t.ws ++ [nL n, byL])))) := by
          rw [upd_same, by_tx, show [V.str (tx byL)] = sts [byL] from rfl, sts_app]
          simp
        have s3 : Same H (upd H2 aF (.lst (sts (t.kd :: (t.ws ++ [nL n])) ++ [.str (Str.ofString "by")]))) := upd_new hF s2
        generalize upd H2 aF (.lst (sts (t.kd :: (t.ws ++ [nL n])) ++ [.str (Str.ofString "by")])) = H3 at e3 s3 ⊢
        refine ⟨_, rfl, .inl ⟨rfl, _, .inl (.inl e3)⟩, _, rfl, aF, ka, _, _, rfl, rfl, e3, .inl (.inl (s3 _ _ hk)), ?_, _, rfl, q aF _ (upd_new hF s3) hF ?_⟩
        · rw [sts, sts, List.length_map, List.length_map, List.length_cons, List.length_append]
          exact sizeLine_ge (by show t.ws.length + 2 + 1 + ys.length ≤ 10000; omega)
        · rw [upd_same, sts_app, rowW, tailW, if_neg hy]
          simp
end
end K


set_option Elab.async false
set_option linter.all false
set_option maxRecDepth 100000
set_option maxHeartbeats 4000000
namespace K
open PySem PySem.Spec PyProof.Rows L2 U SkE
def tellF (k wh st kn row : V) : List (Str × V) := putF "_row" row (putF "known" kn (putF "steps" st (putF "what" wh (putF "kind" k []))))
section
variable (k wh st kn row : V)
theorem lF_kind : (tellF k wh st kn row).lookup ("kind" : Str) = some k := by
  unfold tellF
  rw [lookup_putF, if_neg (by decide +kernel), lookup_putF, if_neg (by decide +kernel), lookup_putF, if_neg (by decide +kernel), lookup_putF, if_neg (by decide +kernel), lookup_putF, if_pos rfl]
theorem lF_what : (tellF k wh st kn row).lookup ("what" : Str) = some wh := by
  unfold tellF
  rw [lookup_putF, if_neg (by decide +kernel), lookup_putF, if_neg (by decide +kernel), lookup_putF, if_neg (by decide +kernel), lookup_putF, if_pos rfl]
theorem lF_steps : (tellF k wh st kn row).lookup ("steps" : Str) = some st := by
  unfold tellF
  rw [lookup_putF, if_neg (by decide +kernel), lookup_putF, if_neg (by decide +kernel), lookup_putF, if_pos rfl]
theorem lF_known : (tellF k wh st kn row).lookup ("known" : Str) = some kn := by
  unfold tellF
  rw [lookup_putF, if_neg (by decide +kernel), lookup_putF, if_pos rfl]
theorem lF_row : (tellF k wh st kn row).lookup ("_row" : Str) = some row := by
  unfold tellF
  rw [lookup_putF, if_pos rfl]
theorem lF_sure : (tellF k wh st kn row).lookup ("is_sure" : Str) = none := by
  unfold tellF
  rw [lookup_putF, if_neg (by decide +kernel), lookup_putF, if_neg (by decide +kernel), lookup_putF, if_neg (by decide +kernel), lookup_putF, if_neg (by decide +kernel), lookup_putF, if_neg (by decide +kernel)]
  rfl
end
/-- the class Telling as the top has made it -/
structure TelC (K : PySem.W.Frag) (C : Addr) : Prop where
  cl : Cls K C
  nk : NoAttr K C "kind"
  nw : NoAttr K C "what"
  ns : NoAttr K C "steps"
  nn : NoAttr K C "known"
  nr : NoAttr K C "_row"
/-- a Telling at p -/
def TellAt (CT : Addr) (H : Hp) (p : Addr) (t : Tl) (n : Int) (ys : List (List Nat)) : Prop := ∃ dx wv kt, H p = some (.ins CT dx (tellF (.str (tx t.kd)) wv (.int n) (.ref kt) (.str (tx (rowL t n ys))))) ∧ WhatAt H wv t ∧ H kt = some (.tup (sts ys))
theorem TellAt.same {CT : Addr} {H H' : Hp} {p : Addr} {t : Tl} {n : Int} {ys : List (List Nat)} (h : TellAt CT H p t n ys) (s : Same H H') : TellAt CT H' p t n ys := by
  obtain ⟨dx, wv, kt, h1, h2, h3⟩ := h
  exact ⟨dx, wv, kt, s _ _ h1, h2.same s, s _ _ h3⟩
theorem TellAt.some {CT : Addr} {H : Hp} {p : Addr} {t : Tl} {n : Int} {ys : List (List Nat)} (h : TellAt CT H p t n ys) : ∃ dx wv kt, H p = some (.ins CT dx (tellF (.str (tx t.kd)) wv (.int n) (.ref kt) (.str (tx (rowL t n ys))))) := by
  obtain ⟨dx, wv, kt, h1, h2, h3⟩ := h
  exact ⟨dx, _, _, h1⟩
theorem WhatAt.but {H H' : Hp} {p C dx : Addr} {fs : List (Str × V)} {v : V} {t : Tl} (h : WhatAt H v t) (hp : H p = some (.ins C dx fs)) (b : But p H H') : WhatAt H' v t := by
  cases t with
  | word z => exact h
  | fault a b' =>
    obtain ⟨t, e, h⟩ := h
    exact ⟨t, e, b _ _ h (ne_of h hp (by intro z; cases z))⟩
  | ring zs =>
    obtain ⟨t, e, h⟩ := h
    exact ⟨t, e, b _ _ h (ne_of h hp (by intro z; cases z))⟩
  | waits z => exact h
  | opn => exact h
theorem perm_tx {zs : List Str} {xs : List (List Nat)} (h : zs.Perm (xs.map tx)) : ∃ ys : List (List Nat), zs = ys.map tx ∧ ys.Perm xs := by
  refine ⟨zs.map (·.cps.toList), ?_, ?_⟩
  · rw [List.map_map]
    refine ((List.map_congr_left fun z _ => ?_).trans (List.map_id zs)).symm
    exact (tx_of z).symm
  · have := h.map (·.cps.toList)
    rw [List.map_map, show ((fun x : Str => x.cps.toList) ∘ tx) = id from funext fun l => by simp, List.map_id] at this
    exact this
/-- names for the set, in a list, a tuple, a written tuple -/
def KnAt (K : PySem.W.Frag) (H : Hp) (a : Addr) (xs : List (List Nat)) : Prop := H a = some (.lst (sts xs)) ∨ H a = some (.tup (sts xs)) ∨ ∀ H, SqT K H a (sts xs)
theorem KnAt.but {K : PySem.W.Frag} {H H' : Hp} {p C dx a : Addr} {fs : List (Str × V)} {xs : List (List Nat)} (h : KnAt K H a xs) (hp : H p = some (.ins C dx fs)) (b : But p H H') : KnAt K H' a xs := by
  rcases h with h | h | h
  · exact .inl (b _ _ h (ne_of h hp (by intro z; cases z)))
  · exact .inr (.inl (b _ _ h (ne_of h hp (by intro z; cases z))))
  · exact .inr (.inr h)
theorem KnAt.sq {K : PySem.W.Frag} {H : Hp} {a : Addr} {xs : List (List Nat)} (h : KnAt K H a xs) : SqL K H a ((xs.map tx).map V.str) ∨ SqT K H a ((xs.map tx).map V.str) := by
  have e : (xs.map tx).map V.str = sts xs := by rw [List.map_map]; rfl
  rw [e]
  rcases h with h | h | h
  · exact .inl (.inl (.inl h))
  · exact .inr (.inl (.inl h))
  · exact .inr (h H)
/-- not too long for a row -/
structure Short (t : Tl) (xs : List (List Nat)) : Prop where
  lw : t.ws.length ≤ 100
  sw : (t.ws.map List.length).sum ≤ 1000
  lx : xs.length ≤ 50
  sx : ∀ x ∈ xs, x.length ≤ 20
theorem kd_len (t : Tl) : t.kd.length ≤ 5 := by cases t <;> simp [Tl.kd]
theorem sum_le20 : ∀ {xs : List (List Nat)}, (∀ x ∈ xs, x.length ≤ 20) → (xs.map List.length).sum ≤ 20 * xs.length
  | [], _ => Nat.le_refl _
  | x :: xs, h => by
    have h1 := h x List.mem_cons_self
    have h2 := sum_le20 fun y hy => h y (List.mem_cons_of_mem _ hy)
    rw [List.map_cons, List.sum_cons, List.length_cons]
    omega
theorem Short.row {t : Tl} {xs : List (List Nat)} (h : Short t xs) {n : Int} (hn : n.natAbs < 10 ^ 9) : ((rowW t n xs).map List.length).sum ≤ 3000 ∧ (rowW t n xs).length ≤ 200 := by
  have k5 := kd_len t
  have n13 := (num_short (nL_ok (n := n) (Nat.lt_trans hn (by decide)))).2
  have s := sum_le20 h.sx
  obtain ⟨h1, h2, h3, h4⟩ := h
  have tl : ((tailW xs).map List.length).sum ≤ 2 + (xs.map List.length).sum ∧ (tailW xs).length ≤ 1 + xs.length := by
    unfold tailW
    split
    · simp
    · rw [List.map_cons, List.sum_cons, List.length_cons]
      exact ⟨Nat.le_refl _, by omega⟩
  unfold rowW
  rw [List.map_cons, List.map_append, List.map_cons, List.sum_cons, List.sum_append, List.sum_cons, List.length_cons, List.length_append, List.length_cons]
  omega
theorem sum_tx : ∀ ls : List (List Nat), ((ls.map tx).map (·.length)).sum = (ls.map List.length).sum
  | [] => rfl
  | l :: ls => by
    rw [List.map_cons, List.map_cons, List.sum_cons, sum_tx ls, tx_len, List.map_cons, List.sum_cons]
theorem foldl_tx (sep : List Nat) : ∀ (ps : List (List Nat)) (acc : List Nat), (ps.map tx).foldl (fun (a : Array Nat) (p : Str) => a ++ (tx sep).cps ++ p.cps) acc.toArray = (acc ++ (ps.map (sep ++ ·)).flatten).toArray
  | [], acc => by simp
  | p :: ps, acc => by
    rw [List.map_cons, List.foldl_cons, show acc.toArray ++ (tx sep).cps ++ (tx p).cps = (acc ++ sep ++ p).toArray by simp, foldl_tx sep ps]
    simp
theorem join_tx (sep p : List Nat) (ps : List (List Nat)) : Txt.join (tx sep) (tx p :: ps.map tx) = tx (p ++ (ps.map (sep ++ ·)).flatten) := by
  show PySem.Builtin.Str.glued (tx sep) (tx p :: ps.map tx) = _
  unfold PySem.Builtin.Str.glued
  rw [List.drop_one, List.tail_cons, List.headD_cons]
  exact congrArg Str.mk (foldl_tx sep ps p)
theorem blank_tx : Str.ofString " " = tx [32] := by decide +kernel
theorem join_row (t : Tl) (n : Int) (ys : List (List Nat)) : Txt.join (Str.ofString " ") ((rowW t n ys).map tx) = tx (rowL t n ys) := by
  rw [blank_tx]
  exact join_tx [32] _ _
def spTelInit (K : PySem.W.Frag) (CT : Addr) : Sp := fun vs H Q _ => ∃ (t : Tl) (wv : V) (n : Int) (ka p dx : Addr) (xs : List (List Nat)), vs = [.ref p, .str (tx t.kd), wv, .int n, .ref ka] ∧ WhatAt H wv t ∧ KnAt K H ka xs ∧ n.natAbs < 10 ^ 9 ∧ Short t xs ∧ H p = some (.ins CT dx []) ∧
  ∀ H' ys, But p H H' → ys.Perm xs → sortedS (ys.map tx) = true → TellAt CT H' p t n ys → Q .non H'
def spTelSure (CT : Addr) : Sp := fun vs H Q _ => ∃ (t : Tl) (n : Int) (ys : List (List Nat)) (p : Addr), vs = [.ref p] ∧ TellAt CT H p t n ys ∧ Q (.bl t.sure) H
def spTelEq (K : PySem.W.Frag) (CT : Addr) : Sp := fun vs H Q _ => ∃ (t : Tl) (n : Int) (ys : List (List Nat)) (p : Addr) (y : V), vs = [.ref p, y] ∧ TellAt CT H p t n ys ∧
  ((∃ ty, TyX K H y ty ∧ PySem.W.kitOne K ty (.ref CT) = some false ∧ Q (.bl false) H) ∨ ∃ t2 n2 ys2 p2, y = .ref p2 ∧ TellAt CT H p2 t2 n2 ys2 ∧ TyX K H y (.ref CT) ∧ PySem.W.kitOne K (.ref CT) (.ref CT) = some true ∧ Q (.bl (decide (rowL t n ys = rowL t2 n2 ys2))) H)
def spTelLen (CT : Addr) : Sp := fun vs H Q _ => ∃ (t : Tl) (n : Int) (ys : List (List Nat)) (p : Addr), vs = [.ref p] ∧ TellAt CT H p t n ys ∧ Q (.int ys.length) H
def spTelStr (CT : Addr) : Sp := fun vs H Q _ => ∃ (t : Tl) (n : Int) (ys : List (List Nat)) (p : Addr), vs = [.ref p] ∧ TellAt CT H p t n ys ∧ Q (.str (tx (rowL t n ys))) H
def reprOf (l : List Nat) : Str := Str.empty ++ Str.ofString "Telling('" ++ tx l ++ Str.ofString "')"
def spTelRepr (CT : Addr) : Sp := fun vs H Q _ => ∃ (t : Tl) (n : Int) (ys : List (List Nat)) (p : Addr), vs = [.ref p] ∧ TellAt CT H p t n ys ∧ (rowL t n ys).length ≤ 9000 ∧ Q (.str (reprOf (rowL t n ys))) H
section
variable {P : Program} {w : World} {K : PySem.W.Frag} {mg : Str → Option Value} {base : Heap} {dS : Addr} (T : Txt K mg dS)
include T
theorem ok_Telling_init {f f1 CT : Addr} {fd fd1 : FuncData} (F : Fun K "__init__" "Telling.__init__" s_Telling___init__ f fd) (MC : TelC K CT) (h_words_of : Has P w K mg base "words_of" 1 ["kind", "what", "steps", "known"] spWordsOf f1 fd1) :
    FnOk P w K mg base CX0 2 f fd ["self", "kind", "what", "steps", "known"] (spTelInit K CT) := by
  refine F.ok sc_Telling___init__ (fun vs H Q E h => ?_) (fun cdv A outer s H vs Q E hr h => ?_)
  · obtain ⟨t, wv, n, ka, p, dx, xs, rfl, _⟩ := h
    rfl
  · obtain ⟨t, wv, n, ka, p, dx, xs, rfl, wa, hk, hn, sh, hp, q⟩ := h
    refine ⟨_, (pss_cons (ps_fld (pv 0) (pv 1) rfl)
      (pss_cons (ps_fld (pv 0) (pv 2) rfl)
      (pss_cons (ps_fld (pv 0) (pv 3) rfl)
      (pss_cons (ps_fld (pv 0) (pe_callTy call_tuple_of (by rfl) T.z_tuple (by decide +kernel) (pa_cons (pe_callB cr_sortedA (by rfl) T.z_sorted (by decide +kernel) (pa_cons (pv 4) pa_nil)) pa_nil)) rfl)
      (pss_one (ps_fld (pv 0) (pe_join pe_str (pe_callH h_words_of (hr.mono (by first | decide | omega)) (by rfl) (pa_cons (pv 1) (pa_cons (pv 2) (pa_cons (pv 3) (pa_cons (pe_fld (pv 0) (by rfl)) pa_nil)))))) rfl)))))), ?_⟩
    refine ⟨_, rfl, _, rfl, p, CT, dx, _, rfl, hp, MC.cl, MC.nk, by show 0 < 1000; decide, ?_⟩
    have e1 : (upd H p (.ins CT dx (putF "kind" (.str (tx t.kd)) []))) p = some (.ins CT dx (putF "kind" (.str (tx t.kd)) [])) := upd_same
    have b1 : But p H (upd H p (.ins CT dx (putF "kind" (.str (tx t.kd)) []))) := But.upd
    generalize upd H p (.ins CT dx (putF "kind" (.str (tx t.kd)) [])) = H1 at e1 b1 ⊢
    refine ⟨_, rfl, _, rfl, p, CT, dx, _, rfl, e1, MC.cl, MC.nw, by show 1 < 1000; decide, ?_⟩
    have e2 : (upd H1 p (.ins CT dx (putF "what" wv (putF "kind" (.str (tx t.kd)) [])))) p = some (.ins CT dx (putF "what" wv (putF "kind" (.str (tx t.kd)) []))) := upd_same
    have b2 : But p H (upd H1 p (.ins CT dx (putF "what" wv (putF "kind" (.str (tx t.kd)) [])))) := b1.trans But.upd
    generalize upd H1 p (.ins CT dx (putF "what" wv (putF "kind" (.str (tx t.kd)) []))) = H2 at e2 b2 ⊢
    refine ⟨_, rfl, _, rfl, p, CT, dx, _, rfl, e2, MC.cl, MC.ns, by show 2 < 1000; decide, ?_⟩
    have e3 : (upd H2 p (.ins CT dx (putF "steps" (.int n) (putF "what" wv (putF "kind" (.str (tx t.kd)) []))))) p = some (.ins CT dx (putF "steps" (.int n) (putF "what" wv (putF "kind" (.str (tx t.kd)) [])))) := upd_same
    have b3 : But p H (upd H2 p (.ins CT dx (putF "steps" (.int n) (putF "what" wv (putF "kind" (.str (tx t.kd)) []))))) := b2.trans But.upd
    generalize upd H2 p (.ins CT dx (putF "steps" (.int n) (putF "what" wv (putF "kind" (.str (tx t.kd)) [])))) = H3 at e3 b3 ⊢
    refine ⟨_, rfl, ka, _, rfl, (hk.but hp b3).sq, fun zs q1 pm so hq1 => ?_⟩
    obtain ⟨ys, rfl, pm2⟩ := perm_tx pm
    have ez : (ys.map tx).map V.str = sts ys := by rw [List.map_map]; rfl
    rw [ez]
    refine ⟨q1, _, rfl, .inl ⟨.inl (.inl upd_same), fun q2 hq2 => ?_⟩⟩
    have nq1 : q1 ≠ p := fun z => by rw [z, e3] at hq1; cases hq1
    have s4 : Same H3 (upd (upd H3 q1 (.lst (sts ys))) q2 (.tup (sts ys))) := (same_new hq1).trans (same_new hq2)
    have k4 : (upd (upd H3 q1 (.lst (sts ys))) q2 (.tup (sts ys))) q2 = some (.tup (sts ys)) := upd_same
    generalize upd (upd H3 q1 (.lst (sts ys))) q2 (.tup (sts ys)) = H4 at s4 k4 ⊢
    have e4 := s4 _ _ e3
    have b4 := b3.trans (But.of_same s4)
    refine ⟨_, rfl, p, CT, dx, _, rfl, e4, MC.cl, MC.nn, by show 3 < 1000; decide, ?_⟩
    have nq2 : q2 ≠ p := ne_of k4 e4 (by intro z; cases z)
    have e5 : (upd H4 p (.ins CT dx (putF "known" (.ref q2) (putF "steps" (.int n) (putF "what" wv (putF "kind" (.str (tx t.kd)) [])))))) p = some (.ins CT dx (putF "known" (.ref q2) (putF "steps" (.int n) (putF "what" wv (putF "kind" (.str (tx t.kd)) []))))) := upd_same
    have b5 : But p H (upd H4 p (.ins CT dx (putF "known" (.ref q2) (putF "steps" (.int n) (putF "what" wv (putF "kind" (.str (tx t.kd)) [])))))) := b4.trans But.upd
    have k5 : (upd H4 p (.ins CT dx (putF "known" (.ref q2) (putF "steps" (.int n) (putF "what" wv (putF "kind" (.str (tx t.kd)) [])))))) q2 = some (.tup (sts ys)) := by rw [upd_ne nq2]; exact k4
    generalize upd H4 p (.ins CT dx (putF "known" (.ref q2) (putF "steps" (.int n) (putF "what" wv (putF "kind" (.str (tx t.kd)) []))))) = H5 at e5 b5 k5 ⊢
    have sh2 : Short t ys := ⟨sh.lw, sh.sw, by rw [pm2.length_eq]; exact sh.lx, fun x hx => sh.sx x (pm2.mem_iff.mp hx)⟩
    have rw_ := sh2.row hn
    refine ⟨⟨_, rfl⟩, _, rfl, _, rfl, _, rfl, _, rfl, p, CT, dx, _, _, rfl, e5, MC.cl, MC.nn, (by rw [lookup_putF, if_pos rfl]), t, wv, n, q2, ys, rfl, wa.but hp b5, k5, hn, sh.lw, by have := sh2.lx; omega, fun r H6 s6 nr er => ?_⟩
    have er' : H6 r = some (.lst (((rowW t n ys).map tx).map V.str)) := by rw [er, List.map_map]; rfl
    refine ⟨_, r, (rowW t n ys).map tx, rfl, rfl, .inl (.inl (.inl er')), ?_, ?_⟩
    · rw [sum_tx, blank_tx, tx_len, List.length_map, List.length_singleton]
      omega
    rw [join_row]
    have e6 := s6 _ _ e5
    refine ⟨_, rfl, p, CT, dx, _, rfl, e6, MC.cl, MC.nr, by show 4 < 1000; decide, ?_⟩
    have b6 := (b5.trans (But.of_same s6))
    have nk : q2 ≠ p := ne_of (s6 _ _ k5) e6 (by intro z; cases z)
    refine q _ ys (b6.trans But.upd) pm2 so ⟨dx, wv, q2, upd_same, ?_, by rw [upd_ne nk]; exact s6 _ _ k5⟩
    exact wa.but hp (b6.trans But.upd)
theorem ok_Telling_sure {f CT : Addr} {fd : FuncData} (F : Fun K "is_sure" "Telling.is_sure" s_Telling_is_sure f fd) (MC : TelC K CT) : FnOk P w K mg base CX0 1 f fd ["self"] (spTelSure CT) := by
  refine F.ok sc_Telling_is_sure (fun vs H Q E h => ?_) (fun cdv A outer s H vs Q E hr h => ?_)
  · obtain ⟨t, n, ys, p, rfl, _⟩ := h
    rfl
  · obtain ⟨t, n, ys, p, rfl, ⟨dx, wv, kt, h1, h2, h3⟩, q⟩ := h
    refine ⟨_, (pss_one (ps_ret (pe_cmpR op_in_seq (pe_fld (pv 0) (by rfl)) (pe_globR (by rfl) T.gS) (by rfl)))), ?_⟩
    refine ⟨_, rfl, p, CT, dx, _, _, rfl, h1, MC.cl, MC.nk, lF_kind _ _ _ _ _, dS, _, rfl, .inr (T.S H), rfl, rfl, ?_⟩
    rw [show (if false = true then !inV (V.str (tx t.kd)) [V.str (Str.ofString "word"), V.str (Str.ofString "fault"), V.str (Str.ofString "ring")] else inV (V.str (tx t.kd)) [V.str (Str.ofString "word"), V.str (Str.ofString "fault"), V.str (Str.ofString "ring")]) = t.sure by rw [if_neg (by decide), kd_sure]]
    exact q
theorem ok_Telling_len {f CT : Addr} {fd : FuncData} (F : Fun K "__len__" "Telling.__len__" s_Telling___len__ f fd) (MC : TelC K CT) : FnOk P w K mg base CX0 1 f fd ["self"] (spTelLen CT) := by
  refine F.ok sc_Telling___len__ (fun vs H Q E h => ?_) (fun cdv A outer s H vs Q E hr h => ?_)
  · obtain ⟨t, n, ys, p, rfl, _⟩ := h
    rfl
  · obtain ⟨t, n, ys, p, rfl, ⟨dx, wv, kt, h1, h2, h3⟩, q⟩ := h
    refine ⟨_, (pss_one (ps_ret (pe_callB call_len_seq (by rfl) T.z_len (by decide +kernel) (pa_cons (pe_fld (pv 0) (by rfl)) pa_nil)))), ?_⟩
    have e : (sts ys).length = ys.length := List.length_map ..
    rw [← e] at q
    exact ⟨_, rfl, p, CT, dx, _, _, rfl, h1, MC.cl, MC.nn, lF_known _ _ _ _ _, kt, _, rfl, .inr (.inl (.inl h3)), q⟩
theorem ok_Telling_str {f CT : Addr} {fd : FuncData} (F : Fun K "__str__" "Telling.__str__" s_Telling___str__ f fd) (MC : TelC K CT) : FnOk P w K mg base CX0 1 f fd ["self"] (spTelStr CT) := by
  refine F.ok sc_Telling___str__ (fun vs H Q E h => ?_) (fun cdv A outer s H vs Q E hr h => ?_)
  · obtain ⟨t, n, ys, p, rfl, _⟩ := h
    rfl
  · obtain ⟨t, n, ys, p, rfl, ⟨dx, wv, kt, h1, h2, h3⟩, q⟩ := h
    refine ⟨_, (pss_one (ps_ret (pe_callTy call_str_str (by rfl) T.z_str (by decide +kernel) (pa_cons (pe_fld (pv 0) (by rfl)) pa_nil)))), ?_⟩
    exact ⟨_, rfl, p, CT, dx, _, _, rfl, h1, MC.cl, MC.nr, lF_row _ _ _ _ _, _, rfl, q⟩
theorem ok_Telling_repr {f CT : Addr} {fd : FuncData} (F : Fun K "__repr__" "Telling.__repr__" s_Telling___repr__ f fd) (MC : TelC K CT) : FnOk P w K mg base CX0 1 f fd ["self"] (spTelRepr CT) := by
  refine F.ok sc_Telling___repr__ (fun vs H Q E h => ?_) (fun cdv A outer s H vs Q E hr h => ?_)
  · obtain ⟨t, n, ys, p, rfl, _⟩ := h
    rfl
  · obtain ⟨t, n, ys, p, rfl, ⟨dx, wv, kt, h1, h2, h3⟩, hl, q⟩ := h
    refine ⟨_, (pss_one (ps_ret (pe_joined (.cons pe_str (.cons (pe_fmt (pe_fld (pv 0) (by rfl))) (.cons pe_str .nil)))))), ?_⟩
    have z1 : (Str.empty ++ Str.ofString "Telling('").length = 9 := by decide +kernel
    have z2 : (Str.ofString "')").length = 2 := by decide +kernel
    have app : ∀ a b : Str, (a ++ b).length = a.length + b.length := fun a b => by
      show (a.cps ++ b.cps).size = _
      simp [Str.length]
    refine ⟨_, rfl, sizeLine_ge (by rw [z1]; decide), _, rfl, p, CT, dx, _, _, rfl, h1, MC.cl, MC.nr, lF_row _ _ _ _ _, .inl ⟨_, rfl, ?_, _, rfl, ?_, _, rfl, ?_, q⟩⟩
    · rw [tx_len]
      exact sizeLine_ge (by omega)
    · rw [app, z1, tx_len]
      exact sizeLine_ge (by omega)
    · rw [app, app, z1, z2, tx_len]
      exact sizeLine_ge (by omega)
theorem ok_Telling_eq {f CT : Addr} {fd : FuncData} (F : Fun K "__eq__" "Telling.__eq__" s_Telling___eq__ f fd) (MC : TelC K CT) (hT : mg "Telling" = some (.ref CT)) : FnOk P w K mg base CX0 1 f fd ["self", "other"] (spTelEq K CT) := by
  refine F.ok sc_Telling___eq__ (fun vs H Q E h => ?_) (fun cdv A outer s H vs Q E hr h => ?_)
  · obtain ⟨t, n, ys, p, y, rfl, _⟩ := h
    rfl
  · obtain ⟨t, n, ys, p, y, rfl, ⟨dx, wv, kt, h1, h2, h3⟩, q⟩ := h
    refine ⟨_, (pss_one (ps_ret (pe_and (pe_callB call_isi (by rfl) T.z_isinstance (by decide +kernel) (pa_cons (pv 1) (pa_cons (pe_globR (by rfl) hT) pa_nil))) (pe_one (pe_cmpR op_eq (pe_fld (pv 0) (by rfl)) (pe_fld (pv 1) (by rfl)) (nomark _)))))), ?_⟩
    rcases q with ⟨ty, tyx, kt, q⟩ | ⟨t2, n2, ys2, p2, rfl, ⟨dx2, wv2, kt2, g1, g2, g3⟩, tyx, kt, q⟩
    · refine ⟨_, rfl, _, _, ty, _, false, rfl, .own CT, tyx, kt, false, rfl, iteF q⟩
    · refine ⟨_, rfl, _, _, _, _, true, rfl, .own CT, tyx, kt, true, rfl, iteT ⟨_, rfl, p, CT, dx, _, _, rfl, h1, MC.cl, MC.nr, lF_row _ _ _ _ _, _, rfl, p2, CT, dx2, _, _, rfl, g1, MC.cl, MC.nr, lF_row _ _ _ _ _, rfl, ?_⟩⟩
      rw [str_eq]
      exact q
end
end K


set_option Elab.async false
set_option linter.all false
set_option maxRecDepth 100000
set_option maxHeartbeats 4000000
namespace K
open PySem PySem.Spec PyProof.Rows L2 U SkE
/-- a purse: digits left, what is mixed, how many were mixed -/
def Purse (H : Hp) (p : Addr) (c : Int) : Prop := ∃ a b c', H p = some (.lst [.int a, .int b, .int c']) ∧ 0 ≤ a ∧ 0 ≤ b ∧ b < 2 ^ 62 ∧ 0 ≤ c' ∧ c' ≤ c
def spPurse (K : PySem.W.Frag) : Sp := fun vs H Q _ => ∃ (l : Addr) (ns : List Int) (i : Nat), vs = [.ref l, .int i] ∧ SqL K H l (ns.map V.int) ∧ i ≤ 100 ∧ ∀ p a b, H p = none → 0 ≤ a → 0 ≤ b → b < 2 ^ 62 → Q (.ref p) (upd H p (.lst [.int a, .int b, .int 0]))
theorem b01 (k : Bool) : -(2 ^ 64) < (if k = true then (1 : Int) else 0) ∧ (if k = true then (1 : Int) else 0) < 2 ^ 64 := by
  cases k <;> decide
theorem purse_a (c : Int) (k : Bool) : 0 ≤ (if c < 0 then -c else c) * (if k = true then (1 : Int) else 0) := by
  refine Int.mul_nonneg ?_ ?_
  · split <;> omega
  · cases k <;> decide
theorem purse_b (c : Int) (i : Nat) (hi : i ≤ 100) : 0 ≤ c % 2305843009213693951 + 6607 * (i : Int) + 3 ∧ c % 2305843009213693951 + 6607 * (i : Int) + 3 < 2 ^ 62 := by
  have h1 := Int.emod_nonneg c (show (2305843009213693951 : Int) ≠ 0 by decide)
  have h2 := Int.emod_lt_of_pos c (show (0 : Int) < 2305843009213693951 by decide)
  have e : (2 : Int) ^ 62 = 4611686018427387904 := by decide
  omega
section
variable {P : Program} {w : World} {K : PySem.W.Frag} {mg : Str → Option Value} {base : Heap} {dS : Addr} (T : Txt K mg dS)
include T
theorem ok__law_purse {f : Addr} {fd : FuncData} (F : Fun K "_law_purse" "_law_purse" s__law_purse f fd) : FnOk P w K mg base CX0 1 f fd ["_law_script", "_law_at"] (spPurse K) := by
  refine F.ok sc__law_purse (fun vs H Q E h => ?_) (fun cdv A outer s H vs Q E hr h => ?_)
  · obtain ⟨l, ns, i, rfl, _⟩ := h
    rfl
  · obtain ⟨l, ns, i, rfl, hl, hi, q⟩ := h
    refine ⟨_, (pss_cons (ps_set (i := 2) sc__law_purse.nd rfl (.inl rfl) pe_int)
      (pss_cons (ps_if (pt_cmpR op_lt (pv 1) (pe_callB call_len_seq (by rfl) T.z_len (by decide +kernel) (pa_cons (pv 0) pa_nil)) (nomark _)) 
        (pss_one (ps_set (i := 2) sc__law_purse.nd rfl (.inl rfl) (pe_ix ix_list (pv 0) (pv 1) (fun _ _ => rfl)))) pss_nil)
      (pss_cons (ps_set (i := 3) sc__law_purse.nd rfl (.inl rfl) (pe_callB call_abs (by rfl) T.z_abs (by decide +kernel) (pa_cons (pv 2) pa_nil)))
      (pss_one (ps_ret (pe_lst (pa_cons (pe_op op_mul (pv 3) (pe_callTy call_int1 (by rfl) T.z_int (by decide +kernel) (pa_cons (pe_cmpR op_ge (pv 3) (pe_op op_powW pe_int pe_int) (nomark _)) pa_nil))) (pa_cons (pe_op op_add (pe_op op_add (pe_op op_mod (pv 2) pe_int) (pe_op op_mul pe_int (pv 1))) pe_int) (pa_cons pe_int pa_nil))))))))), ?_⟩
    refine ⟨_, rfl, _, rfl, l, _, rfl, .inl hl, _, _, rfl, rfl, _, rfl, ?_⟩
    refine ite2 (fun h => ?_) (fun h => ?_)
    · have h := of_decide_eq_true h
      have h2 : i < ns.length := by
        rw [List.length_map] at h
        omega
      have h3 : (ns.map V.int)[i]? = some (.int ns[i]) := by
        rw [List.getElem?_map, List.getElem?_eq_getElem h2]
        rfl
      refine ⟨_, rfl, _, rfl, l, _, _, _, rfl, rfl, hl, atI_nat h3, ?_⟩
      refine ⟨_, rfl, _, rfl, _, rfl, _, rfl, _, _, rfl, rfl, ⟨by decide, by decide, by decide +kernel⟩, _, _, rfl, rfl, .inr ⟨_, rfl, _, _, rfl, rfl, .inr (b01 _), _, rfl, _, _, rfl, rfl, (show (0 : Int) < 2305843009213693951 by decide), _, rfl, _, _, rfl, rfl, .inl ⟨by decide, by decide⟩, _, _, rfl, rfl, _, _, rfl, rfl, sizeLine_ge (by show 3 ≤ 10000; decide), fun p hp => ?_⟩⟩
      exact q p _ _ hp (purse_a _ _) (purse_b _ _ hi).1 (purse_b _ _ hi).2
    · refine ⟨_, rfl, _, rfl, _, rfl, _, rfl, _, _, rfl, rfl, ⟨by decide, by decide, by decide +kernel⟩, _, _, rfl, rfl, .inr ⟨_, rfl, _, _, rfl, rfl, .inr (b01 _), _, rfl, _, _, rfl, rfl, (show (0 : Int) < 2305843009213693951 by decide), _, rfl, _, _, rfl, rfl, .inl ⟨by decide, by decide⟩, _, _, rfl, rfl, _, _, rfl, rfl, sizeLine_ge (by show 3 ≤ 10000; decide), fun p hp => ?_⟩⟩
      exact q p _ _ hp (purse_a _ _) (purse_b _ _ hi).1 (purse_b _ _ hi).2
/-- a draw: some number below many; the purse goes on -/
def spTake : Sp := fun vs H Q _ => ∃ (p : Addr) (m c : Int), vs = [.ref p, .int m] ∧ Purse H p c ∧ c < 2 ^ 40 ∧ 0 < m ∧ m < 2 ^ 60 ∧
  ∀ r H', 0 ≤ r → r < m → Purse H' p (c + 1) → But p H H' → Q (.int r) H'
omit T in
theorem primes_at (x : Int) (hx : 0 ≤ x) : ∃ z : Int, 0 < z ∧ z < 2 ^ 31 ∧ atI [V.int 2147483647, V.int 2147483629, V.int 2147483587, V.int 2147483579, V.int 2147483563, V.int 2147483549, V.int 2147483543] (x % 7) = some (.int z) := by
  have h1 := Int.emod_nonneg x (show (7 : Int) ≠ 0 by decide)
  have h2 := Int.emod_lt_of_pos x (show (0 : Int) < 7 by decide)
  have h3 : x % 7 = 0 ∨ x % 7 = 1 ∨ x % 7 = 2 ∨ x % 7 = 3 ∨ x % 7 = 4 ∨ x % 7 = 5 ∨ x % 7 = 6 := by omega
  rcases h3 with e | e | e | e | e | e | e <;> rw [e] <;> exact ⟨_, by decide, by decide, rfl⟩
omit T in
theorem base_small {b s : Int} (hb : 0 ≤ b) (hb2 : b < 2 ^ 62) (hs : 0 ≤ s) (hs2 : s < 2 ^ 41) : ((b + 104729 * s) * (3 * s + 4) + 7919 * s * s).natAbs < 2 ^ 1000 ∧ 0 ≤ (b + 104729 * s) * (3 * s + 4) + 7919 * s * s := by
  have e62 : (2 : Int) ^ 62 = 4611686018427387904 := by decide
  have e41 : (2 : Int) ^ 41 = 2199023255552 := by decide
  have h1 : (b + 104729 * s) * (3 * s + 4) ≤ 2 ^ 63 * 2 ^ 43 := Int.mul_le_mul (by rw [show (2 : Int) ^ 63 = 9223372036854775808 by decide]; omega) (by rw [show (2 : Int) ^ 43 = 8796093022208 by decide]; omega) (by omega) (by decide)
  have h2 : 7919 * s * s ≤ 2 ^ 54 * 2 ^ 41 := Int.mul_le_mul (by rw [show (2 : Int) ^ 54 = 18014398509481984 by decide]; omega) (by omega) hs (by decide)
  have h3 : 0 ≤ (b + 104729 * s) * (3 * s + 4) := Int.mul_nonneg (by omega) (by omega)
  have h4 : 0 ≤ 7919 * s * s := Int.mul_nonneg (by omega) hs
  have h5 : (2 : Int) ^ 63 * 2 ^ 43 + 2 ^ 54 * 2 ^ 41 < 2 ^ 200 := by decide
  refine ⟨?_, by omega⟩
  have h6 : (b + 104729 * s) * (3 * s + 4) + 7919 * s * s < 2 ^ 200 := by omega
  have h8 : 0 ≤ (b + 104729 * s) * (3 * s + 4) + 7919 * s * s := by omega
  have h7 : ((b + 104729 * s) * (3 * s + 4) + 7919 * s * s).natAbs < 2 ^ 200 := by omega
  exact Nat.lt_trans h7 (Nat.pow_lt_pow_right (by decide) (by decide))
theorem ok__law_take {f : Addr} {fd : FuncData} (F : Fun K "_law_take" "_law_take" s__law_take f fd) : FnOk P w K mg base CX0 1 f fd ["_law_purse_here", "_law_many"] spTake := by
  refine F.ok sc__law_take (fun vs H Q E h => ?_) (fun cdv A outer s H vs Q E hr h => ?_)
  · obtain ⟨p, m, c, rfl, _⟩ := h
    rfl
  · obtain ⟨p, m, c0, rfl, ⟨a, b, c, hp, ha, hb, hb2, hc, hcc⟩, hc2, hm, hm2, q⟩ := h
    refine ⟨_, (pss_cons (ps_if (pt_cmpR op_gt (pe_ix ix_list (pv 0) pe_int (fun _ _ => rfl)) pe_int (nomark _)) 
        (pss_cons (ps_set (i := 2) sc__law_take.nd rfl (.inl rfl) (pe_op op_mod (pe_ix ix_list (pv 0) pe_int (fun _ _ => rfl)) (pv 1)))
        (pss_cons (ps_asg (pe_op op_fdivW (pe_ix ix_list (pv 0) pe_int (fun _ _ => rfl)) (pv 1)) (pg_sub (pv 0) pe_int set_list))
        (pss_one (ps_ret (pv 2))))) pss_nil)
      (pss_cons (ps_set (i := 3) sc__law_take.nd rfl (.inl rfl) (pe_tup (pa_cons pe_int (pa_cons pe_int (pa_cons pe_int (pa_cons pe_int (pa_cons pe_int (pa_cons pe_int (pa_cons pe_int pa_nil)))))))))
      (pss_cons (ps_asg (pe_op op_add (pe_ix ix_list (pv 0) pe_int (fun _ _ => rfl)) pe_int) (pg_sub (pv 0) pe_int set_list))
      (pss_cons (ps_set (i := 4) sc__law_take.nd rfl (.inl rfl) (pe_ix ix_list (pv 0) pe_int (fun _ _ => rfl)))
      (pss_cons (ps_set (i := 5) sc__law_take.nd rfl (.inl rfl) (pe_op op_add (pe_op op_mul (pe_op op_add (pe_ix ix_list (pv 0) pe_int (fun _ _ => rfl)) (pe_op op_mul pe_int (pv 4))) (pe_op op_add (pe_op op_mul pe_int (pv 4)) pe_int)) (pe_op op_mul (pe_op op_mul pe_int (pv 4)) (pv 4))))
      (pss_cons (ps_set (i := 6) sc__law_take.nd rfl (.inl rfl) (pe_op op_mod (pe_op op_powW (pv 5) pe_int) (pe_ix ix_tup (pv 3) (pe_op op_mod (pv 4) pe_int) (fun _ _ => rfl))))
      (pss_one (ps_ret (pe_op op_mod (pe_op op_fdiv (pe_op op_mod (pe_op op_mul (pv 6) (pe_op op_add (pe_op op_add (pe_op op_fdiv (pv 6) pe_int) (pe_op op_mul pe_int (pv 4))) pe_int)) (pe_ix ix_tup (pv 3) (pe_op op_mod (pe_op op_add (pv 4) pe_int) pe_int) (fun _ _ => rfl))) pe_int) (pv 1)))))))))), ?_⟩
    refine ⟨_, rfl, p, _, _, _, rfl, rfl, .inl (.inl hp), rfl, _, _, rfl, rfl, _, rfl, ?_⟩
    refine ite2 (fun h => ?_) (fun h => ?_)
    · have h := of_decide_eq_true h
      refine ⟨_, rfl, p, _, _, _, rfl, rfl, .inl (.inl hp), rfl, _, rfl, _, _, rfl, rfl, hm, _, rfl, p, _, _, _, rfl, rfl, .inl (.inl hp), rfl, _, rfl, _, _, rfl, rfl, wide_div hm (b := 60) (by omega) (by decide) (by decide), _, rfl, p, _, _, _, rfl, rfl, hp, rfl, _, rfl, ?_⟩
      exact q (a % m) _ (Int.emod_nonneg a (by omega)) (Int.emod_lt_of_pos a hm) ⟨a / m, b, c, upd_same, Int.ediv_nonneg ha (by omega), hb, hb2, hc, by omega⟩ fun b' o e n => by rw [upd_ne n]; exact e
    · refine ⟨by show 7 ≤ sizeLine; exact sizeLine_ge (by decide), fun t ht => ?_⟩
      have npt : p ≠ t := ne_of_none hp ht
      refine ⟨_, rfl, p, _, _, _, rfl, rfl, .inl (.inl (by rw [upd_ne npt]; exact hp)), rfl, _, _, rfl, rfl, _, rfl, p, _, _, _, rfl, rfl, (by rw [upd_ne npt]; exact hp), rfl, ?_⟩
      have gp : ∀ (G : Hp), (upd G p (.lst ([V.int a, V.int b, V.int c].set (Int.toNat 2) (V.int (c + 1))))) p = some (.lst [.int a, .int b, .int (c + 1)]) := fun _ => upd_same
      have gt : (upd (upd H t (.tup [.int 2147483647, .int 2147483629, .int 2147483587, .int 2147483579, .int 2147483563, .int 2147483549, .int 2147483543])) p (.lst ([V.int a, V.int b, V.int c].set (Int.toNat 2) (V.int (c + 1))))) t = some (.tup [.int 2147483647, .int 2147483629, .int 2147483587, .int 2147483579, .int 2147483563, .int 2147483549, .int 2147483543]) := by
        rw [upd_ne npt.symm, upd_same]
      obtain ⟨z1, z1a, z1b, z1c⟩ := primes_at (c + 1) (by omega)
      obtain ⟨z2, z2a, z2b, z2c⟩ := primes_at (c + 1 + 3) (by omega)
      have bs := base_small hb hb2 (show 0 ≤ c + 1 by omega) (by omega)
      refine ⟨_, rfl, p, _, _, _, rfl, rfl, .inl (.inl (gp _)), rfl, ?_⟩
      refine ⟨_, rfl, p, _, _, _, rfl, rfl, .inl (.inl (gp _)), rfl, _, rfl, _, _, rfl, rfl, .inl ⟨by decide, by decide⟩, _, _, rfl, rfl, _, rfl, _, _, rfl, rfl, .inl ⟨by decide, by decide⟩, _, _, rfl, rfl, _, _, rfl, rfl, .inr ⟨by omega, by omega⟩,
        _, rfl, _, _, rfl, rfl, .inl ⟨by decide, by decide⟩, _, rfl, _, _, rfl, rfl, .inr ⟨by omega, by omega⟩, _, _, rfl, rfl, ?_⟩
      refine ⟨_, rfl, _, _, rfl, rfl, ⟨by decide, by decide, bs.1⟩, _, rfl, _, rfl, _, _, rfl, rfl, (show (0 : Int) < 7 by decide), t, _, _, _, rfl, rfl, .inl (.inl gt), z1c, _, _, rfl, rfl, z1a, ?_⟩
      have m1 := Int.emod_nonneg (((b + 104729 * (c + 1)) * (3 * (c + 1) + 4) + 7919 * (c + 1) * (c + 1)) ^ (Int.toNat 3)) (show z1 ≠ 0 by omega)
      have m2 := Int.emod_lt_of_pos (((b + 104729 * (c + 1)) * (3 * (c + 1) + 4) + 7919 * (c + 1) * (c + 1)) ^ (Int.toNat 3)) z1a
      refine ⟨_, rfl, _, rfl, _, _, rfl, rfl, ⟨by decide, by decide⟩, _, rfl, _, _, rfl, rfl, .inl ⟨by decide, by decide⟩, _, _, rfl, rfl, _, _, rfl, rfl, _, _, rfl, rfl, .inl ⟨by omega, by omega⟩,
        _, rfl, _, rfl, _, _, rfl, rfl, _, _, rfl, rfl, (show (0 : Int) < 7 by decide), t, _, _, _, rfl, rfl, .inl (.inl gt), z2c, _, _, rfl, rfl, z2a, _, _, rfl, rfl, ⟨by decide, by decide⟩, _, rfl, _, _, rfl, rfl, hm, ?_⟩
      refine q _ _ (Int.emod_nonneg _ (by omega)) (Int.emod_lt_of_pos _ hm) ⟨a, b, c + 1, gp _, ha, hb, hb2, by omega, by omega⟩ fun b' o e n => ?_
      rw [upd_ne n, upd_ne (ne_of_none e ht)]
      exact e
end
end K


set_option Elab.async false
set_option linter.all false
set_option maxRecDepth 100000
set_option maxHeartbeats 4000000
namespace K
open PySem PySem.Spec PyProof.Rows L2 U SkE
theorem join_nil (sep : Str) : Txt.join sep [] = tx [] := rfl
theorem empty_tx : Str.ofString "" = tx [] := by decide +kernel
theorem join_signs (zs : List Nat) : Txt.join (Str.ofString "") (zs.map fun c => tx [c]) = tx zs := by
  rw [empty_tx]
  cases zs with
  | nil => rfl
  | cons z zs =>
    have h := join_tx [] [z] (zs.map fun c => [c])
    rw [List.map_map] at h
    rw [List.map_cons]
    refine h.trans (congrArg (fun l : List Nat => tx l) ?_)
    clear h
    induction zs with
    | nil => rfl
    | cons y zs ih => simp at ih ⊢; exact ih
theorem cut_to (t : List Nat) (a : Nat) : cutS (tx t) none (some (a : Int)) = tx (t.take a) := by
  unfold cutS
  rw [HT.sIx_nat, HT.sIx_none, tx_len, tx_cps]
  refine congrArg (fun l : List Nat => tx l) ?_
  simp
theorem cut_from (t : List Nat) (a : Nat) : cutS (tx t) (some (a : Int)) none = tx (t.drop a) := by
  unfold cutS
  rw [HT.sIx_nat, HT.sIx_none, tx_len, tx_cps]
  refine congrArg (fun l : List Nat => tx l) ?_
  by_cases h : a ≤ t.length
  · rw [Nat.min_eq_left h, List.take_of_length_le (by rw [List.length_drop]; exact Nat.le_refl _)]
  · rw [Nat.min_eq_right (by omega), Nat.sub_self, List.take_zero, List.drop_eq_nil_of_le (by omega)]
theorem Purse.same {p : Addr} {H H' : Hp} {c : Int} (h : Purse H p c) (s : Same H H') : Purse H' p c := by
  obtain ⟨a, b, c', e, r⟩ := h
  exact ⟨a, b, c', s _ _ e, r⟩
theorem Purse.ne {p q : Addr} {H : Hp} {c : Int} (h : Purse H p c) (e : H q = none) : p ≠ q := by
  obtain ⟨a, b, c', h, r⟩ := h
  exact ne_of_none h e
theorem Purse.mono {p : Addr} {H : Hp} {c d : Int} (h : Purse H p c) (l : c ≤ d) : Purse H p d := by
  obtain ⟨a, b, c', e, h1, h2, h3, h4, h5⟩ := h
  exact ⟨a, b, c', e, h1, h2, h3, h4, by omega⟩
theorem Purse.put {p q : Addr} {H : Hp} {c : Int} {o : HO} (h : Purse H p c) (n : p ≠ q) : Purse (upd H q o) p c := by
  obtain ⟨a, b, c', e, r⟩ := h
  exact ⟨a, b, c', by rw [upd_ne n]; exact e, r⟩
theorem But.gone {p D : Addr} {H H2 : Hp} (b : But p H H2) (e : H2 D = none) (n : D ≠ p) : H D = none := by
  cases h : H D with
  | none => rfl
  | some o =>
    have := b D o h n
    rw [e] at this
    cases this
theorem But.updN {p D : Addr} {H G : Hp} {o : HO} (b : But p H G) (e : H D = none) : But p H (upd G D o) := fun c u h n => by
  rw [upd_ne (ne_of_none h e)]
  exact b c u h n
theorem sum_ones : ∀ zs : List Nat, ((zs.map fun c => tx [c]).map (·.length)).sum = zs.length
  | [] => rfl
  | x :: r => by
    rw [List.map_cons, List.map_cons, List.sum_cons, sum_ones r, tx_len]
    simp
    omega
theorem signs_at {z : List Nat} {r : Int} (h0 : 0 ≤ r) (h1 : r < z.length) : ∃ c, c ∈ z ∧ atI (tx z).cps.toList r = some c := by
  obtain ⟨j, rfl⟩ : ∃ j : Nat, r = j := ⟨r.toNat, by omega⟩
  have h : j < z.length := by omega
  exact ⟨z[j], List.getElem_mem h, atI_tx (List.getElem?_eq_getElem h)⟩
/-- some texts of these signs -/
def NameL (z : List Nat) (m : Nat) (ns : List (List Nat)) : Prop := ∀ n ∈ ns, 1 ≤ n.length ∧ n.length ≤ m ∧ ∀ c ∈ n, c ∈ z
def spNames : Sp := fun vs H Q _ => ∃ (p : Addr) (c : Int) (z : List Nat) (m k : Nat), vs = [.ref p, .int k, .str (tx z), .int m] ∧ Purse H p c ∧ c < 2 ^ 39 ∧ z.length = 26 ∧ 1 ≤ m ∧ m ≤ 6 ∧ k ≤ 10 ∧
  ∀ r H' ns, But p H H' → Purse H' p (c + 10) → H r = none → H' r = some (.lst (ns.map fun n => V.str (tx n))) → ns.length = k → NameL z m ns → Q (.ref r) H'
section
variable {P : Program} {w : World} {K : PySem.W.Frag} {mg : Str → Option Value} {base : Heap} {dS : Addr} (T : Txt K mg dS)
include T
theorem ok__law_names {f f1 : Addr} {fd fd1 : FuncData} (F : Fun K "_law_names" "_law_names" s__law_names f fd) (h__law_take : Has P w K mg base "_law_take" 1 ["_law_purse_here", "_law_many"] spTake f1 fd1) :
    FnOk P w K mg base CX0 2 f fd ["_law_purse_here", "_law_many", "_law_signs", "_law_wide"] spNames := by
  refine F.ok sc__law_names (fun vs H Q E h => ?_) (fun cdv A outer s H vs Q E hr h => ?_)
  · obtain ⟨p, c, z, m, k, rfl, _⟩ := h
    rfl
  · obtain ⟨p, c, z, m, k, rfl, P0, hc, hz, hm1, hm6, hk, q⟩ := h
    have hzs : (tx z).length ≤ sizeLine := by rw [tx_len, hz]; exact sizeLine_ge (by decide)
    refine ⟨_, (pss_cons (ps_set (i := 4) sc__law_names.nd rfl (.inr rfl) (pe_join pe_str (pe_lc (own := [("_law_k", 7)]) (g := gName 7) (tt := tYes) rfl sc__law_names.nd (pi_range1 (by rfl) T.z_range (pa_cons (pe_callH h__law_take (hr.mono (by first | decide | omega)) (by rfl) (pa_cons (pv 0) (pa_cons (pv 3) pa_nil))) pa_nil)) (blkOk_by (N := nm__law_names) (sc := defScope s__law_names) (by decide +kernel)) (fun _ _ _ _ _ => pg_name (i := 7) sc__law_names.nd rfl (.inl rfl)) (fun _ _ _ _ _ => pts_nil) (fun _ _ _ _ _ => (pe_ix ix_str (pv 2) (pe_callH h__law_take (hr.mono (by first | decide | omega)) (by rfl) (pa_cons (pv 0) (pa_cons pe_int pa_nil))) (fun _ _ => rfl))))))
      (pss_cons (ps_asg (pe_tup (pa_cons (pe_callH h__law_take (hr.mono (by first | decide | omega)) (by rfl) (pa_cons (pv 0) (pa_cons (pe_op op_add (pe_callB call_len_str (by rfl) T.z_len (by decide +kernel) (pa_cons (pv 4) pa_nil)) pe_int) pa_nil))) (pa_cons (pe_callH h__law_take (hr.mono (by first | decide | omega)) (by rfl) (pa_cons (pv 0) (pa_cons pe_int pa_nil))) pa_nil))) (pg_tup rfl (pgs_cons (pg_name (i := 5) sc__law_names.nd rfl (.inr rfl)) (pgs_cons (pg_name (i := 6) sc__law_names.nd rfl (.inr rfl)) pgs_nil))))
      (pss_one (ps_ret (pe_lc (own := [("_law_k", 7)]) (g := gName 7) (tt := tYes) rfl sc__law_names.nd (pi_range1 (by rfl) T.z_range (pa_cons (pv 1) pa_nil)) (blkOk_by (N := nm__law_names) (sc := defScope s__law_names) (by decide +kernel)) (fun _ _ _ _ _ => pg_name (i := 7) sc__law_names.nd rfl (.inl rfl)) (fun _ _ _ _ _ => pts_nil) (fun _ _ _ _ _ => (pe_op op_add_str (pe_op op_add_str (pe_slice sl_str (pv 4) po_none (po_some (pv 5))) (pe_ix ix_str (pv 2) (pe_op op_mod (pe_op op_add (pv 6) (pv 7)) pe_int) (fun _ _ => rfl))) (pe_slice sl_str (pv 4) (po_some (pv 5)) po_none)))))))), ?_⟩
    have e39 : (2 : Int) ^ 39 = 549755813888 := by decide
    have e40 : (2 : Int) ^ 40 = 1099511627776 := by decide
    have e60 : (2 : Int) ^ 60 = 1152921504606846976 := by decide
    refine ⟨⟨_, rfl⟩, _, rfl, _, rfl, p, m, c, rfl, P0, by omega, by omega, by omega, fun r H2 hr0 hr7 P1 b1 => ?_⟩
    refine ⟨_, rfl, by omega, by omega, fun D hD => lc_do walk_range (fun j H' => Purse H' p (c + 1 + j) ∧ But p H H' ∧ ∃ zs : List Nat, zs.length = j ∧ (∀ x ∈ zs, x ∈ z) ∧ H' D = some (.lst (zs.map fun c => V.str (tx [c])))) (fun _ => rfl) ?_ (fun _ _ _ _ => trivial) ?_ ?_⟩
    · have n1 := P1.ne hD
      exact ⟨(P1.put n1).mono (by omega), But.updN b1 (But.gone b1 hD (Ne.symm n1)), [], rfl, fun x hx => by simp at hx, upd_same⟩
    · have hD0 := But.gone b1 hD (Ne.symm (P1.ne hD))
      have nD := P1.ne hD
      rintro j x H3 H4 hj ⟨P3, b3, zs, hzs1, hzs2, hD3⟩ ⟨rfl, rfl⟩
      refine ⟨_, rfl, _, rfl, p, 26, _, rfl, P3, by omega, by decide, by decide, fun r4 H5 h40 h41 P5 b5 => ?_⟩
      obtain ⟨c4, hcz, hc4⟩ := signs_at (z := z) h40 (by omega)
      have hD5 := b5 D _ hD3 (Ne.symm nD)
      refine ⟨_, r4, c4, rfl, rfl, hzs, hc4, _, hD5, ?_, (P5.put nD).mono (by omega), But.updN (But.trans b3 b5) hD0, zs ++ [c4], by rw [List.length_append, hzs1]; rfl, fun x hx => ?_, ?_⟩
      · rw [List.length_map]
        exact sizeLine_ge (by omega)
      · rcases List.mem_append.mp hx with hx | hx
        · exact hzs2 x hx
        · rw [List.mem_singleton.mp hx]
          exact hcz
      · rw [upd_same, List.map_append]
        rfl
    · have hD0 := But.gone b1 hD (Ne.symm (P1.ne hD))
      rintro H3 ⟨P3, b3, zs, hzs1, hzs2, hD3⟩
      have hn : r.toNat ≤ 6 := by omega
      refine ⟨_, D, zs.map fun c => tx [c], rfl, rfl, .inl (.inl (.inl (by rw [hD3, List.map_map]; rfl))), ?_, ?_⟩
      · have h2 : (Str.ofString "").length = 0 := by decide +kernel
        rw [sum_ones, h2]
        omega
      · rw [join_signs]
        have hl : (tx zs).length ≤ sizeLine := by rw [tx_len]; exact sizeLine_ge (by omega)
        have hl2 : ((tx zs).length : Int) = zs.length := by rw [tx_len]
        refine ⟨_, rfl, _, rfl, _, rfl, hl, _, _, rfl, rfl, p, _, _, rfl, P3, by omega, by omega, by omega, fun r4 H4 h40 h41 P4 b4 => ?_⟩
        refine ⟨_, rfl, p, 26, _, rfl, P4, by omega, by decide, by decide, fun r5 H5 h50 h51 P5 b5 => ?_⟩
        rw [hl2] at h41
        obtain ⟨i4, rfl⟩ : ∃ j : Nat, r4 = j := ⟨r4.toNat, by omega⟩
        have h42 : i4 ≤ zs.length := by omega
        refine ⟨sizeLine_ge (by show 2 ≤ 10000; decide), fun t ht => ⟨t, _, rfl, .inl (.inl upd_same), rfl, _, _, rfl, _, _, rfl, rfl, ?_⟩⟩
        have bt : But p H (upd H5 t (.tup [.int i4, .int r5])) := But.trans b3 (But.trans b4 (But.trans b5 (But.of_same (same_new ht))))
        have Pt := P5.same (same_new (o := .tup [.int i4, .int r5]) ht)
        generalize upd H5 t (.tup [.int i4, .int r5]) = G at bt Pt ⊢
        refine ⟨_, rfl, _, rfl, by omega, by omega, fun D2 hD2 => lc_do walk_range (fun j H' => Same G H' ∧ ∃ ns : List (List Nat), ns.length = j ∧ NameL z m ns ∧ H' D2 = some (.lst (ns.map fun n => V.str (tx n)))) (fun _ => rfl) ⟨same_new hD2, [], rfl, fun x hx => by simp at hx, upd_same⟩ (fun _ _ _ _ => trivial) ?_ ?_⟩
        · rintro j x H6 H7 hj ⟨s6, ns, hn1, hn2, hD6⟩ ⟨rfl, rfl⟩
          have m0 := Int.emod_nonneg (r5 + (0 + (j : Int))) (show (26 : Int) ≠ 0 by decide)
          have m1 := Int.emod_lt_of_pos (r5 + (0 + (j : Int))) (show (0 : Int) < 26 by decide)
          obtain ⟨c4, hcz, hc4⟩ := signs_at (z := z) m0 (by omega)
          have len1 : ∀ l : List Nat, l.length ≤ 100 → (tx l).length ≤ 100 := fun l h => by rw [tx_len]; exact h
          have e1 : cutS (tx zs) none (some (i4 : Int)) = tx (zs.take i4) := cut_to _ _
          have e2 : cutS (tx zs) (some (i4 : Int)) none = tx (zs.drop i4) := cut_from _ _
          have e3 : (tx (zs.take i4) ++ (⟨#[c4]⟩ : Str) : Str) = tx (zs.take i4 ++ [c4]) := tx_app _ _
          have e4 : (tx (zs.take i4 ++ [c4]) ++ tx (zs.drop i4) : Str) = tx (zs.take i4 ++ [c4] ++ zs.drop i4) := tx_app _ _
          have tl : (zs.take i4).length ≤ 6 := by rw [List.length_take]; omega
          have dl : (zs.drop i4).length ≤ 6 := by rw [List.length_drop]; omega
          refine ⟨_, rfl, _, rfl, _, rfl, _, rfl, hl, _, rfl, _, rfl, _, rfl, _, _, rfl, rfl, _, _, rfl, rfl, (show (0 : Int) < 26 by decide), _, _, c4, rfl, rfl, hzs, hc4, _, _, rfl, rfl, ?_, _, rfl, _, rfl, _, rfl, _, rfl, hl, _, _, rfl, rfl, ?_, ?_⟩
          · rw [e1, tx_len]
            exact sizeLine_ge (by show _ + 1 ≤ 10000; omega)
          · rw [e1, e2, e3, tx_len, tx_len, List.length_append]
            exact sizeLine_ge (by show _ + 1 + _ ≤ 10000; omega)
          · rw [e1, e2, e3, e4]
            refine ⟨_, hD6, ?_, ?_, ns ++ [zs.take i4 ++ [c4] ++ zs.drop i4], by rw [List.length_append, hn1]; rfl, fun n hn => ?_, ?_⟩
            · rw [List.length_map]
              exact sizeLine_ge (by omega)
            · exact fun b o e => by
                rw [upd_ne (ne_of_none e hD2)]
                exact s6 b o e
            · rcases List.mem_append.mp hn with hn | hn
              · exact hn2 n hn
              · rw [List.mem_singleton.mp hn]
                have hlen : (zs.take i4 ++ [c4] ++ zs.drop i4).length = zs.length + 1 := by
                  rw [List.length_append, List.length_append, List.length_take, List.length_drop, List.length_singleton]
                  omega
                refine ⟨by omega, by omega, fun c hc => ?_⟩
                rcases List.mem_append.mp hc with hc | hc
                · rcases List.mem_append.mp hc with hc | hc
                  · exact hzs2 c (List.mem_of_mem_take hc)
                  · rw [List.mem_singleton.mp hc]
                    exact hcz
                · exact hzs2 c (List.mem_of_mem_drop hc)
            · rw [upd_same, List.map_append]
              rfl
        · rintro H6 ⟨s6, ns, hn1, hn2, hD6⟩
          have hDp : D2 ≠ p := Ne.symm (Pt.ne hD2)
          exact q D2 H6 ns (But.trans bt (But.of_same s6)) ((Pt.same s6).mono (by omega)) (But.gone bt hD2 hDp) hD6 (by omega) hn2
end
end K


set_option Elab.async false
set_option linter.all false
set_option maxRecDepth 100000
set_option maxHeartbeats 4000000
namespace K
open PySem PySem.Spec PyProof.Rows L2 U SkE
theorem greats_tx : Str.ofString "ABCDEFGHIJKLMNOPQRSTUVWXYZ" = tx greats := by decide +kernel
inductive Kn where
  | a | b | c | d | e
def Kn.cs : Kn → List Nat
  | .a => [119, 111, 114, 100]
  | .b => [102, 97, 117, 108, 116]
  | .c => [114, 105, 110, 103]
  | .d => [119, 97, 105, 116, 115]
  | .e => [111, 112, 101, 110]
def Kn.tl (z fa fb : List Nat) (zs : List (List Nat)) (wz : List Nat) : Kn → Tl
  | .a => .word z
  | .b => .fault fa fb
  | .c => .ring zs
  | .d => .waits wz
  | .e => .opn
theorem Kn.kd (z fa fb : List Nat) (zs : List (List Nat)) (wz : List Nat) (k : Kn) : (k.tl z fa fb zs wz).kd = k.cs := by cases k <;> rfl
theorem kn_at {r : Int} (h0 : 0 ≤ r) (h1 : r < 5) : ∃ k : Kn, atI [V.str (Str.ofString "word"), V.str (Str.ofString "fault"), V.str (Str.ofString "ring"), V.str (Str.ofString "waits"), V.str (Str.ofString "open")] r = some (.str (tx k.cs)) := by
  have h : r = 0 ∨ r = 1 ∨ r = 2 ∨ r = 3 ∨ r = 4 := by omega
  rcases h with rfl | rfl | rfl | rfl | rfl
  · exact ⟨.a, by decide +kernel⟩
  · exact ⟨.b, by decide +kernel⟩
  · exact ⟨.c, by decide +kernel⟩
  · exact ⟨.d, by decide +kernel⟩
  · exact ⟨.e, by decide +kernel⟩
def told (v1 v2 v3 v4 : V) : Kn → V
  | .a => v1
  | .b => v2
  | .c => v3
  | .d => v4
  | .e => .non
theorem told_is (v1 v2 v3 v4 : V) (k : Kn) : (valV (mergeK [] [((.inr (Str.ofString "word") : Key), v1), (.inr (Str.ofString "fault"), v2), (.inr (Str.ofString "ring"), v3), (.inr (Str.ofString "waits"), v4)]) (.inr (tx k.cs))).getD .non = told v1 v2 v3 v4 k := by
  cases k <;> rfl
/-- a word of five letters, no blank -/
def LowOk (l : List Nat) : Prop := NB l ∧ l.length ≤ 6 ∧ AL l
theorem fw_at {r : Int} (h0 : 0 ≤ r) (h1 : r < 5) : ∃ l, LowOk l ∧ atI [V.str (Str.ofString "number"), V.str (Str.ofString "pair"), V.str (Str.ofString "def"), V.str (Str.ofString "great"), V.str (Str.ofString "told")] r = some (.str (tx l)) := by
  have h : r = 0 ∨ r = 1 ∨ r = 2 ∨ r = 3 ∨ r = 4 := by omega
  unfold LowOk NB AL
  rcases h with rfl | rfl | rfl | rfl | rfl
  · exact ⟨[110, 117, 109, 98, 101, 114], by decide, by decide +kernel⟩
  · exact ⟨[112, 97, 105, 114], by decide, by decide +kernel⟩
  · exact ⟨[100, 101, 102], by decide, by decide +kernel⟩
  · exact ⟨[103, 114, 101, 97, 116], by decide, by decide +kernel⟩
  · exact ⟨[116, 111, 108, 100], by decide, by decide +kernel⟩
theorem w2_tx (l : List Nat) : (Str.ofString "[" ++ tx l ++ Str.ofString " 0]" : Str) = tx (91 :: l ++ [32, 48, 93]) := by
  rw [show Str.ofString "[" = tx [91] by decide +kernel, show Str.ofString " 0]" = tx [32, 48, 93] by decide +kernel, tx_app, tx_app]
  rfl
theorem w4_tx (l : List Nat) : (Str.ofString "[[1 " ++ tx l ++ Str.ofString "] [2 3]]" : Str) = tx ([91, 91, 49, 32] ++ l ++ [93, 32, 91, 50, 32, 51, 93, 93]) := by
  rw [show Str.ofString "[[1 " = tx [91, 91, 49, 32] by decide +kernel, show Str.ofString "] [2 3]]" = tx [93, 32, 91, 50, 32, 51, 93, 93] by decide +kernel, tx_app, tx_app]
theorem word_at {r : Int} {l : List Nat} (h0 : 0 ≤ r) (h1 : r < 3) (o : NumOk l) : ∃ z ts, WTok z ts ∧ z.length ≤ 30 ∧ AL z ∧ atI [V.str (tx l), V.str (Str.ofString "[" ++ tx l ++ Str.ofString " 0]"), V.str (Str.ofString "[[1 " ++ tx l ++ Str.ofString "] [2 3]]")] r = some (.str (tx z)) := by
  have hl := (num_short o).2
  have al := asc_num o
  have h : r = 0 ∨ r = 1 ∨ r = 2 := by omega
  rw [w2_tx, w4_tx]
  rcases h with rfl | rfl | rfl
  · exact ⟨_, _, .num o, by omega, al, rfl⟩
  · exact ⟨_, _, .two o, by simp; omega, al_app (al_cons (by decide) al) (by unfold AL; decide), rfl⟩
  · exact ⟨_, _, .four o, by simp; omega, al_app (al_app (by unfold AL; decide) al) (by unfold AL; decide), rfl⟩
structure KnotOk (z : List Nat) : Prop where
  gr : Gr z
  len : z.length ≤ 20
  asc : AL z
theorem gr_nb {l : List Nat} (h : ∀ c ∈ l, c ∈ greats) : NB l := fun e => by
  have := h 32 e
  revert this
  decide
theorem nb_app {a b : List Nat} (h1 : NB a) (h2 : NB b) : NB (a ++ b) := fun h => (List.mem_append.mp h).elim h1 h2
theorem knot_ok {n l : List Nat} (hn : 1 ≤ n.length ∧ n.length ≤ 6 ∧ ∀ c ∈ n, c ∈ greats) (hl : NumOk l) : KnotOk (n ++ [46] ++ l) := by
  have h13 := (num_short hl).2
  refine ⟨⟨nb_app (nb_app (gr_nb hn.2.2) (by unfold NB; decide)) (num_nb hl), ?_⟩, by simp; omega, al_app (al_app (fun c hc => asc_greats c (hn.2.2 c hc)) (by unfold AL; decide)) (asc_num hl)⟩
  cases n with
  | nil => simp at hn
  | cons c n => exact ⟨c, n ++ [46] ++ l, by simp, hn.2.2 c List.mem_cons_self⟩
structure RowOk (t : Tl) (m : Nat) (ys : List (List Nat)) : Prop where
  shp : ∃ ts, Shp t ts
  sh : Short t ys
  asc : ∀ z ∈ t.ws, AL z
  ascy : ∀ y ∈ ys, AL y
  nb : ∀ y ∈ ys, NB y
  so : sortedS (ys.map tx) = true
  m : m ≤ 10000
/-- what is drawn -/
def DrawnAt (H : Hp) (r : Addr) (t : Tl) (m : Nat) (ys : List (List Nat)) : Prop := ∃ wv ks, H r = some (.tup [.str (tx t.kd), wv, .int (m : Int), .ref ks]) ∧ WhatAt H wv t ∧ H ks = some (.tup (sts ys))
theorem WhatAt.butL {H H' : Hp} {p : Addr} {l : List V} {v : V} {t : Tl} (h : WhatAt H v t) (hp : H p = some (.lst l)) (b : But p H H') : WhatAt H' v t := by
  cases t with
  | word z => exact h
  | fault a b' =>
    obtain ⟨t, e, h⟩ := h
    exact ⟨t, e, b _ _ h (ne_of h hp (by intro z; cases z))⟩
  | ring zs =>
    obtain ⟨t, e, h⟩ := h
    exact ⟨t, e, b _ _ h (ne_of h hp (by intro z; cases z))⟩
  | waits z => exact h
  | opn => exact h
theorem DrawnAt.but {H H' : Hp} {r p : Addr} {t : Tl} {m : Nat} {ys : List (List Nat)} {c : Int} (h : DrawnAt H r t m ys) (P : Purse H p c) (b : But p H H') : DrawnAt H' r t m ys := by
  obtain ⟨wv, ks, h1, h2, h3⟩ := h
  obtain ⟨_, _, _, e, _⟩ := P
  exact ⟨wv, ks, b _ _ h1 (ne_of h1 e (by intro z; cases z)), h2.butL e b, b _ _ h3 (ne_of h3 e (by intro z; cases z))⟩
theorem DrawnAt.same {H H' : Hp} {r : Addr} {t : Tl} {m : Nat} {ys : List (List Nat)} (h : DrawnAt H r t m ys) (s : Same H H') : DrawnAt H' r t m ys := by
  obtain ⟨wv, ks, h1, h2, h3⟩ := h
  exact ⟨wv, ks, s _ _ h1, h2.same s, s _ _ h3⟩
def spDrawn : Sp := fun vs H Q _ => ∃ (p : Addr) (c : Int), vs = [.ref p] ∧ Purse H p c ∧ c < 2 ^ 38 ∧
  ∀ r H' t m ys, But p H H' → Purse H' p (c + 100) → DrawnAt H' r t m ys → RowOk t m ys → Q (.ref r) H'
theorem name_at {ns : List (List Nat)} {r : Int} (h0 : 0 ≤ r) (h1 : r < ns.length) : ∃ n, n ∈ ns ∧ atI (ns.map fun n => V.str (tx n)) r = some (.str (tx n)) := by
  obtain ⟨j, rfl⟩ : ∃ j : Nat, r = j := ⟨r.toNat, by omega⟩
  have h : j < ns.length := by omega
  exact ⟨ns[j], List.getElem_mem h, atI_nat (by rw [List.getElem?_map, List.getElem?_eq_getElem h]; rfl)⟩
theorem cut_names (ns : List (List Nat)) (j : Nat) : cutV (sts ns) none (some (j : Int)) = sts (ns.take j) := by
  unfold cutV
  rw [HT.sIx_none, HT.sIx_nat]
  unfold sts
  rw [List.length_map, List.drop_zero, Nat.sub_zero, ← List.map_take]
  by_cases h : j ≤ ns.length
  · rw [Nat.min_eq_left h]
  · rw [Nat.min_eq_right (by omega), List.take_of_length_le (Nat.le_refl _), List.take_of_length_le (by omega)]
theorem txs_of (ys : List Str) : ∃ l : List (List Nat), ys = l.map tx := by
  obtain ⟨l, h, _⟩ := perm_tx (zs := ys) (xs := ys.map (·.cps.toList)) (by
    rw [List.map_map]
    refine List.Perm.of_eq (((List.map_congr_left fun z _ => ?_).trans (List.map_id ys)).symm)
    exact (tx_of z).symm)
  exact ⟨l, h⟩
/-- names told for a set -/
structure NysOk (nys : List (List Nat)) : Prop where
  len : nys.length ≤ 6
  ok : ∀ y ∈ nys, 1 ≤ y.length ∧ y.length ≤ 6 ∧ ∀ c ∈ y, c ∈ greats
  so : sortedS (nys.map tx) = true
theorem row_ok {z fa fb wz : List Nat} {ts ysN nys : List (List Nat)} {k : Kn} {m : Nat} (wt : WTok z ts) (lz : z.length ≤ 30) (az : AL z) (ofa : LowOk fa) (ofb : KnotOk fb) (hys : ∀ y ∈ ysN, KnotOk y) (lys : ysN.length ≤ 4) (ow : 1 ≤ wz.length ∧ wz.length ≤ 6 ∧ ∀ c ∈ wz, c ∈ greats) (on2 : NysOk nys) (hm : m ≤ 10000) : RowOk (k.tl z fa fb ysN wz) m nys := by
  have s20 : (ysN.map List.length).sum ≤ 20 * ysN.length := sum_le20 fun y hy => (hys y hy).len
  have l2 := ofa.2.1
  have l3 := ofb.len
  refine ⟨?_, ⟨?_, ?_, by have := on2.len; omega, fun y hy => by have := (on2.ok y hy).2.1; omega⟩, ?_, fun y hy c hc => asc_greats c ((on2.ok y hy).2.2 c hc), fun y hy => gr_nb (on2.ok y hy).2.2, on2.so, hm⟩
  · cases k with
    | a => exact ⟨_, .word wt⟩
    | b => exact ⟨_, .fault ofa.1 ofb.gr.1⟩
    | c => exact ⟨_, .ring fun y hy => (hys y hy).gr⟩
    | d => exact ⟨_, .waits (gr_nb ow.2.2)⟩
    | e => exact ⟨_, .opn⟩
  · cases k with
    | c => show ysN.length ≤ 100; omega
    | _ => simp [Kn.tl, Tl.ws]
  · cases k with
    | a => simp [Kn.tl, Tl.ws]; omega
    | b => simp [Kn.tl, Tl.ws]; omega
    | c => show (ysN.map List.length).sum ≤ 1000; omega
    | d => simp [Kn.tl, Tl.ws]; omega
    | e => simp [Kn.tl, Tl.ws]
  · cases k with
    | a => intro x hx; rw [List.mem_singleton.mp hx]; exact az
    | b =>
      intro x hx
      simp only [Kn.tl, Tl.ws, List.mem_cons, List.not_mem_nil, or_false] at hx
      rcases hx with rfl | rfl
      · exact ofa.2.2
      · exact ofb.asc
    | c => exact fun x hx => (hys x hx).asc
    | d => intro x hx; rw [List.mem_singleton.mp hx]; exact fun c hc => asc_greats c (ow.2.2 c hc)
    | e => exact fun x hx => by simp [Kn.tl, Tl.ws] at hx
section
variable {P : Program} {w : World} {K : PySem.W.Frag} {mg : Str → Option Value} {base : Heap} {dS : Addr} (T : Txt K mg dS)
include T
theorem ok__law_drawn {f f1 f2 : Addr} {fd fd1 fd2 : FuncData} (F : Fun K "_law_drawn" "_law_drawn" s__law_drawn f fd) (h__law_take : Has P w K mg base "_law_take" 1 ["_law_purse_here", "_law_many"] spTake f1 fd1)
    (h__law_names : Has P w K mg base "_law_names" 2 ["_law_purse_here", "_law_many", "_law_signs", "_law_wide"] spNames f2 fd2) : FnOk P w K mg base CX0 3 f fd ["_law_purse_here"] spDrawn := by
  refine F.ok sc__law_drawn (fun vs H Q E h => ?_) (fun cdv A outer s H vs Q E hr h => ?_)
  · obtain ⟨p, c, rfl, _⟩ := h
    rfl
  · obtain ⟨p, c, rfl, P0, hc, q⟩ := h
    refine ⟨_, (pss_cons (ps_set (i := 1) sc__law_drawn.nd rfl (.inr rfl) (pe_callH h__law_names (hr.mono (by first | decide | omega)) (by rfl) (pa_cons (pv 0) (pa_cons pe_int (pa_cons pe_str (pa_cons pe_int pa_nil))))))
      (pss_cons (ps_set (i := 2) sc__law_drawn.nd rfl (.inl rfl) (pe_ix ix_list (pe_lst (pa_cons pe_str (pa_cons pe_str (pa_cons pe_str (pa_cons pe_str (pa_cons pe_str pa_nil)))))) (pe_callH h__law_take (hr.mono (by first | decide | omega)) (by rfl) (pa_cons (pv 0) (pa_cons pe_int pa_nil))) (fun _ _ => rfl)))
      (pss_cons (ps_setLc (i := 3) (own := [("_law_k", 9)]) (g := gName 9) (tt := tYes) (te := tOp _ (tOp _ (tOp (rIxL K) (tVar 1) (tCall spTake [] E0 (tCons (tVar 0) (tCons (tC (V.int 6)) tNil)))) (tC (V.str (Str.ofString ".")))) _) rfl sc__law_drawn.nd rfl rfl (sw_true rfl rfl rfl rfl) (pi_range1 (by rfl) T.z_range (pa_cons (pe_op op_add pe_int (pe_callH h__law_take (hr.mono (by first | decide | omega)) (by rfl) (pa_cons (pv 0) (pa_cons pe_int pa_nil)))) pa_nil)) (blkOk_by (N := nm__law_drawn) (sc := defScope s__law_drawn) (by decide +kernel)) (fun _ _ _ _ _ => pg_name (i := 9) sc__law_drawn.nd rfl (.inl rfl)) (fun _ _ _ _ _ => pts_nil) (fun _ _ _ _ _ => (pe_op op_add_str (pe_op op_add_str (pe_ix ix_list (pv 1) (pe_callH h__law_take (hr.mono (by first | decide | omega)) (by rfl) (pa_cons (pv 0) (pa_cons pe_int pa_nil))) (fun _ _ => rfl)) pe_str) (pe_callTy call_str_int (by rfl) T.z_str (by decide +kernel) (pa_cons (pe_op op_add pe_int (pe_callH h__law_take (hr.mono (by first | decide | omega)) (by rfl) (pa_cons (pv 0) (pa_cons pe_int pa_nil)))) pa_nil)))))
      (pss_cons (ps_set (i := 4) sc__law_drawn.nd rfl (.inl rfl) (pe_callTy call_str_int (by rfl) T.z_str (by decide +kernel) (pa_cons (pe_op op_sub (pe_callH h__law_take (hr.mono (by first | decide | omega)) (by rfl) (pa_cons (pv 0) (pa_cons pe_int pa_nil))) pe_int) pa_nil)))
      (pss_cons (ps_set (i := 5) sc__law_drawn.nd rfl (.inl rfl) (pe_ix ix_list (pe_lst (pa_cons (pv 4) (pa_cons (pe_op op_add_str (pe_op op_add_str pe_str (pv 4)) pe_str) (pa_cons (pe_op op_add_str (pe_op op_add_str pe_str (pv 4)) pe_str) pa_nil)))) (pe_callH h__law_take (hr.mono (by first | decide | omega)) (by rfl) (pa_cons (pv 0) (pa_cons pe_int pa_nil))) (fun _ _ => rfl)))
      (pss_cons (ps_set (i := 6) sc__law_drawn.nd rfl (.inl rfl) (pe_tup (pa_cons (pe_ix ix_list (pe_lst (pa_cons pe_str (pa_cons pe_str (pa_cons pe_str (pa_cons pe_str (pa_cons pe_str pa_nil)))))) (pe_callH h__law_take (hr.mono (by first | decide | omega)) (by rfl) (pa_cons (pv 0) (pa_cons pe_int pa_nil))) (fun _ _ => rfl)) (pa_cons (pe_ix ix_list (pv 3) pe_int (fun _ _ => rfl)) pa_nil))))
      (pss_cons (ps_set (i := 7) sc__law_drawn.nd rfl (.inl rfl) (pe_dget2 (Nat.lt_of_le_of_lt (Nat.add_le_add_left (by decide) _) hr.units) (pe_disp (pps_cons pe_str (pv 5) (pps_cons pe_str (pv 6) (pps_cons pe_str (pe_callTy call_tuple_of (by rfl) T.z_tuple (by decide +kernel) (pa_cons (pe_callB (cr_sortedOf rfl) (by rfl) T.z_sorted (by decide +kernel) (pa_cons (pe_callTy (cr_setOf rfl) (by rfl) T.z_set (by decide +kernel) (pa_cons (pv 3) pa_nil)) pa_nil)) pa_nil)) (pps_cons pe_str (pe_ix ix_list (pv 1) pe_int (fun _ _ => rfl)) pps_nil)))) rfl rfl (by simp) (Nat.le_of_ble_eq_true rfl)) (pv 2) pe_non ⟨by rfl, by rfl, by rfl, by rfl⟩))
      (Evl.pss_cut (ps_set (i := 8) sc__law_drawn.nd rfl (.inl rfl) (pe_ifExp (pt_cmpR op_ne (pv 2) pe_str (nomark _)) (pe_callTy call_tuple_of (by rfl) T.z_tuple (by decide +kernel) (pa_cons (pe_callB cr_sortedS (by rfl) T.z_sorted (by decide +kernel) (pa_cons (pe_slice sl_list (pe_slice sl_list (pv 1) po_none (po_some pe_int)) po_none (po_some (pe_callH h__law_take (hr.mono (by first | decide | omega)) (by rfl) (pa_cons (pv 0) (pa_cons pe_int pa_nil))))) pa_nil)) pa_nil)) (pe_tup pa_nil)))
      (pss_one (ps_ret (pe_tup (pa_cons (pv 2) (pa_cons (pv 7) (pa_cons (pe_op op_add pe_int (pe_callH h__law_take (hr.mono (by first | decide | omega)) (by rfl) (pa_cons (pv 0) (pa_cons pe_int pa_nil)))) (pa_cons (pv 8) pa_nil))))))))))))))), ?_⟩
    have e38 : (2 : Int) ^ 38 = 274877906944 := by decide
    have e39 : (2 : Int) ^ 39 = 549755813888 := by decide
    have e40 : (2 : Int) ^ 40 = 1099511627776 := by decide
    have pn : ∀ {a : Addr} {G : Hp} {x : Int}, Purse G p x → G a = none → a ≠ p := fun P e => Ne.symm (P.ne e)
    refine ⟨_, rfl, p, c, greats, 6, 6, by rw [greats_tx]; rfl, P0, by omega, by decide, by decide, by decide, by decide, fun aP H1 ns b1 P1 nP eP l6 oP => ?_⟩
    have nPp := pn P0 nP
    refine ⟨sizeLine_ge (by show 5 ≤ 10000; decide), fun q1 hq1 => ⟨_, rfl, p, 5, _, rfl, P1.same (same_new hq1), by omega, by decide, by decide, fun r1 H2 hr0 hr1 P2 b2 => ?_⟩⟩
    obtain ⟨k, hk⟩ := kn_at hr0 hr1
    have nq1 : q1 ≠ p := pn P1 hq1
    refine ⟨q1, _, _, _, rfl, rfl, .inl (.inl (b2 _ _ upd_same nq1)), hk, ?_⟩
    have bP2 : But p H1 H2 := (But.of_same (same_new hq1)).trans b2
    have b12 : But p H H2 := b1.trans bP2
    have eP2 := bP2 _ _ eP nPp
    clear b2 hk hq1 b1 bP2
    refine ⟨_, rfl, p, 4, _, rfl, P2, by omega, by decide, by decide, fun r2 H3 hr20 hr21 P3 b3 => ?_⟩
    have b13 := b12.trans b3
    have eP3 := b3 _ _ eP2 nPp
    refine ⟨_, _, rfl, rfl, _, rfl, by omega, by omega, fun D hD => lc_do walk_range (fun j H' => Purse H' p (c + 12 + 2 * j) ∧ But p H3 H' ∧ ∃ zs : List (List Nat), zs.length = j ∧ (∀ z ∈ zs, KnotOk z) ∧ H' D = some (.lst (sts zs))) (fun _ => rfl) ?_ (fun _ _ _ _ => trivial) ?_ ?_⟩
    · have n1 := P3.ne hD
      exact ⟨(P3.put n1).mono (by omega), But.of_same (same_new hD), [], rfl, fun x hx => by simp at hx, upd_same⟩
    · have nD := P3.ne hD
      rintro j x H4 H5 hj ⟨P4, b4, zs, hz1, hz2, eD⟩ ⟨rfl, rfl⟩
      refine ⟨_, rfl, _, rfl, p, 6, _, rfl, P4, by omega, by decide, by decide, fun r4 H5 h40 h41 P5 b5 => ?_⟩
      obtain ⟨nm, hn1, hn2⟩ := name_at (ns := ns) h40 (by omega)
      have on := oP nm hn1
      have b35 := b4.trans b5
      refine ⟨aP, _, _, _, rfl, rfl, .inl (.inl (b35 _ _ eP3 nPp)), hn2, ?_⟩
      have z1 : (Str.ofString ".").length = 1 := by decide +kernel
      have z1t : Str.ofString "." = tx [46] := by decide +kernel
      refine ⟨_, _, rfl, rfl, by rw [tx_len, z1]; exact sizeLine_ge (by omega), ?_⟩
      refine ⟨_, rfl, p, 30, _, rfl, P5, by omega, by decide, by decide, fun r6 H6 h60 h61 P6 b6 => ?_⟩
      have hb : (1 + r6).natAbs < 10 ^ 9 := by omega
      have on2 := nL_ok (n := 1 + r6) (Nat.lt_trans hb (by decide))
      have s13 := (num_short on2).2
      refine ⟨_, _, rfl, rfl, _, rfl, log_num hb, _, _, rfl, rfl, ?_, ?_⟩
      · rw [z1t, tx_app, nL_tx, tx_len, tx_len]
        exact sizeLine_ge (by simp; omega)
      rw [z1t, tx_app, nL_tx, tx_app]
      have b36 := b35.trans b6
      have eD6 := b6 _ _ (b5 _ _ eD (Ne.symm nD)) (Ne.symm nD)
      refine ⟨_, eD6, by rw [sts, List.length_map]; exact sizeLine_ge (by omega), (P6.put nD).mono (by omega), But.updN b36 hD, zs ++ [nm ++ [46] ++ nL (1 + r6)], by rw [List.length_append, hz1]; rfl, fun z hz => ?_, ?_⟩
      · rcases List.mem_append.mp hz with hz | hz
        · exact hz2 z hz
        · rw [List.mem_singleton.mp hz]
          exact knot_ok on on2
      · rw [upd_same, ← sts_app]
        rfl
    · have nDp : D ≠ p := Ne.symm (P3.ne hD)
      rintro H4 ⟨P4, b4, zs, hz1, hz2, eD⟩
      have lz : 1 ≤ zs.length ∧ zs.length ≤ 4 := by omega
      have b14 := b13.trans b4
      have eP4 := b4 _ _ eP3 nPp
      have P4 : Purse H4 p (c + 20) := P4.mono (by omega)
      clear b4 b13 b12 b3
      -- the number, the word
      refine ⟨_, rfl, p, 2000, _, rfl, P4, by omega, by decide, by decide, fun r5 H5 h50 h51 P5 b5 => ?_⟩
      have hb : (r5 - 1000).natAbs < 10 ^ 9 := by omega
      have on := nL_ok (n := r5 - 1000) (Nat.lt_trans hb (by decide))
      have s13 := (num_short on).2
      refine ⟨_, _, rfl, rfl, _, rfl, log_num hb, ?_⟩
      rw [nL_tx]
      generalize nL (r5 - 1000) = l at on s13 ⊢
      have y1 : (Str.ofString "[").length = 1 := by decide +kernel
      have y2 : (Str.ofString " 0]").length = 3 := by decide +kernel
      have y3 : (Str.ofString "[[1 ").length = 4 := by decide +kernel
      have y4 : (Str.ofString "] [2 3]]").length = 8 := by decide +kernel
      have app : ∀ a b : Str, (a ++ b).length = a.length + b.length := fun a b => by
        show (a.cps ++ b.cps).size = _
        simp [Str.length]
      refine ⟨_, rfl, _, rfl, _, _, rfl, rfl, by rw [y1, tx_len]; exact sizeLine_ge (by omega), _, _, rfl, rfl, by rw [app, y1, y2, tx_len]; exact sizeLine_ge (by omega), _, rfl, _, _, rfl, rfl, by rw [y3, tx_len]; exact sizeLine_ge (by omega), _, _, rfl, rfl, by rw [app, y3, y4, tx_len]; exact sizeLine_ge (by omega), sizeLine_ge (by show 3 ≤ 10000; decide), fun q2 hq2 => ?_⟩
      have nq2 := pn P5 hq2
      refine ⟨_, rfl, p, 3, _, rfl, P5.same (same_new hq2), by omega, by decide, by decide, fun r6 H6 h60 h61 P6 b6 => ?_⟩
      obtain ⟨z, ts, wt, lzz, az, hat⟩ := word_at h60 h61 on
      refine ⟨q2, _, _, _, rfl, rfl, .inl (.inl (b6 _ _ upd_same nq2)), hat, ?_⟩
      have b46 : But p H4 H6 := b5.trans ((But.of_same (same_new hq2)).trans b6)
      have b16 := b14.trans b46
      have eP6 := b46 _ _ eP4 nPp
      have eD6 := b46 _ _ eD nDp
      clear b6 b5 hat b14 b46 eP4 eD
      -- the fault
      refine ⟨sizeLine_ge (by show 5 ≤ 10000; decide), fun q3 hq3 => ⟨_, rfl, p, 5, _, rfl, P6.same (same_new hq3), by omega, by decide, by decide, fun r7 H7 h70 h71 P7 b7 => ?_⟩⟩
      obtain ⟨fa, ofa, hfa⟩ := fw_at h70 h71
      have nq3 := pn P6 hq3
      have b67 : But p H6 H7 := (But.of_same (same_new hq3)).trans b7
      have b17 := b16.trans b67
      have eP7 := b67 _ _ eP6 nPp
      have eD7 := b67 _ _ eD6 nDp
      obtain ⟨fb, hfb1, hfb2⟩ := name_at (ns := zs) (r := 0) (by decide) (by omega)
      refine ⟨q3, _, _, _, rfl, rfl, .inl (.inl (b7 _ _ upd_same nq3)), hfa, _, rfl, D, _, _, _, rfl, rfl, .inl (.inl eD7), hfb2, sizeLine_ge (by show 2 ≤ 10000; decide), fun q4 hq4 => ?_⟩
      have s8 : Same H7 (upd H7 q4 (.tup [.str (tx fa), .str (tx fb)])) := same_new hq4
      have e8 : (upd H7 q4 (.tup [.str (tx fa), .str (tx fb)])) q4 = some (.tup [.str (tx fa), .str (tx fb)]) := upd_same
      have P8 := P7.same s8
      have b18 := b17.trans (But.of_same s8)
      have eP8 := s8 _ _ eP7
      have eD8 := s8 _ _ eD7
      generalize upd H7 q4 (.tup [.str (tx fa), .str (tx fb)]) = H8 at s8 e8 P8 b18 eP8 eD8 ⊢
      clear b7 hfa b16 b67 b17 eP7 eD7 eP6 eD6 s8 hfb2
      -- what is told
      refine fun pd hpd => ⟨_, rfl, _, rfl, _, rfl, D, zs.map tx, rfl, .inl (.inl (by rw [upd_ne (ne_of_none eD8 hpd), eD8, List.map_map]; rfl)), ?_, fun a ls s1 ll ha => ⟨a, ls, rfl, upd_same, ?_, fun ys q5 pm so hq5 => ⟨q5, _, rfl, .inl ⟨.inl (.inl upd_same), fun tt htt => ?_⟩⟩⟩⟩
      · rw [List.length_map]
        exact Nat.lt_of_le_of_lt (show zs.length + 1 ≤ 5 by omega) (by decide)
      · rw [List.length_map] at ll
        omega
      have sA : Same H8 (upd H8 pd (.dK [])) := same_new hpd
      have eA : (upd H8 pd (.dK [])) pd = some (.dK []) := upd_same
      generalize upd H8 pd (.dK []) = HA at sA eA ha hq5 htt ⊢
      have sB : Same HA (upd (upd (upd HA a (SetSO w a ls)) q5 (.lst (ys.map V.str))) tt (.tup (ys.map V.str))) := (same_new ha).trans ((same_new hq5).trans (same_new htt))
      have eB : (upd (upd (upd HA a (SetSO w a ls)) q5 (.lst (ys.map V.str))) tt (.tup (ys.map V.str))) tt = some (.tup (ys.map V.str)) := upd_same
      have sAB := sA.trans sB
      obtain ⟨wz, hwz1, hwz2⟩ := name_at (ns := ns) (r := 5) (by decide) (by omega)
      refine ⟨_, rfl, aP, _, _, _, rfl, rfl, .inl (.inl (sAB _ _ eP8)), hwz2, sB _ _ eA, [((.inr (Str.ofString "word") : Key), V.str (tx z)), (.inr (Str.ofString "fault"), .ref q4), (.inr (Str.ofString "ring"), .ref tt), (.inr (Str.ofString "waits"), .str (tx wz))], rfl, by show 4 ≤ 15; decide, pd, rfl, .inl ⟨_, .inl upd_same⟩, _, rfl, _, .inl ⟨_, .inr (tx k.cs), .inl upd_same, rfl, rfl⟩, ?_⟩
      rw [told_is]
      have sC : Same H8 (upd (upd (upd (upd HA a (SetSO w a ls)) q5 (.lst (ys.map V.str))) tt (.tup (ys.map V.str))) pd (.dK (mergeK [] [((.inr (Str.ofString "word") : Key), V.str (tx z)), (.inr (Str.ofString "fault"), .ref q4), (.inr (Str.ofString "ring"), .ref tt), (.inr (Str.ofString "waits"), .str (tx wz))]))) := upd_new hpd sAB
      have eC : (upd (upd (upd (upd HA a (SetSO w a ls)) q5 (.lst (ys.map V.str))) tt (.tup (ys.map V.str))) pd (.dK (mergeK [] [((.inr (Str.ofString "word") : Key), V.str (tx z)), (.inr (Str.ofString "fault"), .ref q4), (.inr (Str.ofString "ring"), .ref tt), (.inr (Str.ofString "waits"), .str (tx wz))]))) tt = some (.tup (ys.map V.str)) := by
        rw [upd_ne (ne_of eB (sB _ _ eA) (by intro z; cases z))]
        exact eB
      obtain ⟨ysN, rfl⟩ := txs_of ys
      have hys : ∀ y ∈ ysN, KnotOk y := fun y hy => by
        have h1 : tx y ∈ ls := pm.mem_iff.mp (List.mem_map.mpr ⟨y, hy, rfl⟩)
        obtain ⟨z', hz', e⟩ := List.mem_map.mp ((s1.2 _).mp h1)
        exact tx_inj e ▸ hz2 z' hz'
      have lys : ysN.length ≤ 4 := by
        have h1 := pm.length_eq
        rw [List.length_map] at h1 ll
        omega
      have wC := (show WhatAt _ (told (.str (tx z)) (.ref q4) (.ref tt) (.str (tx wz)) k) (k.tl z fa fb ysN wz) from by
        cases k with
        | a => rfl
        | b => exact ⟨q4, rfl, sC _ _ e8⟩
        | c => exact ⟨tt, rfl, by rw [eC, List.map_map]; rfl⟩
        | d => rfl
        | e => rfl)
      have P9 := P8.same sC
      have b19 := b18.trans (But.of_same sC)
      have eP9 := sC _ _ eP8
      refine ⟨fun σ H' => ∃ (ks : Addr) (nys : List (List Nat)) (x9 : Option V), σ = [some (.ref p), some (.ref aP), some (.str (tx k.cs)), some (.ref D), some (.str (tx l)), some (.str (tx z)), some (.ref q4), some (told (.str (tx z)) (.ref q4) (.ref tt) (.str (tx wz)) k), some (.ref ks), x9] ∧ But p H H' ∧ Purse H' p (c + 60) ∧ H' ks = some (.tup (sts nys)) ∧ NysOk nys ∧ WhatAt H' (told (.str (tx z)) (.ref q4) (.ref tt) (.str (tx wz)) k) (k.tl z fa fb ysN wz), ?_, ?_⟩
      · refine ⟨_, rfl, rfl, _, rfl, ?_⟩
        have ho : (!decide (V.str (tx k.cs) = V.str (Str.ofString "open"))) = !(k.tl z fa fb ysN wz).open? := by
          rw [← Kn.kd z fa fb ysN wz k]
          exact kd_open _
        rw [ho]
        cases (k.tl z fa fb ysN wz).open? with
        | true =>
          refine iteF ⟨sizeLine_ge (by show 0 ≤ 10000; decide), fun t2 ht2 => ⟨t2, [], _, rfl, ?_, (P9.same (same_new ht2)).mono (by omega), upd_same, ⟨Nat.zero_le _, fun y hy => by simp at hy, rfl⟩, wC.same (same_new ht2)⟩⟩
          exact b19.trans (But.of_same (same_new ht2))
        | false =>
          refine iteT ⟨_, rfl, _, rfl, aP, _, rfl, .inl (.inl eP9), fun p1 hp1 => ?_⟩
          have sp1 := same_new (o := .lst (cutV (sts ns) none (some 5))) hp1
          have np1 := pn P9 hp1
          refine ⟨_, rfl, p, 5, _, rfl, P9.same sp1, by omega, by decide, by decide, fun r8 G h80 h81 PG bG => ⟨_, rfl, p1, _, rfl, .inl (.inl (bG _ _ upd_same np1)), fun p2 hp2 => ?_⟩⟩
          obtain ⟨j, rfl⟩ : ∃ j : Nat, r8 = j := ⟨r8.toNat, by omega⟩
          have ec : cutV (cutV (sts ns) none (some 5)) none (some (j : Int)) = ((((ns.take 5).take j).map tx).map V.str) := by
            rw [show (5 : Int) = ((5 : Nat) : Int) from rfl, cut_names, cut_names, List.map_map]
            rfl
          have bpp : But p H G := b19.trans ((But.of_same sp1).trans bG)
          have np2 := pn PG hp2
          have e2 : (upd G p2 (.lst (cutV (cutV (sts ns) none (some 5)) none (some (j : Int))))) p2 = some (.lst ((((ns.take 5).take j).map tx).map V.str)) := by
            rw [upd_same, ec]
          refine ⟨p2, ((ns.take 5).take j).map tx, rfl, .inl (.inl e2), ?_, fun ys2 q6 pm2 so2 hq6 => ⟨q6, _, rfl, .inl ⟨.inl (.inl upd_same), fun t2 ht2 => ?_⟩⟩⟩
          · rw [List.length_map, List.length_take, List.length_take]
            omega
          obtain ⟨nys, rfl, pmn⟩ := perm_tx pm2
          have sG := (same_new (o := .lst (cutV (cutV (sts ns) none (some 5)) none (some (j : Int)))) hp2).trans ((same_new (o := .lst ((nys.map tx).map V.str)) hq6).trans (same_new (o := .tup ((nys.map tx).map V.str)) ht2))
          obtain ⟨_, _, _, ep, _⟩ := P9
          refine ⟨t2, nys, _, rfl, bpp.trans (But.of_same sG), (PG.same sG).mono (by omega), ?_, ⟨?_, fun y hy => oP y ?_, so2⟩, ((wC.same sp1).butL (sp1 _ _ ep) bG).same sG⟩
          · rw [upd_same, List.map_map]
            rfl
          · rw [pmn.length_eq, List.length_take, List.length_take]
            omega
          · exact List.mem_of_mem_take (List.mem_of_mem_take (pmn.mem_iff.mp hy))
      · rintro σ G ⟨ks, nys, x9, rfl, bG, PG, ek, on2, wG⟩
        refine ⟨_, rfl, _, rfl, _, rfl, p, 5000, _, rfl, PG, by omega, by decide, by decide, fun r9 G2 h90 h91 PG2 bG2 => ⟨_, _, rfl, rfl, _, rfl, sizeLine_ge (by show 4 ≤ 10000; decide), fun r hr => ?_⟩⟩
        obtain ⟨m, rfl⟩ : ∃ m : Nat, r9 = m := ⟨r9.toNat, by omega⟩
        obtain ⟨_, _, _, ep, _⟩ := PG
        have sR := same_new (o := .tup [.str (tx k.cs), told (.str (tx z)) (.ref q4) (.ref tt) (.str (tx wz)) k, .int (1 + (m : Int)), .ref ks]) hr
        refine q r _ (k.tl z fa fb ysN wz) (1 + m) nys ((bG.trans bG2).trans (But.of_same sR)) ((PG2.same sR).mono (by omega)) ⟨_, ks, ?_, (wG.butL ep bG2).same sR, sR _ _ (bG2 _ _ ek (ne_of ek ep (by intro z; cases z)))⟩ ?_
        · rw [upd_same, Kn.kd, Int.natCast_add]
          rfl
        · exact row_ok wt lzz az ofa (hz2 fb hfb1) hys lys (oP wz hwz1) on2 (by omega)
end
end K


set_option Elab.async false
set_option linter.all false
set_option maxRecDepth 100000
set_option maxHeartbeats 4000000
namespace K
open PySem PySem.Spec PyProof.Rows L2 U SkE
def spLText : Sp := fun vs H Q _ => ∃ (t : Tl) (wv : V) (m : Nat) (ks : Addr) (ys : List (List Nat)), vs = [.str (tx t.kd), wv, .int (m : Int), .ref ks] ∧ WhatAt H wv t ∧ H ks = some (.tup (sts ys)) ∧ RowOk t m ys ∧ ∀ H', Same H H' → Q (.str (tx (rowL t m ys))) H'
theorem by_rep (ys : List (List Nat)) : ∃ (k : Int), (if (!decide (ys.map tx = [])) = true then (1 : Int) else 0) = k ∧ 0 ≤ k ∧ k ≤ 1 ∧ (List.replicate k.toNat [V.str (Str.ofString "by")]).flatten ++ sts ys = sts (tailW ys) := by
  by_cases h : ys = []
  · subst h
    exact ⟨0, rfl, by decide, by decide, rfl⟩
  · have h2 : ys.map tx ≠ [] := by
      intro e
      exact h (List.map_eq_nil_iff.mp e)
    refine ⟨1, by rw [decide_eq_false h2]; rfl, by decide, by decide, ?_⟩
    rw [tailW, if_neg h, by_tx]
    rfl
theorem dpAll_sts {K : PySem.W.Frag} {H : Hp} (xs : List (List Nat)) : DpAll K H (sts xs) ((xs.map tx).map PyData.str) := by
  have := dpAll_strs (K := K) (H := H) (xs.map tx)
  rw [List.map_map] at this
  exact this
theorem asc_map {xs : List (List Nat)} (h : ∀ x ∈ xs, AL x) : ∀ x ∈ xs.map tx, Asc x := fun x hx => by
  obtain ⟨y, hy, rfl⟩ := List.mem_map.mp hx
  exact Asc.tx (h y hy)
theorem shaped_tup {xs : List Str} (h : ∀ x ∈ xs, Asc x) : SeqAt.shaped (.tuple (xs.map PyData.str)) = true := by
  have := shaped_strs h
  simp only [SeqAt.shaped, PyData.canLay0, PyData.depth] at this ⊢
  exact this
theorem eqv_nil (xs : List Str) : PyData.eqv (.tuple (xs.map PyData.str)) (.tuple []) = decide (xs = []) := by
  rw [PyData.eqv]
  exact eqvAll_strs xs []
section
variable {P : Program} {w : World} {K : PySem.W.Frag} {mg : Str → Option Value} {base : Heap} {dS : Addr} (T : Txt K mg dS)
include T
theorem ok__law_text {f : Addr} {fd : FuncData} (F : Fun K "_law_text" "_law_text" s__law_text f fd) : FnOk P w K mg base CX0 1 f fd ["_law_word_of", "_law_told_of", "_law_many", "_law_set_of"] spLText := by
  refine F.ok sc__law_text (fun vs H Q E h => ?_) (fun cdv A outer s H vs Q E hr h => ?_)
  · obtain ⟨t, wv, m, ks, ys, rfl, _⟩ := h
    rfl
  · obtain ⟨t, wv, m, ks, ys, rfl, wa, hk, ok, q⟩ := h
    refine ⟨_, (Evl.pss_cut (ps_set (i := 4) sc__law_text.nd rfl (.inl rfl) (pe_op op_cat (pe_op op_cat (pe_lst (pa_cons (pv 0) pa_nil)) (pe_ifExp (pt_val (pe_callB call_isi (by rfl) T.z_isinstance (by decide +kernel) (pa_cons (pv 1) (pa_cons (pe_bltn (v := .ty "str") (u := .type "str") (by rfl) T.z_str (by decide +kernel) rfl) pa_nil)))) (pe_lst (pa_cons (pv 1) pa_nil)) (pe_callTy call_list_of (by rfl) T.z_list (by decide +kernel) (pa_cons (pe_orT (pv 1) (pe_one (pe_tup pa_nil))) pa_nil)))) (pe_lst (pa_cons (pe_callTy call_str_int (by rfl) T.z_str (by decide +kernel) (pa_cons (pv 2) pa_nil)) pa_nil))))
      (pss_one (ps_ret (pe_join pe_str (pe_op op_cat (pe_op op_cat (pv 4) (pe_op op_rep (pe_lst (pa_cons pe_str pa_nil)) (pe_callTy call_int1 (by rfl) T.z_int (by decide +kernel) (pa_cons (pe_cmpR (op_neD hr.units) (pv 3) (pe_tup pa_nil) (nomark _)) pa_nil)))) (pe_callTy call_list_of (by rfl) T.z_list (by decide +kernel) (pa_cons (pv 3) pa_nil))))))), ?_⟩
    have hm := ok.m
    have hn : ((m : Int)).natAbs < 10 ^ 9 := by omega
    have lw := ok.sh.lw
    have lx := ok.sh.lx
    refine ⟨fun σ H' => ∃ q5, σ = [some (.str (tx t.kd)), some wv, some (.int m), some (.ref ks), some (.ref q5)] ∧ Same H H' ∧ H' q5 = some (.lst (sts (t.kd :: (t.ws ++ [nL m])))), ?_, ?_⟩
    · refine ⟨_, rfl, sizeLine_ge (by show 1 ≤ 10000; decide), fun q1 hq1 => ?_⟩
      have s1 : Same H (upd H q1 (.lst [.str (tx t.kd)])) := same_new hq1
      have e1 : (upd H q1 (.lst [.str (tx t.kd)])) q1 = some (.lst (sts [t.kd])) := upd_same
      generalize upd H q1 (.lst [.str (tx t.kd)]) = H1 at s1 e1 ⊢
      have wa1 := wa.same s1
      have three : (t.two = true ∧ ∃ wt, wv = .ref wt ∧ H1 wt = some (.tup (sts t.ws))) ∨ (t.open? = true ∧ wv = .non) ∨ ∃ z, wv = .str (tx z) ∧ t.ws = [z] := by
        cases h2 : t.two with
        | true => exact .inl ⟨rfl, wa1.two h2⟩
        | false =>
          cases h3 : t.open? with
          | true =>
            refine .inr (.inl ⟨rfl, ?_⟩)
            cases t <;> first | exact wa | cases h3
          | false => exact .inr (.inr (wa1.one h2 h3))
      rcases three with ⟨_, wt, rfl, ew⟩ | ⟨h3, rfl⟩ | ⟨z, rfl, ew⟩
      · refine ⟨_, rfl, _, _, .type "tuple", _, false, rfl, .ty "str", .base (.tup ew), kit_ty rfl, false, rfl, iteF ?_⟩
        by_cases hw : t.ws = []
        · refine ⟨_, rfl, false, .inr (.inl ⟨_, .inl (.inl ew), by rw [hw]; rfl⟩), iteF ⟨sizeLine_ge (by show 0 ≤ 10000; decide), fun qt hqt => ⟨qt, [], rfl, .inr (.inl (.inl upd_same)), fun q2 hq2 => ?_⟩⟩⟩
          have s2 := (same_new (o := .tup []) hqt).trans (same_new (o := .lst []) hq2)
          have e2 : (upd (upd H1 qt (.tup [])) q2 (.lst [])) q2 = some (.lst (sts t.ws)) := by rw [upd_same, hw]; rfl
          generalize upd (upd H1 qt (.tup [])) q2 (.lst []) = H2 at s2 e2 ⊢
          have sz2 : (sts [t.kd] ++ sts t.ws).length ≤ 1000 := by
            rw [sts_app, sts, List.length_map, List.length_append]
            show 1 + t.ws.length ≤ 1000
            omega
          refine ⟨q1, q2, _, _, rfl, rfl, s2 _ _ e1, e2, by rw [← List.length_append]; exact sizeLine_ge (by omega), fun q3 hq3 => ?_⟩
          have s3 := s2.trans (same_new (o := .lst (sts [t.kd] ++ sts t.ws)) hq3)
          have e3 : (upd H2 q3 (.lst (sts [t.kd] ++ sts t.ws))) q3 = some (.lst (sts [t.kd] ++ sts t.ws)) := upd_same
          generalize upd H2 q3 (.lst (sts [t.kd] ++ sts t.ws)) = H3 at s3 e3 ⊢
          refine ⟨_, rfl, _, rfl, log_num hn, sizeLine_ge (by show 1 ≤ 10000; decide), fun q4 hq4 => ⟨q3, q4, _, _, rfl, rfl, (same_new hq4) _ _ e3, upd_same, by rw [show ([V.str (Str.ofString (toString (m : Int)))]).length = 1 from rfl]; exact sizeLine_ge (by omega), fun q5 hq5 => ⟨q5, rfl, s1.trans (s3.trans ((same_new hq4).trans (same_new hq5))), ?_⟩⟩⟩
          rw [upd_same, nL_tx, show [V.str (tx (nL (m : Int)))] = sts [nL m] from rfl, sts_app, sts_app]
          simp
        · refine ⟨_, rfl, true, .inr (.inl ⟨_, .inl (.inl ew), by cases hl : t.ws with | nil => exact absurd hl hw | cons y ys => rfl⟩), iteT ⟨wt, _, rfl, .inr (.inl (.inl ew)), fun q2 hq2 => ?_⟩⟩
          have s2 := same_new (o := .lst (sts t.ws)) hq2
          have e2 : (upd H1 q2 (.lst (sts t.ws))) q2 = some (.lst (sts t.ws)) := upd_same
          generalize upd H1 q2 (.lst (sts t.ws)) = H2 at s2 e2 ⊢
          have sz2 : (sts [t.kd] ++ sts t.ws).length ≤ 1000 := by
            rw [sts_app, sts, List.length_map, List.length_append]
            show 1 + t.ws.length ≤ 1000
            omega
          refine ⟨q1, q2, _, _, rfl, rfl, s2 _ _ e1, e2, by rw [← List.length_append]; exact sizeLine_ge (by omega), fun q3 hq3 => ?_⟩
          have s3 := s2.trans (same_new (o := .lst (sts [t.kd] ++ sts t.ws)) hq3)
          have e3 : (upd H2 q3 (.lst (sts [t.kd] ++ sts t.ws))) q3 = some (.lst (sts [t.kd] ++ sts t.ws)) := upd_same
          generalize upd H2 q3 (.lst (sts [t.kd] ++ sts t.ws)) = H3 at s3 e3 ⊢
          refine ⟨_, rfl, _, rfl, log_num hn, sizeLine_ge (by show 1 ≤ 10000; decide), fun q4 hq4 => ⟨q3, q4, _, _, rfl, rfl, (same_new hq4) _ _ e3, upd_same, by rw [show ([V.str (Str.ofString (toString (m : Int)))]).length = 1 from rfl]; exact sizeLine_ge (by omega), fun q5 hq5 => ⟨q5, rfl, s1.trans (s3.trans ((same_new hq4).trans (same_new hq5))), ?_⟩⟩⟩
          rw [upd_same, nL_tx, show [V.str (tx (nL (m : Int)))] = sts [nL m] from rfl, sts_app, sts_app]
          simp
      · refine ⟨_, rfl, _, _, .type "NoneType", _, false, rfl, .ty "str", .base .non, kit_ty rfl, false, rfl, iteF ?_⟩
        have hw := open_ws t h3
        refine ⟨_, rfl, false, rfl, iteF ⟨sizeLine_ge (by show 0 ≤ 10000; decide), fun qt hqt => ⟨qt, [], rfl, .inr (.inl (.inl upd_same)), fun q2 hq2 => ?_⟩⟩⟩
        have s2 := (same_new (o := .tup []) hqt).trans (same_new (o := .lst []) hq2)
        have e2 : (upd (upd H1 qt (.tup [])) q2 (.lst [])) q2 = some (.lst (sts t.ws)) := by rw [upd_same, hw]; rfl
        generalize upd (upd H1 qt (.tup [])) q2 (.lst []) = H2 at s2 e2 ⊢
        have sz2 : (sts [t.kd] ++ sts t.ws).length ≤ 1000 := by
          rw [sts_app, sts, List.length_map, List.length_append]
          show 1 + t.ws.length ≤ 1000
          omega
        refine ⟨q1, q2, _, _, rfl, rfl, s2 _ _ e1, e2, by rw [← List.length_append]; exact sizeLine_ge (by omega), fun q3 hq3 => ?_⟩
        have s3 := s2.trans (same_new (o := .lst (sts [t.kd] ++ sts t.ws)) hq3)
        have e3 : (upd H2 q3 (.lst (sts [t.kd] ++ sts t.ws))) q3 = some (.lst (sts [t.kd] ++ sts t.ws)) := upd_same
        generalize upd H2 q3 (.lst (sts [t.kd] ++ sts t.ws)) = H3 at s3 e3 ⊢
        refine ⟨_, rfl, _, rfl, log_num hn, sizeLine_ge (by show 1 ≤ 10000; decide), fun q4 hq4 => ⟨q3, q4, _, _, rfl, rfl, (same_new hq4) _ _ e3, upd_same, by rw [show ([V.str (Str.ofString (toString (m : Int)))]).length = 1 from rfl]; exact sizeLine_ge (by omega), fun q5 hq5 => ⟨q5, rfl, s1.trans (s3.trans ((same_new hq4).trans (same_new hq5))), ?_⟩⟩⟩
        rw [upd_same, nL_tx, show [V.str (tx (nL (m : Int)))] = sts [nL m] from rfl, sts_app, sts_app]
        simp
      · refine ⟨_, rfl, _, _, .type "str", _, true, rfl, .ty "str", .base (.str _), kit_ty rfl, true, rfl, iteT ⟨_, rfl, sizeLine_ge (by show 1 ≤ 10000; decide), fun q2 hq2 => ?_⟩⟩
        have s2 := same_new (o := .lst [V.str (tx z)]) hq2
        have e2 : (upd H1 q2 (.lst [V.str (tx z)])) q2 = some (.lst (sts t.ws)) := by rw [upd_same, ew]; rfl
        generalize upd H1 q2 (.lst [V.str (tx z)]) = H2 at s2 e2 ⊢
        have sz2 : (sts [t.kd] ++ sts t.ws).length ≤ 1000 := by
          rw [sts_app, sts, List.length_map, List.length_append]
          show 1 + t.ws.length ≤ 1000
          omega
        refine ⟨q1, q2, _, _, rfl, rfl, s2 _ _ e1, e2, by rw [← List.length_append]; exact sizeLine_ge (by omega), fun q3 hq3 => ?_⟩
        have s3 := s2.trans (same_new (o := .lst (sts [t.kd] ++ sts t.ws)) hq3)
        have e3 : (upd H2 q3 (.lst (sts [t.kd] ++ sts t.ws))) q3 = some (.lst (sts [t.kd] ++ sts t.ws)) := upd_same
        generalize upd H2 q3 (.lst (sts [t.kd] ++ sts t.ws)) = H3 at s3 e3 ⊢
        refine ⟨_, rfl, _, rfl, log_num hn, sizeLine_ge (by show 1 ≤ 10000; decide), fun q4 hq4 => ⟨q3, q4, _, _, rfl, rfl, (same_new hq4) _ _ e3, upd_same, by rw [show ([V.str (Str.ofString (toString (m : Int)))]).length = 1 from rfl]; exact sizeLine_ge (by omega), fun q5 hq5 => ⟨q5, rfl, s1.trans (s3.trans ((same_new hq4).trans (same_new hq5))), ?_⟩⟩⟩
        rw [upd_same, nL_tx, show [V.str (tx (nL (m : Int)))] = sts [nL m] from rfl, sts_app, sts_app]
        simp
    · rintro σ H5 ⟨q5, rfl, s5, e5⟩
      refine ⟨⟨_, rfl⟩, _, rfl, sizeLine_ge (by show 1 ≤ 10000; decide), fun q6 hq6 => ?_⟩
      have k6 := (s5.trans (same_new (o := .lst [.str (Str.ofString "by")]) hq6)) _ _ hk
      refine ⟨_, rfl, sizeLine_ge (by show 0 ≤ 10000; decide), fun q7 hq7 => ?_⟩
      have s7 := (same_new (o := .lst [.str (Str.ofString "by")]) hq6).trans (same_new (o := .tup []) hq7)
      have e6 : (upd (upd H5 q6 (.lst [.str (Str.ofString "by")])) q7 (.tup [])) q6 = some (.lst [.str (Str.ofString "by")]) := (same_new hq7) _ _ upd_same
      have e7 : (upd (upd H5 q6 (.lst [.str (Str.ofString "by")])) q7 (.tup [])) q7 = some (.tup []) := upd_same
      generalize upd (upd H5 q6 (.lst [.str (Str.ofString "by")])) q7 (.tup []) = H7 at s7 e6 e7 ⊢
      have k7 := (s5.trans s7) _ _ hk
      refine ⟨.tuple ((ys.map tx).map PyData.str), .tuple [], .tup (.inl (.inl k7)) (dpAll_sts ys), .tup (.inl (.inl e7)) .nil, shaped_tup (asc_map ok.ascy), rfl, ?_⟩
      rw [eqv_nil]
      obtain ⟨k, ek, k0, k1, erep⟩ := by_rep ys
      refine .inr ⟨_, rfl, ?_⟩
      rw [ek]
      refine ⟨q6, k, _, rfl, rfl, e6, by omega, by omega, by show 1 * k.toNat ≤ sizeLine; exact sizeLine_ge (by omega), fun q8 hq8 => ?_⟩
      generalize hrep : (List.replicate k.toNat [V.str (Str.ofString "by")]).flatten = rep at erep ⊢
      have lrep : rep.length ≤ 1 := by
        rw [← hrep]
        have : k = 0 ∨ k = 1 := by omega
        rcases this with rfl | rfl <;> decide
      have s8 := s7.trans (same_new (o := .lst rep) hq8)
      have e8 : (upd H7 q8 (.lst rep)) q8 = some (.lst rep) := upd_same
      generalize upd H7 q8 (.lst rep) = H8 at s8 e8 ⊢
      refine ⟨q5, q8, _, _, rfl, rfl, s8 _ _ e5, e8, ?_, fun q9 hq9 => ?_⟩
      · rw [sts, List.length_map, List.length_cons, List.length_append]
        exact sizeLine_ge (by show t.ws.length + 1 + 1 + rep.length ≤ 10000; omega)
      have s9 := s8.trans (same_new (o := .lst (sts (t.kd :: (t.ws ++ [nL m])) ++ rep)) hq9)
      have e9 : (upd H8 q9 (.lst (sts (t.kd :: (t.ws ++ [nL m])) ++ rep))) q9 = some (.lst (sts (t.kd :: (t.ws ++ [nL m])) ++ rep)) := upd_same
      generalize upd H8 q9 (.lst (sts (t.kd :: (t.ws ++ [nL m])) ++ rep)) = H9 at s9 e9 ⊢
      refine ⟨_, rfl, ks, _, rfl, .inr (.inl (.inl ((s5.trans s9) _ _ hk))), fun qa hqa => ⟨q9, qa, _, _, rfl, rfl, (same_new hqa) _ _ e9, upd_same, ?_, fun qb hqb => ?_⟩⟩
      · rw [List.length_append, sts, sts, List.length_map, List.length_map, List.length_cons, List.length_append]
        exact sizeLine_ge (by show t.ws.length + 1 + 1 + rep.length + ys.length ≤ 10000; omega)
      have eb : (upd (upd H9 qa (.lst (sts ys))) qb (.lst (sts (t.kd :: (t.ws ++ [nL m])) ++ rep ++ sts ys))) qb = some (.lst (((rowW t m ys).map tx).map V.str)) := by
        rw [show ((rowW t m ys).map tx).map V.str = sts (rowW t m ys) by rw [List.map_map]; rfl, upd_same, List.append_assoc, erep, sts_app, rowW]
        simp
      have rw_ := ok.sh.row hn
      refine ⟨_, qb, (rowW t m ys).map tx, rfl, rfl, .inl (.inl (.inl eb)), ?_, ?_⟩
      · rw [sum_tx, blank_tx, tx_len, List.length_map, List.length_singleton]
        omega
      rw [join_row]
      exact q _ (s5.trans (s9.trans ((same_new hqa).trans (same_new hqb))))
end
end K


set_option Elab.async false
set_option linter.all false
set_option maxRecDepth 100000
set_option maxHeartbeats 4000000
namespace K
open PySem PySem.Spec PyProof.Rows L2 U SkE
/-- a method of a class's own: where it is found, how it is called, what it promises -/
structure HasM (P : Program) (w : World) (K : PySem.W.Frag) (mg : Str → Option Value) (base : Heap) (C : Addr) (m : Str) (k : Nat) (ps : List Str) (sp : Sp) (f : Addr) (fd : FuncData) : Prop where
  at_ : PySem.W.findIn K (.ref C) m = some (some (.ref f))
  fn : PySem.W.isFn K (.ref f) = true
  bi : Binds K fd ps []
  ok : FnOk P w K mg base CX0 k f fd ps sp
/-- the same, called by o.m() -/
structure HasT (P : Program) (w : World) (K : PySem.W.Frag) (mg : Str → Option Value) (base : Heap) (C : Addr) (m : Str) (k : Nat) (ps : List Str) (sp : Sp) (f : Addr) (fd : FuncData) : Prop where
  me : Meth K C m f
  bi : Binds K fd ps []
  ok : FnOk P w K mg base CX0 k f fd ps sp
/-- what == and bool find at the class -/
structure Own (K : PySem.W.Frag) (C : Addr) : Prop where
  nb : PySem.W.findIn K (.ref C) "__bool__" = some none
  ne : PySem.W.findIn K (.ref C) "__ne__" = some (some (.builtin "object.__ne__"))
  ob : PySem.W.subIn K (.ref C) (.type "object") = some true
  ty : ∀ (H : Hp) (a dx : Addr) (fs : List (Str × V)), H a = some (.ins C dx fs) → TyX K H (.ref a) (.ref C)
  self : PySem.W.kitOne K (.ref C) (.ref C) = some true
  oth : ∀ n ∈ (["str", "NoneType", "list", "tuple"] : List String), PySem.W.kitOne K (.type n) (.ref C) = some false ∧ PySem.W.notFirst K C (.type n) = true
/-- a thing of another class -/
def Alien (K : PySem.W.Frag) (C : Addr) (H : Hp) (x : V) : Prop := ∃ t, TyX K H x t ∧ PySem.W.kitOne K t (.ref C) = some false ∧ PySem.W.notFirst K C t = true
def gO {α : Type} : List α → List α → List α
  | [s], [a, b, c, d] => [s, c, b, a, d]
  | us, ws => us ++ ws
/-- how Telling is made -/
structure HasTel (P : Program) (w : World) (K : PySem.W.Frag) (mg : Str → Option Value) (base : Heap) (CT dE f : Addr) (fd : FuncData) : Prop where
  at_ : mg "Telling" = some (.ref CT)
  mkC : Mk K CT f
  ok : FnOk P w K mg base CX0 2 f fd ["self", "kind", "what", "steps", "known"] (spTelInit K CT)
  k3 : KBn K fd ["self", "kind", "what", "steps", "known"] 4 ["known"] (fun us ws => us ++ ws) (fun us ws => us ++ ws)
  k0 : KBn K fd ["self", "kind", "what", "steps", "known"] 1 ["steps", "what", "kind", "known"] gO gO
  kd : ∃ ds, Vals [V.ref dE] ds ∧ Binds K fd ["self", "kind", "what", "steps", "known"] ds
  em : ∀ H, SqT K H dE []
/-- what as data -/
def whatD : Tl → PyData
  | .word z => .str (tx z)
  | .fault a b => .tuple [.str (tx a), .str (tx b)]
  | .ring zs => .tuple ((zs.map tx).map PyData.str)
  | .waits z => .str (tx z)
  | .opn => .none
def rowD (t : Tl) (m : Nat) (ys : List (List Nat)) : PyData := .tuple [.str (tx t.kd), whatD t, .int m, .tuple ((ys.map tx).map PyData.str)]
theorem dp_what {K : PySem.W.Frag} {H : Hp} {v : V} {t : Tl} (h : WhatAt H v t) : Dp K H v (whatD t) := by
  cases t with
  | word z => rw [show v = .str (tx z) from h]; exact .str _
  | fault a b =>
    obtain ⟨t, rfl, e⟩ := h
    exact .tup (.inl (.inl e)) (.cons (.str _) (.cons (.str _) .nil))
  | ring zs =>
    obtain ⟨t, rfl, e⟩ := h
    exact .tup (.inl (.inl e)) (dpAll_sts zs)
  | waits z => rw [show v = .str (tx z) from h]; exact .str _
  | opn => rw [show v = .non from h]; exact .non
theorem kd_asc (t : Tl) : AL t.kd := by
  unfold AL
  cases t <;> (simp only [Tl.kd]; decide)
theorem lay_what {t : Tl} (h : ∀ z ∈ t.ws, AL z) : (whatD t).canLay0 = true ∧ (whatD t).depth ≤ 2 := by
  cases t with
  | word z => exact ⟨(Asc.tx (h z (by simp [Tl.ws]))).ok, by simp [whatD, PyData.depth]⟩
  | fault a b =>
    have h1 := (Asc.tx (h a (by simp [Tl.ws]))).ok
    have h2 := (Asc.tx (h b (by simp [Tl.ws]))).ok
    simp [whatD, PyData.canLay0, PyData.canLayAll0, PyData.depth, PyData.depthAll, h1, h2]
  | ring zs =>
    have h1 := canLay_strs (zs.map tx) (asc_map h)
    have h2 := depth_strs (zs.map tx)
    refine ⟨h1, ?_⟩
    simp only [whatD, PyData.depth]
    omega
  | waits z => exact ⟨(Asc.tx (h z (by simp [Tl.ws]))).ok, by simp [whatD, PyData.depth]⟩
  | opn => exact ⟨rfl, by simp [whatD, PyData.depth]⟩
theorem shaped_row {t : Tl} {m : Nat} {ys : List (List Nat)} (h : ∀ z ∈ t.ws, AL z) (hy : ∀ y ∈ ys, AL y) : SeqAt.shaped (rowD t m ys) = true := by
  obtain ⟨h1, h2⟩ := lay_what h
  have h3 := canLay_strs (ys.map tx) (asc_map hy)
  have h4 := depth_strs (ys.map tx)
  have h5 := (Asc.tx (kd_asc t)).ok
  simp only [SeqAt.shaped, rowD, PyData.canLay0, PyData.canLayAll0, h1, h3, h5, Bool.and_true, Bool.true_and]
  refine decide_eq_true ?_
  simp only [PyData.depth, PyData.depthAll]
  omega
theorem jn_len : ∀ l : List (List Nat), (jn l).length ≤ (l.map List.length).sum + l.length
  | [] => Nat.le_refl _
  | [p] => by simp [jn]
  | p :: q :: l => by
    have ih := jn_len (q :: l)
    rw [jn_cons, List.length_append, List.length_cons, List.map_cons, List.sum_cons, List.length_cons]
    omega
theorem row_len {t : Tl} {m : Nat} {ys : List (List Nat)} (ok : RowOk t m ys) : (rowL t m ys).length ≤ 4000 := by
  have hm := ok.m
  have h := ok.sh.row (n := (m : Int)) (by omega)
  have := jn_len (rowW t m ys)
  unfold rowL
  omega
theorem dp_row {K : PySem.W.Frag} {H : Hp} {r ks : Addr} {wv : V} {t : Tl} {m : Nat} {ys : List (List Nat)} (h1 : H r = some (.tup [.str (tx t.kd), wv, .int (m : Int), .ref ks])) (h2 : WhatAt H wv t) (h3 : H ks = some (.tup (sts ys))) : Dp K H (.ref r) (rowD t m ys) :=
  .tup (.inl (.inl h1)) (.cons (.str _) (.cons (dp_what h2) (.cons (.int _) (.cons (.tup (.inl (.inl h3)) (dpAll_sts ys)) .nil))))
def spLRight : Sp := fun vs H Q _ => ∃ (r : Addr) (t : Tl) (m : Nat) (ys : List (List Nat)), vs = [.ref r] ∧ DrawnAt H r t m ys ∧ RowOk t m ys ∧ ∀ H', Same H H' → Q (.bl true) H'
section
variable {P : Program} {w : World} {K : PySem.W.Frag} {mg : Str → Option Value} {base : Heap} {dS : Addr} (T : Txt K mg dS)
include T
theorem ok__law_right {f f0 f1 f2 f3 f4 f5 f6 CT dE : Addr} {fd fd0 fd1 fd2 fd3 fd4 fd5 fd6 : FuncData} (F : Fun K "_law_right" "_law_right" s__law_right f fd) (O : Own K CT) (MC : TelC K CT) (hCl : Cls K CT) (mT : HasTel P w K mg base CT dE f0 fd0)
    (hE : HasM P w K mg base CT "__eq__" 1 ["self", "other"] (spTelEq K CT) f1 fd1) (hL : HasM P w K mg base CT "__len__" 1 ["self"] (spTelLen CT) f2 fd2) (hS : HasM P w K mg base CT "__str__" 1 ["self"] (spTelStr CT) f3 fd3) (hR : HasM P w K mg base CT "__repr__" 1 ["self"] (spTelRepr CT) f4 fd4)
    (hSu : HasT P w K mg base CT "is_sure" 1 ["self"] (spTelSure CT) f5 fd5) (h__law_text : Has P w K mg base "_law_text" 1 ["_law_word_of", "_law_told_of", "_law_many", "_law_set_of"] spLText f6 fd6) :
    FnOk P w K mg base CX0 5 f fd ["_law_drawn_here"] spLRight := by
  refine F.ok sc__law_right (fun vs H Q E h => ?_) (fun cdv A outer s H vs Q E hr h => ?_)
  · obtain ⟨r, t, m, ys, rfl, _⟩ := h
    rfl
  · obtain ⟨r, t, m, ys, rfl, ⟨wv, ks, e1, e2, e3⟩, ok, q⟩ := h
    refine ⟨_, (pss_cons (ps_asg (pv 0) (pg_tup rfl (pgs_cons (pg_name (i := 1) sc__law_right.nd rfl (.inl rfl)) (pgs_cons (pg_name (i := 2) sc__law_right.nd rfl (.inl rfl)) (pgs_cons (pg_name (i := 3) sc__law_right.nd rfl (.inl rfl)) (pgs_cons (pg_name (i := 4) sc__law_right.nd rfl (.inl rfl)) pgs_nil))))))
      (pss_cons (ps_set (i := 5) sc__law_right.nd rfl (.inl rfl) (pe_callTy call_list_of (by rfl) T.z_list (by decide +kernel) (pa_cons (pv 4) pa_nil)))
      (pss_cons (ps_set (i := 6) sc__law_right.nd rfl (.inl rfl) (pe_lst (pa_cons (pe_makeK mT.mkC mT.ok (hr.mono (by first | decide | omega)) (by rfl) mT.at_ mT.k3 pass0 (pa_cons (pv 1) (pa_cons (pv 2) (pa_cons (pv 3) pa_nil))) (pk_cons (pv 5) pk_nil)) pa_nil)))
      (pss_cons (ps_expr (pe_bm PySem.F.plainAttrs_list PySem.F.slot_list_append PySem.F.type_list_append mt_append (pv 6) (pa_cons (pe_makeK0 mT.mkC mT.ok (hr.mono (by first | decide | omega)) (by rfl) mT.at_ mT.k0 pass0 (pk_cons (pv 3) (pk_cons (pv 2) (pk_cons (pv 1) (pk_cons (pv 4) pk_nil))))) pa_nil)))
      (pss_cons (ps_expr (pe_bm PySem.F.plainAttrs_list PySem.F.slot_list_append PySem.F.type_list_append mt_append (pv 5) (pa_cons pe_str pa_nil)))
      (pss_cons (ps_for PassesOwn.never rfl (pi_list (pv 6)) (pg_name (i := 7) sc__law_right.nd rfl (.inr rfl)) 
        (pss_cons (ps_if (PW.pt (pw_or (pt_cmpR (op_neD hr.units) (pe_tup (pa_cons (pe_fld (pv 7) (by rfl)) (pa_cons (pe_fld (pv 7) (by rfl)) (pa_cons (pe_fld (pv 7) (by rfl)) (pa_cons (pe_fld (pv 7) (by rfl)) pa_nil))))) (pv 0) (nomark _)) (pw_or1 (pt_not (pt_val (pe_callB call_isi (by rfl) T.z_isinstance (by decide +kernel) (pa_cons (pe_fld (pv 7) (by rfl)) (pa_cons (pe_bltn (v := .ty "tuple") (u := .type "tuple") (by rfl) T.z_tuple (by decide +kernel) rfl) pa_nil)))))))) 
          (pss_one (ps_ret pe_bl)) pss_nil)
        (pss_cons (ps_set (i := 8) sc__law_right.nd rfl (.inl rfl) (pe_cmpR op_in_seq (pv 1) (pe_tup (pa_cons pe_str (pa_cons pe_str (pa_cons pe_str pa_nil)))) (by rfl)))
        (pss_cons (ps_if (PW.pt (pw_or (pt_cmpR op_ne (pe_meth0 (pv 7) hCl hSu.me hSu.ok (hr.mono (by first | decide | omega)) hSu.bi .nil pass0) (pv 8) (nomark _)) (pw_or (pt_not (pt_val (pe_callB call_isi (by rfl) T.z_isinstance (by decide +kernel) (pa_cons (pe_meth0 (pv 7) hCl hSu.me hSu.ok (hr.mono (by first | decide | omega)) hSu.bi .nil pass0) (pa_cons (pe_bltn (v := .ty "bool") (u := .type "bool") (by rfl) T.z_bool (by decide +kernel) rfl) pa_nil))))) (pw_or1 (pt_cmpR op_ne (pe_callB (call_lenOwn hL.ok hL.bi pass0 hL.at_ hL.fn (hr.mono (by first | decide | omega))) (by rfl) T.z_len (by decide +kernel) (pa_cons (pv 7) pa_nil)) (pe_callB call_len_seq (by rfl) T.z_len (by decide +kernel) (pa_cons (pv 4) pa_nil)) (nomark _)))))) 
          (pss_one (ps_ret pe_bl)) pss_nil)
        (pss_cons (ps_set (i := 9) sc__law_right.nd rfl (.inl rfl) (pe_callH h__law_text (hr.mono (by first | decide | omega)) (by rfl) (pa_cons (pv 1) (pa_cons (pv 2) (pa_cons (pv 3) (pa_cons (pv 4) pa_nil))))))
        (pss_cons (ps_if (PW.pt (pw_or (pt_cmpR op_ne (pe_callTy (call_strOwn hS.ok hS.bi pass0 hS.at_ hS.fn (hr.mono (by first | decide | omega))) (by rfl) T.z_str (by decide +kernel) (pa_cons (pv 7) pa_nil)) (pv 9) (nomark _)) (pw_or (pt_cmpR op_ne (pe_callB (call_reprOwn hR.ok hR.bi pass0 hR.at_ hR.fn (hr.mono (by first | decide | omega))) (by rfl) T.z_repr (by decide +kernel) (pa_cons (pv 7) pa_nil)) (pe_op op_add_str (pe_op op_add_str pe_str (pv 9)) pe_str) (nomark _)) (pw_or1 (pt_cmpR op_ne (pe_callTy (call_boolOwn hL.ok hL.bi pass0 O.nb hL.at_ hL.fn (hr.mono (by first | decide | omega))) (by rfl) T.z_bool (by decide +kernel) (pa_cons (pv 7) pa_nil)) (pe_cmpR op_gt (pe_callB call_len_seq (by rfl) T.z_len (by decide +kernel) (pa_cons (pv 4) pa_nil)) pe_int (nomark _)) (nomark _)))))) 
          (pss_one (ps_ret pe_bl)) pss_nil)
        (pss_one (ps_if (pt_val (pe_callB (cr_any rfl) (by rfl) T.z_any (by decide +kernel) (pa_cons (pe_lc (own := [("_law_thing", 10)]) (g := gName 10) (tt := tYes) (te := tOp (rEqOwn K CT (spTelEq K CT) E0) (tVar 7) (tVar 10)) rfl sc__law_right.nd (pi_list (pe_lst (pa_cons (pv 9) (pa_cons (pv 0) (pa_cons pe_non (pa_cons (pv 1) (pa_cons (pe_lst (pa_cons (pv 7) pa_nil)) pa_nil))))))) (blkOk_by (N := nm__law_right) (sc := defScope s__law_right) (by decide +kernel)) (fun _ _ _ _ _ => pg_name (i := 10) sc__law_right.nd rfl (.inl rfl)) (fun _ _ _ _ _ => pts_nil) (fun _ _ _ _ _ => (pe_cmpR (op_eqOwn hE.ok hE.at_ hE.fn hE.bi pass0 (hr.mono (by first | decide | omega))) (pv 7) (pv 10) (nomark _)))) pa_nil))) 
          (pss_one (ps_ret pe_bl)) pss_nil))))))))
      (pss_one (ps_ret (pe_and (pe_cmpR (op_eqOwn hE.ok hE.at_ hE.fn hE.bi pass0 (hr.mono (by first | decide | omega))) (pe_ix ix_list (pv 6) pe_int (fun _ _ => rfl)) (pe_ix ix_list (pv 6) pe_int (fun _ _ => rfl)) (nomark _)) (pe_and (pe_not (pe_cmpR (op_neOwn hE.ok hE.at_ hE.fn O.ne O.ob hE.bi pass0 (hr.mono (by first | decide | omega))) (pe_ix ix_list (pv 6) pe_int (fun _ _ => rfl)) (pe_ix ix_list (pv 6) pe_int (fun _ _ => rfl)) (nomark _))) (pe_one (pe_cmpR (op_in1 hE.ok hE.at_ hE.fn O.ty hE.bi pass0 (hr.mono (by first | decide | omega))) (pe_ix ix_list (pv 6) pe_int (fun _ _ => rfl)) (pe_lst (pa_cons (pe_ix ix_list (pv 6) pe_int (fun _ _ => rfl)) pa_nil)) (by rfl))))))))))))), ?_⟩
    have hm := ok.m
    have hn : ((m : Int)).natAbs < 10 ^ 9 := by omega
    refine ⟨_, rfl, r, _, rfl, .inl (.inl e1), rfl, _, _, rfl, _, _, rfl, _, _, rfl, _, _, rfl, rfl, ?_⟩
    refine ⟨_, rfl, ks, _, rfl, .inr (.inl (.inl e3)), fun hA nA => ?_⟩
    have sA : Same H (upd H hA (.lst (sts ys))) := same_new nA
    have eA : (upd H hA (.lst (sts ys))) hA = some (.lst (sts ys)) := upd_same
    generalize upd H hA (.lst (sts ys)) = H1 at sA eA ⊢
    refine ⟨_, rfl, _, rfl, _, rfl, _, rfl, rfl, rfl, fun a dx ha hdx nxa => ⟨t, wv, m, hA, a, dx, ys, rfl, ?_, .inl ?_, hn, ok.sh, upd_same, fun H2 ys1 b2 pm1 so1 t1 => ⟨rfl, sizeLine_ge (by show 1 ≤ 10000; decide), fun mA nM => ?_⟩⟩⟩
    · exact (e2.same sA).same ((same_new hdx).trans (same_new (by rw [upd_ne (Ne.symm nxa)]; exact ha)))
    · exact ((same_new hdx).trans (same_new (by rw [upd_ne (Ne.symm nxa)]; exact ha))) _ _ eA
    obtain rfl := sorted_unique pm1 so1 ok.so
    have s12 : Same H1 H2 := But.same b2 ((same_new hdx).trans (same_new (by rw [upd_ne (Ne.symm nxa)]; exact ha))) ha
    have s23 : Same H2 (upd H2 mA (.lst [.ref a])) := same_new nM
    have eM : (upd H2 mA (.lst [.ref a])) mA = some (.lst [.ref a]) := upd_same
    have t1' := t1.same s23
    have s03 := sA.trans (s12.trans s23)
    have eA3 := s23 _ _ (s12 _ _ eA)
    have nMA : mA ≠ hA := (ne_of_none (s12 _ _ eA) nM).symm
    have nH : H mA = none := by
      cases h : H mA with
      | none => rfl
      | some o => rw [s12 _ _ (sA _ _ h)] at nM; cases nM
    generalize upd H2 mA (.lst [.ref a]) = H3 at s23 eM t1' s03 eA3 ⊢
    refine ⟨_, rfl, .inl ⟨rfl, _, .inl (.inl eM)⟩, _, rfl, _, rfl, _, rfl, _, rfl, rfl, rfl, fun b dy hb hdy nyb => ⟨t, wv, m, ks, b, dy, ys1, rfl, ?_, .inr (.inl ?_), hn, ok.sh, upd_same, fun H4 ys2 b4 pm2 so2 t2 => ⟨rfl, ?_⟩⟩⟩
    · exact (e2.same s03).same ((same_new hdy).trans (same_new (by rw [upd_ne (Ne.symm nyb)]; exact hb)))
    · exact ((same_new hdy).trans (same_new (by rw [upd_ne (Ne.symm nyb)]; exact hb))) _ _ (s03 _ _ e3)
    obtain rfl := sorted_unique pm2 so2 ok.so
    have s34 : Same H3 H4 := But.same b4 ((same_new hdy).trans (same_new (by rw [upd_ne (Ne.symm nyb)]; exact hb))) hb
    have nab : a ≠ b := by
      obtain ⟨_, _, _, e⟩ := t1'.some
      exact ne_of_none e hb
    refine ⟨mA, _, _, rfl, rfl, s34 _ _ eM, sizeLine_ge (by show 1 + 1 ≤ 10000; decide), ?_⟩
    have eM4 := s34 _ _ eM
    have keepM : ∀ {G : Hp} {l l2 : List V} {mA p : Addr} {t : Tl} {n : Int} {ys : List (List Nat)}, G mA = some (.lst l) → TellAt CT G p t n ys → TellAt CT (upd G mA (.lst l2)) p t n ys := by
      rintro G l l2 mA p t n ys eG ⟨dx, wv, kt, h1, h2, h3⟩
      have b : But mA G (upd G mA (.lst l2)) := But.upd
      exact ⟨dx, wv, kt, b _ _ h1 (ne_of h1 eG (by intro z; cases z)), h2.butL eG b, b _ _ h3 (ne_of h3 eG (by intro z; cases z))⟩
    have t1m := keepM (l2 := [V.ref a] ++ [V.ref b]) eM4 (t1'.same s34)
    have t2m := keepM (l2 := [V.ref a] ++ [V.ref b]) eM4 t2
    have s05 : Same H (upd H4 mA (.lst ([V.ref a] ++ [V.ref b]))) := upd_new nH (s03.trans s34)
    have eA5 : (upd H4 mA (.lst ([V.ref a] ++ [V.ref b]))) hA = some (.lst (sts ys2)) := by
      rw [upd_ne (Ne.symm nMA)]
      exact s34 _ _ eA3
    have eM5 : (upd H4 mA (.lst ([V.ref a] ++ [V.ref b]))) mA = some (.lst [V.ref a, V.ref b]) := upd_same
    generalize upd H4 mA (.lst ([V.ref a] ++ [V.ref b])) = H5 at t1m t2m s05 eA5 eM5 ⊢
    refine ⟨_, rfl, .inl ⟨rfl, _, .inl (.inl eA5)⟩, hA, _, _, rfl, rfl, eA5, ?_, ?_⟩
    · rw [sts, List.length_map]
      exact sizeLine_ge (by have := ok.sh.lx; omega)
    have t1a := keepM (l2 := sts ys2 ++ [V.str (Str.ofString "Z")]) eA5 t1m
    have t2a := keepM (l2 := sts ys2 ++ [V.str (Str.ofString "Z")]) eA5 t2m
    have s06 : Same H (upd H5 hA (.lst (sts ys2 ++ [V.str (Str.ofString "Z")]))) := upd_new nA s05
    have eM6 : (upd H5 hA (.lst (sts ys2 ++ [V.str (Str.ofString "Z")]))) mA = some (.lst [V.ref a, V.ref b]) := by
      rw [upd_ne nMA]
      exact eM5
    generalize upd H5 hA (.lst (sts ys2 ++ [V.str (Str.ofString "Z")])) = H6 at t1a t2a s06 eM6 ⊢
    have e16 := s06 _ _ e1
    have e26 := e2.same s06
    have e36 := s06 _ _ e3
    have rl := row_len ok
    have z0 : (Str.empty ++ Str.ofString "Telling('" : Str) = Str.ofString "Telling('" := by decide +kernel
    have z1 : (Str.ofString "Telling('").length = 9 := by decide +kernel
    have z2 : (Str.ofString "')").length = 2 := by decide +kernel
    have app : ∀ a b : Str, (a ++ b).length = a.length + b.length := fun a b => by
      show (a.cps ++ b.cps).size = _
      simp [Str.length]
    have lys : (sts ys2).length = ys2.length := List.length_map ..
    have shr := shaped_row (m := m) ok.asc ok.ascy
    have l50 := ok.sh.lx
    refine ⟨_, rfl, mA, rfl, ⟨_, .inl (.inl eM6)⟩, for_it (walk_list (xs := [V.ref a, V.ref b])) (fun _ σ H' => Same H6 H' ∧ ∃ x7 x8 x9 x10, σ = [some (.ref r), some (.str (tx t.kd)), some wv, some (.int (m : Int)), some (.ref ks), some (.ref hA), some (.ref mA), x7, x8, x9, x10]) ⟨Same.refl _, _, _, _, _, rfl⟩ (fun _ σ H' _ h => .inl (.inl (h.1 _ _ eM6))) ?_ ?_⟩
    · rintro i x σ G G' hi ⟨sG, x7, x8, x9, x10, rfl⟩ ⟨rfl, hx⟩
      obtain ⟨p, rfl, tp⟩ : ∃ p, x = .ref p ∧ TellAt CT H6 p t m ys2 := by
        have hi2 : i = 0 ∨ i = 1 := by
          have : [V.ref a, V.ref b].length = 2 := rfl
          omega
        rcases hi2 with rfl | rfl
        · exact ⟨a, (Option.some.inj hx).symm, t1a⟩
        · exact ⟨b, (Option.some.inj hx).symm, t2a⟩
      have tpG := tp.same sG
      obtain ⟨dp, wp, kt, h1, h2, h3⟩ := tpG
      have tpG := tp.same sG
      refine ⟨_, rfl, p, CT, dp, _, _, rfl, h1, MC.cl, MC.nk, lF_kind _ _ _ _ _, _, rfl, p, CT, dp, _, _, rfl, h1, MC.cl, MC.nw, lF_what _ _ _ _ _, _, rfl, p, CT, dp, _, _, rfl, h1, MC.cl, MC.ns, lF_steps _ _ _ _ _, _, rfl, p, CT, dp, _, _, rfl, h1, MC.cl, MC.nn, lF_known _ _ _ _ _, sizeLine_ge (by show 4 ≤ 10000; decide), fun t4 ht4 => ?_⟩
      have s4 : Same G' (upd G' t4 (.tup [.str (tx t.kd), wp, .int (m : Int), .ref kt])) := same_new ht4
      have s64 := sG.trans s4
      refine ⟨_, rfl, rowD t m ys2, rowD t m ys2, dp_row upd_same (h2.same s4) (s4 _ _ h3), dp_row (s64 _ _ e16) (e26.same s64) (s64 _ _ e36), shr, shr, false, by rw [SeqAt.eqv_refl _ (SeqAt.canLay_of_shaped shr)]; rfl, iteF ?_⟩
      have h14 := s4 _ _ h1
      have h34 := s4 _ _ h3
      have tp4 := tp.same s64
      generalize upd G' t4 (.tup [.str (tx t.kd), wp, .int (m : Int), .ref kt]) = G4 at s4 s64 h14 h34 tp4 ⊢
      refine ⟨_, rfl, p, CT, dp, _, _, rfl, h14, MC.cl, MC.nn, lF_known _ _ _ _ _, _, _, .type "tuple", _, true, rfl, .ty "tuple", .base (.tup h34), kit_ty rfl, true, rfl, iteF ?_⟩
      refine ⟨_, rfl, sizeLine_ge (by show 3 ≤ 10000; decide), fun tt htt => ⟨tt, _, rfl, .inr (.inl (.inl upd_same)), rfl, rfl, ?_⟩⟩
      rw [show (if false = true then !inV (V.str (tx t.kd)) [V.str (Str.ofString "word"), V.str (Str.ofString "fault"), V.str (Str.ofString "ring")] else inV (V.str (tx t.kd)) [V.str (Str.ofString "word"), V.str (Str.ofString "fault"), V.str (Str.ofString "ring")]) = t.sure by rw [if_neg (by decide), kd_sure]]
      have s5 : Same G4 (upd G4 tt (.tup [.str (Str.ofString "word"), .str (Str.ofString "fault"), .str (Str.ofString "ring")])) := same_new htt
      have h15 := s5 _ _ h14
      have tp5 := tp4.same s5
      have s65 := s64.trans s5
      generalize upd G4 tt (.tup [.str (Str.ofString "word"), .str (Str.ofString "fault"), .str (Str.ofString "ring")]) = G5 at s5 h15 tp5 s65 ⊢
      refine ⟨_, rfl, p, dp, _, rfl, h15, lF_sure _ _ _ _ _, t, m, ys2, p, rfl, tp5, _, rfl, rfl, _, rfl, iteNS rfl ?_⟩
      refine ⟨_, rfl, p, dp, _, rfl, h15, lF_sure _ _ _ _ _, t, m, ys2, p, rfl, tp5, _, _, .type "bool", _, true, rfl, .ty "bool", .base (.bl _), kit_ty rfl, true, rfl, iteF ?_⟩
      refine ⟨_, rfl, p, dp, _, rfl, h15, t, m, ys2, p, rfl, tp5, _, rfl, by omega, by omega, _, rfl, ks, _, rfl, .inr (.inl (.inl (s65 _ _ e36))), rfl, _, rfl, iteNS (by rw [lys]) ?_⟩
      refine ⟨_, rfl, _, rfl, _, rfl, _, rfl, t, wv, m, ks, ys2, rfl, e26.same s65, s65 _ _ e36, ok, fun G8 s8 => ?_⟩
      have h18 := s8 _ _ h15
      have tp8 := tp5.same s8
      have s68 := s65.trans s8
      refine ⟨_, rfl, p, dp, _, rfl, h18, t, m, ys2, p, rfl, tp8, _, rfl, _, rfl, rfl, _, rfl, iteNS rfl ?_⟩
      refine ⟨_, rfl, p, dp, _, rfl, h18, t, m, ys2, p, rfl, tp8, by omega, _, rfl, _, rfl, _, _, rfl, rfl, ?_, _, _, rfl, rfl, ?_, rfl, _, rfl, iteNS ?_ ?_⟩
      · rw [z1, tx_len]
        exact sizeLine_ge (by omega)
      · rw [app, z1, z2, tx_len]
        exact sizeLine_ge (by omega)
      · unfold reprOf
        rw [z0]
      refine ⟨_, rfl, p, dp, _, rfl, h18, t, m, ys2, p, rfl, tp8, _, rfl, by omega, by omega, _, rfl, ks, _, rfl, .inr (.inl (.inl (s68 _ _ e36))), _, _, rfl, rfl, rfl, _, rfl, iteNS ?_ ?_⟩
      · rw [lys]
        cases ys2 <;> simp
        omega
      refine ⟨_, rfl, _, rfl, _, rfl, _, rfl, sizeLine_ge (by show 1 ≤ 10000; decide), fun q3 hq3 => ?_⟩
      have s9 : Same G8 (upd G8 q3 (.lst [.ref p])) := same_new hq3
      have e9 : (upd G8 q3 (.lst [.ref p])) q3 = some (.lst [.ref p]) := upd_same
      generalize upd G8 q3 (.lst [.ref p]) = G9 at s9 e9 ⊢
      refine ⟨sizeLine_ge (by show 5 ≤ 10000; decide), fun q5 hq5 => ?_⟩
      have sX : Same G9 (upd G9 q5 (.lst [.str (tx (rowL t m ys2)), .ref r, .non, .str (tx t.kd), .ref q3])) := same_new hq5
      have eX : (upd G9 q5 (.lst [.str (tx (rowL t m ys2)), .ref r, .non, .str (tx t.kd), .ref q3])) q5 = some (.lst [.str (tx (rowL t m ys2)), .ref r, .non, .str (tx t.kd), .ref q3]) := upd_same
      generalize upd G9 q5 (.lst [.str (tx (rowL t m ys2)), .ref r, .non, .str (tx t.kd), .ref q3]) = GX at sX eX ⊢
      have s6X := s68.trans (s9.trans sX)
      have tpX := tp.same s6X
      have erX := s6X _ _ e16
      have e9X := sX _ _ e9
      have aliens : ∀ x ∈ [V.str (tx (rowL t m ys2)), .ref r, .non, .str (tx t.kd), .ref q3], ∀ G', Same GX G' → Alien K CT G' x := by
        intro x hx G' sG
        simp only [List.mem_cons, List.not_mem_nil, or_false] at hx
        rcases hx with rfl | rfl | rfl | rfl | rfl
        · exact ⟨_, .base (.str _), O.oth "str" (by simp)⟩
        · exact ⟨_, .base (.tup (sG _ _ erX)), O.oth "tuple" (by simp)⟩
        · exact ⟨_, .base .non, O.oth "NoneType" (by simp)⟩
        · exact ⟨_, .base (.str _), O.oth "str" (by simp)⟩
        · exact ⟨_, .base (.lst (sG _ _ e9X)), O.oth "list" (by simp)⟩
      have l5 : [V.str (tx (rowL t m ys2)), .ref r, .non, .str (tx t.kd), .ref q3].length ≤ 1000 := by show 5 ≤ 1000; decide
      generalize [V.str (tx (rowL t m ys2)), .ref r, .non, .str (tx t.kd), .ref q3] = items at eX aliens l5 ⊢
      refine ⟨q5, rfl, ⟨_, .inl (.inl eX)⟩, fun D hD => lc_do (walk_list (xs := items)) (fun j H' => Same GX H' ∧ H' D = some (.lst ((List.replicate j false).map V.bl))) (fun _ => rfl) ⟨same_new hD, upd_same⟩ (fun _ H' _ h => .inl (.inl (h.1 _ _ eX))) ?_ ?_⟩
      · rintro j x G10 G11 hj ⟨s10, e10⟩ ⟨rfl, hx⟩
        obtain ⟨ty, k1, k2, k3⟩ := aliens x (List.mem_of_getElem? hx) _ s10
        have tp10 := tpX.same s10
        obtain ⟨d10, w10, kt10, ea10⟩ := tp10.some
        refine ⟨_, rfl, _, rfl, p, d10, _, ty, rfl, ea10, k1, k3, t, m, ys2, p, x, rfl, tp10, .inl ⟨ty, k1, k2, _, rfl, _, e10, ?_, upd_new hD s10, ?_⟩⟩
        · rw [List.length_map, List.length_replicate]
          exact sizeLine_ge (by omega)
        · rw [upd_same, List.replicate_succ', List.map_append]
          rfl
      · rintro G10 ⟨s10, e10⟩
        have ha : (List.replicate items.length false).any id = false := by
          induction items.length with
          | zero => rfl
          | succ n ih => rw [List.replicate_succ, List.any_cons, ih]; rfl
        refine ⟨D, _, rfl, .inl (.inl e10), _, rfl, ?_⟩
        rw [ha]
        exact iteF ⟨s6X.trans s10, _, _, _, _, rfl⟩
    · rintro σ G ⟨sG, x7, x8, x9, x10, rfl⟩
      have A := t1a.same sG
      have B := t2a.same sG
      have eMG := sG _ _ eM6
      obtain ⟨da, wa, ka, ea⟩ := A.some
      obtain ⟨db, wb, kb, eb⟩ := B.some
      have nf : PySem.W.notFirst K CT (.ref CT) = true := by simp [PySem.W.notFirst]
      have tr : decide (rowL t m ys2 = rowL t m ys2) = true := decide_eq_true rfl
      refine ⟨_, rfl, mA, _, _, _, rfl, rfl, .inl (.inl eMG), rfl, _, rfl, mA, _, _, _, rfl, rfl, .inl (.inl eMG), rfl, a, da, _, .ref CT, rfl, ea, O.ty _ _ _ _ eb, nf, t, m, ys2, a, .ref b, rfl, A, .inr ⟨t, m, ys2, b, rfl, B, O.ty _ _ _ _ eb, O.self, _, rfl, true, by rw [tr], iteT ?_⟩⟩
      refine ⟨_, rfl, mA, _, _, _, rfl, rfl, .inl (.inl eMG), rfl, _, rfl, mA, _, _, _, rfl, rfl, .inl (.inl eMG), rfl, a, da, _, .ref CT, rfl, ea, O.ty _ _ _ _ eb, nf, t, m, ys2, a, .ref b, rfl, A, .inr ⟨t, m, ys2, b, rfl, B, O.ty _ _ _ _ eb, O.self, _, rfl, _, rfl, true, by rw [tr]; rfl, iteT ?_⟩⟩
      refine ⟨_, rfl, mA, _, _, _, rfl, rfl, .inl (.inl eMG), rfl, _, rfl, mA, _, _, _, rfl, rfl, .inl (.inl eMG), rfl, sizeLine_ge (by show 1 ≤ 10000; decide), fun qL hqL => ?_⟩
      have sL := same_new (o := .lst [V.ref b]) hqL
      refine ⟨a, b, qL, da, db, _, _, rfl, rfl, upd_same, sL _ _ ea, sL _ _ eb, nab, t, m, ys2, b, .ref a, rfl, B.same sL, .inr ⟨t, m, ys2, a, rfl, A.same sL, O.ty _ _ _ _ (sL _ _ ea), O.self, _, rfl, by rw [tr], ?_⟩⟩
      exact q _ (s06.trans (sG.trans sL))
end
end K


set_option Elab.async false
set_option linter.all false
set_option maxRecDepth 100000
set_option maxHeartbeats 4000000
namespace K
open PySem PySem.Spec PyProof.Rows L2 U SkE
def spLaw (K : PySem.W.Frag) : Sp := fun vs H Q _ => ∃ (a : Addr) (ns : List Int), vs = [.ref a] ∧ SqL K H a (ns.map V.int) ∧ ns.length ≤ 63 ∧ ∀ H', Q (.bl true) H'
theorem tell_updL {CT : Addr} {G : Hp} {l l2 : List V} {mA p : Addr} {t : Tl} {n : Int} {ys : List (List Nat)} (eG : G mA = some (.lst l)) (h : TellAt CT G p t n ys) : TellAt CT (upd G mA (.lst l2)) p t n ys := by
  obtain ⟨dx, wv, kt, h1, h2, h3⟩ := h
  have b : But mA G (upd G mA (.lst l2)) := But.upd
  exact ⟨dx, wv, kt, b _ _ h1 (ne_of h1 eG (by intro z; cases z)), h2.butL eG b, b _ _ h3 (ne_of h3 eG (by intro z; cases z))⟩
theorem tx_beq (a b : List Nat) : (tx a == tx b) = decide (a = b) := by
  rw [Bool.eq_iff_iff]
  simp
theorem eqv_what : ∀ t u : Tl, t.kd = u.kd → PyData.eqv (whatD t) (whatD u) = decide (t = u)
  | .word a, .word b, _ => by simp [whatD, PyData.eqv, tx_beq]
  | .fault a b, .fault c d, _ => by
    rw [Bool.eq_iff_iff]
    simp [whatD, PyData.eqv, PyData.eqvAll, tx_beq]
  | .ring a, .ring b, _ => by
    rw [whatD, whatD, PyData.eqv, eqvAll_strs]
    refine decide_eq_decide.mpr ⟨fun h => ?_, fun h => by injection h with h; rw [h]⟩
    rw [List.map_inj_right (fun x y h => tx_inj h) |>.mp h]
  | .waits a, .waits b, _ => by simp [whatD, PyData.eqv, tx_beq]
  | .opn, .opn, _ => by simp [whatD, PyData.eqv]
  | .word _, .fault _ _, h | .word _, .ring _, h | .word _, .waits _, h | .word _, .opn, h => by cases h
  | .fault _ _, .word _, h | .fault _ _, .ring _, h | .fault _ _, .waits _, h | .fault _ _, .opn, h => by cases h
  | .ring _, .word _, h | .ring _, .fault _ _, h | .ring _, .waits _, h | .ring _, .opn, h => by cases h
  | .waits _, .word _, h | .waits _, .fault _ _, h | .waits _, .ring _, h | .waits _, .opn, h => by cases h
  | .opn, .word _, h | .opn, .fault _ _, h | .opn, .ring _, h | .opn, .waits _, h => by cases h
theorem eqv_row {t u : Tl} {m n : Nat} {xs ys : List (List Nat)} : PyData.eqv (rowD t m xs) (rowD u n ys) = decide (t = u ∧ m = n ∧ xs = ys) := by
  rw [rowD, rowD, PyData.eqv, PyData.eqvAll, PyData.eqvAll, PyData.eqvAll, PyData.eqvAll, PyData.eqvAll]
  have e1 : PyData.eqv (.str (tx t.kd)) (.str (tx u.kd)) = decide (t.kd = u.kd) := by rw [PyData.eqv, tx_beq]
  have e3 : PyData.eqv (.int (m : Int)) (.int (n : Int)) = decide (m = n) := by
    rw [PyData.eqv, Bool.eq_iff_iff]
    simp
    omega
  have e4 : PyData.eqv (.tuple ((xs.map tx).map PyData.str)) (.tuple ((ys.map tx).map PyData.str)) = decide (xs = ys) := by
    rw [PyData.eqv, eqvAll_strs]
    refine decide_eq_decide.mpr ⟨fun h => ?_, fun h => by rw [h]⟩
    exact List.map_inj_right (fun x y h => tx_inj h) |>.mp h
  rw [e1, e3, e4]
  by_cases hk : t.kd = u.kd
  · rw [eqv_what t u hk, Bool.eq_iff_iff]
    simp [hk]
  · have : t ≠ u := fun e => hk (by rw [e])
    simp [hk, this]
theorem rows_same {t u : Tl} {m n : Nat} {xs ys : List (List Nat)} (h1 : RowOk t m xs) (h2 : RowOk u n ys) : decide (rowL t m xs = rowL u n ys) = PyData.eqv (rowD t m xs) (rowD u n ys) := by
  rw [eqv_row]
  obtain ⟨ts, s1⟩ := h1.shp
  obtain ⟨us, s2⟩ := h2.shp
  have hm := h1.m
  have hn := h2.m
  exact decide_eq_decide.mpr ⟨fun e => row_inj s1 s2 (by omega) (by omega) h1.nb h2.nb e, fun ⟨e1, e2, e3⟩ => by rw [e1, e2, e3]⟩
section
variable {P : Program} {w : World} {K : PySem.W.Frag} {mg : Str → Option Value} {base : Heap} {dS : Addr} (T : Txt K mg dS)
include T
theorem ok_law {f f0 f1 f2 f3 f4 CT dE : Addr} {fd fd0 fd1 fd2 fd3 fd4 : FuncData} (F : Fun K "law" "law" s_law f fd) (O : Own K CT) (mT : HasTel P w K mg base CT dE f0 fd0)
    (hE : HasM P w K mg base CT "__eq__" 1 ["self", "other"] (spTelEq K CT) f1 fd1) (h__law_purse : Has P w K mg base "_law_purse" 1 ["_law_script", "_law_at"] (spPurse K) f2 fd2)
    (h__law_drawn : Has P w K mg base "_law_drawn" 3 ["_law_purse_here"] spDrawn f3 fd3) (h__law_right : Has P w K mg base "_law_right" 5 ["_law_drawn_here"] spLRight f4 fd4) : FnOk P w K mg base CX0 6 f fd ["_law_script"] (spLaw K) := by
  obtain ⟨ds, hvd, hbd⟩ := mT.kd
  refine F.ok sc_law (fun vs H Q E h => ?_) (fun cdv A outer s H vs Q E hr h => ?_)
  · obtain ⟨a, ns, rfl, _⟩ := h
    rfl
  · obtain ⟨l, ns, rfl, hl, hlen, q⟩ := h
    refine ⟨_, (pss_cons (ps_for PassesOwn.never rfl (pi_range1 (by rfl) T.z_range (pa_cons (pe_callB (call_max2 rfl) (by rfl) T.z_max (by decide +kernel) (pa_cons pe_int (pa_cons (pe_callB (call_min2 rfl) (by rfl) T.z_min (by decide +kernel) (pa_cons pe_int (pa_cons (pe_callB call_len_seq (by rfl) T.z_len (by decide +kernel) (pa_cons (pv 0) pa_nil)) pa_nil))) pa_nil))) pa_nil)) (pg_name (i := 1) sc_law.nd rfl (.inl rfl)) 
        (pss_cons (ps_set (i := 2) sc_law.nd rfl (.inl rfl) (pe_callH h__law_purse (hr.mono (by first | decide | omega)) (by rfl) (pa_cons (pv 0) (pa_cons (pv 1) pa_nil))))
        (pss_cons (ps_par (i := 3) (j := 4) (by rfl) sc_law.nd rfl rfl (by decide) rfl rfl (pa_cons (pe_callH h__law_drawn (hr.mono (by first | decide | omega)) (by rfl) (pa_cons (pv 2) pa_nil)) (pa_cons (pe_callH h__law_drawn (hr.mono (by first | decide | omega)) (by rfl) (pa_cons (pv 2) pa_nil)) pa_nil)) (by rfl))
        (pss_cons (ps_if (PW.pt (pw_or (pt_not (pt_val (pe_callH h__law_right (hr.mono (by first | decide | omega)) (by rfl) (pa_cons (pv 3) pa_nil)))) (pw_or1 (pt_not (pt_val (pe_callH h__law_right (hr.mono (by first | decide | omega)) (by rfl) (pa_cons (pv 4) pa_nil))))))) 
          (pss_one (ps_ret pe_bl)) pss_nil)
        (pss_cons (ps_asg (pe_lc (own := [("_law_row", 8)]) (g := gName 8) (tt := tYes) (te := tMakeK CT 3 (List.length (["known"] : List Str)) (spTelInit K CT) (fun us ws => us ++ ws) E0 (tCons (tOp (rIxT K) (tVar 8) (tC (V.int 0))) (tCons (tOp (rIxT K) (tVar 8) (tC (V.int 1))) (tCons (tOp (rIxT K) (tVar 8) (tC (V.int 2))) tNil))) (tCons (tOp (rIxT K) (tVar 8) (tC (V.int 3))) tNil)) rfl sc_law.nd (pi_list (pe_lst (pa_cons (pv 3) (pa_cons (pv 4) pa_nil)))) (blkOk_by (N := nm_law) (sc := defScope s_law) (by decide +kernel)) (fun _ _ _ _ _ => pg_name (i := 8) sc_law.nd rfl (.inl rfl)) (fun _ _ _ _ _ => pts_nil) (fun _ _ _ _ _ => (pe_makeK mT.mkC mT.ok (hr.mono (by first | decide | omega)) (by rfl) mT.at_ mT.k3 pass0 (pa_cons (pe_ix ix_tup (pv 8) pe_int (fun _ _ => rfl)) (pa_cons (pe_ix ix_tup (pv 8) pe_int (fun _ _ => rfl)) (pa_cons (pe_ix ix_tup (pv 8) pe_int (fun _ _ => rfl)) pa_nil))) (pk_cons (pe_ix ix_tup (pv 8) pe_int (fun _ _ => rfl)) pk_nil)))) (pg_unl rfl (pgs_cons (pg_name (i := 5) sc_law.nd rfl (.inl rfl)) (pgs_cons (pg_name (i := 6) sc_law.nd rfl (.inl rfl)) pgs_nil))))
        (pss_cons (ps_set (i := 7) sc_law.nd rfl (.inl rfl) (pe_makeK mT.mkC mT.ok (hr.mono (by first | decide | omega)) (by rfl) mT.at_ mT.k3 pass0 (pa_cons (pe_ix ix_tup (pv 3) pe_int (fun _ _ => rfl)) (pa_cons (pe_ix ix_tup (pv 3) pe_int (fun _ _ => rfl)) (pa_cons (pe_op op_add (pe_ix ix_tup (pv 3) pe_int (fun _ _ => rfl)) pe_int) pa_nil))) (pk_cons (pe_ix ix_tup (pv 3) pe_int (fun _ _ => rfl)) pk_nil)))
        (pss_cons (ps_if (PW.pt (pw_or (pt_cmpR op_ne (pe_cmpR (op_eqOwn hE.ok hE.at_ hE.fn hE.bi pass0 (hr.mono (by first | decide | omega))) (pv 5) (pv 6) (nomark _)) (pe_cmpR (op_eqD hr.units) (pv 3) (pv 4) (nomark _)) (nomark _)) (pw_or1 (pt_cmpR (op_eqOwn hE.ok hE.at_ hE.fn hE.bi pass0 (hr.mono (by first | decide | omega))) (pv 5) (pv 7) (nomark _))))) 
          (pss_one (ps_ret pe_bl)) pss_nil)
        (pss_one (ps_if (PW.pt (pw_and (pt_cmpR (op_eqD hr.units) (pe_ix ix_tup (pv 3) pe_int (fun _ _ => rfl)) (pe_tup pa_nil) (nomark _)) (pw_and1 (pt_cmpR (op_neOwn hE.ok hE.at_ hE.fn O.ne O.ob hE.bi pass0 (hr.mono (by first | decide | omega))) (pe_make mT.mkC mT.ok (hr.mono (by first | decide | omega)) (by rfl) mT.at_ hbd hvd pass0 (pa_cons (pe_ix ix_tup (pv 3) pe_int (fun _ _ => rfl)) (pa_cons (pe_ix ix_tup (pv 3) pe_int (fun _ _ => rfl)) (pa_cons (pe_ix ix_tup (pv 3) pe_int (fun _ _ => rfl)) pa_nil)))) (pv 5) (nomark _))))) 
          (pss_one (ps_ret pe_bl)) pss_nil)))))))))
      (pss_one (ps_ret pe_bl))), ?_⟩
    refine ⟨_, rfl, l, _, rfl, .inl hl, _, _, rfl, _, _, rfl, ?_⟩
    have hb : (if (if ((ns.map V.int).length : Int) < 4 then ((ns.map V.int).length : Int) else 4) > 1 then (if ((ns.map V.int).length : Int) < 4 then ((ns.map V.int).length : Int) else 4) else 1) ≤ 4 ∧ 0 ≤ (if (if ((ns.map V.int).length : Int) < 4 then ((ns.map V.int).length : Int) else 4) > 1 then (if ((ns.map V.int).length : Int) < 4 then ((ns.map V.int).length : Int) else 4) else 1) := by
      split <;> split <;> omega
    refine ⟨_, rfl, by omega, by omega, for_range (fun _ σ H' => (∃ a1 a2 a3 a4 a5 a6 a7 a8, σ = [some (.ref l), a1, a2, a3, a4, a5, a6, a7, a8]) ∧ SqL K H' l (ns.map V.int)) ⟨⟨_, _, _, _, _, _, _, _, rfl⟩, hl⟩ ?_ ?_⟩
    · rintro i σ H0 hi ⟨⟨a1, a2, a3, a4, a5, a6, a7, a8, rfl⟩, hl0⟩
      have hi : i ≤ 100 := by omega
      refine ⟨_, rfl, _, rfl, l, ns, i, ?_, hl0, hi, fun p pa pb hp ha hb hb2 => ?_⟩
      · rw [Int.zero_add]
        rfl
      have P0 : Purse (upd H0 p (.lst [.int pa, .int pb, .int 0])) p 0 := ⟨pa, pb, 0, upd_same, ha, hb, hb2, Int.le_refl _, Int.le_refl _⟩
      have s0 : Same H0 (upd H0 p (.lst [.int pa, .int pb, .int 0])) := same_new hp
      generalize upd H0 p (.lst [.int pa, .int pb, .int 0]) = H1 at P0 s0 ⊢
      refine ⟨_, rfl, p, 0, rfl, P0, by decide, fun r1 H2 t1 m1 y1 b1 P1 n1 o1 => ⟨_, rfl, p, _, rfl, P1, by decide, fun r2 H3 t2 m2 y2 b2 P2 n2 o2 => ⟨_, _, rfl, ?_⟩⟩⟩
      have s3 : Same H0 H3 := But.same b2 (But.same b1 s0 hp) hp
      have n1' := n1.but P1 b2
      refine ⟨_, rfl, r1, t1, m1, y1, rfl, n1', o1, fun H4 s4 => ⟨true, rfl, iteF ?_⟩⟩
      refine ⟨_, rfl, r2, t2, m2, y2, rfl, n2.same s4, o2, fun H5 s5 => ⟨true, rfl, iteF ?_⟩⟩
      have s35 := s4.trans s5
      have d1 := n1'.same s35
      have d2 := n2.same s35
      have hm1 := o1.m
      have hm2 := o2.m
      -- two tellings
      refine ⟨_, rfl, _, rfl, sizeLine_ge (by show 2 ≤ 10000; decide), fun q1 hq1 => ?_⟩
      have s6 : Same H5 (upd H5 q1 (.lst [.ref r1, .ref r2])) := same_new hq1
      have e6 : (upd H5 q1 (.lst [.ref r1, .ref r2])) q1 = some (.lst [.ref r1, .ref r2]) := upd_same
      generalize upd H5 q1 (.lst [.ref r1, .ref r2]) = H6 at s6 e6 ⊢
      have d16 := d1.same s6
      have d26 := d2.same s6
      refine ⟨q1, rfl, ⟨_, .inl (.inl e6)⟩, fun D hD => lc_do (walk_list (xs := [V.ref r1, V.ref r2])) (fun j H' => Same H6 H' ∧ ∃ ps : List Addr, H' D = some (.lst (ps.map V.ref)) ∧ ps.length = j ∧ Paired (fun p (x : Tl × Nat × List (List Nat)) => TellAt CT H' p x.1 (x.2.1 : Int) x.2.2) ps ([(t1, m1, y1), (t2, m2, y2)].take j)) (fun _ => rfl) ⟨same_new hD, [], upd_same, rfl, .nil⟩ (fun _ H' _ h => .inl (.inl (h.1 _ _ e6))) ?_ ?_⟩
      · rintro j x H7 H8 hj ⟨s7, ps, eD, lp, pp⟩ ⟨rfl, hx⟩
        obtain ⟨r, t, m, ys, rfl, dr, ok, ht⟩ : ∃ r t m ys, x = V.ref r ∧ DrawnAt H6 r t m ys ∧ RowOk t m ys ∧ [(t1, m1, y1), (t2, m2, y2)][j]? = some (t, m, ys) := by
          have hj2 : j = 0 ∨ j = 1 := by
            have : [V.ref r1, V.ref r2].length = 2 := rfl
            omega
          rcases hj2 with rfl | rfl
          · exact ⟨r1, t1, m1, y1, (Option.some.inj hx).symm, d16, o1, rfl⟩
          · exact ⟨r2, t2, m2, y2, (Option.some.inj hx).symm, d26, o2, rfl⟩
        obtain ⟨wv, ks, k1, k2, k3⟩ := dr.same s7
        have hm := ok.m
        refine ⟨_, rfl, r, _, _, _, rfl, rfl, .inl (.inl k1), rfl, _, rfl, r, _, _, _, rfl, rfl, .inl (.inl k1), rfl, _, rfl, r, _, _, _, rfl, rfl, .inl (.inl k1), rfl, _, rfl, r, _, _, _, rfl, rfl, .inl (.inl k1), rfl, rfl, rfl, fun a dx ha hdx nxa => ?_⟩
        have sn := (same_new (o := .own a) hdx).trans (same_new (p := a) (o := .ins CT dx []) (by rw [upd_ne (Ne.symm nxa)]; exact ha))
        refine ⟨t, wv, m, ks, a, dx, ys, rfl, k2.same sn, .inr (.inl (sn _ _ k3)), by omega, ok.sh, upd_same, fun H9 ys' b9 pm so tl => ⟨rfl, ?_⟩⟩
        obtain rfl := sorted_unique pm so ok.so
        have s9 : Same _ H9 := But.same b9 sn ha
        have eD9 := s9 _ _ eD
        refine ⟨_, eD9, by rw [List.length_map, lp]; exact sizeLine_ge (by have : [V.ref r1, V.ref r2].length = 2 := rfl; omega), upd_new hD (s7.trans s9), ps ++ [a], by rw [upd_same, List.map_append]; rfl, by rw [List.length_append, lp]; rfl, ?_⟩
        rw [List.take_add_one, ht]
        exact Paired.app (Paired.mapP pp fun q k h => tell_updL eD9 (h.same s9)) (.cons (tell_updL eD9 tl) .nil)
      · rintro H7 ⟨s7, ps, eD, lp, pp⟩
        have pp2 : Paired (fun p (x : Tl × Nat × List (List Nat)) => TellAt CT H7 p x.1 (x.2.1 : Int) x.2.2) ps [(t1, m1, y1), (t2, m2, y2)] := pp
        obtain ⟨fa, fb, rfl, A, B⟩ : ∃ fa fb, ps = [fa, fb] ∧ TellAt CT H7 fa t1 m1 y1 ∧ TellAt CT H7 fb t2 m2 y2 := by
          cases pp2 with
          | cons h1 pp2 =>
            cases pp2 with
            | cons h2 pp2 =>
              cases pp2
              exact ⟨_, _, rfl, h1, h2⟩
        refine ⟨D, _, rfl, .inl (.inl eD), rfl, _, _, rfl, _, _, rfl, rfl, ?_⟩
        have d17 := d16.same s7
        have d27 := d26.same s7
        obtain ⟨w1, k1, u1, u2, u3⟩ := d17
        obtain ⟨w2, k2, v1, v2, v3⟩ := d27
        -- one more step
        refine ⟨_, rfl, r1, _, _, _, rfl, rfl, .inl (.inl u1), rfl, _, rfl, r1, _, _, _, rfl, rfl, .inl (.inl u1), rfl, _, rfl, r1, _, _, _, rfl, rfl, .inl (.inl u1), rfl, _, _, rfl, rfl, _, rfl, r1, _, _, _, rfl, rfl, .inl (.inl u1), rfl, rfl, rfl, fun c dx hc hdx nxc => ?_⟩
        have sn := (same_new (o := .own c) hdx).trans (same_new (p := c) (o := .ins CT dx []) (by rw [upd_ne (Ne.symm nxc)]; exact hc))
        refine ⟨t1, w1, (m1 : Int) + 1, k1, c, dx, y1, rfl, u2.same sn, .inr (.inl (sn _ _ u3)), by omega, o1.sh, upd_same, fun H8 y' b8 pm so C => ⟨rfl, ?_⟩⟩
        obtain rfl := sorted_unique pm so o1.so
        have s8 : Same H7 H8 := But.same b8 sn hc
        have A8 := A.same s8
        have B8 := B.same s8
        obtain ⟨da, wa, ka, ea⟩ := A8.some
        obtain ⟨db, wb, kb, eb⟩ := B8.some
        obtain ⟨dc, wc, kc, ec⟩ := C.some
        have nf : PySem.W.notFirst K CT (.ref CT) = true := by simp [PySem.W.notFirst]
        refine ⟨_, rfl, _, rfl, fa, da, _, .ref CT, rfl, ea, O.ty _ _ _ _ eb, nf, t1, m1, y', fa, .ref fb, rfl, A8, .inr ⟨t2, m2, y2, fb, rfl, B8, O.ty _ _ _ _ eb, O.self, _, rfl, ?_⟩⟩
        refine ⟨_, rfl, _, rfl, rowD t1 m1 y', rowD t2 m2 y2, dp_row (s8 _ _ u1) (u2.same s8) (s8 _ _ u3), dp_row (s8 _ _ v1) (v2.same s8) (s8 _ _ v3), shaped_row o1.asc o1.ascy, shaped_row o2.asc o2.ascy, rfl, _, rfl, iteNS (by rw [rows_same o1 o2]) ?_⟩
        refine ⟨_, rfl, _, rfl, fa, da, _, .ref CT, rfl, ea, O.ty _ _ _ _ ec, nf, t1, m1, y', fa, .ref c, rfl, A8, .inr ⟨t1, (m1 : Int) + 1, y', c, rfl, C, O.ty _ _ _ _ ec, O.self, _, rfl, false, ?_, iteF ?_⟩⟩
        · obtain ⟨ts, sp⟩ := o1.shp
          have : ¬ rowL t1 m1 y' = rowL t1 ((m1 : Int) + 1) y' := fun e => by
            have e : rowL t1 (m1 : Int) y' = rowL t1 ((m1 + 1 : Nat) : Int) y' := e
            have := (row_inj sp sp (by omega) (by omega) o1.nb o1.nb e).2.1
            omega
          rw [decide_eq_false this]
        -- the default
        refine ⟨_, rfl, r1, _, _, _, rfl, rfl, .inl (.inl (s8 _ _ u1)), rfl, sizeLine_ge (by show 0 ≤ 10000; decide), fun q0 hq0 => ?_⟩
        have sq := same_new (o := .tup []) hq0
        refine ⟨.tuple ((y'.map tx).map PyData.str), .tuple [], .tup (.inl (.inl (sq _ _ (s8 _ _ u3)))) (dpAll_sts y'), .tup (.inl (.inl upd_same)) .nil, shaped_tup (asc_map o1.ascy), rfl, ?_⟩
        rw [eqv_nil]
        have fin : ∀ {G : Hp}, Same H8 G → SqL K G l (ns.map V.int) := fun sG => (s3.trans (s35.trans (s6.trans (s7.trans (s8.trans sG))))).seq hl0
        by_cases hy : y' = []
        · subst hy
          refine ⟨true, rfl, iteT ?_⟩
          have u18 := sq _ _ (s8 _ _ u1)
          have u28 := (u2.same s8).same sq
          have A9 := A8.same sq
          generalize upd H8 q0 (.tup []) = H9 at sq u18 u28 A9 ⊢
          refine ⟨_, rfl, r1, _, _, _, rfl, rfl, .inl (.inl u18), rfl, _, rfl, r1, _, _, _, rfl, rfl, .inl (.inl u18), rfl, _, rfl, r1, _, _, _, rfl, rfl, .inl (.inl u18), rfl, fun g dg hg hdg nxg => ?_⟩
          have sn := (same_new (o := .own g) hdg).trans (same_new (p := g) (o := .ins CT dg []) (by rw [upd_ne (Ne.symm nxg)]; exact hg))
          refine ⟨t1, w1, m1, dE, g, dg, [], rfl, u28.same sn, .inr (.inr mT.em), by omega, o1.sh, upd_same, fun HA y2' bA pmA soA TA => ⟨rfl, ?_⟩⟩
          obtain rfl := sorted_unique pmA soA rfl
          have sA : Same H9 HA := But.same bA sn hg
          have AA := A9.same sA
          obtain ⟨dA, wA, kA, eAA⟩ := AA.some
          obtain ⟨dT, wT, kT, eTA⟩ := TA.some
          refine ⟨_, rfl, g, dT, _, .ref CT, rfl, eTA, O.ty _ _ _ _ eAA, nf, t1, m1, [], g, .ref fa, rfl, TA, .inr ⟨t1, m1, [], fa, rfl, AA, O.ty _ _ _ _ eAA, O.self, _, rfl, false, by rw [decide_eq_true rfl]; rfl, iteF ?_⟩⟩
          exact ⟨⟨_, _, _, _, _, _, _, _, rfl⟩, fin (sq.trans sA)⟩
        · have h2 : y'.map tx ≠ [] := fun e => hy (List.map_eq_nil_iff.mp e)
          refine ⟨false, by rw [decide_eq_false h2], iteF ?_⟩
          exact ⟨⟨_, _, _, _, _, _, _, _, rfl⟩, fin sq⟩
    · rintro σ H1 ⟨⟨a1, a2, a3, a4, a5, a6, a7, a8, rfl⟩, hl0⟩
      exact q H1
end
end K


set_option Elab.async false
set_option linter.all false
set_option maxRecDepth 100000
set_option maxHeartbeats 4000000
namespace K
open PySem PySem.Spec PyProof.Rows L2 U SkE
theorem gO_vals {vs zs : List V} {us ws : List Value} (h1 : Vals vs us) (h2 : Vals zs ws) : Vals (gO vs zs) (gO us ws) := by
  cases h1 with
  | nil => exact h2
  | cons a h1 =>
    cases h1 with
    | cons b h1 => exact Vals.append (.cons a (.cons b h1)) h2
    | nil =>
      cases h2 with
      | nil => exact .cons a .nil
      | cons b h2 =>
        cases h2 with
        | nil => exact .cons a (.cons b .nil)
        | cons c h2 =>
          cases h2 with
          | nil => exact .cons a (.cons b (.cons c .nil))
          | cons d h2 =>
            cases h2 with
            | nil => exact .cons a (.cons b (.cons c (.cons d .nil)))
            | cons e h2 =>
              cases h2 with
              | nil => exact .cons a (.cons d (.cons c (.cons b (.cons e .nil))))
              | cons f h2 => exact .cons a (.cons b (.cons c (.cons d (.cons e (.cons f h2)))))
theorem all_mk {l : PySem.W.OpenLaw} {w : World} {K : PySem.W.Frag} {h : Heap} {mg : Str → Option Value} {fa : Addr} (X : K.In h) (G : h.Ns mainGlobals mg) (hfa : mg "law" = some (.ref fa))
    {od_words_of an_words_of : Option Addr} {sl_words_of : Array (Option Value)} {oc_words_of kV_words_of dc_words_of pm_words_of cd_words_of ct_words_of : Value} {f_words_of : Addr}
    (a_words_of : PySem.W.nsIn K mainGlobals "words_of" = some (some (.ref f_words_of))) (l_words_of : K.lookup f_words_of = some ⟨oc_words_of, od_words_of, .func (PySem.W.fnOf "words_of" "words_of" (defArgs s_words_of) (defBody s_words_of) (defScope s_words_of) .none kV_words_of dc_words_of pm_words_of an_words_of cd_words_of ct_words_of), sl_words_of⟩) (c_words_of : PySem.W.codeIn K cd_words_of "words_of" = true) (k_words_of : PySem.W.keepIn K (.ref f_words_of) = true)
    {od__law_purse an__law_purse : Option Addr} {sl__law_purse : Array (Option Value)} {oc__law_purse kV__law_purse dc__law_purse pm__law_purse cd__law_purse ct__law_purse : Value} {f__law_purse : Addr}
    (a__law_purse : PySem.W.nsIn K mainGlobals "_law_purse" = some (some (.ref f__law_purse))) (l__law_purse : K.lookup f__law_purse = some ⟨oc__law_purse, od__law_purse, .func (PySem.W.fnOf "_law_purse" "_law_purse" (defArgs s__law_purse) (defBody s__law_purse) (defScope s__law_purse) .none kV__law_purse dc__law_purse pm__law_purse an__law_purse cd__law_purse ct__law_purse), sl__law_purse⟩) (c__law_purse : PySem.W.codeIn K cd__law_purse "_law_purse" = true) (k__law_purse : PySem.W.keepIn K (.ref f__law_purse) = true)
    {od__law_take an__law_take : Option Addr} {sl__law_take : Array (Option Value)} {oc__law_take kV__law_take dc__law_take pm__law_take cd__law_take ct__law_take : Value} {f__law_take : Addr}
    (a__law_take : PySem.W.nsIn K mainGlobals "_law_take" = some (some (.ref f__law_take))) (l__law_take : K.lookup f__law_take = some ⟨oc__law_take, od__law_take, .func (PySem.W.fnOf "_law_take" "_law_take" (defArgs s__law_take) (defBody s__law_take) (defScope s__law_take) .none kV__law_take dc__law_take pm__law_take an__law_take cd__law_take ct__law_take), sl__law_take⟩) (c__law_take : PySem.W.codeIn K cd__law_take "_law_take" = true) (k__law_take : PySem.W.keepIn K (.ref f__law_take) = true)
    {od__law_names an__law_names : Option Addr} {sl__law_names : Array (Option Value)} {oc__law_names kV__law_names dc__law_names pm__law_names cd__law_names ct__law_names : Value} {f__law_names : Addr}
    (a__law_names : PySem.W.nsIn K mainGlobals "_law_names" = some (some (.ref f__law_names))) (l__law_names : K.lookup f__law_names = some ⟨oc__law_names, od__law_names, .func (PySem.W.fnOf "_law_names" "_law_names" (defArgs s__law_names) (defBody s__law_names) (defScope s__law_names) .none kV__law_names dc__law_names pm__law_names an__law_names cd__law_names ct__law_names), sl__law_names⟩) (c__law_names : PySem.W.codeIn K cd__law_names "_law_names" = true) (k__law_names : PySem.W.keepIn K (.ref f__law_names) = true)
    {od__law_drawn an__law_drawn : Option Addr} {sl__law_drawn : Array (Option Value)} {oc__law_drawn kV__law_drawn dc__law_drawn pm__law_drawn cd__law_drawn ct__law_drawn : Value} {f__law_drawn : Addr}
    (a__law_drawn : PySem.W.nsIn K mainGlobals "_law_drawn" = some (some (.ref f__law_drawn))) (l__law_drawn : K.lookup f__law_drawn = some ⟨oc__law_drawn, od__law_drawn, .func (PySem.W.fnOf "_law_drawn" "_law_drawn" (defArgs s__law_drawn) (defBody s__law_drawn) (defScope s__law_drawn) .none kV__law_drawn dc__law_drawn pm__law_drawn an__law_drawn cd__law_drawn ct__law_drawn), sl__law_drawn⟩) (c__law_drawn : PySem.W.codeIn K cd__law_drawn "_law_drawn" = true) (k__law_drawn : PySem.W.keepIn K (.ref f__law_drawn) = true)
    {od__law_text an__law_text : Option Addr} {sl__law_text : Array (Option Value)} {oc__law_text kV__law_text dc__law_text pm__law_text cd__law_text ct__law_text : Value} {f__law_text : Addr}
    (a__law_text : PySem.W.nsIn K mainGlobals "_law_text" = some (some (.ref f__law_text))) (l__law_text : K.lookup f__law_text = some ⟨oc__law_text, od__law_text, .func (PySem.W.fnOf "_law_text" "_law_text" (defArgs s__law_text) (defBody s__law_text) (defScope s__law_text) .none kV__law_text dc__law_text pm__law_text an__law_text cd__law_text ct__law_text), sl__law_text⟩) (c__law_text : PySem.W.codeIn K cd__law_text "_law_text" = true) (k__law_text : PySem.W.keepIn K (.ref f__law_text) = true)
    {od__law_right an__law_right : Option Addr} {sl__law_right : Array (Option Value)} {oc__law_right kV__law_right dc__law_right pm__law_right cd__law_right ct__law_right : Value} {f__law_right : Addr}
    (a__law_right : PySem.W.nsIn K mainGlobals "_law_right" = some (some (.ref f__law_right))) (l__law_right : K.lookup f__law_right = some ⟨oc__law_right, od__law_right, .func (PySem.W.fnOf "_law_right" "_law_right" (defArgs s__law_right) (defBody s__law_right) (defScope s__law_right) .none kV__law_right dc__law_right pm__law_right an__law_right cd__law_right ct__law_right), sl__law_right⟩) (c__law_right : PySem.W.codeIn K cd__law_right "_law_right" = true) (k__law_right : PySem.W.keepIn K (.ref f__law_right) = true)
    {od_law an_law : Option Addr} {sl_law : Array (Option Value)} {oc_law kV_law dc_law pm_law cd_law ct_law : Value} {f_law : Addr}
    (a_law : PySem.W.nsIn K mainGlobals "law" = some (some (.ref f_law))) (l_law : K.lookup f_law = some ⟨oc_law, od_law, .func (PySem.W.fnOf "law" "law" (defArgs s_law) (defBody s_law) (defScope s_law) .none kV_law dc_law pm_law an_law cd_law ct_law), sl_law⟩) (c_law : PySem.W.codeIn K cd_law "law" = true) (k_law : PySem.W.keepIn K (.ref f_law) = true)
    {od_Telling_is_sure an_Telling_is_sure : Option Addr} {sl_Telling_is_sure : Array (Option Value)} {oc_Telling_is_sure kV_Telling_is_sure dc_Telling_is_sure pm_Telling_is_sure cd_Telling_is_sure ct_Telling_is_sure : Value} {f_Telling_is_sure : Addr}
    (l_Telling_is_sure : K.lookup f_Telling_is_sure = some ⟨oc_Telling_is_sure, od_Telling_is_sure, .func (PySem.W.fnOf "is_sure" "Telling.is_sure" (defArgs s_Telling_is_sure) (defBody s_Telling_is_sure) (defScope s_Telling_is_sure) .none kV_Telling_is_sure dc_Telling_is_sure pm_Telling_is_sure an_Telling_is_sure cd_Telling_is_sure ct_Telling_is_sure), sl_Telling_is_sure⟩) (c_Telling_is_sure : PySem.W.codeIn K cd_Telling_is_sure "Telling.is_sure" = true) (k_Telling_is_sure : PySem.W.keepIn K (.ref f_Telling_is_sure) = true)
    {od_Telling___eq__ an_Telling___eq__ : Option Addr} {sl_Telling___eq__ : Array (Option Value)} {oc_Telling___eq__ kV_Telling___eq__ dc_Telling___eq__ pm_Telling___eq__ cd_Telling___eq__ ct_Telling___eq__ : Value} {f_Telling___eq__ : Addr}
    (l_Telling___eq__ : K.lookup f_Telling___eq__ = some ⟨oc_Telling___eq__, od_Telling___eq__, .func (PySem.W.fnOf "__eq__" "Telling.__eq__" (defArgs s_Telling___eq__) (defBody s_Telling___eq__) (defScope s_Telling___eq__) .none kV_Telling___eq__ dc_Telling___eq__ pm_Telling___eq__ an_Telling___eq__ cd_Telling___eq__ ct_Telling___eq__), sl_Telling___eq__⟩) (c_Telling___eq__ : PySem.W.codeIn K cd_Telling___eq__ "Telling.__eq__" = true) (k_Telling___eq__ : PySem.W.keepIn K (.ref f_Telling___eq__) = true)
    {od_Telling___len__ an_Telling___len__ : Option Addr} {sl_Telling___len__ : Array (Option Value)} {oc_Telling___len__ kV_Telling___len__ dc_Telling___len__ pm_Telling___len__ cd_Telling___len__ ct_Telling___len__ : Value} {f_Telling___len__ : Addr}
    (l_Telling___len__ : K.lookup f_Telling___len__ = some ⟨oc_Telling___len__, od_Telling___len__, .func (PySem.W.fnOf "__len__" "Telling.__len__" (defArgs s_Telling___len__) (defBody s_Telling___len__) (defScope s_Telling___len__) .none kV_Telling___len__ dc_Telling___len__ pm_Telling___len__ an_Telling___len__ cd_Telling___len__ ct_Telling___len__), sl_Telling___len__⟩) (c_Telling___len__ : PySem.W.codeIn K cd_Telling___len__ "Telling.__len__" = true) (k_Telling___len__ : PySem.W.keepIn K (.ref f_Telling___len__) = true)
    {od_Telling___str__ an_Telling___str__ : Option Addr} {sl_Telling___str__ : Array (Option Value)} {oc_Telling___str__ kV_Telling___str__ dc_Telling___str__ pm_Telling___str__ cd_Telling___str__ ct_Telling___str__ : Value} {f_Telling___str__ : Addr}
    (l_Telling___str__ : K.lookup f_Telling___str__ = some ⟨oc_Telling___str__, od_Telling___str__, .func (PySem.W.fnOf "__str__" "Telling.__str__" (defArgs s_Telling___str__) (defBody s_Telling___str__) (defScope s_Telling___str__) .none kV_Telling___str__ dc_Telling___str__ pm_Telling___str__ an_Telling___str__ cd_Telling___str__ ct_Telling___str__), sl_Telling___str__⟩) (c_Telling___str__ : PySem.W.codeIn K cd_Telling___str__ "Telling.__str__" = true) (k_Telling___str__ : PySem.W.keepIn K (.ref f_Telling___str__) = true)
    {od_Telling___repr__ an_Telling___repr__ : Option Addr} {sl_Telling___repr__ : Array (Option Value)} {oc_Telling___repr__ kV_Telling___repr__ dc_Telling___repr__ pm_Telling___repr__ cd_Telling___repr__ ct_Telling___repr__ : Value} {f_Telling___repr__ : Addr}
    (l_Telling___repr__ : K.lookup f_Telling___repr__ = some ⟨oc_Telling___repr__, od_Telling___repr__, .func (PySem.W.fnOf "__repr__" "Telling.__repr__" (defArgs s_Telling___repr__) (defBody s_Telling___repr__) (defScope s_Telling___repr__) .none kV_Telling___repr__ dc_Telling___repr__ pm_Telling___repr__ an_Telling___repr__ cd_Telling___repr__ ct_Telling___repr__), sl_Telling___repr__⟩) (c_Telling___repr__ : PySem.W.codeIn K cd_Telling___repr__ "Telling.__repr__" = true) (k_Telling___repr__ : PySem.W.keepIn K (.ref f_Telling___repr__) = true)
    (z_abs : PySem.W.nsIn K mainGlobals "abs" = some none)
    (z_any : PySem.W.nsIn K mainGlobals "any" = some none)
    (z_bool : PySem.W.nsIn K mainGlobals "bool" = some none)
    (z_int : PySem.W.nsIn K mainGlobals "int" = some none)
    (z_isinstance : PySem.W.nsIn K mainGlobals "isinstance" = some none)
    (z_len : PySem.W.nsIn K mainGlobals "len" = some none)
    (z_list : PySem.W.nsIn K mainGlobals "list" = some none)
    (z_max : PySem.W.nsIn K mainGlobals "max" = some none)
    (z_min : PySem.W.nsIn K mainGlobals "min" = some none)
    (z_range : PySem.W.nsIn K mainGlobals "range" = some none)
    (z_repr : PySem.W.nsIn K mainGlobals "repr" = some none)
    (z_set : PySem.W.nsIn K mainGlobals "set" = some none)
    (z_sorted : PySem.W.nsIn K mainGlobals "sorted" = some none)
    (z_str : PySem.W.nsIn K mainGlobals "str" = some none)
    (z_tuple : PySem.W.nsIn K mainGlobals "tuple" = some none)
    {od0 an0 : Option Addr} {sl0 : Array (Option Value)} {oc0 kV0 dc0 pm0 cd0 ct0 : Value} {f0 : Addr}
    (l0 : K.lookup f0 = some ⟨oc0, od0, .func (PySem.W.fnOf "__init__" "Telling.__init__" (defArgs s_Telling___init__) (defBody s_Telling___init__) (defScope s_Telling___init__) .none kV0 dc0 pm0 an0 cd0 ct0), sl0⟩) (c0 : PySem.W.codeIn K cd0 "Telling.__init__" = true) (k0 : PySem.W.keepIn K (.ref f0) = true)
    {CT dS dE dK : Addr} {nS nE : Nat} {ddS ddE : Option Addr} {itsS itsE : Array Value} {slS slE : Array (Option Value)}
    (aTel : PySem.W.nsIn K mainGlobals "Telling" = some (some (.ref CT))) (mTel : Mk K CT f0) (clTel : TelC K CT)
    (iEq : PySem.W.findIn K (.ref CT) "__eq__" = some (some (.ref f_Telling___eq__)) ∧ PySem.W.isFn K (.ref f_Telling___eq__) = true) (iLen : PySem.W.findIn K (.ref CT) "__len__" = some (some (.ref f_Telling___len__)) ∧ PySem.W.isFn K (.ref f_Telling___len__) = true)
    (iStr : PySem.W.findIn K (.ref CT) "__str__" = some (some (.ref f_Telling___str__)) ∧ PySem.W.isFn K (.ref f_Telling___str__) = true) (iRepr : PySem.W.findIn K (.ref CT) "__repr__" = some (some (.ref f_Telling___repr__)) ∧ PySem.W.isFn K (.ref f_Telling___repr__) = true)
    (mSure : Meth K CT "is_sure" f_Telling_is_sure) (O : Own K CT)
    (gS : PySem.W.nsIn K mainGlobals "SURE" = some (some (.ref dS))) (lS : K.lookup dS = some ⟨.type "tuple", ddS, .seq itsS nS, slS⟩) (vS : Vals [.str (Str.ofString "word"), .str (Str.ofString "fault"), .str (Str.ofString "ring")] itsS.toList)
    (hkV : kV0 = .ref dK) (nsK : PySem.W.nsIn K dK "known" = some (some (.ref dE))) (lE : K.lookup dE = some ⟨.type "tuple", ddE, .seq itsE nE, slE⟩) (vE : Vals [] itsE.toList) :
    ∃ fd : FuncData, (∀ (s : Shared) (v : Value), BindsTo s fd ⟨[v], []⟩ [("_law_script", v)]) ∧ ∀ base : Heap, K.In base → base.Ns mainGlobals mg → FnOk l.prog w K mg base CX0 6 fa fd ["_law_script"] (spLaw K) := by
  have e := hfa.symm.trans (PySem.W.mg_of X G a_law)
  cases e
  have T0 : TxtB K mg := ⟨PySem.W.mg_none_of X G z_abs, PySem.W.mg_none_of X G z_any, PySem.W.mg_none_of X G z_bool, PySem.W.mg_none_of X G z_int, PySem.W.mg_none_of X G z_isinstance, PySem.W.mg_none_of X G z_len, PySem.W.mg_none_of X G z_list, PySem.W.mg_none_of X G z_max, PySem.W.mg_none_of X G z_min, PySem.W.mg_none_of X G z_range, PySem.W.mg_none_of X G z_repr, PySem.W.mg_none_of X G z_set, PySem.W.mg_none_of X G z_sorted, PySem.W.mg_none_of X G z_str, PySem.W.mg_none_of X G z_tuple⟩
  have F_words_of := fun_mk (st := s_words_of) l_words_of c_words_of k_words_of
  have b_words_of := F_words_of.binds (ps := ["kind", "what", "steps", "known"]) fun _ _ _ _ _ _ us hl => match us, hl with | [_, _, _, _], _ => rfl
  have m_words_of := PySem.W.mg_of X G a_words_of
  have F__law_purse := fun_mk (st := s__law_purse) l__law_purse c__law_purse k__law_purse
  have b__law_purse := F__law_purse.binds (ps := ["_law_script", "_law_at"]) fun _ _ _ _ _ _ us hl => match us, hl with | [_, _], _ => rfl
  have m__law_purse := PySem.W.mg_of X G a__law_purse
  have F__law_take := fun_mk (st := s__law_take) l__law_take c__law_take k__law_take
  have b__law_take := F__law_take.binds (ps := ["_law_purse_here", "_law_many"]) fun _ _ _ _ _ _ us hl => match us, hl with | [_, _], _ => rfl
  have m__law_take := PySem.W.mg_of X G a__law_take
  have F__law_names := fun_mk (st := s__law_names) l__law_names c__law_names k__law_names
  have b__law_names := F__law_names.binds (ps := ["_law_purse_here", "_law_many", "_law_signs", "_law_wide"]) fun _ _ _ _ _ _ us hl => match us, hl with | [_, _, _, _], _ => rfl
  have m__law_names := PySem.W.mg_of X G a__law_names
  have F__law_drawn := fun_mk (st := s__law_drawn) l__law_drawn c__law_drawn k__law_drawn
  have b__law_drawn := F__law_drawn.binds (ps := ["_law_purse_here"]) fun _ _ _ _ _ _ us hl => match us, hl with | [_], _ => rfl
  have m__law_drawn := PySem.W.mg_of X G a__law_drawn
  have F__law_text := fun_mk (st := s__law_text) l__law_text c__law_text k__law_text
  have b__law_text := F__law_text.binds (ps := ["_law_word_of", "_law_told_of", "_law_many", "_law_set_of"]) fun _ _ _ _ _ _ us hl => match us, hl with | [_, _, _, _], _ => rfl
  have m__law_text := PySem.W.mg_of X G a__law_text
  have F__law_right := fun_mk (st := s__law_right) l__law_right c__law_right k__law_right
  have b__law_right := F__law_right.binds (ps := ["_law_drawn_here"]) fun _ _ _ _ _ _ us hl => match us, hl with | [_], _ => rfl
  have m__law_right := PySem.W.mg_of X G a__law_right
  have F_law := fun_mk (st := s_law) l_law c_law k_law
  have b_law := F_law.binds (ps := ["_law_script"]) fun _ _ _ _ _ _ us hl => match us, hl with | [_], _ => rfl
  have m_law := PySem.W.mg_of X G a_law
  have F_Telling_is_sure := fun_mk (st := s_Telling_is_sure) l_Telling_is_sure c_Telling_is_sure k_Telling_is_sure
  have b_Telling_is_sure := F_Telling_is_sure.binds (ps := ["self"]) fun _ _ _ _ _ _ us hl => match us, hl with | [_], _ => rfl
  have F_Telling___eq__ := fun_mk (st := s_Telling___eq__) l_Telling___eq__ c_Telling___eq__ k_Telling___eq__
  have b_Telling___eq__ := F_Telling___eq__.binds (ps := ["self", "other"]) fun _ _ _ _ _ _ us hl => match us, hl with | [_, _], _ => rfl
  have F_Telling___len__ := fun_mk (st := s_Telling___len__) l_Telling___len__ c_Telling___len__ k_Telling___len__
  have b_Telling___len__ := F_Telling___len__.binds (ps := ["self"]) fun _ _ _ _ _ _ us hl => match us, hl with | [_], _ => rfl
  have F_Telling___str__ := fun_mk (st := s_Telling___str__) l_Telling___str__ c_Telling___str__ k_Telling___str__
  have b_Telling___str__ := F_Telling___str__.binds (ps := ["self"]) fun _ _ _ _ _ _ us hl => match us, hl with | [_], _ => rfl
  have F_Telling___repr__ := fun_mk (st := s_Telling___repr__) l_Telling___repr__ c_Telling___repr__ k_Telling___repr__
  have b_Telling___repr__ := F_Telling___repr__.binds (ps := ["self"]) fun _ _ _ _ _ _ us hl => match us, hl with | [_], _ => rfl
  have T : Txt K mg dS := ⟨T0, PySem.W.mg_of X G gS, fun H => .inr ⟨_, itsS, nS, lS, rfl, rfl, sizeLine_ge (by have h := vS.length; simp at h; omega), vS⟩⟩
  refine ⟨PySem.W.fnOf "law" "law" (defArgs s_law) (defBody s_law) (defScope s_law) .none kV_law dc_law pm_law an_law cd_law ct_law, fun s v => .of_eq rfl, fun base _ _ => ?_⟩
  have mgTel := PySem.W.mg_of X G aTel
  have F0 := fun_mk (st := s_Telling___init__) l0 c0 k0
  have FD : FunD K "__init__" "Telling.__init__" (defArgs s_Telling___init__) (defBody s_Telling___init__) (defScope s_Telling___init__) [] [("known", V.ref dE)] f0 (PySem.W.fnOf "__init__" "Telling.__init__" (defArgs s_Telling___init__) (defBody s_Telling___init__) (defScope s_Telling___init__) .none kV0 dc0 pm0 an0 cd0 ct0) :=
    ⟨⟨oc0, od0, .none, kV0, dc0, pm0, an0, cd0, ct0, sl0, rfl, l0, c0, .inl ⟨rfl, rfl⟩, .inr ⟨dK, hkV, fun q hq => by rw [List.mem_singleton.mp hq]; exact ⟨_, nsK, rfl⟩⟩⟩, k0⟩
  have h_words_of : Has l.prog w K mg base "words_of" 1 ["kind", "what", "steps", "known"] spWordsOf _ _ := ⟨m_words_of, k_words_of, b_words_of, ok_words_of T F_words_of⟩
  have mT : HasTel l.prog w K mg base CT dE f0 _ := ⟨mgTel, mTel, ok_Telling_init T F0 clTel h_words_of,
    ⟨fun s us ws _ h1 h2 => match us, ws, h1, h2 with | [_, _, _, _], [_], _, _ => .of_eq rfl, fun h1 h2 => Vals.append h1 h2⟩,
    ⟨fun s us ws _ h1 h2 => match us, ws, h1, h2 with | [_], [_, _, _, _], _, _ => .of_eq rfl, fun h1 h2 => gO_vals h1 h2⟩,
    FD.binds0 4 (by simp) rfl fun D doc pm an cdv ct us ks l1 l2 => match us, ks, l1, l2 with | [_, _, _, _], [_], _, _ => ⟨_, _, _, _, _, _, rfl, rfl, rfl⟩,
    fun H => .inr ⟨_, itsE, nE, lE, rfl, rfl, sizeLine_ge (by have h := vE.length; simp at h; omega), vE⟩⟩
  have hE : HasM l.prog w K mg base CT "__eq__" 1 ["self", "other"] (spTelEq K CT) _ _ := ⟨iEq.1, iEq.2, b_Telling___eq__, ok_Telling_eq T F_Telling___eq__ clTel mgTel⟩
  have hL : HasM l.prog w K mg base CT "__len__" 1 ["self"] (spTelLen CT) _ _ := ⟨iLen.1, iLen.2, b_Telling___len__, ok_Telling_len T F_Telling___len__ clTel⟩
  have hS : HasM l.prog w K mg base CT "__str__" 1 ["self"] (spTelStr CT) _ _ := ⟨iStr.1, iStr.2, b_Telling___str__, ok_Telling_str T F_Telling___str__ clTel⟩
  have hR : HasM l.prog w K mg base CT "__repr__" 1 ["self"] (spTelRepr CT) _ _ := ⟨iRepr.1, iRepr.2, b_Telling___repr__, ok_Telling_repr T F_Telling___repr__ clTel⟩
  have hSu : HasT l.prog w K mg base CT "is_sure" 1 ["self"] (spTelSure CT) _ _ := ⟨mSure, b_Telling_is_sure, ok_Telling_sure T F_Telling_is_sure clTel⟩
  have h__law_purse : Has l.prog w K mg base "_law_purse" 1 ["_law_script", "_law_at"] (spPurse K) _ _ := ⟨m__law_purse, k__law_purse, b__law_purse, ok__law_purse T F__law_purse⟩
  have h__law_take : Has l.prog w K mg base "_law_take" 1 ["_law_purse_here", "_law_many"] spTake _ _ := ⟨m__law_take, k__law_take, b__law_take, ok__law_take T F__law_take⟩
  have h__law_names : Has l.prog w K mg base "_law_names" 2 ["_law_purse_here", "_law_many", "_law_signs", "_law_wide"] spNames _ _ := ⟨m__law_names, k__law_names, b__law_names, ok__law_names T F__law_names h__law_take⟩
  have h__law_drawn : Has l.prog w K mg base "_law_drawn" 3 ["_law_purse_here"] spDrawn _ _ := ⟨m__law_drawn, k__law_drawn, b__law_drawn, ok__law_drawn T F__law_drawn h__law_take h__law_names⟩
  have h__law_text : Has l.prog w K mg base "_law_text" 1 ["_law_word_of", "_law_told_of", "_law_many", "_law_set_of"] spLText _ _ := ⟨m__law_text, k__law_text, b__law_text, ok__law_text T F__law_text⟩
  have h__law_right : Has l.prog w K mg base "_law_right" 5 ["_law_drawn_here"] spLRight _ _ := ⟨m__law_right, k__law_right, b__law_right, ok__law_right T F__law_right O clTel clTel.cl mT hE hL hS hR hSu h__law_text⟩
  exact ok_law T F_law O mT hE h__law_purse h__law_drawn h__law_right
end K


set_option Elab.async false
set_option linter.all false
set_option maxRecDepth 100000
set_option maxHeartbeats 4000000
open PySem PySem.W PyProof.Rows
set_option maxHeartbeats 0 in
theorem PySem.Challenge.cw_unwritparts_k08_tellings_told_holds : PySem.Challenge.rw_unwritparts_k08_tellings_told.Holds := by
  w_on; o_law; k_head; (case hw => w_witness2)
  k_fill
  refine L2.walk_of (l := PySem.Challenge.rw_unwritparts_k08_tellings_told) (n := 63) (k := 6) (x := "_law_script") (CX := fun _ => L2.CX0) (sp := fun w => K.spLaw _) rfl (by decide) rfl ⟨rfl, by decide, by decide⟩ (fun w h Y => PySem.W.kIn_of Y) ?F (fun _ _ a ns hl _ hS => ⟨a, ns, rfl, hS, hl, fun _ => rfl⟩) (fun _ _ _ _ _ h => h)
  case F =>
    intro w mg fa h KX G hmg
    refine' K.all_mk KX G hmg ?a_words_of ?l_words_of ?c_words_of ?k_words_of ?a__law_purse ?l__law_purse ?c__law_purse ?k__law_purse ?a__law_take ?l__law_take ?c__law_take ?k__law_take ?a__law_names ?l__law_names ?c__law_names ?k__law_names ?a__law_drawn ?l__law_drawn ?c__law_drawn ?k__law_drawn ?a__law_text ?l__law_text ?c__law_text ?k__law_text ?a__law_right ?l__law_right ?c__law_right ?k__law_right ?a_law ?l_law ?c_law ?k_law ?l_Telling_is_sure ?c_Telling_is_sure ?k_Telling_is_sure ?l_Telling___eq__ ?c_Telling___eq__ ?k_Telling___eq__ ?l_Telling___len__ ?c_Telling___len__ ?k_Telling___len__ ?l_Telling___str__ ?c_Telling___str__ ?k_Telling___str__ ?l_Telling___repr__ ?c_Telling___repr__ ?k_Telling___repr__ ?z_abs ?z_any ?z_bool ?z_int ?z_isinstance ?z_len ?z_list ?z_max ?z_min ?z_range ?z_repr ?z_set ?z_sorted ?z_str ?z_tuple ?l0 ?c0 ?k0 ?aTel ?mTel ?clTel ?iEq ?iLen ?iStr ?iRepr ?mSure ?O ?gS ?lS ?vS ?hkV ?nsK ?lE ?vE
    (case aTel => k_is)
    (case mTel => refine' ⟨?mk1, ?mk2, ?mk3, ?mk4⟩; (case mk1 => k_is); (case mk2 => k_is); (case mk3 => k_is); (case mk4 => k_is))
    (case iEq => refine' ⟨?in1, ?in2⟩; (case in1 => k_is); (case in2 => k_is))
    (case iLen => refine' ⟨?in1, ?in2⟩; (case in1 => k_is); (case in2 => k_is))
    (case iStr => refine' ⟨?in1, ?in2⟩; (case in1 => k_is); (case in2 => k_is))
    (case iRepr => refine' ⟨?in1, ?in2⟩; (case in1 => k_is); (case in2 => k_is))
    (case mSure => refine' ⟨?mk1, ?mk2, ?mk3⟩; (case mk1 => k_is); (case mk2 => k_is); (case mk3 => k_is))
    (case clTel => refine' ⟨⟨?_, ?_, ?_, ?_⟩, ?_, ?_, ?_, ?_, ?_⟩ <;> (try unfold L2.NoAttr) <;> k_is)
    (case l0 => k_is); (case c0 => k_is); (case k0 => k_is)
    (case gS => k_is); (case lS => k_is)
    (case vS => exact .cons ⟨_, rfl⟩ (.cons ⟨_, rfl⟩ (.cons ⟨_, rfl⟩ .nil)))
    (case hkV => rfl)
    (case nsK => k_is); (case lE => k_is); (case vE => exact .nil)
    (case O =>
      refine' ⟨?nb, ?ne, ?ob, fun H a dx fs e => .base (.ins e ⟨?c1, ?c2, ?c3, ?c4⟩ ?ha ?hn ?htk ?hm), ?self, ?oth⟩
      (case oth =>
        intro n hn
        simp only [List.mem_cons, List.not_mem_nil, or_false] at hn
        rcases hn with rfl | rfl | rfl | rfl <;> refine' ⟨?_, ?_⟩ <;> first | kit_is | k_is)
      all_goals first | kit_is | k_is)
    (case a_words_of => k_is); (case l_words_of => k_is); (case c_words_of => k_is); (case k_words_of => k_is); (case a__law_purse => k_is); (case l__law_purse => k_is); (case c__law_purse => k_is); (case k__law_purse => k_is); (case a__law_take => k_is); (case l__law_take => k_is); (case c__law_take => k_is); (case k__law_take => k_is); (case a__law_names => k_is); (case l__law_names => k_is); (case c__law_names => k_is); (case k__law_names => k_is); (case a__law_drawn => k_is); (case l__law_drawn => k_is); (case c__law_drawn => k_is); (case k__law_drawn => k_is); (case a__law_text => k_is); (case l__law_text => k_is); (case c__law_text => k_is); (case k__law_text => k_is); (case a__law_right => k_is); (case l__law_right => k_is); (case c__law_right => k_is); (case k__law_right => k_is); (case a_law => k_is); (case l_law => k_is); (case c_law => k_is); (case k_law => k_is); (case l_Telling_is_sure => k_is); (case c_Telling_is_sure => k_is); (case k_Telling_is_sure => k_is); (case l_Telling___eq__ => k_is); (case c_Telling___eq__ => k_is); (case k_Telling___eq__ => k_is); (case l_Telling___len__ => k_is); (case c_Telling___len__ => k_is); (case k_Telling___len__ => k_is); (case l_Telling___str__ => k_is); (case c_Telling___str__ => k_is); (case k_Telling___str__ => k_is); (case l_Telling___repr__ => k_is); (case c_Telling___repr__ => k_is); (case k_Telling___repr__ => k_is); (case z_abs => k_is); (case z_any => k_is); (case z_bool => k_is); (case z_int => k_is); (case z_isinstance => k_is); (case z_len => k_is); (case z_list => k_is); (case z_max => k_is); (case z_min => k_is); (case z_range => k_is); (case z_repr => k_is); (case z_set => k_is); (case z_sorted => k_is); (case z_str => k_is); (case z_tuple => k_is)
    all_goals clear hmg G KX


