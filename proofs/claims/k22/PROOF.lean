import PyProof.Rows.All
import Wide.All
import OpenK.AllK
import Wide.FinOn
import HandS.ForMost
import HandS.Wide
import HandS.IsInst
import HandS.Walk
import PyProof.ListStr
import HandS.OwnEq
import HandS.SlotsOwn
import HandS.List
import HandS.Iter
import HandS.More
import HandS.Set
import HandS.SetFor
import HandS.Strs
import PySem.Challenge.RW_unwritparts_k22_houses_written
import HandS.Evl
import HandS.TupAny
import HandS.FStr
import HandS.RaiseMore
import HandS.Defaults
import KE.KFmtOwn
import HandS.Dict
import PyProof.Rows.SortShellAny
import HandS.ClsMeth
import HandS.DictComp
import PyProof.InstEq
import HandS.ListEq
import HandS.MakeKwOnly
import HandS.MakeKw
import HandS.HeadEnd
import HandS.Head0
import HandS.Head1
import HandS.Head2
import HandS.HeadHook1
import HandS.HeadHook2
import HandS.HeadHook3
import HandS.HeadHook4
set_option Elab.async false
set_option linter.all false
set_option maxRecDepth 100000
set_option maxHeartbeats 4000000
namespace U
open PySem PySem.Spec PyProof.Rows L2
/-! ### words of one's own over the hand layer -/
/-- a ** b, of a base of at most a thousand bits -/
def CPowW (i j : Int) : Prop := 0 ≤ j ∧ j ≤ 1000 ∧ i.natAbs < 2 ^ 1000
theorem op_powW {X : Cx} : OpR X (binaryOp .Pow) (rI CPowW fun i j => .int (i ^ j.toNat)) := opI fun i j _ _ _ _ _ hc q => by
  refine pow_int hc.1 ?_ q
  have h1 : Builtin.Int.intBits i ≤ 1000 := by
    have := PySem.Flt.log2_lt_of (by decide) hc.2.2
    unfold Builtin.Int.intBits
    split <;> omega
  have h2 := hc.1
  have h3 := hc.2.1
  have h4 : (Builtin.Int.intBits i : Int) * j ≤ 1000 * 1000 := Int.mul_le_mul (by omega) h3 h2 (by decide)
  exact Int.le_trans h4 (by decide)
/-- a def of the module: where it stands, how it is called, what it promises -/
structure Has (P : Program) (w : World) (K : PySem.W.Frag) (mg : Str → Option Value) (base : Heap) (x : Str) (k : Nat) (ps : List Str) (sp : Sp) (f : Addr) (fd : FuncData) : Prop where
  at_ : mg x = some (.ref f)
  kp : PySem.W.keepIn K (.ref f) = true
  bi : Binds K fd ps []
  ok : FnOk P w K mg base CX0 k f fd ps sp
section
variable {X : Cx} {k : Nat} {f : Addr} {fd : FuncData} {ps : List Str} {sp : Sp} {x : Str} {p pos : Pos} {e : Expr} {es : List Expr} {t : TA}
theorem pe_callH (h : Has X.prog X.w X.K X.mg X.base x k ps sp f fd) (hr : Room k X.A) (hg : Gl X x) (ha : PA X (e :: es) t) (hdb : (x == ("__debug__" : Str)) = false := by decide)
    (he : starEach (e :: es) X.env = (false, eval e X.env) :: starEach es X.env := by rfl) (hpl : (backTo pos (starEach es X.env)).any (·.1) = false := by rfl) :
    PE X (.Call (.Name x p) (e :: es) [] pos) (tCall sp [] E0 t) :=
  pe_call h.ok hr hg h.at_ h.kp h.bi .nil pass0 ha hdb he hpl
end
/-- a class of the module: where it stands, how its __init__ is called, what that promises -/
structure HasC (P : Program) (w : World) (K : PySem.W.Frag) (mg : Str → Option Value) (base : Heap) (x : Str) (C : Addr) (k : Nat) (ps : List Str) (sp : Sp) (f : Addr) (fd : FuncData) : Prop where
  at_ : mg x = some (.ref C)
  mkC : Mk K C f
  bi : Binds K fd ps []
  ok : FnOk P w K mg base CX0 k f fd ps sp
section
variable {X : Cx} {k : Nat} {f C : Addr} {fd : FuncData} {ps : List Str} {sp : Sp} {x : Str} {p pos : Pos} {e : Expr} {es : List Expr} {t : TA}
theorem pe_makeH (h : HasC X.prog X.w X.K X.mg X.base x C k ps sp f fd) (hr : Room (k + 1) X.A) (hg : Gl X x) (ha : PA X (e :: es) t) (hdb : (x == ("__debug__" : Str)) = false := by decide)
    (he : starEach (e :: es) X.env = (false, eval e X.env) :: starEach es X.env := by rfl) (hpl : (backTo pos (starEach es X.env)).any (·.1) = false := by rfl) :
    PE X (.Call (.Name x p) (e :: es) [] pos) (tMake C sp [] E0 t) :=
  pe_make h.mkC h.ok hr hg h.at_ h.bi .nil pass0 ha hdb he hpl
end
section
variable {X : Cx}
theorem vals_signs (x : Str) : ∀ (zs : List Nat) (us : List Value) (n : Nat), zs.length = us.length → (∀ (j : Nat) (v : Value), us[j]? = some v → ∃ (c : Nat) (u : Tok), zs[j]? = some c ∧ v = Value.str ⟨#[c]⟩ u) → Vals (zs.map fun c => V.str ⟨#[c]⟩) us
  | [], [], _, _, _ => .nil
  | [], _ :: _, _, h, _ => by simp at h
  | _ :: _, [], _, h, _ => by simp at h
  | z :: zs, u :: us, n, h, f => by
    obtain ⟨c, t, e1, e2⟩ := f 0 u rfl
    have e : z = c := Option.some.inj e1
    subst e
    exact .cons ⟨t, e2⟩ (vals_signs x zs us n (by simpa using h) fun j v e => f (j + 1) v e)
/-- list(text) -/
theorem call_list_txt (hc : X.calm = true) : CallR X (.type "list") (fun xs H Q => ∃ z : Str, xs = [.str z] ∧ z.length ≤ sizeLine ∧ ∀ l, H l = none → Q (.ref l) (upd H l (.lst (z.cps.toList.map fun c => V.str ⟨#[c]⟩)))) := by
  intro pins s σ H xs us Q I r h
  obtain ⟨z, rfl, hz, q⟩ := h
  obtain ⟨u, rfl, t, rfl⟩ := vals1 r
  refine PySem.call_list_str (I.ok.hd hc) z t (fun h' tk acc' c' kp e hi => ?_) (by simpa [Str.length] using hz)
  have hl : acc'.size = z.cps.size := hi.1
  have hz2 : z.cps.size ≤ sizeLine := by simpa [Str.length] using hz
  refine ⟨.ref s.heap.objs.size, _, I.laid (t' := tk) kp (Nat.le_refl _) (o := .lst (z.cps.toList.map fun c => V.str ⟨#[c]⟩)) ?_, rfl, q _ (I.hok.fresh (Nat.le_refl _))⟩
  refine ⟨by simpa using hz2, acc'.toList, c', vals_signs z z.cps.toList acc'.toList 0 (by simp [hl]) (fun j v e => ?_), by simpa using e⟩
  obtain ⟨c, u, h1, h2⟩ := hi.2 j v (by simpa using e)
  exact ⟨c, u, by simpa using h1, h2⟩
end

section
variable {X : Cx} {x : Str} {pos : Pos} {i : Int} {z : Str}
theorem pe_globI (hg : Gl X x) (hm : ∃ t, X.mg x = some (.int i t)) (hdb : (x == ("__debug__" : Str)) = false := by decide) : PE X (.Name x pos) (tC (.int i)) := by
  obtain ⟨t, h⟩ := hm
  exact pe_glob hg h ⟨_, rfl⟩ hdb
theorem pe_globR {d : Addr} (hg : Gl X x) (hm : X.mg x = some (.ref d)) (hdb : (x == ("__debug__" : Str)) = false := by decide) : PE X (.Name x pos) (tC (.ref d)) := pe_glob hg hm rfl hdb
theorem pe_globS (hg : Gl X x) (hm : ∃ t, X.mg x = some (.str z t)) (hdb : (x == ("__debug__" : Str)) = false := by decide) : PE X (.Name x pos) (tC (.str z)) := by
  obtain ⟨t, h⟩ := hm
  exact pe_glob hg h ⟨_, rfl⟩ hdb
end
/-- a text of these signs -/
abbrev tx (l : List Nat) : Str := ⟨l.toArray⟩
theorem tx_len (l : List Nat) : (tx l).length = l.length := by simp [Str.length]
theorem tx_cps (l : List Nat) : (tx l).cps.toList = l := by simp
theorem tx_inj {a b : List Nat} (h : tx a = tx b) : a = b := by
  have := congrArg (fun z : Str => z.cps.toList) h
  simpa using this
theorem tx_app (a b : List Nat) : (tx a ++ tx b : Str) = tx (a ++ b) := congrArg Str.mk (show a.toArray ++ b.toArray = (a ++ b).toArray by simp)
theorem tx_of (z : Str) : z = tx z.cps.toList := by cases z; simp
theorem atI_tx {l : List Nat} {j : Nat} {c : Nat} (h : l[j]? = some c) : atI (tx l).cps.toList (j : Int) = some c := by
  rw [tx_cps]
  exact atI_nat h

/-! ### keywords alone -/
section
variable {X : Cx} {CX : CXT} {k : Nat} {f : Addr} {fd : FuncData} {ps ks : List Str} {sp : Sp} {E : XK} {x : Str} {p pos : Pos} {kws : List Keyword} {tk : TA} {g : List Value → List Value → List Value} {gV : List V → List V → List V}
theorem pe_callK0 (F : FnOk X.prog X.w X.K X.mg X.base CX k f fd ps sp) (hr : Room k X.A) (hg : Gl X x) (hm : X.mg x = some (.ref f)) (hk : PySem.W.keepIn X.K (.ref f) = true) (hb : KBinds X.K fd ps ks g gV) (hx : Passes CX X E)
    (hkw : PK X kws tk) (hall : (backToKw pos (keywordEach kws X.env)).all (·.1.isSome) = true := by rfl) (hks : (backToKw pos (keywordEach kws X.env)).filterMap (·.1) = ks := by rfl)
    (hdb : (x == ("__debug__" : Str)) = false := by decide)
    (hpl : ((backTo pos (starEach [] X.env)).any (·.1) || (backToKw pos (keywordEach kws X.env)).any (·.1.isNone)) = false := by rfl) :
    PE X (.Call (.Name x p) [] kws pos) (tCallK sp gV E tNil tk) := by
  refine ⟨fun pins s σ H Q I h => ?_⟩
  refine wpAny_Call_Name_kw (ld_glob I hg hm ?_ hdb)
  refine PySem.W.callWith_KW0 (h₀ := X.base) I.ok.mod.kin hk hall (thn (hkw.run pos pins s σ H _ I h) fun ws s2 ⟨zs, H2, I2, rz, q2⟩ => ⟨I2.kIn, ?_⟩) hpl
  rw [hks]
  exact run_fnk (us := []) F hr hb hx I2 .nil rz q2
/-- one keyword for the one parameter -/
theorem kb_one {K : PySem.W.Frag} {a : Str} (h1 : ∀ u : Value, bindArgs fd ⟨[u], []⟩ = pure [(a, u)]) (h : ∀ u : Value, bindArgs fd ⟨[], [(a, u)]⟩ = pure [(a, u)]) : KBinds K fd [a] [a] (fun us ws => us ++ ws) (fun us ws => us ++ ws) := by
  refine ⟨fun s us ws _ hl => ?_, fun r r2 => Vals.append r r2⟩
  match us, ws, hl with
  | [u], [], _ => exact .of_eq (h1 u)
  | [], [u], _ => exact .of_eq (h u)
end
/-! ### lengths -/
theorem cutS_len (z : Str) (lo hi : Option Int) : (cutS z lo hi).length ≤ z.length := by
  unfold cutS
  simp only [Str.length, List.size_toArray, List.length_take, List.length_drop, Array.length_toList]
  omega
theorem sizeLine_ge {n : Nat} (h : n ≤ 10000) : n ≤ sizeLine := Nat.le_trans h (by decide)
/-- what may be asked of any kind -/
inductive Th (H : Hp) : V → Prop where
  | non : Th H .non
  | bl (b : Bool) : Th H (.bl b)
  | int (i : Int) : Th H (.int i)
  | txt (z : Str) (h : z.length ≤ 10000) : Th H (.str z)
  | lst {a : Addr} {xs : List V} (e : H a = some (.lst xs)) : Th H (.ref a)
  | tup {a : Addr} {xs : List V} (e : H a = some (.tup xs)) : Th H (.ref a)
theorem Th.same {H H' : Hp} {v : V} (h : Th H v) (s : Same H H') : Th H' v := by
  cases h with
  | non => exact .non
  | bl b => exact .bl b
  | int i => exact .int i
  | txt z h => exact .txt z h
  | lst e => exact .lst (s _ _ e)
  | tup e => exact .tup (s _ _ e)
theorem tx_ne (t : List Nat) : decide (V.str (tx t) = V.str (Str.ofString "")) = decide (t = []) := by
  have e : Str.ofString "" = tx [] := by decide +kernel
  rw [e]
  by_cases h : t = []
  · subst h
    simp
  · rw [decide_eq_false h]
    refine decide_eq_false fun z => h (tx_inj (V.str.inj z))
theorem le_sign (a b : Nat) : (!decide ((⟨#[b]⟩ : Str).cps.toList < (⟨#[a]⟩ : Str).cps.toList)) = decide (a ≤ b) := by
  have e : decide ((⟨#[b]⟩ : Str).cps.toList < (⟨#[a]⟩ : Str).cps.toList) = decide (b < a) := decide_eq_decide.mpr (by simp [List.cons_lt_cons_iff])
  rw [e]
  by_cases h : b < a
  · rw [decide_eq_true h, decide_eq_false (by omega)]
    rfl
  · rw [decide_eq_false h, decide_eq_true (by omega)]
    rfl
theorem same_new {H : Hp} {p : Addr} {o : HO} (h : H p = none) : Same H (upd H p o) := fun b x e => by
  rw [upd_ne (ne_of_none e h)]
  exact e
/-- a comprehension of one name, without a test -/
theorem lc_do {J : It} {n : Nat} {G : Hp → Prop} {Y : Nat → Hp → V → Hp → Prop} (w : Walk J n G Y) {k : Nat} {te : TE} {vs : List Nat} {σ : L2.St} {H1 : Hp} {D : Addr} {Qd : Hp → Prop} (Pv : Nat → Hp → Prop)
    (hw : ∀ x, wipe ((wipe σ vs).set k (some x)) vs = wipe σ vs) (h0 : Pv 0 (upd H1 D (.lst []))) (hG : ∀ i H, i ≤ n → Pv i H → G H)
    (hs : ∀ i x H H', i < n → Pv i H → Y i H x H' → te ((wipe σ vs).set k (some x)) H' fun y H4 => ∃ acc, H4 D = some (.lst acc) ∧ acc.length < sizeLine ∧ Pv (i + 1) (upd H4 D (.lst (acc ++ [y])))) (hd : ∀ H, Pv n H → Qd H) :
    ∃ W : Nat → Nat → Hp → Prop, (∃ m, W 0 m (upd H1 D (.lst []))) ∧ ∀ i m H, W i m H →
      (J.stop i H ∧ Qd H) ∨ (J.go i H ∧ ∃ Nx : Hp → Prop, (∀ H', Nx H' → ∃ m', m' < m ∧ W (i + 1) m' H') ∧ ∀ x H', J.yld i H x H' → gName k x (wipe σ vs) H' fun σ2 H2 => wipe σ2 vs = wipe σ vs ∧ tYes σ2 H2 fun b H3 =>
        if b = true then te σ2 H3 fun y H4 => ∃ acc, H4 D = some (.lst acc) ∧ acc.length < sizeLine ∧ Nx (upd H4 D (.lst (acc ++ [y]))) else Nx H3) := by
  refine lc_it w Pv h0 hG (fun i x H H' hi p y => ⟨hw x, ?_⟩) hd
  show if true = true then te ((wipe σ vs).set k (some x)) H' (fun y H4 => ∃ acc, H4 D = some (.lst acc) ∧ acc.length < sizeLine ∧ Pv (i + 1) (upd H4 D (.lst (acc ++ [y])))) else Pv (i + 1) H'
  rw [if_pos rfl]
  exact hs i x H H' hi p y
/-- a new object: the heap behind it by what it keeps and what is new -/
theorem alloc {H : Hp} {o : HO} {R : V → Hp → Prop} (h : ∀ p G, H p = none → Same H G → G p = some o → R (.ref p) G) : ∀ p, H p = none → R (.ref p) (upd H p o) := fun p hp => h p _ hp (same_new hp) upd_same
end U

set_option Elab.async false
set_option linter.all false
set_option maxRecDepth 100000
set_option maxHeartbeats 4000000
namespace U
open PySem PySem.Spec PyProof.Rows L2
/-- x == y, x of the class C with an __eq__ of its own, y of any class but a lower one: its answer, a bool -/
def rEqOwn (K : PySem.W.Frag) (C : Addr) (sp : Sp) (E : XK) : R2 := fun x y H Q => ∃ (a dx : Addr) (fs : List (Str × V)) (t : Value), x = .ref a ∧ H a = some (.ins C dx fs) ∧ TyX K H y t ∧ PySem.W.notFirst K C t = true ∧ sp [.ref a, y] H (fun z H' => ∃ b, z = .bl b ∧ Q (.bl b) H') E
section
open PySem.W
variable {prog : Program} {w : World} {A : Around} {E : Value → Shared → Prop} {s : Shared} {K : Frag} {x C L f : Addr} {h₀ : Heap} {m : Str → Option Value} {ox : Obj} {od : Option Obj} {name : Str} {b tb : Value}
theorem ifBoundB {M : Model} {id : String} {args : List Value} {Q : Option Value → Shared → Prop} (X : K.In s.heap) (I : InstAt s.heap x ox C od) (hs : findIn K (.ref C) name = some (some (.builtin id))) (hb : ∀ self, bindSpecial (.builtin id) self = pure (.builtin id, [self]))
    (h : wpAny M A (call (.builtin id) (.ref x :: args)) (fun v => Q (some v)) E s) : wpAny M A (callSpecialIfBound? (.ref x) name args) Q E s := by
  simp only [callSpecialIfBound?, bindSpecialIfBound?]
  refine wpAny_holding (wpAny_bind (wpAny_bind (wpAny_bind (I.type.here ((looks_findIn X hs).here ?_)))))
  simp only [hb]
  refine wpAny_bind (wpAny_askSetting (wpAny_ite ?_))
  have fin : wpAny M A (call (.builtin id) ([.ref x] ++ args) >>= fun v => pure (some v)) Q E s := wpAny_bind (wpAny_mono h (fun v s' h' => wpAny_pure h') fun _ _ h' => h')
  split
  · exact wpAny_bind (wpAny_pure (wpAny_pure fin))
  · exact wpAny_tryCatch (wpAny_bind (wpAny_pure (wpAny_pure fin)))
theorem check_own {M : Model} {id owner n : String} {rest : List Value} {Q : Unit → Shared → Prop} (hk : builtinKind id = some .slot) (hsp : splitId id = some (owner, n)) (ha : argsOk id ⟨.ref x :: rest, []⟩) (X : K.In s.heap) (I : InstAt s.heap x ox C od)
    (hsub : subIn K (.ref C) (.type owner) = some true) (hq : Q () s) : wpAny M A (checkBuiltinCall id ⟨.ref x :: rest, []⟩) Q E s := by
  simp only [checkBuiltinCall, hk, hsp]
  refine wpAny_bind ?_
  · unfold isInstance
    refine wpAny_bind (I.type.here ((looks_subIn X hsub).here ?_))
    cases hsig : Manifest.signature? id with
    | none => exact wpAny_pure hq
    | some sig =>
      simp only [argsOk, hsig] at ha
      have h2 : Bind.checkArgs id sig ⟨.ref x :: rest, []⟩ = pure () := ha
      show wpAny M A (Bind.checkArgs id sig ⟨.ref x :: rest, []⟩) Q E _
      rw [h2]; exact wpAny_pure hq
theorem objNe_own (X : K.In s.heap) (I : InstAt s.heap x ox C od) (hs : findIn K (.ref C) "__eq__" = some (some (.ref f))) (hf : isFn K (.ref f) = true) (hu : A.units < cLine) {Q : Fin → Shared → Prop}
    (hcall : wpAny (model prog w) A (call (.ref f) [.ref x, b]) (fun v s' => ∃ r, v = .bool r ∧ Q (.done (.ret (.bool (!r)))) s') E s) :
    wpAny (model prog w) A (Builtin.«object.__ne__» ⟨[.ref x, b], []⟩) Q E s := by
  obtain ⟨h, g, d, t, os⟩ := s
  unfold Builtin.«object.__ne__»
  repeat (first
    | with_reducible refine wpAny_cRoomFor hu ?_
    | (refine wpAny_bind (m := callSpecialIfBound? (.ref x) (Str.ofString "__eq__") [b])
        (ifBound_K X I hs hf (wpAny_mono hcall (fun r s' hr => by
          obtain ⟨b, rfl, hq⟩ := hr
          repeat (first | exact hq | exact wpAny_pure hq | exact wpAny_truthy_bool hq | (refine wpAny_bind (m := truthy (.bool _)) (wpAny_truthy_bool ?_)) | wp_step)) fun _ _ e => e)))
    | wp_step)
theorem ne_own {Q : Value → Shared → Prop} (hu : A.units + 1 < cLine) (FF : Fr h₀ L s.heap m) (X₀ : K.In h₀) (I : InstAt s.heap x ox C od) (hb : Looks (model prog w) s.heap (typeOf b) tb) (hn : notFirst K C tb = true)
    (hne : findIn K (.ref C) "__ne__" = some (some (.builtin "object.__ne__"))) (hob : subIn K (.ref C) (.type "object") = some true)
    (hs : findIn K (.ref C) "__eq__" = some (some (.ref f))) (hf : isFn K (.ref f) = true)
    (h : wpAny (model prog w) A.in1 (call (.ref f) [.ref x, b]) (fun v s' => ∃ r, v = .bool r ∧ Q (.bool (!r)) s') E s) : wpAny (model prog w) A (richCompare .NotEq (.ref x) b) Q E s := by
  have X := X₀.keeps FF.keep
  have one : wpAny (model prog w) A (tryCompare (.ref x) (cmpInfo .NotEq).2.1 b) (fun r s' => ∃ v, r = some v ∧ Q v s') E s := by
    unfold tryCompare
    refine wpAny_bind (ifBoundB X I hne F.cmp_object.ne.bind (wpAny_call (codeAny_call_builtin F.cmp_object.ne.plain F.cmpEntry_ne (check_own F.cmpKind_ne F.cmpSplit_ne (F.cmpArgs_ne _ _) X I hob
      (objNe_own (A := A.in1) X I hs hf hu (wpAny_mono h (fun v s' hv => ?_) fun _ _ e => e))))))
    obtain ⟨r, rfl, hq⟩ := hv
    exact ⟨r, rfl, wpAny_pure ⟨_, rfl, hq⟩⟩
  unfold richCompare
  simp only [oneThing_ref]
  refine wpAny_holding (wpAny_bind (wpAny_cRoomFor (Nat.lt_of_succ_lt hu) ?_))
  refine wpAny_bind (I.type.here (wpAny_bind (hb.here ?_)))
  split
  · rename_i q
    have e : subIn K tb (.ref C) = some false := by
      rcases Bool.or_eq_true_iff.mp hn with e | e
      · rw [beq_iff_eq.mp e] at q; simp at q
      · exact beq_iff_eq.mp e
    refine wpAny_bind ((looks_subIn X e).here ?_)
    simp only [Bool.false_eq_true, if_false]
    refine wpAny_bind (wpAny_mono one (fun r s' z => ?_) fun _ _ e => e)
    obtain ⟨v, rfl, hq⟩ := z
    exact wpAny_pure hq
  · refine wpAny_bind (wpAny_pure ?_)
    simp only [Bool.false_eq_true, if_false]
    refine wpAny_bind (wpAny_mono one (fun r s' z => ?_) fun _ _ e => e)
    obtain ⟨v, rfl, hq⟩ := z
    exact wpAny_pure hq
end
section
variable {X : Cx} {CX : CXT} {n : Nat} {C f : Addr} {fd : FuncData} {ps : List Str} {sp : Sp} {E : XK}
theorem rc_own (F : FnOk X.prog X.w X.K X.mg X.base CX n f fd ps sp) (hs : PySem.W.findIn X.K (.ref C) "__eq__" = some (some (.ref f))) (hf : PySem.W.isFn X.K (.ref f) = true) (hb : Binds X.K fd ps []) (hx : Passes CX X E) {A : Around} (sb : L2.Sub X n A)
    {pins : List (Addr × Obj)} {s : Shared} {σ : L2.St} {H : Hp} {x y : V} {v u : Value} {Q : VK} (I : Inv X pins σ H s) (rx : RelV x v) (ry : RelV y u) (h : rEqOwn X.K C sp E x y H Q) :
    wpAny (model X.prog X.w) A (richCompare .Eq v u) (EP X pins σ Q) X.xe s := by
  obtain ⟨a, dx, fs, t, rfl, ha, ty, hn, hsp⟩ := h
  cases (show v = Value.ref a from rx)
  obtain ⟨mA, J, _⟩ := ins_get I.hok ha
  obtain ⟨od, J, _⟩ := J.look
  obtain ⟨m, hF⟩ := I.fr
  obtain ⟨PP, kit, hP, _⟩ := kit_of I ry ty
  refine PySem.W.cmp_K (op := .Eq) (tb := t) sb.room.units0 hF I.ok.mod.kin J (kit.ty _ _ I.kIn hP) hn hs hf ?_
  have e0 : Env0 X.prog X.w X.K X.mg X.base A X.stack s H := by
    have e := I.env0
    exact ⟨by rw [sb.fr]; exact e.frames, e.mod, e.bs, e.bsz, e.funs, e.frf, e.hok, e.bare⟩
  have hl := F.len _ _ _ _ hsp
  have r2 : Vals [V.ref a, y] [Value.ref a, u] := .cons rfl (.cons ry .nil)
  refine wpAny_call (codeAny_mono (F.run A X.stack s H ⟨[.ref a, u], []⟩ [.ref a, u] [.ref a, y] _ E sb.room e0 (by
    have := hb s [.ref a, u] I.kIn (by simpa using hl)
    simpa using this) r2 hsp) fun r s' hq => ?_)
  cases r with
  | error e => exact hx pins σ H s e s' I hq
  | ok fl =>
    cases fl with
    | ret w =>
      obtain ⟨z, H', I', rz, b, ez, q⟩ := I.after hq
      subst ez
      cases (show w = Value.bool b from rz)
      exact ⟨.bl b, H', I', rfl, q⟩
    | next => exact False.elim hq
    | brk => exact False.elim hq
    | cont => exact False.elim hq
theorem op_eqOwn (F : FnOk X.prog X.w X.K X.mg X.base CX n f fd ps sp) (hs : PySem.W.findIn X.K (.ref C) "__eq__" = some (some (.ref f))) (hf : PySem.W.isFn X.K (.ref f) = true) (hb : Binds X.K fd ps []) (hx : Passes CX X E) (hr : Room n X.A) : OpR X (compareOp .Eq) (rEqOwn X.K C sp E) := by
  intro pins s σ H x y v u Q I rx ry h
  show wpAny (model X.prog X.w) X.A (richCompare .Eq v u) (EP X pins σ Q) X.xe s
  exact rc_own F hs hf hb hx ⟨hr, rfl⟩ I rx ry h
end
end U

set_option Elab.async false
set_option linter.all false
set_option maxRecDepth 100000
set_option maxHeartbeats 4000000
namespace U
open PySem PySem.Spec PyProof.Rows L2
section
open PySem.W
variable {prog : Program} {w : World} {A : Around} {E : Value → Shared → Prop} {s : Shared} {K : Frag} {x C L f : Addr} {h₀ : Heap} {m : Str → Option Value} {ox : Obj} {od : Option Obj} {name : Str} {b tb : Value}
open Builtin Builtin.Str in
theorem str_own {Q : Value → Shared → Prop} (hu : A.in1.in1.units < cLine) (X : K.In s.heap) (I : InstAt s.heap x ox C od) (hs : findIn K (.ref C) "__str__" = some (some (.ref f))) (hf : isFn K (.ref f) = true)
    (h : wpAny (model prog w) A.in1.in1 (call (.ref f) [.ref x]) (StrBack Q) E s) : wpAny (model prog w) A (call (.type "str") [.ref x]) Q E s := by
  refine callType_codes (T := "str") (Bi := Builtin.«object.__init__») (Q₁ := fun r s₁ => ∃ y u, r = .str y u ∧ Q r s₁) PySem.F.called_str (PySem.F.typeCall_str_1 _) PySem.F.entry_object_init ?_ ?_
  · refine codeAny_of_tree ?_
    show wpAny _ A.in1.in1 (do checkBuiltinCall "str.__new__" ⟨[.type "str", .ref x], []⟩; again (.builtin "str.__new__" ⟨[.type "str", .ref x], []⟩)) _ _ s
    refine wpAny_bind (wpAny_of_eq (PySem.F.newCall_str_1 _) (wpAny_pure ⟨plainId_quiet (by decide +kernel) _, codeAny_builtin PySem.F.entry_str_new ?_⟩))
    rw [Around.under_plainId (by decide +kernel) _]
    rw [str_new_tree]
    refine wpAny_bind (wpAny_pure ?_)
    refine wpAny_bind (wpAny_of_eq isSubtype_str_str ?_)
    have key : wpAny (model prog w) A.in1.in1 (PySem.Builtin.Str.strOf (.ref x)) (fun r s₁ => ∃ y u, r = .str y u ∧ Q r s₁) E s := by
      unfold PySem.Builtin.Str.strOf
      rw [show isExactStr (.ref x) = false from rfl]
      refine wpAny_bind (m := cRoomFor _ _) (wpAny_cRoomFor hu ?_)
      refine wpAny_bind (m := callSpecial? (.ref x) (Str.ofString "__str__")) (special_fn X I hs (beq_iff_eq.mp hf) (wpAny_mono h (fun r s' z => ?_) fun _ _ y => y))
      cases r <;> first | exact z.elim | exact wpAny_pure ⟨_, _, rfl, z⟩
    exact wpAny_bind (wpAny_mono key (fun r s₁ hr => wpAny_pure hr) fun _ _ y => y)
  · rintro obj s₁ ⟨y, u, rfl, hq⟩
    exact ⟨typeIs_str _ _ _, PySem.F.args_object_init_2 _ _, object_init_meets PySem.F.called_str.init.lookup PySem.F.called_str.made (by decide) prog w A.in1 _ s₁ ⟨typeIs_str _ _ _, rfl, hq⟩⟩
theorem len_body {Q : Value → Shared → Prop} (X : K.In s.heap) (I : InstAt s.heap x ox C od) (hs : findIn K (.ref C) "__len__" = some (some (.ref f))) (hf : isFn K (.ref f) = true)
    (h : wpAny (model prog w) A (call (.ref f) [.ref x]) (W.LenBack Q) E s) : wpAny (model prog w) A (Builtin.«len» ⟨[.ref x], []⟩) (fun fin s' => ∃ v, fin = .done (.ret v) ∧ Q v s') E s := by
  unfold Builtin.«len»
  refine wpAny_bind (m := oneArg "len" _) (wpAny_pure ?_)
  refine wpAny_bind (m := callSpecial? (.ref x) (Str.ofString "__len__")) (special_fn X I hs (beq_iff_eq.mp hf) (wpAny_mono h (fun r s' hr => ?_) fun _ _ y => y))
  cases r <;> first | exact hr.elim | skip
  rename_i n u
  obtain ⟨⟨h0, h1⟩, hq⟩ := hr
  refine wpAny_bind (wpAny_holding (wpAny_pure ?_))
  refine wpAny_bind (wpAny_letGo ?_)
  show wpAny _ _ (if n < 0 then _ else _) _ _ _
  rw [if_neg (by omega)]
  show wpAny _ _ (if n ≥ 2 ^ 63 then _ else _) _ _ _
  rw [if_neg (by omega)]
  exact wpAny_bind (wpAny_mkInt (wpAny_pure ⟨_, rfl, hq⟩))
theorem truthy_len {Q : Bool → Shared → Prop} (X : K.In s.heap) (I : InstAt s.heap x ox C od) (hs : findIn K (.ref C) "__bool__" = some none) (hl : findIn K (.ref C) "__len__" = some (some (.ref f))) (hf : isFn K (.ref f) = true)
    (h : wpAny (model prog w) A.in1 (call (.ref f) [.ref x]) (W.LenBack fun v s' => ∃ n t, v = .int n t ∧ Q (n != 0) s') E s) : wpAny (model prog w) A (truthy (.ref x)) Q E s := by
  unfold truthy
  refine wpAny_bind (m := callSpecial? (.ref x) (Str.ofString "__bool__")) (wpAny_bind (wpAny_bind (I.type.here ((looks_findIn X hs).here (wpAny_pure ?_)))))
  refine wpAny_bind (wpAny_bind (I.type.here ((looks_findIn X hl).here ?_)))
  show wpAny _ _ (if (some (Value.ref f)).isNone = true then _ else _) _ _ _
  rw [if_neg (by simp)]
  refine wpAny_bind (runValue_entry entry_len ?_)
  rw [Around.under_plainId plain_len _]
  refine len_body X I hl hf (wpAny_mono h (fun v s' hv => ?_) fun _ _ e => e)
  cases v <;> first | exact hv.elim | skip
  obtain ⟨h1, n, t, e, q⟩ := hv
  cases e
  exact ⟨h1, wpAny_pure q⟩
open Builtin Builtin.Str in
theorem bool_own {Q : Value → Shared → Prop} (X : K.In s.heap) (I : InstAt s.heap x ox C od) (hs : findIn K (.ref C) "__bool__" = some none) (hl : findIn K (.ref C) "__len__" = some (some (.ref f))) (hf : isFn K (.ref f) = true)
    (h : wpAny (model prog w) A.in1.in1.in1 (call (.ref f) [.ref x]) (W.LenBack fun v s' => ∃ n t, v = .int n t ∧ Q (.bool (n != 0)) s') E s) : wpAny (model prog w) A (call (.type "bool") [.ref x]) Q E s := by
  refine callType_codes (T := "bool") (Bi := Builtin.«object.__init__») (Q₁ := fun r s₁ => ∃ y, r = .bool y ∧ Q r s₁) PySem.F.called_bool (PySem.F.typeCall_bool_1 _) PySem.F.entry_object_init ?_ ?_
  · refine codeAny_of_tree ?_
    show wpAny _ A.in1.in1 (do checkBuiltinCall "bool.__new__" ⟨[.type "bool", .ref x], []⟩; again (.builtin "bool.__new__" ⟨[.type "bool", .ref x], []⟩)) _ _ s
    refine wpAny_bind (wpAny_of_eq (PySem.F.newCall_bool_1 _) (wpAny_pure ⟨plainId_quiet (by decide +kernel) _, codeAny_builtin PySem.F.entry_bool_new ?_⟩))
    rw [Around.under_plainId (by decide +kernel) _]
    have key : wpAny (model prog w) A.in1.in1 (truthy (.ref x)) (fun b s₁ => Q (.bool b) s₁) E s := truthy_len X I hs hl hf h
    have f1 := PySem.F.conv_sub_bool
    obtain ⟨hp, g, d, tk, os⟩ := s
    unfold Builtin.«bool.__new__»
    repeat (any_goals (first | assumption | (with_reducible refine wpAny_mono key (fun b s1 hb => ?_) (fun _ _ e => e)) | wp_step))
    all_goals first | exact ⟨_, rfl, hb⟩ | exact wpAny_pure ⟨_, rfl, hb⟩ | skip
    trace_state
  · rintro obj s₁ ⟨y, rfl, hq⟩
    exact ⟨rfl, PySem.F.args_object_init_2 _ _, object_init_meets PySem.F.called_bool.init.lookup PySem.F.called_bool.made (by decide) prog w A.in1 _ s₁ ⟨rfl, rfl, hq⟩⟩
end
section
variable {X : Cx} {CX : CXT} {n : Nat} {C f : Addr} {fd : FuncData} {ps : List Str} {sp : Sp} {E : XK}
/-- a def is called with these values -/
theorem run_own (F : FnOk X.prog X.w X.K X.mg X.base CX n f fd ps sp) (hb : Binds X.K fd ps []) (hx : Passes CX X E) {A : Around} (sb : L2.Sub X n A)
    {pins : List (Addr × Obj)} {s : Shared} {σ : L2.St} {H : Hp} {vs : List V} {us : List Value} {Q : VK} (I : Inv X pins σ H s) (r : Vals vs us) (hsp : sp vs H Q E) :
    wpAny (model X.prog X.w) A (call (.ref f) us) (EP X pins σ Q) X.xe s := by
  have e0 : Env0 X.prog X.w X.K X.mg X.base A X.stack s H := by
    have e := I.env0
    exact ⟨by rw [sb.fr]; exact e.frames, e.mod, e.bs, e.bsz, e.funs, e.frf, e.hok, e.bare⟩
  have hl := F.len _ _ _ _ hsp
  have hr := r.length
  refine wpAny_call (codeAny_mono (F.run A X.stack s H ⟨us, []⟩ us vs _ E sb.room e0 (by
    have := hb s us I.kIn (by simp; omega)
    simpa using this) r hsp) fun r s' hq => ?_)
  cases r with
  | error e => exact hx pins σ H s e s' I hq
  | ok fl =>
    cases fl with
    | ret w => exact I.after hq
    | next => exact False.elim hq
    | brk => exact False.elim hq
    | cont => exact False.elim hq
theorem inst_of {pins : List (Addr × Obj)} {s : Shared} {σ : L2.St} {H : Hp} {a dx : Addr} {fs : List (Str × V)} (I : Inv X pins σ H s) (ha : H a = some (.ins C dx fs)) : ∃ ox od, PySem.W.InstAt s.heap a ox C od := by
  obtain ⟨mA, J, _⟩ := ins_get I.hok ha
  obtain ⟨od, J, _⟩ := J.look
  exact ⟨_, _, J⟩
/-- len(x), x of the class C with a __len__ of its own -/
def rLenOwn (C : Addr) (sp : Sp) (E : XK) : List V → Hp → VK → Prop := fun xs H Q => ∃ (a dx : Addr) (fs : List (Str × V)), xs = [.ref a] ∧ H a = some (.ins C dx fs) ∧ sp [.ref a] H (fun z H' => ∃ n : Int, z = .int n ∧ 0 ≤ n ∧ n < 2 ^ 63 ∧ Q (.int n) H') E
theorem call_lenOwn (F : FnOk X.prog X.w X.K X.mg X.base CX n f fd ps sp) (hb : Binds X.K fd ps []) (hx : Passes CX X E) (hs : PySem.W.findIn X.K (.ref C) "__len__" = some (some (.ref f))) (hf : PySem.W.isFn X.K (.ref f) = true) (hr : Room (n + 1) X.A) : CallR X (.builtin "len") (rLenOwn C sp E) := by
  intro pins s σ H xs us Q I r h
  obtain ⟨a, dx, fs, rfl, ha, hsp⟩ := h
  obtain ⟨u, rfl, ru⟩ := vals1 r
  obtain rfl : u = Value.ref a := ru
  obtain ⟨ox, od, J⟩ := inst_of I ha
  obtain ⟨m, hF⟩ := I.fr
  refine PySem.W.len_K hF I.ok.mod.kin J hs hf (wpAny_mono (run_own F hb hx ⟨hr.in1, rfl⟩ I r hsp) (fun v s' z => ?_) fun _ _ e => e)
  obtain ⟨z, H', I', rz, k, rfl, h0, h1, q⟩ := z
  obtain ⟨t, rfl⟩ := (show ∃ t, v = Value.int k t from rz)
  exact ⟨⟨h0, h1⟩, .int k, H', I'.tok _, ⟨_, rfl⟩, q⟩
/-- bool(x) by that -/
def rBoolOwn (C : Addr) (sp : Sp) (E : XK) : List V → Hp → VK → Prop := fun xs H Q => ∃ (a dx : Addr) (fs : List (Str × V)), xs = [.ref a] ∧ H a = some (.ins C dx fs) ∧ sp [.ref a] H (fun z H' => ∃ n : Int, z = .int n ∧ 0 ≤ n ∧ n < 2 ^ 63 ∧ Q (.bl (n != 0)) H') E
theorem call_boolOwn (F : FnOk X.prog X.w X.K X.mg X.base CX n f fd ps sp) (hb : Binds X.K fd ps []) (hx : Passes CX X E) (hn : PySem.W.findIn X.K (.ref C) "__bool__" = some none) (hs : PySem.W.findIn X.K (.ref C) "__len__" = some (some (.ref f))) (hf : PySem.W.isFn X.K (.ref f) = true) (hr : Room (n + 3) X.A) :
    CallR X (.type "bool") (rBoolOwn C sp E) := by
  intro pins s σ H xs us Q I r h
  obtain ⟨a, dx, fs, rfl, ha, hsp⟩ := h
  obtain ⟨u, rfl, ru⟩ := vals1 r
  obtain rfl : u = Value.ref a := ru
  obtain ⟨ox, od, J⟩ := inst_of I ha
  refine bool_own I.kIn J hn hs hf (wpAny_mono (run_own F hb hx ⟨hr.in1.in1.in1, rfl⟩ I r hsp) (fun v s' z => ?_) fun _ _ e => e)
  obtain ⟨z, H', I', rz, k, rfl, h0, h1, q⟩ := z
  obtain ⟨t, rfl⟩ := (show ∃ t, v = Value.int k t from rz)
  exact ⟨⟨h0, h1⟩, k, _, rfl, .bl _, H', I'.tok _, rfl, q⟩
/-- str(x), repr(x) by defs of its own -/
def rTxtOwn (C : Addr) (sp : Sp) (E : XK) : List V → Hp → VK → Prop := fun xs H Q => ∃ (a dx : Addr) (fs : List (Str × V)), xs = [.ref a] ∧ H a = some (.ins C dx fs) ∧ sp [.ref a] H (fun z H' => ∃ y : Str, z = .str y ∧ Q (.str y) H') E
theorem call_reprOwn (F : FnOk X.prog X.w X.K X.mg X.base CX n f fd ps sp) (hb : Binds X.K fd ps []) (hx : Passes CX X E) (hs : PySem.W.findIn X.K (.ref C) "__repr__" = some (some (.ref f))) (hf : PySem.W.isFn X.K (.ref f) = true) (hr : Room (n + 1) X.A) : CallR X (.builtin "repr") (rTxtOwn C sp E) := by
  intro pins s σ H xs us Q I r h
  obtain ⟨a, dx, fs, rfl, ha, hsp⟩ := h
  obtain ⟨u, rfl, ru⟩ := vals1 r
  obtain rfl : u = Value.ref a := ru
  obtain ⟨ox, od, J⟩ := inst_of I ha
  obtain ⟨m, hF⟩ := I.fr
  refine PySem.W.repr_K hr.in1.units0 hF I.ok.mod.kin J hs hf (wpAny_mono (run_own F hb hx ⟨hr.in1, rfl⟩ I r hsp) (fun v s' z => ?_) fun _ _ e => e)
  obtain ⟨z, H', I', rz, k, rfl, q⟩ := z
  obtain ⟨t, rfl⟩ := (show ∃ t, v = Value.str k t from rz)
  exact ⟨.str k, H', I', ⟨_, rfl⟩, q⟩
theorem call_strOwn (F : FnOk X.prog X.w X.K X.mg X.base CX n f fd ps sp) (hb : Binds X.K fd ps []) (hx : Passes CX X E) (hs : PySem.W.findIn X.K (.ref C) "__str__" = some (some (.ref f))) (hf : PySem.W.isFn X.K (.ref f) = true) (hr : Room (n + 2) X.A) : CallR X (.type "str") (rTxtOwn C sp E) := by
  intro pins s σ H xs us Q I r h
  obtain ⟨a, dx, fs, rfl, ha, hsp⟩ := h
  obtain ⟨u, rfl, ru⟩ := vals1 r
  obtain rfl : u = Value.ref a := ru
  obtain ⟨ox, od, J⟩ := inst_of I ha
  refine str_own hr.in1.in1.units0 I.kIn J hs hf (wpAny_mono (run_own F hb hx ⟨hr.in1.in1, rfl⟩ I r hsp) (fun v s' z => ?_) fun _ _ e => e)
  obtain ⟨z, H', I', rz, k, rfl, q⟩ := z
  obtain ⟨t, rfl⟩ := (show ∃ t, v = Value.str k t from rz)
  exact ⟨.str k, H', I', ⟨_, rfl⟩, q⟩
/-- x != y by the own __eq__ -/
def rNeOwn (K : PySem.W.Frag) (C : Addr) (sp : Sp) (E : XK) : R2 := fun x y H Q => ∃ (a dx : Addr) (fs : List (Str × V)) (t : Value), x = .ref a ∧ H a = some (.ins C dx fs) ∧ TyX K H y t ∧ PySem.W.notFirst K C t = true ∧ sp [.ref a, y] H (fun z H' => ∃ b, z = .bl b ∧ Q (.bl (!b)) H') E
theorem op_neOwn (F : FnOk X.prog X.w X.K X.mg X.base CX n f fd ps sp) (hs : PySem.W.findIn X.K (.ref C) "__eq__" = some (some (.ref f))) (hf : PySem.W.isFn X.K (.ref f) = true) (hne : PySem.W.findIn X.K (.ref C) "__ne__" = some (some (.builtin "object.__ne__")))
    (hob : PySem.W.subIn X.K (.ref C) (.type "object") = some true) (hb : Binds X.K fd ps []) (hx : Passes CX X E) (hr : Room (n + 1) X.A) : OpR X (compareOp .NotEq) (rNeOwn X.K C sp E) := by
  intro pins s σ H x y v u Q I rx ry h
  obtain ⟨a, dx, fs, t, rfl, ha, ty, hn, hsp⟩ := h
  cases (show v = Value.ref a from rx)
  obtain ⟨ox, od, J⟩ := inst_of I ha
  obtain ⟨m, hF⟩ := I.fr
  obtain ⟨PP, kit, hP, _⟩ := kit_of I ry ty
  show wpAny (model X.prog X.w) X.A (richCompare .NotEq (.ref a) u) (EP X pins σ Q) X.xe s
  refine ne_own hr.in1.units0 hF I.ok.mod.kin J (kit.ty _ _ I.kIn hP) hn hne hob hs hf (wpAny_mono (run_own (vs := [V.ref a, y]) F hb hx ⟨hr.in1, rfl⟩ I (.cons rfl (.cons ry .nil)) hsp) (fun w s' z => ?_) fun _ _ e => e)
  obtain ⟨z, H', I', rz, b, rfl, q⟩ := z
  cases (show w = Value.bool b from rz)
  exact ⟨b, rfl, .bl _, H', I', rfl, q⟩
end
end U

set_option Elab.async false
set_option linter.all false
set_option maxRecDepth 100000
set_option maxHeartbeats 4000000
namespace U
open PySem PySem.Spec PyProof.Rows L2
section
open PySem.W PySem.SeqAt
open AutoSeq1 (wpAny_loadPart')
open MeetsSeq MeetsSeq2 MeetsSeq3 SeqRoads2
variable {prog : Program} {w : World} {A : Around} {E : Value → Shared → Prop} {s : Shared} {K : Frag} {x C L f : Addr} {h₀ : Heap} {m : Str → Option Value} {ox : Obj} {od : Option Obj} {name : Str} {b tb : Value}
/-- None == x, x with an __eq__ of its own: x is asked -/
theorem none_eq {Q : Value → Shared → Prop} (hu : A.units < cLine) (X : K.In s.heap) (I : InstAt s.heap x ox C od) (hn : subIn K (.ref C) (.type "NoneType") = some false)
    (hs : findIn K (.ref C) "__eq__" = some (some (.ref f))) (hf : isFn K (.ref f) = true)
    (h : wpAny (model prog w) A (call (.ref f) [.ref x, .none]) (W.CmpBack Q) E s) : wpAny (model prog w) A (richCompare .Eq .none (.ref x)) Q E s := by
  have one : wpAny (model prog w) A (tryCompare (.ref x) (cmpInfo .Eq).2.2 .none) (fun r s' => ∃ v, r = some v ∧ Q v s') E s := by
    unfold tryCompare
    refine wpAny_bind (ifBound_K X I hs hf (wpAny_mono h (fun v s' hv => ?_) fun _ _ e => e))
    cases v <;> first | exact hv.elim | exact wpAny_pure ⟨_, rfl, hv⟩
  have hT : s.TypeIs .none "NoneType" := rfl
  simp only [richCompare, hT.oneThing_none]
  refine wpAny_holding (wpAny_bind (wpAny_cRoomFor hu ?_))
  refine wpAny_bind (wpAny_typeOf hT (wpAny_bind (I.type.here ?_)))
  split
  · refine wpAny_bind ((looks_subIn X hn).here ?_)
    simp only [Bool.false_eq_true, if_false, Bool.not_false, if_true]
    refine wpAny_bind (m := tryCompare .none _ (.ref x)) (wpAny_tryCompare_declines hT PySem.F.slot_NoneType_eq (call_gives PySem.F.slot_NoneType_eq rfl PySem.F.entry_NoneType_eq (PySem.F.args_NoneType_eq_2 _ _) (NoneType___eq___none_ref_0 x) ⟨rfl, ?_⟩))
    refine wpAny_bind (wpAny_mono one (fun r s' z => ?_) fun _ _ e => e)
    obtain ⟨v, rfl, hq⟩ := z
    exact wpAny_pure hq
  · rename_i q
    simp at q
/-- the list is walked, each item asked whether it is x -/
theorem con_loop {R : Result → Shared → Prop} (l : Addr) (x : Value) (N : Nat) (J : Nat → Shared → Prop)
    (hl : ∀ i s, J i s → ∃ (items : Array Value) (n : Nat), items.size = N ∧ s.heap.get? l = some { cls := .type "list", data := .seq items n } ∧ ∀ h : i < items.size, wpAny (model prog w) A.in1 (eqBool items[i] x) (fun r s' => (r = true → R (.ok (.ret (.bool true))) s') ∧ (r = false → J (i + 1) s')) (fun e s' => R (.error e) s') s)
    (fin : ∀ s, J N s → R (.ok (.ret (.bool false))) s) (k : Nat) : ∀ i : Nat, N - i = k → i ≤ N → ∀ s, J i s →
      wpAny (model prog w) A.in1 (Builtin.«list.__contains__.loop» ⟨[.ref l, x, rawInt i], []⟩) (GQ.FinOf prog w A R) (fun e s' => R (.error e) s') s := by
  induction k with
  | zero =>
    intro i hk hi s h
    obtain ⟨items, n, hN, hle, _⟩ := hl _ _ h
    have hi' : i = N := by omega
    have hR := fin s (hi' ▸ h)
    obtain ⟨hp, g, d, tk, os⟩ := s
    wp_walk using wpAny_loadPart' hle
    have hi1 : items[((i : Nat) : Int).toNat]? = none := by simp; omega
    rw [hi1]
    wp_walk
    exact hR
  | succ k ih =>
    intro i hk hi s h
    obtain ⟨items, n, hN, hle, turn⟩ := hl _ _ h
    have hlt : i < items.size := by omega
    have ht := turn hlt
    obtain ⟨hp, g, d, tk, os⟩ := s
    wp_walk using wpAny_loadPart' hle
    have hi1 : items[((i : Nat) : Int).toNat]? = some items[i] := by simp [hlt]
    rw [hi1]
    refine wpAny_bind (wpAny_mono ht (fun r s' z => ?_) fun _ _ e => e)
    cases r with
    | true =>
      have z := z.1 rfl
      wp_walk
      exact z
    | false =>
      have z := z.2 rfl
      have hc : ((i : Int) + 1) = ((i + 1 : Nat) : Int) := by push_cast; rfl
      wp_walk
      rw [hc]
      exact ⟨plainId_quiet plain_contains_loop _, codeAny_builtin entry_contains_loop (by
        rw [Around.under_plainId plain_contains_loop _]
        exact ih (i + 1) (by omega) (by omega) s' z)⟩
theorem notIn_own {l : Addr} {x : Value} {N : Nat} {Q : Value → Shared → Prop} (J : Nat → Shared → Prop)
    (hl : ∀ i s, J i s → ∃ (items : Array Value) (n : Nat), items.size = N ∧ s.heap.get? l = some { cls := .type "list", data := .seq items n } ∧ ∀ h : i < items.size, wpAny (model prog w) A.in1 (eqBool items[i] x) (fun r s' => (r = true → Q (.bool false) s') ∧ (r = false → J (i + 1) s')) E s)
    (fin : ∀ s, J N s → Q (.bool true) s) (h0 : J 0 s) : wpAny (model prog w) A (compareOp .NotIn x (.ref l)) Q E s := by
  show wpAny _ A (do return .bool (!(← contains (.ref l) x))) Q E s
  obtain ⟨items, n, hN, hle, _⟩ := hl _ _ h0
  refine wpAny_bind (wpAny_contains_slot (T := "list") ⟨_, hle, rfl⟩ PySem.F.slot_list_contains (wpAny_mono (Q := fun v s' => ∃ r : Bool, v = .bool r ∧ Q (.bool (!r)) s') (GQ.call_here PySem.F.slot_list_contains ⟨_, hle, rfl⟩ PySem.F.entry_list_contains (PySem.F.args_list_contains_2 _ _) ?_) (fun v s' hv => ?_) fun _ _ e => e))
  · obtain ⟨hp, g, d, tk, os⟩ := s
    wp_walk using wpAny_loadPart' hle
    exact ⟨plainId_quiet plain_contains_loop _, codeAny_builtin entry_contains_loop (by
      rw [Around.under_plainId plain_contains_loop _]
      refine con_loop (R := wants (fun v s' => ∃ r : Bool, v = .bool r ∧ Q (.bool (!r)) s') E) l x N J (fun i s h => ?_) (fun s h => ⟨false, rfl, fin s h⟩) _ 0 rfl (Nat.zero_le _) _ h0
      obtain ⟨items, n, h1, h2, h3⟩ := hl i s h
      exact ⟨items, n, h1, h2, fun hi => wpAny_mono (h3 hi) (fun r s' z => ⟨fun e => ⟨true, rfl, z.1 e⟩, z.2⟩) fun _ _ e => e⟩)⟩
  · obtain ⟨b, rfl, hq⟩ := hv
    exact wpAny_truthy_bool (wpAny_pure hq)
end
/-- x not in [None, y], both of the class C with an __eq__ of its own: None is not it, y is -/
def rNotIn2 (C : Addr) (sp : Sp) (E : XK) : R2 := fun x y H Q => ∃ (a b l dx dx2 : Addr) (fs fs2 : List (Str × V)), x = .ref a ∧ y = .ref l ∧ H l = some (.lst [.non, .ref b]) ∧ H a = some (.ins C dx fs) ∧ H b = some (.ins C dx2 fs2) ∧ a ≠ b ∧
  sp [.ref a, .non] H (fun z H1 => z = .bl false ∧ Same H H1 ∧ sp [.ref b, .ref a] H1 (fun z H2 => ∃ r, z = .bl r ∧ V.bl r = .bl true ∧ Q (.bl false) H2) E) E
section
variable {X : Cx} {CX : CXT} {n : Nat} {C f : Addr} {fd : FuncData} {ps : List Str} {sp : Sp} {E : XK}
theorem op_notIn2 (F : FnOk X.prog X.w X.K X.mg X.base CX n f fd ps sp) (hs : PySem.W.findIn X.K (.ref C) "__eq__" = some (some (.ref f))) (hf : PySem.W.isFn X.K (.ref f) = true) (hno : PySem.W.subIn X.K (.ref C) (.type "NoneType") = some false) (hty : ∀ H a dx fs, H a = some (.ins C dx fs) → TyX X.K H (.ref a) (.ref C))
    (hb : Binds X.K fd ps []) (hx : Passes CX X E) (hr : Room (n + 1) X.A) : OpR X (compareOp .NotIn) (rNotIn2 C sp E) := by
  intro pins s σ H x y v u Q I rx ry h
  obtain ⟨a, b, l, dx, dx2, fs, fs2, rfl, rfl, hl, ha, hb2, hab, hsp⟩ := h
  cases (show v = Value.ref a from rx)
  cases (show u = Value.ref l from ry)
  refine notIn_own (N := 2) (fun i s => (i = 0 ∧ Inv X pins σ H s) ∨ (i = 1 ∧ ∃ H1, Inv X pins σ H1 s ∧ Same H H1 ∧ sp [.ref b, .ref a] H1 (fun z H2 => ∃ r, z = .bl r ∧ V.bl r = .bl true ∧ Q (.bl false) H2) E)) (fun i s h => ?_) (fun s h => ?_) (.inl ⟨rfl, I⟩)
  · rcases h with ⟨rfl, I⟩ | ⟨rfl, H1, I1, s1, hsp1⟩
    · obtain ⟨z, its, m, r, hlen, e⟩ := I.lstM hl
      cases r with
      | cons r0 r =>
        cases r with
        | cons r1 r =>
          cases r
          refine ⟨_, m, rfl, e, fun _ => ?_⟩
          cases (show _ = Value.none from r0)
          obtain ⟨ox, od, J⟩ := inst_of I ha
          show wpAny _ _ (eqBool Value.none (.ref a)) _ _ _
          unfold eqBool
          refine wpAny_holding ?_
          refine wpAny_ite_split (fun hab => absurd (eq_of_beq hab) nofun) (fun _ => ?_)
          refine wpAny_bind (none_eq hr.in1.units0 I.kIn J hno hs hf (wpAny_mono (run_own (vs := [V.ref a, V.non]) F hb hx ⟨hr.in1, rfl⟩ I (.cons rfl (.cons rfl .nil)) hsp) (fun w s' z => ?_) fun _ _ e => e))
          obtain ⟨z, H', I', rz, rfl, s1, q⟩ := z
          cases (show w = Value.bool false from rz)
          exact wpAny_truthy_bool ⟨fun z => (by cases z), fun _ => .inr ⟨rfl, H', I', s1, q⟩⟩
    · obtain ⟨z, its, m, r, hlen, e⟩ := I1.lstM (s1 _ _ hl)
      cases r with
      | cons r0 r =>
        cases r with
        | cons r1 r =>
          cases r
          refine ⟨_, m, rfl, e, fun _ => ?_⟩
          cases (show _ = Value.ref b from r1)
          show wpAny _ _ (eqBool (Value.ref b) (.ref a)) _ _ _
          refine GQ.eqBool_refG (Ne.symm hab) ?_
          refine wpAny_mono (rc_own F hs hf hb hx ⟨hr.in1, rfl⟩ I1 (x := .ref b) (y := .ref a) rfl rfl ⟨b, dx2, fs2, .ref C, rfl, s1 _ _ hb2, hty _ _ _ _ (s1 _ _ ha), by simp [PySem.W.notFirst], ?_⟩ (Q := fun z H2 => z = .bl true ∧ Q (.bl false) H2)) (fun w s' z => ?_) fun _ _ e => e
          · exact hsp1
          · obtain ⟨z, H', I', rz, rfl, q⟩ := z
            cases (show w = Value.bool true from rz)
            exact ⟨true, rfl, fun _ => ⟨.bl false, H', I', rfl, q⟩, fun z => (by cases z)⟩
  · rcases h with ⟨h, _⟩ | ⟨h, _⟩ <;> cases h
end
end U

set_option Elab.async false
set_option linter.all false
set_option maxRecDepth 100000
set_option maxHeartbeats 4000000
/-! terms, their texts, the pieces of a text: no program here -/
namespace U
inductive Kd where
  | num | name | part
  deriving DecidableEq
inductive Wd where
  | sum | less | times | below | iff | pair | first | second | lett | deff | call
  deriving DecidableEq
inductive Tm where
  | atom (k : Kd) (l : List Nat)
  | n1 (w : Wd) (b : List Nat) (x : Tm)
  | n2 (w : Wd) (b : List Nat) (x y : Tm)
  | n3 (w : Wd) (b : List Nat) (x y z : Tm)
  deriving DecidableEq
def Kd.cs : Kd → List Nat
  | .num => [110, 117, 109, 98, 101, 114]
  | .name => [110, 97, 109, 101]
  | .part => [112, 97, 114, 116]
def Wd.cs : Wd → List Nat
  | .sum => [115, 117, 109]
  | .less => [108, 101, 115, 115]
  | .times => [116, 105, 109, 101, 115]
  | .below => [98, 101, 108, 111, 119]
  | .iff => [105, 102]
  | .pair => [112, 97, 105, 114]
  | .first => [102, 105, 114, 115, 116]
  | .second => [115, 101, 99, 111, 110, 100]
  | .lett => [108, 101, 116]
  | .deff => [100, 101, 102]
  | .call => [99, 97, 108, 108]
def Wd.ar : Wd → Nat
  | .sum => 2 | .less => 2 | .times => 2 | .below => 2 | .iff => 3 | .pair => 2 | .first => 1 | .second => 1 | .lett => 2 | .deff => 1 | .call => 2
def Wd.bd : Wd → Bool
  | .lett => true
  | .deff => true
  | _ => false
def Wd.all : List Wd := [.sum, .less, .times, .below, .iff, .pair, .first, .second, .lett, .deff, .call]
theorem Wd.mem (w : Wd) : w ∈ Wd.all := by cases w <;> decide
/-- a bracket's head: the word, the small name behind it -/
def hd (w : Wd) (b : List Nat) : List Nat := 40 :: w.cs ++ (if w.bd then 32 :: b else [])
def Tm.pr : Tm → List Nat
  | .atom _ l => l
  | .n1 w b x => hd w b ++ (32 :: x.pr) ++ [41]
  | .n2 w b x y => hd w b ++ (32 :: x.pr ++ 32 :: y.pr) ++ [41]
  | .n3 w b x y z => hd w b ++ (32 :: x.pr ++ 32 :: y.pr ++ 32 :: z.pr) ++ [41]
def Tm.kids : Tm → List Tm
  | .atom _ _ => []
  | .n1 _ _ x => [x]
  | .n2 _ _ x y => [x, y]
  | .n3 _ _ x y z => [x, y, z]
def Tm.size : Tm → Nat
  | .atom _ _ => 1
  | .n1 _ _ x => 1 + x.size
  | .n2 _ _ x y => 1 + x.size + y.size
  | .n3 _ _ x y z => 1 + x.size + y.size + z.size
def Tm.depth : Tm → Nat
  | .atom _ _ => 0
  | .n1 _ _ x => 1 + x.depth
  | .n2 _ _ x y => 1 + max x.depth y.depth
  | .n3 _ _ x y z => 1 + max (max x.depth y.depth) z.depth
def Tm.kind : Tm → List Nat
  | .atom k _ => k.cs
  | .n1 w _ _ => w.cs
  | .n2 w _ _ _ => w.cs
  | .n3 w _ _ _ _ => w.cs
def sm (w : Wd) (b : List Nat) : Option (List Nat) := if w.bd then some b else none
def Tm.small : Tm → Option (List Nat)
  | .atom _ _ => none
  | .n1 w b _ => sm w b
  | .n2 w b _ _ => sm w b
  | .n3 w b _ _ _ => sm w b
/-- small letters, figures -/
def smalls : List Nat := (List.range 26).map (97 + ·)
def greats : List Nat := (List.range 26).map (65 + ·)
def figs : List Nat := (List.range 10).map (48 + ·)
def figs1 : List Nat := (List.range 9).map (49 + ·)
def SmallOk (l : List Nat) : Prop := 1 ≤ l.length ∧ l.length ≤ 4 ∧ ∀ c ∈ l, c ∈ smalls
def GreatOk (l : List Nat) : Prop := 1 ≤ l.length ∧ l.length ≤ 6 ∧ ∀ c ∈ l, c ∈ greats
def NumOk (l : List Nat) : Prop := l = [48] ∨ ∃ d ds, (l = d :: ds ∨ l = 45 :: d :: ds) ∧ d ∈ figs1 ∧ ds.length ≤ 11 ∧ ∀ c ∈ ds, c ∈ figs
def AtomOk : Kd → List Nat → Prop
  | .num, l => NumOk l
  | .name, l => SmallOk l
  | .part, l => GreatOk l
def BndOk (w : Wd) (b : List Nat) : Prop := if w.bd = true then SmallOk b else b = []
def Tm.Ok : Tm → Prop
  | .atom k l => AtomOk k l
  | .n1 w b x => w.ar = 1 ∧ BndOk w b ∧ x.Ok
  | .n2 w b x y => w.ar = 2 ∧ BndOk w b ∧ x.Ok ∧ y.Ok
  | .n3 w b x y z => w.ar = 3 ∧ BndOk w b ∧ x.Ok ∧ y.Ok ∧ z.Ok
/-- a piece: its form or the bracket that closes, where it begins and ends, its small name -/
structure Pc where
  kind : List Nat
  b : Nat
  e : Nat
  small : Option (List Nat)
  deriving DecidableEq
def cl (a : Nat) : Pc := ⟨[41], a, a + 1, none⟩
/-- the texts of terms behind one another, a blank ahead of each -/
def kT : List Tm → List Nat
  | [] => []
  | k :: ks => 32 :: k.pr ++ kT ks
def op (a : Nat) (w : Wd) (b : List Nat) : Pc := ⟨w.cs, a, a + (hd w b).length, sm w b⟩
def Tm.pc : Tm → Nat → List Pc
  | .atom k l, a => [⟨k.cs, a, a + l.length, none⟩]
  | .n1 w b x, a => op a w b :: (x.pc (a + (hd w b).length + 1) ++ [cl (a + (hd w b).length + (kT [x]).length)])
  | .n2 w b x y, a => op a w b :: (x.pc (a + (hd w b).length + 1) ++ (y.pc (a + (hd w b).length + (kT [x]).length + 1) ++ [cl (a + (hd w b).length + (kT [x, y]).length)]))
  | .n3 w b x y z, a => op a w b :: (x.pc (a + (hd w b).length + 1) ++ (y.pc (a + (hd w b).length + (kT [x]).length + 1) ++ (z.pc (a + (hd w b).length + (kT [x, y]).length + 1) ++ [cl (a + (hd w b).length + (kT [x, y, z]).length)])))
def kP : Nat → List Tm → List Pc
  | _, [] => []
  | a, k :: ks => k.pc (a + 1) ++ kP (a + 1 + k.pr.length) ks
/-- what is left of a text, of its pieces, where these brackets are open: behind what stands, the terms still lacking in each -/
def rT : List (List Tm) → List Nat
  | [] => []
  | ks :: fs => kT ks ++ 41 :: rT fs
def rP : Nat → List (List Tm) → List Pc
  | _, [] => []
  | a, ks :: fs => kP a ks ++ cl (a + (kT ks).length) :: rP (a + (kT ks).length + 1) fs
/-- a bracket's view -/
structure View (t : Tm) (w : Wd) (b : List Nat) (ks : List Tm) : Prop where
  pr : t.pr = hd w b ++ kT ks ++ [41]
  pc : ∀ a, t.pc a = op a w b :: (kP (a + (hd w b).length) ks ++ [cl (a + (hd w b).length + (kT ks).length)])
  ar : ks.length = w.ar
  bn : BndOk w b
  kids : t.kids = ks
  kind : t.kind = w.cs
  small : t.small = sm w b
  size : t.size = 1 + (ks.map Tm.size).sum
  depth : t.depth = 1 + (ks.map Tm.depth).foldr max 0
  oks : ∀ k ∈ ks, k.Ok
theorem kT_len : ∀ ks, (kT ks).length = (ks.map fun k => 1 + k.pr.length).sum
  | [] => rfl
  | k :: ks => by
    rw [kT, List.cons_append, List.length_cons, List.length_append, kT_len ks, List.map_cons, List.sum_cons]
    omega
theorem kT_app : ∀ xs ys, kT (xs ++ ys) = kT xs ++ kT ys
  | [], ys => rfl
  | x :: xs, ys => by
    rw [List.cons_append, kT, kT, kT_app xs ys]
    simp
theorem view {t : Tm} (h : t.Ok) : (∃ k l, t = .atom k l ∧ AtomOk k l) ∨ ∃ w b ks, View t w b ks := by
  cases t with
  | atom k l => exact .inl ⟨k, l, rfl, h⟩
  | n1 w b x =>
    obtain ⟨h1, h2, h3⟩ := h
    refine .inr ⟨w, b, [x], ⟨by simp [Tm.pr, kT], fun a => by simp [Tm.pc, kP], h1.symm, h2, rfl, rfl, rfl, by simp [Tm.size], by simp [Tm.depth], fun k hk => ?_⟩⟩
    simp only [List.mem_singleton] at hk
    exact hk ▸ h3
  | n2 w b x y =>
    obtain ⟨h1, h2, h3, h4⟩ := h
    refine .inr ⟨w, b, [x, y], ⟨by simp [Tm.pr, kT], fun a => by simp [Tm.pc, kP, kT]; congr 1; omega, h1.symm, h2, rfl, rfl, rfl, by simp [Tm.size]; omega, by simp [Tm.depth], fun k hk => ?_⟩⟩
    simp only [List.mem_cons, List.not_mem_nil, or_false] at hk
    rcases hk with rfl | rfl
    · exact h3
    · exact h4
  | n3 w b x y z =>
    obtain ⟨h1, h2, h3, h4, h5⟩ := h
    refine .inr ⟨w, b, [x, y, z], ⟨by simp [Tm.pr, kT], fun a => by
      simp only [Tm.pc, kP, kT, List.append_nil, List.length_cons, List.length_append, List.length_nil, List.append_assoc]
      rw [show a + (hd w b).length + (x.pr.length + 1) + 1 = a + (hd w b).length + 1 + x.pr.length + 1 by omega, show a + (hd w b).length + (x.pr.length + 1 + (y.pr.length + 1)) + 1 = a + (hd w b).length + 1 + x.pr.length + 1 + y.pr.length + 1 by omega], h1.symm, h2, rfl, rfl, rfl, by simp [Tm.size]; omega, by simp [Tm.depth, Nat.max_assoc], fun k hk => ?_⟩⟩
    simp only [List.mem_cons, List.not_mem_nil, or_false] at hk
    rcases hk with rfl | rfl | rfl
    · exact h3
    · exact h4
    · exact h5
/-! ### runs of signs -/
/-- how many of these signs stand from a on, at most m -/
def runLen (t s : List Nat) (a m : Nat) : Nat := (((t.drop a).take m).takeWhile fun c => decide (c ∈ s)).length
theorem run_in {t s : List Nat} {a m j : Nat} (h : j < runLen t s a m) : a + j < t.length ∧ j < m ∧ ∃ c, t[a + j]? = some c ∧ c ∈ s := by
  unfold runLen at h
  obtain ⟨r, e⟩ := List.takeWhile_prefix (l := (t.drop a).take m) fun c => decide (c ∈ s)
  have h2 : j < ((t.drop a).take m).length := by
    rw [← e, List.length_append]
    omega
  have h3 := h2
  rw [List.length_take, List.length_drop] at h3
  have h4 : ((t.drop a).take m)[j]? = (((t.drop a).take m).takeWhile fun c => decide (c ∈ s))[j]? := by
    conv => lhs; rw [← e]
    exact List.getElem?_append_left h
  rw [List.getElem?_take_of_lt (by omega), List.getElem?_drop, List.getElem?_eq_getElem h] at h4
  have h8 := List.all_takeWhile (l := (t.drop a).take m) (p := fun c => decide (c ∈ s))
  rw [List.all_eq_true] at h8
  exact ⟨by omega, by omega, _, h4, of_decide_eq_true (h8 _ (List.getElem_mem h))⟩
theorem while_stops {p : Nat → Bool} : ∀ {l : List Nat} {c : Nat}, l[(l.takeWhile p).length]? = some c → p c = false
  | [], c, h => by simp at h
  | x :: r, c, h => by
    rw [List.takeWhile_cons] at h
    by_cases hx : p x = true
    · rw [if_pos hx] at h
      exact while_stops (l := r) (by simpa using h)
    · rw [if_neg hx] at h
      have e : x = c := by simpa using h
      subst e
      simpa using hx
theorem run_ends {t s : List Nat} {a m : Nat} (h1 : a + runLen t s a m < t.length) (h2 : runLen t s a m < m) : ∃ c, t[a + runLen t s a m]? = some c ∧ c ∉ s := by
  refine ⟨_, List.getElem?_eq_getElem h1, fun hc => ?_⟩
  have h5 : ((t.drop a).take m)[runLen t s a m]? = t[a + runLen t s a m]? := by
    rw [List.getElem?_take_of_lt h2, List.getElem?_drop]
  have h6 := while_stops (p := fun c => decide (c ∈ s)) (l := (t.drop a).take m) (h5.trans (List.getElem?_eq_getElem h1))
  exact absurd hc (of_decide_eq_false h6)
/-- a run that stands there, and no more -/
theorem run_is {t s l r : List Nat} {a m : Nat} (h : t.drop a = l ++ r) (hl : ∀ c ∈ l, c ∈ s) (hm : l.length ≤ m) (hr : l.length = m ∨ ∀ c, r.head? = some c → c ∉ s) : runLen t s a m = l.length := by
  unfold runLen
  rw [h, List.take_append]
  have e1 : l.take m = l := List.take_of_length_le hm
  rw [e1]
  have all : ∀ x : List Nat, (∀ c ∈ x, c ∈ s) → ∀ y : List Nat, ((x ++ y).takeWhile fun c => decide (c ∈ s)) = x ++ y.takeWhile fun c => decide (c ∈ s) := by
    intro x
    induction x with
    | nil => intro _ y; rfl
    | cons c x ih =>
      intro hx y
      rw [List.cons_append, List.takeWhile_cons, if_pos (decide_eq_true (hx c List.mem_cons_self)), ih (fun d hd => hx d (List.mem_cons_of_mem _ hd))]
      rfl
  rw [all l hl, List.length_append]
  have e2 : ((r.take (m - l.length)).takeWhile fun c => decide (c ∈ s)) = [] := by
    rcases hr with e | e
    · rw [e, Nat.sub_self]
      rfl
    · cases r with
      | nil => simp
      | cons c r =>
        have hc := e c rfl
        cases hq : m - l.length with
        | zero => rfl
        | succ q => rw [List.take_succ_cons, List.takeWhile_cons, if_neg (by simpa using hc)]
  rw [e2]
  rfl
theorem drop_more {t l r : List Nat} {a : Nat} (h : t.drop a = l ++ r) : t.drop (a + l.length) = r := by
  rw [← List.drop_drop, h, List.drop_left]
theorem drop_at {t r : List Nat} {a c : Nat} (h : t.drop a = c :: r) : t[a]? = some c ∧ a < t.length := by
  have h1 : t[a]? = some c := by
    have := congrArg List.head? h
    rwa [List.head?_drop, List.head?_cons] at this
  exact ⟨h1, (List.getElem?_eq_some_iff.mp h1).1⟩
/-- what may stand behind a term -/
def Sep (r : List Nat) : Prop := ∀ c, r.head? = some c → c = 32 ∨ c = 41
theorem sep_rT : ∀ R : List (List Tm), Sep (rT R)
  | [], c, h => by simp [rT] at h
  | [] :: fs, c, h => by
    simp [rT, kT] at h
    exact .inr h.symm
  | (k :: ks) :: fs, c, h => by
    simp [rT, kT] at h
    exact .inl h.symm
theorem Sep.not {r s : List Nat} (h : Sep r) (h1 : 32 ∉ s) (h2 : 41 ∉ s) : ∀ c, r.head? = some c → c ∉ s := by
  intro c hc
  rcases h c hc with rfl | rfl
  · exact h1
  · exact h2
/-! ### how deep, how many -/
structure Sz where
  o : Int
  n : Int
  d : Int
def isWd (l : List Nat) : Prop := ∃ w : Wd, l = w.cs
instance (l : List Nat) : Decidable (isWd l) := decidable_of_iff (l ∈ Wd.all.map Wd.cs) ⟨fun h => by
  obtain ⟨w, _, e⟩ := List.mem_map.mp h
  exact ⟨w, e.symm⟩, fun ⟨w, e⟩ => List.mem_map.mpr ⟨w, w.mem, e.symm⟩⟩
def sz1 (p : Pc) (z : Sz) : Sz := if p.kind = [41] then ⟨z.o - 1, z.n, z.d⟩ else ⟨z.o, z.n + 1, z.d⟩
def sz2 (p : Pc) (z : Sz) : Sz := if isWd p.kind then ⟨z.o + 1, z.n, max z.d (z.o + 1)⟩ else z
def szStep (z : Sz) (p : Pc) : Sz := sz2 p (sz1 p z)
theorem wd_not (w : Wd) : w.cs ≠ [41] := by cases w <;> decide
theorem wd_is (w : Wd) : isWd w.cs := ⟨w, rfl⟩
theorem kd_not (k : Kd) : k.cs ≠ [41] := by cases k <;> decide
theorem kd_wd (k : Kd) : ¬ isWd k.cs := by cases k <;> decide
theorem cl_wd : ¬ isWd [41] := by decide
theorem sz_open (a : Nat) (w : Wd) (b : List Nat) (z : Sz) : szStep z (op a w b) = ⟨z.o + 1, z.n + 1, max z.d (z.o + 1)⟩ := by
  unfold szStep sz1 sz2 op
  rw [if_neg (wd_not w), if_pos (wd_is w)]
theorem sz_close (a : Nat) (z : Sz) : szStep z (cl a) = ⟨z.o - 1, z.n, z.d⟩ := by
  unfold szStep sz1 sz2 cl
  rw [if_pos rfl, if_neg cl_wd]
theorem sz_atom (k : Kd) (a e : Nat) (s : Option (List Nat)) (z : Sz) : szStep z ⟨k.cs, a, e, s⟩ = ⟨z.o, z.n + 1, z.d⟩ := by
  unfold szStep sz1 sz2
  rw [if_neg (kd_not k), if_neg (kd_wd k)]
theorem sz_term : ∀ (t : Tm) (a : Nat) (z : Sz), z.o ≤ z.d → (t.pc a).foldl szStep z = ⟨z.o, z.n + t.size, max z.d (z.o + t.depth)⟩
  | .atom k l, a, z, h => by
    rw [Tm.pc, List.foldl_cons, List.foldl_nil, sz_atom, Tm.size, Tm.depth, Sz.mk.injEq]
    exact ⟨rfl, by omega, by omega⟩
  | .n1 w b x, a, z, h => by
    rw [Tm.pc, List.foldl_cons, sz_open, List.foldl_append, sz_term x _ _ (by dsimp only; omega), List.foldl_cons, List.foldl_nil, sz_close, Tm.size, Tm.depth, Sz.mk.injEq]
    dsimp only
    exact ⟨by omega, by omega, by omega⟩
  | .n2 w b x y, a, z, h => by
    rw [Tm.pc, List.foldl_cons, sz_open, List.foldl_append, sz_term x _ _ (by dsimp only; omega), List.foldl_append, sz_term y _ _ (by dsimp only; omega), List.foldl_cons, List.foldl_nil, sz_close, Tm.size, Tm.depth, Sz.mk.injEq]
    dsimp only
    exact ⟨by omega, by omega, by omega⟩
  | .n3 w b x y v, a, z, h => by
    rw [Tm.pc, List.foldl_cons, sz_open, List.foldl_append, sz_term x _ _ (by dsimp only; omega), List.foldl_append, sz_term y _ _ (by dsimp only; omega), List.foldl_append, sz_term v _ _ (by dsimp only; omega), List.foldl_cons, List.foldl_nil, sz_close, Tm.size, Tm.depth, Sz.mk.injEq]
    dsimp only
    exact ⟨by omega, by omega, by omega⟩
/-! ### a place within a term -/
structure Fr where
  t : Tm
  w : Wd
  b : List Nat
  at_ : Nat
  dn : List Tm
  rs : List Tm
def Ctx (t0 : Tm) : List Fr → Tm → Nat → Prop
  | [], k, a => k = t0 ∧ a = 0
  | f :: fs, k, a => View f.t f.w f.b (f.dn ++ k :: f.rs) ∧ a = f.at_ + (hd f.w f.b).length + (kT f.dn).length + 1 ∧ Ctx t0 fs f.t f.at_
def rests (fs : List Fr) : List (List Tm) := fs.map (·.rs)
theorem Ctx.text {t0 : Tm} : ∀ {fs : List Fr} {k : Tm} {a : Nat}, Ctx t0 fs k a → t0.pr.drop a = k.pr ++ rT (rests fs)
  | [], k, a, ⟨h1, h2⟩ => by
    subst h1 h2
    simp [rests, rT]
  | f :: fs, k, a, ⟨v, e, c⟩ => by
    have ih := c.text
    rw [v.pr, kT_app, kT] at ih
    have e2 : a = f.at_ + (hd f.w f.b ++ kT f.dn ++ [32]).length := by simp; omega
    rw [e2]
    refine drop_more ?_
    rw [ih]
    simp [rests, rT]
/-- the piece with which a term begins -/
def Tm.hp (t : Tm) (a : Nat) : Pc := match t with
  | .atom k l => ⟨k.cs, a, a + l.length, none⟩
  | .n1 w b _ => op a w b
  | .n2 w b _ _ => op a w b
  | .n3 w b _ _ _ => op a w b
theorem View.hp {t : Tm} {w : Wd} {b : List Nat} {ks : List Tm} (v : View t w b ks) (a : Nat) : t.hp a = op a w b := by
  have h := v.pc a
  cases t with
  | atom k l =>
    rw [Tm.pc, List.cons.injEq] at h
    have h2 := congrArg List.length h.2
    simp at h2
  | n1 w' b' x =>
    rw [Tm.pc, List.cons.injEq] at h
    exact h.1
  | n2 w' b' x y =>
    rw [Tm.pc, List.cons.injEq] at h
    exact h.1
  | n3 w' b' x y z =>
    rw [Tm.pc, List.cons.injEq] at h
    exact h.1
theorem num_first {l : List Nat} (h : NumOk l) : ∃ c r, l = c :: r ∧ (c = 45 ∨ c ∈ figs) := by
  rcases h with rfl | ⟨d, ds, h | h, h1, _⟩
  · exact ⟨48, [], rfl, .inr (by decide)⟩
  · refine ⟨d, ds, h, .inr ?_⟩
    unfold figs1 at h1
    unfold figs
    obtain ⟨j, hj, rfl⟩ := List.mem_map.mp h1
    have := List.mem_range.mp hj
    exact List.mem_map.mpr ⟨j + 1, List.mem_range.mpr (by omega), by omega⟩
  · exact ⟨45, d :: ds, h, .inl rfl⟩
theorem some_first {l s : List Nat} (h1 : 1 ≤ l.length) (h2 : ∀ c ∈ l, c ∈ s) : ∃ c r, l = c :: r ∧ c ∈ s := by
  cases l with
  | nil => simp at h1
  | cons c r => exact ⟨c, r, rfl, h2 c List.mem_cons_self⟩
/-! ### the walk over a text -/
def Oks (R : List (List Tm)) : Prop := ∀ ks ∈ R, ∀ k ∈ ks, k.Ok
/-- a term is ahead, these brackets are open around it: what is left of the text and of its pieces -/
def Ahead (t0 : List Nat) (all : List Pc) (k : Tm) (R : List (List Tm)) (a : Nat) (done : List Pc) : Prop :=
  t0.drop a = k.pr ++ rT R ∧ k.Ok ∧ Oks R ∧ done ++ (k.pc a ++ rP (a + k.pr.length) R) = all
/-- a piece was read, these brackets are open -/
def Mid (t0 : List Nat) (all : List Pc) (R : List (List Tm)) (a : Nat) (done : List Pc) : Prop :=
  t0.drop a = rT R ∧ Oks R ∧ done ++ rP a R = all
/-- what is open behind the piece of a term -/
def openR (k : Tm) (R : List (List Tm)) : List (List Tm) := match k with
  | .atom _ _ => R
  | t => t.kids :: R
def hlen (k : Tm) : Nat := match k with
  | .atom _ l => l.length
  | .n1 w b _ => (hd w b).length
  | .n2 w b _ _ => (hd w b).length
  | .n3 w b _ _ _ => (hd w b).length
theorem hp_end (k : Tm) (a : Nat) : (k.hp a).e = a + hlen k := by cases k <;> rfl
theorem View.hlen {t : Tm} {w : Wd} {b : List Nat} {ks : List Tm} (v : View t w b ks) : hlen t = (hd w b).length := by
  have h := hp_end t 0
  rw [v.hp 0] at h
  have h2 : (op 0 w b).e = 0 + (hd w b).length := rfl
  omega
theorem View.openR {t : Tm} {w : Wd} {b : List Nat} {ks : List Tm} (v : View t w b ks) (R : List (List Tm)) : openR t R = ks :: R := by
  have h := v.pc 0
  cases t with
  | atom k l =>
    rw [Tm.pc, List.cons.injEq] at h
    have h2 := congrArg List.length h.2
    simp at h2
  | n1 w' b' x => rw [← v.kids]; rfl
  | n2 w' b' x y => rw [← v.kids]; rfl
  | n3 w' b' x y z => rw [← v.kids]; rfl
theorem Ahead.mid {t0 : List Nat} {all : List Pc} {k : Tm} {R : List (List Tm)} {a : Nat} {done : List Pc} (h : Ahead t0 all k R a done) : Mid t0 all (openR k R) (a + hlen k) (done ++ [k.hp a]) := by
  obtain ⟨h1, h2, h3, h4⟩ := h
  rcases view h2 with ⟨kd, l, rfl, _⟩ | ⟨w, b, ks, v⟩
  · exact ⟨drop_more h1, h3, by rw [List.append_assoc]; exact h4⟩
  · rw [v.openR, v.hlen, v.hp]
    refine ⟨drop_more ?_, ?_, ?_⟩
    · rw [h1, v.pr]
      simp [rT]
    · intro x hx k hk
      rcases List.mem_cons.mp hx with rfl | hx
      · exact v.oks k hk
      · exact h3 x hx k hk
    · rw [← h4, v.pc, v.pr, rP]
      simp only [List.length_append, List.length_cons, List.length_nil, List.append_assoc, List.cons_append, List.nil_append]
      rw [show a + ((hd w b).length + ((kT ks).length + (0 + 1))) = a + (hd w b).length + (kT ks).length + 1 by omega]
theorem Mid.next {t0 : List Nat} {all : List Pc} {k : Tm} {ks : List Tm} {R : List (List Tm)} {a : Nat} {done : List Pc} (h : Mid t0 all ((k :: ks) :: R) a done) : t0[a]? = some 32 ∧ Ahead t0 all k (ks :: R) (a + 1) done := by
  obtain ⟨h1, h2, h3⟩ := h
  have e : t0.drop a = 32 :: (k.pr ++ rT (ks :: R)) := by
    rw [h1]
    simp [rT, kT]
  refine ⟨(drop_at e).1, drop_more (l := [32]) e, h2 _ List.mem_cons_self k List.mem_cons_self, ?_, ?_⟩
  · intro x hx y hy
    rcases List.mem_cons.mp hx with rfl | hx
    · exact h2 _ List.mem_cons_self y (List.mem_cons_of_mem _ hy)
    · exact h2 x (List.mem_cons_of_mem _ hx) y hy
  · rw [← h3, rP, rP, kP, kT]
    simp only [List.length_append, List.length_cons, List.append_assoc, List.cons_append]
    rw [show a + (k.pr.length + (kT ks).length + 1) = a + 1 + k.pr.length + (kT ks).length by omega]
theorem Mid.close {t0 : List Nat} {all : List Pc} {R : List (List Tm)} {a : Nat} {done : List Pc} (h : Mid t0 all ([] :: R) a done) : t0[a]? = some 41 ∧ Mid t0 all R (a + 1) (done ++ [cl a]) := by
  obtain ⟨h1, h2, h3⟩ := h
  have e : t0.drop a = 41 :: rT R := h1
  refine ⟨(drop_at e).1, drop_more (l := [41]) e, fun x hx => h2 x (List.mem_cons_of_mem _ hx), ?_⟩
  rw [← h3, List.append_assoc]
  rfl
theorem Mid.over {t0 : List Nat} {all : List Pc} {a : Nat} {done : List Pc} (h : Mid t0 all [] a done) (l : a ≤ t0.length) : a = t0.length ∧ done = all := by
  obtain ⟨h1, h2, h3⟩ := h
  have e : t0.drop a = [] := h1
  have h4 := List.drop_eq_nil_iff.mp e
  exact ⟨by omega, by rw [← h3]; simp [rP]⟩
theorem ahead_start {k : Tm} (h : k.Ok) : Ahead k.pr (k.pc 0) k [] 0 [] := ⟨by simp [rT], h, fun x hx => by simp at hx, by simp [rP]⟩
def Rsize (R : List (List Tm)) : Nat := (R.map fun ks => (ks.map Tm.size).sum).sum
theorem Ahead.less {t0 : List Nat} {all : List Pc} {k : Tm} {R : List (List Tm)} {a : Nat} {done : List Pc} (h : Ahead t0 all k R a done) : Rsize (openR k R) + 1 = k.size + Rsize R := by
  rcases view h.2.1 with ⟨kd, l, rfl, _⟩ | ⟨w, b, ks, v⟩
  · show Rsize R + 1 = 1 + Rsize R
    omega
  · rw [v.openR, v.size]
    simp [Rsize]
    omega
theorem pc_len : ∀ (t : Tm) (a : Nat), (t.pc a).length ≤ 2 * t.size
  | .atom k l, a => by simp [Tm.pc, Tm.size]
  | .n1 w b x, a => by
    have := pc_len x (a + (hd w b).length + 1)
    simp [Tm.pc, Tm.size]
    omega
  | .n2 w b x y, a => by
    have h1 := pc_len x (a + (hd w b).length + 1)
    have h2 := pc_len y (a + (hd w b).length + (kT [x]).length + 1)
    simp [Tm.pc, Tm.size] at h1 h2 ⊢
    omega
  | .n3 w b x y z, a => by
    have h1 := pc_len x (a + (hd w b).length + 1)
    have h2 := pc_len y (a + (hd w b).length + (kT [x]).length + 1)
    have h3 := pc_len z (a + (hd w b).length + (kT [x, y]).length + 1)
    simp [Tm.pc, Tm.size] at h1 h2 h3 ⊢
    omega
theorem hlen_le (k : Tm) : hlen k ≤ k.pr.length := by
  cases k <;> simp [hlen, Tm.pr]
theorem pr_pos {k : Tm} (h : k.Ok) : 1 ≤ k.pr.length := by
  rcases view h with ⟨kd, l, rfl, hk⟩ | ⟨w, b, ks, v⟩
  · cases kd with
    | num =>
      obtain ⟨c, r, e, _⟩ := num_first hk
      show 1 ≤ l.length
      rw [e]
      simp
    | name => exact hk.1
    | part => exact hk.1
  · rw [v.pr]
    simp
    omega
theorem Ahead.bound {t0 : List Nat} {all : List Pc} {k : Tm} {R : List (List Tm)} {a : Nat} {done : List Pc} (h : Ahead t0 all k R a done) : a + hlen k ≤ t0.length ∧ done.length < all.length := by
  have h1 := congrArg List.length h.1
  rw [List.length_drop, List.length_append] at h1
  have h2 := hlen_le k
  have h3 := pr_pos h.2.1
  refine ⟨by omega, ?_⟩
  have h4 := h.mid.2.2
  rw [← h4]
  simp
theorem rT_len : ∀ R : List (List Tm), R.length ≤ (rT R).length
  | [] => Nat.le_refl _
  | ks :: R => by
    have := rT_len R
    simp [rT]
    omega
theorem Ahead.few {t0 : List Nat} {all : List Pc} {k : Tm} {R : List (List Tm)} {a : Nat} {done : List Pc} (h : Ahead t0 all k R a done) : R.length < t0.length := by
  have h1 := congrArg List.length h.1
  rw [List.length_drop, List.length_append] at h1
  have h2 := pr_pos h.2.1
  have h3 := rT_len R
  omega
theorem Mid.room {t0 : List Nat} {all : List Pc} {R : List (List Tm)} {a : Nat} {done : List Pc} (h : Mid t0 all ([] :: R) a done) : done.length < all.length := by
  rw [← h.2.2]
  simp [rP]
  omega
/-! ### free names, all names -/
def Tm.Free : Tm → List Nat → Prop
  | .atom k l, y => k = .name ∧ y = l
  | .n1 w b x, y => x.Free y ∧ (w.bd = true → y ≠ b)
  | .n2 w b x z, y => x.Free y ∨ (z.Free y ∧ (w.bd = true → y ≠ b))
  | .n3 w b x z v, y => x.Free y ∨ z.Free y ∨ (v.Free y ∧ (w.bd = true → y ≠ b))
/-- a small name that stands in it as a term -/
def Tm.Names (N : List Nat → Prop) : Tm → Prop
  | .atom k l => k = .name → N l
  | .n1 _ _ x => x.Names N
  | .n2 _ _ x z => x.Names N ∧ z.Names N
  | .n3 _ _ x z v => x.Names N ∧ z.Names N ∧ v.Names N
theorem Tm.Free.in_names {N : List Nat → Prop} : ∀ {t : Tm} {y : List Nat}, t.Free y → t.Names N → N y
  | .atom _ _, _, ⟨h1, h2⟩, n => h2 ▸ n h1
  | .n1 _ _ _, _, h, n => Tm.Free.in_names h.1 n
  | .n2 _ _ _ _, _, h, n => h.elim (fun h => Tm.Free.in_names h n.1) fun h => Tm.Free.in_names h.1 n.2
  | .n3 _ _ _ _ _, _, h, n => h.elim (fun h => Tm.Free.in_names h n.1) fun h => h.elim (fun h => Tm.Free.in_names h n.2.1) fun h => Tm.Free.in_names h.1 n.2.2
theorem View.names {t : Tm} {w : Wd} {b : List Nat} {ks : List Tm} (v : View t w b ks) {N : List Nat → Prop} (h : t.Names N) : ∀ k ∈ ks, k.Names N := by
  rw [← v.kids]
  cases t with
  | atom k l =>
    intro x hx
    simp [Tm.kids] at hx
  | n1 w' b' x =>
    intro k hk
    simp only [Tm.kids, List.mem_singleton] at hk
    exact hk ▸ h
  | n2 w' b' x y =>
    intro k hk
    simp only [Tm.kids, List.mem_cons, List.not_mem_nil, or_false] at hk
    rcases hk with rfl | rfl
    · exact h.1
    · exact h.2
  | n3 w' b' x y z =>
    intro k hk
    simp only [Tm.kids, List.mem_cons, List.not_mem_nil, or_false] at hk
    rcases hk with rfl | rfl | rfl
    · exact h.1
    · exact h.2.1
    · exact h.2.2
/-! ### trees on their way -/
def restsOk (N : List Nat → Prop) (fs : List Fr) : Prop := ∀ f ∈ fs, ∀ x ∈ f.rs, x.Ok ∧ x.Names N
/-- what comes next: a term's own piece, a bracket that closes, nothing -/
inductive Bst (N : List Nat → Prop) (t0 : Tm) (rem : List Pc) : List Fr → List Tm → Prop where
  | ahead {fs : List Fr} (k : Tm) (a : Nat) (c : Ctx t0 fs k a) (ok : k.Ok) (nm : k.Names N) (ro : restsOk N fs) (e : rem = k.pc a ++ rP (a + k.pr.length) (rests fs)) : Bst N t0 rem fs []
  | close {f : Fr} {fs : List Fr} (v : View f.t f.w f.b f.dn) (c : Ctx t0 fs f.t f.at_) (nm : f.t.Names N) (ro : restsOk N fs) (e : rem = cl (f.at_ + (hd f.w f.b).length + (kT f.dn).length) :: rP (f.at_ + f.t.pr.length) (rests fs)) : Bst N t0 rem (f :: fs) []
  | over (e : rem = []) : Bst N t0 rem [] [t0]
/-- a term is put where it belongs -/
def putDn (fs : List Fr) (k : Tm) : List Fr := match fs with
  | [] => []
  | f :: r => { f with dn := f.dn ++ [k], rs := f.rs.tail } :: r
def putBot (fs : List Fr) (k : Tm) : List Tm := match fs with
  | [] => [k]
  | _ :: _ => []
theorem Bst.fin {N : List Nat → Prop} {t0 k : Tm} {fs : List Fr} {a : Nat} {rem : List Pc} (c : Ctx t0 fs k a) (nm : t0.Names N) (hn : ∀ f ∈ fs, f.t.Names N) (ro : restsOk N fs) (e : rem = rP (a + k.pr.length) (rests fs)) : Bst N t0 rem (putDn fs k) (putBot fs k) := by
  cases fs with
  | nil =>
    obtain ⟨h1, _⟩ := c
    subst h1
    exact .over e
  | cons f r =>
    obtain ⟨v, h1, h2⟩ := c
    have ro' : restsOk N r := fun g hg => ro g (List.mem_cons_of_mem _ hg)
    cases hrs : f.rs with
    | nil =>
      rw [hrs] at v
      show Bst N t0 rem ({ f with dn := f.dn ++ [k], rs := f.rs.tail } :: r) []
      refine .close v h2 (hn f List.mem_cons_self) ro' ?_
      rw [e]
      show rP (a + k.pr.length) (f.rs :: rests r) = _
      rw [hrs, rP, kP, kT, kT_app, v.pr, kT_app]
      simp only [kT, List.append_nil, List.length_append, List.length_cons, List.length_nil, List.nil_append, h1]
      rw [show f.at_ + (hd f.w f.b).length + (kT f.dn).length + 1 + k.pr.length + 0 = f.at_ + (hd f.w f.b).length + ((kT f.dn).length + (k.pr.length + 1)) by omega,
        show f.at_ + (hd f.w f.b).length + ((kT f.dn).length + (k.pr.length + 1)) + 1 = f.at_ + ((hd f.w f.b).length + ((kT f.dn).length + (k.pr.length + 1)) + (0 + 1)) by omega]
    | cons k' rs' =>
      rw [hrs] at v
      show Bst N t0 rem ({ f with dn := f.dn ++ [k], rs := f.rs.tail } :: r) []
      have hk := ro f List.mem_cons_self k' (by rw [hrs]; exact List.mem_cons_self)
      refine .ahead k' (a + k.pr.length + 1) ⟨?_, ?_, h2⟩ hk.1 hk.2 ?_ ?_
      · show View f.t f.w f.b (f.dn ++ [k] ++ k' :: f.rs.tail)
        rw [hrs]
        simpa using v
      · show a + k.pr.length + 1 = f.at_ + (hd f.w f.b).length + (kT (f.dn ++ [k])).length + 1
        rw [kT_app, h1]
        simp [kT]
        omega
      · intro g hg x hx
        rcases List.mem_cons.mp hg with rfl | hg
        · have hx2 : x ∈ f.rs.tail := hx
          exact ro f List.mem_cons_self x (List.mem_of_mem_tail hx2)
        · exact ro' g hg x hx
      · rw [e]
        show rP (a + k.pr.length) (f.rs :: rests r) = k'.pc (a + k.pr.length + 1) ++ rP _ (f.rs.tail :: rests r)
        rw [hrs, List.tail_cons, rP, rP, kP, kT]
        simp only [List.length_append, List.length_cons, List.append_assoc, List.cons_append]
        rw [show a + k.pr.length + (k'.pr.length + (kT rs').length + 1) = a + k.pr.length + 1 + k'.pr.length + (kT rs').length by omega]
theorem View.some_kid {t : Tm} {w : Wd} {b : List Nat} {ks : List Tm} (v : View t w b ks) : ∃ k1 ks', ks = k1 :: ks' := by
  have h := v.ar
  cases ks with
  | nil =>
    exfalso
    cases w <;> simp [Wd.ar] at h
  | cons k1 ks' => exact ⟨k1, ks', rfl⟩
/-- a bracket opens -/
theorem Bst.open {N : List Nat → Prop} {t0 k k1 : Tm} {ks : List Tm} {w : Wd} {b : List Nat} {fs : List Fr} {a : Nat} {rem : List Pc} (v : View k w b (k1 :: ks)) (c : Ctx t0 fs k a) (nm : k.Names N) (ro : restsOk N fs)
    (e : op a w b :: rem = k.pc a ++ rP (a + k.pr.length) (rests fs)) : Bst N t0 rem (⟨k, w, b, a, [], ks⟩ :: fs) [] := by
  have hk := v.names nm
  refine .ahead k1 (a + (hd w b).length + 1) ⟨v, by simp [kT], c⟩ (v.oks _ List.mem_cons_self) (hk _ List.mem_cons_self) ?_ ?_
  · intro g hg x hx
    rcases List.mem_cons.mp hg with rfl | hg
    · exact ⟨v.oks x (List.mem_cons_of_mem _ hx), hk x (List.mem_cons_of_mem _ hx)⟩
    · exact ro g hg x hx
  · rw [v.pc, v.pr, List.cons_append] at e
    have e := (List.cons.inj e).2
    rw [e]
    show _ = k1.pc _ ++ rP _ (ks :: rests fs)
    rw [rP, kP, kT]
    simp only [List.length_append, List.length_cons, List.length_nil, List.append_assoc, List.cons_append, List.nil_append]
    rw [show a + ((hd w b).length + (k1.pr.length + ((kT ks).length + (0 + 1)) + 1)) = a + (hd w b).length + 1 + k1.pr.length + (kT ks).length + 1 by omega,
      show a + (hd w b).length + (k1.pr.length + (kT ks).length + 1) = a + (hd w b).length + 1 + k1.pr.length + (kT ks).length by omega]
end U

set_option Elab.async false
set_option linter.all false
set_option maxRecDepth 100000
set_option maxHeartbeats 4000000
/-! a written dict of texts and ints: in, not in, an item, its keys walked -/
namespace U
open PySem PySem.Spec PyProof.Rows L2
structure KTab (K : PySem.W.Frag) (w : World) (d : Addr) (es : Array DictEntry) (n : Nat) (kvs : List (Str × Int)) : Prop where
  dict : KDict K w d es n
  rows : Paired (fun (p : Str × Int) (e : DictEntry) => ∃ t u, e.key = .str p.1 t ∧ e.val = .int p.2 u) kvs es.toList
  nd : (kvs.map (·.1)).Nodup
section
variable {K : PySem.W.Frag} {w : World} {d : Addr} {es : Array DictEntry} {n : Nat} {kvs : List (Str × Int)}
theorem find_rows : ∀ {kvs : List (Str × Int)} {es : List DictEntry}, Paired (fun (p : Str × Int) (e : DictEntry) => ∃ t u, e.key = .str p.1 t ∧ e.val = .int p.2 u) kvs es → ∀ z : Str,
    (∃ i u e, (z, i) ∈ kvs ∧ es.find? (·.key.isStr z) = some e ∧ e.val = .int i u) ∨ (z ∉ kvs.map (·.1) ∧ es.find? (·.key.isStr z) = none ∧ es.any (·.refKey) = false)
  | [], [], .nil, z => .inr ⟨by simp, rfl, rfl⟩
  | p :: kvs, e :: es, .cons ⟨t, u, h1, h2⟩ r, z => by
    have hk : e.key.isStr z = decide (p.1 = z) := by
      rw [h1]
      by_cases hz : p.1 = z
      · subst hz
        simp [Value.isStr]
      · rw [decide_eq_false hz]
        simp [Value.isStr, hz]
    have hr : e.refKey = false := by
      unfold DictEntry.refKey
      rw [h1]
    by_cases hz : p.1 = z
    · refine .inl ⟨p.2, u, e, ?_, ?_, h2⟩
      · rw [← hz]
        exact List.mem_cons_self
      · rw [List.find?_cons, hk, decide_eq_true hz]
    · have nx : (e :: es).find? (·.key.isStr z) = es.find? (·.key.isStr z) := by
        rw [List.find?_cons, hk, decide_eq_false hz]
      rw [nx]
      rcases find_rows r z with ⟨i, u', e', a, b, c⟩ | ⟨a, b, c⟩
      · exact .inl ⟨i, u', e', List.mem_cons_of_mem _ a, b, c⟩
      · refine .inr ⟨?_, b, by rw [List.any_cons, hr, c]; rfl⟩
        rw [List.map_cons, List.mem_cons]
        exact fun h => h.elim (fun h => hz h.symm) a
theorem KTab.ns (T : KTab K w d es n kvs) (z : Str) : (∃ i u, (z, i) ∈ kvs ∧ PySem.W.nsIn K d z = some (some (.int i u))) ∨ (z ∉ kvs.map (·.1) ∧ PySem.W.nsIn K d z = some none) := by
  have hl := T.dict.at_
  unfold PySem.W.nsIn
  rw [hl]
  dsimp only
  rcases find_rows T.rows z with ⟨i, u, e, a, b, c⟩ | ⟨a, b, c⟩
  · exact .inl ⟨i, u, a, by rw [b, ← c]⟩
  · refine .inr ⟨a, ?_⟩
    rw [b]
    dsimp only
    rw [if_neg (by rw [c]; decide)]
end
section
variable {X : Cx} {d : Addr} {es : Array DictEntry} {n : Nat} {kvs : List (Str × Int)}
/-- z in d -/
theorem op_in_tab (T : KTab X.K X.w d es n kvs) : OpR X (compareOp .In) (fun x y H Q => ∃ z : Str, x = .str z ∧ y = .ref d ∧ Q (.bl (decide (z ∈ kvs.map (·.1)))) H) := by
  intro pins s σ H x y v u Q I rx ry ⟨z, h1, h2, q⟩
  rcases T.ns z with ⟨i, u0, m, e⟩ | ⟨m, e⟩
  · rw [decide_eq_true (List.mem_map.mpr ⟨_, m, rfl⟩)] at q
    exact op_in_kd T.dict pins s σ H x y v u Q I rx ry ⟨z, _, h1, h2, e, q⟩
  · rw [decide_eq_false m] at q
    exact op_in_kd T.dict pins s σ H x y v u Q I rx ry ⟨z, _, h1, h2, e, q⟩
/-- z not in d -/
theorem op_notIn_tab (T : KTab X.K X.w d es n kvs) : OpR X (compareOp .NotIn) (fun x y H Q => ∃ z : Str, x = .str z ∧ y = .ref d ∧ Q (.bl (!decide (z ∈ kvs.map (·.1)))) H) := by
  intro pins s σ H x y v u Q I rx ry ⟨z, h1, h2, q⟩
  rcases T.ns z with ⟨i, u0, m, e⟩ | ⟨m, e⟩
  · rw [decide_eq_true (List.mem_map.mpr ⟨_, m, rfl⟩)] at q
    exact op_notIn_kd T.dict pins s σ H x y v u Q I rx ry ⟨z, _, h1, h2, e, q⟩
  · rw [decide_eq_false m] at q
    exact op_notIn_kd T.dict pins s σ H x y v u Q I rx ry ⟨z, _, h1, h2, e, q⟩
/-- d[z], z a key of it -/
theorem ix_tab (T : KTab X.K X.w d es n kvs) : IxR X (fun x y H Q => ∃ z : Str, x = .ref d ∧ y = .str z ∧ (∃ i, (z, i) ∈ kvs) ∧ ∀ i, (z, i) ∈ kvs → Q (.int i) H) := by
  intro value slice pins s σ H x y v u Q I rx ry ⟨z, h1, h2, ⟨i0, hi⟩, q⟩ hs
  rcases T.ns z with ⟨i, u0, m, e⟩ | ⟨m, e⟩
  · exact ix_kdict value slice pins s σ H x y v u Q I rx ry ⟨d, z, .int i, h1, h2, ⟨es, n, _, T.dict.at_, T.dict.lit, e, ⟨_, rfl⟩⟩, q i m⟩ hs
  · exact absurd (List.mem_map.mpr ⟨_, hi, rfl⟩) m
/-- its keys, one by one -/
def Itn (ks : List Str) : It := ⟨fun i _ => i < ks.length, fun i H v H' => H' = H ∧ ∃ k, ks[i]? = some k ∧ v = .str k, fun i _ => ks.length ≤ i⟩
theorem walk_tab {ks : List Str} : Walk (Itn ks) ks.length (fun _ => True) (fun i H v H' => H' = H ∧ ∃ k, ks[i]? = some k ∧ v = .str k) :=
  ⟨fun _ _ hi _ => hi, fun _ _ => Nat.le_refl _, fun _ _ _ _ _ _ y => y⟩
theorem pairs_rows (P : Program) (w : World) : ∀ {kvs : List (Str × Int)} {es : List DictEntry}, Paired (fun (p : Str × Int) (e : DictEntry) => ∃ t u, e.key = .str p.1 t ∧ e.val = .int p.2 u) kvs es →
    ∃ ps : List (Str × Value), Pairs (PySem.strKind P w) es ps ∧ ps.map (·.1) = kvs.map (·.1)
  | [], [], .nil => ⟨[], .nil, rfl⟩
  | p :: kvs, e :: es, .cons ⟨t, u, h1, h2⟩ r => by
    obtain ⟨ps, a, b⟩ := pairs_rows P w r
    have key : (PySem.strKind P w).is p.1 e.key = true := by
      rw [h1]
      exact strKind_is P w p.1 t
    exact ⟨(p.1, e.val) :: ps, .cons key rfl a, by rw [List.map_cons, List.map_cons, b]⟩
theorem KTab.dictAt {K : PySem.W.Frag} {w : World} (P : Program) (T : KTab K w d es n kvs) {h : Heap} (I : K.In h) : ∃ ps : List (Str × Value), h.DictAt (PySem.strKind P w) d ps n ∧ ps.map (·.1) = kvs.map (·.1) ∧ es.size = ps.length := by
  obtain ⟨ps, a, b⟩ := pairs_rows P w T.rows
  refine ⟨ps, ⟨_, es, I _ _ T.dict.at_, ⟨rfl, rfl, rfl⟩, rfl, fun e he => ?_, a, by rw [b]; exact T.nd⟩, b, ?_⟩
  · obtain ⟨x, t, e1, e2⟩ := T.dict.lit.all e (Array.mem_toList_iff.mpr he)
    refine ⟨x, ?_, e2⟩
    rw [e1]
    exact strKind_is P w x t
  · rw [← a.length, Array.length_toList]
theorem turn_tab {P : Program} {w : World} {K : PySem.W.Frag} {tg : Expr} (T : KTab K w d es n kvs) (it : Addr) :
    Turn P w K tg (Itn (kvs.map (·.1))) [it] it (fun i h => h.IsKeyIter it d i (kvs.map (·.1)).length n) where
  mem := List.mem_singleton.mpr rfl
  obj := by
    intro i h st b hb
    obtain rfl := List.mem_singleton.mp hb
    obtain ⟨o, e, _, dd⟩ := st
    refine ⟨o, e, fun v z => ?_⟩
    rw [dd] at z
    cases z
  keep := fun i h h' st k => st.at fun o e => k it (List.mem_singleton.mpr rfl) o e
  item := by
    intro X hP hw hK hc i pins s σ H E I hf st hg
    subst hP hw hK
    obtain ⟨f0, f1, f2, f3, f4, f5⟩ := hf it (List.mem_singleton.mpr rfl)
    obtain ⟨ps, da, pe, _⟩ := T.dictAt X.prog I.kIn
    have hl : (kvs.map (·.1)).length = ps.length := by rw [← pe, List.length_map]
    have hi : i < ps.length := hl ▸ hg
    have hk : (kvs.map (·.1))[i]? = some ps[i].1 := by rw [← pe, List.getElem?_map, List.getElem?_eq_getElem hi]; rfl
    rw [hl] at st
    refine wpAny_pyNext_dict_item st da (k := ps[i].1) (v := ps[i].2) (List.getElem?_eq_getElem hi) fun key h' hkey st' sb => ?_
    have I1 : Inv X pins σ H { s with heap := h' } := I.turned (t' := s.toks) (fun b ob hb e => (sb.2 b hb).trans e) f0 f1 f3 f4 f5
    obtain ⟨oi, e, c, dd⟩ := id st'
    have rel : RelV (.str ps[i].1) key := by
      rcases keyIs_shape (k := .inr ps[i].1) (v := key) hkey with ⟨_, _, z, _⟩ | ⟨x, t, z, rfl⟩
      · cases z
      · obtain rfl := Sum.inr.inj z
        exact ⟨t, rfl⟩
    refine ⟨key, rfl, go_of (s := { s with heap := h' }) e c dd (by decide) ⟨_, H, I1, rel, ⟨rfl, _, hk, rfl⟩, ?_, fun b hb => (hf b hb).1⟩⟩
    rw [hl]
    exact st'
  done := by
    intro X hP hw hK hc i pins s σ H E I hf st hg
    subst hP hw hK
    obtain ⟨f0, f1, f2, f3, f4, f5⟩ := hf it (List.mem_singleton.mpr rfl)
    obtain ⟨ps, da, pe, hs⟩ := T.dictAt X.prog I.kIn
    have hl : (kvs.map (·.1)).length = ps.length := by rw [← pe, List.length_map]
    exact next_key_end (I.ok.hd hc) st (I.kIn _ _ T.dict.at_) rfl (hs.trans hl.symm) hg fun h' eb => ⟨rfl, I.turned (t' := s.toks) (fun b ob hb e => eb b ob hb e) f0 f1 f3 f4 f5⟩
  self := fun A i s Q E st h => wpAny_pyIter_keyiter st h
/-- for k in d -/
def iTab (d : Addr) (ks : List Str) (td : TE) : TI := fun σ H R => td σ H fun x H1 => x = .ref d ∧ R (Itn ks) H1
theorem pi_tab {tg e : Expr} {td : TE} (T : KTab X.K X.w d es n kvs) (he : PE X e td) : PI X tg e (iTab d (kvs.map (·.1)) td) := by
  refine ⟨fun pins s σ H R I h => ?_⟩
  refine thn (he.run pins s σ H _ I h) fun u s1 ⟨x, H1, I1, rx, ex, q⟩ => ?_
  subst ex
  obtain rfl : u = Value.ref d := rx
  obtain ⟨ps, da, pe, hs⟩ := T.dictAt X.prog I1.kIn
  have hl : (kvs.map (·.1)).length = ps.length := by rw [← pe, List.length_map]
  refine iter_keys T.dict.low (I1.kIn _ _ T.dict.at_) ⟨rfl, rfl, rfl⟩ rfl (pi_one (tk := s1.toks) I1 _ (turn_tab T _) ⟨_, Heap.get?_push_size _ rfl, rfl, ?_⟩ q)
  rw [hs, hl]
  rfl
end
end U

set_option Elab.async false
set_option linter.all false
set_option maxRecDepth 100000
set_option maxHeartbeats 4000000
/-! sets of texts: made of a list, sorted -/
namespace U
open PySem PySem.Spec PyProof.Rows L2
def textOf (e : Int × Value) : Str := match e.2 with
  | .str x _ => x
  | _ => Str.empty
def TextE (w : World) (e : Int × Value) : Prop := ∃ x u, e.2 = Value.str x u ∧ e.1 = hashStr w x
/-- a set of texts at a: its members in some order; its table as a walk wants it -/
def SetS (w : World) (h : Heap) (a : Addr) (l : List Str) : Prop :=
  ∃ ob es ep tb, (h.get? a = some ob ∧ ob.ExactSet ∧ ob.data = .set es ep tb) ∧ ((∀ e ∈ es.toList, TextE w e) ∧ (es.toList.map textOf).Perm l ∧ l.Nodup) ∧
    (es.size < scanBound ∧ tb.fits es.size = true) ∧ Ris tb.place.toList ∧ (w.params.followText "set-order" = true ∨ tb.led = true)
section
variable {P : Program} {w : World} {h h' : Heap} {a : Addr} {l : List Str}
theorem SetS.moved (R : SetS w h a l) (k : ∀ o, h.get? a = some o → h'.get? a = some o) : SetS w h' a l := by
  obtain ⟨ob, es, ep, tb, ⟨h1, h2⟩, r⟩ := R
  exact ⟨ob, es, ep, tb, ⟨k ob h1, h2⟩, r⟩
theorem text_elems {l : List (Int × Value)} (g : ∀ e ∈ l, TextE w e) : ElemsOf (PySem.strKind P w) l := by
  intro e he
  obtain ⟨x, u, h1, h2⟩ := g e he
  refine ⟨⟨x, ?_, h2⟩, ?_⟩ <;> rw [h1]
  · exact strKind_is P w x u
  · rfl
theorem text_is {e : Int × Value} (g : TextE w e) (k : Str) : (PySem.strKind P w).is k e.2 = true ↔ textOf e = k := by
  obtain ⟨x, u, h1, _⟩ := g
  unfold textOf
  rw [h1]
  show Value.isStrOf k (.str x u) = true ↔ x = k
  simp [Value.isStrOf]
end
section
variable {P : Program} {w : World} {A : Around} {E : Value → Shared → Prop} {s : Shared} {a : Addr}
/-- the table is stored, and laid anew where it is too full -/
theorem setS_store {gv : Bool → Sem Unit} (hg : ∀ (b : Bool) (s₁ : Shared) (Q' : Unit → Shared → Prop), Q' () s₁ → wpAny (model P w) A (gv b) Q' E s₁)
    {ob : Obj} {es es1 : Array (Int × Value)} {ep : Nat} {tb tb1 : SetTable} {l : List Str} {wd : Bool} {R : Option Bool → Shared → Prop}
    (o1 : s.heap.get? a = some ob) (o2 : ob.ExactSet) (o3 : ob.data = .set es ep tb)
    (e1 : ∀ e ∈ es1.toList, TextE w e) (e2 : (es1.toList.map textOf).Perm l) (e3 : l.Nodup) (e4 : es1.size < scanBound) (e5 : tb1.fits es1.size = true) (e6 : Ris tb1.place.toList) (e7 : w.params.followText "set-order" = true ∨ tb1.led = true)
    (hR : ∀ h', Heap.SameBut a s.heap h' → SetS w h' a l → R (some true) { s with heap := h' }) :
    wpAny (model P w) A (storeSet a es1 tb1 >>= fun _ => if (!wd && tb1.tooFull) = true then
        gv (relayAll tb1 es1 (SetTable.grown es1.size)).2.2 >>= fun _ => storeSet a (relayAll tb1 es1 (SetTable.grown es1.size)).1 (relayAll tb1 es1 (SetTable.grown es1.size)).2.1 >>= fun _ => pure (some true)
      else pure (some true)) R E s := by
  have st := store_at (es' := es1) (t' := tb1) o1 o3
  have same := Heap.SameBut.update s.heap a (Obj.putSet es1 tb1)
  refine wpAny_bind (wpAny_storeSet_of o1 o3 ?_ (fits_of_scanBound e4))
  split
  · have p1 := relayAll_perm tb1 es1 (SetTable.grown es1.size)
    have p2 := relayAll_fits tb1 es1 (SetTable.grown es1.size)
    have p3 := relayAll_ris tb1 es1 (SetTable.grown es1.size)
    have p4 := relayAll_led tb1 es1 (SetTable.grown es1.size)
    revert p1 p2 p3 p4
    generalize relayAll tb1 es1 (SetTable.grown es1.size) = z
    intro p1 p2 p3 p4
    have sz : z.1.size = es1.size := by
      have := p1.length_eq
      simpa using this
    have bd : z.1.size < scanBound := by omega
    have st2 := store_at (es' := z.1) (t' := z.2.1) st rfl
    refine wpAny_bind (hg _ _ _ (wpAny_bind (wpAny_storeSet_of st rfl (wpAny_pure (hR _ (same.trans (Heap.SameBut.update _ a _)) ?_)) (fits_of_scanBound bd))))
    refine ⟨_, z.1, _, z.2.1, ⟨st2, o2, rfl⟩, ⟨fun e he => e1 e (p1.mem_iff.mp he), (p1.map textOf).trans e2, e3⟩, ⟨bd, p2⟩, p3, ?_⟩
    rcases e7 with h | h
    · exact .inl h
    · exact .inr (p4.trans h)
  · exact wpAny_pure (hR _ same ⟨_, es1, _, tb1, ⟨st, o2, rfl⟩, ⟨e1, e2, e3⟩, ⟨e4, e5⟩, e6, e7⟩)
/-- a text is added -/
theorem setS_add {l : List Str} {k : Str} {u : Tok} {Q : Bool → Shared → Prop} (R : SetS w s.heap a l) (room : l.length + 1 < scanBound)
    (hQ : ∀ (b : Bool) (h' : Heap), Heap.SameBut a s.heap h' → SetS w h' a (if k ∈ l then l else k :: l) → Q b { s with heap := h' }) :
    wpAny (model P w) A (setAddHashed a (.str k u) ((PySem.strKind P w).hash k)) Q E s := by
  obtain ⟨ob, es, ep, tb, ⟨o1, o2, o3⟩, ⟨e1, e2, e3⟩, ⟨e4, e5⟩, e6, e7⟩ := R
  have key := strKind_is P w k u
  have el : ElemsOf (PySem.strKind P w) es.toList := text_elems e1
  unfold setAddHashed setAddHashedIn
  refine wpAny_holding (wpAny_bind (wpAny_setState_of o1 o3 e5 ?_))
  dsimp only
  rw [byScan_of (show (Value.str k u).scannable = true from rfl) e4 el, if_pos rfl]
  unfold setAddByScan
  refine wpAny_bind (wpAny_bind (wpAny_rule (wpAny_bind (wpAny_setScan_of key o1 o3 e5 el ?_))))
  have mem : k ∈ l ↔ ∃ e ∈ es.toList, (PySem.strKind P w).is k e.2 = true := by
    rw [← e2.mem_iff, List.mem_map]
    exact ⟨fun ⟨e, he, q⟩ => ⟨e, he, (text_is (e1 e he) k).mpr q⟩, fun ⟨e, he, q⟩ => ⟨e, he, (text_is (e1 e he) k).mp q⟩⟩
  cases hf : List.findIdx? (fun e => (PySem.strKind P w).is k e.2) es.toList with
  | some j =>
    obtain ⟨hj, pj, _⟩ := List.findIdx?_eq_some_iff_getElem.mp hf
    have hm : k ∈ l := mem.mpr ⟨_, List.getElem_mem hj, pj⟩
    have q := fun b => hQ b s.heap (Heap.SameBut.refl a s.heap)
    rw [if_pos hm] at q
    exact wpAny_pure (wpAny_pure (q _ ⟨ob, es, ep, tb, ⟨o1, o2, o3⟩, ⟨e1, e2, e3⟩, ⟨e4, e5⟩, e6, e7⟩))
  | none =>
    have hm : k ∉ l := fun z => by
      obtain ⟨e, he, q⟩ := mem.mp z
      have := List.findIdx?_eq_none_iff.mp hf e he
      rw [q] at this
      cases this
    rw [if_neg hm] at hQ
    dsimp only
    have p1 := layNew_perm tb es ((PySem.strKind P w).hash k) (.str k u)
    have p2 := layNew_fits tb es ((PySem.strKind P w).hash k) (.str k u)
    have p3 := layNew_ris tb es ((PySem.strKind P w).hash k) (.str k u) e6
    have p4 := layNew_led tb es ((PySem.strKind P w).hash k) (.str k u)
    revert p1 p2 p3 p4
    generalize layNew tb es ((PySem.strKind P w).hash k) (.str k u) = z
    obtain ⟨es1, tb1, wd, gave⟩ := z
    intro p1 p2 p3 p4
    dsimp only at p1 p2 p3 p4 ⊢
    have pc : es1.toList.Perm (((PySem.strKind P w).hash k, Value.str k u) :: es.toList) := by
      rw [Array.toList_push] at p1
      exact p1.trans (List.perm_append_singleton _ _)
    have sz : es1.size = l.length + 1 := by
      have h1 := pc.length_eq
      have h2 := e2.length_eq
      simp only [Array.length_toList, List.length_cons, List.length_map] at h1 h2
      omega
    have f1 : ∀ e ∈ es1.toList, TextE w e := by
      intro e he
      rcases List.mem_cons.mp (pc.mem_iff.mp he) with z | z
      · rw [z]
        exact ⟨k, u, rfl, rfl⟩
      · exact e1 e z
    have f2 : (es1.toList.map textOf).Perm (k :: l) := (pc.map textOf).trans (List.Perm.cons k e2)
    have f3 : (k :: l).Nodup := List.nodup_cons.mpr ⟨hm, e3⟩
    have f4 : es1.size < scanBound := by omega
    have f7 : w.params.followText "set-order" = true ∨ tb1.led = true := by
      rcases e7 with h | h
      · exact .inl h
      · exact .inr (p4.trans h)
    have gw : ∀ (b : Bool) (s₁ : Shared) (Q' : Unit → Shared → Prop), Q' () s₁ → wpAny (model P w) A (match b with | true => rule "set.scan.the-table-gave-way" | false => pure ()) Q' E s₁ := by
      intro b s₁ Q' q
      cases b with
      | true => exact wpAny_rule q
      | false => exact wpAny_pure q
    refine wpAny_bind (gw _ _ _ ?_)
    have go : ∀ h', Heap.SameBut a s.heap h' → SetS w h' a (k :: l) → Q true { s with heap := h' } := fun h' sb r => hQ true h' sb r
    split
    · refine wpAny_bind ?_
      rw [hashByValue_scannable 8 (show (Value.str k u).scannable = true from rfl)]
      refine wpAny_pure ?_
      generalize plainKind (Value.str k u) = pk
      cases pk with
      | true =>
        simp only [↓reduceIte]
        refine setS_store ?_ o1 o2 o3 f1 f2 f3 f4 p2 p3 f7 fun h' sb r => wpAny_pure (go h' sb r)
        intro b s₁ Q' q
        cases b <;> first | exact wpAny_rule q | exact wpAny_pure q
      | false =>
        simp only [Bool.false_eq_true, ↓reduceIte]
        refine setS_store (tb1 := { tb1 with plain := false }) ?_ o1 o2 o3 f1 f2 f3 f4 (SetTable.fits_plain_off p2) p3 f7 fun h' sb r => wpAny_pure (go h' sb r)
        intro b s₁ Q' q
        cases b <;> first | exact wpAny_rule q | exact wpAny_pure q
    · refine wpAny_bind (wpAny_pure ?_)
      simp only [↓reduceIte]
      refine setS_store ?_ o1 o2 o3 f1 f2 f3 f4 p2 p3 f7 fun h' sb r => wpAny_pure (go h' sb r)
      intro b s₁ Q' q
      cases b <;> first | exact wpAny_rule q | exact wpAny_pure q
/-- the first i of the texts, each once, in some order -/
def Same1 (l xs : List Str) : Prop := l.Nodup ∧ ∀ x, x ∈ l ↔ x ∈ xs
theorem setS_loop {I : Addr} {fp wr : List Addr} {G : Array GenState → Array GenState → Prop} {n : Nat} {Pv : Nat → Value → Prop} {St : Nat → Shared → Prop} {R : Result → Shared → Prop}
    (W : WalksS P w A.in1 I fp wr G n Pv St) (a : Addr) (ha : a ∉ fp) (xs : List Str) (hn : xs.length = n) (hb : xs.length + 1 < scanBound) (hv : ∀ i v, Pv i v → ∃ x u, xs[i]? = some x ∧ v = Value.str x u) :
    ∀ (m i : Nat) (s : Shared) (l : List Str), i + m = n → St i s → SetS w s.heap a l → Same1 l (xs.take i) → l.length ≤ i →
      (∀ s' l', Moved (a :: wr) G s s' → SetS w s'.heap a l' → Same1 l' xs → l'.length ≤ n → R (.ok (.ret .none)) s') →
      codeAny (model P w) A (.builtin "set.update.loop" ⟨[.ref a, .ref I], []⟩) R s := by
  have hw : a ∉ wr := fun h => ha (W.sub _ h)
  have more : ∀ b ∈ wr, b ∈ a :: wr := fun b hb => List.mem_cons_of_mem _ hb
  intro m
  induction m with
  | zero =>
    intro i s l hi st R1 R2 R3 fin
    have e : i = n := by omega
    subst e
    refine codeAny_builtin PyProof.Rows.F.entry_set_update_loop ?_
    rw [Around.under_plainId PyProof.Rows.F.plain_set_update_loop _]
    refine (show wpAny _ A.in1 (pyNext (.ref I) >>= _) _ _ s from wpAny_bind (W.done s _ _ st fun s' mv => wpAny_pure (fin s' l (mv.mono more) (R1.moved fun o e => mv.heap a o hw e) ?_ R3)))
    rw [List.take_of_length_le (by omega)] at R2
    exact R2
  | succ m ih =>
    intro i s l hi st R1 R2 R3 fin
    refine codeAny_builtin PyProof.Rows.F.entry_set_update_loop ?_
    rw [Around.under_plainId PyProof.Rows.F.plain_set_update_loop _]
    refine (show wpAny _ A.in1 (pyNext (.ref I) >>= _) _ _ s from wpAny_bind (W.item i s _ _ (by omega) st fun v s' pv st' mv => ?_))
    obtain ⟨x, u, hx, rfl⟩ := hv i v pv
    refine (show wpAny _ A.in1 (holding [Value.str x u] (setAdd a (.str x u)) >>= _) _ _ s' from wpAny_bind (wpAny_holding ?_))
    unfold setAdd
    refine wpAny_holding (wpAny_bind ((PySem.strKind P w).pyHash (k := x) (strKind_is _ _ _ _) ?_))
    refine setS_add (s := { s' with toks := s'.toks + 1 }) (R1.moved fun o e => mv.heap a o hw e) (by omega) fun b h' sb R4 => ?_
    have R5 : Same1 (if x ∈ l then l else x :: l) (xs.take (i + 1)) := by
      refine ⟨?_, fun y => ?_⟩
      · split
        · exact R2.1
        · rename_i hx
          exact List.nodup_cons.mpr ⟨hx, R2.1⟩
      · rw [List.take_add_one, hx, List.mem_append, ← R2.2 y]
        split
        · rename_i hx
          refine ⟨.inl, fun z => z.elim id fun z => ?_⟩
          have z := (List.mem_singleton.mp z : y = x)
          rw [z]
          exact hx
        · rw [List.mem_cons]
          exact ⟨fun z => z.elim (fun z => .inr (z ▸ List.mem_cons_self)) .inl, fun z => z.elim .inr fun z => .inl (List.mem_singleton.mp z)⟩
    have R6 : (if x ∈ l then l else x :: l).length ≤ i + 1 := by
      split
      · omega
      · rw [List.length_cons]
        omega
    refine wpAny_pure ⟨plainId_quiet PyProof.Rows.F.plain_set_update_loop _, ih (i + 1) _ _ (by omega) (W.frame _ s' _ _ st' (Nat.le_succ _) fun b hb o e => ?_) R4 R5 R6 fun s2 l2 mv2 r1 r2 r3 => ?_⟩
    · exact (sb.2 b fun z => ha (z ▸ hb)).trans e
    · exact fin s2 l2 (Moved.trans W.gtrans ((mv.mono more).then_heap (Nat.le_succ _) fun b o hb e => (sb.2 b fun z => hb (z ▸ List.mem_cons_self)).trans e) mv2) r1 r2 r3
theorem setS_fresh {h : Heap} {a : Addr} (e : h.get? a = some { cls := .type "set", dict := none, data := .set #[] 0 (.fresh 0 0 (!w.params.followText "set-order")) }) : SetS w h a [] := by
  refine ⟨_, #[], 0, _, ⟨e, ⟨rfl, rfl, rfl⟩, rfl⟩, ⟨fun e he => by simp at he, .refl _, .nil⟩, ⟨by decide, rfl⟩, List.Pairwise.nil, ?_⟩
  show _ ∨ (!w.params.followText "set-order") = true
  cases w.params.followText "set-order" <;> simp
abbrev set0 (w : World) : Obj := { cls := .type "set", dict := none, data := .set #[] 0 (.fresh 0 0 (!w.params.followText "set-order")) }
/-- set(xs), xs a list of texts -/
theorem call_set_texts {q : Addr} {items : Array Value} {xs : List Str} {Q : Value → Shared → Prop} (hh : A.handled = none) (hq : s.heap.IsList q items) (hx : StrsAre items.toList xs) (hb : xs.length + 1 < scanBound)
    (fin : ∀ (h' : Heap) (tk : Nat) (l : List Str), SetS w h' s.heap.objs.size l → Same1 l xs → l.length ≤ xs.length → (∀ b o, s.heap.get? b = some o → h'.get? b = some o) → Q (.ref s.heap.objs.size) { s with heap := h', toks := tk }) :
    wpAny (model P w) A (call (.type "set") [.ref q]) Q E s := by
  have hsz : xs.length = items.size := by rw [← StrsAre.len_eq hx, Array.length_toList]
  obtain ⟨cc, tl, m1⟩ := PySem.F.called_set.mro
  have m2 := PySem.F.called_set.made
  have m3 := PySem.F.called_set.sub
  refine wpAny_call (codeAny_of_tree (show wpAny _ _ (callAny (.type "set") _) _ _ _ from wpAny_pure ⟨Code.quiet_builtin _ (by decide +kernel), codeAny_builtin PySem.F.entry_type_call ?_⟩))
  rw [Around.under_plain (weight_type_call_type "set" [.ref q] []) rfl]
  have m4 := PySem.F.called_set.notType
  have m5 := PySem.F.called_set.canCreate
  have m6 := PySem.F.typeCall_set_1 (.ref q)
  repeat (any_goals (first | assumption | wp_step))
  refine codeAny_mono (code_set_led1 (.ref q) (E := E) (Q₁ := fun ob s1 => ob = .ref s.heap.objs.size ∧ s1 = { s with heap := s.heap.push (set0 w) }) ⟨rfl, rfl⟩) fun r s1 hr => ?_
  match r, hr with
  | .error e, hr => exact hr
  | .ok (.ret ob), hr =>
    obtain ⟨rfl, rfl⟩ := hr
    have at0 : (s.heap.push (set0 w)).get? s.heap.objs.size = some (set0 w) := Heap.get?_push_size _ rfl
    have ty0 : Shared.TypeIs { s with heap := s.heap.push (set0 w) } (.ref s.heap.objs.size) "set" := ⟨_, at0, rfl⟩
    have n1 := PySem.F.called_set.init.lookup
    have n2 := PySem.F.called_set.init.bind (.ref s.heap.objs.size)
    repeat (any_goals (first | assumption | wp_step))
    refine codeAny_mono (codeAny_call_builtin (R := wants (fun r s2 => r = .none ∧ ∃ h' tk l, s2 = { s with heap := h', toks := tk } ∧ (SetS w h' s.heap.objs.size l ∧ Same1 l xs ∧ l.length ≤ xs.length) ∧ (∀ b o, s.heap.get? b = some o → h'.get? b = some o)) E)
      PySem.F.called_set.init.plain PySem.F.entry_set_init (check_set_init_1 ty0 ?_)) fun r2 s2 hr2 => ?_
    · obtain ⟨⟨c1, c2, c3, c4⟩, g1, g2, nn, g3⟩ := hq
      simp only at g2 g3
      subst g2
      subst g3
      have at1 := Heap.get?_push_of_some (set0 w) g1
      have li : (s.heap.push (set0 w)).IsList q items := ⟨_, at1, rfl, nn, rfl⟩
      have u1 := PySem.F.sub_list_set
      have u2 := PySem.F.sub_list_frozenset
      have u3 : (Value.type "list" == Value.type "dict") = false := by decide
      unfold Builtin.«set.__init__» noKeywords Builtin.Frozenset.updateFrom
      generalize hPI : pyIter = PI
      wp_walk
      subst hPI
      refine wpAny_pyIter_list li (wpAny_bind (wpAny_runValue ?_))
      have lt : q < s.heap.objs.size := Heap.lt_size g1
      have hh3 : A.in1.in1.in1.handled = none := by simp [hh]
      have z1 : (s.heap.push (set0 w)).objs.size = s.heap.objs.size + 1 := Heap.size_push ..
      have ne1 : q ≠ (s.heap.push (set0 w)).objs.size := by
        rw [z1]
        exact Nat.ne_of_lt (Nat.lt_succ_of_lt lt)
      have ne2 : s.heap.objs.size ∉ [(s.heap.push (set0 w)).objs.size, q] := by
        rw [z1]
        simp only [List.mem_cons, List.mem_singleton, List.not_mem_nil, or_false, not_or]
        exact ⟨Nat.ne_of_lt (Nat.lt_succ_self _), Nat.ne_of_gt lt⟩
      have val : ∀ (i : Nat) (v : Value), items[i]? = some v → ∃ x u, xs[i]? = some x ∧ v = Value.str x u := fun i v hv => by
        have hi : i < xs.length := by
          have := (Array.getElem?_eq_some_iff.mp hv).1
          omega
        obtain ⟨t, e⟩ := SS.strs_at hx i v (by rw [Array.getElem?_toList]; exact hv)
        exact ⟨xs[i], t, List.getElem?_eq_getElem hi, by rw [e, List.getD_eq_getElem?_getD, List.getElem?_eq_getElem hi]; rfl⟩
      refine setS_loop ((Walks.list hh3 _ q ne1 items).toS) s.heap.objs.size ne2 xs hsz hb val (items.size - 0) 0 _ [] (by omega) ⟨⟨_, Heap.get?_push_size _ rfl, rfl, rfl⟩, li.push _⟩ (setS_fresh (Heap.get?_push_of_some _ at0)) ⟨.nil, fun x => by simp⟩ (Nat.le_refl 0) ?_
      intro s3 l mv r1 r2 r3
      obtain ⟨h3, g3, d3, t3, o3⟩ := s3
      obtain rfl : g3 = s.gens := mv.gens
      obtain rfl : d3 = s.drawn := mv.drawn
      obtain rfl : o3 = s.os := mv.os
      refine (show wpAny _ _ _ _ _ _ from wpAny_pure (show wpAny _ _ (ret Value.none) _ _ _ from wpAny_pure ⟨rfl, h3, t3, l, rfl, ⟨r1, r2, by omega⟩, fun b o e => ?_⟩))
      have lb : b < s.heap.objs.size := Heap.lt_size e
      refine mv.heap b o ?_ (Heap.get?_push_of_some _ (Heap.get?_push_of_some _ e))
      rw [z1]
      simp only [List.mem_cons, List.mem_singleton, List.not_mem_nil, or_false, not_or]
      exact ⟨Nat.ne_of_lt lb, Nat.ne_of_lt (Nat.lt_succ_of_lt lb)⟩
    · match r2, hr2 with
      | .error e, hr2 => exact hr2
      | .ok (.ret r), hr2 =>
        obtain ⟨rfl, h3, t3, l, rfl, ⟨r1, r2, r3⟩, kp⟩ := hr2
        repeat (any_goals (first | assumption | wp_step))
        exact fin _ _ l r1 r2 r3 kp
      | .ok .next, hr2 => exact hr2.elim
      | .ok .brk, hr2 => exact hr2.elim
      | .ok .cont, hr2 => exact hr2.elim
  | .ok .next, hr => exact hr.elim
  | .ok .brk, hr => exact hr.elim
  | .ok .cont, hr => exact hr.elim
end
end U

set_option Elab.async false
set_option linter.all false
set_option maxRecDepth 100000
set_option maxHeartbeats 4000000
/-! sets of texts, sorted; both as rules -/
namespace U
open PySem PySem.Spec PyProof.Rows L2
theorem texts_of {w : World} : ∀ (vs : List Value), (∀ v ∈ vs, ∃ x u, v = Value.str x u) → StrsAre vs (vs.map fun v => textOf (0, v))
  | [], _ => .nil
  | v :: r, h => by
    obtain ⟨x, u, rfl⟩ := h v List.mem_cons_self
    exact .cons x u (texts_of (w := w) r fun y hy => h y (List.mem_cons_of_mem _ hy))
section
variable {P : Program} {w : World} {A : Around} {E : Value → Shared → Prop} {s : Shared} {a : Addr}
theorem sorted_setS {l : List Str} {Q : Value → Shared → Prop} (R : SetS w s.heap a l) (hh : A.handled = none) (h64 : l.length < 64)
    (fin : ∀ s' p (out : Array Value) (c : Nat) (ys : List Str), (∀ b o, s.heap.get? b = some o → s'.heap.get? b = some o) → s'.gens = s.gens → s'.os = s.os → s.heap.objs.size ≤ p →
      s'.heap.get? p = some (seqObj "list" out c) → StrsAre out.toList ys → ys.Perm l → sortedS ys = true → Q (.ref p) s') :
    wpAny (model P w) A (call (.builtin "sorted") [.ref a]) Q E s := by
  obtain ⟨ob, es, ep, tb, ⟨o1, o2, o3⟩, ⟨e1, e2, e3⟩, ⟨e4, e5⟩, e6, e7⟩ := R
  refine Calls.call_function_entry kind_sorted plain_sorted entry_sorted (args_sorted1 _) ?_
  unfold Builtin.«sorted»
  refine wpAny_bind (m := checkCount "sorted" 1 1 _) (wpAny_pure (wpAny_bind (collect_set (A := A.in1) hh ⟨ob, o1, o2.1, o3⟩ e5 e4 e6 e7 fun s1 vs k1 z1 g1 p1 pm => ?_)))
  have len : vs.length = l.length := by
    have q1 := pm.length_eq
    have q2 := e2.length_eq
    simp only [List.length_map] at q1 q2
    omega
  have tx : StrsAre vs (vs.map fun v => textOf (0, v)) := texts_of (w := w) vs fun v hv => by
    obtain ⟨e, he, q⟩ := List.mem_map.mp (pm.mem_iff.mp hv)
    obtain ⟨x, u, h1, _⟩ := e1 e he
    exact ⟨x, u, q ▸ h1⟩
  have pl : (vs.map fun v => textOf (0, v)).Perm l := by
    have q := pm.map fun v => textOf (0, v)
    rw [List.map_map] at q
    exact q.trans e2
  refine wpAny_bind (wpAny_newList ?_ (by rw [len, sizeLine_eq]; omega))
  have at1 : (s1.heap.push (seqObj "list" vs.toArray 0)).get? s1.heap.objs.size = some (seqObj "list" vs.toArray 0) := Heap.get?_push_size _ rfl
  refine wpAny_bind (wpAny_holding (wpAny_call_entry slot_list_sort ⟨_, at1, rfl⟩ entry_list_sort
    (list_sort_treeK strKind_oneLt at1 tx.keysOf (fun v₁ v₂ rest e => keyKind_strs (by rw [← e]; exact tx)) (by rw [len]; exact h64) fun st' hp hs => ?_) (args_list_sort _)))
  obtain ⟨ys, y1, y2, y3⟩ := sorted_out_str tx hp hs
  obtain ⟨c, hc⟩ := sortedHeap_at (vs := vs) (out := (arrOf st').map (·.2)) at1
  refine ⟨_, rfl, wpAny_pure ⟨_, rfl, fin _ s1.heap.objs.size _ c ys (fun b u e => ?_) g1 p1 z1 hc y1 (y2.trans pl) y3⟩⟩
  have old := k1 b u e
  have lt := Heap.lt_size old
  exact (sortedHeap_old (Nat.ne_of_lt lt) (by rw [size_push']; exact Nat.lt_succ_of_lt lt)).trans (Heap.get?_push_of_some _ old)
end
/-! ### as rules -/
/-- the set of these texts at a -/
def SetSO (w : World) (a : Addr) (l : List Str) : HO := .ext fun h => SetS w h a l
theorem setSO_ok {w : World} {P : Program} {H : Hp} {h : Heap} {a : Addr} {l : List Str} (R : SetS w h a l) : ObjOk P w H h a (SetSO w a l) := by
  refine ⟨R, ?_, fun h1 h2 p k => p.moved k⟩
  obtain ⟨ob, _, _, _, ⟨e, _⟩, _⟩ := R
  exact ⟨ob, e⟩
section
variable {X : Cx}
/-- set(xs), xs a list of texts -/
def rSetOf (K : PySem.W.Frag) (w : World) : List V → Hp → VK → Prop := fun vs H Q => ∃ (q : Addr) (xs : List Str), vs = [V.ref q] ∧ SqL K H q (xs.map V.str) ∧ xs.length + 1 < scanBound ∧ ∀ p l, Same1 l xs → l.length ≤ xs.length → H p = none → Q (.ref p) (upd H p (SetSO w p l))
theorem cr_setOf (hc : X.calm = true) : CallR X (.type "set") (rSetOf X.K X.w) := by
  intro pins s σ H vs us Q I r h
  obtain ⟨q, xs, rfl, hq, hb, go⟩ := h
  obtain ⟨its, rv, li, _⟩ := I.list hq
  rw [Vals.ref1 r]
  refine call_set_texts (I.ok.hd hc) li.isList (by simpa using strsAre_of rv) hb fun h' tk l r1 r2 r3 kp => ?_
  have fr : H s.heap.objs.size = none := I.hok.fresh (Nat.le_refl _)
  exact ⟨.ref _, upd H s.heap.objs.size (SetSO X.w s.heap.objs.size l), I.laid (t' := tk) kp (Nat.le_refl _) (setSO_ok r1), rfl, go _ l r2 r3 fr⟩
/-- sorted(found), a set of fewer than 64 texts -/
def rSortedOf (w : World) : List V → Hp → VK → Prop := fun vs H Q => ∃ (a : Addr) (l : List Str), vs = [V.ref a] ∧ H a = some (SetSO w a l) ∧ l.length < 64 ∧ ∀ (ys : List Str) (p : Addr), ys.Perm l → sortedS ys = true → H p = none → Q (.ref p) (upd H p (.lst (ys.map V.str)))
theorem cr_sortedOf (hc : X.calm = true) : CallR X (.builtin "sorted") (rSortedOf X.w) := by
  intro pins s σ H vs us Q I r h
  obtain ⟨a, l, rfl, ha, h64, go⟩ := h
  rw [Vals.ref1 r]
  refine sorted_setS (I.hok a _ ha).1 (I.ok.hd hc) h64 fun s' p out c ys k g o hp at' st pm so => ?_
  have fr : H p = none := I.hok.fresh hp
  have sz : (ys.map V.str).length ≤ sizeLine := by
    rw [List.length_map, pm.length_eq, sizeLine_eq]
    omega
  obtain ⟨h1, g1, d1, t1, o1⟩ := s'
  obtain rfl : o1 = s.os := o
  refine ⟨.ref p, upd H p (.lst (ys.map V.str)), ?_, rfl, go ys p pm so fr⟩
  exact I.call (ch := []) (Un.laid k hp fr) (I.hok.laid k hp ⟨sz, out.toList, c, vals_of_strs st, at'⟩) (by rw [show g1 = s.gens from g]; exact I.bare) (fun _ z => nomatch z)
end
end U

set_option Elab.async false
set_option linter.all false
set_option maxRecDepth 100000
set_option maxHeartbeats 4000000
namespace U
open PySem PySem.Spec PyProof.Rows L2
open Sem (wp)
open Builtin
theorem ext_tup (l b : Addr) (items items2 : Array Value) (n n2 : Nat) (dd : Option Addr) (sl : Array (Option Value)) (h1 : ¬(!items.isEmpty && Builtin.List.listTooLong (items.size + items2.size)) = true) (h2 : items.size ≤ sizeLine) (h3 : items.size + items2.size ≤ sizeLine) :
    Meets (Builtin.«list.extend» ⟨[.ref l, .ref b], []⟩) (fun _ R s => s.heap.get? l = some { cls := .type "list", dict := none, data := .seq items n, slots := #[] } ∧
      s.heap.get? b = some { cls := .type "tuple", dict := dd, data := .seq items2 n2, slots := sl } ∧ R (.ok (.ret Value.none)) { s with heap := s.heap.update l (Obj.mapSeq fun x => x ++ items2), toks := s.toks }) := by
  refine .of_wp fun prog w A R s h => ?_
  have sz : (items ++ items2).size ≤ sizeLine + 1 := by
    rw [Array.size_append]
    omega
  obtain ⟨hp, gg, dr, tk, os⟩ := s
  obtain ⟨e1, e2, r⟩ := h
  have g1 := PySem.AutoSeq1.idx_int
  have g2 := PySem.AutoSeq1.sub_tuple_tuple
  have g3 := PySem.AutoSeq1.sub_list_list
  have g4 := PySem.AutoSeq1.sub_tuple_list
  have g5 := PySem.AutoSeq1.sub_list_tuple
  wp_walk using (wpAny_updateSeq e1 rfl (hz := h2) (_hz' := sz)), PySem.AutoSeq1.wpAny_loadPart' e2
  exact ⟨_, rfl, r⟩
section
variable {X : Cx}
def rExtendT (K : PySem.W.Frag) : V → List V → Hp → VK → Prop := fun x vs H Q => ∃ l b xs zs, x = .ref l ∧ vs = [.ref b] ∧ H l = some (.lst xs) ∧ SqT K H b zs ∧ xs.length + zs.length ≤ sizeLine ∧ Q .non (upd H l (.lst (xs ++ zs)))
/-- xs.extend(t), t a tuple -/
theorem mt_extendT : MtR X "list.extend" (rExtendT X.K) := by
  intro pins s σ H x vs v us Q I rx rv h
  obtain ⟨l, b, xs, zs, rfl, rfl, hl, hb, hz, q⟩ := h
  cases rx
  obtain ⟨u, rfl, ru⟩ := rv.one
  cases ru
  obtain ⟨z1, its, n, r, len, e⟩ := I.lstM hl
  obtain ⟨its2, r2, ⟨⟨c2, dd, d2, sl⟩, g2, k2, n2, k3⟩, _⟩ := I.tuple hb
  simp only at k2 k3
  subst k2
  subst k3
  have len2 := r2.length
  have sz : its.toArray.size + its2.toArray.size ≤ sizeLine := by
    rw [List.size_toArray, List.size_toArray]
    omega
  refine call_meets PySem.F.slot_list_extend ⟨_, e, rfl⟩ PySem.F.entry_list_extend (PySem.F.args_list_extend_2 _ _) (ext_tup l b its.toArray its2.toArray n n2 dd sl ?_ (by omega) sz) ⟨e, g2, ?_⟩
  · rw [notLongL sz, Bool.and_false]
    exact Bool.false_ne_true
  · refine ⟨.non, _, I.lset (its' := its ++ its2) hl e (by simp) (r.append r2) ?_, rfl, q⟩
    rw [List.length_append]
    omega
/-- xs[-1], to be put anew -/
def rLast (K : PySem.W.Frag) : V → V → Hp → VK → Prop := fun x y H Q => ∃ p xs v, x = .ref p ∧ y = .int (-1) ∧ SqL K H p (xs ++ [v]) ∧ Q v H
theorem get_last : PGet X (rLast X.K) := by
  intro pins s σ H x y ov iv Q I rx ry h
  obtain ⟨p, xs, v, rfl, rfl, hp, q⟩ := h
  cases rx
  obtain ⟨t, rfl⟩ := ry
  obtain ⟨its, r, li, hz⟩ := I.list hp
  have len := r.length
  rw [List.length_append, List.length_singleton] at len
  obtain ⟨u, hu, ru⟩ := r.get (i := xs.length) (x := v) (by simp)
  have e : (-1 + (its.toArray.size : Int)).toNat = xs.length := by
    rw [List.size_toArray]
    omega
  exact wpAny_getItem_list_neg li.isList (by decide) (by rw [List.size_toArray]; omega) (by decide) (by rw [e]; simpa using hu) ⟨v, H, I, ru, q⟩
end
/-- a list's last place -/
theorem atI_end {α : Type} (xs : List α) (v : α) : atI (xs ++ [v]) (-1) = some v := by
  have h : ixN (xs ++ [v]).length (-1) = some xs.length := by
    unfold ixN
    rw [if_neg (by decide), if_pos (by simp; omega)]
    simp
    omega
  unfold atI
  rw [h]
  show (xs ++ [v])[xs.length]? = some v
  simp
theorem ixN_end {α : Type} (xs : List α) (v : α) : ixN (xs ++ [v]).length (-1) = some xs.length := by
  unfold ixN
  rw [if_neg (by decide), if_pos (by simp; omega)]
  simp
  omega
theorem set_end {α : Type} (xs : List α) (v y : α) : (xs ++ [v]).set xs.length y = xs ++ [y] := by simp
theorem Paired.app {α β : Type} {F : α → β → Prop} : ∀ {a : List α} {b : List β} {c : List α} {d : List β}, Paired F a b → Paired F c d → Paired F (a ++ c) (b ++ d)
  | _, _, _, _, .nil, h => h
  | _, _, _, _, .cons r t, h => .cons r (Paired.app t h)
theorem Paired.at_ {α β : Type} {F : α → β → Prop} : ∀ {a : List α} {b : List β} {i : Nat} {y : β}, Paired F a b → b[i]? = some y → ∃ x, a[i]? = some x ∧ F x y
  | _, _, i, _, .nil, h => by simp at h
  | _, _, 0, _, .cons (a := x) r t, h => by
    simp at h
    subst h
    exact ⟨x, rfl, r⟩
  | _, _, i + 1, _, .cons r t, h => by
    obtain ⟨x, h1, h2⟩ := Paired.at_ (i := i) t (by simpa using h)
    exact ⟨x, by simpa using h1, h2⟩
/-- all but what stands at p is as it was -/
def But (p : Addr) (H H' : Hp) : Prop := ∀ b o, H b = some o → b ≠ p → H' b = some o
theorem But.refl (p : Addr) (H : Hp) : But p H H := fun _ _ e _ => e
theorem But.trans {p : Addr} {H H1 H2 : Hp} (a : But p H H1) (b : But p H1 H2) : But p H H2 := fun c o e n => b c o (a c o e n) n
theorem But.of_same {p : Addr} {H H' : Hp} (s : Same H H') : But p H H' := fun b o e _ => s b o e
theorem But.upd {p : Addr} {H : Hp} {o : HO} : But p H (upd H p o) := fun b u e n => by
  rw [upd_ne n]
  exact e
theorem But.same {p : Addr} {H0 H H' : Hp} (h : But p H H') (s : Same H0 H) (n : H0 p = none) : Same H0 H' := fun b o e => h b o (s b o e) (ne_of_none e n)
end U

set_option Elab.async false
set_option linter.all false
set_option maxRecDepth 100000
set_option maxHeartbeats 4000000
namespace K
open PySem PySem.Spec PyProof.Rows L2 U
def topS (i : Nat) : Stmt := PySem.Challenge.pw_unwritparts_k22_houses_written.main.body.getD i (.Pass ⟨0, 0, 0, 0⟩)
abbrev s_own_copy : Stmt := topS 2
abbrev nm_own_copy : List Str := ["thing", "inner"]
theorem sc_own_copy : FnScope nm_own_copy ["thing"] (defScope s_own_copy) := ⟨rfl, rfl, rfl, by decide +kernel, rfl, by decide +kernel, by decide +kernel⟩
abbrev s_NoTerm___init__ : Stmt := inClass (topS 3) 0
abbrev nm_NoTerm___init__ : List Str := ["self", "spot"]
theorem sc_NoTerm___init__ : FnScope nm_NoTerm___init__ ["self", "spot"] (defScope s_NoTerm___init__) := ⟨rfl, rfl, rfl, by decide +kernel, rfl, by decide +kernel, by decide +kernel⟩
abbrev s_TooMuch___init__ : Stmt := inClass (topS 4) 0
abbrev nm_TooMuch___init__ : List Str := ["self", "what"]
theorem sc_TooMuch___init__ : FnScope nm_TooMuch___init__ ["self", "what"] (defScope s_TooMuch___init__) := ⟨rfl, rfl, rfl, by decide +kernel, rfl, by decide +kernel, by decide +kernel⟩
abbrev s_NoName___init__ : Stmt := inClass (topS 5) 0
abbrev nm_NoName___init__ : List Str := ["self", "name"]
theorem sc_NoName___init__ : FnScope nm_NoName___init__ ["self", "name"] (defScope s_NoName___init__) := ⟨rfl, rfl, rfl, by decide +kernel, rfl, by decide +kernel, by decide +kernel⟩
abbrev s_Loose___init__ : Stmt := inClass (topS 6) 0
abbrev nm_Loose___init__ : List Str := ["self", "names"]
theorem sc_Loose___init__ : FnScope nm_Loose___init__ ["self", "names"] (defScope s_Loose___init__) := ⟨rfl, rfl, rfl, by decide +kernel, rfl, by decide +kernel, by decide +kernel⟩
abbrev s_Written___init__ : Stmt := inClass (topS 7) 0
abbrev nm_Written___init__ : List Str := ["self", "name"]
theorem sc_Written___init__ : FnScope nm_Written___init__ ["self", "name"] (defScope s_Written___init__) := ⟨rfl, rfl, rfl, by decide +kernel, rfl, by decide +kernel, by decide +kernel⟩
abbrev s_NoPart___init__ : Stmt := inClass (topS 8) 0
abbrev nm_NoPart___init__ : List Str := ["self", "name"]
theorem sc_NoPart___init__ : FnScope nm_NoPart___init__ ["self", "name"] (defScope s_NoPart___init__) := ⟨rfl, rfl, rfl, by decide +kernel, rfl, by decide +kernel, by decide +kernel⟩
abbrev s_Full___init__ : Stmt := inClass (topS 9) 0
abbrev nm_Full___init__ : List Str := ["self", "most"]
theorem sc_Full___init__ : FnScope nm_Full___init__ ["self", "most"] (defScope s_Full___init__) := ⟨rfl, rfl, rfl, by decide +kernel, rfl, by decide +kernel, by decide +kernel⟩
abbrev s_code_of : Stmt := topS 21
abbrev nm_code_of : List Str := ["tree"]
theorem sc_code_of : FnScope nm_code_of ["tree"] (defScope s_code_of) := ⟨rfl, rfl, rfl, by decide +kernel, rfl, by decide +kernel, by decide +kernel⟩
abbrev s_last_code : Stmt := topS 22
abbrev nm_last_code : List Str := []
theorem sc_last_code : FnScope nm_last_code [] (defScope s_last_code) := ⟨rfl, rfl, rfl, by decide +kernel, rfl, by decide +kernel, by decide +kernel⟩
abbrev s_coded : Stmt := topS 23
abbrev nm_coded : List Str := ["tree", "begun", "then", "kind", "within", "behind"]
theorem sc_coded : FnScope nm_coded ["tree", "begun", "then"] (defScope s_coded) := ⟨rfl, rfl, rfl, by decide +kernel, rfl, by decide +kernel, by decide +kernel⟩
abbrev s_Tree___init__ : Stmt := inClass (topS 37) 0
abbrev nm_Tree___init__ : List Str := ["self", "text", "kind", "small", "within"]
theorem sc_Tree___init__ : FnScope nm_Tree___init__ ["self", "text", "kind", "small", "within"] (defScope s_Tree___init__) := ⟨rfl, rfl, rfl, by decide +kernel, rfl, by decide +kernel, by decide +kernel⟩
abbrev s_free_in : Stmt := topS 38
abbrev nm_free_in : List Str := ["tree", "found", "inner", "small"]
theorem sc_free_in : FnScope nm_free_in ["tree"] (defScope s_free_in) := ⟨rfl, rfl, rfl, by decide +kernel, rfl, by decide +kernel, by decide +kernel⟩
abbrev s_all_trees : Stmt := topS 39
abbrev nm_all_trees : List Str := ["tree", "found", "at", "within"]
theorem sc_all_trees : FnScope nm_all_trees ["tree"] (defScope s_all_trees) := ⟨rfl, rfl, rfl, by decide +kernel, rfl, by decide +kernel, by decide +kernel⟩
abbrev s_run_end : Stmt := topS 40
abbrev nm_run_end : List Str := ["text", "at", "signs", "most", "end"]
theorem sc_run_end : FnScope nm_run_end ["text", "at", "signs", "most"] (defScope s_run_end) := ⟨rfl, rfl, rfl, by decide +kernel, rfl, by decide +kernel, by decide +kernel⟩
abbrev s_is_run : Stmt := topS 41
abbrev nm_is_run : List Str := ["text", "signs", "most"]
theorem sc_is_run : FnScope nm_is_run ["text", "signs", "most"] (defScope s_is_run) := ⟨rfl, rfl, rfl, by decide +kernel, rfl, by decide +kernel, by decide +kernel⟩
abbrev s_behind : Stmt := topS 42
abbrev nm_behind : List Str := ["text", "at", "sign"]
theorem sc_behind : FnScope nm_behind ["text", "at", "sign"] (defScope s_behind) := ⟨rfl, rfl, rfl, by decide +kernel, rfl, by decide +kernel, by decide +kernel⟩
abbrev s_number_end : Stmt := topS 44
abbrev nm_number_end : List Str := ["text", "at", "first", "second"]
theorem sc_number_end : FnScope nm_number_end ["text", "at"] (defScope s_number_end) := ⟨rfl, rfl, rfl, by decide +kernel, rfl, by decide +kernel, by decide +kernel⟩
abbrev s_word_end : Stmt := topS 45
abbrev nm_word_end : List Str := ["text", "at", "end", "longer", "word"]
theorem sc_word_end : FnScope nm_word_end ["text", "at"] (defScope s_word_end) := ⟨rfl, rfl, rfl, by decide +kernel, rfl, by decide +kernel, by decide +kernel⟩
abbrev s_small_end : Stmt := topS 46
abbrev nm_small_end : List Str := ["text", "at", "end"]
theorem sc_small_end : FnScope nm_small_end ["text", "at"] (defScope s_small_end) := ⟨rfl, rfl, rfl, by decide +kernel, rfl, by decide +kernel, by decide +kernel⟩
abbrev s_bracket_at : Stmt := topS 47
abbrev nm_bracket_at : List Str := ["text", "at", "end", "word", "start"]
theorem sc_bracket_at : FnScope nm_bracket_at ["text", "at"] (defScope s_bracket_at) := ⟨rfl, rfl, rfl, by decide +kernel, rfl, by decide +kernel, by decide +kernel⟩
abbrev s_piece_at : Stmt := topS 48
abbrev nm_piece_at : List Str := ["text", "at", "sign"]
theorem sc_piece_at : FnScope nm_piece_at ["text", "at"] (defScope s_piece_at) := ⟨rfl, rfl, rfl, by decide +kernel, rfl, by decide +kernel, by decide +kernel⟩
abbrev s_pieces_of : Stmt := topS 49
abbrev nm_pieces_of : List Str := ["text", "pieces", "lacking", "at", "piece"]
theorem sc_pieces_of : FnScope nm_pieces_of ["text"] (defScope s_pieces_of) := ⟨rfl, rfl, rfl, by decide +kernel, rfl, by decide +kernel, by decide +kernel⟩
abbrev s_check_size : Stmt := topS 50
abbrev nm_check_size : List Str := ["pieces", "opened", "terms", "deepest", "piece"]
theorem sc_check_size : FnScope nm_check_size ["pieces"] (defScope s_check_size) := ⟨rfl, rfl, rfl, by decide +kernel, rfl, by decide +kernel, by decide +kernel⟩
abbrev s_built : Stmt := topS 51
abbrev nm_built : List Str := ["text", "pieces", "opened", "rows", "piece", "kind", "begin", "end", "small", "within", "_"]
theorem sc_built : FnScope nm_built ["text", "pieces"] (defScope s_built) := ⟨rfl, rfl, rfl, by decide +kernel, rfl, by decide +kernel, by decide +kernel⟩
abbrev s_tree_of : Stmt := topS 52
abbrev nm_tree_of : List Str := ["text", "pieces"]
theorem sc_tree_of : FnScope nm_tree_of ["text"] (defScope s_tree_of) := ⟨rfl, rfl, rfl, by decide +kernel, rfl, by decide +kernel, by decide +kernel⟩
abbrev s_Walking___init__ : Stmt := inClass (topS 57) 0
abbrev nm_Walking___init__ : List Str := ["self", "knot", "sense", "senses", "tree", "names"]
theorem sc_Walking___init__ : FnScope nm_Walking___init__ ["self", "knot", "sense", "senses"] (defScope s_Walking___init__) := ⟨rfl, rfl, rfl, by decide +kernel, rfl, by decide +kernel, by decide +kernel⟩
abbrev s_Walking_make : Stmt := inClass (topS 57) 1
abbrev nm_Walking_make : List Str := ["self", "tree", "names", "knot"]
theorem sc_Walking_make : FnScope nm_Walking_make ["self", "tree", "names"] (defScope s_Walking_make) := ⟨rfl, rfl, rfl, by decide +kernel, rfl, by decide +kernel, by decide +kernel⟩
abbrev s_Walking_take : Stmt := inClass (topS 57) 2
abbrev nm_Walking_take : List Str := ["self", "got"]
theorem sc_Walking_take : FnScope nm_Walking_take ["self", "got"] (defScope s_Walking_take) := ⟨rfl, rfl, rfl, by decide +kernel, rfl, by decide +kernel, by decide +kernel⟩
abbrev s_Run___init__ : Stmt := inClass (topS 58) 0
abbrev nm_Run___init__ : List Str := ["self", "most", "known", "bodies"]
theorem sc_Run___init__ : FnScope nm_Run___init__ ["self", "most", "known", "bodies"] (defScope s_Run___init__) := ⟨rfl, rfl, rfl, by decide +kernel, rfl, by decide +kernel, by decide +kernel⟩
abbrev s_Run_follow : Stmt := inClass (topS 58) 1
abbrev nm_Run_follow : List Str := ["self", "walk"]
theorem sc_Run_follow : FnScope nm_Run_follow ["self", "walk"] (defScope s_Run_follow) := ⟨rfl, rfl, rfl, by decide +kernel, rfl, by decide +kernel, by decide +kernel⟩
abbrev s_Run_go : Stmt := inClass (topS 58) 2
abbrev nm_Run_go : List Str := ["self", "walk"]
theorem sc_Run_go : FnScope nm_Run_go ["self", "walk"] (defScope s_Run_go) := ⟨rfl, rfl, rfl, by decide +kernel, rfl, by decide +kernel, by decide +kernel⟩
abbrev s_Run__do : Stmt := inClass (topS 58) 3
abbrev nm_Run__do : List Str := ["self", "walk", "code", "names", "waiting", "head", "steps", "known", "most", "ahead", "deed", "much", "what", "knot"]
theorem sc_Run__do : FnScope nm_Run__do ["self", "walk"] (defScope s_Run__do) := ⟨rfl, rfl, rfl, by decide +kernel, rfl, by decide +kernel, by decide +kernel⟩
abbrev s_Run__form : Stmt := inClass (topS 58) 4
abbrev nm_Run__form : List Str := ["self", "walk", "tree", "code", "names", "waiting", "within", "left", "text", "inner"]
theorem sc_Run__form : FnScope nm_Run__form ["self", "walk", "tree", "code", "names", "waiting"] (defScope s_Run__form) := ⟨rfl, rfl, rfl, by decide +kernel, rfl, by decide +kernel, by decide +kernel⟩
abbrev s_Run__call : Stmt := inClass (topS 58) 5
abbrev nm_Run__call : List Str := ["self", "walk", "tree", "head", "code", "names", "waiting", "_", "small", "text", "stand", "inner", "body", "name", "knot"]
theorem sc_Run__call : FnScope nm_Run__call ["self", "walk", "tree", "head", "code", "names", "waiting"] (defScope s_Run__call) := ⟨rfl, rfl, rfl, by decide +kernel, rfl, by decide +kernel, by decide +kernel⟩
abbrev s_behind_runs : Stmt := topS 59
abbrev nm_behind_runs : List Str := ["code", "names", "waiting"]
theorem sc_behind_runs : FnScope nm_behind_runs ["code", "names", "waiting"] (defScope s_behind_runs) := ⟨rfl, rfl, rfl, by decide +kernel, rfl, by decide +kernel, by decide +kernel⟩
abbrev s_unfit : Stmt := topS 61
abbrev nm_unfit : List Str := ["head", "must", "knot"]
theorem sc_unfit : FnScope nm_unfit ["head", "must", "knot"] (defScope s_unfit) := ⟨rfl, rfl, rfl, by decide +kernel, rfl, by decide +kernel, by decide +kernel⟩
abbrev s_names_for : Stmt := topS 62
abbrev nm_names_for : List Str := ["tree", "names", "small"]
theorem sc_names_for : FnScope nm_names_for ["tree", "names"] (defScope s_names_for) := ⟨rfl, rfl, rfl, by decide +kernel, rfl, by decide +kernel, by decide +kernel⟩
abbrev s_reckoned : Stmt := topS 63
abbrev nm_reckoned : List Str := ["kind", "left", "right", "knot", "number"]
theorem sc_reckoned : FnScope nm_reckoned ["kind", "left", "right", "knot"] (defScope s_reckoned) := ⟨rfl, rfl, rfl, by decide +kernel, rfl, by decide +kernel, by decide +kernel⟩
abbrev s_Bottom___init__ : Stmt := inClass (topS 65) 0
abbrev nm_Bottom___init__ : List Str := ["self"]
theorem sc_Bottom___init__ : FnScope nm_Bottom___init__ ["self"] (defScope s_Bottom___init__) := ⟨rfl, rfl, rfl, by decide +kernel, rfl, by decide +kernel, by decide +kernel⟩
abbrev s_Bottom_take : Stmt := inClass (topS 65) 1
abbrev nm_Bottom_take : List Str := ["self", "end"]
theorem sc_Bottom_take : FnScope nm_Bottom_take ["self", "end"] (defScope s_Bottom_take) := ⟨rfl, rfl, rfl, by decide +kernel, rfl, by decide +kernel, by decide +kernel⟩
abbrev s_Bottom__put_down : Stmt := inClass (topS 65) 2
abbrev nm_Bottom__put_down : List Str := ["self", "is_knot", "text"]
theorem sc_Bottom__put_down : FnScope nm_Bottom__put_down ["self"] (defScope s_Bottom__put_down) := ⟨rfl, rfl, rfl, by decide +kernel, rfl, by decide +kernel, by decide +kernel⟩
abbrev s_no_word : Stmt := topS 66
abbrev nm_no_word : List Str := ["knot", "end"]
theorem sc_no_word : FnScope nm_no_word ["knot", "end"] (defScope s_no_word) := ⟨rfl, rfl, rfl, by decide +kernel, rfl, by decide +kernel, by decide +kernel⟩
abbrev s_Telling___init__ : Stmt := inClass (topS 68) 0
abbrev nm_Telling___init__ : List Str := ["self", "kind", "what", "steps", "known"]
theorem sc_Telling___init__ : FnScope nm_Telling___init__ ["self", "kind", "what", "steps", "known"] (defScope s_Telling___init__) := ⟨rfl, rfl, rfl, by decide +kernel, rfl, by decide +kernel, by decide +kernel⟩
abbrev s_Telling___eq__ : Stmt := inClass (topS 68) 2
abbrev nm_Telling___eq__ : List Str := ["self", "other"]
theorem sc_Telling___eq__ : FnScope nm_Telling___eq__ ["self", "other"] (defScope s_Telling___eq__) := ⟨rfl, rfl, rfl, by decide +kernel, rfl, by decide +kernel, by decide +kernel⟩
abbrev s_Telling___len__ : Stmt := inClass (topS 68) 3
abbrev nm_Telling___len__ : List Str := ["self"]
theorem sc_Telling___len__ : FnScope nm_Telling___len__ ["self"] (defScope s_Telling___len__) := ⟨rfl, rfl, rfl, by decide +kernel, rfl, by decide +kernel, by decide +kernel⟩
abbrev s_Telling___str__ : Stmt := inClass (topS 68) 4
abbrev nm_Telling___str__ : List Str := ["self"]
theorem sc_Telling___str__ : FnScope nm_Telling___str__ ["self"] (defScope s_Telling___str__) := ⟨rfl, rfl, rfl, by decide +kernel, rfl, by decide +kernel, by decide +kernel⟩
abbrev s_Telling___repr__ : Stmt := inClass (topS 68) 5
abbrev nm_Telling___repr__ : List Str := ["self"]
theorem sc_Telling___repr__ : FnScope nm_Telling___repr__ ["self"] (defScope s_Telling___repr__) := ⟨rfl, rfl, rfl, by decide +kernel, rfl, by decide +kernel, by decide +kernel⟩
abbrev s_words_of : Stmt := topS 69
abbrev nm_words_of : List Str := ["kind", "what", "steps", "known", "words"]
theorem sc_words_of : FnScope nm_words_of ["kind", "what", "steps", "known"] (defScope s_words_of) := ⟨rfl, rfl, rfl, by decide +kernel, rfl, by decide +kernel, by decide +kernel⟩
abbrev s_Space___init__ : Stmt := inClass (topS 72) 0
abbrev nm_Space___init__ : List Str := ["self"]
theorem sc_Space___init__ : FnScope nm_Space___init__ ["self"] (defScope s_Space___init__) := ⟨rfl, rfl, rfl, by decide +kernel, rfl, by decide +kernel, by decide +kernel⟩
abbrev s_Space_begin : Stmt := inClass (topS 72) 1
abbrev nm_Space_begin : List Str := ["self", "knot", "sense"]
theorem sc_Space_begin : FnScope nm_Space_begin ["self", "knot", "sense"] (defScope s_Space_begin) := ⟨rfl, rfl, rfl, by decide +kernel, rfl, by decide +kernel, by decide +kernel⟩
abbrev s_Reading___init__ : Stmt := inClass (topS 73) 0
abbrev nm_Reading___init__ : List Str := ["self", "parts", "term", "most", "asked", "space"]
theorem sc_Reading___init__ : FnScope nm_Reading___init__ ["self", "parts", "term", "most", "asked", "space"] (defScope s_Reading___init__) := ⟨rfl, rfl, rfl, by decide +kernel, rfl, by decide +kernel, by decide +kernel⟩
abbrev s_Reading_telling : Stmt := inClass (topS 73) 1
abbrev nm_Reading_telling : List Str := ["self", "kind", "what", "knot"]
theorem sc_Reading_telling : FnScope nm_Reading_telling ["self"] (defScope s_Reading_telling) := ⟨rfl, rfl, rfl, by decide +kernel, rfl, by decide +kernel, by decide +kernel⟩
abbrev s_Reading_done : Stmt := inClass (topS 73) 2
abbrev nm_Reading_done : List Str := ["self"]
theorem sc_Reading_done : FnScope nm_Reading_done ["self"] (defScope s_Reading_done) := ⟨rfl, rfl, rfl, by decide +kernel, rfl, by decide +kernel, by decide +kernel⟩
abbrev s_Reading_follow : Stmt := inClass (topS 73) 3
abbrev nm_Reading_follow : List Str := ["self", "walk", "chain", "got"]
theorem sc_Reading_follow : FnScope nm_Reading_follow ["self", "walk"] (defScope s_Reading_follow) := ⟨rfl, rfl, rfl, by decide +kernel, rfl, by decide +kernel, by decide +kernel⟩
abbrev s_Reading_start : Stmt := inClass (topS 73) 4
abbrev nm_Reading_start : List Str := ["self", "knot"]
theorem sc_Reading_start : FnScope nm_Reading_start ["self", "knot"] (defScope s_Reading_start) := ⟨rfl, rfl, rfl, by decide +kernel, rfl, by decide +kernel, by decide +kernel⟩
abbrev s_Reading_begin : Stmt := inClass (topS 73) 5
abbrev nm_Reading_begin : List Str := ["self", "knot", "space", "sense", "walk"]
theorem sc_Reading_begin : FnScope nm_Reading_begin ["self", "knot"] (defScope s_Reading_begin) := ⟨rfl, rfl, rfl, by decide +kernel, rfl, by decide +kernel, by decide +kernel⟩
abbrev s_Reading_count : Stmt := inClass (topS 73) 6
abbrev nm_Reading_count : List Str := ["self", "steps"]
theorem sc_Reading_count : FnScope nm_Reading_count ["self", "steps"] (defScope s_Reading_count) := ⟨rfl, rfl, rfl, by decide +kernel, rfl, by decide +kernel, by decide +kernel⟩
abbrev s_Reading__ring : Stmt := inClass (topS 73) 7
abbrev nm_Reading__ring : List Str := ["self", "knot", "knots", "least", "walk"]
theorem sc_Reading__ring : FnScope nm_Reading__ring ["self", "knot"] (defScope s_Reading__ring) := ⟨rfl, rfl, rfl, by decide +kernel, rfl, by decide +kernel, by decide +kernel⟩
abbrev s_Reading__to_the_bottom : Stmt := inClass (topS 73) 8
abbrev nm_Reading__to_the_bottom : List Str := ["self", "bottom"]
theorem sc_Reading__to_the_bottom : FnScope nm_Reading__to_the_bottom ["self"] (defScope s_Reading__to_the_bottom) := ⟨rfl, rfl, rfl, by decide +kernel, rfl, by decide +kernel, by decide +kernel⟩
abbrev s_Keeping___init__ : Stmt := inClass (topS 75) 0
abbrev nm_Keeping___init__ : List Str := ["self", "parts", "term", "most", "kept"]
theorem sc_Keeping___init__ : FnScope nm_Keeping___init__ ["self", "parts", "term", "most", "kept"] (defScope s_Keeping___init__) := ⟨rfl, rfl, rfl, by decide +kernel, rfl, by decide +kernel, by decide +kernel⟩
abbrev s_Keeping_rows : Stmt := inClass (topS 75) 1
abbrev nm_Keeping_rows : List Str := ["self", "rows", "knot", "walk", "gots", "needed", "got", "_"]
theorem sc_Keeping_rows : FnScope nm_Keeping_rows ["self"] (defScope s_Keeping_rows) := ⟨rfl, rfl, rfl, by decide +kernel, rfl, by decide +kernel, by decide +kernel⟩
abbrev s_Keeping_start : Stmt := inClass (topS 75) 2
abbrev nm_Keeping_start : List Str := ["self", "knot"]
theorem sc_Keeping_start : FnScope nm_Keeping_start ["self", "knot"] (defScope s_Keeping_start) := ⟨rfl, rfl, rfl, by decide +kernel, rfl, by decide +kernel, by decide +kernel⟩
abbrev s_Keeping_follow : Stmt := inClass (topS 75) 3
abbrev nm_Keeping_follow : List Str := ["self", "walk"]
theorem sc_Keeping_follow : FnScope nm_Keeping_follow ["self", "walk"] (defScope s_Keeping_follow) := ⟨rfl, rfl, rfl, by decide +kernel, rfl, by decide +kernel, by decide +kernel⟩
abbrev s_Keeping__next : Stmt := inClass (topS 75) 4
abbrev nm_Keeping__next : List Str := ["self", "walk", "got"]
theorem sc_Keeping__next : FnScope nm_Keeping__next ["self"] (defScope s_Keeping__next) := ⟨rfl, rfl, rfl, by decide +kernel, rfl, by decide +kernel, by decide +kernel⟩
abbrev s_Keeping__go_over : Stmt := inClass (topS 75) 5
abbrev nm_Keeping__go_over : List Str := ["self", "walk", "knot", "got", "steps", "_", "now"]
theorem sc_Keeping__go_over : FnScope nm_Keeping__go_over ["self", "walk"] (defScope s_Keeping__go_over) := ⟨rfl, rfl, rfl, by decide +kernel, rfl, by decide +kernel, by decide +kernel⟩
abbrev s_Keeping__got : Stmt := inClass (topS 75) 6
abbrev nm_Keeping__got : List Str := ["self", "knot"]
theorem sc_Keeping__got : FnScope nm_Keeping__got ["self", "knot"] (defScope s_Keeping__got) := ⟨rfl, rfl, rfl, by decide +kernel, rfl, by decide +kernel, by decide +kernel⟩
abbrev s_Keeping__leave : Stmt := inClass (topS 75) 7
abbrev nm_Keeping__leave : List Str := ["self", "walk"]
theorem sc_Keeping__leave : FnScope nm_Keeping__leave ["self", "walk"] (defScope s_Keeping__leave) := ⟨rfl, rfl, rfl, by decide +kernel, rfl, by decide +kernel, by decide +kernel⟩
abbrev s_KeptWalking___init__ : Stmt := inClass (topS 77) 0
abbrev nm_KeptWalking___init__ : List Str := ["self", "knot", "sense", "senses"]
theorem sc_KeptWalking___init__ : FnScope nm_KeptWalking___init__ ["self", "knot", "sense", "senses"] (defScope s_KeptWalking___init__) := ⟨rfl, rfl, rfl, by decide +kernel, rfl, by decide +kernel, by decide +kernel⟩
abbrev s_KeptWalking_take : Stmt := inClass (topS 77) 1
abbrev nm_KeptWalking_take : List Str := ["self", "got"]
theorem sc_KeptWalking_take : FnScope nm_KeptWalking_take ["self", "got"] (defScope s_KeptWalking_take) := ⟨rfl, rfl, rfl, by decide +kernel, rfl, by decide +kernel, by decide +kernel⟩
abbrev s_KeptWalking_begin_again : Stmt := inClass (topS 77) 2
abbrev nm_KeptWalking_begin_again : List Str := ["self"]
theorem sc_KeptWalking_begin_again : FnScope nm_KeptWalking_begin_again ["self"] (defScope s_KeptWalking_begin_again) := ⟨rfl, rfl, rfl, by decide +kernel, rfl, by decide +kernel, by decide +kernel⟩
abbrev s_KeptWalking_go_back : Stmt := inClass (topS 77) 3
abbrev nm_KeptWalking_go_back : List Str := ["self", "_"]
theorem sc_KeptWalking_go_back : FnScope nm_KeptWalking_go_back ["self"] (defScope s_KeptWalking_go_back) := ⟨rfl, rfl, rfl, by decide +kernel, rfl, by decide +kernel, by decide +kernel⟩
abbrev s_KeptSpace___init__ : Stmt := inClass (topS 78) 0
abbrev nm_KeptSpace___init__ : List Str := ["self"]
theorem sc_KeptSpace___init__ : FnScope nm_KeptSpace___init__ ["self"] (defScope s_KeptSpace___init__) := ⟨rfl, rfl, rfl, by decide +kernel, rfl, by decide +kernel, by decide +kernel⟩
abbrev s_KeptSpace_begin : Stmt := inClass (topS 78) 1
abbrev nm_KeptSpace_begin : List Str := ["self", "knot", "sense", "walk"]
theorem sc_KeptSpace_begin : FnScope nm_KeptSpace_begin ["self", "knot", "sense"] (defScope s_KeptSpace_begin) := ⟨rfl, rfl, rfl, by decide +kernel, rfl, by decide +kernel, by decide +kernel⟩
abbrev s_Kept___init__ : Stmt := inClass (topS 79) 0
abbrev nm_Kept___init__ : List Str := ["self"]
theorem sc_Kept___init__ : FnScope nm_Kept___init__ ["self"] (defScope s_Kept___init__) := ⟨rfl, rfl, rfl, by decide +kernel, rfl, by decide +kernel, by decide +kernel⟩
abbrev s_Kept_asked : Stmt := inClass (topS 79) 1
abbrev nm_Kept_asked : List Str := ["self", "text"]
theorem sc_Kept_asked : FnScope nm_Kept_asked ["self", "text"] (defScope s_Kept_asked) := ⟨rfl, rfl, rfl, by decide +kernel, rfl, by decide +kernel, by decide +kernel⟩
abbrev s_is_same_sense : Stmt := topS 80
abbrev nm_is_same_sense : List Str := ["one", "other", "tree", "names", "other_tree", "other_names"]
theorem sc_is_same_sense : FnScope nm_is_same_sense ["one", "other"] (defScope s_is_same_sense) := ⟨rfl, rfl, rfl, by decide +kernel, rfl, by decide +kernel, by decide +kernel⟩
abbrev s_Term___init__ : Stmt := inClass (topS 83) 0
abbrev nm_Term___init__ : List Str := ["self", "text"]
theorem sc_Term___init__ : FnScope nm_Term___init__ ["self", "text"] (defScope s_Term___init__) := ⟨rfl, rfl, rfl, by decide +kernel, rfl, by decide +kernel, by decide +kernel⟩
abbrev s_Term_form : Stmt := inClass (topS 83) 1
abbrev nm_Term_form : List Str := ["self"]
theorem sc_Term_form : FnScope nm_Term_form ["self"] (defScope s_Term_form) := ⟨rfl, rfl, rfl, by decide +kernel, rfl, by decide +kernel, by decide +kernel⟩
abbrev s_Term_inner : Stmt := inClass (topS 83) 2
abbrev nm_Term_inner : List Str := ["self", "tree"]
theorem sc_Term_inner : FnScope nm_Term_inner ["self"] (defScope s_Term_inner) := ⟨rfl, rfl, rfl, by decide +kernel, rfl, by decide +kernel, by decide +kernel⟩
abbrev s_Term_free_names : Stmt := inClass (topS 83) 4
abbrev nm_Term_free_names : List Str := ["self"]
theorem sc_Term_free_names : FnScope nm_Term_free_names ["self"] (defScope s_Term_free_names) := ⟨rfl, rfl, rfl, by decide +kernel, rfl, by decide +kernel, by decide +kernel⟩
abbrev s_Term_tree : Stmt := inClass (topS 83) 6
abbrev nm_Term_tree : List Str := ["self"]
theorem sc_Term_tree : FnScope nm_Term_tree ["self"] (defScope s_Term_tree) := ⟨rfl, rfl, rfl, by decide +kernel, rfl, by decide +kernel, by decide +kernel⟩
abbrev s_Term___eq__ : Stmt := inClass (topS 83) 7
abbrev nm_Term___eq__ : List Str := ["self", "other"]
theorem sc_Term___eq__ : FnScope nm_Term___eq__ ["self", "other"] (defScope s_Term___eq__) := ⟨rfl, rfl, rfl, by decide +kernel, rfl, by decide +kernel, by decide +kernel⟩
abbrev s_Term___len__ : Stmt := inClass (topS 83) 8
abbrev nm_Term___len__ : List Str := ["self"]
theorem sc_Term___len__ : FnScope nm_Term___len__ ["self"] (defScope s_Term___len__) := ⟨rfl, rfl, rfl, by decide +kernel, rfl, by decide +kernel, by decide +kernel⟩
abbrev s_Term___str__ : Stmt := inClass (topS 83) 9
abbrev nm_Term___str__ : List Str := ["self"]
theorem sc_Term___str__ : FnScope nm_Term___str__ ["self"] (defScope s_Term___str__) := ⟨rfl, rfl, rfl, by decide +kernel, rfl, by decide +kernel, by decide +kernel⟩
abbrev s_Term___repr__ : Stmt := inClass (topS 83) 10
abbrev nm_Term___repr__ : List Str := ["self"]
theorem sc_Term___repr__ : FnScope nm_Term___repr__ ["self"] (defScope s_Term___repr__) := ⟨rfl, rfl, rfl, by decide +kernel, rfl, by decide +kernel, by decide +kernel⟩
abbrev s_is_part_name : Stmt := topS 84
abbrev nm_is_part_name : List Str := ["thing"]
theorem sc_is_part_name : FnScope nm_is_part_name ["thing"] (defScope s_is_part_name) := ⟨rfl, rfl, rfl, by decide +kernel, rfl, by decide +kernel, by decide +kernel⟩
abbrev s_refuse_loose : Stmt := topS 85
abbrev nm_refuse_loose : List Str := ["term", "names"]
theorem sc_refuse_loose : FnScope nm_refuse_loose ["term"] (defScope s_refuse_loose) := ⟨rfl, rfl, rfl, by decide +kernel, rfl, by decide +kernel, by decide +kernel⟩
abbrev s_House___init__ : Stmt := inClass (topS 88) 0
abbrev nm_House___init__ : List Str := ["self", "parts", "name", "term"]
theorem sc_House___init__ : FnScope nm_House___init__ ["self", "parts"] (defScope s_House___init__) := ⟨rfl, rfl, rfl, by decide +kernel, rfl, by decide +kernel, by decide +kernel⟩
abbrev s_House_write : Stmt := inClass (topS 88) 1
abbrev nm_House_write : List Str := ["self", "name", "term", "new", "is_written"]
theorem sc_House_write : FnScope nm_House_write ["self", "name", "term", "new"] (defScope s_House_write) := ⟨rfl, rfl, rfl, by decide +kernel, rfl, by decide +kernel, by decide +kernel⟩
abbrev s_House_strike : Stmt := inClass (topS 88) 2
abbrev nm_House_strike : List Str := ["self", "name", "before"]
theorem sc_House_strike : FnScope nm_House_strike ["self", "name"] (defScope s_House_strike) := ⟨rfl, rfl, rfl, by decide +kernel, rfl, by decide +kernel, by decide +kernel⟩
abbrev s_House_back : Stmt := inClass (topS 88) 3
abbrev nm_House_back : List Str := ["self", "deed", "before"]
theorem sc_House_back : FnScope nm_House_back ["self"] (defScope s_House_back) := ⟨rfl, rfl, rfl, by decide +kernel, rfl, by decide +kernel, by decide +kernel⟩
abbrev s_House_past : Stmt := inClass (topS 88) 4
abbrev nm_House_past : List Str := ["self", "deed", "_"]
theorem sc_House_past : FnScope nm_House_past ["self"] (defScope s_House_past) := ⟨rfl, rfl, rfl, by decide +kernel, rfl, by decide +kernel, by decide +kernel⟩
abbrev s_House_parts : Stmt := inClass (topS 88) 5
abbrev nm_House_parts : List Str := ["self", "name"]
theorem sc_House_parts : FnScope nm_House_parts ["self"] (defScope s_House_parts) := ⟨rfl, rfl, rfl, by decide +kernel, rfl, by decide +kernel, by decide +kernel⟩
abbrev s_House_term_of : Stmt := inClass (topS 88) 6
abbrev nm_House_term_of : List Str := ["self", "name"]
theorem sc_House_term_of : FnScope nm_House_term_of ["self", "name"] (defScope s_House_term_of) := ⟨rfl, rfl, rfl, by decide +kernel, rfl, by decide +kernel, by decide +kernel⟩
abbrev s_House_tell : Stmt := inClass (topS 88) 7
abbrev nm_House_tell : List Str := ["self", "term", "most", "reading", "told"]
theorem sc_House_tell : FnScope nm_House_tell ["self", "term", "most"] (defScope s_House_tell) := ⟨rfl, rfl, rfl, by decide +kernel, rfl, by decide +kernel, by decide +kernel⟩
abbrev s_House_done : Stmt := inClass (topS 88) 8
abbrev nm_House_done : List Str := ["self"]
theorem sc_House_done : FnScope nm_House_done ["self"] (defScope s_House_done) := ⟨rfl, rfl, rfl, by decide +kernel, rfl, by decide +kernel, by decide +kernel⟩
abbrev s_House___eq__ : Stmt := inClass (topS 88) 10
abbrev nm_House___eq__ : List Str := ["self", "other"]
theorem sc_House___eq__ : FnScope nm_House___eq__ ["self", "other"] (defScope s_House___eq__) := ⟨rfl, rfl, rfl, by decide +kernel, rfl, by decide +kernel, by decide +kernel⟩
abbrev s_House___len__ : Stmt := inClass (topS 88) 11
abbrev nm_House___len__ : List Str := ["self"]
theorem sc_House___len__ : FnScope nm_House___len__ ["self"] (defScope s_House___len__) := ⟨rfl, rfl, rfl, by decide +kernel, rfl, by decide +kernel, by decide +kernel⟩
abbrev s_House___str__ : Stmt := inClass (topS 88) 12
abbrev nm_House___str__ : List Str := ["self", "name", "term"]
theorem sc_House___str__ : FnScope nm_House___str__ ["self"] (defScope s_House___str__) := ⟨rfl, rfl, rfl, by decide +kernel, rfl, by decide +kernel, by decide +kernel⟩
abbrev s_House___repr__ : Stmt := inClass (topS 88) 13
abbrev nm_House___repr__ : List Str := ["self", "word"]
theorem sc_House___repr__ : FnScope nm_House___repr__ ["self"] (defScope s_House___repr__) := ⟨rfl, rfl, rfl, by decide +kernel, rfl, by decide +kernel, by decide +kernel⟩
abbrev s__law_purse : Stmt := topS 90
abbrev nm__law_purse : List Str := ["_law_script", "_law_at", "_law_cell", "_law_far"]
theorem sc__law_purse : FnScope nm__law_purse ["_law_script", "_law_at"] (defScope s__law_purse) := ⟨rfl, rfl, rfl, by decide +kernel, rfl, by decide +kernel, by decide +kernel⟩
abbrev s__law_take : Stmt := topS 91
abbrev nm__law_take : List Str := ["_law_purse_here", "_law_many", "_law_digit", "_law_primes", "_law_step", "_law_base", "_law_mixed"]
theorem sc__law_take : FnScope nm__law_take ["_law_purse_here", "_law_many"] (defScope s__law_take) := ⟨rfl, rfl, rfl, by decide +kernel, rfl, by decide +kernel, by decide +kernel⟩
abbrev s__law_names : Stmt := topS 92
abbrev nm__law_names : List Str := ["_law_purse_here", "_law_many", "_law_signs", "_law_wide", "_law_base", "_law_at", "_law_first", "_law_k"]
theorem sc__law_names : FnScope nm__law_names ["_law_purse_here", "_law_many", "_law_signs", "_law_wide"] (defScope s__law_names) := ⟨rfl, rfl, rfl, by decide +kernel, rfl, by decide +kernel, by decide +kernel⟩
abbrev s__law_form : Stmt := topS 93
abbrev nm__law_form : List Str := ["_law_purse_here", "_law_kind", "_law_env", "_law_deep", "_law_smalls", "_law_names_here", "_law_kinds", "_law_way", "_law_x", "_law_wider", "_law_some", "_law_form_here", "_law_one"]
theorem sc__law_form : FnScope nm__law_form ["_law_purse_here", "_law_kind", "_law_env", "_law_deep"] (defScope s__law_form) := ⟨rfl, rfl, rfl, by decide +kernel, rfl, by decide +kernel, by decide +kernel⟩
abbrev s__law_of : Stmt := topS 94
abbrev nm__law_of : List Str := ["_law_purse_here", "_law_kind", "_law_env", "_law_deep", "_law_way", "_law_number"]
theorem sc__law_of : FnScope nm__law_of ["_law_purse_here", "_law_kind", "_law_env", "_law_deep"] (defScope s__law_of) := ⟨rfl, rfl, rfl, by decide +kernel, rfl, by decide +kernel, by decide +kernel⟩
abbrev s__law_program : Stmt := topS 95
abbrev nm__law_program : List Str := ["_law_purse_here", "_law_smalls", "_law_greats", "_law_env", "_law_rows", "_law_k", "_law_part", "_law_kind", "_law_text"]
theorem sc__law_program : FnScope nm__law_program ["_law_purse_here"] (defScope s__law_program) := ⟨rfl, rfl, rfl, by decide +kernel, rfl, by decide +kernel, by decide +kernel⟩
abbrev s__law_texts : Stmt := topS 96
abbrev nm__law_texts : List Str := ["_law_kinds", "_law_part", "_law_term_here"]
theorem sc__law_texts : FnScope nm__law_texts ["_law_kinds"] (defScope s__law_texts) := ⟨rfl, rfl, rfl, by decide +kernel, rfl, by decide +kernel, by decide +kernel⟩
abbrev s__law_stands : Stmt := topS 97
abbrev nm__law_stands : List Str := ["_law_house", "_law_model", "_law_past", "_law_rows", "_law_lines", "_law_word", "_law_part", "_law_row", "_law_text"]
theorem sc__law_stands : FnScope nm__law_stands ["_law_house", "_law_model", "_law_past"] (defScope s__law_stands) := ⟨rfl, rfl, rfl, by decide +kernel, rfl, by decide +kernel, by decide +kernel⟩
abbrev s__law_done : Stmt := topS 98
abbrev nm__law_done : List Str := ["_law_purse_here", "_law_house", "_law_model", "_law_env", "_law_greats", "_law_part", "_law_text", "_law_way", "_law_told"]
theorem sc__law_done : FnScope nm__law_done ["_law_purse_here", "_law_house", "_law_model", "_law_env", "_law_greats"] (defScope s__law_done) := ⟨rfl, rfl, rfl, by decide +kernel, rfl, by decide +kernel, by decide +kernel⟩
abbrev s_law : Stmt := topS 99
abbrev nm_law : List Str := ["_law_script", "_law_k", "_law_purse_here", "_law_env", "_law_greats", "_law_rows", "_law_handed", "_law_house", "_law_model", "_law_past", "_law_turn", "_law_told", "_law_row", "_law_one", "_law_part", "_law_text"]
theorem sc_law : FnScope nm_law ["_law_script"] (defScope s_law) := ⟨rfl, rfl, rfl, by decide +kernel, rfl, by decide +kernel, by decide +kernel⟩
structure TxtB (K : PySem.W.Frag) (mg : Str → Option Value) : Prop where
  z_abs : mg "abs" = none
  z_all : mg "all" = none
  z_any : mg "any" = none
  z_bool : mg "bool" = none
  z_dict : mg "dict" = none
  z_enumerate : mg "enumerate" = none
  z_int : mg "int" = none
  z_isinstance : mg "isinstance" = none
  z_len : mg "len" = none
  z_list : mg "list" = none
  z_max : mg "max" = none
  z_min : mg "min" = none
  z_range : mg "range" = none
  z_repr : mg "repr" = none
  z_set : mg "set" = none
  z_sorted : mg "sorted" = none
  z_str : mg "str" = none
  z_tuple : mg "tuple" = none
  g_CLOSE : ∃ t, mg "CLOSE" = some (.str (Str.ofString ")") t)
  g_FIGURES : ∃ t, mg "FIGURES" = some (.str (Str.ofString "0123456789") t)
  g_FIRST_FIGURES : ∃ t, mg "FIRST_FIGURES" = some (.str (Str.ofString "123456789") t)
  g_GREAT : ∃ t, mg "GREAT" = some (.str (Str.ofString "ABCDEFGHIJKLMNOPQRSTUVWXYZ") t)
  g_MOST_FIGURES : ∃ t, mg "MOST_FIGURES" = some (.int 12 t)
  g_MOST_GREAT : ∃ t, mg "MOST_GREAT" = some (.int 6 t)
  g_MOST_OPEN : ∃ t, mg "MOST_OPEN" = some (.int 30 t)
  g_MOST_PARTS : ∃ t, mg "MOST_PARTS" = some (.int 60 t)
  g_MOST_SMALL : ∃ t, mg "MOST_SMALL" = some (.int 4 t)
  g_MOST_TERMS : ∃ t, mg "MOST_TERMS" = some (.int 200 t)
  g_SMALL : ∃ t, mg "SMALL" = some (.str (Str.ofString "abcdefghijklmnopqrstuvwxyz") t)
/-- the words' table -/
def wkv : List (Str × Int) := Wd.all.map fun w => (tx w.cs, (w.ar : Int))
structure Txt (K : PySem.W.Frag) (mg : Str → Option Value) (w : World) (dW dB : Addr) (esW : Array DictEntry) (nW : Nat) : Prop extends TxtB K mg where
  gW : mg "WORDS" = some (.ref dW)
  W : KTab K w dW esW nW wkv
  gB : mg "BINDERS" = some (.ref dB)
  B : ∀ H, SqT K H dB [.str (Str.ofString "let"), .str (Str.ofString "def")]
/-! ### cuts, signs -/
theorem cut_tx (t : List Nat) (a b : Nat) : cutS (tx t) (some (a : Int)) (some (b : Int)) = tx ((t.drop a).take (b - a)) := by
  unfold cutS
  rw [HT.sIx_nat, HT.sIx_nat, tx_len, tx_cps]
  refine congrArg (fun l : List Nat => tx l) ?_
  by_cases h1 : a ≤ t.length
  · rw [Nat.min_eq_left h1]
    by_cases h2 : b ≤ t.length
    · rw [Nat.min_eq_left h2]
    · rw [Nat.min_eq_right (by omega), List.take_of_length_le (by rw [List.length_drop]; omega), List.take_of_length_le (by rw [List.length_drop]; omega)]
  · rw [Nat.min_eq_right (show t.length ≤ a by omega), show t.drop t.length = [] from List.drop_eq_nil_of_le (Nat.le_refl _), show t.drop a = [] from List.drop_eq_nil_of_le (by omega)]
    simp
theorem cut_at {t l r : List Nat} {a : Nat} {x y : Int} (h : t.drop a = l ++ r) (hx : x = (a : Int)) (hy : y = ((a + l.length : Nat) : Int)) : cutS (tx t) (some x) (some y) = tx l := by
  rw [hx, hy, cut_tx, h, Nat.add_sub_cancel_left, List.take_left]
theorem at_tx {t : List Nat} {a c : Nat} {x : Int} (h : t[a]? = some c) (hx : x = (a : Int)) : atI (tx t).cps.toList x = some c := by
  rw [hx]
  exact atI_tx h
theorem str_eq (a b : List Nat) : decide (V.str (tx a) = V.str (tx b)) = decide (a = b) := decide_eq_decide.mpr ⟨fun h => tx_inj (V.str.inj h), fun h => by rw [h]⟩
def spRunEnd : Sp := fun vs H Q _ => ∃ (t s : List Nat) (a m : Nat), vs = [.str (tx t), .int a, .str (tx s), .int m] ∧ t.length ≤ sizeLine ∧ Q (.int ((a + runLen t s a m : Nat) : Int)) H
/-- the sign that must stand there stands there -/
def spBehind : Sp := fun vs H Q _ => ∃ (t : List Nat) (a c : Nat), vs = [.str (tx t), .int a, .str (tx [c])] ∧ t.length ≤ sizeLine ∧ t[a]? = some c ∧ Q (.int ((a + 1 : Nat) : Int)) H
def spNumEnd : Sp := fun vs H Q _ => ∃ (t l r : List Nat) (a : Nat), vs = [.str (tx t), .int a] ∧ t.length ≤ sizeLine ∧ t.drop a = l ++ r ∧ NumOk l ∧ Sep r ∧ Q (.int ((a + l.length : Nat) : Int)) H
def spSmallEnd : Sp := fun vs H Q _ => ∃ (t l r : List Nat) (a : Nat), vs = [.str (tx t), .int a] ∧ t.length ≤ sizeLine ∧ t.drop a = l ++ r ∧ SmallOk l ∧ Sep r ∧ Q (.int ((a + l.length : Nat) : Int)) H
theorem figs_tx : Str.ofString "0123456789" = tx figs := by decide +kernel
theorem figs1_tx : Str.ofString "123456789" = tx figs1 := by decide +kernel
theorem smalls_tx : Str.ofString "abcdefghijklmnopqrstuvwxyz" = tx smalls := by decide +kernel
theorem greats_tx : Str.ofString "ABCDEFGHIJKLMNOPQRSTUVWXYZ" = tx greats := by decide +kernel
theorem one_tx (c : Nat) : (⟨#[c]⟩ : Str) = tx [c] := rfl
section
variable {P : Program} {w : World} {K : PySem.W.Frag} {mg : Str → Option Value} {base : Heap} {dW dB : Addr} {esW : Array DictEntry} {nW : Nat} (T : Txt K mg w dW dB esW nW)
include T
theorem ok_run_end {f : Addr} {fd : FuncData} (F : Fun K "run_end" "run_end" s_run_end f fd) : FnOk P w K mg base CX0 1 f fd ["text", "at", "signs", "most"] spRunEnd := by
  refine F.ok sc_run_end (fun vs H Q E h => ?_) (fun cdv A outer s H vs Q E hr h => ?_)
  · obtain ⟨t, s, a, m, rfl, _⟩ := h
    rfl
  · obtain ⟨t, z, a, m, rfl, hl, q⟩ := h
    refine ⟨_, (pss_cons (ps_set (i := 4) sc_run_end.nd rfl (.inl rfl) (pv 1))
      (pss_cons (ps_while PassesOwn.never (PW.pt (pw_and (pt_cmpR op_lt (pv 4) (pe_callB call_len_str (by rfl) T.z_len (by decide +kernel) (pa_cons (pv 0) pa_nil)) (nomark _)) (pw_and (pt_cmpR op_lt (pe_op op_sub (pv 4) (pv 1)) (pv 3) (nomark _)) (pw_and1 (pt_cmpR op_in_sign (pe_ix ix_str (pv 0) (pv 4) (fun _ _ => rfl)) (pv 2) (by rfl)))))) 
        (pss_one (ps_aug (i := 4) sc_run_end.nd rfl (.inl rfl) pe_int ip_add)))
      (pss_one (ps_ret (pv 4))))), ?_⟩
    refine ⟨_, rfl, fun m' σ H' => H' = H ∧ ∃ j, σ = [some (.str (tx t)), some (.int a), some (.str (tx z)), some (.int m), some (.int ((a + j : Nat) : Int))] ∧ j + m' = runLen t z a m, ⟨runLen t z a m, rfl, 0, rfl, Nat.zero_add _⟩, ?_⟩
    rintro m' σ H' ⟨rfl, j, rfl, hj⟩
    refine ⟨_, rfl, _, rfl, _, rfl, by rw [tx_len]; exact hl, _, _, rfl, rfl, _, rfl, ?_⟩
    rw [tx_len]
    have stop : ¬ j < runLen t z a m → Q (.int ((a + j : Nat) : Int)) H' := fun h => by
      have e : j = runLen t z a m := by omega
      rw [e]
      exact q
    refine ite2 (fun h1 => ?_) (fun h1 => ?_)
    · have h1 := of_decide_eq_true h1
      refine ⟨_, rfl, _, rfl, _, _, rfl, rfl, _, rfl, _, _, rfl, rfl, _, rfl, ?_⟩
      refine ite2 (fun h2 => ?_) (fun h2 => ?_)
      · have h2 := of_decide_eq_true h2
        have h3 : a + j < t.length := by omega
        refine ⟨_, rfl, _, rfl, _, _, t[a + j], rfl, rfl, by rw [tx_len]; exact hl, atI_tx (List.getElem?_eq_getElem h3), _, rfl, t[a + j], tx z, rfl, rfl, _, rfl, ?_⟩
        rw [tx_cps]
        refine ite2 (fun h4 => ?_) (fun h4 => ?_)
        · have h4 := of_decide_eq_true h4
          have h5 : j < runLen t z a m := by
            refine Nat.lt_of_le_of_ne (by omega) fun e => ?_
            obtain ⟨c, e1, e2⟩ := run_ends (t := t) (s := z) (a := a) (m := m) (by omega) (by omega)
            rw [← e, List.getElem?_eq_getElem h3] at e1
            exact e2 (Option.some.inj e1 ▸ h4)
          refine ⟨fun σ H'' => H'' = H' ∧ ∃ j', σ = [some (.str (tx t)), some (.int a), some (.str (tx z)), some (.int m), some (.int ((a + j' : Nat) : Int))] ∧ j' = j + 1, ?_, ?_⟩
          · rintro σ H'' ⟨rfl, j', rfl, rfl⟩
            exact ⟨m' - 1, by omega, rfl, j + 1, rfl, by omega⟩
          · exact ⟨_, rfl, _, _, rfl, rfl, rfl, j + 1, rfl, rfl⟩
        · have h4 : t[a + j] ∉ z := fun e => h4 (decide_eq_true e)
          refine ⟨_, rfl, stop fun e => ?_⟩
          obtain ⟨_, _, c, e1, e2⟩ := run_in e
          rw [List.getElem?_eq_getElem h3] at e1
          exact h4 (Option.some.inj e1 ▸ e2)
      · have h2 : ¬ (((a + j : Nat) : Int) - (a : Int) < (m : Int)) := fun e => h2 (decide_eq_true e)
        refine ⟨_, rfl, stop fun e => ?_⟩
        obtain ⟨_, e1, _⟩ := run_in e
        omega
    · have h1 : ¬ (((a + j : Nat) : Int) < (t.length : Int)) := fun e => h1 (decide_eq_true e)
      refine ⟨_, rfl, stop fun e => ?_⟩
      obtain ⟨e1, _, _⟩ := run_in e
      omega
theorem ok_behind {f : Addr} {fd : FuncData} (F : Fun K "behind" "behind" s_behind f fd) : FnOk P w K mg base CX0 1 f fd ["text", "at", "sign"] spBehind := by
  refine F.ok sc_behind (fun vs H Q E h => ?_) (fun cdv A outer s H vs Q E hr h => ?_)
  · obtain ⟨t, a, c, rfl, _⟩ := h
    rfl
  · obtain ⟨t, a, c, rfl, hl, hc, q⟩ := h
    refine ⟨_, (pss_cons (ps_if (pt_cmpR op_ne (pe_slice sl_str (pv 0) (po_some (pv 1)) (po_some (pe_op op_add (pv 1) pe_int))) (pv 2) (nomark _)) 
        (pss_one (ps_never)) pss_nil)
      (pss_one (ps_ret (pe_op op_add (pv 1) pe_int)))), ?_⟩
    have hd : t.drop a = [c] ++ t.drop (a + 1) := by
      have h1 : a < t.length := (List.getElem?_eq_some_iff.mp hc).1
      rw [List.drop_eq_getElem_cons h1, (List.getElem?_eq_some_iff.mp hc).2]
      rfl
    refine ⟨_, rfl, _, rfl, _, rfl, _, rfl, _, _, rfl, rfl, _, rfl, _, rfl, by rw [tx_len]; exact hl, _, rfl, rfl, _, rfl, ?_⟩
    refine iteNS (congrArg V.str (cut_at hd rfl rfl)) ?_
    exact ⟨_, rfl, _, _, rfl, rfl, q⟩
theorem ok_small_end {f fR : Addr} {fd fdR : FuncData} (F : Fun K "small_end" "small_end" s_small_end f fd) (h_run_end : Has P w K mg base "run_end" 1 ["text", "at", "signs", "most"] spRunEnd fR fdR) : FnOk P w K mg base CX0 2 f fd ["text", "at"] spSmallEnd := by
  refine F.ok sc_small_end (fun vs H Q E h => ?_) (fun cdv A outer s H vs Q E hr h => ?_)
  · obtain ⟨t, l, r, a, rfl, _⟩ := h
    rfl
  · obtain ⟨t, l, r, a, rfl, hl, hd, ⟨s1, s2, s3⟩, hs, q⟩ := h
    refine ⟨_, (pss_cons (ps_set (i := 2) sc_small_end.nd rfl (.inl rfl) (pe_callH h_run_end (hr.mono (by first | decide | omega)) (by rfl) (pa_cons (pv 0) (pa_cons (pv 1) (pa_cons (pe_globS (by rfl) T.g_SMALL) (pa_cons (pe_globI (by rfl) T.g_MOST_SMALL) pa_nil))))))
      (pss_cons (ps_if (pt_cmpR op_eq (pv 2) (pv 1) (nomark _)) 
        (pss_one (ps_never)) pss_nil)
      (pss_one (ps_ret (pv 2))))), ?_⟩
    have hrun : runLen t smalls a 4 = l.length := run_is hd s3 s2 (.inr (hs.not (by decide) (by decide)))
    refine ⟨_, rfl, _, rfl, t, smalls, a, 4, by rw [smalls_tx]; rfl, hl, ?_⟩
    rw [hrun]
    refine ⟨_, rfl, _, rfl, rfl, _, rfl, ?_⟩
    refine ite2 (fun h => ?_) (fun h => ⟨_, rfl, q⟩)
    have h := V.int.inj (of_decide_eq_true h)
    omega
theorem ok_number_end {f fR : Addr} {fd fdR : FuncData} (F : Fun K "number_end" "number_end" s_number_end f fd) (h_run_end : Has P w K mg base "run_end" 1 ["text", "at", "signs", "most"] spRunEnd fR fdR) : FnOk P w K mg base CX0 2 f fd ["text", "at"] spNumEnd := by
  refine F.ok sc_number_end (fun vs H Q E h => ?_) (fun cdv A outer s H vs Q E hr h => ?_)
  · obtain ⟨t, l, r, a, rfl, _⟩ := h
    rfl
  · obtain ⟨t, l, r, a, rfl, hl, hd, hn, hs, q⟩ := h
    refine ⟨_, (pss_cons (ps_if (pt_cmpR op_eq (pe_ix ix_str (pv 0) (pv 1) (fun _ _ => rfl)) pe_str (nomark _)) 
        (pss_one (ps_ret (pe_op op_add (pv 1) pe_int))) pss_nil)
      (pss_cons (ps_set (i := 2) sc_number_end.nd rfl (.inl rfl) (pe_ifExp (pt_cmpR op_eq (pe_ix ix_str (pv 0) (pv 1) (fun _ _ => rfl)) pe_str (nomark _)) (pe_op op_add (pv 1) pe_int) (pv 1)))
      (pss_cons (ps_set (i := 3) sc_number_end.nd rfl (.inl rfl) (pe_callH h_run_end (hr.mono (by first | decide | omega)) (by rfl) (pa_cons (pv 0) (pa_cons (pv 2) (pa_cons (pe_globS (by rfl) T.g_FIRST_FIGURES) (pa_cons pe_int pa_nil))))))
      (pss_cons (ps_if (pt_cmpR op_eq (pv 3) (pv 2) (nomark _)) 
        (pss_one (ps_never)) pss_nil)
      (pss_one (ps_ret (pe_callH h_run_end (hr.mono (by first | decide | omega)) (by rfl) (pa_cons (pv 0) (pa_cons (pv 3) (pa_cons (pe_globS (by rfl) T.g_FIGURES) (pa_cons (pe_op op_sub (pe_globI (by rfl) T.g_MOST_FIGURES) pe_int) pa_nil))))))))))), ?_⟩
    have z0 : Str.ofString "0" = tx [48] := by decide +kernel
    have zm : Str.ofString "-" = tx [45] := by decide +kernel
    have hls : (tx t).length ≤ sizeLine := by rw [tx_len]; exact hl
    rcases hn with rfl | ⟨d, ds, hld, h1, h2, h3⟩
    · have at0 := (drop_at hd).1
      refine ⟨_, rfl, _, rfl, _, _, 48, rfl, rfl, hls, atI_tx at0, rfl, _, rfl, ?_⟩
      rw [z0, one_tx, str_eq]
      refine iteT ⟨_, rfl, _, _, rfl, rfl, ?_⟩
      exact q
    · have d1 : 49 ≤ d ∧ d ≤ 57 := by
        unfold figs1 at h1
        obtain ⟨j, hj, rfl⟩ := List.mem_map.mp h1
        have := List.mem_range.mp hj
        omega
      have fin : ∀ b : Nat, t.drop b = d :: ds ++ r → runLen t figs1 b 1 = 1 ∧ runLen t figs (b + 1) 11 = ds.length := by
        intro b hb
        refine ⟨run_is (l := [d]) (r := ds ++ r) (by simpa using hb) (by simpa using h1) (Nat.le_refl 1) (.inl rfl), ?_⟩
        exact run_is (drop_more (l := [d]) (by simpa using hb)) h3 h2 (.inr (hs.not (by decide) (by decide)))
      have tail : ∀ b : Nat, t.drop b = d :: ds ++ r → a + l.length = b + 1 + ds.length → ∀ (x2 : Option V),
          tSeq (tAsg (tCall spRunEnd [] E0 (tCons (tVar 0) (tCons (tVar 2) (tCons (tC (V.str (Str.ofString "123456789"))) (tCons (tC (V.int 1)) tNil))))) (gName 3))
            (tSeq (tIfS (tTest (tOp rEq (tVar 3) (tVar 2))) tNever tNext)
              (tRet (tCall spRunEnd [] E0 (tCons (tVar 0) (tCons (tVar 3) (tCons (tC (V.str (Str.ofString "0123456789"))) (tCons (tOp (rI0 fun i j => V.int (i - j)) (tC (V.int 12)) (tC (V.int 1))) tNil)))))))
            { nx := fun x H' => Q V.non H', rt := Q } [some (.str (tx t)), some (.int a), some (.int b), x2] H := by
        intro b hb he x2
        obtain ⟨r1, r2⟩ := fin b hb
        refine ⟨_, rfl, _, rfl, t, figs1, b, 1, by rw [figs1_tx]; rfl, hl, ?_⟩
        rw [r1]
        refine ⟨_, rfl, _, rfl, rfl, _, rfl, ?_⟩
        refine ite2 (fun h => ?_) (fun h => ?_)
        · have h := V.int.inj (of_decide_eq_true h)
          omega
        · refine ⟨_, rfl, _, rfl, _, _, rfl, rfl, t, figs, b + 1, 11, by rw [figs_tx]; rfl, hl, ?_⟩
          rw [r2, ← he]
          exact q
      rcases hld with rfl | rfl
      · have at0 := (drop_at hd).1
        refine ⟨_, rfl, _, rfl, _, _, d, rfl, rfl, hls, atI_tx at0, rfl, _, rfl, ?_⟩
        rw [z0, one_tx, str_eq, decide_eq_false (by simp; omega)]
        refine iteF ⟨_, rfl, _, rfl, _, _, d, rfl, rfl, hls, atI_tx at0, rfl, _, rfl, ?_⟩
        rw [zm, one_tx, str_eq, decide_eq_false (by simp; omega)]
        refine iteF ⟨_, rfl, ?_⟩
        exact tail a hd (by simp; omega) _
      · have at0 := (drop_at hd).1
        refine ⟨_, rfl, _, rfl, _, _, 45, rfl, rfl, hls, atI_tx at0, rfl, _, rfl, ?_⟩
        rw [z0, one_tx, str_eq, decide_eq_false (by decide)]
        refine iteF ⟨_, rfl, _, rfl, _, _, 45, rfl, rfl, hls, atI_tx at0, rfl, _, rfl, ?_⟩
        rw [zm, one_tx, str_eq, decide_eq_true rfl]
        refine iteT ⟨_, rfl, _, _, rfl, rfl, ?_⟩
        exact tail (a + 1) (drop_more (l := [45]) hd) (by simp; omega) _
end
end K


set_option Elab.async false
set_option linter.all false
set_option maxRecDepth 100000
set_option maxHeartbeats 4000000
namespace K
open PySem PySem.Spec PyProof.Rows L2 U
theorem keys_eq : wkv.map (·.1) = Wd.all.map fun w => tx w.cs := by
  unfold wkv
  rw [List.map_map]
  rfl
theorem in_keys (l : List Nat) : (tx l ∈ wkv.map (·.1)) ↔ isWd l := by
  rw [keys_eq, List.mem_map]
  constructor
  · rintro ⟨w, _, e⟩
    exact ⟨w, (tx_inj e).symm⟩
  · rintro ⟨w, e⟩
    exact ⟨w, w.mem, by rw [e]⟩
theorem wd_short : ∀ w : Wd, ∀ j, j < w.cs.length → ¬ isWd (w.cs.take j) := by
  intro w
  cases w <;> decide
theorem wd_starts : ∀ w : Wd, ∀ j, j < w.cs.length → Txt.startswith (tx w.cs) (tx (w.cs.take (j + 1))) = true := by
  intro w
  cases w <;> decide +kernel
theorem wd_len : ∀ w : Wd, 1 ≤ w.cs.length ∧ w.cs.length ≤ 6 := by
  intro w
  cases w <;> decide
def spWordEnd : Sp := fun vs H Q _ => ∃ (t r : List Nat) (a : Nat) (w : Wd), vs = [.str (tx t), .int a] ∧ t.length ≤ sizeLine ∧ t.drop a = w.cs ++ r ∧ ∀ H', Same H H' → Q (.int ((a + w.cs.length : Nat) : Int)) H'
section
variable {P : Program} {w : World} {K : PySem.W.Frag} {mg : Str → Option Value} {base : Heap} {dW dB : Addr} {esW : Array DictEntry} {nW : Nat} (T : Txt K mg w dW dB esW nW)
include T
theorem ok_word_end {f : Addr} {fd : FuncData} (F : Fun K "word_end" "word_end" s_word_end f fd) : FnOk P w K mg base CX0 1 f fd ["text", "at"] spWordEnd := by
  refine F.ok sc_word_end (fun vs H Q E h => ?_) (fun cdv A outer s H vs Q E hr h => ?_)
  · obtain ⟨t, r, a, w', rfl, _⟩ := h
    rfl
  · obtain ⟨t, r, a, wd, rfl, hl, hd, q⟩ := h
    have hls : (tx t).length ≤ sizeLine := by rw [tx_len]; exact hl
    have wl := wd_len wd
    have tl : a + wd.cs.length ≤ t.length := by
      have h := congrArg List.length hd
      rw [List.length_drop, List.length_append] at h
      omega
    have cut : ∀ j, j ≤ wd.cs.length → t.drop a = wd.cs.take j ++ (wd.cs.drop j ++ r) := fun j _ => by
      rw [hd, ← List.append_assoc, List.take_append_drop]
    have len : ∀ j, j ≤ wd.cs.length → (wd.cs.take j).length = j := fun j hj => by rw [List.length_take]; omega
    refine ⟨_, (pss_cons (ps_set (i := 2) sc_word_end.nd rfl (.inl rfl) (pv 1))
      (pss_cons (ps_while PassesOwn.never (pt_cmpR (op_notIn_tab T.W) (pe_slice sl_str (pv 0) (po_some (pv 1)) (po_some (pv 2))) (pe_globR (by rfl) T.gW) (by rfl)) 
        (pss_cons (ps_set (i := 3) sc_word_end.nd rfl (.inr rfl) (pe_slice sl_str (pv 0) (po_some (pv 1)) (po_some (pe_op op_add (pv 2) pe_int))))
        (pss_cons (ps_if (PW.pt (pw_or (pt_cmpR op_eq (pv 2) (pe_callB call_len_str (by rfl) T.z_len (by decide +kernel) (pa_cons (pv 0) pa_nil)) (nomark _)) (pw_or1 (pt_not (pt_val (pe_callB (cr_any rfl) (by rfl) T.z_any (by decide +kernel) (pa_cons (pe_lc (own := [("word", 4)]) (g := gName 4) (tt := tYes) rfl sc_word_end.nd (pi_tab T.W (pe_globR (by rfl) T.gW)) (blkOk_by (N := nm_word_end) (sc := defScope s_word_end) (by decide +kernel)) (fun _ _ _ _ _ => pg_name (i := 4) sc_word_end.nd rfl (.inl rfl)) (fun _ _ _ _ _ => pts_nil) (fun _ _ _ _ _ => (pe_m1 PySem.F.slot_str_startswith PySem.F.type_str_startswith mt_startswith (pv 4) (pv 3)))) pa_nil))))))) 
          (pss_one (ps_never)) pss_nil)
        (pss_one (ps_aug (i := 2) sc_word_end.nd rfl (.inl rfl) pe_int ip_add)))))
      (pss_one (ps_ret (pv 2))))), ?_⟩
    refine ⟨_, rfl, fun m σ H' => Same H H' ∧ ∃ (j : Nat) (x3 x4 : Option V), σ = [some (.str (tx t)), some (.int a), some (.int ((a + j : Nat) : Int)), x3, x4] ∧ j + m = wd.cs.length, ⟨wd.cs.length, Same.refl H, 0, _, _, rfl, Nat.zero_add _⟩, ?_⟩
    rintro m σ H1 ⟨s1, j, x3, x4, rfl, hj⟩
    refine ⟨_, rfl, _, rfl, _, rfl, _, rfl, _, rfl, _, rfl, hls, ?_⟩
    rw [cut_at (cut j (by omega)) rfl (by rw [len j (by omega)])]
    refine ⟨_, rfl, rfl, _, rfl, ?_⟩
    by_cases hw : isWd (wd.cs.take j)
    · rw [decide_eq_true ((in_keys _).mpr hw)]
      have hjj : ¬ j < wd.cs.length := fun h => wd_short wd j h hw
      have e : j = wd.cs.length := by omega
      refine iteF ⟨_, rfl, ?_⟩
      rw [e]
      exact q H1 s1
    · rw [decide_eq_false (fun h => hw ((in_keys _).mp h))]
      have hlt : j < wd.cs.length := by
        refine Nat.lt_of_le_of_ne (by omega) fun e => hw ?_
        rw [e, List.take_length]
        exact wd_is wd
      refine iteT ⟨fun σ' H' => Same H H' ∧ ∃ (x3 x4 : Option V), σ' = [some (.str (tx t)), some (.int a), some (.int ((a + (j + 1) : Nat) : Int)), x3, x4], ?_, ?_⟩
      · rintro σ' H' ⟨s2, y3, y4, rfl⟩
        exact ⟨m - 1, by omega, s2, j + 1, y3, y4, rfl, by omega⟩
      · refine ⟨_, rfl, _, rfl, _, rfl, _, rfl, _, _, rfl, rfl, _, rfl, _, rfl, hls, ?_⟩
        rw [cut_at (cut (j + 1) (by omega)) rfl (by rw [len (j + 1) (by omega)]; rfl)]
        obtain ⟨lg, hlg⟩ : ∃ lg, lg = wd.cs.take (j + 1) := ⟨_, rfl⟩
        rw [← hlg]
        refine ⟨_, rfl, _, rfl, _, rfl, hls, rfl, _, rfl, ?_⟩
        rw [tx_len]
        rw [decide_eq_false (fun e => by have e := V.int.inj e; omega)]
        refine iteF ⟨rfl, fun D hD => lc_do walk_tab (fun i H' => Same H1 H' ∧ H' D = some (.lst (((wkv.map (·.1)).take i).map fun k => V.bl (Txt.startswith k (tx lg))))) (fun _ => rfl) ⟨same_new hD, upd_same⟩ (fun _ _ _ _ => trivial) ?_ ?_⟩
        · rintro i x H2 H3 hi ⟨s2, d2⟩ ⟨rfl, k, hk, rfl⟩
          refine ⟨_, rfl, ⟨_, rfl⟩, _, rfl, _, _, rfl, rfl, _, d2, ?_, fun b o e => ?_, ?_⟩
          · rw [List.length_map, List.length_take, keys_eq]
            exact small1000 (by rw [List.length_map]; show min i 11 ≤ 1000; omega)
          · rw [upd_ne (ne_of_none e hD)]
            exact s2 _ _ e
          · rw [upd_same, List.take_add_one, hk, List.map_append]
            rfl
        · rintro H2 ⟨s2, d2⟩
          rw [List.take_length] at d2
          refine ⟨D, (wkv.map (·.1)).map fun k => Txt.startswith k (tx lg), rfl, .inl (.inl (by rw [d2, List.map_map]; rfl)), _, rfl, ?_⟩
          have e : (((wkv.map (·.1)).map fun k => Txt.startswith k (tx lg)).any id) = true := by
            rw [List.any_map, List.any_eq_true]
            exact ⟨tx wd.cs, (in_keys _).mpr (wd_is wd), hlg ▸ wd_starts wd j hlt⟩
          rw [e]
          refine iteF ⟨_, rfl, _, _, rfl, rfl, s1.trans s2, some (.str (tx lg)), x4, ?_⟩
          rfl
end
/-- a bracket's piece: where it ends, its word, its small name -/
def smV : Option (List Nat) → V
  | none => .non
  | some b => .str (tx b)
def pcV (p : Pc) : List V := [.str (tx p.kind), .int p.b, .int p.e, smV p.small]
def spBracket : Sp := fun vs H Q _ => ∃ (t r : List Nat) (a : Nat) (w : Wd) (b : List Nat), vs = [.str (tx t), .int a] ∧ t.length ≤ sizeLine ∧ t.drop a = hd w b ++ 32 :: r ∧ BndOk w b ∧ ∀ p H', Same H H' → H' p = some (.tup (pcV (op a w b))) → Q (.ref p) H'
theorem bind_in (w : Wd) : inV (V.str (tx w.cs)) [.str (Str.ofString "let"), .str (Str.ofString "def")] = w.bd := by
  cases w <;> decide +kernel
section
variable {P : Program} {w : World} {K : PySem.W.Frag} {mg : Str → Option Value} {base : Heap} {dW dB : Addr} {esW : Array DictEntry} {nW : Nat} (T : Txt K mg w dW dB esW nW)
include T
theorem ok_bracket_at {f f1 f2 f3 : Addr} {fd fd1 fd2 fd3 : FuncData} (F : Fun K "bracket_at" "bracket_at" s_bracket_at f fd) (h_word_end : Has P w K mg base "word_end" 1 ["text", "at"] spWordEnd f1 fd1)
    (h_behind : Has P w K mg base "behind_trees" 1 ["text", "at", "sign"] spBehind f2 fd2) (h_small_end : Has P w K mg base "small_end" 2 ["text", "at"] spSmallEnd f3 fd3) : FnOk P w K mg base CX0 3 f fd ["text", "at"] spBracket := by
  refine F.ok sc_bracket_at (fun vs H Q E h => ?_) (fun cdv A outer s H vs Q E hr h => ?_)
  · obtain ⟨t, r, a, w', b, rfl, _⟩ := h
    rfl
  · obtain ⟨t, r, a, wd, b, rfl, hl, hdr, hb, q⟩ := h
    have hls : (tx t).length ≤ sizeLine := by rw [tx_len]; exact hl
    refine ⟨_, (pss_cons (ps_set (i := 2) sc_bracket_at.nd rfl (.inl rfl) (pe_callH h_word_end (hr.mono (by first | decide | omega)) (by rfl) (pa_cons (pv 0) (pa_cons (pe_op op_add (pv 1) pe_int) pa_nil))))
      (pss_cons (ps_set (i := 3) sc_bracket_at.nd rfl (.inl rfl) (pe_slice sl_str (pv 0) (po_some (pe_op op_add (pv 1) pe_int)) (po_some (pv 2))))
      (pss_cons (ps_if (pt_cmpR op_notIn_seq (pv 3) (pe_globR (by rfl) T.gB) (by rfl)) 
        (pss_one (ps_ret (pe_tup (pa_cons (pv 3) (pa_cons (pv 1) (pa_cons (pv 2) (pa_cons pe_non pa_nil))))))) pss_nil)
      (pss_cons (ps_set (i := 4) sc_bracket_at.nd rfl (.inl rfl) (pe_callH h_behind (hr.mono (by first | decide | omega)) (by rfl) (pa_cons (pv 0) (pa_cons (pv 2) (pa_cons pe_str pa_nil)))))
      (pss_cons (ps_set (i := 2) sc_bracket_at.nd rfl (.inl rfl) (pe_callH h_small_end (hr.mono (by first | decide | omega)) (by rfl) (pa_cons (pv 0) (pa_cons (pv 4) pa_nil))))
      (pss_one (ps_ret (pe_tup (pa_cons (pv 3) (pa_cons (pv 1) (pa_cons (pv 2) (pa_cons (pe_slice sl_str (pv 0) (po_some (pv 4)) (po_some (pv 2))) pa_nil)))))))))))), ?_⟩
    unfold BndOk at hb
    have e1 : t.drop (a + 1) = wd.cs ++ ((if wd.bd then 32 :: b else []) ++ 32 :: r) := by
      refine drop_more (l := [40]) ?_
      rw [hdr]
      simp [hd]
    refine ⟨_, rfl, _, rfl, _, _, rfl, rfl, t, _, a + 1, wd, rfl, hl, e1, fun H1 s1 => ?_⟩
    refine ⟨_, rfl, _, rfl, _, _, rfl, rfl, _, rfl, _, rfl, _, rfl, _, rfl, hls, ?_⟩
    rw [cut_at (x := (a : Int) + 1) e1 rfl rfl]
    refine ⟨_, rfl, dB, _, rfl, .inr (T.B _), rfl, rfl, _, rfl, ?_⟩
    rw [show (if true = true then !inV (V.str (tx wd.cs)) [V.str (Str.ofString "let"), V.str (Str.ofString "def")] else inV (V.str (tx wd.cs)) [V.str (Str.ofString "let"), V.str (Str.ofString "def")]) = !wd.bd by rw [if_pos rfl, bind_in]]
    have fin : ∀ (e : Nat) (x : V), e = a + (hd wd b).length → x = smV (sm wd b) → [V.str (tx wd.cs), V.int a, V.int e, x] = pcV (op a wd b) := by
      intro e x he hx
      rw [he, hx]
      rfl
    cases hbd : wd.bd with
    | false =>
      rw [hbd] at hb
      simp only [Bool.false_eq_true, if_false] at hb
      subst hb
      refine iteT ⟨_, rfl, _, rfl, _, rfl, sizeLine_ge (by show 4 ≤ 10000; decide), fun p hp => ?_⟩
      refine q p _ (s1.trans (same_new hp)) (upd_same.trans ?_)
      refine congrArg (fun l => some (HO.tup l)) (fin (a + 1 + wd.cs.length) .non ?_ ?_)
      · simp [hd, hbd]
        omega
      · simp [sm, hbd, smV]
    | true =>
      rw [hbd] at hb
      simp only [if_true] at hb
      have e2 : t.drop (a + 1 + wd.cs.length) = 32 :: (b ++ 32 :: r) := by
        refine drop_more ?_
        rw [e1, hbd]
        simp
      have e3 : t.drop (a + 1 + wd.cs.length + 1) = b ++ 32 :: r := drop_more (l := [32]) e2
      have bl : Str.ofString " " = tx [32] := by decide +kernel
      refine iteF ⟨_, rfl, _, rfl, t, a + 1 + wd.cs.length, 32, by rw [bl]; rfl, hl, (drop_at e2).1, ?_⟩
      refine ⟨_, rfl, _, rfl, t, b, 32 :: r, a + 1 + wd.cs.length + 1, rfl, hl, e3, hb, fun c hc => .inl (Option.some.inj hc).symm, ?_⟩
      refine ⟨_, rfl, _, rfl, _, rfl, _, rfl, _, rfl, _, rfl, _, rfl, _, rfl, _, rfl, hls, ?_⟩
      rw [cut_at e3 rfl rfl]
      refine ⟨sizeLine_ge (by show 4 ≤ 10000; decide), fun p hp => q p _ (s1.trans (same_new hp)) (upd_same.trans ?_)⟩
      refine congrArg (fun l => some (HO.tup l)) (fin (a + 1 + wd.cs.length + 1 + b.length) _ ?_ ?_)
      · simp [hd, hbd]
        omega
      · simp [sm, hbd, smV]
def spPiece : Sp := fun vs H Q _ => ∃ (t r : List Nat) (a : Nat) (k : U.Tm), vs = [.str (tx t), .int a] ∧ t.length ≤ sizeLine ∧ k.Ok ∧ t.drop a = k.pr ++ r ∧ Sep r ∧ ∀ p H', Same H H' → H' p = some (.tup (pcV (k.hp a))) → Q (.ref p) H'
omit T in
theorem smalls_iff {c : Nat} : c ∈ smalls ↔ 97 ≤ c ∧ c ≤ 122 := by
  unfold smalls
  rw [List.mem_map]
  exact ⟨fun ⟨j, hj, e⟩ => by have := List.mem_range.mp hj; omega, fun h => ⟨c - 97, List.mem_range.mpr (by omega), by omega⟩⟩
omit T in
theorem greats_iff {c : Nat} : c ∈ greats ↔ 65 ≤ c ∧ c ≤ 90 := by
  unfold greats
  rw [List.mem_map]
  exact ⟨fun ⟨j, hj, e⟩ => by have := List.mem_range.mp hj; omega, fun h => ⟨c - 65, List.mem_range.mpr (by omega), by omega⟩⟩
omit T in
theorem figs_iff {c : Nat} : c ∈ figs ↔ 48 ≤ c ∧ c ≤ 57 := by
  unfold figs
  rw [List.mem_map]
  exact ⟨fun ⟨j, hj, e⟩ => by have := List.mem_range.mp hj; omega, fun h => ⟨c - 48, List.mem_range.mpr (by omega), by omega⟩⟩
omit T in
theorem in_smalls (c : Nat) : decide (c ∈ (Str.ofString "abcdefghijklmnopqrstuvwxyz").cps.toList) = decide (97 ≤ c ∧ c ≤ 122) := by
  rw [smalls_tx, tx_cps]
  exact decide_eq_decide.mpr smalls_iff
omit T in
theorem in_greats (c : Nat) : decide (c ∈ (Str.ofString "ABCDEFGHIJKLMNOPQRSTUVWXYZ").cps.toList) = decide (65 ≤ c ∧ c ≤ 90) := by
  rw [greats_tx, tx_cps]
  exact decide_eq_decide.mpr greats_iff
omit T in
theorem in_figs (c : Nat) : decide (c ∈ (Str.ofString "0123456789").cps.toList) = decide (48 ≤ c ∧ c ≤ 57) := by
  rw [figs_tx, tx_cps]
  exact decide_eq_decide.mpr figs_iff
omit T in
theorem is_sign (c d : Nat) {z : Str} (e : z = tx [d]) : decide (V.str (⟨#[c]⟩ : Str) = V.str z) = decide (c = d) := by
  rw [one_tx, e, str_eq]
  exact decide_eq_decide.mpr (by simp)
theorem ok_piece_at {f f1 f2 f3 : Addr} {fd fd1 fd2 fd3 : FuncData} (F : Fun K "piece_at" "piece_at" s_piece_at f fd) (h_bracket_at : Has P w K mg base "bracket_at" 3 ["text", "at"] spBracket f1 fd1)
    (h_run_end : Has P w K mg base "run_end" 1 ["text", "at", "signs", "most"] spRunEnd f2 fd2) (h_number_end : Has P w K mg base "number_end" 2 ["text", "at"] spNumEnd f3 fd3) : FnOk P w K mg base CX0 4 f fd ["text", "at"] spPiece := by
  refine F.ok sc_piece_at (fun vs H Q E h => ?_) (fun cdv A outer s H vs Q E hr h => ?_)
  · obtain ⟨t, r, a, k, rfl, _⟩ := h
    rfl
  · obtain ⟨t, r, a, k, rfl, hl, ok, hd, hs, q⟩ := h
    have hls : (tx t).length ≤ sizeLine := by rw [tx_len]; exact hl
    refine ⟨_, (pss_cons (ps_if (pt_cmpR op_eq (pv 1) (pe_callB call_len_str (by rfl) T.z_len (by decide +kernel) (pa_cons (pv 0) pa_nil)) (nomark _)) 
        (pss_one (ps_never)) pss_nil)
      (pss_cons (ps_set (i := 2) sc_piece_at.nd rfl (.inl rfl) (pe_ix ix_str (pv 0) (pv 1) (fun _ _ => rfl)))
      (pss_cons (ps_if (pt_cmpR op_eq (pv 2) pe_str (nomark _)) 
        (pss_one (ps_ret (pe_callH h_bracket_at (hr.mono (by first | decide | omega)) (by rfl) (pa_cons (pv 0) (pa_cons (pv 1) pa_nil))))) pss_nil)
      (pss_cons (ps_if (pt_cmpR op_in_sign (pv 2) (pe_globS (by rfl) T.g_SMALL) (by rfl)) 
        (pss_one (ps_ret (pe_tup (pa_cons pe_str (pa_cons (pv 1) (pa_cons (pe_callH h_run_end (hr.mono (by first | decide | omega)) (by rfl) (pa_cons (pv 0) (pa_cons (pv 1) (pa_cons (pe_globS (by rfl) T.g_SMALL) (pa_cons (pe_globI (by rfl) T.g_MOST_SMALL) pa_nil))))) (pa_cons pe_non pa_nil))))))) pss_nil)
      (pss_cons (ps_if (pt_cmpR op_in_sign (pv 2) (pe_globS (by rfl) T.g_GREAT) (by rfl)) 
        (pss_one (ps_ret (pe_tup (pa_cons pe_str (pa_cons (pv 1) (pa_cons (pe_callH h_run_end (hr.mono (by first | decide | omega)) (by rfl) (pa_cons (pv 0) (pa_cons (pv 1) (pa_cons (pe_globS (by rfl) T.g_GREAT) (pa_cons (pe_globI (by rfl) T.g_MOST_GREAT) pa_nil))))) (pa_cons pe_non pa_nil))))))) pss_nil)
      (pss_cons (ps_if (PW.pt (pw_or (pt_cmpR op_eq (pv 2) pe_str (nomark _)) (pw_or1 (pt_cmpR op_in_sign (pv 2) (pe_globS (by rfl) T.g_FIGURES) (by rfl))))) 
        (pss_one (ps_ret (pe_tup (pa_cons pe_str (pa_cons (pv 1) (pa_cons (pe_callH h_number_end (hr.mono (by first | decide | omega)) (by rfl) (pa_cons (pv 0) (pa_cons (pv 1) pa_nil))) (pa_cons pe_non pa_nil))))))) pss_nil)
      (pss_one (ps_never)))))))), ?_⟩
    have begin_ : ∀ c l, k.pr = c :: l → t.drop a = c :: (l ++ r) := fun c l e => by
      rw [hd, e]
      rfl
    have zb : Str.ofString "(" = tx [40] := by decide +kernel
    have zm : Str.ofString "-" = tx [45] := by decide +kernel
    have l4 : 4 ≤ sizeLine := sizeLine_ge (by decide)
    rcases view ok with ⟨kd, l, rfl, hk⟩ | ⟨wd, b, ks, v⟩
    · cases kd with
      | num =>
        obtain ⟨c, l', hc, hcs⟩ := num_first hk
        rw [figs_iff] at hcs
        obtain ⟨at0, lt⟩ := drop_at (begin_ c l' hc)
        refine ⟨_, rfl, _, rfl, _, rfl, hls, rfl, _, rfl, ?_⟩
        rw [tx_len, decide_eq_false (fun e => by have e := V.int.inj e; omega)]
        refine iteF ⟨_, rfl, _, rfl, _, _, c, rfl, rfl, hls, atI_tx at0, ?_⟩
        refine ⟨_, rfl, rfl, _, rfl, ?_⟩
        rw [is_sign c 40 zb, decide_eq_false (by omega)]
        refine iteF ⟨_, rfl, c, _, rfl, rfl, _, rfl, ?_⟩
        rw [in_smalls, decide_eq_false (by omega)]
        refine iteF ⟨_, rfl, c, _, rfl, rfl, _, rfl, ?_⟩
        rw [in_greats, decide_eq_false (by omega)]
        refine iteF ⟨_, rfl, rfl, _, rfl, ?_⟩
        rw [is_sign c 45 zm]
        have fin : tRet (tTup (tCons (tC (V.str (Str.ofString "number"))) (tCons (tVar 1) (tCons (tCall spNumEnd [] E0 (tCons (tVar 0) (tCons (tVar 1) tNil))) (tCons (tC V.non) tNil))))) { nx := tNever { nx := fun x H' => Q V.non H', rt := Q }, rt := Q }
            [some (.str (tx t)), some (.int a), some (.str ⟨#[c]⟩)] H := by
          refine ⟨_, rfl, _, rfl, _, rfl, t, l, r, a, rfl, hl, hd, hk, hs, l4, fun p hp => q p _ (same_new hp) (upd_same.trans ?_)⟩
          rw [show Str.ofString "number" = tx Kd.num.cs by decide +kernel]
          rfl
        by_cases h45 : c = 45
        · rw [decide_eq_true h45]
          exact iteT (iteT fin)
        · rw [decide_eq_false h45]
          refine iteF ⟨_, rfl, c, _, rfl, rfl, _, rfl, ?_⟩
          rw [in_figs, decide_eq_true (by omega)]
          exact iteT fin
      | name =>
        obtain ⟨c, l', hc, hcs⟩ := some_first hk.1 hk.2.2
        rw [smalls_iff] at hcs
        obtain ⟨at0, lt⟩ := drop_at (begin_ c l' hc)
        refine ⟨_, rfl, _, rfl, _, rfl, hls, rfl, _, rfl, ?_⟩
        rw [tx_len, decide_eq_false (fun e => by have e := V.int.inj e; omega)]
        refine iteF ⟨_, rfl, _, rfl, _, _, c, rfl, rfl, hls, atI_tx at0, ?_⟩
        refine ⟨_, rfl, rfl, _, rfl, ?_⟩
        rw [is_sign c 40 zb, decide_eq_false (by omega)]
        refine iteF ⟨_, rfl, c, _, rfl, rfl, _, rfl, ?_⟩
        rw [in_smalls, decide_eq_true (by omega)]
        refine iteT ⟨_, rfl, _, rfl, _, rfl, t, smalls, a, 4, by rw [smalls_tx]; rfl, hl, ?_⟩
        rw [run_is hd hk.2.2 hk.2.1 (.inr (hs.not (by decide) (by decide)))]
        refine ⟨l4, fun p hp => q p _ (same_new hp) (upd_same.trans ?_)⟩
        rw [show Str.ofString "name" = tx Kd.name.cs by decide +kernel]
        rfl
      | part =>
        obtain ⟨c, l', hc, hcs⟩ := some_first hk.1 hk.2.2
        rw [greats_iff] at hcs
        obtain ⟨at0, lt⟩ := drop_at (begin_ c l' hc)
        refine ⟨_, rfl, _, rfl, _, rfl, hls, rfl, _, rfl, ?_⟩
        rw [tx_len, decide_eq_false (fun e => by have e := V.int.inj e; omega)]
        refine iteF ⟨_, rfl, _, rfl, _, _, c, rfl, rfl, hls, atI_tx at0, ?_⟩
        refine ⟨_, rfl, rfl, _, rfl, ?_⟩
        rw [is_sign c 40 zb, decide_eq_false (by omega)]
        refine iteF ⟨_, rfl, c, _, rfl, rfl, _, rfl, ?_⟩
        rw [in_smalls, decide_eq_false (by omega)]
        refine iteF ⟨_, rfl, c, _, rfl, rfl, _, rfl, ?_⟩
        rw [in_greats, decide_eq_true (by omega)]
        refine iteT ⟨_, rfl, _, rfl, _, rfl, t, greats, a, 6, by rw [greats_tx]; rfl, hl, ?_⟩
        rw [run_is hd hk.2.2 hk.2.1 (.inr (hs.not (by decide) (by decide)))]
        refine ⟨l4, fun p hp => q p _ (same_new hp) (upd_same.trans ?_)⟩
        rw [show Str.ofString "part" = tx Kd.part.cs by decide +kernel]
        rfl
    · obtain ⟨k1, ks', rfl⟩ : ∃ k1 ks', ks = k1 :: ks' := by
        have := v.ar
        cases ks with
        | nil =>
          exfalso
          cases wd <;> simp [Wd.ar] at this
        | cons k1 ks' => exact ⟨k1, ks', rfl⟩
      have hd2 : t.drop a = U.hd wd b ++ 32 :: (k1.pr ++ kT ks' ++ [41] ++ r) := by
        rw [hd, v.pr, kT]
        simp
      have hd3 : t.drop a = 40 :: (wd.cs ++ (if wd.bd then 32 :: b else []) ++ 32 :: (k1.pr ++ kT ks' ++ [41] ++ r)) := hd2
      obtain ⟨at0, lt⟩ := drop_at hd3
      refine ⟨_, rfl, _, rfl, _, rfl, hls, rfl, _, rfl, ?_⟩
      rw [tx_len, decide_eq_false (fun e => by have e := V.int.inj e; omega)]
      refine iteF ⟨_, rfl, _, rfl, _, _, 40, rfl, rfl, hls, atI_tx at0, ?_⟩
      refine ⟨_, rfl, rfl, _, rfl, ?_⟩
      rw [is_sign 40 40 zb, decide_eq_true rfl]
      refine iteT ⟨_, rfl, _, rfl, t, _, a, wd, b, rfl, hl, hd2, v.bn, fun p H' s1 hp => q p H' s1 ?_⟩
      rw [v.hp a]
      exact hp
end
end K


set_option Elab.async false
set_option linter.all false
set_option maxRecDepth 100000
set_option maxHeartbeats 4000000
namespace K
open PySem PySem.Spec PyProof.Rows L2 U
abbrev PcsAt (H : Hp) (ps : List Addr) (cs : List Pc) : Prop := Paired (fun p c => H p = some (.tup (pcV c))) ps cs
/-- all tuples are as they were -/
def Tups (H H' : Hp) : Prop := ∀ p xs, H p = some (.tup xs) → H' p = some (.tup xs)
theorem Tups.of {H H' : Hp} (h : Same H H') : Tups H H' := fun p xs e => h p _ e
theorem Tups.trans {H H1 H2 : Hp} (a : Tups H H1) (b : Tups H1 H2) : Tups H H2 := fun p xs e => b p xs (a p xs e)
theorem Tups.upd {H : Hp} {a : Addr} {l : List V} {o : HO} (e : H a = some (.lst l)) : Tups H (upd H a o) := fun p xs h => by
  rw [upd_ne (ne_of h e (by intro z; cases z))]
  exact h
theorem PcsAt.tups {H H' : Hp} {ps : List Addr} {cs : List Pc} (h : PcsAt H ps cs) (k : Tups H H') : PcsAt H' ps cs := by
  induction h with
  | nil => exact .nil
  | cons r t ih => exact .cons (k _ _ r) ih
/-- but for these two all is as it was, where they are new -/
theorem upd_new {H G : Hp} {a : Addr} {o : HO} (n : H a = none) (h : Same H G) : Same H (upd G a o) := fun b u e => by
  rw [upd_ne (ne_of_none e n)]
  exact h b u e
/-- how many terms each open bracket lacks, the innermost last -/
def lkV (R : List (List U.Tm)) : List V := (R.map fun ks => V.int ks.length).reverse
theorem lkV_cons (ks : List U.Tm) (R : List (List U.Tm)) : lkV (ks :: R) = lkV R ++ [V.int ks.length] := by simp [lkV]
theorem lkV_len (R : List (List U.Tm)) : (lkV R).length = R.length := by simp [lkV]
theorem ar_in (w : Wd) : ∃ i, (tx w.cs, i) ∈ wkv := ⟨_, List.mem_map.mpr ⟨w, w.mem, rfl⟩⟩
theorem cs_inj : ∀ w v : Wd, w.cs = v.cs → w = v := by
  intro w v
  cases w <;> cases v <;> decide
theorem ar_is (w : Wd) {i : Int} (h : (tx w.cs, i) ∈ wkv) : i = w.ar := by
  obtain ⟨v, _, e⟩ := List.mem_map.mp h
  rw [Prod.mk.injEq] at e
  rw [← e.2, cs_inj v w (tx_inj e.1)]
def spPieces : Sp := fun vs H Q _ => ∃ (k : U.Tm), vs = [.str (tx k.pr)] ∧ k.pr.length ≤ sizeLine ∧ k.Ok ∧ k.size ≤ 1000 ∧ ∀ p H' ps, Same H H' → H' p = some (.lst (ps.map V.ref)) → PcsAt H' ps (k.pc 0) → Q (.ref p) H'
section
variable {P : Program} {w : World} {K : PySem.W.Frag} {mg : Str → Option Value} {base : Heap} {dW dB : Addr} {esW : Array DictEntry} {nW : Nat} (T : Txt K mg w dW dB esW nW)
include T
theorem ok_pieces_of {f f1 f2 : Addr} {fd fd1 fd2 : FuncData} (F : Fun K "pieces_of" "pieces_of" s_pieces_of f fd) (h_piece_at : Has P w K mg base "piece_at" 4 ["text", "at"] spPiece f1 fd1)
    (h_behind : Has P w K mg base "behind_trees" 1 ["text", "at", "sign"] spBehind f2 fd2) : FnOk P w K mg base CX0 5 f fd ["text"] spPieces := by
  refine F.ok sc_pieces_of (fun vs H Q E h => ?_) (fun cdv A outer s H vs Q E hr h => ?_)
  · obtain ⟨k, rfl, _⟩ := h
    rfl
  · obtain ⟨k0, rfl, hl, ok, hsz, q⟩ := h
    have hls : (tx k0.pr).length ≤ sizeLine := by rw [tx_len]; exact hl
    refine ⟨_, (pss_cons (ps_set (i := 1) sc_pieces_of.nd rfl (.inl rfl) (pe_lst pa_nil))
      (pss_cons (ps_set (i := 2) sc_pieces_of.nd rfl (.inl rfl) (pe_lst pa_nil))
      (pss_cons (ps_set (i := 3) sc_pieces_of.nd rfl (.inl rfl) pe_int)
      (pss_cons (ps_while PassesOwn.never (pt_val pe_bl) 
        (pss_cons (ps_set (i := 4) sc_pieces_of.nd rfl (.inl rfl) (pe_callH h_piece_at (hr.mono (by first | decide | omega)) (by rfl) (pa_cons (pv 0) (pa_cons (pv 3) pa_nil))))
        (pss_cons (ps_expr (pe_bm PySem.F.plainAttrs_list PySem.F.slot_list_append PySem.F.type_list_append mt_append (pv 1) (pa_cons (pv 4) pa_nil)))
        (pss_cons (ps_set (i := 3) sc_pieces_of.nd rfl (.inl rfl) (pe_ix ix_tup (pv 4) pe_int (fun _ _ => rfl)))
        (Evl.pss_cut (ps_if (pt_cmpR (op_in_tab T.W) (pe_ix ix_tup (pv 4) pe_int (fun _ _ => rfl)) (pe_globR (by rfl) T.gW) (by rfl)) 
          (pss_one (ps_expr (pe_bm PySem.F.plainAttrs_list PySem.F.slot_list_append PySem.F.type_list_append mt_append (pv 2) (pa_cons (pe_ix (ix_tab T.W) (pe_globR (by rfl) T.gW) (pe_ix ix_tup (pv 4) pe_int (fun _ _ => rfl)) (fun _ _ => rfl)) pa_nil)))) pss_nil)
        (pss_cons (ps_while PassesOwn.never (PW.pt (pw_and (pt_truth (pv 2) (by intro _; rfl)) (pw_and1 (pt_cmpR op_eq (pe_ix ix_list (pv 2) (pe_un un_neg pe_int) (fun _ _ => rfl)) pe_int (nomark _))))) 
          (pss_cons (ps_expr (pe_bm0 PySem.F.plainAttrs_list PySem.F.slot_list_pop PySem.F.type_list_pop mt_pop (pv 2)))
          (pss_cons (ps_expr (pe_bm PySem.F.plainAttrs_list PySem.F.slot_list_append PySem.F.type_list_append mt_append (pv 1) (pa_cons (pe_tup (pa_cons (pe_globS (by rfl) T.g_CLOSE) (pa_cons (pv 3) (pa_cons (pe_callH h_behind (hr.mono (by first | decide | omega)) (by rfl) (pa_cons (pv 0) (pa_cons (pv 3) (pa_cons (pe_globS (by rfl) T.g_CLOSE) pa_nil)))) (pa_cons pe_non pa_nil))))) pa_nil)))
          (pss_one (ps_aug (i := 3) sc_pieces_of.nd rfl (.inl rfl) pe_int ip_add)))))
        (pss_cons (ps_if (pt_not (pt_truth (pv 2) (by intro _; rfl))) 
          (pss_one (ps_break)) pss_nil)
        (pss_cons (ps_set (i := 3) sc_pieces_of.nd rfl (.inl rfl) (pe_callH h_behind (hr.mono (by first | decide | omega)) (by rfl) (pa_cons (pv 0) (pa_cons (pv 3) (pa_cons pe_str pa_nil)))))
        (pss_one (ps_augS (pv 2) (pe_un un_neg pe_int) get_last pe_int ip_sub set_list))))))))))
      (pss_cons (ps_if (pt_cmpR op_ne (pv 3) (pe_callB call_len_str (by rfl) T.z_len (by decide +kernel) (pa_cons (pv 0) pa_nil)) (nomark _)) 
        (pss_one (ps_never)) pss_nil)
      (pss_one (ps_ret (pv 1)))))))), ?_⟩
    have plen := pc_len k0 0
    -- pieces = [], lacking = [], at = 0
    refine ⟨Nat.zero_le _, fun aP hP => ⟨Nat.zero_le _, fun aL hL => ?_⟩⟩
    have nPL : aP ≠ aL := ne_of_none upd_same hL
    have hL0 : H aL = none := (same_new hP).free hL
    refine ⟨fun m σ H' => ∃ (k : U.Tm) (R : List (List U.Tm)) (a : Nat) (done : List Pc) (ps : List Addr) (x4 : Option V), σ = [some (.str (tx k0.pr)), some (.ref aP), some (.ref aL), some (.int a), x4] ∧ Same H H' ∧ Ahead k0.pr (k0.pc 0) k R a done ∧
      H' aP = some (.lst (ps.map V.ref)) ∧ PcsAt H' ps done ∧ H' aL = some (.lst (lkV R)) ∧ m = k.size + Rsize R, ⟨_, k0, [], 0, [], [], _, rfl, (same_new hP).trans (same_new hL), ahead_start ok, ?_, .nil, upd_same, rfl⟩, ?_⟩
    · rw [upd_ne nPL]
      exact upd_same
    rintro m σ H1 ⟨k, R, a, done, ps, x4, rfl, s1, ah, eP, pcs, eL, hm⟩
    have less := ah.less
    have md := ah.mid
    obtain ⟨alen, dlen⟩ := ah.bound
    have pl := pcs.length
    refine ⟨_, rfl, iteT ⟨fun σ' H' => ∃ m', m' < m ∧ _, fun σ' H' h => h, ?_⟩⟩
    -- piece = piece_at(text, at); pieces.append(piece)
    refine ⟨_, rfl, _, rfl, k0.pr, rT R, a, k, rfl, hl, ah.2.1, ah.1, sep_rT R, fun p H2 s2 hp2 => ?_⟩
    have eP2 := s2 _ _ eP
    have eL2 := s2 _ _ eL
    have npP : p ≠ aP := ne_of hp2 eP2 (by intro z; cases z)
    have npL : p ≠ aL := ne_of hp2 eL2 (by intro z; cases z)
    refine ⟨_, rfl, .inl ⟨rfl, _, .inl (.inl eP2)⟩, _, rfl, aP, _, _, rfl, rfl, eP2, ?_, ?_⟩
    · rw [List.length_map]
      exact Nat.lt_of_lt_of_le (show ps.length < 10000 by omega) (sizeLine_ge (Nat.le_refl _))
    -- at = piece[2]
    have hp3 : (upd H2 aP (.lst (ps.map V.ref ++ [V.ref p]))) p = some (.tup (pcV (k.hp a))) := by
      rw [upd_ne npP]
      exact hp2
    refine ⟨_, rfl, p, _, _, _, rfl, rfl, .inl (.inl hp3), rfl, ?_⟩
    -- the words
    refine ⟨fun σ' H' => ∃ (R' : List (List U.Tm)) (a' : Nat) (done' : List Pc) (ps' : List Addr) (y4 : Option V), σ' = [some (.str (tx k0.pr)), some (.ref aP), some (.ref aL), some (.int a'), y4] ∧ Same H H' ∧ Mid k0.pr (k0.pc 0) R' a' done' ∧
      H' aP = some (.lst (ps'.map V.ref)) ∧ PcsAt H' ps' done' ∧ H' aL = some (.lst (lkV R')) ∧ a' ≤ k0.pr.length ∧ Rsize R' < m, ?_, ?_⟩
    · have eL3 : ∀ o, (upd H2 aP o) aL = some (.lst (lkV R)) := fun o => by
        rw [upd_ne nPL.symm]
        exact eL2
      have pcs2 : PcsAt (upd H2 aP (.lst (ps.map V.ref ++ [V.ref p]))) (ps ++ [p]) (done ++ [k.hp a]) :=
        Paired.app ((pcs.tups (Tups.of s2)).tups (Tups.upd eP2)) (.cons hp3 .nil)
      have sH : Same H (upd H2 aP (.lst (ps.map V.ref ++ [V.ref p]))) := upd_new hP (s1.trans s2)
      have lst : (upd H2 aP (.lst (ps.map V.ref ++ [V.ref p]))) aP = some (.lst ((ps ++ [p]).map V.ref)) := by
        rw [upd_same, List.map_append]
        rfl
      refine ⟨_, rfl, p, _, _, _, rfl, rfl, .inl (.inl hp3), rfl, _, rfl, rfl, _, rfl, ?_⟩
      have hend := hp_end k a
      rcases view ah.2.1 with ⟨kd, l, rfl, hk⟩ | ⟨wd, b, ks, v⟩
      · have e : decide (tx kd.cs ∈ wkv.map (·.1)) = false := decide_eq_false fun h => kd_wd kd ((in_keys _).mp h)
        show if decide (tx kd.cs ∈ wkv.map (·.1)) = true then _ else _
        rw [e]
        refine iteF ⟨R, a + l.length, _, ps ++ [p], _, rfl, sH, md, lst, pcs2, eL3 _, alen, by have h : Rsize R + 1 = _ := less; omega⟩
      · rw [v.hp a] at hp3 pcs2 md
        rw [v.openR, v.hlen] at md
        rw [v.hlen] at alen
        rw [v.openR] at less
        have e : decide (tx wd.cs ∈ wkv.map (·.1)) = true := decide_eq_true ((in_keys _).mpr (wd_is wd))
        rw [v.hp a]
        show if decide (tx wd.cs ∈ wkv.map (·.1)) = true then _ else _
        rw [e]
        refine iteT ⟨_, rfl, .inl ⟨rfl, _, .inl (.inl (eL3 _))⟩, _, rfl, p, _, _, _, rfl, rfl, .inl (.inl hp3), rfl, tx wd.cs, rfl, rfl, ar_in wd, fun i hi => ?_⟩
        rw [ar_is wd hi]
        refine ⟨aL, _, _, rfl, rfl, eL3 _, ?_, ?_⟩
        · rw [lkV_len]
          exact Nat.lt_of_lt_of_le ah.few hl
        · refine ⟨ks :: R, a + (hd wd b).length, _, ps ++ [p], _, rfl, upd_new hL0 sH, md, ?_, pcs2.tups (Tups.upd (eL3 _)), ?_, alen, by omega⟩
          · rw [upd_ne nPL]
            exact lst
          · rw [upd_same, lkV_cons, v.ar]
    · rintro σ2 H4 ⟨R4, a4, d4, p4, y4, rfl, s4, m4, eP4, pcs4, eL4, al4, lt4⟩
      refine ⟨fun n σ' H' => ∃ (R' : List (List U.Tm)) (a' : Nat) (done' : List Pc) (ps' : List Addr), σ' = [some (.str (tx k0.pr)), some (.ref aP), some (.ref aL), some (.int a'), y4] ∧ Same H H' ∧ Mid k0.pr (k0.pc 0) R' a' done' ∧
        H' aP = some (.lst (ps'.map V.ref)) ∧ PcsAt H' ps' done' ∧ H' aL = some (.lst (lkV R')) ∧ a' ≤ k0.pr.length ∧ Rsize R' < m ∧ n = R'.length, ⟨_, R4, a4, d4, p4, rfl, s4, m4, eP4, pcs4, eL4, al4, lt4, rfl⟩, ?_⟩
      rintro n σ5 H5 ⟨R', a', d', ps', rfl, s5, m5, eP5, pcs5, eL5, al5, lt5, rfl⟩
      have pl5 := pcs5.length
      cases R' with
      | nil =>
        -- all brackets are closed
        obtain ⟨e1, e2⟩ := m5.over al5
        refine ⟨_, rfl, false, .inl ⟨_, .inl (.inl eL5), rfl⟩, iteF (iteF ?_)⟩
        refine ⟨_, rfl, false, .inl ⟨_, .inl (.inl eL5), rfl⟩, iteT ?_⟩
        refine ⟨_, rfl, _, rfl, _, rfl, hls, rfl, _, rfl, ?_⟩
        refine iteNS (by rw [tx_len, e1]) ?_
        rw [e2] at pcs5
        exact ⟨_, rfl, q aP H5 ps' s5 eP5 pcs5⟩
      | cons ks R2 =>
        have eL6 := eL5
        rw [lkV_cons] at eL6
        have tru : true = !(lkV (ks :: R2)).isEmpty := by rw [lkV_cons]; simp
        refine ⟨_, rfl, true, .inl ⟨_, .inl (.inl eL5), tru⟩, iteT ⟨_, rfl, _, rfl, aL, _, _, _, rfl, rfl, .inl (.inl eL6), atI_end _ _, rfl, _, rfl, ?_⟩⟩
        cases ks with
        | nil =>
          rw [decide_eq_true (show V.int (([] : List U.Tm).length : Nat) = V.int 0 from rfl)]
          obtain ⟨at41, m6⟩ := m5.close
          have room := m5.room
          refine iteT ⟨fun σ' H' => ∃ n', n' < (([] : List U.Tm) :: R2).length ∧ _, fun σ' H' h => h, ?_⟩
          refine ⟨_, rfl, .inl ⟨rfl, _, .inl (.inl eL6)⟩, aL, _, .int (([] : List U.Tm).length : Nat), rfl, rfl, eL6, by simp, ?_⟩
          rw [List.dropLast_concat]
          have eP6 : (upd H5 aL (.lst (lkV R2))) aP = some (.lst (ps'.map V.ref)) := by
            rw [upd_ne nPL]
            exact eP5
          have cl41 : Str.ofString ")" = tx [41] := by decide +kernel
          refine ⟨_, rfl, .inl ⟨rfl, _, .inl (.inl eP6)⟩, _, rfl, _, rfl, _, rfl, k0.pr, a', 41, by rw [cl41]; rfl, hl, at41, sizeLine_ge (by show 4 ≤ 10000; decide), fun pT hT => ?_⟩
          have nT : aP ≠ pT := ne_of_none eP6 hT
          refine ⟨aP, _, _, rfl, rfl, (by rw [upd_ne nT]; exact eP6), ?_, ?_⟩
          · rw [List.length_map]
            exact Nat.lt_of_lt_of_le (show ps'.length < 10000 by omega) (sizeLine_ge (Nat.le_refl _))
          refine ⟨_, rfl, _, _, rfl, rfl, R2.length, by simp, R2, a' + 1, _, ps' ++ [pT], rfl, upd_new hP ((upd_new hL0 s5).trans (same_new hT)), m6, ?_, ?_, ?_, ?_, ?_, rfl⟩
          · rw [upd_same, List.map_append]
            rfl
          · refine Paired.app ((pcs5.tups (Tups.upd eL6)).tups ((Tups.of (same_new hT)).trans (Tups.upd ((same_new hT) _ _ eP6)))) (.cons ?_ .nil)
            rw [upd_ne nT.symm, upd_same, cl41]
            rfl
          · have nT2 : aL ≠ pT := ne_of_none (upd_same (H := H5) (o := .lst (lkV R2))) hT
            rw [upd_ne nPL.symm, upd_ne nT2, upd_same]
          · have := (List.getElem?_eq_some_iff.mp at41).1
            omega
          · have h : Rsize (([] : List U.Tm) :: R2) = Rsize R2 := by simp [Rsize]
            omega
        | cons k2 ks2 =>
          rw [decide_eq_false (show ¬ V.int ((k2 :: ks2).length : Nat) = V.int 0 from fun h => by have h := V.int.inj h; simp at h; omega)]
          obtain ⟨at32, ah6⟩ := m5.next
          refine iteF ?_
          refine ⟨_, rfl, true, .inl ⟨_, .inl (.inl eL5), tru⟩, iteF ?_⟩
          have bl : Str.ofString " " = tx [32] := by decide +kernel
          refine ⟨_, rfl, _, rfl, k0.pr, a', 32, by rw [bl]; rfl, hl, at32, ?_⟩
          refine ⟨_, rfl, _, rfl, aL, _, _, rfl, rfl, .inl (.inl eL6), _, _, rfl, rfl, aL, _, _, _, rfl, rfl, eL6, ixN_end _ _, ?_⟩
          rw [set_end]
          refine ⟨k2.size + Rsize (ks2 :: R2), ?_, k2, ks2 :: R2, a' + 1, d', ps', _, rfl, upd_new hL0 s5, ah6, ?_, pcs5.tups (Tups.upd eL5), ?_, rfl⟩
          · have h : Rsize ((k2 :: ks2) :: R2) = k2.size + Rsize (ks2 :: R2) := by
              simp [Rsize]
              omega
            omega
          · rw [upd_ne nPL]
            exact eP5
          · rw [upd_same, lkV_cons]
            simp
end
end K


set_option Elab.async false
set_option linter.all false
set_option maxRecDepth 100000
set_option maxHeartbeats 4000000
namespace K
open PySem PySem.Spec PyProof.Rows L2 U
def spCheck : Sp := fun vs H Q _ => ∃ (p : Addr) (ps : List Addr) (cs : List Pc), vs = [.ref p] ∧ H p = some (.lst (ps.map V.ref)) ∧ PcsAt H ps cs ∧ (cs.foldl szStep ⟨0, 0, 0⟩).d ≤ 30 ∧ (cs.foldl szStep ⟨0, 0, 0⟩).n ≤ 200 ∧ Q .non H
section
variable {P : Program} {w : World} {K : PySem.W.Frag} {mg : Str → Option Value} {base : Heap} {dW dB : Addr} {esW : Array DictEntry} {nW : Nat} (T : Txt K mg w dW dB esW nW)
include T
theorem ok_check_size {f : Addr} {fd : FuncData} (F : Fun K "check_size" "check_size" s_check_size f fd) : FnOk P w K mg base CX0 1 f fd ["pieces"] spCheck := by
  refine F.ok sc_check_size (fun vs H Q E h => ?_) (fun cdv A outer s H vs Q E hr h => ?_)
  · obtain ⟨p, ps, cs, rfl, _⟩ := h
    rfl
  · obtain ⟨p, ps, cs, rfl, hp, pcs, h30, h200, q⟩ := h
    refine ⟨_, (pss_cons (ps_set (i := 1) sc_check_size.nd rfl (.inl rfl) pe_int)
      (pss_cons (ps_set (i := 2) sc_check_size.nd rfl (.inl rfl) pe_int)
      (pss_cons (ps_set (i := 3) sc_check_size.nd rfl (.inl rfl) pe_int)
      (pss_cons (ps_for PassesOwn.never rfl (pi_list (pv 0)) (pg_name (i := 4) sc_check_size.nd rfl (.inl rfl)) 
        (Evl.pss_cut (ps_if (pt_cmpR op_eq (pe_ix ix_tup (pv 4) pe_int (fun _ _ => rfl)) (pe_globS (by rfl) T.g_CLOSE) (nomark _)) 
          (pss_one (ps_aug (i := 1) sc_check_size.nd rfl (.inl rfl) pe_int ip_sub)) 
          (pss_one (ps_aug (i := 2) sc_check_size.nd rfl (.inl rfl) pe_int ip_add)))
        (pss_one (ps_if (pt_cmpR (op_in_tab T.W) (pe_ix ix_tup (pv 4) pe_int (fun _ _ => rfl)) (pe_globR (by rfl) T.gW) (by rfl)) 
          (pss_cons (ps_aug (i := 1) sc_check_size.nd rfl (.inl rfl) pe_int ip_add)
          (pss_one (ps_set (i := 3) sc_check_size.nd rfl (.inl rfl) (pe_callB (call_max2 rfl) (by rfl) T.z_max (by decide +kernel) (pa_cons (pv 3) (pa_cons (pv 1) pa_nil)))))) pss_nil))))
      (pss_cons (ps_if (pt_cmpR op_gt (pv 3) (pe_globI (by rfl) T.g_MOST_OPEN) (nomark _)) 
        (pss_one (ps_never)) pss_nil)
      (pss_one (ps_if (pt_cmpR op_gt (pv 2) (pe_globI (by rfl) T.g_MOST_TERMS) (nomark _)) 
        (pss_one (ps_never)) pss_nil))))))), ?_⟩
    have len := pcs.length
    have cl41 : Str.ofString ")" = tx [41] := by decide +kernel
    refine ⟨_, rfl, p, rfl, ⟨_, .inl (.inl hp)⟩, for_it (walk_list (xs := ps.map V.ref)) (fun i σ H' => H' = H ∧ ∃ (z : Sz) (x4 : Option V), σ = [some (.ref p), some (.int z.o), some (.int z.n), some (.int z.d), x4] ∧ z = (cs.take i).foldl szStep ⟨0, 0, 0⟩)
      ⟨rfl, ⟨0, 0, 0⟩, _, rfl, rfl⟩ (fun i σ H' _ h => by rw [h.1]; exact .inl (.inl hp)) ?_ ?_⟩
    · rintro i x σ H1 H2 hi ⟨rfl, z, x4, rfl, hz⟩ ⟨rfl, hx⟩
      rw [List.length_map] at hi
      have hc : cs[i]? = some cs[i] := List.getElem?_eq_getElem (by omega)
      obtain ⟨pi, hpi, tp⟩ := Paired.at_ pcs hc
      have ex : x = .ref pi := by
        rw [List.getElem?_map, hpi] at hx
        exact (Option.some.inj hx).symm
      subst ex
      have nxt : (cs.take (i + 1)).foldl szStep ⟨0, 0, 0⟩ = szStep z cs[i] := by
        rw [List.take_add_one, hc, List.foldl_append, ← hz]
        rfl
      generalize cs[i] = c at tp nxt
      refine ⟨fun σ' H' => H' = H2 ∧ σ' = [some (.ref p), some (.int (sz1 c z).o), some (.int (sz1 c z).n), some (.int (sz1 c z).d), some (.ref pi)], ?_, ?_⟩
      · refine ⟨_, rfl, pi, _, _, _, rfl, rfl, .inl (.inl tp), rfl, rfl, _, rfl, ?_⟩
        rw [cl41, str_eq]
        unfold sz1
        by_cases h : c.kind = [41]
        · rw [decide_eq_true h, if_pos h]
          exact iteT ⟨_, rfl, _, _, rfl, rfl, rfl, rfl⟩
        · rw [decide_eq_false h, if_neg h]
          exact iteF ⟨_, rfl, _, _, rfl, rfl, rfl, rfl⟩
      · rintro σ' H' ⟨rfl, rfl⟩
        refine ⟨_, rfl, pi, _, _, _, rfl, rfl, .inl (.inl tp), rfl, tx c.kind, rfl, rfl, _, rfl, ?_⟩
        by_cases h : isWd c.kind
        · rw [decide_eq_true ((in_keys _).mpr h)]
          refine iteT ⟨_, rfl, _, _, rfl, rfl, _, rfl, _, rfl, _, _, rfl, rfl, szStep z c, some (.ref pi), ?_, nxt.symm⟩
          have e : szStep z c = ⟨(sz1 c z).o + 1, (sz1 c z).n, max (sz1 c z).d ((sz1 c z).o + 1)⟩ := by
            unfold szStep sz2
            rw [if_pos h]
          rw [e]
          have e2 : (if (sz1 c z).o + 1 > (sz1 c z).d then (sz1 c z).o + 1 else (sz1 c z).d) = max (sz1 c z).d ((sz1 c z).o + 1) := by
            split <;> omega
          show _ = [some (V.ref p), some (V.int ((sz1 c z).o + 1)), some (V.int (sz1 c z).n), some (V.int (max (sz1 c z).d ((sz1 c z).o + 1))), some (V.ref pi)]
          rw [← e2]
          rfl
        · rw [decide_eq_false (fun e => h ((in_keys _).mp e))]
          refine iteF ⟨rfl, szStep z c, some (.ref pi), ?_, nxt.symm⟩
          have e : szStep z c = sz1 c z := by
            unfold szStep sz2
            rw [if_neg h]
          rw [e]
    · rintro σ H1 ⟨rfl, z, x4, rfl, hz⟩
      rw [List.length_map, len, List.take_length] at hz
      rw [← hz] at h30 h200
      refine ⟨_, rfl, _, _, rfl, rfl, _, rfl, ?_⟩
      rw [decide_eq_false (show ¬ (30 : Int) < z.d by omega)]
      refine iteF ⟨_, rfl, _, _, rfl, rfl, _, rfl, ?_⟩
      rw [decide_eq_false (show ¬ (200 : Int) < z.n by omega)]
      exact iteF q
end
end K


set_option Elab.async false
set_option linter.all false
set_option maxRecDepth 100000
set_option maxHeartbeats 4000000
namespace K
open PySem PySem.Spec PyProof.Rows L2 U
/-- the class Tree as the top has made it -/
structure TreeC (K : PySem.W.Frag) (C : Addr) : Prop where
  cl : Cls K C
  nt : NoAttr K C "text"
  nk : NoAttr K C "kind"
  ns : NoAttr K C "small"
  nw : NoAttr K C "within"
  nf : NoAttr K C "free"
  nc : NoAttr K C "code"
/-- a tree at q, its free names -/
def FreeAt (C : Addr) (H : Hp) (q : Addr) (fr : List Str) : Prop := ∃ dx fs tf, H q = some (.ins C dx fs) ∧ fs.lookup ("free" : Str) = some (.ref tf) ∧ H tf = some (.tup (fr.map V.str))
theorem FreeAt.same {C : Addr} {H H' : Hp} {q : Addr} {fr : List Str} (h : FreeAt C H q fr) (s : Same H H') : FreeAt C H' q fr := by
  obtain ⟨dx, fs, tf, h1, h2, h3⟩ := h
  exact ⟨dx, fs, tf, s _ _ h1, h2, s _ _ h3⟩
/-- all free names within, the last one's without the small name -/
def found (frs : List (List Str)) (small : V) : List Str := frs.dropLast.flatten ++ ((frs.drop (frs.length - 1)).flatten.filter fun y => !decide (V.str y = small))
/-- what these slices of a tuple are -/
theorem sl_most {K : PySem.W.Frag} {H : Hp} {a : Addr} {xs : List V} {Q : VK} (h : SqT K H a xs) (hQ : ∀ p H', Same H H' → SqT K H' p xs.dropLast → Q (.ref p) H') : rSlA K (.ref a) none (some (-1)) H Q := by
  have e1 : HT.sIx xs.length xs.length (some (-1)) = xs.length - 1 := by
    show (if (-1 : Int) < 0 then (-1 + (xs.length : Int)).toNat else min (-1 : Int).toNat xs.length) = _
    rw [if_pos (by decide)]
    omega
  refine ⟨a, xs, rfl, h, fun e => ?_, fun e p hp => ?_⟩
  · rw [e1] at e
    have e2 : xs = [] := List.eq_nil_of_length_eq_zero (by omega)
    subst e2
    exact hQ a H (Same.refl H) h
  · refine hQ p _ (same_new hp) (.inl (.inl (upd_same.trans ?_)))
    unfold cutV
    rw [e1, HT.sIx_none, List.drop_zero, Nat.sub_zero, List.dropLast_eq_take]
theorem no_part {σ : L2.St} {H : Hp} {Q : Option Int → Hp → Prop} (h : Q none H) : tNoPart σ H Q := h
theorem sl_end {K : PySem.W.Frag} {H : Hp} {a : Addr} {xs : List V} {Q : VK} (h : SqT K H a xs) (hQ : ∀ p H', Same H H' → SqT K H' p (xs.drop (xs.length - 1)) → Q (.ref p) H') : rSlA K (.ref a) (some (-1)) none H Q := by
  have e1 : HT.sIx xs.length 0 (some (-1)) = xs.length - 1 := by
    show (if (-1 : Int) < 0 then (-1 + (xs.length : Int)).toNat else min (-1 : Int).toNat xs.length) = _
    rw [if_pos (by decide)]
    omega
  refine ⟨a, xs, rfl, h, fun e => ?_, fun e p hp => ?_⟩
  · rw [e1] at e
    have e2 := e.1
    refine hQ a H (Same.refl H) ?_
    rw [e2, List.drop_zero]
    exact h
  · refine hQ p _ (same_new hp) (.inl (.inl (upd_same.trans ?_)))
    unfold cutV
    rw [e1, HT.sIx_none, List.take_of_length_le (by rw [List.length_drop]; exact Nat.le_refl _)]
/-- free_in of a tree whose kind, text, small, within stand -/
def spFreeIn (C : Addr) : Sp := fun vs H Q _ => ∃ (p dx tw : Addr) (fs : List (Str × V)) (text kind : List Nat) (small : V) (qs : List Addr) (frs : List (List Str)), vs = [.ref p] ∧ H p = some (.ins C dx fs) ∧
  fs.lookup ("kind" : Str) = some (.str (tx kind)) ∧ fs.lookup ("text" : Str) = some (.str (tx text)) ∧ fs.lookup ("small" : Str) = some small ∧ (small = .non ∨ ∃ z, small = .str z) ∧ fs.lookup ("within" : Str) = some (.ref tw) ∧ H tw = some (.tup (qs.map V.ref)) ∧
  Paired (FreeAt C H) qs frs ∧ (found frs small).length ≤ 1000 ∧ (∃ N : List Str, N.length < 64 ∧ ∀ x ∈ found frs small, x ∈ N) ∧
  ∀ r H' ys, Same H H' → H' r = some (.tup (ys.map V.str)) → (kind = Kd.name.cs → ys = [tx text]) → (kind ≠ Kd.name.cs → ys.Nodup ∧ sortedS ys = true ∧ ∀ x, x ∈ ys ↔ x ∈ found frs small) → Q (.ref r) H'
theorem SqT.updL {K : PySem.W.Frag} {H : Hp} {a b : Addr} {l xs : List V} {o : HO} (e : H a = some (.lst l)) (h : SqT K H b xs) : SqT K (upd H a o) b xs := by
  rcases h with (h | ⟨ob, h⟩) | h
  · exact .inl (.inl (by rw [upd_ne (ne_of h e (by intro z; cases z))]; exact h))
  · exact .inl (.inr ⟨ob, by rw [upd_ne (ne_of h e (by intro z; cases z))]; exact h⟩)
  · exact .inr h
theorem Same.seqT {K : PySem.W.Frag} {H H' : Hp} {a : Addr} {xs : List V} (e : Same H H') (h : SqT K H a xs) : SqT K H' a xs := by
  rcases h with (h | ⟨o, h⟩) | h
  · exact .inl (.inl (e _ _ h))
  · exact .inl (.inr ⟨o, e _ _ h⟩)
  · exact .inr h
theorem flat_take {α : Type} (l : List (List α)) (n : Nat) : (l.take n).flatten.length ≤ l.flatten.length := by
  have h : l.flatten = (l.take n).flatten ++ (l.drop n).flatten := by rw [← List.flatten_append, List.take_append_drop]
  rw [h, List.length_append]
  omega
theorem nodup_sub {α : Type} [DecidableEq α] : ∀ (l N : List α), l.Nodup → (∀ x ∈ l, x ∈ N) → l.length ≤ N.length
  | [], N, _, _ => Nat.zero_le _
  | x :: l, N, h, s => by
    obtain ⟨h1, h2⟩ := List.nodup_cons.mp h
    have hx := s x List.mem_cons_self
    have ih := nodup_sub l (N.erase x) h2 fun y hy => by
      have ne : y ≠ x := fun e => h1 (e ▸ hy)
      exact (List.mem_erase_of_ne ne).mpr (s y (List.mem_cons_of_mem _ hy))
    rw [List.length_erase_of_mem hx] at ih
    have := List.length_pos_of_mem hx
    rw [List.length_cons]
    omega
section
variable {P : Program} {w : World} {K : PySem.W.Frag} {mg : Str → Option Value} {base : Heap} {dW dB : Addr} {esW : Array DictEntry} {nW : Nat} (T : Txt K mg w dW dB esW nW)
include T
theorem ok_free_in {f C : Addr} {fd : FuncData} (F : Fun K "free_in" "free_in" s_free_in f fd) (TC : TreeC K C) : FnOk P w K mg base CX0 1 f fd ["tree"] (spFreeIn C) := by
  refine F.ok sc_free_in (fun vs H Q E h => ?_) (fun cdv A outer s H vs Q E hr h => ?_)
  · obtain ⟨p, dx, tw, fs, text, kind, small, qs, frs, rfl, _⟩ := h
    rfl
  · obtain ⟨p, dx, tw, fs, text, kind, small, qs, frs, rfl, hp, hk, ht, hs, hs2, hw, htw, pf, hlen, ⟨N, hN, hN2⟩, q⟩ := h
    refine ⟨_, (pss_cons (ps_if (pt_cmpR op_eq (pe_fld (pv 0) (by rfl)) pe_str (nomark _)) 
        (pss_one (ps_ret (pe_tup (pa_cons (pe_fld (pv 0) (by rfl)) pa_nil)))) pss_nil)
      (pss_cons (ps_set (i := 1) sc_free_in.nd rfl (.inl rfl) (pe_lst pa_nil))
      (pss_cons (ps_for PassesOwn.never rfl (pi_tup (pe_slice sl_tupA (pe_fld (pv 0) (by rfl)) po_none (po_some (pe_un un_neg pe_int)))) (pg_name (i := 2) sc_free_in.nd rfl (.inl rfl)) 
        (pss_one (ps_expr (pe_bm PySem.F.plainAttrs_list PySem.F.slot_list_extend PySem.F.type_list_extend mt_extendT (pv 1) (pa_cons (pe_fld (pv 2) (by rfl)) pa_nil)))))
      (pss_cons (ps_for PassesOwn.never rfl (pi_tup (pe_slice sl_tupA (pe_fld (pv 0) (by rfl)) (po_some (pe_un un_neg pe_int)) po_none)) (pg_name (i := 2) sc_free_in.nd rfl (.inl rfl)) 
        (pss_one (ps_expr (pe_bm PySem.F.plainAttrs_list PySem.F.slot_list_extend PySem.F.type_list_extend mt_extend (pv 1) (pa_cons (pe_lc (own := [("small", 3)]) (g := gName 3) (tt := tTest (tOp rNe (tVar 3) (tFld K (tVar 0) "small"))) rfl sc_free_in.nd (pi_tup (pe_fld (pv 2) (by rfl))) (blkOk_by (N := nm_free_in) (sc := defScope s_free_in) (by decide +kernel)) (fun _ _ _ _ _ => pg_name (i := 3) sc_free_in.nd rfl (.inl rfl)) (fun _ _ _ _ _ => pts_one (pt_cmpR op_ne (pv 3) (pe_fld (pv 0) (by rfl)) (nomark _))) (fun _ _ _ _ _ => (pv 3))) pa_nil)))))
      (pss_one (ps_ret (pe_callTy call_tuple_of (by rfl) T.z_tuple (by decide +kernel) (pa_cons (pe_callB (cr_sortedOf rfl) (by rfl) T.z_sorted (by decide +kernel) (pa_cons (pe_callTy (cr_setOf rfl) (by rfl) T.z_set (by decide +kernel) (pa_cons (pv 1) pa_nil)) pa_nil)) pa_nil)))))))), ?_⟩
    have nm : Str.ofString "name" = tx Kd.name.cs := by decide +kernel
    refine ⟨_, rfl, p, C, dx, _, _, rfl, hp, TC.cl, TC.nk, hk, rfl, _, rfl, ?_⟩
    rw [nm, str_eq]
    by_cases h : kind = Kd.name.cs
    · rw [decide_eq_true h]
      refine iteT ⟨_, rfl, p, C, dx, _, _, rfl, hp, TC.cl, TC.nt, ht, sizeLine_ge (by show 1 ≤ 10000; decide), fun r hr => ?_⟩
      exact q r _ [tx text] (same_new hr) upd_same (fun _ => rfl) fun z => absurd h z
    · rw [decide_eq_false h]
      refine iteF ⟨Nat.zero_le _, fun aF hF => ?_⟩
      have s0 : Same H (upd H aF (.lst [])) := same_new hF
      refine ⟨_, rfl, p, C, dx, _, _, rfl, s0 _ _ hp, TC.cl, TC.nw, hw, _, rfl, ?_⟩
      have plen := pf.length
      have fl : (frs.dropLast.flatten).length + ((frs.drop (frs.length - 1)).flatten.filter fun y => !decide (V.str y = small)).length ≤ 1000 := by
        rw [← List.length_append]
        exact hlen
      -- the first ones' free names
      refine ⟨_, rfl, sl_most (.inl (.inl (s0 _ _ htw))) fun b1 H1 s1 hb1 => ⟨b1, rfl, ⟨_, hb1⟩, for_it (walk_tup (xs := (qs.map V.ref).dropLast)) (fun i σ H' => Same H H' ∧ SqT K H' b1 (qs.map V.ref).dropLast ∧ ∃ x2 x3, σ = [some (.ref p), some (.ref aF), x2, x3] ∧ H' aF = some (.lst ((frs.dropLast.take i).flatten.map V.str)))
        ⟨s0.trans s1, hb1, _, _, rfl, s1 _ _ upd_same⟩ (fun i σ H' _ h => h.2.1) ?_ ?_⟩⟩
      · rintro i x σ H2 H3 hi ⟨s2, hb2, x2, x3, rfl, eF⟩ ⟨rfl, hx⟩
        rw [List.length_dropLast, List.length_map] at hi
        have hq : qs[i]? = some qs[i] := List.getElem?_eq_getElem (by omega)
        have hr2 : frs[i]? = some frs[i] := List.getElem?_eq_getElem (by omega)
        obtain ⟨qi, e1, dq, fq, tf, g1, g2, g3⟩ := Paired.at_ pf hr2
        have ex : x = .ref qi := by
          rw [List.getElem?_dropLast, if_pos (by rw [List.length_map]; omega), List.getElem?_map, e1] at hx
          exact (Option.some.inj hx).symm
        subst ex
        have hd : frs.dropLast[i]? = some frs[i] := by
          rw [List.getElem?_dropLast, if_pos (by omega), hr2]
        have nF : aF ≠ b1 ∨ True := .inr trivial
        refine ⟨_, rfl, .inl ⟨rfl, _, .inl (.inl eF)⟩, _, rfl, qi, C, dq, _, _, rfl, s2 _ _ g1, TC.cl, TC.nf, g2, aF, tf, _, _, rfl, rfl, eF, .inl (.inl (s2 _ _ g3)), ?_, ?_⟩
        · have h := flat_take frs.dropLast (i + 1)
          rw [List.take_add_one, hd, List.flatten_append, List.length_append] at h
          simp only [Option.toList_some, List.flatten_cons, List.flatten_nil, List.append_nil] at h
          rw [List.length_map, List.length_map]
          exact sizeLine_ge (by omega)
        · refine ⟨upd_new hF s2, SqT.updL eF hb2, _, _, rfl, ?_⟩
          · rw [upd_same, List.take_add_one, hd, List.flatten_append, List.map_append]
            simp
      · rintro σ H2 ⟨s2, hb2, x2, x3, rfl, eF⟩
        rw [List.length_dropLast, List.length_map, plen, show frs.length - 1 = frs.dropLast.length by rw [List.length_dropLast], List.take_length] at eF
        -- the last one's free names
        refine ⟨_, rfl, p, C, dx, _, _, rfl, s2 _ _ hp, TC.cl, TC.nw, hw, _, rfl, _, rfl, ?_⟩
        refine no_part ?_
        refine sl_end (.inl (.inl (s2 _ _ htw))) fun b2 H3 s3 hb3 => ⟨b2, rfl, ⟨_, hb3⟩, for_it (walk_tup (xs := (qs.map V.ref).drop ((qs.map V.ref).length - 1)))
          (fun i σ H' => Same H H' ∧ SqT K H' b2 ((qs.map V.ref).drop ((qs.map V.ref).length - 1)) ∧ ∃ x2 x3, σ = [some (.ref p), some (.ref aF), x2, x3] ∧
            H' aF = some (.lst ((frs.dropLast.flatten ++ (((frs.drop (frs.length - 1)).take i).flatten.filter fun y => !decide (V.str y = small))).map V.str)))
          ⟨s2.trans s3, hb3, _, _, rfl, by rw [s3 _ _ eF]; simp⟩ (fun i σ H' _ h => h.2.1) ?_ ?_⟩
        · rintro i x σ H4 H5 hi ⟨s4, hb4, y2, y3, rfl, eF4⟩ ⟨rfl, hx⟩
          rw [List.length_drop, List.length_map] at hi
          have hi0 : i = 0 := by omega
          subst hi0
          have hr2 : frs[frs.length - 1]? = some (frs[frs.length - 1]'(by omega)) := List.getElem?_eq_getElem (by omega)
          obtain ⟨qi, e1, dq, fq, tf, g1, g2, g3⟩ := Paired.at_ pf hr2
          have ex : x = .ref qi := by
            rw [List.getElem?_drop, List.getElem?_map, List.length_map, Nat.add_zero, plen, e1] at hx
            exact (Option.some.inj hx).symm
          subst ex
          have hd : (frs.drop (frs.length - 1)).take 1 = [frs[frs.length - 1]'(by omega)] := by
            rw [List.take_one, List.head?_drop, hr2]
            rfl
          have hd2 : frs.drop (frs.length - 1) = [frs[frs.length - 1]'(by omega)] := by
            rw [← hd, List.take_of_length_le (by rw [List.length_drop]; omega)]
          rw [hd2] at fl
          generalize frs[frs.length - 1]'(by omega) = fr at g3 hd fl
          simp only [List.flatten_cons, List.flatten_nil, List.append_nil] at fl
          have eF5 : H5 aF = some (.lst (frs.dropLast.flatten.map V.str)) := by
            rw [eF4]
            simp
          refine ⟨_, rfl, .inl ⟨rfl, _, .inl (.inl eF5)⟩, _, rfl, qi, C, dq, _, _, rfl, s4 _ _ g1, TC.cl, TC.nf, g2, tf, rfl, ⟨_, .inl (.inl (s4 _ _ g3))⟩, fun D hD => lc_it (walk_tup (xs := fr.map V.str))
            (fun j H' => Same H5 H' ∧ H' D = some (.lst (((fr.take j).filter fun y => !decide (V.str y = small)).map V.str))) ⟨same_new hD, upd_same⟩ (fun j H' _ h => .inl (.inl (h.1 _ _ (s4 _ _ g3)))) ?_ ?_⟩
          · rintro j x H6 H7 hj ⟨s6, d6⟩ ⟨rfl, hx⟩
            rw [List.length_map] at hj
            have hy : x = .str fr[j] := by
              rw [List.getElem?_map, List.getElem?_eq_getElem hj] at hx
              exact (Option.some.inj hx).symm
            subst hy
            have sc : scal (V.str fr[j]) small = true := by
              rcases hs2 with h | ⟨z, h⟩ <;> rw [h] <;> rfl
            refine ⟨rfl, _, rfl, _, rfl, p, C, dx, _, _, rfl, s6 _ _ (s4 _ _ hp), TC.cl, TC.ns, hs, sc, _, rfl, ?_⟩
            have tk : (fr.take (j + 1)).filter (fun y => !decide (V.str y = small)) = (fr.take j).filter (fun y => !decide (V.str y = small)) ++ (if !decide (V.str fr[j] = small) then [fr[j]] else []) := by
              rw [List.take_add_one, List.getElem?_eq_getElem hj, List.filter_append]
              simp [List.filter_cons]
            by_cases hc : V.str fr[j] = small
            · rw [decide_eq_true hc] at tk ⊢
              refine iteF ⟨s6, ?_⟩
              rw [tk, d6]
              simp
            · rw [decide_eq_false hc] at tk ⊢
              refine iteT ⟨_, rfl, _, d6, ?_, fun b o e => ?_, ?_⟩
              · have := ((List.take_sublist j fr).filter fun y => !decide (V.str y = small)).length_le
                rw [List.length_map]
                exact small1000 (by omega)
              · rw [upd_ne (ne_of_none e hD)]
                exact s6 _ _ e
              · rw [upd_same, tk]
                simp
          · rintro H6 ⟨s6, d6⟩
            rw [List.length_map, List.take_length] at d6
            refine ⟨aF, D, _, _, rfl, rfl, s6 _ _ eF5, d6, ?_, ?_⟩
            · rw [List.length_map, List.length_map]
              exact sizeLine_ge (by omega)
            · refine ⟨upd_new hF (s4.trans s6), SqT.updL (s6 _ _ eF5) (Same.seqT s6 hb4), _, _, rfl, ?_⟩
              rw [upd_same, hd]
              simp
        · rintro σ H4 ⟨s4, hb4, y2, y3, rfl, eF4⟩
          rw [List.take_of_length_le (by rw [List.length_drop, List.length_drop, List.length_map]; omega)] at eF4
          -- tuple(sorted(set(found)))
          refine ⟨_, rfl, aF, found frs small, rfl, .inl (.inl eF4), ?_, fun a1 l s1' ll h1 => ⟨a1, l, rfl, upd_same, ?_, fun ys a2 pm so h2 => ⟨a2, ys.map V.str, rfl, .inl ⟨.inl (.inl upd_same), fun a3 h3 => ?_⟩⟩⟩⟩
          · exact Nat.lt_of_le_of_lt (Nat.add_le_add_right hlen 1) (by decide)
          · exact Nat.lt_of_le_of_lt (nodup_sub l N s1'.1 fun x hx => hN2 x ((s1'.2 x).mp hx)) hN
          · refine q a3 _ ys (s4.trans ((same_new h1).trans ((same_new h2).trans (same_new h3)))) upd_same (fun z => absurd z h) fun _ => ⟨pm.nodup_iff.mpr s1'.1, so, fun x => by rw [pm.mem_iff, s1'.2]⟩
end
end K


set_option Elab.async false
set_option linter.all false
set_option maxRecDepth 100000
set_option maxHeartbeats 4000000
namespace K
open PySem PySem.Spec PyProof.Rows L2 U
/-- a tree's attributes, in the order in which they are set -/
def treeF (t k s w f c : V) : List (Str × V) := putF "code" c (putF "free" f (putF "within" w (putF "small" s (putF "kind" k (putF "text" t [])))))
theorem ne_tk : ¬ (("text" : Str) = "kind") := by decide +kernel
theorem ne_ts : ¬ (("text" : Str) = "small") := by decide +kernel
theorem ne_tw : ¬ (("text" : Str) = "within") := by decide +kernel
theorem ne_tf : ¬ (("text" : Str) = "free") := by decide +kernel
theorem ne_tc : ¬ (("text" : Str) = "code") := by decide +kernel
theorem ne_kc : ¬ (("kind" : Str) = "code") := by decide +kernel
theorem ne_sc : ¬ (("small" : Str) = "code") := by decide +kernel
theorem ne_wc : ¬ (("within" : Str) = "code") := by decide +kernel
theorem ne_fc : ¬ (("free" : Str) = "code") := by decide +kernel
theorem ne_ks : ¬ (("kind" : Str) = "small") := by decide +kernel
theorem ne_kw : ¬ (("kind" : Str) = "within") := by decide +kernel
theorem ne_kf : ¬ (("kind" : Str) = "free") := by decide +kernel
theorem ne_sw : ¬ (("small" : Str) = "within") := by decide +kernel
theorem ne_sf : ¬ (("small" : Str) = "free") := by decide +kernel
theorem ne_wf : ¬ (("within" : Str) = "free") := by decide +kernel
section
variable (t k s w f c : V)
theorem tF_text : (treeF t k s w f c).lookup ("text" : Str) = some t := by
  unfold treeF
  rw [lookup_putF, if_neg ne_tc, lookup_putF, if_neg ne_tf, lookup_putF, if_neg ne_tw, lookup_putF, if_neg ne_ts, lookup_putF, if_neg ne_tk, lookup_putF, if_pos rfl]
theorem tF_kind : (treeF t k s w f c).lookup ("kind" : Str) = some k := by
  unfold treeF
  rw [lookup_putF, if_neg ne_kc, lookup_putF, if_neg ne_kf, lookup_putF, if_neg ne_kw, lookup_putF, if_neg ne_ks, lookup_putF, if_pos rfl]
theorem tF_small : (treeF t k s w f c).lookup ("small" : Str) = some s := by
  unfold treeF
  rw [lookup_putF, if_neg ne_sc, lookup_putF, if_neg ne_sf, lookup_putF, if_neg ne_sw, lookup_putF, if_pos rfl]
theorem tF_within : (treeF t k s w f c).lookup ("within" : Str) = some w := by
  unfold treeF
  rw [lookup_putF, if_neg ne_wc, lookup_putF, if_neg ne_wf, lookup_putF, if_pos rfl]
theorem tF_free : (treeF t k s w f c).lookup ("free" : Str) = some f := by
  unfold treeF
  rw [lookup_putF, if_neg ne_fc, lookup_putF, if_pos rfl]
theorem tF_code : (treeF t k s w f c).lookup ("code" : Str) = some c := by
  unfold treeF
  rw [lookup_putF, if_pos rfl]
end
def spTreeInit (C : Addr) : Sp := fun vs H Q _ => ∃ (p dx l : Addr) (text kind : List Nat) (small : V) (qs : List Addr) (frs : List (List Str)), vs = [.ref p, .str (tx text), .str (tx kind), small, .ref l] ∧ H p = some (.ins C dx []) ∧
  (small = .non ∨ ∃ z, small = .str z) ∧ H l = some (.lst (qs.map V.ref)) ∧ Paired (FreeAt C H) qs frs ∧ (found frs small).length ≤ 1000 ∧ (∃ N : List Str, N.length < 64 ∧ ∀ x ∈ found frs small, x ∈ N) ∧
  ∀ H' tw tf ys, But p H H' → H' p = some (.ins C dx (treeF (.str (tx text)) (.str (tx kind)) small (.ref tw) (.ref tf) .non)) → H' tw = some (.tup (qs.map V.ref)) → H' tf = some (.tup (ys.map V.str)) →
    (kind = Kd.name.cs → ys = [tx text]) → (kind ≠ Kd.name.cs → ys.Nodup ∧ sortedS ys = true ∧ ∀ x, x ∈ ys ↔ x ∈ found frs small) → Q .non H'
theorem FreeAt.but {C : Addr} {H H' : Hp} {p dx : Addr} {fs : List (Str × V)} {q : Addr} {fr : List Str} (h : FreeAt C H q fr) (hp : H p = some (.ins C dx fs)) (hf : fs.lookup ("free" : Str) = none) (b : But p H H') : FreeAt C H' q fr := by
  obtain ⟨dq, fq, tf, h1, h2, h3⟩ := h
  have n1 : q ≠ p := fun e => by
    rw [e, hp] at h1
    have e2 := Option.some.inj h1
    injection e2 with _ _ e3
    rw [← e3, hf] at h2
    cases h2
  have n2 : tf ≠ p := ne_of h3 hp (by intro z; cases z)
  exact ⟨dq, fq, tf, b _ _ h1 n1, h2, b _ _ h3 n2⟩
section
variable {P : Program} {w : World} {K : PySem.W.Frag} {mg : Str → Option Value} {base : Heap} {dW dB : Addr} {esW : Array DictEntry} {nW : Nat} (T : Txt K mg w dW dB esW nW)
include T
theorem ok_Tree_init {f f1 C : Addr} {fd fd1 : FuncData} (F : Fun K "__init__" "Tree.__init__" s_Tree___init__ f fd) (TC : TreeC K C) (h_free_in : Has P w K mg base "free_in" 1 ["tree"] (spFreeIn C) f1 fd1) : FnOk P w K mg base CX0 2 f fd ["self", "text", "kind", "small", "within"] (spTreeInit C) := by
  refine F.ok sc_Tree___init__ (fun vs H Q E h => ?_) (fun cdv A outer s H vs Q E hr h => ?_)
  · obtain ⟨p, dx, l, text, kind, small, qs, frs, rfl, _⟩ := h
    rfl
  · obtain ⟨p, dx, l, text, kind, small, qs, frs, rfl, hp, hs2, hl, pf, hlen, hN, q⟩ := h
    refine ⟨_, (pss_cons (ps_fld (pv 0) (pv 1) rfl)
      (pss_cons (ps_fld (pv 0) (pv 2) rfl)
      (pss_cons (ps_fld (pv 0) (pv 3) rfl)
      (pss_cons (ps_fld (pv 0) (pe_callTy call_tuple_of (by rfl) T.z_tuple (by decide +kernel) (pa_cons (pv 4) pa_nil)) rfl)
      (pss_cons (ps_fld (pv 0) (pe_callH h_free_in (hr.mono (by first | decide | omega)) (by rfl) (pa_cons (pv 0) pa_nil)) rfl)
      (pss_one (ps_fld (pv 0) pe_non rfl))))))), ?_⟩
    have npl : l ≠ p := ne_of hl hp (by intro z; cases z)
    refine ⟨_, rfl, _, rfl, p, C, dx, _, rfl, hp, TC.cl, TC.nt, by show 0 < 1000; decide, ?_⟩
    refine ⟨_, rfl, _, rfl, p, C, dx, _, rfl, upd_same, TC.cl, TC.nk, by show 1 < 1000; decide, ?_⟩
    refine ⟨_, rfl, _, rfl, p, C, dx, _, rfl, upd_same, TC.cl, TC.ns, by show 2 < 1000; decide, ?_⟩
    refine ⟨_, rfl, l, _, rfl, .inl ⟨.inl (.inl (by rw [upd_ne npl, upd_ne npl, upd_ne npl]; exact hl)), fun tw htw => ?_⟩⟩
    rw [upd_upd, upd_upd] at htw ⊢
    have ntw : p ≠ tw := ne_of_none upd_same htw
    have b1 : But p H (upd H p (.ins C dx (putF "small" small (putF "kind" (.str (tx kind)) (putF "text" (.str (tx text)) []))))) := But.upd
    refine ⟨_, rfl, p, C, dx, _, rfl, (by rw [upd_ne ntw]; exact upd_same), TC.cl, TC.nw, by show 3 < 1000; decide, ?_⟩
    have b2 := (b1.trans (But.of_same (same_new (o := .tup (qs.map V.ref)) htw))).trans (But.upd (o := .ins C dx (putF "within" (.ref tw) (putF "small" small (putF "kind" (.str (tx kind)) (putF "text" (.str (tx text)) []))))))
    have w2 : ∀ o, (upd (upd (upd H p (.ins C dx (putF "small" small (putF "kind" (.str (tx kind)) (putF "text" (.str (tx text)) []))))) tw (.tup (qs.map V.ref))) p o) tw = some (.tup (qs.map V.ref)) := fun o => by
      rw [upd_ne ntw.symm, upd_same]
    have pf2 : Paired (FreeAt C (upd (upd (upd H p (.ins C dx (putF "small" small (putF "kind" (.str (tx kind)) (putF "text" (.str (tx text)) []))))) tw (.tup (qs.map V.ref))) p (.ins C dx (putF "within" (.ref tw) (putF "small" small (putF "kind" (.str (tx kind)) (putF "text" (.str (tx text)) []))))))) qs frs :=
      Paired.mapP pf fun q fr h => h.but hp rfl b2
    refine ⟨_, rfl, p, dx, tw, _, text, kind, small, qs, frs, rfl, upd_same, ?_, ?_, ?_, hs2, ?_, w2 _, pf2, hlen, hN, fun r H' ys s1 hr hy1 hy2 => ?_⟩
    · rw [lookup_putF, if_neg ne_kw, lookup_putF, if_neg ne_ks, lookup_putF, if_pos rfl]
    · rw [lookup_putF, if_neg ne_tw, lookup_putF, if_neg ne_ts, lookup_putF, if_neg ne_tk, lookup_putF, if_pos rfl]
    · rw [lookup_putF, if_neg ne_sw, lookup_putF, if_pos rfl]
    · rw [lookup_putF, if_pos rfl]
    · have nrp : r ≠ p := ne_of hr (s1 _ _ upd_same) (by intro z; cases z)
      refine ⟨_, rfl, p, C, dx, _, rfl, s1 _ _ upd_same, TC.cl, TC.nf, by show 4 < 1000; decide, ?_⟩
      refine ⟨_, rfl, p, C, dx, _, rfl, upd_same, TC.cl, TC.nc, by show 5 < 1000; decide, ?_⟩
      rw [upd_upd]
      refine q _ tw r ys (b2.trans ((But.of_same s1).trans But.upd)) upd_same ?_ ?_ hy1 hy2
      · rw [upd_ne ntw.symm]
        exact s1 _ _ (w2 _)
      · rw [upd_ne nrp]
        exact hr
end
end K


set_option Elab.async false
set_option linter.all false
set_option maxRecDepth 100000
set_option maxHeartbeats 4000000
namespace K
open PySem PySem.Spec PyProof.Rows L2 U
/-- these are just the free names of a term -/
def FreeIs (t : U.Tm) (ys : List Str) : Prop := ys.Nodup ∧ sortedS ys = true ∧ ∀ x, x ∈ ys ↔ ∃ l, x = tx l ∧ t.Free l
theorem small_ne (w : Wd) (b : List Nat) (x : Str) : (!decide (V.str x = smV (sm w b))) = true ↔ ∀ l, x = tx l → (w.bd = true → l ≠ b) := by
  unfold sm
  cases hb : w.bd with
  | false => simp [smV]
  | true =>
    simp only [if_true, smV, Bool.not_eq_true', decide_eq_false_iff_not]
    constructor
    · intro h l hl _ e
      exact h (by rw [hl, e])
    · intro h e
      exact h b (V.str.inj e) trivial rfl
theorem found_free {t : U.Tm} {w : Wd} {b : List Nat} {ks : List U.Tm} (v : View t w b ks) {frs : List (List Str)} (h : Paired (fun fr k => FreeIs k fr) frs ks) (x : Str) : x ∈ found frs (smV (sm w b)) ↔ ∃ l, x = tx l ∧ t.Free l := by
  have hk := v.kids
  have hw : ∀ {w' : Wd} {b' : List Nat}, t.kind = w'.cs → t.small = sm w' b' → w' = w ∧ sm w' b' = sm w b := by
    intro w' b' h1 h2
    have e := cs_inj w' w (by rw [← h1, v.kind])
    exact ⟨e, by rw [← h2, v.small]⟩
  unfold found
  cases t with
  | atom k l =>
    have := v.some_kid
    obtain ⟨k1, ks', e⟩ := this
    rw [← hk] at e
    simp [U.Tm.kids] at e
  | n1 w' b' y =>
    obtain ⟨e1, e2⟩ := hw (w' := w') (b' := b') rfl rfl
    subst e1
    rw [← e2]
    rw [← hk] at h
    cases h with
    | cons h1 h =>
      cases h
      simp only [List.dropLast_singleton, List.flatten_nil, List.nil_append, List.length_singleton, Nat.sub_self, List.drop_zero, List.flatten_cons, List.append_nil, List.mem_filter]
      rw [h1.2.2, small_ne]
      exact ⟨fun ⟨⟨l, e, f⟩, g⟩ => ⟨l, e, f, g l e⟩, fun ⟨l, e, f, g⟩ => ⟨⟨l, e, f⟩, fun l' e' => tx_inj (e.symm.trans e') ▸ g⟩⟩
  | n2 w' b' y z =>
    obtain ⟨e1, e2⟩ := hw (w' := w') (b' := b') rfl rfl
    subst e1
    rw [← e2]
    rw [← hk] at h
    cases h with
    | cons h1 h =>
      cases h with
      | cons h2 h =>
        cases h
        simp only [List.dropLast, List.flatten_nil, List.length_cons, List.length_nil, List.flatten_cons, List.append_nil, List.mem_append, List.mem_filter, List.drop_succ_cons, List.drop_zero, Nat.add_sub_cancel, Nat.zero_add]
        rw [h1.2.2, h2.2.2, small_ne]
        constructor
        · rintro (⟨l, e, f⟩ | ⟨⟨l, e, f⟩, g⟩)
          · exact ⟨l, e, .inl f⟩
          · exact ⟨l, e, .inr ⟨f, g l e⟩⟩
        · rintro ⟨l, e, f | ⟨f, g⟩⟩
          · exact .inl ⟨l, e, f⟩
          · exact .inr ⟨⟨l, e, f⟩, fun l' e' => tx_inj (e.symm.trans e') ▸ g⟩
  | n3 w' b' y z u =>
    obtain ⟨e1, e2⟩ := hw (w' := w') (b' := b') rfl rfl
    subst e1
    rw [← e2]
    rw [← hk] at h
    cases h with
    | cons h1 h =>
      cases h with
      | cons h2 h =>
        cases h with
        | cons h3 h =>
          cases h
          simp only [List.dropLast, List.flatten_nil, List.length_cons, List.length_nil, List.flatten_cons, List.append_nil, List.mem_append, List.mem_filter, List.drop_succ_cons, List.drop_zero, Nat.add_sub_cancel, Nat.zero_add]
          rw [h1.2.2, h2.2.2, h3.2.2, small_ne]
          constructor
          · rintro ((⟨l, e, f⟩ | ⟨l, e, f⟩) | ⟨⟨l, e, f⟩, g⟩)
            · exact ⟨l, e, .inl f⟩
            · exact ⟨l, e, .inr (.inl f)⟩
            · exact ⟨l, e, .inr (.inr ⟨f, g l e⟩)⟩
          · rintro ⟨l, e, f | f | ⟨f, g⟩⟩
            · exact .inl (.inl ⟨l, e, f⟩)
            · exact .inl (.inr ⟨l, e, f⟩)
            · exact .inr ⟨⟨l, e, f⟩, fun l' e' => tx_inj (e.symm.trans e') ▸ g⟩
/-- a Tree at p, of these trees within, with these free names -/
def NodeAt (C : Addr) (H : Hp) (t : U.Tm) (qs : List Addr) (p : Addr) (ys : List Str) : Prop := ∃ dx tw tf cd, H p = some (.ins C dx (treeF (.str (tx t.pr)) (.str (tx t.kind)) (smV t.small) (.ref tw) (.ref tf) cd)) ∧ H tw = some (.tup (qs.map V.ref)) ∧ H tf = some (.tup (ys.map V.str)) ∧ FreeIs t ys
/-- the tree of a term at p -/
def TreeAt (C : Addr) (H : Hp) : U.Tm → Addr → Prop
  | .atom k l, p => ∃ ys, NodeAt C H (.atom k l) [] p ys
  | .n1 w b x, p => ∃ q ys, NodeAt C H (.n1 w b x) [q] p ys ∧ TreeAt C H x q
  | .n2 w b x y, p => ∃ q1 q2 ys, NodeAt C H (.n2 w b x y) [q1, q2] p ys ∧ TreeAt C H x q1 ∧ TreeAt C H y q2
  | .n3 w b x y z, p => ∃ q1 q2 q3 ys, NodeAt C H (.n3 w b x y z) [q1, q2, q3] p ys ∧ TreeAt C H x q1 ∧ TreeAt C H y q2 ∧ TreeAt C H z q3
/-- what is no list is as it was -/
def Keep (H H' : Hp) : Prop := ∀ p o, H p = some o → (∀ l, o ≠ .lst l) → H' p = some o
theorem Keep.of {H H' : Hp} (h : Same H H') : Keep H H' := fun p o e _ => h p o e
theorem Keep.trans {H H1 H2 : Hp} (a : Keep H H1) (b : Keep H1 H2) : Keep H H2 := fun p o e n => b p o (a p o e n) n
theorem Keep.upd {H : Hp} {a : Addr} {l : List V} {o : HO} (e : H a = some (.lst l)) : Keep H (upd H a o) := fun p u h n => by
  rw [upd_ne fun z => ?_]
  · exact h
  · rw [z, e] at h
    exact n l (Option.some.inj h).symm
theorem NodeAt.keep {C : Addr} {H H' : Hp} {t : U.Tm} {qs : List Addr} {p : Addr} {ys : List Str} (h : NodeAt C H t qs p ys) (k : Keep H H') : NodeAt C H' t qs p ys := by
  obtain ⟨dx, tw, tf, cd, h1, h2, h3, h4⟩ := h
  exact ⟨dx, tw, tf, cd, k _ _ h1 (by intro l z; cases z), k _ _ h2 (by intro l z; cases z), k _ _ h3 (by intro l z; cases z), h4⟩
theorem TreeAt.keep {C : Addr} {H H' : Hp} (k : Keep H H') : ∀ {t : U.Tm} {p : Addr}, TreeAt C H t p → TreeAt C H' t p
  | .atom _ _, _, ⟨ys, h⟩ => ⟨ys, h.keep k⟩
  | .n1 _ _ _, _, ⟨q, ys, h, h1⟩ => ⟨q, ys, h.keep k, h1.keep k⟩
  | .n2 _ _ _ _, _, ⟨q1, q2, ys, h, h1, h2⟩ => ⟨q1, q2, ys, h.keep k, h1.keep k, h2.keep k⟩
  | .n3 _ _ _ _ _, _, ⟨q1, q2, q3, ys, h, h1, h2, h3⟩ => ⟨q1, q2, q3, ys, h.keep k, h1.keep k, h2.keep k, h3.keep k⟩
theorem TreeAt.node {C : Addr} {H : Hp} {t : U.Tm} {p : Addr} (h : TreeAt C H t p) : ∃ qs ys, NodeAt C H t qs p ys ∧ Paired (fun q k => TreeAt C H k q) qs t.kids := by
  cases t with
  | atom k l =>
    obtain ⟨ys, h⟩ := h
    exact ⟨[], ys, h, .nil⟩
  | n1 w b x =>
    obtain ⟨q, ys, h, h1⟩ := h
    exact ⟨[q], ys, h, .cons h1 .nil⟩
  | n2 w b x y =>
    obtain ⟨q1, q2, ys, h, h1, h2⟩ := h
    exact ⟨_, ys, h, .cons h1 (.cons h2 .nil)⟩
  | n3 w b x y z =>
    obtain ⟨q1, q2, q3, ys, h, h1, h2, h3⟩ := h
    exact ⟨_, ys, h, .cons h1 (.cons h2 (.cons h3 .nil))⟩
theorem TreeAt.mk {C : Addr} {H : Hp} {t : U.Tm} {p : Addr} {qs : List Addr} {ys : List Str} (h : NodeAt C H t qs p ys) (hk : Paired (fun q k => TreeAt C H k q) qs t.kids) : TreeAt C H t p := by
  cases t with
  | atom k l =>
    cases hk
    exact ⟨ys, h⟩
  | n1 w b x =>
    cases hk with
    | cons h1 hk =>
      cases hk
      exact ⟨_, ys, h, h1⟩
  | n2 w b x y =>
    cases hk with
    | cons h1 hk =>
      cases hk with
      | cons h2 hk =>
        cases hk
        exact ⟨_, _, ys, h, h1, h2⟩
  | n3 w b x y z =>
    cases hk with
    | cons h1 hk =>
      cases hk with
      | cons h2 hk =>
        cases hk with
        | cons h3 hk =>
          cases hk
          exact ⟨_, _, _, ys, h, h1, h2, h3⟩
theorem TreeAt.free {C : Addr} {H : Hp} {t : U.Tm} {p : Addr} (h : TreeAt C H t p) : ∃ ys, FreeAt C H p ys ∧ FreeIs t ys := by
  obtain ⟨qs, ys, ⟨dx, tw, tf, cd, h1, h2, h3, h4⟩, _⟩ := h.node
  exact ⟨ys, ⟨dx, _, tf, h1, tF_free _ _ _ _ _ _, h3⟩, h4⟩
end K


set_option Elab.async false
set_option linter.all false
set_option maxRecDepth 100000
set_option maxHeartbeats 4000000
namespace K
open PySem PySem.Spec PyProof.Rows L2 U
def RowAt (C : Addr) (H : Hp) (r : Addr) (ds : List U.Tm) : Prop := ∃ qs, H r = some (.lst (qs.map V.ref)) ∧ Paired (fun q k => TreeAt C H k q) qs ds
/-- the brackets that are open and the rows of trees that are done, as built holds them (ops, rws: the innermost first) -/
structure BHeap (C : Addr) (H0 H : Hp) (aO aR r0 : Addr) (ops rws : List Addr) (fs : List Fr) (bot : List U.Tm) : Prop where
  eO : H aO = some (.lst (ops.reverse.map V.ref))
  eR : H aR = some (.lst ((r0 :: rws.reverse).map V.ref))
  pO : Paired (fun p f => H p = some (.tup (pcV (op f.at_ f.w f.b)))) ops fs
  pR : Paired (fun r f => RowAt C H r f.dn) rws fs
  b0 : RowAt C H r0 bot
  nd : (aO :: aR :: r0 :: rws).Nodup
  nw : ∀ b ∈ aO :: aR :: r0 :: rws, H0 b = none
  sm : Same H0 H
/-- all but lists, and these lists, are as they were -/
structure Stay (H H' : Hp) (ls : List Addr) : Prop where
  kp : Keep H H'
  at_ : ∀ r ∈ ls, H' r = H r
theorem RowAt.stay {C : Addr} {H H' : Hp} {r : Addr} {ds : List U.Tm} (h : RowAt C H r ds) (k : Keep H H') (e : H' r = H r) : RowAt C H' r ds := by
  obtain ⟨qs, h1, h2⟩ := h
  exact ⟨qs, e.trans h1, Paired.mapP h2 fun q t h => h.keep k⟩
theorem rows_stay {C : Addr} {H H' : Hp} (k : Keep H H') : ∀ {rws : List Addr} {fs : List Fr}, Paired (fun r f => RowAt C H r f.dn) rws fs → (∀ r ∈ rws, H' r = H r) → Paired (fun r f => RowAt C H' r f.dn) rws fs
  | _, _, .nil, _ => .nil
  | _, _, .cons r t, e => .cons (r.stay k (e _ List.mem_cons_self)) (rows_stay k t fun x hx => e x (List.mem_cons_of_mem _ hx))
theorem ops_stay {H H' : Hp} (k : Keep H H') {ops : List Addr} {fs : List Fr} (h : Paired (fun p f => H p = some (.tup (pcV (op f.at_ f.w f.b)))) ops fs) : Paired (fun p f => H' p = some (.tup (pcV (op f.at_ f.w f.b)))) ops fs :=
  Paired.mapP h fun p f e => k _ _ e (by intro l z; cases z)
def nameOk (N : List Str) (l : List Nat) : Prop := tx l ∈ N
def spBuilt (C : Addr) : Sp := fun vs H Q _ => ∃ (aP : Addr) (ps : List Addr) (k : U.Tm) (N : List Str), vs = [.str (tx k.pr), .ref aP] ∧ k.pr.length ≤ sizeLine ∧ k.Ok ∧ k.size ≤ 1000 ∧ H aP = some (.lst (ps.map V.ref)) ∧ PcsAt H ps (k.pc 0) ∧ N.length < 64 ∧ k.Names (nameOk N) ∧
  ∀ q H', Same H H' → TreeAt C H' k q → Q (.ref q) H'
/-- what an inner Tree leaves behind of a term whose trees within stand -/
theorem tree_made {C : Addr} {H H' : Hp} {p dx tw tf l : Addr} {t : U.Tm} {qs : List Addr} {frs : List (List Str)} {ys : List Str} (hk : Paired (fun q k => TreeAt C H k q) qs t.kids) (k : Keep H H')
    {cd : V} (hp : H' p = some (.ins C dx (treeF (.str (tx t.pr)) (.str (tx t.kind)) (smV t.small) (.ref tw) (.ref tf) cd))) (hw : H' tw = some (.tup (qs.map V.ref))) (hf : H' tf = some (.tup (ys.map V.str))) (fr : FreeIs t ys) : TreeAt C H' t p :=
  TreeAt.mk ⟨dx, tw, tf, cd, hp, hw, hf, fr⟩ (Paired.mapP hk fun q t h => h.keep k)
/-- the free names of trees within, few enough -/
theorem frees {C : Addr} {H : Hp} {N : List Str} : ∀ {qs : List Addr} {ks : List U.Tm}, Paired (fun q k => TreeAt C H k q) qs ks → (∀ k ∈ ks, k.Names (nameOk N)) →
    ∃ frs, Paired (FreeAt C H) qs frs ∧ Paired (fun fr k => FreeIs k fr) frs ks ∧ ∀ fr ∈ frs, fr.length ≤ N.length ∧ ∀ x ∈ fr, x ∈ N
  | [], [], .nil, _ => ⟨[], .nil, .nil, fun _ h => by simp at h⟩
  | q :: qs, k :: ks, .cons h t, nm => by
    obtain ⟨ys, f1, f2⟩ := h.free
    obtain ⟨frs, g1, g2, g3⟩ := frees t fun x hx => nm x (List.mem_cons_of_mem _ hx)
    refine ⟨ys :: frs, .cons f1 g1, .cons f2 g2, fun fr hfr => ?_⟩
    rcases List.mem_cons.mp hfr with rfl | hfr
    · have sub : ∀ x ∈ fr, x ∈ N := fun x hx => by
        obtain ⟨l, e, hl⟩ := (f2.2.2 x).mp hx
        rw [e]
        exact hl.in_names (nm k List.mem_cons_self)
      exact ⟨nodup_sub fr N f2.1 sub, sub⟩
    · exact g3 fr hfr
theorem flat_bound {N : List Str} : ∀ frs : List (List Str), (∀ fr ∈ frs, fr.length ≤ N.length ∧ ∀ x ∈ fr, x ∈ N) → frs.flatten.length ≤ frs.length * N.length ∧ ∀ x ∈ frs.flatten, x ∈ N
  | [], _ => ⟨by simp, by simp⟩
  | f :: r, h => by
    obtain ⟨h1, h2⟩ := flat_bound r fun fr hfr => h fr (List.mem_cons_of_mem _ hfr)
    obtain ⟨g1, g2⟩ := h f List.mem_cons_self
    refine ⟨?_, fun x hx => ?_⟩
    · rw [List.flatten_cons, List.length_append, List.length_cons, Nat.succ_mul]
      omega
    · rw [List.flatten_cons, List.mem_append] at hx
      exact hx.elim (g2 x) (h2 x)
theorem found_bound {N : List Str} {frs : List (List Str)} {small : V} (hl : frs.length ≤ 3) (hN : N.length < 64) (h : ∀ fr ∈ frs, fr.length ≤ N.length ∧ ∀ x ∈ fr, x ∈ N) : (found frs small).length ≤ 1000 ∧ ∀ x ∈ found frs small, x ∈ N := by
  have b1 := flat_bound frs.dropLast fun fr hfr => h fr ((List.dropLast_sublist frs).subset hfr)
  have b2 := flat_bound (frs.drop (frs.length - 1)) fun fr hfr => h fr (List.mem_of_mem_drop hfr)
  unfold found
  refine ⟨?_, fun x hx => ?_⟩
  · have l1 : frs.dropLast.length ≤ 2 := by rw [List.length_dropLast]; omega
    have l2 : (frs.drop (frs.length - 1)).length ≤ 1 := by rw [List.length_drop]; omega
    have m1 : frs.dropLast.length * N.length ≤ 2 * 63 := Nat.mul_le_mul l1 (by omega)
    have m2 : (frs.drop (frs.length - 1)).length * N.length ≤ 1 * 63 := Nat.mul_le_mul l2 (by omega)
    have m3 := (List.filter_sublist (p := fun y => !decide (V.str y = small)) (l := (frs.drop (frs.length - 1)).flatten)).length_le
    rw [List.length_append]
    omega
  · rcases List.mem_append.mp hx with hx | hx
    · exact b1.2 x hx
    · exact b2.2 x (List.mem_filter.mp hx).1
theorem BHeap.stay {C : Addr} {H0 H H' : Hp} {aO aR r0 : Addr} {ops rws : List Addr} {fs : List Fr} {bot : List U.Tm} (h : BHeap C H0 H aO aR r0 ops rws fs bot) (k : Keep H H') (e : ∀ b ∈ aO :: aR :: r0 :: rws, H' b = H b) (s : Same H0 H') : BHeap C H0 H' aO aR r0 ops rws fs bot :=
  ⟨(e _ (by simp)).trans h.eO, (e _ (by simp)).trans h.eR, ops_stay k h.pO, rows_stay k h.pR fun r hr => e r (by simp [hr]), h.b0.stay k (e _ (by simp)), h.nd, h.nw, s⟩
/-- where all that was is still there -/
theorem BHeap.same {C : Addr} {H0 H H' : Hp} {aO aR r0 : Addr} {ops rws : List Addr} {fs : List Fr} {bot : List U.Tm} (h : BHeap C H0 H aO aR r0 ops rws fs bot) (s : Same H H') : BHeap C H0 H' aO aR r0 ops rws fs bot := by
  have lst : ∀ b ∈ aO :: aR :: r0 :: rws, ∃ o, H b = some o := by
    intro b hb
    simp only [List.mem_cons] at hb
    rcases hb with rfl | rfl | rfl | hb
    · exact ⟨_, h.eO⟩
    · exact ⟨_, h.eR⟩
    · obtain ⟨qs, e, _⟩ := h.b0
      exact ⟨_, e⟩
    · have g : ∀ {rws : List Addr} {fs : List Fr}, Paired (fun r f => RowAt C H r f.dn) rws fs → ∀ b ∈ rws, ∃ o, H b = some o := by
        intro rws fs p
        induction p with
        | nil =>
          intro b hb
          simp at hb
        | cons r t ih =>
          intro b hb
          rcases List.mem_cons.mp hb with rfl | hb
          · obtain ⟨qs, e, _⟩ := r
            exact ⟨_, e⟩
          · exact ih b hb
      exact g h.pR b hb
  exact h.stay (Keep.of s) (fun b hb => by
    obtain ⟨o, e⟩ := lst b hb
    rw [e]
    exact s _ _ e) (h.sm.trans s)
theorem RowAt.put {C : Addr} {H : Hp} {r q : Addr} {ds : List U.Tm} {k : U.Tm} {qs : List Addr} (e : H r = some (.lst (qs.map V.ref))) (p : Paired (fun q k => TreeAt C H k q) qs ds) (t : TreeAt C H k q) : RowAt C (upd H r (.lst (qs.map V.ref ++ [V.ref q]))) r (ds ++ [k]) := by
  refine ⟨qs ++ [q], ?_, Paired.app (Paired.mapP p fun q t h => h.keep (Keep.upd e)) (.cons (t.keep (Keep.upd e)) .nil)⟩
  rw [upd_same, List.map_append]
  rfl
/-- a tree is put into the innermost row -/
theorem BHeap.put {C : Addr} {H0 H : Hp} {aO aR r0 : Addr} {ops rws : List Addr} {fs : List Fr} {k : U.Tm} {q : Addr} (h : BHeap C H0 H aO aR r0 ops rws fs []) (t : TreeAt C H k q) (hd : ∀ f g, fs = f :: g → f.dn.length ≤ 3) :
    ∃ (r : Addr) (qs : List Addr), (∃ L, (r0 :: rws.reverse).map V.ref = L ++ [V.ref r]) ∧ H r = some (.lst (qs.map V.ref)) ∧ qs.length ≤ 3 ∧ r ≠ aO ∧ r ≠ aR ∧ BHeap C H0 (upd H r (.lst (qs.map V.ref ++ [V.ref q]))) aO aR r0 ops rws (putDn fs k) (putBot fs k) := by
  have nd := h.nd
  simp only [List.nodup_cons, List.mem_cons, not_or] at nd
  obtain ⟨⟨n1, n2, n3⟩, ⟨n4, n5⟩, n6, n7⟩ := nd
  cases fs with
  | nil =>
    have hr : rws = [] := by
      have := h.pR
      cases this
      rfl
    have ho : ops = [] := by
      have := h.pO
      cases this
      rfl
    subst hr ho
    obtain ⟨qs, e, p⟩ := h.b0
    have pl := p.length
    refine ⟨r0, qs, ⟨[], rfl⟩, e, by simp at pl; simp [pl], Ne.symm n2, Ne.symm n4, (upd_ne n2).trans h.eO, (upd_ne n4).trans h.eR, .nil, .nil, RowAt.put e p t, h.nd, h.nw, upd_new (h.nw r0 (by simp)) h.sm⟩
  | cons f g =>
    have ⟨hp, hpe⟩ : ∃ x, x = h.pR := ⟨_, rfl⟩
    clear hpe
    cases hp with
    | @cons r _ rws' _ rr p2 =>
      obtain ⟨qs, e, p⟩ := rr
      simp only [List.mem_cons, not_or, List.nodup_cons] at n3 n5 n6 n7
      have kp : Keep H (upd H r (.lst (qs.map V.ref ++ [V.ref q]))) := Keep.upd e
      have pl := p.length
      have hl := hd f g rfl
      refine ⟨r, qs, ⟨(r0 :: rws'.reverse).map V.ref, by simp⟩, e, by omega, Ne.symm n3.1, Ne.symm n5.1, (upd_ne n3.1).trans h.eO, (upd_ne n5.1).trans h.eR, ops_stay kp ?_, .cons (RowAt.put e p t) (rows_stay kp p2 fun x hx => upd_ne fun z => n7.1 (z ▸ hx)), h.b0.stay kp (upd_ne n6.1), h.nd, h.nw, upd_new (h.nw r (by simp)) h.sm⟩
      have := h.pO
      cases this with
      | cons a b => exact .cons a b
/-- a bracket and a row are opened -/
theorem BHeap.push {C : Addr} {H0 H : Hp} {aO aR r0 pc aN : Addr} {ops rws : List Addr} {fs : List Fr} {f : Fr} (h : BHeap C H0 H aO aR r0 ops rws fs []) (e : H pc = some (.tup (pcV (op f.at_ f.w f.b)))) (hd : f.dn = [])
    (hN : (upd H aO (.lst (ops.reverse.map V.ref ++ [V.ref pc]))) aN = none) :
    BHeap C H0 (upd (upd (upd H aO (.lst (ops.reverse.map V.ref ++ [V.ref pc]))) aN (.lst [])) aR (.lst ((r0 :: rws.reverse).map V.ref ++ [V.ref aN]))) aO aR r0 (pc :: ops) (aN :: rws) (f :: fs) [] := by
  have nd := h.nd
  simp only [List.nodup_cons, List.mem_cons, not_or] at nd
  obtain ⟨⟨n1, n2, n3⟩, ⟨n4, n5⟩, n6, n7⟩ := nd
  have mO : aO ≠ aN := ne_of_none upd_same hN
  have hN' : H aN = none := by rw [upd_ne mO.symm] at hN; exact hN
  have mR : aR ≠ aN := ne_of_none h.eR hN'
  have m0 : r0 ≠ aN := by
    obtain ⟨qs, e, _⟩ := h.b0
    exact ne_of_none e hN'
  have mr : aN ∉ rws := by
    intro hm
    have g : ∀ {rws : List Addr} {fs : List Fr}, Paired (fun r f => RowAt C H r f.dn) rws fs → ∀ b ∈ rws, ∃ o, H b = some o := by
      intro rws fs p
      induction p with
      | nil =>
        intro b hb
        simp at hb
      | cons r t ih =>
        intro b hb
        rcases List.mem_cons.mp hb with rfl | hb
        · obtain ⟨qs, e, _⟩ := r
          exact ⟨_, e⟩
        · exact ih b hb
    obtain ⟨o, e⟩ := g h.pR aN hm
    rw [hN'] at e
    cases e
  have k1 : Keep H (upd H aO (.lst (ops.reverse.map V.ref ++ [V.ref pc]))) := Keep.upd h.eO
  have k2 := k1.trans (Keep.of (same_new (o := .lst []) hN))
  have eR2 : (upd (upd H aO (.lst (ops.reverse.map V.ref ++ [V.ref pc]))) aN (.lst [])) aR = some (.lst ((r0 :: rws.reverse).map V.ref)) := by
    rw [upd_ne mR, upd_ne (Ne.symm n1)]
    exact h.eR
  have kp := k2.trans (Keep.upd (o := .lst ((r0 :: rws.reverse).map V.ref ++ [V.ref aN])) eR2)
  have oth : ∀ b, b ≠ aO → b ≠ aR → b ≠ aN → (upd (upd (upd H aO (.lst (ops.reverse.map V.ref ++ [V.ref pc]))) aN (.lst [])) aR (.lst ((r0 :: rws.reverse).map V.ref ++ [V.ref aN]))) b = H b := fun b h1 h2 h3 => by rw [upd_ne h2, upd_ne h3, upd_ne h1]
  have nN0 : H0 aN = none := by
    cases hz : H0 aN with
    | none => rfl
    | some o =>
      have := h.sm _ _ hz
      rw [hN'] at this
      cases this
  refine ⟨?_, ?_, .cons (kp _ _ e (by intro l z; cases z)) (ops_stay kp h.pO), .cons ⟨[], ?_, ?_⟩ (rows_stay kp h.pR fun x hx => oth x (fun z => n3 (z ▸ hx)) (fun z => n5 (z ▸ hx)) (fun z => mr (z ▸ hx))), h.b0.stay kp (oth _ (Ne.symm n2) (Ne.symm n4) m0), ?_, ?_, ?_⟩
  · rw [upd_ne n1, upd_ne mO, upd_same]
    simp
  · rw [upd_same]
    simp
  · rw [upd_ne mR.symm, upd_same]
    rfl
  · rw [hd]
    exact .nil
  · simp only [List.nodup_cons, List.mem_cons, not_or]
    exact ⟨⟨n1, n2, mO, n3⟩, ⟨n4, mR, n5⟩, ⟨m0, n6⟩, mr, n7⟩
  · intro b hb
    simp only [List.mem_cons] at hb
    rcases hb with rfl | rfl | rfl | rfl | hb
    · exact h.nw _ (by simp)
    · exact h.nw _ (by simp)
    · exact h.nw _ (by simp)
    · exact nN0
    · exact h.nw _ (by simp [hb])
  · refine upd_new (h.nw aR (by simp)) ?_
    exact (upd_new (h.nw aO (by simp)) h.sm).trans (same_new hN)
/-- both are closed -/
theorem BHeap.pop {C : Addr} {H0 H : Hp} {aO aR r0 pc r : Addr} {ops rws : List Addr} {fs : List Fr} {f : Fr} (h : BHeap C H0 H aO aR r0 (pc :: ops) (r :: rws) (f :: fs) []) :
    H aO = some (.lst (ops.reverse.map V.ref ++ [V.ref pc])) ∧ H aR = some (.lst ((r0 :: rws.reverse).map V.ref ++ [V.ref r])) ∧ H pc = some (.tup (pcV (op f.at_ f.w f.b))) ∧ RowAt C H r f.dn ∧
    BHeap C H0 (upd (upd H aO (.lst (ops.reverse.map V.ref))) aR (.lst ((r0 :: rws.reverse).map V.ref))) aO aR r0 ops rws fs [] := by
  have ePc : ∃ t, h.pO = t := ⟨_, rfl⟩
  cases h.pO with
  | cons e1 p1 =>
    cases h.pR with
    | cons e2 p2 =>
      have eO : H aO = some (.lst (ops.reverse.map V.ref ++ [V.ref pc])) := by
        rw [h.eO]
        simp
      have eR : H aR = some (.lst ((r0 :: rws.reverse).map V.ref ++ [V.ref r])) := by
        rw [h.eR]
        simp
      have nd := h.nd
      simp only [List.nodup_cons, List.mem_cons, not_or] at nd
      obtain ⟨⟨n1, n2, n3, n4⟩, ⟨n5, n6, n7⟩, ⟨n8, n9⟩, n10, n11⟩ := nd
      have eR2 : ∀ o, (upd H aO o) aR = some (.lst ((r0 :: rws.reverse).map V.ref ++ [V.ref r])) := fun o => by rw [upd_ne (Ne.symm n1)]; exact eR
      have kp : Keep H (upd (upd H aO (.lst (ops.reverse.map V.ref))) aR (.lst ((r0 :: rws.reverse).map V.ref))) := (Keep.upd eO).trans (Keep.upd (eR2 _))
      have oth : ∀ b, b ≠ aO → b ≠ aR → (upd (upd H aO (.lst (ops.reverse.map V.ref))) aR (.lst ((r0 :: rws.reverse).map V.ref))) b = H b := fun b h1 h2 => by rw [upd_ne h2, upd_ne h1]
      refine ⟨eO, eR, e1, e2, ?_, upd_same, ops_stay kp p1, rows_stay kp p2 fun x hx => oth x (fun e => n4 (e ▸ hx)) (fun e => n7 (e ▸ hx)), h.b0.stay kp (oth _ (Ne.symm n2) (Ne.symm n5)), ?_, ?_, ?_⟩
      · rw [upd_ne n1, upd_same]
      · simp only [List.nodup_cons, List.mem_cons, not_or]
        exact ⟨⟨n1, n2, n4⟩, ⟨n5, n7⟩, n9, n11⟩
      · intro b hb
        refine h.nw b ?_
        simp only [List.mem_cons] at hb ⊢
        rcases hb with h | h | h | h
        · exact .inl h
        · exact .inr (.inl h)
        · exact .inr (.inr (.inl h))
        · exact .inr (.inr (.inr (.inr h)))
      · exact upd_new (h.nw aR (by simp)) (upd_new (h.nw aO (by simp)) h.sm)
end K


set_option Elab.async false
set_option linter.all false
set_option maxRecDepth 100000
set_option maxHeartbeats 4000000
namespace K
open PySem PySem.Spec PyProof.Rows L2 U
theorem But.sameN {p : Addr} {H0 H H' : Hp} (h : But p H H') (s : Same H0 H) (n : H0 p = none) : Same H0 H' := fun b o e => h b o (s b o e) (ne_of_none e n)
theorem ar_le (w : Wd) : w.ar ≤ 3 := by cases w <;> decide
theorem smV_is (o : Option (List Nat)) : smV o = .non ∨ ∃ z, smV o = .str z := by
  cases o with
  | none => exact .inl rfl
  | some b => exact .inr ⟨_, rfl⟩
theorem kids_few (k : U.Tm) : k.kids.length ≤ 3 := by cases k <;> simp [U.Tm.kids]
/-- what Tree.__init__ leaves as free names are those of the term -/
theorem free_is {k : U.Tm} {frs : List (List Str)} {ys : List Str} (ok : (∃ kd l, k = .atom kd l) ∨ ∃ w b ks, View k w b ks) (h : Paired (fun fr k => FreeIs k fr) frs k.kids) (y1 : k.kind = Kd.name.cs → ys = [tx k.pr]) (y2 : k.kind ≠ Kd.name.cs → ys.Nodup ∧ sortedS ys = true ∧ ∀ x, x ∈ ys ↔ x ∈ found frs (smV k.small)) : FreeIs k ys := by
  rcases ok with ⟨kd, l, rfl⟩ | ⟨wd, b, ks, v⟩
  · have hf : frs = [] := by
      cases h
      rfl
    subst hf
    by_cases e : kd = .name
    · subst e
      rw [y1 rfl]
      refine ⟨by simp, by rfl, fun x => ?_⟩
      rw [List.mem_singleton]
      exact ⟨fun z => ⟨l, z, rfl, rfl⟩, fun ⟨l', e1, _, e2⟩ => by rw [e1, e2]; rfl⟩
    · obtain ⟨a1, a2, a3⟩ := y2 fun z => e (by cases kd <;> first | rfl | exact absurd z (by simp only [U.Tm.kind]; decide))
      refine ⟨a1, a2, fun x => ?_⟩
      rw [a3]
      constructor
      · intro z
        simp [found] at z
      · rintro ⟨l', e1, e2, e3⟩
        exact absurd e2 e
  · have ne : k.kind ≠ Kd.name.cs := by
      rw [v.kind]
      cases wd <;> decide
    obtain ⟨a1, a2, a3⟩ := y2 ne
    rw [v.small] at a3
    rw [v.kids] at h
    exact ⟨a1, a2, fun x => (a3 x).trans (found_free v h x)⟩
/-- the innermost row -/
theorem BHeap.last {C : Addr} {H0 H : Hp} {aO aR r0 : Addr} {ops rws : List Addr} {fs : List Fr} {bot : List U.Tm} (h : BHeap C H0 H aO aR r0 ops rws fs bot) : ∃ (L : List V) (r : Addr) (zs : List V), (r0 :: rws.reverse).map V.ref = L ++ [V.ref r] ∧ H r = some (.lst zs) := by
  have hp := h.pR
  cases hp with
  | nil =>
    obtain ⟨qs, e, _⟩ := h.b0
    exact ⟨[], r0, _, rfl, e⟩
  | @cons r _ rws' _ rr p2 =>
    obtain ⟨qs, e, _⟩ := rr
    exact ⟨(r0 :: rws'.reverse).map V.ref, r, _, by simp, e⟩
section
variable {P : Program} {w : World} {K : PySem.W.Frag} {mg : Str → Option Value} {base : Heap} {dW dB : Addr} {esW : Array DictEntry} {nW : Nat} (T : Txt K mg w dW dB esW nW)
include T
theorem ok_built {f f1 C : Addr} {fd fd1 : FuncData} (F : Fun K "built" "built" s_built f fd) (TC : TreeC K C) (m_Tree : HasC P w K mg base "Tree" C 2 ["self", "text", "kind", "small", "within"] (spTreeInit C) f1 fd1) : FnOk P w K mg base CX0 4 f fd ["text", "pieces"] (spBuilt C) := by
  refine F.ok sc_built (fun vs H Q E h => ?_) (fun cdv A outer s H vs Q E hr h => ?_)
  · obtain ⟨aP, ps, k, N, rfl, _⟩ := h
    rfl
  · obtain ⟨aP, ps, k0, N, rfl, hl, hok, hsz, eP, pcs, hN, nm, q⟩ := h
    refine ⟨_, (pss_cons (ps_set (i := 2) sc_built.nd rfl (.inl rfl) (pe_lst pa_nil))
      (pss_cons (ps_set (i := 3) sc_built.nd rfl (.inl rfl) (pe_lst (pa_cons (pe_lst pa_nil) pa_nil)))
      (pss_cons (ps_for PassesOwn.never rfl (pi_list (pv 1)) (pg_name (i := 4) sc_built.nd rfl (.inl rfl)) 
        (pss_cons (ps_asg (pv 4) (pg_tup rfl (pgs_cons (pg_name (i := 5) sc_built.nd rfl (.inl rfl)) (pgs_cons (pg_name (i := 6) sc_built.nd rfl (.inl rfl)) (pgs_cons (pg_name (i := 7) sc_built.nd rfl (.inl rfl)) (pgs_cons (pg_name (i := 8) sc_built.nd rfl (.inl rfl)) pgs_nil))))))
        (pss_cons (ps_if (pt_cmpR (op_in_tab T.W) (pv 5) (pe_globR (by rfl) T.gW) (by rfl)) 
          (pss_cons (ps_expr (pe_bm PySem.F.plainAttrs_list PySem.F.slot_list_append PySem.F.type_list_append mt_append (pv 2) (pa_cons (pv 4) pa_nil)))
          (pss_cons (ps_expr (pe_bm PySem.F.plainAttrs_list PySem.F.slot_list_append PySem.F.type_list_append mt_append (pv 3) (pa_cons (pe_lst pa_nil) pa_nil)))
          (pss_one (ps_continue)))) pss_nil)
        (pss_cons (ps_set (i := 9) sc_built.nd rfl (.inl rfl) (pe_lst pa_nil))
        (Evl.pss_cut (ps_if (pt_cmpR op_eq (pv 5) (pe_globS (by rfl) T.g_CLOSE) (nomark _)) 
          (pss_cons (ps_asg (pe_bm0 PySem.F.plainAttrs_list PySem.F.slot_list_pop PySem.F.type_list_pop mt_pop (pv 2)) (pg_tup rfl (pgs_cons (pg_name (i := 5) sc_built.nd rfl (.inl rfl)) (pgs_cons (pg_name (i := 6) sc_built.nd rfl (.inl rfl)) (pgs_cons (pg_name (i := 10) sc_built.nd rfl (.inl rfl)) (pgs_cons (pg_name (i := 8) sc_built.nd rfl (.inl rfl)) pgs_nil))))))
          (pss_one (ps_set (i := 9) sc_built.nd rfl (.inl rfl) (pe_bm0 PySem.F.plainAttrs_list PySem.F.slot_list_pop PySem.F.type_list_pop mt_pop (pv 3))))) pss_nil)
        (pss_one (ps_expr (pe_bm PySem.F.plainAttrs_list PySem.F.slot_list_append PySem.F.type_list_append mt_append (pe_ix ix_list (pv 3) (pe_un un_neg pe_int) (fun _ _ => rfl)) (pa_cons (pe_makeH m_Tree (hr.mono (by first | decide | omega)) (by rfl) (pa_cons (pe_slice sl_str (pv 0) (po_some (pv 6)) (po_some (pv 7))) (pa_cons (pv 5) (pa_cons (pv 8) (pa_cons (pv 9) pa_nil))))) pa_nil)))))))))
      (pss_one (ps_ret (pe_ix ix_list (pe_ix ix_list (pv 3) pe_int (fun _ _ => rfl)) pe_int (fun _ _ => rfl))))))), ?_⟩
    have cl41 : Str.ofString ")" = tx [41] := by decide +kernel
    have plen := pcs.length
    have pcl := pc_len k0 0
    -- opened, rows
    refine ⟨Nat.zero_le _, fun aO hO => ⟨Nat.zero_le _, fun r0 h0 => ⟨sizeLine_ge (by show 1 ≤ 10000; decide), fun aR hR => ?_⟩⟩⟩
    have nO0 : aO ≠ r0 := ne_of_none upd_same h0
    have n0R : r0 ≠ aR := ne_of_none upd_same hR
    have nOR : aO ≠ aR := ne_of_none (show (upd (upd H aO (.lst [])) r0 (.lst [])) aO = some (.lst []) by rw [upd_ne nO0, upd_same]) hR
    have h0' : H r0 = none := by rw [upd_ne nO0.symm] at h0; exact h0
    have hR' : H aR = none := by rw [upd_ne n0R.symm, upd_ne nOR.symm] at hR; exact hR
    have B0 : BHeap C H (upd (upd (upd H aO (.lst [])) r0 (.lst [])) aR (.lst [V.ref r0])) aO aR r0 [] [] [] [] := by
      refine ⟨?_, upd_same, .nil, .nil, ⟨[], ?_, .nil⟩, by simp [nO0, n0R.symm, nOR], ?_, (same_new hO).trans ((same_new h0).trans (same_new hR))⟩
      · rw [upd_ne nOR, upd_ne nO0, upd_same]
        rfl
      · rw [upd_ne n0R, upd_same]
        rfl
      · intro b hb
        simp only [List.mem_cons, List.not_mem_nil, or_false] at hb
        rcases hb with rfl | rfl | rfl
        · exact hO
        · exact hR'
        · exact h0'
    refine ⟨_, rfl, aP, rfl, ⟨_, .inl (.inl (B0.sm _ _ eP))⟩, for_it (walk_list (xs := ps.map V.ref)) (fun i σ H' => ∃ (ops rws : List Addr) (fs : List Fr) (bot : List U.Tm) (x4 x5 x6 x7 x8 x9 x10 : Option V), σ = [some (.str (tx k0.pr)), some (.ref aP), some (.ref aO), some (.ref aR), x4, x5, x6, x7, x8, x9, x10] ∧
        BHeap C H H' aO aR r0 ops rws fs bot ∧ Bst (nameOk N) k0 ((k0.pc 0).drop i) fs bot ∧ ∀ f ∈ fs, f.t.Names (nameOk N))
      ⟨[], [], [], [], _, _, _, _, _, _, _, rfl, B0, .ahead k0 0 ⟨rfl, rfl⟩ hok nm (fun f hf => by simp at hf) (by simp [rests, rP]), fun f hf => by simp at hf⟩ ?_ ?_ ?_⟩
    · rintro i σ H' _ ⟨ops, rws, fs, bot, x4, x5, x6, x7, x8, x9, x10, rfl, bh, _⟩
      exact .inl (.inl (bh.sm _ _ eP))
    · rintro i x σ H1 H2 hi ⟨ops, rws, fs, bot, x4, x5, x6, x7, x8, x9, x10, rfl, bh, bst, fnm⟩ ⟨rfl, hx⟩
      rw [List.length_map] at hi
      have hc : (k0.pc 0)[i]? = some ((k0.pc 0)[i]'(by omega)) := List.getElem?_eq_getElem (by omega)
      have hdr : (k0.pc 0).drop i = (k0.pc 0)[i]'(by omega) :: (k0.pc 0).drop (i + 1) := List.drop_eq_getElem_cons (by omega)
      obtain ⟨pi, hpi, tp0⟩ := Paired.at_ pcs hc
      have ex : x = .ref pi := by
        rw [List.getElem?_map, hpi] at hx
        exact (Option.some.inj hx).symm
      subst ex
      rw [hdr] at bst
      generalize (k0.pc 0)[i]'(by omega) = c at tp0 bst hc hdr
      generalize (k0.pc 0).drop (i + 1) = rem at bst hdr
      have tp := bh.sm _ _ tp0
      refine ⟨_, rfl, pi, _, rfl, .inl (.inl tp), rfl, ?_⟩
      refine ⟨_, _, rfl, _, _, rfl, _, _, rfl, _, _, rfl, rfl, ?_⟩
      refine ⟨_, rfl, tx c.kind, rfl, rfl, _, rfl, ite2 (fun hw => ?_) (fun hw => ?_)⟩
      · -- a bracket opens
        have hw := (in_keys _).mp (of_decide_eq_true hw)
        have eOp : ∃ (k : U.Tm) (a : Nat) (w : Wd) (b : List Nat) (ks : List U.Tm), View k w b ks ∧ Ctx k0 fs k a ∧ k.Names (nameOk N) ∧ restsOk (nameOk N) fs ∧ c :: rem = k.pc a ++ rP (a + k.pr.length) (rests fs) ∧ bot = [] := by
          cases bst with
          | over e => cases e
          | ahead k a ctx ok nm' ro e =>
            rcases view ok with ⟨kd, l, rfl, hk⟩ | ⟨wd, b, ks, v⟩
            · have e1 := (List.cons.inj e).1
              subst e1
              exact absurd hw (kd_wd kd)
            · exact ⟨k, a, wd, b, ks, v, ctx, nm', ro, e, rfl⟩
          | close v ctx nm' ro e =>
            have e1 := (List.cons.inj e).1
            subst e1
            exact absurd hw cl_wd
        obtain ⟨k, a, wd, b, ks, v, ctx, nm', ro, e, rfl⟩ := eOp
        have eR := bh.eR
        have eO := bh.eO
        have ec : c = op a wd b := by
          rw [v.pc] at e
          exact (List.cons.inj e).1
        subst ec
        obtain ⟨k1, ks', rfl⟩ := v.some_kid
        have lO := bh.pO.length
        have lR := bh.pR.length
        have nOR := bh.nd
        simp only [List.nodup_cons, List.mem_cons, not_or] at nOR
        have nOR := nOR.1.1
        have few : fs.length + 1 < k0.pr.length := by
          have h0 : 1 ≤ (hd wd b).length := by simp [hd]
          have h1 := congrArg List.length ctx.text
          rw [List.length_drop, List.length_append, v.pr, List.length_append, List.length_append] at h1
          have h3 := rT_len (rests fs)
          rw [show (rests fs).length = fs.length from List.length_map ..] at h3
          simp at h1
          omega
        refine ⟨_, rfl, .inl ⟨rfl, _, .inl (.inl eO)⟩, _, rfl, aO, _, _, rfl, rfl, eO, ?_, ?_⟩
        · rw [List.length_map, List.length_reverse]
          omega
        have eR2 : ∀ o, (upd H2 aO o) aR = some (.lst ((r0 :: rws.reverse).map V.ref)) := fun o => by
          rw [upd_ne (Ne.symm nOR)]
          exact eR
        refine ⟨_, rfl, .inl ⟨rfl, _, .inl (.inl (eR2 _))⟩, Nat.zero_le _, fun aN hN2 => ?_⟩
        have nRN : aR ≠ aN := ne_of_none (eR2 _) hN2
        refine ⟨aR, _, _, rfl, rfl, (by rw [upd_ne nRN]; exact eR2 _), ?_, ?_⟩
        · rw [List.length_map, List.length_cons, List.length_reverse]
          omega
        exact ⟨pi :: ops, aN :: rws, ⟨k, wd, b, a, [], ks'⟩ :: fs, [], _, _, _, _, _, _, _, rfl, BHeap.push (f := ⟨k, wd, b, a, [], ks'⟩) bh tp rfl hN2, Bst.open v ctx nm' ro e, fun f hf => by
          rcases List.mem_cons.mp hf with rfl | hf
          · exact nm'
          · exact fnm f hf⟩
      · -- a tree is made
        have hw : ¬ isWd c.kind := fun h => hw (decide_eq_true ((in_keys _).mpr h))
        refine ⟨Nat.zero_le _, fun aW hW => ?_⟩
        have bh2 := bh.same (same_new (o := .lst []) hW)
        generalize hH3 : upd H2 aW (.lst []) = H3 at bh2
        have eW : H3 aW = some (.lst []) := by
          rw [← hH3]
          exact upd_same
        refine ⟨fun σ H' => ∃ (k : U.Tm) (a : Nat) (fs : List Fr) (ops rws qs : List Addr) (l : Addr) (y10 : Option V), σ = [some (.str (tx k0.pr)), some (.ref aP), some (.ref aO), some (.ref aR), some (.ref pi), some (.str (tx k.kind)), some (.int a), some (.int ((a + k.pr.length : Nat) : Int)), some (smV k.small), some (.ref l), y10] ∧
          BHeap C H H' aO aR r0 ops rws fs [] ∧ ((∃ kd l, k = .atom kd l) ∨ ∃ w b ks, View k w b ks) ∧ Ctx k0 fs k a ∧ k.Names (nameOk N) ∧ (∀ f ∈ fs, f.t.Names (nameOk N)) ∧ restsOk (nameOk N) fs ∧ rem = rP (a + k.pr.length) (rests fs) ∧ H' l = some (.lst (qs.map V.ref)) ∧ Paired (fun q k => TreeAt C H' k q) qs k.kids, ?_, ?_⟩
        · cases bst with
          | over e => cases e
          | ahead k a ctx ok nm' ro e =>
            rcases view ok with ⟨kd, l, rfl, hk⟩ | ⟨wd, b, ks, v⟩
            · obtain ⟨e1, e2⟩ := List.cons.inj e
              subst e1
              refine ⟨_, rfl, rfl, _, rfl, ?_⟩
              rw [cl41, str_eq, decide_eq_false (kd_not kd)]
              exact iteF ⟨.atom kd l, a, fs, ops, rws, [], aW, _, rfl, bh2, .inl ⟨kd, l, rfl⟩, ctx, nm', fnm, ro, e2, eW, .nil⟩
            · rw [v.pc] at e
              have e1 := (List.cons.inj e).1
              subst e1
              exact absurd (wd_is wd) hw
          | @close f fs' v ctx nm' ro e =>
            obtain ⟨e1, e2⟩ := List.cons.inj e
            subst e1
            refine ⟨_, rfl, rfl, _, rfl, ?_⟩
            rw [cl41, str_eq, decide_eq_true (show (cl (f.at_ + (hd f.w f.b).length + (kT f.dn).length)).kind = [41] from rfl)]
            have lO := bh2.pO.length
            have lR := bh2.pR.length
            cases ops with
            | nil => simp at lO
            | cons pc ops' =>
              cases rws with
              | nil => simp at lR
              | cons r rws' =>
                obtain ⟨eO, eR, ePc, ⟨qs, er, pq⟩, bh3⟩ := bh2.pop
                have nd := bh2.nd
                simp only [List.nodup_cons, List.mem_cons, not_or] at nd
                obtain ⟨⟨n1, n2, n3, n4⟩, ⟨n5, n6, n7⟩, ⟨n8, n9⟩, n10, n11⟩ := nd
                have npc : pc ≠ aO := ne_of ePc eO (by intro z; cases z)
                have k1 : Keep H3 (upd H3 aO (.lst (ops'.reverse.map V.ref))) := Keep.upd eO
                have eR2 : ∀ o, (upd H3 aO o) aR = some (.lst ((r0 :: rws'.reverse).map V.ref ++ [V.ref r])) := fun o => by
                  rw [upd_ne (Ne.symm n1)]
                  exact eR
                refine iteT ⟨_, rfl, .inl ⟨rfl, _, .inl (.inl eO)⟩, aO, _, .ref pc, rfl, rfl, eO, by simp, ?_⟩
                rw [List.dropLast_concat]
                refine ⟨pc, _, rfl, .inl (.inl (k1 _ _ ePc (by intro l z; cases z))), rfl, _, _, rfl, _, _, rfl, _, _, rfl, _, _, rfl, rfl, ?_⟩
                refine ⟨_, rfl, .inl ⟨rfl, _, .inl (.inl (eR2 _))⟩, aR, _, .ref r, rfl, rfl, eR2 _, by simp, ?_⟩
                rw [List.dropLast_concat]
                have kp := k1.trans (Keep.upd (o := .lst ((r0 :: rws'.reverse).map V.ref)) (eR2 _))
                have epr : f.at_ + (hd f.w f.b).length + (kT f.dn).length + 1 = f.at_ + f.t.pr.length := by
                  rw [v.pr]
                  simp
                  omega
                refine ⟨f.t, f.at_, fs', ops', rws', qs, r, some (.int (op f.at_ f.w f.b).e), ?_, bh3, .inr ⟨_, _, _, v⟩, ctx, nm', fun g hg => fnm g (List.mem_cons_of_mem _ hg), ro, e2, ?_, ?_⟩
                · rw [v.kind, v.small, ← epr]
                  rfl
                · rw [upd_ne (Ne.symm n6), upd_ne (Ne.symm n3)]
                  exact er
                · rw [v.kids]
                  exact Paired.mapP pq fun q t h => h.keep kp
        · rintro σ H4 ⟨k, a, fs, ops, rws, qs, l, y10, rfl, bh4, vw, ctx, nm', fnm', ro, erem, el, pq⟩
          have eR := bh4.eR
          obtain ⟨L, r, zs, eL, eRow⟩ := bh4.last
          rw [eL] at eR
          refine ⟨_, rfl, _, rfl, aR, _, _, _, rfl, rfl, .inl (.inl eR), atI_end _ _, .inl ⟨rfl, _, .inl (.inl eRow)⟩, ?_⟩
          -- Tree(text[begin:end], kind, small, within)
          have cut : cutS (tx k0.pr) (some (a : Int)) (some ((a + k.pr.length : Nat) : Int)) = tx k.pr := cut_at ctx.text rfl rfl
          refine ⟨_, rfl, _, rfl, _, rfl, _, rfl, _, rfl, _, rfl, by rw [tx_len]; exact hl, _, rfl, _, rfl, _, rfl, fun p dx hp hdx nxp => ?_⟩
          rw [cut]
          obtain ⟨frs, pf, pi2, hfr⟩ := frees pq (N := N) (by
            rcases vw with ⟨kd, l, rfl⟩ | ⟨w, b, ks, v⟩
            · exact fun k hk => by simp [U.Tm.kids] at hk
            · rw [v.kids]
              exact v.names nm')
          have flen := pf.length
          have plen2 := pq.length
          have kf := kids_few k
          have fb := found_bound (small := smV k.small) (by omega) hN hfr
          have s5 : Same H4 (upd (upd H4 dx (.own p)) p (.ins C dx [])) := (same_new hdx).trans (same_new (by rw [upd_ne (Ne.symm nxp)]; exact hp))
          have npl : l ≠ p := ne_of_none el hp
          refine ⟨p, dx, l, k.pr, k.kind, smV k.small, qs, frs, rfl, upd_same, smV_is _, s5 _ _ el, Paired.mapP pf fun q fr h => h.same s5, fb.1, ⟨N, hN, fb.2⟩, fun H' tw tf ys b1 e1 e2 e3 y1 y2 => ⟨rfl, ?_⟩⟩
          have s6 : Same H4 H' := But.sameN b1 s5 hp
          have fi := free_is vw pi2 y1 y2
          have tr : TreeAt C H' k p := TreeAt.mk ⟨dx, tw, tf, _, e1, e2, e3, fi⟩ (Paired.mapP pq fun q t h => h.keep (Keep.of s6))
          have bh6 := bh4.same s6
          have few : ∀ f g, fs = f :: g → f.dn.length ≤ 3 := by
            rintro f g rfl
            have h1 := ctx.1.ar
            have h2 := ar_le f.w
            rw [List.length_append] at h1
            omega
          obtain ⟨r', qs', ⟨L', eL'⟩, er', l3, _, _, bh7⟩ := bh6.put tr few
          have er : r' = r := by
            have h := (List.append_inj' (eL'.symm.trans eL) rfl).2
            injection h with h _
            injection h
          subst er
          refine ⟨r', _, _, rfl, rfl, er', ?_, ?_⟩
          · rw [List.length_map]
            exact sizeLine_ge (by omega)
          exact ⟨ops, rws, putDn fs k, putBot fs k, _, _, _, _, _, _, _, rfl, bh7, Bst.fin ctx nm fnm' ro erem, fun f hf => by
            cases fs with
            | nil => simp [putDn] at hf
            | cons g fs' =>
              rcases List.mem_cons.mp hf with rfl | hf
              · exact fnm' g List.mem_cons_self
              · exact fnm' f (List.mem_cons_of_mem _ hf)⟩
    · rintro σ H1 ⟨ops, rws, fs, bot, x4, x5, x6, x7, x8, x9, x10, rfl, bh, bst, fnm⟩
      rw [List.length_map, plen, List.drop_length] at bst
      cases bst with
      | ahead k a ctx ok nm' ro e => cases k <;> simp [U.Tm.pc] at e
      | close v ctx nm' ro e => cases e
      | over e =>
        have hr : rws = [] := by
          have := bh.pR
          cases this
          rfl
        subst hr
        obtain ⟨qs, er, pq⟩ := bh.b0
        cases pq with
        | @cons q0 _ qs' _ t0 p2 =>
          cases p2
          exact ⟨_, rfl, aR, _, _, _, rfl, rfl, .inl (.inl bh.eR), rfl, r0, _, _, _, rfl, rfl, .inl (.inl er), rfl, q q0 H1 bh.sm t0⟩
end
end K


set_option Elab.async false
set_option linter.all false
set_option maxRecDepth 100000
set_option maxHeartbeats 4000000
namespace K
open PySem PySem.Spec PyProof.Rows L2 U
def spTreeOf (C : Addr) : Sp := fun vs H Q _ => ∃ (k : U.Tm) (N : List Str), vs = [.str (tx k.pr)] ∧ k.pr.length ≤ sizeLine ∧ k.Ok ∧ k.size ≤ 200 ∧ k.depth ≤ 30 ∧ N.length < 64 ∧ k.Names (nameOk N) ∧
  ∀ q H', Same H H' → TreeAt C H' k q → Q (.ref q) H'
def spAll (C : Addr) : Sp := fun vs H Q _ => ∃ (k : U.Tm) (p : Addr), vs = [.ref p] ∧ TreeAt C H k p ∧ k.size ≤ 1000 ∧
  ∀ r H' qs zs, Same H H' → H r = none → H' r = some (.lst (qs.map V.ref)) → Paired (fun q k => TreeAt C H' k q) qs zs → zs = k :: zs.flatMap U.Tm.kids → zs.length = k.size → Q (.ref r) H'
def sizes (zs : List U.Tm) : Nat := (zs.map U.Tm.size).sum
theorem size_kids (k : U.Tm) : k.size = 1 + sizes k.kids := by
  cases k <;> simp [U.Tm.size, U.Tm.kids, sizes] <;> omega
theorem sizes_app (a b : List U.Tm) : sizes (a ++ b) = sizes a + sizes b := by simp [sizes]
theorem sizes_len : ∀ zs : List U.Tm, zs.length ≤ sizes zs
  | [] => Nat.le_refl _
  | z :: zs => by
    have := sizes_len zs
    have h := size_kids z
    simp only [sizes, List.map_cons, List.sum_cons, List.length_cons] at this ⊢
    omega
section
variable {P : Program} {w : World} {K : PySem.W.Frag} {mg : Str → Option Value} {base : Heap} {dW dB : Addr} {esW : Array DictEntry} {nW : Nat} (T : Txt K mg w dW dB esW nW)
include T
theorem ok_tree_of {f f1 f2 f3 C : Addr} {fd fd1 fd2 fd3 : FuncData} (F : Fun K "tree_of" "tree_of" s_tree_of f fd) (h_pieces_of : Has P w K mg base "pieces_of" 5 ["text"] spPieces f1 fd1) (h_check_size : Has P w K mg base "check_size" 1 ["pieces"] spCheck f2 fd2)
    (h_built : Has P w K mg base "built" 4 ["text", "pieces"] (spBuilt C) f3 fd3) : FnOk P w K mg base CX0 6 f fd ["text"] (spTreeOf C) := by
  refine F.ok sc_tree_of (fun vs H Q E h => ?_) (fun cdv A outer s H vs Q E hr h => ?_)
  · obtain ⟨k, N, rfl, _⟩ := h
    rfl
  · obtain ⟨k, N, rfl, hl, hok, hsz, hdp, hN, nm, q⟩ := h
    refine ⟨_, (pss_cons (ps_if (pt_not (pt_val (pe_callB call_isi (by rfl) T.z_isinstance (by decide +kernel) (pa_cons (pv 0) (pa_cons (pe_bltn (v := .ty "str") (u := .type "str") (by rfl) T.z_str (by decide +kernel) rfl) pa_nil))))) 
        (pss_one (ps_never)) pss_nil)
      (pss_cons (ps_set (i := 1) sc_tree_of.nd rfl (.inl rfl) (pe_callH h_pieces_of (hr.mono (by first | decide | omega)) (by rfl) (pa_cons (pv 0) pa_nil)))
      (pss_cons (ps_expr (pe_callH h_check_size (hr.mono (by first | decide | omega)) (by rfl) (pa_cons (pv 1) pa_nil)))
      (pss_one (ps_ret (pe_callH h_built (hr.mono (by first | decide | omega)) (by rfl) (pa_cons (pv 0) (pa_cons (pv 1) pa_nil)))))))), ?_⟩
    refine ⟨_, rfl, _, _, .type "str", _, true, rfl, .ty "str", .base (.str _), kit_ty rfl, ?_⟩
    refine ⟨true, rfl, iteF ?_⟩
    refine ⟨_, rfl, k, rfl, hl, hok, by omega, fun p H1 ps s1 e1 pcs => ?_⟩
    have sz := sz_term k 0 ⟨0, 0, 0⟩ (Int.le_refl _)
    refine ⟨_, rfl, p, ps, k.pc 0, rfl, e1, pcs, ?_, ?_, ?_⟩
    · rw [sz]
      show max (0 : Int) (0 + (k.depth : Int)) ≤ 30
      omega
    · rw [sz]
      show (0 : Int) + (k.size : Int) ≤ 200
      omega
    refine ⟨_, rfl, _, rfl, p, ps, k, N, rfl, hl, hok, by omega, e1, pcs, hN, nm, fun q0 H2 s2 t => q q0 H2 (s1.trans s2) t⟩
theorem ok_all_trees {f C : Addr} {fd : FuncData} (F : Fun K "all_trees" "all_trees" s_all_trees f fd) (TC : TreeC K C) : FnOk P w K mg base CX0 1 f fd ["tree"] (spAll C) := by
  refine F.ok sc_all_trees (fun vs H Q E h => ?_) (fun cdv A outer s H vs Q E hr h => ?_)
  · obtain ⟨k, p, rfl, _⟩ := h
    rfl
  · obtain ⟨k, p, rfl, ht, hsz, q⟩ := h
    refine ⟨_, (pss_cons (ps_set (i := 1) sc_all_trees.nd rfl (.inl rfl) (pe_lst (pa_cons (pv 0) pa_nil)))
      (pss_cons (ps_set (i := 2) sc_all_trees.nd rfl (.inl rfl) pe_int)
      (pss_cons (ps_while PassesOwn.never (pt_cmpR op_lt (pv 2) (pe_callB call_len_seq (by rfl) T.z_len (by decide +kernel) (pa_cons (pv 1) pa_nil)) (nomark _)) 
        (pss_cons (ps_set (i := 3) sc_all_trees.nd rfl (.inl rfl) (pe_fld (pe_ix ix_list (pv 1) (pv 2) (fun _ _ => rfl)) (by rfl)))
        (pss_cons (ps_expr (pe_bm PySem.F.plainAttrs_list PySem.F.slot_list_extend PySem.F.type_list_extend mt_extendT (pv 1) (pa_cons (pv 3) pa_nil)))
        (pss_one (ps_aug (i := 2) sc_all_trees.nd rfl (.inl rfl) pe_int ip_add)))))
      (pss_one (ps_ret (pv 1)))))), ?_⟩
    refine ⟨_, rfl, sizeLine_ge (by show 1 ≤ 10000; decide), fun aF hF => ?_⟩
    have s0 : Same H (upd H aF (.lst [.ref p])) := same_new hF
    refine ⟨fun m σ H' => Same H H' ∧ ∃ (qs : List Addr) (zs : List U.Tm) (i : Nat) (x3 : Option V), σ = [some (.ref p), some (.ref aF), some (.int i), x3] ∧ H' aF = some (.lst (qs.map V.ref)) ∧ Paired (fun q k => TreeAt C H' k q) qs zs ∧
      zs = k :: (zs.take i).flatMap U.Tm.kids ∧ i ≤ zs.length ∧ i + sizes (zs.drop i) = k.size ∧ m = sizes (zs.drop i), ⟨_, s0, [p], [k], 0, _, rfl, upd_same, .cons (ht.keep (Keep.of s0)) .nil, rfl, by simp, by simp [sizes], rfl⟩, ?_⟩
    rintro m σ H1 ⟨s1, qs, zs, i, x3, rfl, eF, pq, ez, hi, hs, rfl⟩
    have pl := pq.length
    refine ⟨_, rfl, _, rfl, aF, _, rfl, .inl (.inl (.inl eF)), _, _, rfl, rfl, _, rfl, ?_⟩
    rw [List.length_map, pl]
    refine ite2 (fun h => ?_) (fun h => ?_)
    · have h := of_decide_eq_true h
      have hi2 : i < zs.length := by omega
      have hz : zs[i]? = some zs[i] := List.getElem?_eq_getElem hi2
      obtain ⟨qi, e1, ti⟩ := Paired.at_ pq hz
      have dz : zs.drop i = zs[i] :: zs.drop (i + 1) := List.drop_eq_getElem_cons hi2
      generalize hzi : zs[i] = z at ti dz hz
      obtain ⟨ks, ys, ⟨dx, tw, tf, cd, n1, n2, n3, n4⟩, pk⟩ := ti.node
      rw [dz] at hs
      have hsz2 := size_kids z
      simp only [sizes, List.map_cons, List.sum_cons] at hs hsz2
      have zl := sizes_len zs
      have kk := sizes_len z.kids
      have pkl := pk.length
      have dl : sizes (zs.drop (i + 1)) = ((zs.drop (i + 1)).map U.Tm.size).sum := rfl
      have dl1 := sizes_len (zs.drop (i + 1))
      have dl2 : (zs.drop (i + 1)).length = zs.length - (i + 1) := List.length_drop ..
      rw [dl] at dl1
      have hk2 : sizes z.kids = (z.kids.map U.Tm.size).sum := rfl
      refine ⟨fun σ' H' => ∃ m', m' < sizes (zs.drop i) ∧ _, fun σ' H' h => h, ?_⟩
      refine ⟨_, rfl, _, rfl, aF, _, _, _, rfl, rfl, .inl (.inl eF), atI_nat (by rw [List.getElem?_map, e1]; rfl), qi, C, dx, _, _, rfl, n1, TC.cl, TC.nw, tF_within _ _ _ _ _ _, ?_⟩
      refine ⟨_, rfl, .inl ⟨rfl, _, .inl (.inl eF)⟩, _, rfl, aF, tw, _, _, rfl, rfl, eF, .inl (.inl n2), ?_, ?_⟩
      · rw [List.length_map, List.length_map]
        exact sizeLine_ge (by omega)
      have kp : Keep H1 (upd H1 aF (.lst (qs.map V.ref ++ ks.map V.ref))) := Keep.upd eF
      have tk : (zs ++ z.kids).take (i + 1) = zs.take i ++ [z] := by
        rw [List.take_append_of_le_length (by omega), List.take_add_one, hz]
        rfl
      have dr : (zs ++ z.kids).drop (i + 1) = zs.drop (i + 1) ++ z.kids := List.drop_append_of_le_length (by omega)
      refine ⟨_, rfl, _, _, rfl, rfl, sizes ((zs ++ z.kids).drop (i + 1)), ?_, upd_new hF s1, qs ++ ks, zs ++ z.kids, i + 1, _, rfl, ?_, Paired.app (Paired.mapP pq fun q t h => h.keep kp) (Paired.mapP pk fun q t h => h.keep kp), ?_, ?_, ?_, rfl⟩
      · rw [dr, dz, sizes_app]
        simp only [sizes, List.map_cons, List.sum_cons]
        omega
      · rw [upd_same, List.map_append]
      · rw [tk, List.flatMap_append, List.flatMap_singleton, ← List.cons_append, ← ez]
      · rw [List.length_append]
        omega
      · rw [dr, sizes_app]
        simp only [sizes]
        omega
    · have h : ¬ ((i : Int) < (zs.length : Int)) := fun e => h (decide_eq_true e)
      have hi2 : i = zs.length := by omega
      rw [hi2, List.take_length] at ez
      rw [hi2, List.drop_length] at hs
      exact ⟨_, rfl, q aF H1 qs zs s1 hF eF pq ez (by simpa [sizes] using hs)⟩
end
end K


set_option Elab.async false
set_option linter.all false
set_option maxRecDepth 100000
set_option maxHeartbeats 4000000
namespace K
open PySem PySem.Spec PyProof.Rows L2 U SkE
def termF (t s r : V) : List (Str × V) := putF "_trees" r (putF "_text" s (putF "_tree" t []))
theorem ne_ut_us : ¬ (("_tree" : Str) = "_text") := by decide +kernel
theorem ne_ut_ur : ¬ (("_tree" : Str) = "_trees") := by decide +kernel
theorem ne_us_ur : ¬ (("_text" : Str) = "_trees") := by decide +kernel
section
variable (t s r : V)
theorem mF_tree : (termF t s r).lookup ("_tree" : Str) = some t := by
  unfold termF
  rw [lookup_putF, if_neg ne_ut_ur, lookup_putF, if_neg ne_ut_us, lookup_putF, if_pos rfl]
theorem mF_text : (termF t s r).lookup ("_text" : Str) = some s := by
  unfold termF
  rw [lookup_putF, if_neg ne_us_ur, lookup_putF, if_pos rfl]
theorem mF_trees : (termF t s r).lookup ("_trees" : Str) = some r := by
  unfold termF
  rw [lookup_putF, if_pos rfl]
end
/-- the class Term as the top has made it -/
structure TermC (K : PySem.W.Frag) (C : Addr) : Prop where
  cl : Cls K C
  nt : NoAttr K C "_tree"
  ns : NoAttr K C "_text"
  nr : NoAttr K C "_trees"
/-- the Term of a term at p -/
def TermAt (CT C : Addr) (H : Hp) (k : U.Tm) (p : Addr) : Prop := ∃ dx q r qs zs, H p = some (.ins CT dx (termF (.ref q) (.str (tx k.pr)) (.ref r))) ∧ TreeAt C H k q ∧ H r = some (.lst (qs.map V.ref)) ∧ Paired (fun q k => TreeAt C H k q) qs zs ∧ zs = k :: zs.flatMap U.Tm.kids ∧ zs.length = k.size
theorem TermAt.same {CT C : Addr} {H H' : Hp} {k : U.Tm} {p : Addr} (h : TermAt CT C H k p) (s : Same H H') : TermAt CT C H' k p := by
  obtain ⟨dx, q, r, qs, zs, h1, h2, h3, h4, h5, h6⟩ := h
  exact ⟨dx, q, r, qs, zs, s _ _ h1, h2.keep (Keep.of s), s _ _ h3, Paired.mapP h4 fun q t h => h.keep (Keep.of s), h5, h6⟩
/-- the same, the place of its list of trees told -/
def TermG (G : Addr → Prop) (CT C : Addr) (H : Hp) (k : U.Tm) (p : Addr) : Prop := ∃ dx q r qs zs, G r ∧ H p = some (.ins CT dx (termF (.ref q) (.str (tx k.pr)) (.ref r))) ∧ TreeAt C H k q ∧ H r = some (.lst (qs.map V.ref)) ∧ Paired (fun q k => TreeAt C H k q) qs zs ∧ zs = k :: zs.flatMap U.Tm.kids ∧ zs.length = k.size
theorem TermG.at_ {G : Addr → Prop} {CT C : Addr} {H : Hp} {k : U.Tm} {p : Addr} (h : TermG G CT C H k p) : TermAt CT C H k p := by
  obtain ⟨dx, q, r, qs, zs, _, h⟩ := h
  exact ⟨dx, q, r, qs, zs, h⟩
/-- trees are as they were -/
def KeepT (H H' : Hp) : Prop := ∀ p o, H p = some o → (∀ l, o ≠ .lst l) → (∀ C dx fs, o = .ins C dx fs → fs.lookup ("text" : Str) ≠ none) → H' p = some o
theorem NodeAt.keepT {C : Addr} {H H' : Hp} {t : U.Tm} {qs : List Addr} {p : Addr} {ys : List Str} (h : NodeAt C H t qs p ys) (k : KeepT H H') : NodeAt C H' t qs p ys := by
  obtain ⟨dx, tw, tf, cd, h1, h2, h3, h4⟩ := h
  refine ⟨dx, tw, tf, cd, k _ _ h1 (by intro l z; cases z) ?_, k _ _ h2 (by intro l z; cases z) (by intro _ _ _ z; cases z), k _ _ h3 (by intro l z; cases z) (by intro _ _ _ z; cases z), h4⟩
  intro C' dx' fs z
  injection z with _ _ z
  rw [← z, tF_text]
  simp
theorem TreeAt.keepT {C : Addr} {H H' : Hp} (k : KeepT H H') : ∀ {t : U.Tm} {p : Addr}, TreeAt C H t p → TreeAt C H' t p
  | .atom _ _, _, ⟨ys, h⟩ => ⟨ys, h.keepT k⟩
  | .n1 _ _ _, _, ⟨q, ys, h, h1⟩ => ⟨q, ys, h.keepT k, h1.keepT k⟩
  | .n2 _ _ _ _, _, ⟨q1, q2, ys, h, h1, h2⟩ => ⟨q1, q2, ys, h.keepT k, h1.keepT k, h2.keepT k⟩
  | .n3 _ _ _ _ _, _, ⟨q1, q2, q3, ys, h, h1, h2, h3⟩ => ⟨q1, q2, q3, ys, h.keepT k, h1.keepT k, h2.keepT k, h3.keepT k⟩
theorem KeepT.upd {H : Hp} {p C dx : Addr} {fs : List (Str × V)} {o : HO} (e : H p = some (.ins C dx fs)) (h : fs.lookup ("text" : Str) = none) : KeepT H (upd H p o) := fun a u h1 _ h3 => by
  rw [upd_ne fun z => ?_]
  · exact h1
  · rw [z, e] at h1
    exact h3 C dx fs (Option.some.inj h1).symm h
theorem KeepT.trans {H H1 H2 : Hp} (a : KeepT H H1) (b : KeepT H1 H2) : KeepT H H2 := fun p o e n m => b p o (a p o e n m) n m
theorem ne_x_ut : ¬ (("text" : Str) = "_tree") := by decide +kernel
theorem ne_x_us : ¬ (("text" : Str) = "_text") := by decide +kernel
/-- a term that Term takes -/
structure Fit (k : U.Tm) (N : List Str) : Prop where
  len : k.pr.length ≤ sizeLine
  ok : k.Ok
  size : k.size ≤ 200
  depth : k.depth ≤ 30
  few : N.length < 64
  names : k.Names (nameOk N)
def spTermInit (CT C : Addr) : Sp := fun vs H Q _ => ∃ (k : U.Tm) (N : List Str) (p dx : Addr), vs = [.ref p, .str (tx k.pr)] ∧ Fit k N ∧ H p = some (.ins CT dx []) ∧ ∀ H', But p H H' → TermG (fun a => H a = none) CT C H' k p → Q .non H'
def spTermEq (K : PySem.W.Frag) (CT C : Addr) : Sp := fun vs H Q _ => ∃ (k : U.Tm) (p : Addr) (y : V), vs = [.ref p, y] ∧ TermAt CT C H k p ∧
  ((∃ t, TyX K H y t ∧ PySem.W.kitOne K t (.ref CT) = some false ∧ Q (.bl false) H) ∨ ∃ k2 p2, y = .ref p2 ∧ TermAt CT C H k2 p2 ∧ TyX K H y (.ref CT) ∧ PySem.W.kitOne K (.ref CT) (.ref CT) = some true ∧ Q (.bl (decide (k.pr = k2.pr))) H)
def spTermLen (CT C : Addr) : Sp := fun vs H Q _ => ∃ (k : U.Tm) (p : Addr), vs = [.ref p] ∧ TermAt CT C H k p ∧ k.size ≤ 1000 ∧ Q (.int k.size) H
def spTermStr (CT C : Addr) : Sp := fun vs H Q _ => ∃ (k : U.Tm) (p : Addr), vs = [.ref p] ∧ TermAt CT C H k p ∧ Q (.str (tx k.pr)) H
def reprOf (k : U.Tm) : Str := Str.empty ++ Str.ofString "Term('" ++ tx k.pr ++ Str.ofString "')"
def spTermRepr (CT C : Addr) : Sp := fun vs H Q _ => ∃ (k : U.Tm) (p : Addr), vs = [.ref p] ∧ TermAt CT C H k p ∧ k.pr.length ≤ 9000 ∧ Q (.str (reprOf k)) H
section
variable {P : Program} {w : World} {K : PySem.W.Frag} {mg : Str → Option Value} {base : Heap} {dW dB : Addr} {esW : Array DictEntry} {nW : Nat} (T : Txt K mg w dW dB esW nW)
include T
theorem ok_Term_init {f f1 f2 C CT : Addr} {fd fd1 fd2 : FuncData} (F : Fun K "__init__" "Term.__init__" s_Term___init__ f fd) (MC : TermC K CT) (h_tree_of : Has P w K mg base "tree_of" 6 ["text"] (spTreeOf C) f1 fd1) (h_all_trees : Has P w K mg base "all_trees" 1 ["tree"] (spAll C) f2 fd2) :
    FnOk P w K mg base CX0 7 f fd ["self", "text"] (spTermInit CT C) := by
  refine F.ok sc_Term___init__ (fun vs H Q E h => ?_) (fun cdv A outer s H vs Q E hr h => ?_)
  · obtain ⟨k, N, p, dx, rfl, _⟩ := h
    rfl
  · obtain ⟨k, N, p, dx, rfl, fit, hp, q⟩ := h
    refine ⟨_, (pss_cons (ps_fld (pv 0) (pe_callH h_tree_of (hr.mono (by first | decide | omega)) (by rfl) (pa_cons (pv 1) pa_nil)) rfl)
      (pss_cons (ps_fld (pv 0) (pv 1) rfl)
      (pss_one (ps_fld (pv 0) (pe_callH h_all_trees (hr.mono (by first | decide | omega)) (by rfl) (pa_cons (pe_fld (pv 0) (by rfl)) pa_nil)) rfl)))), ?_⟩
    refine ⟨_, rfl, k, N, rfl, fit.len, fit.ok, fit.size, fit.depth, fit.few, fit.names, fun q0 H1 s1 t1 => ?_⟩
    refine ⟨_, rfl, p, CT, dx, _, rfl, s1 _ _ hp, MC.cl, MC.nt, by show 0 < 1000; decide, ?_⟩
    refine ⟨_, rfl, _, rfl, p, CT, dx, _, rfl, upd_same, MC.cl, MC.ns, by show 1 < 1000; decide, ?_⟩
    have k2 : KeepT H1 (upd (upd H1 p (.ins CT dx (putF "_tree" (.ref q0) []))) p (.ins CT dx (putF "_text" (.str (tx k.pr)) (putF "_tree" (.ref q0) [])))) := by
      rw [upd_upd]
      exact KeepT.upd (s1 _ _ hp) rfl
    have b2 : But p H (upd (upd H1 p (.ins CT dx (putF "_tree" (.ref q0) []))) p (.ins CT dx (putF "_text" (.str (tx k.pr)) (putF "_tree" (.ref q0) [])))) := by
      rw [upd_upd]
      exact (But.of_same s1).trans But.upd
    have fsz := fit.size
    refine ⟨_, rfl, p, CT, dx, _, _, rfl, upd_same, MC.cl, MC.nt, (by rw [lookup_putF, if_neg ne_ut_us, lookup_putF, if_pos rfl]), k, q0, rfl, t1.keepT k2, by omega, fun r H' qs zs s2 nr e2 pq ez el => ?_⟩
    have e3 := s2 _ _ (upd_same (H := upd H1 p (.ins CT dx (putF "_tree" (.ref q0) []))) (o := .ins CT dx (putF "_text" (.str (tx k.pr)) (putF "_tree" (.ref q0) []))))
    refine ⟨_, rfl, p, CT, dx, _, rfl, e3, MC.cl, MC.nr, by show 2 < 1000; decide, ?_⟩
    have k3 : KeepT H' (upd H' p (.ins CT dx (termF (.ref q0) (.str (tx k.pr)) (.ref r)))) := KeepT.upd e3 (by rw [lookup_putF, if_neg ne_x_us, lookup_putF, if_neg ne_x_ut]; rfl)
    have nr0 : H r = none := by
      rw [upd_upd] at nr
      have nrp : r ≠ p := fun z => by rw [z, upd_same] at nr; cases nr
      rw [upd_ne nrp] at nr
      cases h : H r with
      | none => rfl
      | some o => rw [s1 _ _ h] at nr; cases nr
    refine q _ ((b2.trans (But.of_same s2)).trans But.upd) ⟨dx, q0, r, qs, zs, nr0, upd_same, ((t1.keepT k2).keep (Keep.of s2)).keepT k3, ?_, Paired.mapP pq fun q t h => h.keepT k3, ez, el⟩
    rw [upd_ne (ne_of e2 e3 (by intro z; cases z))]
    exact e2
theorem ok_Term_len {f C CT : Addr} {fd : FuncData} (F : Fun K "__len__" "Term.__len__" s_Term___len__ f fd) (MC : TermC K CT) : FnOk P w K mg base CX0 1 f fd ["self"] (spTermLen CT C) := by
  refine F.ok sc_Term___len__ (fun vs H Q E h => ?_) (fun cdv A outer s H vs Q E hr h => ?_)
  · obtain ⟨k, p, rfl, _⟩ := h
    rfl
  · obtain ⟨k, p, rfl, ⟨dx, q0, r, qs, zs, h1, h2, h3, h4, h5, h6⟩, hs, q⟩ := h
    refine ⟨_, (pss_one (ps_ret (pe_callB call_len_seq (by rfl) T.z_len (by decide +kernel) (pa_cons (pe_fld (pv 0) (by rfl)) pa_nil)))), ?_⟩
    have e : (qs.map V.ref).length = k.size := by rw [List.length_map, h4.length, h6]
    rw [← e] at q
    exact ⟨_, rfl, p, CT, dx, _, _, rfl, h1, MC.cl, MC.nr, mF_trees _ _ _, r, _, rfl, .inl (.inl (.inl h3)), q⟩
theorem ok_Term_str {f C CT : Addr} {fd : FuncData} (F : Fun K "__str__" "Term.__str__" s_Term___str__ f fd) (MC : TermC K CT) : FnOk P w K mg base CX0 1 f fd ["self"] (spTermStr CT C) := by
  refine F.ok sc_Term___str__ (fun vs H Q E h => ?_) (fun cdv A outer s H vs Q E hr h => ?_)
  · obtain ⟨k, p, rfl, _⟩ := h
    rfl
  · obtain ⟨k, p, rfl, ⟨dx, q0, r, qs, zs, h1, h2, h3, h4, h5, h6⟩, q⟩ := h
    refine ⟨_, (pss_one (ps_ret (pe_callTy call_str_str (by rfl) T.z_str (by decide +kernel) (pa_cons (pe_fld (pv 0) (by rfl)) pa_nil)))), ?_⟩
    exact ⟨_, rfl, p, CT, dx, _, _, rfl, h1, MC.cl, MC.ns, mF_text _ _ _, _, rfl, q⟩
theorem ok_Term_repr {f C CT : Addr} {fd : FuncData} (F : Fun K "__repr__" "Term.__repr__" s_Term___repr__ f fd) (MC : TermC K CT) : FnOk P w K mg base CX0 1 f fd ["self"] (spTermRepr CT C) := by
  refine F.ok sc_Term___repr__ (fun vs H Q E h => ?_) (fun cdv A outer s H vs Q E hr h => ?_)
  · obtain ⟨k, p, rfl, _⟩ := h
    rfl
  · obtain ⟨k, p, rfl, ⟨dx, q0, r, qs, zs, h1, h2, h3, h4, h5, h6⟩, hl, q⟩ := h
    refine ⟨_, (pss_one (ps_ret (pe_joined (.cons pe_str (.cons (pe_fmt (pe_fld (pv 0) (by rfl))) (.cons pe_str .nil)))))), ?_⟩
    have z1 : (Str.empty ++ Str.ofString "Term('").length = 6 := by decide +kernel
    have z2 : (Str.ofString "')").length = 2 := by decide +kernel
    have app : ∀ a b : Str, (a ++ b).length = a.length + b.length := fun a b => by
      show (a.cps ++ b.cps).size = _
      simp [Str.length]
    refine ⟨_, rfl, sizeLine_ge (by rw [z1]; decide), _, rfl, p, CT, dx, _, _, rfl, h1, MC.cl, MC.ns, mF_text _ _ _, .inl ⟨_, rfl, ?_, _, rfl, ?_, _, rfl, ?_, q⟩⟩
    · rw [tx_len]
      exact sizeLine_ge (by omega)
    · rw [app, z1, tx_len]
      exact sizeLine_ge (by omega)
    · rw [app, app, z1, z2, tx_len]
      exact sizeLine_ge (by omega)
theorem ok_Term_eq {f C CT : Addr} {fd : FuncData} (F : Fun K "__eq__" "Term.__eq__" s_Term___eq__ f fd) (MC : TermC K CT) (hT : mg "Term" = some (.ref CT)) : FnOk P w K mg base CX0 1 f fd ["self", "other"] (spTermEq K CT C) := by
  refine F.ok sc_Term___eq__ (fun vs H Q E h => ?_) (fun cdv A outer s H vs Q E hr h => ?_)
  · obtain ⟨k, p, y, rfl, _⟩ := h
    rfl
  · obtain ⟨k, p, y, rfl, ⟨dx, q0, r, qs, zs, h1, h2, h3, h4, h5, h6⟩, q⟩ := h
    refine ⟨_, (pss_one (ps_ret (pe_and (pe_callB call_isi (by rfl) T.z_isinstance (by decide +kernel) (pa_cons (pv 1) (pa_cons (pe_globR (by rfl) hT) pa_nil))) (pe_one (pe_cmpR op_eq (pe_fld (pv 0) (by rfl)) (pe_fld (pv 1) (by rfl)) (nomark _)))))), ?_⟩
    rcases q with ⟨t, ty, kt, q⟩ | ⟨k2, p2, rfl, ⟨dx2, q2, r2, qs2, zs2, g1, g2, g3, g4, g5, g6⟩, ty, kt, q⟩
    · refine ⟨_, rfl, _, _, t, _, false, rfl, .own CT, ty, kt, false, rfl, iteF q⟩
    · refine ⟨_, rfl, _, _, _, _, true, rfl, .own CT, ty, kt, true, rfl, iteT ⟨_, rfl, p, CT, dx, _, _, rfl, h1, MC.cl, MC.ns, mF_text _ _ _, _, rfl, p2, CT, dx2, _, _, rfl, g1, MC.cl, MC.ns, mF_text _ _ _, rfl, ?_⟩⟩
      rw [str_eq]
      exact q
end
end K


set_option Elab.async false
set_option linter.all false
set_option maxRecDepth 100000
set_option maxHeartbeats 4000000
namespace K
open PySem PySem.Spec PyProof.Rows L2 U SkE
/-- a purse: digits left, what is mixed, how many were mixed -/
def Purse (H : Hp) (p : Addr) (c : Int) : Prop := ∃ a b c', H p = some (.lst [.int a, .int b, .int c']) ∧ 0 ≤ a ∧ 0 ≤ b ∧ b < 2 ^ 62 ∧ 0 ≤ c' ∧ c' ≤ c
def spPurse (K : PySem.W.Frag) : Sp := fun vs H Q _ => ∃ (l : Addr) (ns : List Int) (i : Nat), vs = [.ref l, .int i] ∧ SqL K H l (ns.map V.int) ∧ i ≤ 100 ∧ ∀ p a b, H p = none → 0 ≤ a → 0 ≤ b → b < 2 ^ 62 → Q (.ref p) (upd H p (.lst [.int a, .int b, .int 0]))
theorem b01 (k : Bool) : -(2 ^ 64) < (if k = true then (1 : Int) else 0) ∧ (if k = true then (1 : Int) else 0) < 2 ^ 64 := by
  cases k <;> decide
theorem purse_a (c : Int) (k : Bool) : 0 ≤ (if c < 0 then -c else c) * (if k = true then (1 : Int) else 0) := by
  refine Int.mul_nonneg ?_ ?_
  · split <;> omega
  · cases k <;> decide
theorem purse_b (c : Int) (i : Nat) (hi : i ≤ 100) : 0 ≤ c % 2305843009213693951 + 6607 * (i : Int) + 3 ∧ c % 2305843009213693951 + 6607 * (i : Int) + 3 < 2 ^ 62 := by
  have h1 := Int.emod_nonneg c (show (2305843009213693951 : Int) ≠ 0 by decide)
  have h2 := Int.emod_lt_of_pos c (show (0 : Int) < 2305843009213693951 by decide)
  have e : (2 : Int) ^ 62 = 4611686018427387904 := by decide
  omega
section
variable {P : Program} {w : World} {K : PySem.W.Frag} {mg : Str → Option Value} {base : Heap} {dW dB : Addr} {esW : Array DictEntry} {nW : Nat} (T : Txt K mg w dW dB esW nW)
include T
theorem ok__law_purse {f : Addr} {fd : FuncData} (F : Fun K "_law_purse" "_law_purse" s__law_purse f fd) : FnOk P w K mg base CX0 1 f fd ["_law_script", "_law_at"] (spPurse K) := by
  refine F.ok sc__law_purse (fun vs H Q E h => ?_) (fun cdv A outer s H vs Q E hr h => ?_)
  · obtain ⟨l, ns, i, rfl, _⟩ := h
    rfl
  · obtain ⟨l, ns, i, rfl, hl, hi, q⟩ := h
    refine ⟨_, (pss_cons (ps_set (i := 2) sc__law_purse.nd rfl (.inl rfl) pe_int)
      (pss_cons (ps_if (pt_cmpR op_lt (pv 1) (pe_callB call_len_seq (by rfl) T.z_len (by decide +kernel) (pa_cons (pv 0) pa_nil)) (nomark _)) 
        (pss_one (ps_set (i := 2) sc__law_purse.nd rfl (.inl rfl) (pe_ix ix_list (pv 0) (pv 1) (fun _ _ => rfl)))) pss_nil)
      (pss_cons (ps_set (i := 3) sc__law_purse.nd rfl (.inl rfl) (pe_callB call_abs (by rfl) T.z_abs (by decide +kernel) (pa_cons (pv 2) pa_nil)))
      (pss_one (ps_ret (pe_lst (pa_cons (pe_op op_mul (pv 3) (pe_callTy call_int1 (by rfl) T.z_int (by decide +kernel) (pa_cons (pe_cmpR op_ge (pv 3) (pe_op op_powW pe_int pe_int) (nomark _)) pa_nil))) (pa_cons (pe_op op_add (pe_op op_add (pe_op op_mod (pv 2) pe_int) (pe_op op_mul pe_int (pv 1))) pe_int) (pa_cons pe_int pa_nil))))))))), ?_⟩
    refine ⟨_, rfl, _, rfl, l, _, rfl, .inl hl, _, _, rfl, rfl, _, rfl, ?_⟩
    refine ite2 (fun h => ?_) (fun h => ?_)
    · have h := of_decide_eq_true h
      have h2 : i < ns.length := by
        rw [List.length_map] at h
        omega
      have h3 : (ns.map V.int)[i]? = some (.int ns[i]) := by
        rw [List.getElem?_map, List.getElem?_eq_getElem h2]
        rfl
      refine ⟨_, rfl, _, rfl, l, _, _, _, rfl, rfl, hl, atI_nat h3, ?_⟩
      refine ⟨_, rfl, _, rfl, _, rfl, _, rfl, _, _, rfl, rfl, ⟨by decide, by decide, by decide +kernel⟩, _, _, rfl, rfl, .inr ⟨_, rfl, _, _, rfl, rfl, .inr (b01 _), _, rfl, _, _, rfl, rfl, (show (0 : Int) < 2305843009213693951 by decide), _, rfl, _, _, rfl, rfl, .inl ⟨by decide, by decide⟩, _, _, rfl, rfl, _, _, rfl, rfl, sizeLine_ge (by show 3 ≤ 10000; decide), fun p hp => ?_⟩⟩
      exact q p _ _ hp (purse_a _ _) (purse_b _ _ hi).1 (purse_b _ _ hi).2
    · refine ⟨_, rfl, _, rfl, _, rfl, _, rfl, _, _, rfl, rfl, ⟨by decide, by decide, by decide +kernel⟩, _, _, rfl, rfl, .inr ⟨_, rfl, _, _, rfl, rfl, .inr (b01 _), _, rfl, _, _, rfl, rfl, (show (0 : Int) < 2305843009213693951 by decide), _, rfl, _, _, rfl, rfl, .inl ⟨by decide, by decide⟩, _, _, rfl, rfl, _, _, rfl, rfl, sizeLine_ge (by show 3 ≤ 10000; decide), fun p hp => ?_⟩⟩
      exact q p _ _ hp (purse_a _ _) (purse_b _ _ hi).1 (purse_b _ _ hi).2
/-- a draw: some number below many; the purse goes on -/
def spTake : Sp := fun vs H Q _ => ∃ (p : Addr) (m c : Int), vs = [.ref p, .int m] ∧ Purse H p c ∧ c < 2 ^ 40 ∧ 0 < m ∧ m < 2 ^ 60 ∧
  ∀ r H', 0 ≤ r → r < m → Purse H' p (c + 1) → But p H H' → Q (.int r) H'
omit T in
theorem primes_at (x : Int) (hx : 0 ≤ x) : ∃ z : Int, 0 < z ∧ z < 2 ^ 31 ∧ atI [V.int 2147483647, V.int 2147483629, V.int 2147483587, V.int 2147483579, V.int 2147483563, V.int 2147483549, V.int 2147483543] (x % 7) = some (.int z) := by
  have h1 := Int.emod_nonneg x (show (7 : Int) ≠ 0 by decide)
  have h2 := Int.emod_lt_of_pos x (show (0 : Int) < 7 by decide)
  have h3 : x % 7 = 0 ∨ x % 7 = 1 ∨ x % 7 = 2 ∨ x % 7 = 3 ∨ x % 7 = 4 ∨ x % 7 = 5 ∨ x % 7 = 6 := by omega
  rcases h3 with e | e | e | e | e | e | e <;> rw [e] <;> exact ⟨_, by decide, by decide, rfl⟩
omit T in
theorem base_small {b s : Int} (hb : 0 ≤ b) (hb2 : b < 2 ^ 62) (hs : 0 ≤ s) (hs2 : s < 2 ^ 41) : ((b + 104729 * s) * (3 * s + 4) + 7919 * s * s).natAbs < 2 ^ 1000 ∧ 0 ≤ (b + 104729 * s) * (3 * s + 4) + 7919 * s * s := by
  have e62 : (2 : Int) ^ 62 = 4611686018427387904 := by decide
  have e41 : (2 : Int) ^ 41 = 2199023255552 := by decide
  have h1 : (b + 104729 * s) * (3 * s + 4) ≤ 2 ^ 63 * 2 ^ 43 := Int.mul_le_mul (by rw [show (2 : Int) ^ 63 = 9223372036854775808 by decide]; omega) (by rw [show (2 : Int) ^ 43 = 8796093022208 by decide]; omega) (by omega) (by decide)
  have h2 : 7919 * s * s ≤ 2 ^ 54 * 2 ^ 41 := Int.mul_le_mul (by rw [show (2 : Int) ^ 54 = 18014398509481984 by decide]; omega) (by omega) hs (by decide)
  have h3 : 0 ≤ (b + 104729 * s) * (3 * s + 4) := Int.mul_nonneg (by omega) (by omega)
  have h4 : 0 ≤ 7919 * s * s := Int.mul_nonneg (by omega) hs
  have h5 : (2 : Int) ^ 63 * 2 ^ 43 + 2 ^ 54 * 2 ^ 41 < 2 ^ 200 := by decide
  refine ⟨?_, by omega⟩
  have h6 : (b + 104729 * s) * (3 * s + 4) + 7919 * s * s < 2 ^ 200 := by omega
  have h8 : 0 ≤ (b + 104729 * s) * (3 * s + 4) + 7919 * s * s := by omega
  have h7 : ((b + 104729 * s) * (3 * s + 4) + 7919 * s * s).natAbs < 2 ^ 200 := by omega
  exact Nat.lt_trans h7 (Nat.pow_lt_pow_right (by decide) (by decide))
theorem ok__law_take {f : Addr} {fd : FuncData} (F : Fun K "_law_take" "_law_take" s__law_take f fd) : FnOk P w K mg base CX0 1 f fd ["_law_purse_here", "_law_many"] spTake := by
  refine F.ok sc__law_take (fun vs H Q E h => ?_) (fun cdv A outer s H vs Q E hr h => ?_)
  · obtain ⟨p, m, c, rfl, _⟩ := h
    rfl
  · obtain ⟨p, m, c0, rfl, ⟨a, b, c, hp, ha, hb, hb2, hc, hcc⟩, hc2, hm, hm2, q⟩ := h
    refine ⟨_, (pss_cons (ps_if (pt_cmpR op_gt (pe_ix ix_list (pv 0) pe_int (fun _ _ => rfl)) pe_int (nomark _)) 
        (pss_cons (ps_set (i := 2) sc__law_take.nd rfl (.inl rfl) (pe_op op_mod (pe_ix ix_list (pv 0) pe_int (fun _ _ => rfl)) (pv 1)))
        (pss_cons (ps_asg (pe_op op_fdivW (pe_ix ix_list (pv 0) pe_int (fun _ _ => rfl)) (pv 1)) (pg_sub (pv 0) pe_int set_list))
        (pss_one (ps_ret (pv 2))))) pss_nil)
      (pss_cons (ps_set (i := 3) sc__law_take.nd rfl (.inl rfl) (pe_tup (pa_cons pe_int (pa_cons pe_int (pa_cons pe_int (pa_cons pe_int (pa_cons pe_int (pa_cons pe_int (pa_cons pe_int pa_nil)))))))))
      (pss_cons (ps_asg (pe_op op_add (pe_ix ix_list (pv 0) pe_int (fun _ _ => rfl)) pe_int) (pg_sub (pv 0) pe_int set_list))
      (pss_cons (ps_set (i := 4) sc__law_take.nd rfl (.inl rfl) (pe_ix ix_list (pv 0) pe_int (fun _ _ => rfl)))
      (pss_cons (ps_set (i := 5) sc__law_take.nd rfl (.inl rfl) (pe_op op_add (pe_op op_mul (pe_op op_add (pe_ix ix_list (pv 0) pe_int (fun _ _ => rfl)) (pe_op op_mul pe_int (pv 4))) (pe_op op_add (pe_op op_mul pe_int (pv 4)) pe_int)) (pe_op op_mul (pe_op op_mul pe_int (pv 4)) (pv 4))))
      (pss_cons (ps_set (i := 6) sc__law_take.nd rfl (.inl rfl) (pe_op op_mod (pe_op op_powW (pv 5) pe_int) (pe_ix ix_tup (pv 3) (pe_op op_mod (pv 4) pe_int) (fun _ _ => rfl))))
      (pss_one (ps_ret (pe_op op_mod (pe_op op_fdiv (pe_op op_mod (pe_op op_mul (pv 6) (pe_op op_add (pe_op op_add (pe_op op_fdiv (pv 6) pe_int) (pe_op op_mul pe_int (pv 4))) pe_int)) (pe_ix ix_tup (pv 3) (pe_op op_mod (pe_op op_add (pv 4) pe_int) pe_int) (fun _ _ => rfl))) pe_int) (pv 1)))))))))), ?_⟩
    refine ⟨_, rfl, p, _, _, _, rfl, rfl, .inl (.inl hp), rfl, _, _, rfl, rfl, _, rfl, ?_⟩
    refine ite2 (fun h => ?_) (fun h => ?_)
    · have h := of_decide_eq_true h
      refine ⟨_, rfl, p, _, _, _, rfl, rfl, .inl (.inl hp), rfl, _, rfl, _, _, rfl, rfl, hm, _, rfl, p, _, _, _, rfl, rfl, .inl (.inl hp), rfl, _, rfl, _, _, rfl, rfl, wide_div hm (b := 60) (by omega) (by decide) (by decide), _, rfl, p, _, _, _, rfl, rfl, hp, rfl, _, rfl, ?_⟩
      exact q (a % m) _ (Int.emod_nonneg a (by omega)) (Int.emod_lt_of_pos a hm) ⟨a / m, b, c, upd_same, Int.ediv_nonneg ha (by omega), hb, hb2, hc, by omega⟩ fun b' o e n => by rw [upd_ne n]; exact e
    · refine ⟨by show 7 ≤ sizeLine; exact sizeLine_ge (by decide), fun t ht => ?_⟩
      have npt : p ≠ t := ne_of_none hp ht
      refine ⟨_, rfl, p, _, _, _, rfl, rfl, .inl (.inl (by rw [upd_ne npt]; exact hp)), rfl, _, _, rfl, rfl, _, rfl, p, _, _, _, rfl, rfl, (by rw [upd_ne npt]; exact hp), rfl, ?_⟩
      have gp : ∀ (G : Hp), (upd G p (.lst ([V.int a, V.int b, V.int c].set (Int.toNat 2) (V.int (c + 1))))) p = some (.lst [.int a, .int b, .int (c + 1)]) := fun _ => upd_same
      have gt : (upd (upd H t (.tup [.int 2147483647, .int 2147483629, .int 2147483587, .int 2147483579, .int 2147483563, .int 2147483549, .int 2147483543])) p (.lst ([V.int a, V.int b, V.int c].set (Int.toNat 2) (V.int (c + 1))))) t = some (.tup [.int 2147483647, .int 2147483629, .int 2147483587, .int 2147483579, .int 2147483563, .int 2147483549, .int 2147483543]) := by
        rw [upd_ne npt.symm, upd_same]
      obtain ⟨z1, z1a, z1b, z1c⟩ := primes_at (c + 1) (by omega)
      obtain ⟨z2, z2a, z2b, z2c⟩ := primes_at (c + 1 + 3) (by omega)
      have bs := base_small hb hb2 (show 0 ≤ c + 1 by omega) (by omega)
      refine ⟨_, rfl, p, _, _, _, rfl, rfl, .inl (.inl (gp _)), rfl, ?_⟩
      refine ⟨_, rfl, p, _, _, _, rfl, rfl, .inl (.inl (gp _)), rfl, _, rfl, _, _, rfl, rfl, .inl ⟨by decide, by decide⟩, _, _, rfl, rfl, _, rfl, _, _, rfl, rfl, .inl ⟨by decide, by decide⟩, _, _, rfl, rfl, _, _, rfl, rfl, .inr ⟨by omega, by omega⟩,
        _, rfl, _, _, rfl, rfl, .inl ⟨by decide, by decide⟩, _, rfl, _, _, rfl, rfl, .inr ⟨by omega, by omega⟩, _, _, rfl, rfl, ?_⟩
      refine ⟨_, rfl, _, _, rfl, rfl, ⟨by decide, by decide, bs.1⟩, _, rfl, _, rfl, _, _, rfl, rfl, (show (0 : Int) < 7 by decide), t, _, _, _, rfl, rfl, .inl (.inl gt), z1c, _, _, rfl, rfl, z1a, ?_⟩
      have m1 := Int.emod_nonneg (((b + 104729 * (c + 1)) * (3 * (c + 1) + 4) + 7919 * (c + 1) * (c + 1)) ^ (Int.toNat 3)) (show z1 ≠ 0 by omega)
      have m2 := Int.emod_lt_of_pos (((b + 104729 * (c + 1)) * (3 * (c + 1) + 4) + 7919 * (c + 1) * (c + 1)) ^ (Int.toNat 3)) z1a
      refine ⟨_, rfl, _, rfl, _, _, rfl, rfl, ⟨by decide, by decide⟩, _, rfl, _, _, rfl, rfl, .inl ⟨by decide, by decide⟩, _, _, rfl, rfl, _, _, rfl, rfl, _, _, rfl, rfl, .inl ⟨by omega, by omega⟩,
        _, rfl, _, rfl, _, _, rfl, rfl, _, _, rfl, rfl, (show (0 : Int) < 7 by decide), t, _, _, _, rfl, rfl, .inl (.inl gt), z2c, _, _, rfl, rfl, z2a, _, _, rfl, rfl, ⟨by decide, by decide⟩, _, rfl, _, _, rfl, rfl, hm, ?_⟩
      refine q _ _ (Int.emod_nonneg _ (by omega)) (Int.emod_lt_of_pos _ hm) ⟨a, b, c + 1, gp _, ha, hb, hb2, by omega, by omega⟩ fun b' o e n => ?_
      rw [upd_ne n, upd_ne (ne_of_none e ht)]
      exact e
end
end K


set_option Elab.async false
set_option linter.all false
set_option maxRecDepth 100000
set_option maxHeartbeats 4000000
namespace K
open PySem PySem.Spec PyProof.Rows L2 U SkE
theorem foldl_tx (sep : List Nat) : ∀ (ps : List (List Nat)) (acc : List Nat), (ps.map tx).foldl (fun (a : Array Nat) (p : Str) => a ++ (tx sep).cps ++ p.cps) acc.toArray = (acc ++ (ps.map (sep ++ ·)).flatten).toArray
  | [], acc => by simp
  | p :: ps, acc => by
    rw [List.map_cons, List.foldl_cons, show acc.toArray ++ (tx sep).cps ++ (tx p).cps = (acc ++ sep ++ p).toArray by simp, foldl_tx sep ps]
    simp
theorem join_tx (sep p : List Nat) (ps : List (List Nat)) : Txt.join (tx sep) (tx p :: ps.map tx) = tx (p ++ (ps.map (sep ++ ·)).flatten) := by
  show PySem.Builtin.Str.glued (tx sep) (tx p :: ps.map tx) = _
  unfold PySem.Builtin.Str.glued
  rw [List.drop_one, List.tail_cons, List.headD_cons]
  exact congrArg Str.mk (foldl_tx sep ps p)
theorem join_nil (sep : Str) : Txt.join sep [] = tx [] := rfl
theorem empty_tx : Str.ofString "" = tx [] := by decide +kernel
theorem join_signs (zs : List Nat) : Txt.join (Str.ofString "") (zs.map fun c => tx [c]) = tx zs := by
  rw [empty_tx]
  cases zs with
  | nil => rfl
  | cons z zs =>
    have h := join_tx [] [z] (zs.map fun c => [c])
    rw [List.map_map] at h
    rw [List.map_cons]
    refine h.trans (congrArg (fun l : List Nat => tx l) ?_)
    clear h
    induction zs with
    | nil => rfl
    | cons y zs ih => simp at ih ⊢; exact ih
theorem cut_to (t : List Nat) (a : Nat) : cutS (tx t) none (some (a : Int)) = tx (t.take a) := by
  unfold cutS
  rw [HT.sIx_nat, HT.sIx_none, tx_len, tx_cps]
  refine congrArg (fun l : List Nat => tx l) ?_
  simp
theorem cut_from (t : List Nat) (a : Nat) : cutS (tx t) (some (a : Int)) none = tx (t.drop a) := by
  unfold cutS
  rw [HT.sIx_nat, HT.sIx_none, tx_len, tx_cps]
  refine congrArg (fun l : List Nat => tx l) ?_
  by_cases h : a ≤ t.length
  · rw [Nat.min_eq_left h, List.take_of_length_le (by rw [List.length_drop]; exact Nat.le_refl _)]
  · rw [Nat.min_eq_right (by omega), Nat.sub_self, List.take_zero, List.drop_eq_nil_of_le (by omega)]
theorem Purse.same {p : Addr} {H H' : Hp} {c : Int} (h : Purse H p c) (s : Same H H') : Purse H' p c := by
  obtain ⟨a, b, c', e, r⟩ := h
  exact ⟨a, b, c', s _ _ e, r⟩
theorem Purse.ne {p q : Addr} {H : Hp} {c : Int} (h : Purse H p c) (e : H q = none) : p ≠ q := by
  obtain ⟨a, b, c', h, r⟩ := h
  exact ne_of_none h e
theorem Purse.mono {p : Addr} {H : Hp} {c d : Int} (h : Purse H p c) (l : c ≤ d) : Purse H p d := by
  obtain ⟨a, b, c', e, h1, h2, h3, h4, h5⟩ := h
  exact ⟨a, b, c', e, h1, h2, h3, h4, by omega⟩
theorem Purse.put {p q : Addr} {H : Hp} {c : Int} {o : HO} (h : Purse H p c) (n : p ≠ q) : Purse (upd H q o) p c := by
  obtain ⟨a, b, c', e, r⟩ := h
  exact ⟨a, b, c', by rw [upd_ne n]; exact e, r⟩
theorem But.gone {p D : Addr} {H H2 : Hp} (b : But p H H2) (e : H2 D = none) (n : D ≠ p) : H D = none := by
  cases h : H D with
  | none => rfl
  | some o =>
    have := b D o h n
    rw [e] at this
    cases this
theorem But.updN {p D : Addr} {H G : Hp} {o : HO} (b : But p H G) (e : H D = none) : But p H (upd G D o) := fun c u h n => by
  rw [upd_ne (ne_of_none h e)]
  exact b c u h n
theorem sum_ones : ∀ zs : List Nat, ((zs.map fun c => tx [c]).map (·.length)).sum = zs.length
  | [] => rfl
  | x :: r => by
    rw [List.map_cons, List.map_cons, List.sum_cons, sum_ones r, tx_len]
    simp
    omega
theorem signs_at {z : List Nat} {r : Int} (h0 : 0 ≤ r) (h1 : r < z.length) : ∃ c, c ∈ z ∧ atI (tx z).cps.toList r = some c := by
  obtain ⟨j, rfl⟩ : ∃ j : Nat, r = j := ⟨r.toNat, by omega⟩
  have h : j < z.length := by omega
  exact ⟨z[j], List.getElem_mem h, atI_tx (List.getElem?_eq_getElem h)⟩
/-- some texts of these signs -/
def NameL (z : List Nat) (m : Nat) (ns : List (List Nat)) : Prop := ∀ n ∈ ns, 1 ≤ n.length ∧ n.length ≤ m ∧ ∀ c ∈ n, c ∈ z
def spNames : Sp := fun vs H Q _ => ∃ (p : Addr) (c : Int) (z : List Nat) (m k : Nat), vs = [.ref p, .int k, .str (tx z), .int m] ∧ Purse H p c ∧ c < 2 ^ 39 ∧ z.length = 26 ∧ 1 ≤ m ∧ m ≤ 6 ∧ k ≤ 10 ∧
  ∀ r H' ns, But p H H' → Purse H' p (c + 10) → H r = none → H' r = some (.lst (ns.map fun n => V.str (tx n))) → ns.length = k → NameL z m ns → Q (.ref r) H'
section
variable {P : Program} {w : World} {K : PySem.W.Frag} {mg : Str → Option Value} {base : Heap} {dW dB : Addr} {esW : Array DictEntry} {nW : Nat} (T : Txt K mg w dW dB esW nW)
include T
theorem ok__law_names {f f1 : Addr} {fd fd1 : FuncData} (F : Fun K "_law_names" "_law_names" s__law_names f fd) (h__law_take : Has P w K mg base "_law_take" 1 ["_law_purse_here", "_law_many"] spTake f1 fd1) :
    FnOk P w K mg base CX0 2 f fd ["_law_purse_here", "_law_many", "_law_signs", "_law_wide"] spNames := by
  refine F.ok sc__law_names (fun vs H Q E h => ?_) (fun cdv A outer s H vs Q E hr h => ?_)
  · obtain ⟨p, c, z, m, k, rfl, _⟩ := h
    rfl
  · obtain ⟨p, c, z, m, k, rfl, P0, hc, hz, hm1, hm6, hk, q⟩ := h
    have hzs : (tx z).length ≤ sizeLine := by rw [tx_len, hz]; exact sizeLine_ge (by decide)
    refine ⟨_, (pss_cons (ps_set (i := 4) sc__law_names.nd rfl (.inr rfl) (pe_join pe_str (pe_lc (own := [("_law_k", 7)]) (g := gName 7) (tt := tYes) rfl sc__law_names.nd (pi_range1 (by rfl) T.z_range (pa_cons (pe_callH h__law_take (hr.mono (by first | decide | omega)) (by rfl) (pa_cons (pv 0) (pa_cons (pv 3) pa_nil))) pa_nil)) (blkOk_by (N := nm__law_names) (sc := defScope s__law_names) (by decide +kernel)) (fun _ _ _ _ _ => pg_name (i := 7) sc__law_names.nd rfl (.inl rfl)) (fun _ _ _ _ _ => pts_nil) (fun _ _ _ _ _ => (pe_ix ix_str (pv 2) (pe_callH h__law_take (hr.mono (by first | decide | omega)) (by rfl) (pa_cons (pv 0) (pa_cons pe_int pa_nil))) (fun _ _ => rfl))))))
      (pss_cons (ps_asg (pe_tup (pa_cons (pe_callH h__law_take (hr.mono (by first | decide | omega)) (by rfl) (pa_cons (pv 0) (pa_cons (pe_op op_add (pe_callB call_len_str (by rfl) T.z_len (by decide +kernel) (pa_cons (pv 4) pa_nil)) pe_int) pa_nil))) (pa_cons (pe_callH h__law_take (hr.mono (by first | decide | omega)) (by rfl) (pa_cons (pv 0) (pa_cons pe_int pa_nil))) pa_nil))) (pg_tup rfl (pgs_cons (pg_name (i := 5) sc__law_names.nd rfl (.inr rfl)) (pgs_cons (pg_name (i := 6) sc__law_names.nd rfl (.inr rfl)) pgs_nil))))
      (pss_one (ps_ret (pe_lc (own := [("_law_k", 7)]) (g := gName 7) (tt := tYes) rfl sc__law_names.nd (pi_range1 (by rfl) T.z_range (pa_cons (pv 1) pa_nil)) (blkOk_by (N := nm__law_names) (sc := defScope s__law_names) (by decide +kernel)) (fun _ _ _ _ _ => pg_name (i := 7) sc__law_names.nd rfl (.inl rfl)) (fun _ _ _ _ _ => pts_nil) (fun _ _ _ _ _ => (pe_op op_add_str (pe_op op_add_str (pe_slice sl_str (pv 4) po_none (po_some (pv 5))) (pe_ix ix_str (pv 2) (pe_op op_mod (pe_op op_add (pv 6) (pv 7)) pe_int) (fun _ _ => rfl))) (pe_slice sl_str (pv 4) (po_some (pv 5)) po_none)))))))), ?_⟩
    have e39 : (2 : Int) ^ 39 = 549755813888 := by decide
    have e40 : (2 : Int) ^ 40 = 1099511627776 := by decide
    have e60 : (2 : Int) ^ 60 = 1152921504606846976 := by decide
    refine ⟨⟨_, rfl⟩, _, rfl, _, rfl, p, m, c, rfl, P0, by omega, by omega, by omega, fun r H2 hr0 hr7 P1 b1 => ?_⟩
    refine ⟨_, rfl, by omega, by omega, fun D hD => lc_do walk_range (fun j H' => Purse H' p (c + 1 + j) ∧ But p H H' ∧ ∃ zs : List Nat, zs.length = j ∧ (∀ x ∈ zs, x ∈ z) ∧ H' D = some (.lst (zs.map fun c => V.str (tx [c])))) (fun _ => rfl) ?_ (fun _ _ _ _ => trivial) ?_ ?_⟩
    · have n1 := P1.ne hD
      exact ⟨(P1.put n1).mono (by omega), But.updN b1 (But.gone b1 hD (Ne.symm n1)), [], rfl, fun x hx => by simp at hx, upd_same⟩
    · have hD0 := But.gone b1 hD (Ne.symm (P1.ne hD))
      have nD := P1.ne hD
      rintro j x H3 H4 hj ⟨P3, b3, zs, hzs1, hzs2, hD3⟩ ⟨rfl, rfl⟩
      refine ⟨_, rfl, _, rfl, p, 26, _, rfl, P3, by omega, by decide, by decide, fun r4 H5 h40 h41 P5 b5 => ?_⟩
      obtain ⟨c4, hcz, hc4⟩ := signs_at (z := z) h40 (by omega)
      have hD5 := b5 D _ hD3 (Ne.symm nD)
      refine ⟨_, r4, c4, rfl, rfl, hzs, hc4, _, hD5, ?_, (P5.put nD).mono (by omega), But.updN (But.trans b3 b5) hD0, zs ++ [c4], by rw [List.length_append, hzs1]; rfl, fun x hx => ?_, ?_⟩
      · rw [List.length_map]
        exact sizeLine_ge (by omega)
      · rcases List.mem_append.mp hx with hx | hx
        · exact hzs2 x hx
        · rw [List.mem_singleton.mp hx]
          exact hcz
      · rw [upd_same, List.map_append]
        rfl
    · have hD0 := But.gone b1 hD (Ne.symm (P1.ne hD))
      rintro H3 ⟨P3, b3, zs, hzs1, hzs2, hD3⟩
      have hn : r.toNat ≤ 6 := by omega
      refine ⟨_, D, zs.map fun c => tx [c], rfl, rfl, .inl (.inl (.inl (by rw [hD3, List.map_map]; rfl))), ?_, ?_⟩
      · have h2 : (Str.ofString "").length = 0 := by decide +kernel
        rw [sum_ones, h2]
        omega
      · rw [join_signs]
        have hl : (tx zs).length ≤ sizeLine := by rw [tx_len]; exact sizeLine_ge (by omega)
        have hl2 : ((tx zs).length : Int) = zs.length := by rw [tx_len]
        refine ⟨_, rfl, _, rfl, _, rfl, hl, _, _, rfl, rfl, p, _, _, rfl, P3, by omega, by omega, by omega, fun r4 H4 h40 h41 P4 b4 => ?_⟩
        refine ⟨_, rfl, p, 26, _, rfl, P4, by omega, by decide, by decide, fun r5 H5 h50 h51 P5 b5 => ?_⟩
        rw [hl2] at h41
        obtain ⟨i4, rfl⟩ : ∃ j : Nat, r4 = j := ⟨r4.toNat, by omega⟩
        have h42 : i4 ≤ zs.length := by omega
        refine ⟨sizeLine_ge (by show 2 ≤ 10000; decide), fun t ht => ⟨t, _, rfl, .inl (.inl upd_same), rfl, _, _, rfl, _, _, rfl, rfl, ?_⟩⟩
        have bt : But p H (upd H5 t (.tup [.int i4, .int r5])) := But.trans b3 (But.trans b4 (But.trans b5 (But.of_same (same_new ht))))
        have Pt := P5.same (same_new (o := .tup [.int i4, .int r5]) ht)
        generalize upd H5 t (.tup [.int i4, .int r5]) = G at bt Pt ⊢
        refine ⟨_, rfl, _, rfl, by omega, by omega, fun D2 hD2 => lc_do walk_range (fun j H' => Same G H' ∧ ∃ ns : List (List Nat), ns.length = j ∧ NameL z m ns ∧ H' D2 = some (.lst (ns.map fun n => V.str (tx n)))) (fun _ => rfl) ⟨same_new hD2, [], rfl, fun x hx => by simp at hx, upd_same⟩ (fun _ _ _ _ => trivial) ?_ ?_⟩
        · rintro j x H6 H7 hj ⟨s6, ns, hn1, hn2, hD6⟩ ⟨rfl, rfl⟩
          have m0 := Int.emod_nonneg (r5 + (0 + (j : Int))) (show (26 : Int) ≠ 0 by decide)
          have m1 := Int.emod_lt_of_pos (r5 + (0 + (j : Int))) (show (0 : Int) < 26 by decide)
          obtain ⟨c4, hcz, hc4⟩ := signs_at (z := z) m0 (by omega)
          have len1 : ∀ l : List Nat, l.length ≤ 100 → (tx l).length ≤ 100 := fun l h => by rw [tx_len]; exact h
          have e1 : cutS (tx zs) none (some (i4 : Int)) = tx (zs.take i4) := cut_to _ _
          have e2 : cutS (tx zs) (some (i4 : Int)) none = tx (zs.drop i4) := cut_from _ _
          have e3 : (tx (zs.take i4) ++ (⟨#[c4]⟩ : Str) : Str) = tx (zs.take i4 ++ [c4]) := tx_app _ _
          have e4 : (tx (zs.take i4 ++ [c4]) ++ tx (zs.drop i4) : Str) = tx (zs.take i4 ++ [c4] ++ zs.drop i4) := tx_app _ _
          have tl : (zs.take i4).length ≤ 6 := by rw [List.length_take]; omega
          have dl : (zs.drop i4).length ≤ 6 := by rw [List.length_drop]; omega
          refine ⟨_, rfl, _, rfl, _, rfl, _, rfl, hl, _, rfl, _, rfl, _, rfl, _, _, rfl, rfl, _, _, rfl, rfl, (show (0 : Int) < 26 by decide), _, _, c4, rfl, rfl, hzs, hc4, _, _, rfl, rfl, ?_, _, rfl, _, rfl, _, rfl, _, rfl, hl, _, _, rfl, rfl, ?_, ?_⟩
          · rw [e1, tx_len]
            exact sizeLine_ge (by show _ + 1 ≤ 10000; omega)
          · rw [e1, e2, e3, tx_len, tx_len, List.length_append]
            exact sizeLine_ge (by show _ + 1 + _ ≤ 10000; omega)
          · rw [e1, e2, e3, e4]
            refine ⟨_, hD6, ?_, ?_, ns ++ [zs.take i4 ++ [c4] ++ zs.drop i4], by rw [List.length_append, hn1]; rfl, fun n hn => ?_, ?_⟩
            · rw [List.length_map]
              exact sizeLine_ge (by omega)
            · exact fun b o e => by
                rw [upd_ne (ne_of_none e hD2)]
                exact s6 b o e
            · rcases List.mem_append.mp hn with hn | hn
              · exact hn2 n hn
              · rw [List.mem_singleton.mp hn]
                have hlen : (zs.take i4 ++ [c4] ++ zs.drop i4).length = zs.length + 1 := by
                  rw [List.length_append, List.length_append, List.length_take, List.length_drop, List.length_singleton]
                  omega
                refine ⟨by omega, by omega, fun c hc => ?_⟩
                rcases List.mem_append.mp hc with hc | hc
                · rcases List.mem_append.mp hc with hc | hc
                  · exact hzs2 c (List.mem_of_mem_take hc)
                  · rw [List.mem_singleton.mp hc]
                    exact hcz
                · exact hzs2 c (List.mem_of_mem_drop hc)
            · rw [upd_same, List.map_append]
              rfl
        · rintro H6 ⟨s6, ns, hn1, hn2, hD6⟩
          have hDp : D2 ≠ p := Ne.symm (Pt.ne hD2)
          exact q D2 H6 ns (But.trans bt (But.of_same s6)) ((Pt.same s6).mono (by omega)) (But.gone bt hD2 hDp) hD6 (by omega) hn2
end
end K


set_option Elab.async false
set_option linter.all false
set_option maxRecDepth 100000
set_option maxHeartbeats 4000000
namespace U
open PySem PySem.Spec PyProof.Rows L2
theorem dig_in {c : Char} (h : c.isDigit = true) : c.toNat ∈ figs := by
  have h2 : 48 ≤ c.toNat ∧ c.toNat ≤ 57 := by
    simp only [Char.isDigit, Bool.and_eq_true, decide_eq_true_eq] at h
    exact h
  unfold figs
  refine List.mem_map.mpr ⟨c.toNat - 48, List.mem_range.mpr (by omega), by omega⟩
theorem dig_first : ∀ n : Nat, 0 < n → ∃ d ds, Nat.toDigits 10 n = d :: ds ∧ d.toNat ∈ figs1 := by
  intro n
  induction n using Nat.strongRecOn with
  | ind n ih =>
    intro hn
    rw [Nat.toDigits_eq_if (by decide)]
    by_cases h : n < 10
    · rw [if_pos h]
      refine ⟨_, [], rfl, ?_⟩
      have : n = 1 ∨ n = 2 ∨ n = 3 ∨ n = 4 ∨ n = 5 ∨ n = 6 ∨ n = 7 ∨ n = 8 ∨ n = 9 := by omega
      rcases this with rfl | rfl | rfl | rfl | rfl | rfl | rfl | rfl | rfl <;> decide
    · rw [if_neg h]
      obtain ⟨d, ds, e, hd⟩ := ih (n / 10) (by omega) (by omega)
      exact ⟨d, ds ++ [_], by rw [e]; rfl, hd⟩
theorem nat_text {n : Nat} (h : n < 10 ^ 12) : n = 0 ∧ (Nat.repr n).toList.map Char.toNat = [48] ∨ ∃ d ds, (Nat.repr n).toList.map Char.toNat = d :: ds ∧ d ∈ figs1 ∧ ds.length ≤ 11 ∧ ∀ c ∈ ds, c ∈ figs := by
  rw [Nat.toList_repr]
  by_cases h0 : n = 0
  · subst h0
    exact .inl ⟨rfl, by decide⟩
  · obtain ⟨d, ds, e, hd⟩ := dig_first n (by omega)
    have hl := (Nat.length_toDigits_le_iff (b := 10) (n := n) (k := 12) (by decide) (by decide)).mpr h
    have hm : ∀ c ∈ Nat.toDigits 10 n, c.toNat ∈ figs := fun c hc => dig_in (Nat.isDigit_of_mem_toDigits (by decide) (by decide) hc)
    rw [e] at hl hm
    refine .inr ⟨d.toNat, ds.map Char.toNat, by rw [e]; rfl, hd, by simp at hl ⊢; omega, fun c hc => ?_⟩
    obtain ⟨x, hx, rfl⟩ := List.mem_map.mp hc
    exact hm x (List.mem_cons_of_mem _ hx)
theorem num_text {i : Int} (h : i.natAbs < 10 ^ 12) : ∃ l, Str.ofString (toString i) = tx l ∧ NumOk l := by
  cases i with
  | ofNat n =>
    refine ⟨(Nat.repr n).toList.map Char.toNat, PySem.Str.ofString_eq_toList _, ?_⟩
    rcases nat_text (n := n) h with ⟨_, e⟩ | ⟨d, ds, e, h1, h2, h3⟩
    · exact .inl e
    · exact .inr ⟨d, ds, .inl e, h1, h2, h3⟩
  | negSucc n =>
    refine ⟨45 :: (Nat.repr (n + 1)).toList.map Char.toNat, ?_, ?_⟩
    · show Str.ofString ("-" ++ Nat.repr (n + 1)) = _
      rw [PySem.Str.ofString_eq_toList]
      simp
    · rcases nat_text (n := n + 1) h with ⟨z, e⟩ | ⟨d, ds, e, h1, h2, h3⟩
      · omega
      · exact .inr ⟨d, ds, .inr (by rw [e]), h1, h2, h3⟩
end U

set_option Elab.async false
set_option linter.all false
set_option maxRecDepth 100000
set_option maxHeartbeats 4000000
namespace K
open PySem PySem.Spec PyProof.Rows L2 U SkE
/-- a node of the law's own tree: its form, its name, the list of its nodes, its line; F holds of all its places -/
def HeadL (F : Addr → Prop) (H : Hp) (t : U.Tm) (qs : List Addr) (r : Addr) : Prop := ∃ li, F r ∧ F li ∧ H r = some (.tup [.str (tx t.kind), smV t.small, .ref li, .str (tx t.pr)]) ∧ H li = some (.lst (qs.map V.ref))
def NodeL (F : Addr → Prop) (H : Hp) : U.Tm → Addr → Prop
  | .atom k l, r => HeadL F H (.atom k l) [] r
  | .n1 w b x, r => ∃ q, HeadL F H (.n1 w b x) [q] r ∧ NodeL F H x q
  | .n2 w b x y, r => ∃ q1 q2, HeadL F H (.n2 w b x y) [q1, q2] r ∧ NodeL F H x q1 ∧ NodeL F H y q2
  | .n3 w b x y z, r => ∃ q1 q2 q3, HeadL F H (.n3 w b x y z) [q1, q2, q3] r ∧ NodeL F H x q1 ∧ NodeL F H y q2 ∧ NodeL F H z q3
def KeepF (F : Addr → Prop) (H H' : Hp) : Prop := ∀ a o, F a → H a = some o → H' a = some o
theorem HeadL.keep {F G : Addr → Prop} {H H' : Hp} {t : U.Tm} {qs : List Addr} {r : Addr} (h : HeadL F H t qs r) (b : KeepF F H H') (m : ∀ a, F a → G a) : HeadL G H' t qs r := by
  obtain ⟨li, h1, h2, h3, h4⟩ := h
  exact ⟨li, m _ h1, m _ h2, b _ _ h1 h3, b _ _ h2 h4⟩
theorem NodeL.keep {F G : Addr → Prop} {H H' : Hp} (b : KeepF F H H') (m : ∀ a, F a → G a) : ∀ {t : U.Tm} {r : Addr}, NodeL F H t r → NodeL G H' t r
  | .atom _ _, _, h => HeadL.keep h b m
  | .n1 _ _ _, _, ⟨q, h, h1⟩ => ⟨q, h.keep b m, NodeL.keep b m h1⟩
  | .n2 _ _ _ _, _, ⟨q1, q2, h, h1, h2⟩ => ⟨q1, q2, h.keep b m, NodeL.keep b m h1, NodeL.keep b m h2⟩
  | .n3 _ _ _ _ _, _, ⟨q1, q2, q3, h, h1, h2, h3⟩ => ⟨q1, q2, q3, h.keep b m, NodeL.keep b m h1, NodeL.keep b m h2, NodeL.keep b m h3⟩
theorem NodeL.head {p : Addr → Prop} {H : Hp} {t : U.Tm} {r : Addr} (h : NodeL p H t r) : ∃ qs, HeadL p H t qs r ∧ Paired (fun q k => NodeL p H k q) qs t.kids := by
  cases t with
  | atom k l => exact ⟨[], h, .nil⟩
  | n1 w b x =>
    obtain ⟨q, h, h1⟩ := h
    exact ⟨[q], h, .cons h1 .nil⟩
  | n2 w b x y =>
    obtain ⟨q1, q2, h, h1, h2⟩ := h
    exact ⟨_, h, .cons h1 (.cons h2 .nil)⟩
  | n3 w b x y z =>
    obtain ⟨q1, q2, q3, h, h1, h2, h3⟩ := h
    exact ⟨_, h, .cons h1 (.cons h2 (.cons h3 .nil))⟩
theorem NodeL.mk {p : Addr → Prop} {H : Hp} {t : U.Tm} {r : Addr} {qs : List Addr} (h : HeadL p H t qs r) (hk : Paired (fun q k => NodeL p H k q) qs t.kids) : NodeL p H t r := by
  cases t with
  | atom k l =>
    cases hk
    exact h
  | n1 w b x =>
    cases hk with
    | cons h1 hk =>
      cases hk
      exact ⟨_, h, h1⟩
  | n2 w b x y =>
    cases hk with
    | cons h1 hk =>
      cases hk with
      | cons h2 hk =>
        cases hk
        exact ⟨_, _, h, h1, h2⟩
  | n3 w b x y z =>
    cases hk with
    | cons h1 hk =>
      cases hk with
      | cons h2 hk =>
        cases hk with
        | cons h3 hk =>
          cases hk
          exact ⟨_, _, _, h, h1, h2, h3⟩
theorem bd_same {w w' : Wd} {b b' : List Nat} {ks : List U.Tm} {t : U.Tm} (v : View t w' b' ks) (h1 : t.kind = w.cs) (h2 : t.small = sm w b) (hb : BndOk w b) : w' = w ∧ b' = b := by
  have e : w' = w := cs_inj w' w (by rw [← v.kind, h1])
  subst e
  refine ⟨rfl, ?_⟩
  have h3 : sm w' b = sm w' b' := h2.symm.trans v.small
  unfold sm at h3
  have bn := v.bn
  unfold BndOk at bn hb
  cases hbd : w'.bd with
  | true =>
    rw [hbd] at h3
    simp at h3
    exact h3.symm
  | false =>
    rw [hbd] at bn hb
    simp at bn hb
    rw [bn, hb]
/-- a term of this form, of these terms -/
theorem mk_tm {w : Wd} {b : List Nat} {ks : List U.Tm} {N : List Nat → Prop} (hl : ks.length = w.ar) (hb : BndOk w b) (hk : ∀ k ∈ ks, k.Ok ∧ k.Names N) : ∃ t, View t w b ks ∧ t.Ok ∧ t.Names N := by
  have ex : ∀ t : U.Tm, t.Ok → t.kids = ks → (∀ kd l, t ≠ .atom kd l) → t.kind = w.cs → t.small = sm w b → t.Names N → ∃ t, View t w b ks ∧ t.Ok ∧ t.Names N := by
    intro t ok e1 e2 e3 e4 nm
    rcases view ok with ⟨kd, l, rfl, _⟩ | ⟨w', b', ks', v⟩
    · exact absurd rfl (e2 kd l)
    · have h1 : ks' = ks := by rw [← v.kids, e1]
      subst h1
      obtain ⟨rfl, rfl⟩ := bd_same v e3 e4 hb
      exact ⟨t, v, ok, nm⟩
  match ks, hl, hk, ex with
  | [x], hl, hk, ex => exact ex (.n1 w b x) ⟨hl.symm, hb, (hk x (by simp)).1⟩ rfl (by intro _ _ z; cases z) rfl rfl (hk x (by simp)).2
  | [x, y], hl, hk, ex => exact ex (.n2 w b x y) ⟨hl.symm, hb, (hk x (by simp)).1, (hk y (by simp)).1⟩ rfl (by intro _ _ z; cases z) rfl rfl ⟨(hk x (by simp)).2, (hk y (by simp)).2⟩
  | [x, y, z], hl, hk, ex => exact ex (.n3 w b x y z) ⟨hl.symm, hb, (hk x (by simp)).1, (hk y (by simp)).1, (hk z (by simp)).1⟩ rfl (by intro _ _ z; cases z) rfl rfl ⟨(hk x (by simp)).2, (hk y (by simp)).2, (hk z (by simp)).2⟩
  | [], hl, _, _ => cases w <;> cases hl
  | _ :: _ :: _ :: _ :: _, hl, _, _ =>
    have := ar_le w
    simp at hl
    omega
/-- how large a term of this depth may be -/
structure Small (k : U.Tm) (d : Nat) : Prop where
  size : 2 * k.size + 1 ≤ 3 ^ (d + 1)
  depth : k.depth ≤ d
  len : k.pr.length + 8 ≤ 21 * 3 ^ d
theorem sum_le {ks : List U.Tm} {f : U.Tm → Nat} {m : Nat} (h : ∀ k ∈ ks, f k ≤ m) : (ks.map f).sum ≤ ks.length * m := by
  induction ks with
  | nil => simp
  | cons x r ih =>
    rw [List.map_cons, List.sum_cons, List.length_cons, Nat.succ_mul]
    have h1 := h x List.mem_cons_self
    have h2 := ih fun k hk => h k (List.mem_cons_of_mem _ hk)
    omega
theorem Small.mono {k : U.Tm} {d e : Nat} (h : Small k d) (l : d ≤ e) : Small k e := by
  have h1 : 3 ^ (d + 1) ≤ 3 ^ (e + 1) := Nat.pow_le_pow_right (by decide) (by omega)
  have h2 : 3 ^ d ≤ 3 ^ e := Nat.pow_le_pow_right (by decide) l
  exact ⟨Nat.le_trans h.size h1, Nat.le_trans h.depth l, Nat.le_trans h.len (Nat.mul_le_mul_left _ h2)⟩
theorem cs_len (w : Wd) : w.cs.length ≤ 6 := by cases w <;> decide
theorem small_view {t : U.Tm} {w : Wd} {b : List Nat} {ks : List U.Tm} {d : Nat} (v : View t w b ks) (h : ∀ k ∈ ks, Small k d) : Small t (d + 1) := by
  have ar := v.ar
  have ar3 := ar_le w
  have p1 : 3 ^ (d + 1 + 1) = 3 * 3 ^ (d + 1) := by rw [Nat.pow_succ]; omega
  have p2 : 3 ^ (d + 1) = 3 * 3 ^ d := by rw [Nat.pow_succ]; omega
  have p0 : 1 ≤ 3 ^ d := Nat.pow_pos (by decide)
  refine ⟨?_, ?_, ?_⟩
  · rw [v.size]
    have h1 : (ks.map fun k => 2 * k.size + 1).sum ≤ ks.length * 3 ^ (d + 1) := sum_le fun k hk => (h k hk).size
    have h2 : (ks.map fun k => 2 * k.size + 1).sum = 2 * (ks.map U.Tm.size).sum + ks.length := by
      clear h1 h ar v
      induction ks with
      | nil => rfl
      | cons x r ih =>
        rw [List.map_cons, List.sum_cons, ih, List.map_cons, List.sum_cons, List.length_cons]
        omega
    have h3 : ks.length * 3 ^ (d + 1) ≤ 3 * 3 ^ (d + 1) := Nat.mul_le_mul_right _ (by omega)
    obtain ⟨k1, ks', e⟩ := v.some_kid
    have h4 : 1 ≤ ks.length := by rw [e]; simp
    by_cases h5 : ks.length = 3
    · omega
    · have h6 : ks.length * 3 ^ (d + 1) ≤ 2 * 3 ^ (d + 1) := Nat.mul_le_mul_right _ (by omega)
      omega
  · rw [v.depth]
    have : (ks.map U.Tm.depth).foldr max 0 ≤ d := by
      clear ar v
      induction ks with
      | nil => exact Nat.zero_le _
      | cons x r ih =>
        rw [List.map_cons, List.foldr_cons]
        exact Nat.max_le.mpr ⟨(h x List.mem_cons_self).depth, ih fun k hk => h k (List.mem_cons_of_mem _ hk)⟩
    omega
  · rw [v.pr, List.length_append, List.length_append, kT_len, List.length_singleton]
    have h1 : (ks.map fun k => 1 + k.pr.length).sum ≤ ks.length * (21 * 3 ^ d - 7) := sum_le fun k hk => by have := (h k hk).len; omega
    have h3 : ks.length * (21 * 3 ^ d - 7) ≤ 3 * (21 * 3 ^ d - 7) := Nat.mul_le_mul_right _ (by omega)
    have h2 : (hd w b).length ≤ 12 := by
      have := cs_len w
      have bn := v.bn
      unfold BndOk at bn
      unfold hd
      cases hb : w.bd with
      | true =>
        rw [hb] at bn
        have := bn.2.1
        simp
        omega
      | false =>
        simp
        omega
    omega
end K


set_option Elab.async false
set_option linter.all false
set_option maxRecDepth 100000
set_option maxHeartbeats 4000000
/-! data of texts, compared -/
namespace U
open PySem PySem.Spec PyProof.Rows L2
/-- a text of signs that Python's texts have -/
def Asc (x : Str) : Prop := ∀ c ∈ x.cps.toList, c < 128
theorem Asc.ok {x : Str} (h : Asc x) : PyData.strOk x = true := by
  unfold PyData.strOk
  rw [Array.all_eq_true_iff_forall_mem]
  intro c hc
  have := h c (by simpa using hc)
  exact decide_eq_true (Nat.lt_trans this (by decide))
theorem Asc.tx {l : List Nat} (h : ∀ c ∈ l, c < 128) : Asc (tx l) := fun c hc => h c (by simpa using hc)
theorem asc_smalls : ∀ c ∈ smalls, c < 128 := by decide
theorem asc_greats : ∀ c ∈ greats, c < 128 := by decide
theorem asc_figs : ∀ c ∈ figs, c < 128 := by decide
theorem asc_figs1 : ∀ c ∈ figs1, c < 128 := by decide
theorem asc_hd {w : Wd} {b : List Nat} (h : BndOk w b) : ∀ c ∈ hd w b, c < 128 := by
  have e : ∀ c ∈ w.cs, c < 128 := by cases w <;> decide
  intro c hc
  unfold hd at hc
  unfold BndOk at h
  rcases List.mem_append.mp hc with hc | hc
  · rcases List.mem_cons.mp hc with rfl | hc
    · decide
    · exact e c hc
  · cases hb : w.bd with
    | true =>
      rw [hb] at hc h
      simp only [if_true] at hc h
      rcases List.mem_cons.mp hc with rfl | hc
      · decide
      · exact asc_smalls c (h.2.2 c hc)
    | false =>
      rw [hb] at hc
      simp at hc
def AL (l : List Nat) : Prop := ∀ c ∈ l, c < 128
theorem al_nil : AL [] := fun c h => by simp at h
theorem al_app {a b : List Nat} (h1 : AL a) (h2 : AL b) : AL (a ++ b) := fun c h => (List.mem_append.mp h).elim (h1 c) (h2 c)
theorem al_cons {x : Nat} {l : List Nat} (h1 : x < 128) (h2 : AL l) : AL (x :: l) := fun c h => by
  rcases List.mem_cons.mp h with h | h
  · rw [h]
    exact h1
  · exact h2 c h
theorem asc_num {l : List Nat} (h : NumOk l) : AL l := by
  rcases h with rfl | ⟨d, ds, e, h1, _, h3⟩
  · exact al_cons (by decide) al_nil
  · have h : AL (d :: ds) := al_cons (asc_figs1 _ h1) fun c hc => asc_figs _ (h3 c hc)
    rcases e with rfl | rfl
    · exact h
    · exact al_cons (by decide) h
theorem asc_pr : ∀ k : Tm, k.Ok → AL k.pr
  | .atom .num l, h => asc_num h
  | .atom .name l, h => fun c hc => asc_smalls c ((show SmallOk l from h).2.2 c hc)
  | .atom .part l, h => fun c hc => asc_greats c ((show GreatOk l from h).2.2 c hc)
  | .n1 w b x, h => al_app (al_app (asc_hd h.2.1) (al_cons (by decide) (asc_pr x h.2.2))) (al_cons (by decide) al_nil)
  | .n2 w b x y, h => al_app (al_app (asc_hd h.2.1) (al_app (al_cons (by decide) (asc_pr x h.2.2.1)) (al_cons (by decide) (asc_pr y h.2.2.2)))) (al_cons (by decide) al_nil)
  | .n3 w b x y z, h => al_app (al_app (asc_hd h.2.1) (al_app (al_app (al_cons (by decide) (asc_pr x h.2.2.1)) (al_cons (by decide) (asc_pr y h.2.2.2.1))) (al_cons (by decide) (asc_pr z h.2.2.2.2)))) (al_cons (by decide) al_nil)
theorem canLay_strs : ∀ xs : List Str, (∀ x ∈ xs, Asc x) → PyData.canLayAll0 (xs.map PyData.str) = true
  | [], _ => rfl
  | x :: xs, h => by
    rw [List.map_cons, PyData.canLayAll0, canLay_strs xs fun y hy => h y (List.mem_cons_of_mem _ hy), Bool.and_true]
    have := h x List.mem_cons_self
    rw [PyData.canLay0]
    exact this.ok
theorem depth_strs : ∀ xs : List Str, PyData.depthAll (xs.map PyData.str) ≤ 1
  | [] => by simp [PyData.depthAll]
  | x :: xs => by
    have := depth_strs xs
    simp only [List.map_cons, PyData.depthAll, PyData.depth]
    omega
theorem shaped_strs {xs : List Str} (h : ∀ x ∈ xs, Asc x) : SeqAt.shaped (.list (xs.map PyData.str)) = true := by
  have := depth_strs xs
  simp only [SeqAt.shaped, PyData.canLay0, canLay_strs xs h, Bool.true_and]
  refine decide_eq_true ?_
  simp only [PyData.depth]
  omega
theorem dpAll_strs {K : PySem.W.Frag} {H : Hp} : ∀ xs : List Str, DpAll K H (xs.map V.str) (xs.map PyData.str)
  | [] => .nil
  | x :: xs => .cons (.str x) (dpAll_strs xs)
theorem eqvAll_strs : ∀ xs ys : List Str, PyData.eqvAll (xs.map PyData.str) (ys.map PyData.str) = decide (xs = ys)
  | [], [] => by simp [PyData.eqvAll]
  | [], y :: ys => by simp [PyData.eqvAll]
  | x :: xs, [] => by simp [PyData.eqvAll]
  | x :: xs, y :: ys => by
    rw [List.map_cons, List.map_cons, PyData.eqvAll, eqvAll_strs xs ys, PyData.eqv]
    rw [Bool.eq_iff_iff]
    simp
end U

set_option Elab.async false
set_option linter.all false
set_option maxRecDepth 100000
set_option maxHeartbeats 4000000
/-! terms drawn by kinds: what they are -/
namespace K
open PySem PySem.Spec PyProof.Rows L2 U SkE
/-- a term drawn so deep, with no other free names than these -/
structure Dr (N : List Nat → Prop) (ns : List (List Nat)) (d : Nat) (k : U.Tm) : Prop where
  ok : k.Ok
  nm : k.Names N
  free : ∀ y, k.Free y → y ∈ ns
  size : 2 * k.size + 1 ≤ 3 ^ (d + 2)
  depth : k.depth ≤ d + 2
  len : k.pr.length + 8 ≤ 21 * 3 ^ (d + 1)
theorem p3_le {d : Nat} : 3 ≤ 3 ^ (d + 1) := by
  have p0 : 1 ≤ 3 ^ d := Nat.pow_pos (by decide)
  rw [Nat.pow_succ]
  omega
theorem p3_s (d : Nat) : 3 ^ (d + 1) = 3 * 3 ^ d := by rw [Nat.pow_succ]; omega
theorem Dr.mono {N : List Nat → Prop} {ns : List (List Nat)} {d e : Nat} {k : U.Tm} (h : Dr N ns d k) (l : d ≤ e) : Dr N ns e k :=
  ⟨h.ok, h.nm, h.free, Nat.le_trans h.size (Nat.pow_le_pow_right (by decide) (by omega)), Nat.le_trans h.depth (by omega), Nat.le_trans h.len (Nat.mul_le_mul_left _ (Nat.pow_le_pow_right (by decide) (by omega)))⟩
theorem Dr.atom {N : List Nat → Prop} {ns : List (List Nat)} {kd : Kd} {l : List Nat} (d : Nat) (h : AtomOk kd l) (h1 : l.length ≤ 13) (h2 : kd = .name → l ∈ ns) (h3 : kd = .name → N l) : Dr N ns d (.atom kd l) := by
  have p1 : 3 ≤ 3 ^ (d + 1) := p3_le
  have p2 := p3_s (d + 1)
  refine ⟨h, h3, fun y hy => hy.2 ▸ h2 hy.1, ?_, Nat.zero_le _, ?_⟩
  · show 2 * 1 + 1 ≤ 3 ^ (d + 1 + 1)
    omega
  · show l.length + 8 ≤ _
    omega
theorem hd_le {w : Wd} {b : List Nat} (bn : BndOk w b) : (hd w b).length ≤ 12 := by
  have := cs_len w
  unfold BndOk at bn
  unfold hd
  cases hb : w.bd with
  | true =>
    rw [hb] at bn
    have := bn.2.1
    simp
    omega
  | false =>
    simp
    omega
theorem Dr.n1 {N : List Nat → Prop} {ns ns' : List (List Nat)} {d : Nat} {x : U.Tm} {w : Wd} {b : List Nat} (h : Dr N ns' d x) (ar : w.ar = 1) (bn : BndOk w b) (hn : ∀ y ∈ ns', (w.bd = true → y ≠ b) → y ∈ ns) : Dr N ns (d + 1) (.n1 w b x) := by
  have p1 : 3 ≤ 3 ^ (d + 1) := p3_le
  have p2 := p3_s (d + 1)
  have p3 := p3_s (d + 2)
  obtain ⟨ok, nm, fr, sz, dp, ln⟩ := h
  have hh := hd_le bn
  refine ⟨⟨ar, bn, ok⟩, nm, fun y hy => hn y (fr y hy.1) hy.2, ?_, ?_, ?_⟩
  · show 2 * (1 + x.size) + 1 ≤ 3 ^ (d + 2 + 1)
    have p4 : 3 ^ (d + 1 + 1) = 3 ^ (d + 2) := rfl
    omega
  · show 1 + x.depth ≤ _
    omega
  · show (hd w b ++ (32 :: x.pr) ++ [41]).length + 8 ≤ 21 * 3 ^ (d + 1 + 1)
    simp only [List.length_append, List.length_cons, List.length_nil]
    omega
theorem Dr.n2 {N : List Nat → Prop} {ns ns' : List (List Nat)} {d : Nat} {x y : U.Tm} {w : Wd} {b : List Nat} (h : Dr N ns d x) (h' : Dr N ns' d y) (ar : w.ar = 2) (bn : BndOk w b) (hn : ∀ y ∈ ns', (w.bd = true → y ≠ b) → y ∈ ns) : Dr N ns (d + 1) (.n2 w b x y) := by
  have p1 : 3 ≤ 3 ^ (d + 1) := p3_le
  have p2 := p3_s (d + 1)
  have p3 := p3_s (d + 2)
  have p4 : 3 ^ (d + 1 + 1) = 3 ^ (d + 2) := rfl
  obtain ⟨ok, nm, fr, sz, dp, ln⟩ := h
  obtain ⟨ok', nm', fr', sz', dp', ln'⟩ := h'
  have hh := hd_le bn
  refine ⟨⟨ar, bn, ok, ok'⟩, ⟨nm, nm'⟩, fun z hz => hz.elim (fr z) fun hz => hn z (fr' z hz.1) hz.2, ?_, ?_, ?_⟩
  · show 2 * (1 + x.size + y.size) + 1 ≤ 3 ^ (d + 2 + 1)
    omega
  · show 1 + max x.depth y.depth ≤ _
    omega
  · show (hd w b ++ (32 :: x.pr ++ 32 :: y.pr) ++ [41]).length + 8 ≤ 21 * 3 ^ (d + 1 + 1)
    simp only [List.length_append, List.length_cons, List.length_nil]
    omega
theorem Dr.n3 {N : List Nat → Prop} {ns : List (List Nat)} {d : Nat} {x y z : U.Tm} {w : Wd} (h : Dr N ns d x) (h' : Dr N ns d y) (h'' : Dr N ns d z) (ar : w.ar = 3) (bn : BndOk w []) : Dr N ns (d + 1) (.n3 w [] x y z) := by
  have p1 : 3 ≤ 3 ^ (d + 1) := p3_le
  have p2 := p3_s (d + 1)
  have p3 := p3_s (d + 2)
  have p4 : 3 ^ (d + 1 + 1) = 3 ^ (d + 2) := rfl
  obtain ⟨ok, nm, fr, sz, dp, ln⟩ := h
  obtain ⟨ok', nm', fr', sz', dp', ln'⟩ := h'
  obtain ⟨ok'', nm'', fr'', sz'', dp'', ln''⟩ := h''
  have hh := hd_le bn
  refine ⟨⟨ar, bn, ok, ok', ok''⟩, ⟨nm, nm', nm''⟩, fun v hv => hv.elim (fr v) fun hv => hv.elim (fr' v) fun hv => fr'' v hv.1, ?_, ?_, ?_⟩
  · show 2 * (1 + x.size + y.size + z.size) + 1 ≤ 3 ^ (d + 2 + 1)
    omega
  · show 1 + max (max x.depth y.depth) z.depth ≤ _
    omega
  · show (hd w [] ++ (32 :: x.pr ++ 32 :: y.pr ++ 32 :: z.pr) ++ [41]).length + 8 ≤ 21 * 3 ^ (d + 1 + 1)
    simp only [List.length_append, List.length_cons, List.length_nil]
    omega
/-! ### texts -/
theorem s_sp : Str.ofString " " = tx [32] := by decide +kernel
theorem s_cl : Str.ofString ")" = tx [41] := by decide +kernel
theorem s_op : Str.ofString "(" = tx [40] := by decide +kernel
theorem s_if : Str.ofString "(if " = tx [40, 105, 102, 32] := by decide +kernel
theorem s_let : Str.ofString "(let " = tx [40, 108, 101, 116, 32] := by decide +kernel
theorem s_def : Str.ofString "(def " = tx [40, 100, 101, 102, 32] := by decide +kernel
theorem t_if (x y z : U.Tm) : (Str.ofString "(if " ++ Txt.join (Str.ofString " ") [tx x.pr, tx y.pr, tx z.pr] ++ Str.ofString ")" : Str) = tx (U.Tm.n3 .iff [] x y z).pr := by
  have h := join_tx [32] x.pr [y.pr, z.pr]
  rw [s_if, s_sp, s_cl]
  rw [show ([tx x.pr, tx y.pr, tx z.pr] : List Str) = tx x.pr :: [y.pr, z.pr].map tx from rfl, h, tx_app, tx_app]
  refine congrArg (fun l : List Nat => tx l) ?_
  simp [U.Tm.pr, hd, Wd.cs, Wd.bd]
theorem t_let (b : List Nat) (x y : U.Tm) : (Str.ofString "(let " ++ tx b ++ Str.ofString " " ++ Txt.join (Str.ofString " ") [tx x.pr, tx y.pr] ++ Str.ofString ")" : Str) = tx (U.Tm.n2 .lett b x y).pr := by
  have h := join_tx [32] x.pr [y.pr]
  rw [s_let, s_sp, s_cl]
  rw [show ([tx x.pr, tx y.pr] : List Str) = tx x.pr :: [y.pr].map tx from rfl, h, tx_app, tx_app, tx_app, tx_app]
  refine congrArg (fun l : List Nat => tx l) ?_
  simp [U.Tm.pr, hd, Wd.cs, Wd.bd]
theorem t_def (b : List Nat) (x : U.Tm) : (Str.ofString "(def " ++ tx b ++ Str.ofString " " ++ tx x.pr ++ Str.ofString ")" : Str) = tx (U.Tm.n1 .deff b x).pr := by
  rw [s_def, s_sp, s_cl, tx_app, tx_app, tx_app, tx_app]
  refine congrArg (fun l : List Nat => tx l) ?_
  simp [U.Tm.pr, hd, Wd.cs, Wd.bd]
theorem t_w1 (w : Wd) (hb : w.bd = false) (x : U.Tm) : (Str.ofString "(" ++ Txt.join (Str.ofString " ") [tx w.cs, tx x.pr] ++ Str.ofString ")" : Str) = tx (U.Tm.n1 w [] x).pr := by
  have h := join_tx [32] w.cs [x.pr]
  rw [s_op, s_sp, s_cl]
  rw [show ([tx w.cs, tx x.pr] : List Str) = tx w.cs :: [x.pr].map tx from rfl, h, tx_app, tx_app]
  refine congrArg (fun l : List Nat => tx l) ?_
  simp [U.Tm.pr, hd, hb]
theorem t_w2 (w : Wd) (hb : w.bd = false) (x y : U.Tm) : (Str.ofString "(" ++ Txt.join (Str.ofString " ") [tx w.cs, tx x.pr, tx y.pr] ++ Str.ofString ")" : Str) = tx (U.Tm.n2 w [] x y).pr := by
  have h := join_tx [32] w.cs [x.pr, y.pr]
  rw [s_op, s_sp, s_cl]
  rw [show ([tx w.cs, tx x.pr, tx y.pr] : List Str) = tx w.cs :: [x.pr, y.pr].map tx from rfl, h, tx_app, tx_app]
  refine congrArg (fun l : List Nat => tx l) ?_
  simp [U.Tm.pr, hd, hb]
/-- what a number drawn from 0 to below 6, less 2, is written -/
theorem num_small {r : Int} (h0 : 0 ≤ r) (h1 : r < 6) : ∃ l, Str.ofString (toString (r - 2)) = tx l ∧ NumOk l ∧ l.length ≤ 2 := by
  have h : r = 0 ∨ r = 1 ∨ r = 2 ∨ r = 3 ∨ r = 4 ∨ r = 5 := by omega
  rcases h with rfl | rfl | rfl | rfl | rfl | rfl
  · exact ⟨[45, 50], by decide +kernel, .inr ⟨50, [], .inr rfl, by decide, by decide, fun c h => by simp at h⟩, by decide⟩
  · exact ⟨[45, 49], by decide +kernel, .inr ⟨49, [], .inr rfl, by decide, by decide, fun c h => by simp at h⟩, by decide⟩
  · exact ⟨[48], by decide +kernel, .inl rfl, by decide⟩
  · exact ⟨[49], by decide +kernel, .inr ⟨49, [], .inl rfl, by decide, by decide, fun c h => by simp at h⟩, by decide⟩
  · exact ⟨[50], by decide +kernel, .inr ⟨50, [], .inl rfl, by decide, by decide, fun c h => by simp at h⟩, by decide⟩
  · exact ⟨[51], by decide +kernel, .inr ⟨51, [], .inl rfl, by decide, by decide, fun c h => by simp at h⟩, by decide⟩
def pair0 (l : List Nat) : U.Tm := .n2 .pair [] (.atom .num l) (.atom .num [49])
def def0 (l : List Nat) : U.Tm := .n1 .deff [120] (.n2 .sum [] (.atom .name [120]) (.atom .num l))
theorem t_pair0 (l : List Nat) : (Str.ofString "(pair " ++ tx l ++ Str.ofString " 1)" : Str) = tx (pair0 l).pr := by
  rw [show Str.ofString "(pair " = tx [40, 112, 97, 105, 114, 32] by decide +kernel, show Str.ofString " 1)" = tx [32, 49, 41] by decide +kernel, tx_app, tx_app]
  refine congrArg (fun l : List Nat => tx l) ?_
  simp [pair0, U.Tm.pr, hd, Wd.cs, Wd.bd]
theorem t_def0 (l : List Nat) : (Str.ofString "(def x (sum x " ++ tx l ++ Str.ofString "))" : Str) = tx (def0 l).pr := by
  rw [show Str.ofString "(def x (sum x " = tx [40, 100, 101, 102, 32, 120, 32, 40, 115, 117, 109, 32, 120, 32] by decide +kernel, show Str.ofString "))" = tx [41, 41] by decide +kernel, tx_app, tx_app]
  refine congrArg (fun l : List Nat => tx l) ?_
  simp [def0, U.Tm.pr, hd, Wd.cs, Wd.bd]
theorem one_ok : NumOk [49] := .inr ⟨49, [], .inl rfl, by decide, by decide, fun c h => by simp at h⟩
theorem dr_pair0 {N : List Nat → Prop} {ns : List (List Nat)} {l : List Nat} (d : Nat) (h : NumOk l) (hl : l.length ≤ 2) : Dr N ns d (pair0 l) := by
  have p1 : 3 ≤ 3 ^ (d + 1) := p3_le
  have p2 := p3_s (d + 1)
  refine ⟨⟨rfl, rfl, h, one_ok⟩, ⟨(by intro z; cases z), (by intro z; cases z)⟩, fun y hy => ?_, ?_, ?_, ?_⟩
  · rcases hy with hy | hy
    · cases hy.1
    · cases hy.1.1
  · show 2 * 3 + 1 ≤ 3 ^ (d + 1 + 1)
    omega
  · show 1 ≤ _
    omega
  · simp only [pair0, U.Tm.pr, hd, Wd.cs, Wd.bd, List.length_append, List.length_cons, List.length_nil, Bool.false_eq_true, if_false]
    omega
theorem dr_def0 {N : List Nat → Prop} {ns : List (List Nat)} {l : List Nat} (d : Nat) (h : NumOk l) (hl : l.length ≤ 2) (hN : N [120]) : Dr N ns d (def0 l) := by
  have p1 : 3 ≤ 3 ^ (d + 1) := p3_le
  have p2 := p3_s (d + 1)
  have sx : SmallOk [120] := ⟨by decide, by decide, by decide⟩
  refine ⟨⟨rfl, sx, rfl, rfl, sx, h⟩, ⟨fun _ => hN, (by intro z; cases z)⟩, fun y hy => ?_, ?_, ?_, ?_⟩
  · obtain ⟨hy, hb⟩ := hy
    rcases hy with hy | hy
    · exact absurd hy.2 (hb rfl)
    · cases hy.1.1
  · show 2 * 4 + 1 ≤ 3 ^ (d + 1 + 1)
    omega
  · show 2 ≤ _
    omega
  · simp only [def0, U.Tm.pr, hd, Wd.cs, Wd.bd, List.length_append, List.length_cons, List.length_nil, if_true, Bool.false_eq_true, if_false]
    omega
end K

set_option Elab.async false
set_option linter.all false
set_option maxRecDepth 100000
set_option maxHeartbeats 4000000
namespace K
open PySem PySem.Spec PyProof.Rows L2 U SkE
def K3 (s : Str) : Prop := s = Str.ofString "number" ∨ s = Str.ofString "pair" ∨ s = Str.ofString "def"
def cO : Nat → Nat
  | 0 => 4
  | d + 1 => 8 + 3 * cO d
/-- a name for what is drawn from: small names, names that stand around, parts by kinds -/
def EnvL (p e : Addr) (H : Hp) (ss ns g1 g2 g3 : List (List Nat)) : Prop := ∃ aS aN aD a1 a2 a3 : Addr, (e ≠ p ∧ aS ≠ p ∧ aN ≠ p ∧ aD ≠ p ∧ a1 ≠ p ∧ a2 ≠ p ∧ a3 ≠ p) ∧ H e = some (.tup [.ref aS, .ref aN, .ref aD]) ∧
  H aS = some (.lst (ss.map fun n => V.str (tx n))) ∧ H aN = some (.lst (ns.map fun n => V.str (tx n))) ∧ H aD = some (.dK [(.inr (Str.ofString "number"), .ref a1), (.inr (Str.ofString "pair"), .ref a2), (.inr (Str.ofString "def"), .ref a3)]) ∧
  H a1 = some (.lst (g1.map fun n => V.str (tx n))) ∧ H a2 = some (.lst (g2.map fun n => V.str (tx n))) ∧ H a3 = some (.lst (g3.map fun n => V.str (tx n)))
theorem EnvL.but {p e : Addr} {H H' : Hp} {ss ns g1 g2 g3 : List (List Nat)} (h : EnvL p e H ss ns g1 g2 g3) (b : But p H H') : EnvL p e H' ss ns g1 g2 g3 := by
  obtain ⟨aS, aN, aD, a1, a2, a3, ⟨n1, n2, n3, n4, n5, n6, n7⟩, h1, h2, h3, h4, h5, h6, h7⟩ := h
  exact ⟨aS, aN, aD, a1, a2, a3, ⟨n1, n2, n3, n4, n5, n6, n7⟩, b _ _ h1 n1, b _ _ h2 n2, b _ _ h3 n3, b _ _ h4 n4, b _ _ h5 n5, b _ _ h6 n6, b _ _ h7 n7⟩
def GOk (g : List (List Nat)) : Prop := 1 ≤ g.length ∧ g.length ≤ 26 ∧ ∀ n ∈ g, GreatOk n
structure EnvOk (d : Nat) (N : List Nat → Prop) (ss ns g1 g2 g3 : List (List Nat)) : Prop where
  l3 : ss.length = 3
  os : ∀ n ∈ ss, SmallOk n ∧ N n
  on : ∀ n ∈ ns, SmallOk n ∧ N n
  ln : ns.length + d ≤ 9
  o1 : GOk g1
  o2 : GOk g2
  o3 : GOk g3
  ox : N [120]
/-- the parts of a kind -/
theorem EnvL.part {p e : Addr} {H : Hp} {ss ns g1 g2 g3 : List (List Nat)} {d : Nat} {N : List Nat → Prop} (h : EnvL p e H ss ns g1 g2 g3) (o : EnvOk d N ss ns g1 g2 g3) {kind : Str} (k3 : K3 kind) :
    ∃ (aS aN aD ag : Addr) (kvs : List (Key × V)) (g : List (List Nat)), H e = some (.tup [.ref aS, .ref aN, .ref aD]) ∧ H aD = some (.dK kvs) ∧ valV kvs (.inr kind) = some (.ref ag) ∧ H ag = some (.lst (g.map fun n => V.str (tx n))) ∧ ag ≠ p ∧ GOk g := by
  obtain ⟨aS, aN, aD, a1, a2, a3, ⟨n1, n2, n3, n4, n5, n6, n7⟩, h1, h2, h3, h4, h5, h6, h7⟩ := h
  rcases k3 with rfl | rfl | rfl
  · exact ⟨aS, aN, aD, a1, _, g1, h1, h4, rfl, h5, n5, o.o1⟩
  · exact ⟨aS, aN, aD, a2, _, g2, h1, h4, rfl, h6, n6, o.o2⟩
  · exact ⟨aS, aN, aD, a3, _, g3, h1, h4, rfl, h7, n7, o.o3⟩
theorem item_at {ss : List (List Nat)} {r : Int} (h0 : 0 ≤ r) (h1 : r < ss.length) : ∃ n, n ∈ ss ∧ atI (ss.map fun n => V.str (tx n)) r = some (.str (tx n)) := by
  obtain ⟨j, rfl⟩ : ∃ j : Nat, r = j := ⟨r.toNat, by omega⟩
  have h : j < ss.length := by omega
  exact ⟨ss[j], List.getElem_mem h, atI_nat (by rw [List.getElem?_map, List.getElem?_eq_getElem h]; rfl)⟩
theorem kind_at {r : Int} (h0 : 0 ≤ r) (h1 : r < 3) : ∃ k, K3 k ∧ atI [V.str (Str.ofString "number"), V.str (Str.ofString "pair"), V.str (Str.ofString "def")] r = some (.str k) := by
  have h : r = 0 ∨ r = 1 ∨ r = 2 := by omega
  rcases h with rfl | rfl | rfl
  · exact ⟨_, .inl rfl, rfl⟩
  · exact ⟨_, .inr (.inl rfl), rfl⟩
  · exact ⟨_, .inr (.inr rfl), rfl⟩
theorem str_app_len (a b : Str) : (a ++ b : Str).length = a.length + b.length := by
  show (a.cps ++ b.cps).size = _
  rw [Array.size_append]
  rfl
def spOf (d : Nat) : Sp := fun vs H Q _ => ∃ (p e : Addr) (kind : Str) (c : Int) (ss ns g1 g2 g3 : List (List Nat)) (N : List Nat → Prop), vs = [.ref p, .str kind, .ref e, .int d] ∧ K3 kind ∧ Purse H p c ∧ c + cO d < 2 ^ 39 ∧ EnvL p e H ss ns g1 g2 g3 ∧ EnvOk d N ss ns g1 g2 g3 ∧
  ∀ t H', But p H H' → Purse H' p (c + cO d) → Dr N ns d t → Q (.str (tx t.pr)) H'
def spForm : Nat → Sp
  | 0 => fun _ _ _ _ => False
  | d + 1 => fun vs H Q _ => ∃ (p e : Addr) (kind : Str) (c : Int) (ss ns g1 g2 g3 : List (List Nat)) (N : List Nat → Prop), vs = [.ref p, .str kind, .ref e, .int (d + 1 : Nat)] ∧ K3 kind ∧ Purse H p c ∧ c + (4 + 3 * cO d) < 2 ^ 39 ∧ EnvL p e H ss ns g1 g2 g3 ∧ EnvOk (d + 1) N ss ns g1 g2 g3 ∧
    ∀ t H', But p H H' → Purse H' p (c + (4 + 3 * cO d)) → Dr N ns (d + 1) t → Q (.str (tx t.pr)) H'
/-- the three texts by kinds -/
theorem base_at {kind : Str} (k3 : K3 kind) {l : List Nat} {N : List Nat → Prop} {ns : List (List Nat)} {d : Nat} (h : NumOk l) (hl : l.length ≤ 2) (hN : N [120]) :
    ∃ t, Dr N ns d t ∧ valV (mergeK [] [((.inr (Str.ofString "number") : Key), V.str (tx l)), (.inr (Str.ofString "pair"), .str (Str.ofString "(pair " ++ tx l ++ Str.ofString " 1)")), (.inr (Str.ofString "def"), .str (Str.ofString "(def x (sum x " ++ tx l ++ Str.ofString "))"))]) (.inr kind) = some (.str (tx t.pr)) := by
  rcases k3 with rfl | rfl | rfl
  · exact ⟨.atom .num l, Dr.atom d h (by omega) (by intro z; cases z) (by intro z; cases z), rfl⟩
  · refine ⟨pair0 l, dr_pair0 d h hl, ?_⟩
    rw [← t_pair0]
    rfl
  · refine ⟨def0 l, dr_def0 d h hl hN, ?_⟩
    rw [← t_def0]
    rfl
section
variable {P : Program} {w : World} {K : PySem.W.Frag} {mg : Str → Option Value} {base : Heap} {dW dB : Addr} {esW : Array DictEntry} {nW : Nat} (T : Txt K mg w dW dB esW nW)
include T
theorem ok__law_of_step (d : Nat) (hd3 : d ≤ 4) {f f1 f2 : Addr} {fd fd1 fd2 : FuncData} (F : Fun K "_law_of" "_law_of" s__law_of f fd) (h__law_take : Has P w K mg base "_law_take" 1 ["_law_purse_here", "_law_many"] spTake f1 fd1)
    (h__law_form : Has P w K mg base "_law_form" (2 * d + 2) ["_law_purse_here", "_law_kind", "_law_env", "_law_deep"] (spForm d) f2 fd2) :
    FnOk P w K mg base CX0 (2 * d + 3) f fd ["_law_purse_here", "_law_kind", "_law_env", "_law_deep"] (spOf d) := by
  refine F.ok sc__law_of (fun vs H Q E h => ?_) (fun cdv A outer s H vs Q E hr h => ?_)
  · obtain ⟨p, e, kind, c, ss, ns, g1, g2, g3, N, rfl, _⟩ := h
    rfl
  · obtain ⟨p, e, kind, c, ss, ns, g1, g2, g3, N, rfl, k3, P0, hc, env, ok, q⟩ := h
    have hu := hu_of hr
    refine ⟨_, (pss_cons (ps_set (i := 4) sc__law_of.nd rfl (.inl rfl) (pe_callH h__law_take (hr.mono (by first | decide | omega)) (by rfl) (pa_cons (pv 0) (pa_cons pe_int pa_nil))))
      (Evl.pss_cut (ps_if (pt_cmpR op_eq (pv 4) pe_int (nomark _)) 
        (pss_one (ps_set (i := 1) sc__law_of.nd rfl (.inl rfl) (pe_ix ix_list (pe_lst (pa_cons pe_str (pa_cons pe_str (pa_cons pe_str pa_nil)))) (pe_callH h__law_take (hr.mono (by first | decide | omega)) (by rfl) (pa_cons (pv 0) (pa_cons pe_int pa_nil))) (fun _ _ => rfl)))) pss_nil)
      (Evl.pss_cut (ps_if (PW.pt (pw_and (pt_cmpR op_gt (pv 3) pe_int (nomark _)) (pw_and1 (pt_cmpR op_gt (pv 4) pe_int (nomark _))))) 
        (pss_one (ps_ret (pe_callH h__law_form (hr.mono (by first | decide | omega)) (by rfl) (pa_cons (pv 0) (pa_cons (pv 1) (pa_cons (pv 2) (pa_cons (pv 3) pa_nil))))))) pss_nil)
      (Evl.pss_cut (ps_if (PW.pt (pw_and (pt_cmpR op_eq (pv 1) pe_str (nomark _)) (pw_and (pt_cmpR (op_neD hr.units) (pe_ix ix_tup (pv 2) pe_int (fun _ _ => rfl)) (pe_lst pa_nil) (nomark _)) (pw_and1 (pt_cmpR op_eq (pe_op op_mod (pv 4) pe_int) pe_int (nomark _)))))) 
        (pss_one (ps_ret (pe_ix ix_list (pe_ix ix_tup (pv 2) pe_int (fun _ _ => rfl)) (pe_callH h__law_take (hr.mono (by first | decide | omega)) (by rfl) (pa_cons (pv 0) (pa_cons (pe_callB call_len_seq (by rfl) T.z_len (by decide +kernel) (pa_cons (pe_ix ix_tup (pv 2) pe_int (fun _ _ => rfl)) pa_nil)) pa_nil))) (fun _ _ => rfl)))) pss_nil)
      (pss_cons (ps_if (pt_cmpR op_lt (pe_op op_mod (pv 4) pe_int) pe_int (nomark _)) 
        (pss_one (ps_ret (pe_ix ix_list (pe_dget hu (pe_ix ix_tup (pv 2) pe_int (fun _ _ => rfl)) (pv 1) (fun _ _ => rfl)) (pe_callH h__law_take (hr.mono (by first | decide | omega)) (by rfl) (pa_cons (pv 0) (pa_cons (pe_callB call_len_seq (by rfl) T.z_len (by decide +kernel) (pa_cons (pe_dget hu (pe_ix ix_tup (pv 2) pe_int (fun _ _ => rfl)) (pv 1) (fun _ _ => rfl)) pa_nil)) pa_nil))) (fun _ _ => rfl)))) pss_nil)
      (pss_cons (ps_set (i := 5) sc__law_of.nd rfl (.inl rfl) (pe_callTy call_str_int (by rfl) T.z_str (by decide +kernel) (pa_cons (pe_op op_sub (pe_callH h__law_take (hr.mono (by first | decide | omega)) (by rfl) (pa_cons (pv 0) (pa_cons pe_int pa_nil))) pe_int) pa_nil)))
      (pss_one (ps_ret (pe_dget hu (pe_disp (pps_cons pe_str (pv 5) (pps_cons pe_str (pe_op op_add_str (pe_op op_add_str pe_str (pv 5)) pe_str) (pps_cons pe_str (pe_op op_add_str (pe_op op_add_str pe_str (pv 5)) pe_str) pps_nil))) rfl rfl (by simp) (Nat.le_of_ble_eq_true rfl)) (pv 1) (fun _ _ => rfl)))))))))), ?_⟩
    have e39 : (2 : Int) ^ 39 = 549755813888 := by decide
    have e40 : (2 : Int) ^ 40 = 1099511627776 := by decide
    have e60 : (2 : Int) ^ 60 = 1152921504606846976 := by decide
    have cb : 4 ≤ cO d := by cases d <;> simp [cO] <;> omega
    refine ⟨_, rfl, p, 16, c, rfl, P0, by omega, by decide, by decide, fun way H1 hw0 hw1 P1 b1 => ?_⟩
    refine ⟨fun σ H' => ∃ kind, K3 kind ∧ σ = [some (.ref p), some (.str kind), some (.ref e), some (.int d), some (.int way), none] ∧ But p H H' ∧ Purse H' p (c + 2), ?_, ?_⟩
    · refine ⟨_, rfl, rfl, _, rfl, ite2 (fun h => ?_) (fun h => ?_)⟩
      · refine ⟨sizeLine_ge (by show 3 ≤ 10000; decide), fun q1 hq1 => ⟨_, rfl, p, 3, _, rfl, P1.same (same_new hq1), by omega, by decide, by decide, fun r3 H3 h30 h31 P3 b3 => ?_⟩⟩
        obtain ⟨kd, hk1, hk2⟩ := kind_at h30 h31
        exact ⟨q1, _, _, _, rfl, rfl, .inl (.inl (b3 _ _ upd_same (Ne.symm (P1.ne hq1)))), hk2, kd, hk1, rfl, But.trans b1 (But.trans (But.of_same (same_new hq1)) b3), P3.mono (by omega)⟩
      · exact ⟨kind, k3, rfl, b1, P1.mono (by omega)⟩
    · rintro σ H2 ⟨kind, k3, rfl, b2, P2⟩
      refine ⟨fun σ H' => σ = [some (.ref p), some (.str kind), some (.ref e), some (.int d), some (.int way), none] ∧ But p H H' ∧ Purse H' p (c + 2), ?_, ?_⟩
      · refine ⟨_, rfl, _, _, rfl, rfl, _, rfl, ite2 (fun h => ?_) (fun h => ?_)⟩
        · have h := of_decide_eq_true h
          refine ⟨_, rfl, _, _, rfl, rfl, _, rfl, ite2 (fun h2 => ?_) (fun h2 => ⟨rfl, b2, P2⟩)⟩
          obtain ⟨d, rfl⟩ : ∃ n, d = n + 1 := ⟨d - 1, by omega⟩
          have ecb : cO (d + 1) = 8 + 3 * cO d := rfl
          exact ⟨_, rfl, _, rfl, _, rfl, _, rfl, p, e, kind, _, ss, ns, g1, g2, g3, N, rfl, k3, P2, by omega, env.but b2, ok, fun t H' b P dr => q t H' (But.trans b2 b) (P.mono (by omega)) dr⟩
        · exact ⟨rfl, b2, P2⟩
      · rintro σ H3 ⟨rfl, b3, P3⟩
        refine ⟨fun σ H' => σ = [some (.ref p), some (.str kind), some (.ref e), some (.int d), some (.int way), none] ∧ But p H H' ∧ Purse H' p (c + 2), ?_, ?_⟩
        · refine ⟨_, rfl, rfl, _, rfl, ite2 (fun h => ?_) (fun h => iteF ⟨rfl, b3, P3⟩)⟩
          obtain ⟨aS, aN, aD, a1, a2, a3, ⟨n1, n2, n3, n4, n5, n6, n7⟩, h1, h2, h3, h4, h5, h6, h7⟩ := env.but b3
          refine ⟨_, rfl, e, _, _, _, rfl, rfl, .inl (.inl h1), rfl, sizeLine_ge (by show 0 ≤ 10000; decide), fun q1 hq1 => ?_⟩
          have b4 := But.trans b3 (But.of_same (same_new (o := .lst []) hq1))
          have P4 := P3.same (same_new (o := .lst []) hq1)
          have h3' : upd H3 q1 (.lst []) aN = some (.lst (ns.map fun n => V.str (tx n))) := (same_new hq1) _ _ h3
          have h3s : upd H3 q1 (.lst []) aN = some (.lst ((ns.map tx).map V.str)) := by
            rw [List.map_map]
            exact h3'
          have h1' : upd H3 q1 (.lst []) e = some (.tup [.ref aS, .ref aN, .ref aD]) := (same_new hq1) _ _ h1
          have as : ∀ x ∈ ns.map tx, Asc x := fun x hx => by
            obtain ⟨n, hn, rfl⟩ := List.mem_map.mp hx
            exact Asc.tx fun z hz => asc_smalls z ((ok.on n hn).1.2.2 z hz)
          refine ⟨.list ((ns.map tx).map PyData.str), .list (([] : List Str).map PyData.str), .lst (.inl (.inl h3s)) (dpAll_strs _), .lst (.inl (.inl upd_same)) (dpAll_strs []), shaped_strs as, shaped_strs (by simp), _, rfl, ite2 (fun h => ?_) (fun h => iteF ⟨rfl, ?_, ?_⟩)⟩
          · clear h3s
            generalize upd H3 q1 (.lst []) = G at b4 P4 h3' h1' ⊢
            have hne : ns ≠ [] := by
              intro z
              rw [PyData.eqv, eqvAll_strs, z] at h
              simp at h
            refine ⟨_, rfl, _, _, rfl, rfl, (show (0 : Int) < 2 by decide), rfl, _, rfl, ite2 (fun h => ?_) (fun h => ⟨rfl, b4, P4⟩)⟩
            have hpos : 0 < ns.length := List.length_pos_iff.mpr hne
            have hln := ok.ln
            refine ⟨_, rfl, e, _, _, _, rfl, rfl, .inl (.inl h1'), rfl, _, rfl, _, rfl, e, _, _, _, rfl, rfl, .inl (.inl h1'), rfl, aN, _, rfl, .inl (.inl (.inl h3')), p, _, _, rfl, P4, by omega, ?_, ?_, fun r H5 h0 h1 P5 b5 => ?_⟩
            · rw [List.length_map]
              omega
            · rw [List.length_map]
              omega
            · rw [List.length_map] at h1
              obtain ⟨n, hn1, hn2⟩ := item_at (ss := ns) h0 h1
              have on := ok.on n hn1
              exact ⟨aN, _, _, _, rfl, rfl, .inl (.inl (b5 _ _ h3' n3)), hn2, q (.atom .name n) H5 (But.trans b4 b5) (P5.mono (by omega)) (Dr.atom d on.1 (Nat.le_trans on.1.2.1 (by decide)) (fun _ => hn1) (fun _ => on.2))⟩
          · exact b4
          · exact P4
        · rintro σ H4 ⟨rfl, b4, P4⟩
          obtain ⟨aS, aN, aD, ag, kvs, g, h1, h2, h3, h4, ngp, go⟩ := (env.but b4).part ok k3
          refine ⟨_, rfl, _, _, rfl, rfl, (show (0 : Int) < 4 by decide), _, _, rfl, rfl, _, rfl, ite2 (fun h => ?_) (fun h => ?_)⟩
          · have g1 := go.1
            have g2 := go.2.1
            refine ⟨_, rfl, e, _, _, _, rfl, rfl, .inl (.inl h1), rfl, _, rfl, aD, _, rfl, .inl ⟨_, .inr kind, .inl h2, rfl, h3.symm⟩, _, rfl, _, rfl, e, _, _, _, rfl, rfl, .inl (.inl h1), rfl, _, rfl, aD, _, rfl, .inl ⟨_, .inr kind, .inl h2, rfl, h3.symm⟩, ag, _, rfl, .inl (.inl (.inl h4)), p, _, _, rfl, P4, by omega, ?_, ?_, fun r H5 h0 h1 P5 b5 => ?_⟩
            · rw [List.length_map]
              omega
            · rw [List.length_map]
              omega
            · rw [List.length_map] at h1
              obtain ⟨n, hn1, hn2⟩ := item_at (ss := g) h0 h1
              have on := go.2.2 n hn1
              exact ⟨ag, _, _, _, rfl, rfl, .inl (.inl (b5 _ _ h4 ngp)), hn2, q (.atom .part n) H5 (But.trans b4 b5) (P5.mono (by omega)) (Dr.atom d on (Nat.le_trans on.2.1 (by decide)) (by intro z; cases z) (by intro z; cases z))⟩
          · refine ⟨_, rfl, p, 6, _, rfl, P4, by omega, by decide, by decide, fun r H5 h0 h1 P5 b5 => ⟨_, _, rfl, rfl, _, rfl, ?_, ?_⟩⟩
            · have : (r - 2).natAbs ≤ 6 := by omega
              exact Nat.lt_of_le_of_lt (Nat.log2_le_self _) (by omega)
            · obtain ⟨l, hl1, hl2, hl3⟩ := num_small h0 h1
              have ll : (tx l).length ≤ 2 := by rw [tx_len]; exact hl3
              have l1 : (Str.ofString "(pair ").length = 6 := by decide +kernel
              have l2 : (Str.ofString " 1)").length = 3 := by decide +kernel
              have l3 : (Str.ofString "(def x (sum x ").length = 14 := by decide +kernel
              have l4 : (Str.ofString "))").length = 2 := by decide +kernel
              have z1 : (Str.ofString "(pair ").length + (tx l).length ≤ sizeLine := sizeLine_ge (by omega)
              have z2 : (Str.ofString "(pair " ++ tx l : Str).length + (Str.ofString " 1)").length ≤ sizeLine := by
                rw [str_app_len]
                exact sizeLine_ge (by omega)
              have z3 : (Str.ofString "(def x (sum x ").length + (tx l).length ≤ sizeLine := sizeLine_ge (by omega)
              have z4 : (Str.ofString "(def x (sum x " ++ tx l : Str).length + (Str.ofString "))").length ≤ sizeLine := by
                rw [str_app_len]
                exact sizeLine_ge (by omega)
              obtain ⟨t, ht1, ht2⟩ := base_at (N := N) (ns := ns) (d := d) k3 hl2 hl3 ok.ox
              rw [hl1]
              refine fun pd hpd => ⟨_, rfl, _, rfl, _, _, rfl, rfl, z1, _, _, rfl, rfl, z2, _, rfl, _, _, rfl, rfl, z3, _, _, rfl, rfl, z4, upd_same, [((.inr (Str.ofString "number") : Key), V.str (tx l)), (.inr (Str.ofString "pair"), .str (Str.ofString "(pair " ++ tx l ++ Str.ofString " 1)")), (.inr (Str.ofString "def"), .str (Str.ofString "(def x (sum x " ++ tx l ++ Str.ofString "))"))], rfl, by show 3 ≤ 15; decide, _, rfl, pd, _, rfl, .inl ⟨_, .inr kind, .inl upd_same, rfl, ht2.symm⟩, ?_⟩
              have npd := P5.ne hpd
              rw [upd_upd]
              exact q t _ (But.updN (But.trans b4 b5) (But.gone (But.trans b4 b5) hpd (Ne.symm npd))) ((P5.put npd).mono (by omega)) ht1
end
end K


set_option Elab.async false
set_option linter.all false
set_option maxRecDepth 100000
set_option maxHeartbeats 4000000
namespace K
open PySem PySem.Spec PyProof.Rows L2 U SkE
theorem EnvOk.less {d : Nat} {N : List Nat → Prop} {ss ns g1 g2 g3 : List (List Nat)} (o : EnvOk (d + 1) N ss ns g1 g2 g3) : EnvOk d N ss ns g1 g2 g3 :=
  ⟨o.l3, o.os, o.on, by have := o.ln; omega, o.o1, o.o2, o.o3, o.ox⟩
theorem EnvOk.more {d : Nat} {N : List Nat → Prop} {ss ns g1 g2 g3 : List (List Nat)} {x : List Nat} (o : EnvOk (d + 1) N ss ns g1 g2 g3) (hx : x ∈ ss) : EnvOk d N ss (ns ++ [x]) g1 g2 g3 := by
  refine ⟨o.l3, o.os, fun n hn => ?_, by have := o.ln; rw [List.length_append]; show ns.length + 1 + d ≤ 9; omega, o.o1, o.o2, o.o3, o.ox⟩
  rcases List.mem_append.mp hn with hn | hn
  · exact o.on n hn
  · rw [List.mem_singleton.mp hn]
    exact o.os x hx
theorem kind_of {ks : List Str} (h : ∀ k ∈ ks, K3 k) {j : Nat} {y : V} (hy : (ks.map V.str)[j]? = some y) : ∃ kd, y = V.str kd ∧ K3 kd := by
  obtain ⟨k, h1, rfl⟩ := List.mem_map.mp (List.mem_of_getElem? hy)
  exact ⟨k, rfl, h k h1⟩
theorem Dr.small {N : List Nat → Prop} {ns : List (List Nat)} {d : Nat} {k : U.Tm} (h : Dr N ns d k) (hd : d ≤ 3) : k.pr.length ≤ 1701 := by
  have h1 := h.len
  have h2 : 3 ^ (d + 1) ≤ 3 ^ 4 := Nat.pow_le_pow_right (by decide) (by omega)
  have h3 : (3 : Nat) ^ 4 = 81 := by decide
  omega
def W7 : List Wd := [.first, .second, .call, .sum, .less, .times, .below]
theorem word7 {i : Int} (h0 : 0 ≤ i) (h1 : i < 7) : ∃ w, w ∈ W7 ∧ atI [V.str (Str.ofString "first"), V.str (Str.ofString "second"), V.str (Str.ofString "call"), V.str (Str.ofString "sum"), V.str (Str.ofString "less"), V.str (Str.ofString "times"), V.str (Str.ofString "below")] i = some (.str (tx w.cs)) := by
  have hi : i = 0 ∨ i = 1 ∨ i = 2 ∨ i = 3 ∨ i = 4 ∨ i = 5 ∨ i = 6 := by omega
  rcases hi with rfl | rfl | rfl | rfl | rfl | rfl | rfl
  · exact ⟨.first, by decide, by decide +kernel⟩
  · exact ⟨.second, by decide, by decide +kernel⟩
  · exact ⟨.call, by decide, by decide +kernel⟩
  · exact ⟨.sum, by decide, by decide +kernel⟩
  · exact ⟨.less, by decide, by decide +kernel⟩
  · exact ⟨.times, by decide, by decide +kernel⟩
  · exact ⟨.below, by decide, by decide +kernel⟩
def ksOf (w : Wd) : List Str := match w with
  | .first => [Str.ofString "pair"]
  | .second => [Str.ofString "pair"]
  | .call => [Str.ofString "def", Str.ofString "number"]
  | _ => [Str.ofString "number", Str.ofString "number"]
theorem ks_ok {w : Wd} (h : w ∈ W7) : w.bd = false ∧ ((ksOf w).length = w.ar ∧ w.ar ≤ 2) ∧ ∀ k ∈ ksOf w, K3 k := by
  have kN : K3 (Str.ofString "number") := .inl rfl
  have kP : K3 (Str.ofString "pair") := .inr (.inl rfl)
  have kD : K3 (Str.ofString "def") := .inr (.inr rfl)
  have two : ∀ {a b : Str}, K3 a → K3 b → ∀ k ∈ [a, b], K3 k := fun ha hb k hk => by
    simp only [List.mem_cons, List.not_mem_nil, or_false] at hk
    rcases hk with rfl | rfl
    · exact ha
    · exact hb
  have one : ∀ {a : Str}, K3 a → ∀ k ∈ [a], K3 k := fun ha k hk => by
    rw [List.mem_singleton.mp hk]
    exact ha
  unfold W7 at h
  simp only [List.mem_cons, List.not_mem_nil, or_false] at h
  rcases h with rfl | rfl | rfl | rfl | rfl | rfl | rfl
  · exact ⟨rfl, ⟨rfl, by decide⟩, one kP⟩
  · exact ⟨rfl, ⟨rfl, by decide⟩, one kP⟩
  · exact ⟨rfl, ⟨rfl, by decide⟩, two kD kN⟩
  · exact ⟨rfl, ⟨rfl, by decide⟩, two kN kN⟩
  · exact ⟨rfl, ⟨rfl, by decide⟩, two kN kN⟩
  · exact ⟨rfl, ⟨rfl, by decide⟩, two kN kN⟩
  · exact ⟨rfl, ⟨rfl, by decide⟩, two kN kN⟩
def pick {α : Type} (w : Wd) (a b c d : α) : α := match w with
  | .first => a
  | .second => b
  | .call => c
  | _ => d
theorem get_ks {w : Wd} (h : w ∈ W7) (a b c d : V) : (valV (mergeK [] [((.inr (Str.ofString "first") : Key), a), (.inr (Str.ofString "second"), b), (.inr (Str.ofString "call"), c)]) (.inr (tx w.cs))).getD d = pick w a b c d := by
  unfold W7 at h
  simp only [List.mem_cons, List.not_mem_nil, or_false] at h
  rcases h with rfl | rfl | rfl | rfl | rfl | rfl | rfl
  · rw [show tx Wd.first.cs = Str.ofString "first" by decide +kernel]; rfl
  · rw [show tx Wd.second.cs = Str.ofString "second" by decide +kernel]; rfl
  · rw [show tx Wd.call.cs = Str.ofString "call" by decide +kernel]; rfl
  · rw [show tx Wd.sum.cs = Str.ofString "sum" by decide +kernel]; rfl
  · rw [show tx Wd.less.cs = Str.ofString "less" by decide +kernel]; rfl
  · rw [show tx Wd.times.cs = Str.ofString "times" by decide +kernel]; rfl
  · rw [show tx Wd.below.cs = Str.ofString "below" by decide +kernel]; rfl
theorem pick_ks {w : Wd} (h : w ∈ W7) {G : Hp} {p u1 u2 u3 u4 : Addr} (h1 : G u1 = some (.lst [V.str (Str.ofString "pair")])) (h2 : G u2 = some (.lst [V.str (Str.ofString "pair")])) (h3 : G u3 = some (.lst [V.str (Str.ofString "def"), V.str (Str.ofString "number")])) (h4 : G u4 = some (.lst [V.str (Str.ofString "number"), V.str (Str.ofString "number")]))
    (n1 : u1 ≠ p) (n2 : u2 ≠ p) (n3 : u3 ≠ p) (n4 : u4 ≠ p) : ∃ ak, pick w (V.ref u1) (V.ref u2) (V.ref u3) (V.ref u4) = .ref ak ∧ G ak = some (.lst ((ksOf w).map V.str)) ∧ ak ≠ p := by
  unfold W7 at h
  simp only [List.mem_cons, List.not_mem_nil, or_false] at h
  rcases h with rfl | rfl | rfl | rfl | rfl | rfl | rfl
  · exact ⟨u1, rfl, h1, n1⟩
  · exact ⟨u2, rfl, h2, n2⟩
  · exact ⟨u3, rfl, h3, n3⟩
  · exact ⟨u4, rfl, h4, n4⟩
  · exact ⟨u4, rfl, h4, n4⟩
  · exact ⟨u4, rfl, h4, n4⟩
  · exact ⟨u4, rfl, h4, n4⟩
theorem pick3 {m : Int} (m0 : 0 ≤ m) (m1 : m < 3) {G : Hp} {p u1 u2 u3 : Addr} (h1 : G u1 = some (.lst [V.str (Str.ofString "number"), V.str (Str.ofString "number")])) (h2 : G u2 = some (.lst [V.str (Str.ofString "pair"), V.str (Str.ofString "number")])) (h3 : G u3 = some (.lst [V.str (Str.ofString "number"), V.str (Str.ofString "pair")]))
    (n1 : u1 ≠ p) (n2 : u2 ≠ p) (n3 : u3 ≠ p) : ∃ (ak : Addr) (ks : List Str), atI [V.ref u1, V.ref u2, V.ref u3] m = some (.ref ak) ∧ G ak = some (.lst (ks.map V.str)) ∧ ak ≠ p ∧ ks.length = 2 ∧ ∀ k ∈ ks, K3 k := by
  have kN : K3 (Str.ofString "number") := .inl rfl
  have kP : K3 (Str.ofString "pair") := .inr (.inl rfl)
  have two : ∀ {a b : Str}, K3 a → K3 b → ∀ k ∈ [a, b], K3 k := fun ha hb k hk => by
    simp only [List.mem_cons, List.not_mem_nil, or_false] at hk
    rcases hk with rfl | rfl
    · exact ha
    · exact hb
  have hm : m = 0 ∨ m = 1 ∨ m = 2 := by omega
  rcases hm with rfl | rfl | rfl
  · exact ⟨u1, [_, _], rfl, h1, n1, rfl, two kN kN⟩
  · exact ⟨u2, [_, _], rfl, h2, n2, rfl, two kP kN⟩
  · exact ⟨u3, [_, _], rfl, h3, n3, rfl, two kN kP⟩
/-- terms drawn one behind the other into a list -/
def Drawn (p D : Addr) (G H : Hp) (c : Int) (d : Nat) (N : List Nat → Prop) (ns : List (List Nat)) (j : Nat) : Prop :=
  Purse H p (c + ((j * cO d : Nat) : Int)) ∧ But p G H ∧ ∃ ts : List U.Tm, ts.length = j ∧ (∀ t ∈ ts, Dr N ns d t) ∧ H D = some (.lst (ts.map fun t => V.str (tx t.pr)))
theorem Drawn.start {p D : Addr} {G : Hp} {c : Int} {d : Nat} {N : List Nat → Prop} {ns : List (List Nat)} (P0 : Purse G p c) (hD : G D = none) : Drawn p D G (upd G D (.lst [])) c d N ns 0 :=
  ⟨(P0.put (P0.ne hD)).mono (by rw [Nat.zero_mul]; omega), But.of_same (same_new hD), [], rfl, fun t h => by simp at h, upd_same⟩
theorem Drawn.step {p D : Addr} {G H H' : Hp} {c : Int} {d : Nat} {N : List Nat → Prop} {ns : List (List Nat)} {j : Nat} {t : U.Tm} (h : Drawn p D G H c d N ns j) (hD : G D = none) (n : D ≠ p) (b : But p H H') (P' : Purse H' p (c + ((j * cO d : Nat) : Int) + cO d)) (dr : Dr N ns d t) :
    ∃ l, l.length = j ∧ H' D = some (.lst l) ∧ Drawn p D G (upd H' D (.lst (l ++ [V.str (tx t.pr)]))) c d N ns (j + 1) := by
  obtain ⟨P0, b0, ts, hl, hts, e⟩ := h
  refine ⟨_, ?_, b _ _ e n, (P'.put (Ne.symm n)).mono ?_, But.updN (But.trans b0 b) hD, ts ++ [t], by rw [List.length_append, hl]; rfl, fun x hx => ?_, ?_⟩
  · rw [List.length_map, hl]
  · rw [Nat.succ_mul]
    omega
  · rcases List.mem_append.mp hx with hx | hx
    · exact hts x hx
    · rw [List.mem_singleton.mp hx]
      exact dr
  · rw [upd_same, List.map_append]
    rfl
section
variable {P : Program} {w : World} {K : PySem.W.Frag} {mg : Str → Option Value} {base : Heap} {dW dB : Addr} {esW : Array DictEntry} {nW : Nat} (T : Txt K mg w dW dB esW nW)
include T
theorem ok__law_form_step (d : Nat) (hd3 : d ≤ 3) {f f1 f2 : Addr} {fd fd1 fd2 : FuncData} (F : Fun K "_law_form" "_law_form" s__law_form f fd) (h__law_take : Has P w K mg base "_law_take" 1 ["_law_purse_here", "_law_many"] spTake f1 fd1)
    (h__law_of : Has P w K mg base "_law_of" (2 * d + 3) ["_law_purse_here", "_law_kind", "_law_env", "_law_deep"] (spOf d) f2 fd2) :
    FnOk P w K mg base CX0 (2 * d + 4) f fd ["_law_purse_here", "_law_kind", "_law_env", "_law_deep"] (spForm (d + 1)) := by
  refine F.ok sc__law_form (fun vs H Q E h => ?_) (fun cdv A outer s H vs Q E hr h => ?_)
  · obtain ⟨p, e, kind, c, ss, ns, g1, g2, g3, N, rfl, _⟩ := h
    rfl
  · obtain ⟨p, e, kind, c, ss, ns, g1, g2, g3, N, rfl, k3, P0, hc, env, ok, q⟩ := h
    have hu := hu_of hr
    refine ⟨_, (pss_cons (ps_asg (pv 2) (pg_tup rfl (pgs_cons (pg_name (i := 4) sc__law_form.nd rfl (.inl rfl)) (pgs_cons (pg_name (i := 5) sc__law_form.nd rfl (.inl rfl)) (pgs_cons (pg_name (i := 6) sc__law_form.nd rfl (.inl rfl)) pgs_nil)))))
      (pss_cons (ps_par (i := 7) (j := 8) (by rfl) sc__law_form.nd rfl rfl (by decide) rfl rfl (pa_cons (pe_callH h__law_take (hr.mono (by first | decide | omega)) (by rfl) (pa_cons (pv 0) (pa_cons pe_int pa_nil))) (pa_cons (pe_ix ix_list (pv 4) (pe_callH h__law_take (hr.mono (by first | decide | omega)) (by rfl) (pa_cons (pv 0) (pa_cons pe_int pa_nil))) (fun _ _ => rfl)) pa_nil)) (by rfl))
      (pss_cons (ps_set (i := 9) sc__law_form.nd rfl (.inl rfl) (pe_tup (pa_cons (pv 4) (pa_cons (pe_op op_cat (pv 5) (pe_lst (pa_cons (pv 8) pa_nil))) (pa_cons (pv 6) pa_nil)))))
      (pss_cons (ps_if (pt_cmpR op_eq (pv 7) pe_int (nomark _)) 
        (pss_cons (ps_setLc (i := 10) (own := [("_law_one", 12)]) (g := gName 12) (tt := tYes) rfl sc__law_form.nd rfl rfl (sw_true rfl rfl rfl rfl) (pi_list (pe_lst (pa_cons pe_str (pa_cons (pv 1) (pa_cons (pv 1) pa_nil))))) (blkOk_by (N := nm__law_form) (sc := defScope s__law_form) (by decide +kernel)) (fun _ _ _ _ _ => pg_name (i := 12) sc__law_form.nd rfl (.inl rfl)) (fun _ _ _ _ _ => pts_nil) (fun _ _ _ _ _ => (pe_callH h__law_of (hr.mono (by first | decide | omega)) (by rfl) (pa_cons (pv 0) (pa_cons (pv 12) (pa_cons (pv 2) (pa_cons (pe_op op_sub (pv 3) pe_int) pa_nil)))))))
        (pss_one (ps_ret (pe_op op_add_str (pe_op op_add_str pe_str (pe_join pe_str (pv 10))) pe_str)))) pss_nil)
      (pss_cons (ps_if (pt_cmpR op_eq (pv 7) pe_int (nomark _)) 
        (pss_cons (ps_set (i := 10) sc__law_form.nd rfl (.inl rfl) (pe_lst (pa_cons (pe_callH h__law_of (hr.mono (by first | decide | omega)) (by rfl) (pa_cons (pv 0) (pa_cons pe_str (pa_cons (pv 2) (pa_cons (pe_op op_sub (pv 3) pe_int) pa_nil))))) (pa_cons (pe_callH h__law_of (hr.mono (by first | decide | omega)) (by rfl) (pa_cons (pv 0) (pa_cons (pv 1) (pa_cons (pv 9) (pa_cons (pe_op op_sub (pv 3) pe_int) pa_nil))))) pa_nil))))
        (pss_one (ps_ret (pe_op op_add_str (pe_op op_add_str (pe_op op_add_str (pe_op op_add_str pe_str (pv 8)) pe_str) (pe_join pe_str (pv 10))) pe_str)))) pss_nil)
      (pss_cons (ps_if (pt_cmpR op_eq (pv 1) pe_str (nomark _)) 
        (pss_one (ps_ret (pe_op op_add_str (pe_op op_add_str (pe_op op_add_str (pe_op op_add_str pe_str (pv 8)) pe_str) (pe_callH h__law_of (hr.mono (by first | decide | omega)) (by rfl) (pa_cons (pv 0) (pa_cons pe_str (pa_cons (pv 9) (pa_cons (pe_op op_sub (pv 3) pe_int) pa_nil)))))) pe_str))) pss_nil)
      (pss_cons (ps_set (i := 11) sc__law_form.nd rfl (.inl rfl) (pe_ix ix_list (pe_lst (pa_cons pe_str (pa_cons pe_str (pa_cons pe_str (pa_cons pe_str (pa_cons pe_str (pa_cons pe_str (pa_cons pe_str pa_nil)))))))) (pe_callH h__law_take (hr.mono (by first | decide | omega)) (by rfl) (pa_cons (pv 0) (pa_cons pe_int pa_nil))) (fun _ _ => rfl)))
      (pss_cons (ps_set (i := 6) sc__law_form.nd rfl (.inl rfl) (pe_dget2 (Nat.lt_of_le_of_lt (Nat.add_le_add_left (by decide) _) hr.units) (pe_disp (pps_cons pe_str (pe_lst (pa_cons pe_str pa_nil)) (pps_cons pe_str (pe_lst (pa_cons pe_str pa_nil)) (pps_cons pe_str (pe_lst (pa_cons pe_str (pa_cons pe_str pa_nil))) pps_nil))) rfl rfl (by simp) (Nat.le_of_ble_eq_true rfl)) (pv 11) (pe_lst (pa_cons pe_str (pa_cons pe_str pa_nil))) ⟨by rfl, by rfl, by rfl, by rfl⟩))
      (Evl.pss_cut (ps_if (pt_cmpR op_eq (pv 1) pe_str (nomark _)) 
        (pss_one (ps_par (i := 11) (j := 6) (by rfl) sc__law_form.nd rfl rfl (by decide) rfl rfl (pa_cons pe_str (pa_cons (pe_ix ix_list (pe_lst (pa_cons (pe_lst (pa_cons pe_str (pa_cons pe_str pa_nil))) (pa_cons (pe_lst (pa_cons pe_str (pa_cons pe_str pa_nil))) (pa_cons (pe_lst (pa_cons pe_str (pa_cons pe_str pa_nil))) pa_nil)))) (pe_op op_mod (pv 7) pe_int) (fun _ _ => rfl)) pa_nil)) (by rfl))) pss_nil)
      (pss_one (ps_ret (pe_op op_add_str (pe_op op_add_str pe_str (pe_join pe_str (pe_op op_cat (pe_lst (pa_cons (pv 11) pa_nil)) (pe_lc (own := [("_law_one", 12)]) (g := gName 12) (tt := tYes) rfl sc__law_form.nd (pi_list (pv 6)) (blkOk_by (N := nm__law_form) (sc := defScope s__law_form) (by decide +kernel)) (fun _ _ _ _ _ => pg_name (i := 12) sc__law_form.nd rfl (.inl rfl)) (fun _ _ _ _ _ => pts_nil) (fun _ _ _ _ _ => (pe_callH h__law_of (hr.mono (by first | decide | omega)) (by rfl) (pa_cons (pv 0) (pa_cons (pv 12) (pa_cons (pv 2) (pa_cons (pe_op op_sub (pv 3) pe_int) pa_nil)))))))))) pe_str)))))))))))), ?_⟩
    have e39 : (2 : Int) ^ 39 = 549755813888 := by decide
    have e40 : (2 : Int) ^ 40 = 1099511627776 := by decide
    have e60 : (2 : Int) ^ 60 = 1152921504606846976 := by decide
    have cb : 4 ≤ cO d := by cases d <;> simp [cO] <;> omega
    obtain ⟨aS, aN, aD, a1, a2, a3, ⟨n1, n2, n3, n4, n5, n6, n7⟩, h1, h2, h3, h4, h5, h6, h7⟩ := id env
    refine ⟨_, rfl, e, _, rfl, .inl (.inl h1), rfl, ?_⟩
    refine ⟨_, _, rfl, _, _, rfl, _, _, rfl, rfl, ?_⟩
    refine ⟨_, rfl, p, 8, c, rfl, P0, by omega, by decide, by decide, fun way H1 hw0 hw1 P1 b1 => ?_⟩
    refine ⟨_, rfl, _, rfl, p, 3, _, rfl, P1, by omega, by decide, by decide, fun r H2 hr0 hr1 P2 b2 => ?_⟩
    have l3 := ok.l3
    obtain ⟨x, hx1, hx2⟩ := item_at (ss := ss) hr0 (by omega)
    have b12 := But.trans b1 b2
    refine ⟨aS, _, _, _, rfl, rfl, .inl (.inl (b12 _ _ h2 n2)), hx2, _, _, rfl, ?_⟩
    have b02 := But.trans b1 b2
    refine ⟨_, rfl, _, rfl, _, rfl, sizeLine_ge (by show 1 ≤ 10000; decide), fun q1 hq1 => ?_⟩
    have b3 := But.trans b02 (But.of_same (same_new (o := .lst [V.str (tx x)]) hq1))
    have P3 := P2.same (same_new (o := .lst [V.str (tx x)]) hq1)
    have hln := ok.ln
    refine ⟨aN, q1, _, _, rfl, rfl, (b3 _ _ h3 n3), upd_same, by rw [List.length_map]; exact sizeLine_ge (by show ns.length + 1 ≤ 10000; omega), fun q2 hq2 => ⟨_, rfl, sizeLine_ge (by show 3 ≤ 10000; decide), fun e2 he2 => ?_⟩⟩
    have b4 := But.trans b3 (But.of_same (same_new (o := .lst ((ns.map fun n => V.str (tx n)) ++ [V.str (tx x)])) hq2))
    have P4 := P3.same (same_new (o := .lst ((ns.map fun n => V.str (tx n)) ++ [V.str (tx x)])) hq2)
    have b5 := But.trans b4 (But.of_same (same_new (o := .tup [.ref aS, .ref q2, .ref aD]) he2))
    have P5 := P4.same (same_new (o := .tup [.ref aS, .ref q2, .ref aD]) he2)
    have env2 : EnvL p e2 (upd (upd (upd H2 q1 (.lst [V.str (tx x)])) q2 (.lst ((ns.map fun n => V.str (tx n)) ++ [V.str (tx x)]))) e2 (.tup [.ref aS, .ref q2, .ref aD])) ss (ns ++ [x]) g1 g2 g3 := by
      refine ⟨aS, q2, aD, a1, a2, a3, ⟨Ne.symm (P4.ne he2), n2, Ne.symm (P3.ne hq2), n4, n5, n6, n7⟩, upd_same, b5 _ _ h2 n2, ?_, b5 _ _ h4 n4, b5 _ _ h5 n5, b5 _ _ h6 n6, b5 _ _ h7 n7⟩
      rw [upd_ne (ne_of_none upd_same he2), upd_same, List.map_append]
      rfl
    generalize upd (upd (upd H2 q1 (.lst [V.str (tx x)])) q2 (.lst ((ns.map fun n => V.str (tx n)) ++ [V.str (tx x)]))) e2 (.tup [.ref aS, .ref q2, .ref aD]) = H5 at b5 P5 env2 ⊢
    clear b3 P3 b4 P4 hq1 hq2 he2 b12 b02
    have env5 := env.but b5
    have ok2 := ok.more hx1
    have sx := ok.os x hx1
    have bnx : ∀ {w : Wd}, w.bd = true → BndOk w x := fun hw => by
      unfold BndOk
      rw [if_pos hw]
      exact sx.1
    have frx : ∀ {w : Wd}, w.bd = true → ∀ y ∈ ns ++ [x], (w.bd = true → y ≠ x) → y ∈ ns := fun hw y hy hn => by
      rcases List.mem_append.mp hy with hy | hy
      · exact hy
      · exact absurd (List.mem_singleton.mp hy) (hn hw)
    have one : ∀ y : Int, V.int (((d + 1 : Nat) : Int) - 1) = V.int d := fun _ => congrArg V.int (by omega)
    refine ⟨_, rfl, rfl, _, rfl, ite2 (fun h => ?_) (fun h => ?_)⟩
    · refine ⟨_, rfl, _, rfl, sizeLine_ge (by show 3 ≤ 10000; decide), fun q3 hq3 => ?_⟩
      have b6 := But.trans b5 (But.of_same (same_new (o := .lst [V.str (Str.ofString "number"), V.str kind, V.str kind]) hq3))
      have P6 := P5.same (same_new (o := .lst [V.str (Str.ofString "number"), V.str kind, V.str kind]) hq3)
      have nq3 : q3 ≠ p := Ne.symm (P5.ne hq3)
      have e3 : upd H5 q3 (.lst [V.str (Str.ofString "number"), V.str kind, V.str kind]) q3 = some (.lst [V.str (Str.ofString "number"), V.str kind, V.str kind]) := upd_same
      generalize upd H5 q3 (.lst [V.str (Str.ofString "number"), V.str kind, V.str kind]) = H6 at b6 P6 e3 ⊢
      refine ⟨q3, rfl, ⟨_, .inl (.inl e3)⟩, fun D hD => lc_do (walk_list (xs := [V.str (Str.ofString "number"), V.str kind, V.str kind])) (fun j H' => Drawn p D H6 H' (c + 2) d N ns j) (fun _ => rfl) (Drawn.start (P6.mono (by omega)) hD) (fun _ H' _ h => .inl (.inl (h.2.1 _ _ e3 nq3))) ?_ ?_⟩
      · rintro j y H7 H8 hj hdr ⟨rfl, hy⟩
        obtain ⟨kd, rfl, k3'⟩ := kind_of (ks := [Str.ofString "number", kind, kind]) (fun k hk => by
          simp only [List.mem_cons, List.not_mem_nil, or_false] at hk
          rcases hk with rfl | rfl | rfl
          · exact .inl rfl
          · exact k3
          · exact k3) hy
        have hj3 : (j + 1) * cO d ≤ 3 * cO d := Nat.mul_le_mul_right _ hj
        have hj4 : (j + 1) * cO d = j * cO d + cO d := Nat.succ_mul _ _
        refine ⟨_, rfl, _, rfl, _, rfl, _, rfl, _, _, rfl, rfl, p, e, kd, _, ss, ns, g1, g2, g3, N, ?_, k3', hdr.1, by omega, env.but (But.trans b6 hdr.2.1), ok.less, fun t H9 b P dr => ?_⟩
        · show [V.ref p, V.str kd, V.ref e, V.int (((d + 1 : Nat) : Int) - 1)] = _
          rw [one 0]
        · obtain ⟨l, l1, l2, l3⟩ := hdr.step hD (Ne.symm (P6.ne hD)) b P dr
          exact ⟨l, l2, sizeLine_ge (by have : j < 3 := hj; omega), l3⟩
      · rintro H7 ⟨P7, b7, ts, hl, hts, hD7⟩
        match ts, hl, hts, hD7 with
        | [t1, t2, t3], hl, hts, hD7 =>
          have d1 := hts t1 (by simp)
          have d2 := hts t2 (by simp)
          have d3 := hts t3 (by simp)
          have z1 := d1.small hd3
          have z2 := d2.small hd3
          have z3 := d3.small hd3
          have jl : (Txt.join (Str.ofString " ") [tx t1.pr, tx t2.pr, tx t3.pr]).length ≤ 6000 := by
            rw [s_sp, show ([tx t1.pr, tx t2.pr, tx t3.pr] : List Str) = tx t1.pr :: [t2.pr, t3.pr].map tx from rfl, join_tx, tx_len]
            simp only [List.map_cons, List.map_nil, List.flatten_cons, List.flatten_nil, List.length_append, List.length_cons, List.length_nil]
            omega
          have c1 : (Str.ofString "(if ").length = 4 := by decide +kernel
          have c2 : (Str.ofString ")").length = 1 := by decide +kernel
          have c3 : (Str.ofString " ").length = 1 := by decide +kernel
          refine ⟨⟨_, rfl⟩, _, rfl, _, D, [tx t1.pr, tx t2.pr, tx t3.pr], rfl, rfl, .inl (.inl (.inl hD7)), ?_, _, _, rfl, rfl, sizeLine_ge (by omega), _, _, rfl, rfl, ?_, ?_⟩
          · simp only [List.map_cons, List.map_nil, List.sum_cons, List.sum_nil, tx_len, List.length_cons, List.length_nil]
            omega
          · rw [str_app_len]
            exact sizeLine_ge (by omega)
          · rw [t_if]
            exact q _ _ (But.trans b6 b7) (P7.mono (by show c + 2 + ((3 * cO d : Nat) : Int) ≤ _; omega)) (Dr.n3 d1 d2 d3 rfl rfl)
    · clear h
      have c1 : (Str.ofString "(let ").length = 5 := by decide +kernel
      have c4 : (Str.ofString "(def ").length = 5 := by decide +kernel
      have c2 : (Str.ofString ")").length = 1 := by decide +kernel
      have c3 : (Str.ofString " ").length = 1 := by decide +kernel
      have c5 : (tx x).length ≤ 4 := by rw [tx_len]; exact sx.1.2.1
      refine ⟨_, rfl, rfl, _, rfl, ite2 (fun h => ?_) (fun h => ?_)⟩
      · refine ⟨_, rfl, _, rfl, _, rfl, _, _, rfl, rfl, p, e, _, _, ss, ns, g1, g2, g3, N, congrArg (fun v => [V.ref p, V.str (Str.ofString "number"), V.ref e, v]) (one 0), .inl rfl, P5, by omega, env5, ok.less, fun t1 H7 b7 P7 d1 => ?_⟩
        refine ⟨_, rfl, _, rfl, _, rfl, _, rfl, _, _, rfl, rfl, p, e2, kind, _, ss, ns ++ [x], g1, g2, g3, N, congrArg (fun v => [V.ref p, V.str kind, V.ref e2, v]) (one 0), k3, P7, by omega, env2.but b7, ok2, fun t2 H8 b8 P8 d2 => ?_⟩
        refine ⟨sizeLine_ge (by show 2 ≤ 10000; decide), fun D hD => ?_⟩
        have z1 := d1.small hd3
        have z2 := d2.small hd3
        have hD7 : upd H8 D (.lst [V.str (tx t1.pr), V.str (tx t2.pr)]) D = some (.lst ([tx t1.pr, tx t2.pr].map V.str)) := upd_same
        have jl : (Txt.join (Str.ofString " ") [tx t1.pr, tx t2.pr]).length ≤ 6000 := by
          rw [s_sp, show ([tx t1.pr, tx t2.pr] : List Str) = tx t1.pr :: [t2.pr].map tx from rfl, join_tx, tx_len]
          simp only [List.map_cons, List.map_nil, List.flatten_cons, List.flatten_nil, List.length_append, List.length_cons, List.length_nil]
          omega
        refine ⟨_, rfl, _, _, rfl, rfl, sizeLine_ge (by omega), _, _, rfl, rfl, ?_, ⟨_, rfl⟩, _, rfl, _, D, [tx t1.pr, tx t2.pr], rfl, rfl, .inl (.inl (.inl hD7)), ?_, _, _, rfl, rfl, ?_, _, _, rfl, rfl, ?_, ?_⟩
        · rw [str_app_len]
          exact sizeLine_ge (by omega)
        · simp only [List.map_cons, List.map_nil, List.sum_cons, List.sum_nil, tx_len, List.length_cons, List.length_nil]
          omega
        · rw [str_app_len, str_app_len]
          exact sizeLine_ge (by omega)
        · rw [str_app_len, str_app_len, str_app_len]
          exact sizeLine_ge (by omega)
        · rw [t_let]
          have b78 := But.trans b5 (But.trans b7 b8)
          exact q _ _ (But.trans b78 (But.of_same (same_new hD))) ((P8.same (same_new hD)).mono (by omega)) (Dr.n2 d1 d2 rfl (bnx rfl) (frx rfl))
      · clear h
        refine ⟨_, rfl, rfl, _, rfl, ite2 (fun h => ?_) (fun h => ?_)⟩
        · refine ⟨_, rfl, _, _, rfl, rfl, sizeLine_ge (by omega), _, _, rfl, rfl, ?_, _, rfl, _, rfl, _, rfl, _, _, rfl, rfl, p, e2, _, _, ss, ns ++ [x], g1, g2, g3, N, congrArg (fun v => [V.ref p, V.str (Str.ofString "number"), V.ref e2, v]) (one 0), .inl rfl, P5, by omega, env2, ok2, fun t1 H7 b7 P7 d1 => ?_⟩
          · rw [str_app_len]
            exact sizeLine_ge (by omega)
          · have z1 := d1.small hd3
            have z2 : (tx t1.pr).length ≤ 1701 := by rw [tx_len]; exact z1
            refine ⟨_, _, rfl, rfl, ?_, _, _, rfl, rfl, ?_, ?_⟩
            · rw [str_app_len, str_app_len]
              exact sizeLine_ge (by omega)
            · rw [str_app_len, str_app_len, str_app_len]
              exact sizeLine_ge (by omega)
            · rw [t_def]
              exact q _ _ (But.trans b5 b7) (P7.mono (by omega)) (Dr.n1 d1 rfl (bnx rfl) (frx rfl))
        · clear h
          have L7 : List V := [V.str (Str.ofString "first"), V.str (Str.ofString "second"), V.str (Str.ofString "call"), V.str (Str.ofString "sum"), V.str (Str.ofString "less"), V.str (Str.ofString "times"), V.str (Str.ofString "below")]
          refine ⟨sizeLine_ge (by show 7 ≤ 10000; decide), fun q3 hq3 => ⟨_, rfl, p, 7, _, rfl, P5.same (same_new hq3), by omega, by decide, by decide, fun r7 H7 h70 h71 P7 b7 => ?_⟩⟩
          obtain ⟨wd, hw1, hw2⟩ := word7 h70 h71
          have e3 := b7 _ _ upd_same (Ne.symm (P5.ne hq3))
          have b57 := But.trans b5 (But.trans (But.of_same (same_new hq3)) b7)
          refine ⟨q3, _, _, _, rfl, rfl, .inl (.inl e3), hw2, ?_⟩
          clear e3 hq3 b7
          refine fun pd hpd => ⟨sizeLine_ge (by show 1 ≤ 10000; decide), fun u1 hu1 => ⟨sizeLine_ge (by show 1 ≤ 10000; decide), fun u2 hu2 => ⟨sizeLine_ge (by show 2 ≤ 10000; decide), fun u3 hu3 => ⟨(same_new hu3) _ _ ((same_new hu2) _ _ ((same_new hu1) _ _ upd_same)), [((.inr (Str.ofString "first") : Key), .ref u1), (.inr (Str.ofString "second"), .ref u2), (.inr (Str.ofString "call"), .ref u3)], rfl, by show 3 ≤ 15; decide, pd, rfl, .inl ⟨_, .inl upd_same⟩, _, rfl, sizeLine_ge (by show 2 ≤ 10000; decide), fun u4 hu4 => ⟨_, .inl ⟨_, .inr (tx wd.cs), .inl ((same_new hu4) _ _ upd_same), rfl, rfl⟩, ?_⟩⟩⟩⟩⟩
          rw [get_ks hw1]
          have npd := P7.ne hpd
          have Q0 := P7.same (same_new (o := .dK []) hpd)
          have Q1 := Q0.same (same_new (o := .lst [V.str (Str.ofString "pair")]) hu1)
          have Q2 := Q1.same (same_new (o := .lst [V.str (Str.ofString "pair")]) hu2)
          have Q3 := Q2.same (same_new (o := .lst [V.str (Str.ofString "def"), V.str (Str.ofString "number")]) hu3)
          have Q4 := Q3.put (o := .dK (mergeK [] [((.inr (Str.ofString "first") : Key), .ref u1), (.inr (Str.ofString "second"), .ref u2), (.inr (Str.ofString "call"), .ref u3)])) npd
          have Q5 := Q4.same (same_new (o := .lst [V.str (Str.ofString "number"), V.str (Str.ofString "number")]) hu4)
          have B3 := But.trans b57 (But.trans (But.of_same (same_new (o := .dK []) hpd)) (But.trans (But.of_same (same_new (o := .lst [V.str (Str.ofString "pair")]) hu1)) (But.trans (But.of_same (same_new (o := .lst [V.str (Str.ofString "pair")]) hu2)) (But.of_same (same_new (o := .lst [V.str (Str.ofString "def"), V.str (Str.ofString "number")]) hu3)))))
          have B4 := But.updN (o := .dK (mergeK [] [((.inr (Str.ofString "first") : Key), .ref u1), (.inr (Str.ofString "second"), .ref u2), (.inr (Str.ofString "call"), .ref u3)])) B3 (But.gone b57 hpd (Ne.symm npd))
          have B5 := But.trans B4 (But.of_same (same_new (o := .lst [V.str (Str.ofString "number"), V.str (Str.ofString "number")]) hu4))
          have np1 : u1 ≠ pd := Ne.symm (ne_of_none upd_same hu1)
          have np2 : u2 ≠ pd := Ne.symm (ne_of_none ((same_new hu1) _ _ upd_same) hu2)
          have np3 : u3 ≠ pd := Ne.symm (ne_of_none ((same_new hu2) _ _ ((same_new hu1) _ _ upd_same)) hu3)
          obtain ⟨ak, ek, ek2, nk⟩ := pick_ks (G := upd (upd (upd (upd (upd (upd H7 pd (.dK [])) u1 (.lst [V.str (Str.ofString "pair")])) u2 (.lst [V.str (Str.ofString "pair")])) u3 (.lst [V.str (Str.ofString "def"), V.str (Str.ofString "number")])) pd (.dK (mergeK [] [((.inr (Str.ofString "first") : Key), .ref u1), (.inr (Str.ofString "second"), .ref u2), (.inr (Str.ofString "call"), .ref u3)]))) u4 (.lst [V.str (Str.ofString "number"), V.str (Str.ofString "number")])) (p := p) hw1
            ((same_new hu4) _ _ (by rw [upd_ne np1]; exact (same_new hu3) _ _ ((same_new hu2) _ _ upd_same))) ((same_new hu4) _ _ (by rw [upd_ne np2]; exact (same_new hu3) _ _ upd_same)) ((same_new hu4) _ _ (by rw [upd_ne np3]; exact upd_same)) upd_same
            (Ne.symm (Q0.ne hu1)) (Ne.symm (Q1.ne hu2)) (Ne.symm (Q2.ne hu3)) (Ne.symm (Q4.ne hu4))
          rw [ek]
          generalize upd (upd (upd (upd (upd (upd H7 pd (.dK [])) u1 (.lst [V.str (Str.ofString "pair")])) u2 (.lst [V.str (Str.ofString "pair")])) u3 (.lst [V.str (Str.ofString "def"), V.str (Str.ofString "number")])) pd (.dK (mergeK [] [((.inr (Str.ofString "first") : Key), .ref u1), (.inr (Str.ofString "second"), .ref u2), (.inr (Str.ofString "call"), .ref u3)]))) u4 (.lst [V.str (Str.ofString "number"), V.str (Str.ofString "number")]) = H8 at B5 Q5 ek2 ⊢
          clear B3 B4 Q0 Q1 Q2 Q3 Q4 np1 np2 np3 ek hu1 hu2 hu3 hu4 hpd
          obtain ⟨wb, wl, wk⟩ := ks_ok hw1
          refine ⟨fun σ H' => ∃ (wd : Wd) (ak : Addr) (ks : List Str), σ = [some (.ref p), some (.str kind), some (.ref e), some (.int (d + 1 : Nat)), some (.ref aS), some (.ref aN), some (.ref ak), some (.int way), some (.str (tx x)), some (.ref e2), none, some (.str (tx wd.cs)), none] ∧ H' ak = some (.lst (ks.map V.str)) ∧ ak ≠ p ∧ wd.bd = false ∧ (ks.length = wd.ar ∧ wd.ar ≤ 2) ∧ (∀ k ∈ ks, K3 k) ∧ But p H H' ∧ Purse H' p (c + 3), ?_, ?_⟩
          · refine ⟨_, rfl, rfl, _, rfl, ite2 (fun h => ?_) (fun h => ⟨wd, ak, ksOf wd, rfl, ek2, nk, wb, wl, wk, B5, Q5.mono (by omega)⟩)⟩
            refine ⟨sizeLine_ge (by show 2 ≤ 10000; decide), fun v1 hv1 => ⟨sizeLine_ge (by show 2 ≤ 10000; decide), fun v2 hv2 => ⟨sizeLine_ge (by show 2 ≤ 10000; decide), fun v3 hv3 => ⟨sizeLine_ge (by show 3 ≤ 10000; decide), fun v4 hv4 => ⟨_, rfl, _, _, rfl, rfl, (show (0 : Int) < 3 by decide), ?_⟩⟩⟩⟩⟩
            have R0 := Q5
            have R1 := R0.same (same_new (o := .lst [V.str (Str.ofString "number"), V.str (Str.ofString "number")]) hv1)
            have R2 := R1.same (same_new (o := .lst [V.str (Str.ofString "pair"), V.str (Str.ofString "number")]) hv2)
            have R3 := R2.same (same_new (o := .lst [V.str (Str.ofString "number"), V.str (Str.ofString "pair")]) hv3)
            have R4 := R3.same (same_new (o := .lst [V.ref v1, V.ref v2, V.ref v3]) hv4)
            have S4 := But.trans B5 (But.trans (But.of_same (same_new (o := .lst [V.str (Str.ofString "number"), V.str (Str.ofString "number")]) hv1)) (But.trans (But.of_same (same_new (o := .lst [V.str (Str.ofString "pair"), V.str (Str.ofString "number")]) hv2)) (But.trans (But.of_same (same_new (o := .lst [V.str (Str.ofString "number"), V.str (Str.ofString "pair")]) hv3)) (But.of_same (same_new (o := .lst [V.ref v1, V.ref v2, V.ref v3]) hv4)))))
            obtain ⟨ak', ks', hat, ek', nk', kl', kk'⟩ := pick3 (Int.emod_nonneg way (show (3 : Int) ≠ 0 by decide)) (Int.emod_lt_of_pos way (show (0 : Int) < 3 by decide)) ((same_new (o := .lst [V.ref v1, V.ref v2, V.ref v3]) hv4) _ _ ((same_new (o := .lst [V.str (Str.ofString "number"), V.str (Str.ofString "pair")]) hv3) _ _ ((same_new (o := .lst [V.str (Str.ofString "pair"), V.str (Str.ofString "number")]) hv2) _ _ upd_same))) ((same_new (o := .lst [V.ref v1, V.ref v2, V.ref v3]) hv4) _ _ ((same_new (o := .lst [V.str (Str.ofString "number"), V.str (Str.ofString "pair")]) hv3) _ _ upd_same)) ((same_new (o := .lst [V.ref v1, V.ref v2, V.ref v3]) hv4) _ _ upd_same)
              (Ne.symm (R0.ne hv1)) (Ne.symm (R1.ne hv2)) (Ne.symm (R2.ne hv3))
            exact ⟨v4, _, _, _, rfl, rfl, .inl (.inl upd_same), hat, _, _, rfl, .pair, ak', ks', rfl, ek', nk', rfl, ⟨kl', by decide⟩, kk', S4, R4.mono (by omega)⟩
          · rintro σ H9 ⟨wd, ak, ks, rfl, ek, nk, wb, ⟨wl, w2⟩, wk, B9, P9⟩
            refine ⟨⟨_, rfl⟩, _, rfl, sizeLine_ge (by show 1 ≤ 10000; decide), fun q4 hq4 => ?_⟩
            have P10 := P9.same (same_new (o := .lst [V.str (tx wd.cs)]) hq4)
            have B10 := But.trans B9 (But.of_same (same_new (o := .lst [V.str (tx wd.cs)]) hq4))
            have e4 : upd H9 q4 (.lst [V.str (tx wd.cs)]) q4 = some (.lst [V.str (tx wd.cs)]) := upd_same
            have ek4 := (same_new (o := .lst [V.str (tx wd.cs)]) hq4) _ _ ek
            have n4 : q4 ≠ p := Ne.symm (P9.ne hq4)
            generalize upd H9 q4 (.lst [V.str (tx wd.cs)]) = H10 at P10 B10 e4 ek4 ⊢
            refine ⟨_, rfl, ak, rfl, ⟨_, .inl (.inl ek4)⟩, fun D hD => lc_do (walk_list (xs := ks.map V.str)) (fun j H' => Drawn p D H10 H' (c + 3) d N ns j) (fun _ => rfl) (Drawn.start (P10.mono (by omega)) hD) (fun _ H' _ h => .inl (.inl (h.2.1 _ _ ek4 nk))) ?_ ?_⟩
            · rintro j y H11 H12 hj hdr ⟨rfl, hy⟩
              obtain ⟨kd, rfl, k3'⟩ := kind_of wk hy
              rw [List.length_map, wl] at hj
              have hj3 : (j + 1) * cO d ≤ 2 * cO d := Nat.mul_le_mul_right _ (by omega)
              have hj4 : (j + 1) * cO d = j * cO d + cO d := Nat.succ_mul _ _
              refine ⟨_, rfl, _, rfl, _, rfl, _, rfl, _, _, rfl, rfl, p, e, kd, _, ss, ns, g1, g2, g3, N, congrArg (fun v => [V.ref p, V.str kd, V.ref e, v]) (one 0), k3', hdr.1, by omega, env.but (But.trans B10 hdr.2.1), ok.less, fun t H13 b P dr => ?_⟩
              obtain ⟨l, l1, l2, l3⟩ := hdr.step hD (Ne.symm (P10.ne hD)) b P dr
              exact ⟨l, l2, sizeLine_ge (by omega), l3⟩
            · rintro H11 ⟨P11, b11, ts, hl, hts, hD11⟩
              rw [List.length_map, wl] at hl P11
              have e11 := b11 _ _ e4 n4
              have cm : wd.ar * cO d ≤ 2 * cO d := Nat.mul_le_mul_right _ w2
              have lc : wd.cs.length ≤ 6 := cs_len wd
              have c1 : (Str.ofString "(").length = 1 := by decide +kernel
              have w1 : 1 ≤ wd.ar := by cases wd <;> decide
              refine ⟨q4, D, _, _, rfl, rfl, e11, hD11, ?_, fun q5 hq5 => ?_⟩
              · rw [List.length_map, hl]
                exact sizeLine_ge (by show 1 + wd.ar ≤ 10000; omega)
              · have c2 : (Str.ofString ")").length = 1 := by decide +kernel
                have c3 : (Str.ofString " ").length = 1 := by decide +kernel
                have bn : BndOk wd [] := by
                  unfold BndOk
                  rw [wb]
                  rfl
                have B12 := But.trans B10 (But.trans b11 (But.of_same (same_new (o := .lst ([V.str (tx wd.cs)] ++ ts.map fun t => V.str (tx t.pr))) hq5)))
                have P12 := P11.same (same_new (o := .lst ([V.str (tx wd.cs)] ++ ts.map fun t => V.str (tx t.pr))) hq5)
                match ts, hl, hts, B12, P12 with
                | [], hl, _, _, _ =>
                  simp at hl
                  omega
                | [t1], hl, hts, B12, P12 =>
                  have d1 := hts t1 (by simp)
                  have z1 := d1.small hd3
                  have jl : (Txt.join (Str.ofString " ") [tx wd.cs, tx t1.pr]).length ≤ 6000 := by
                    rw [s_sp, show ([tx wd.cs, tx t1.pr] : List Str) = tx wd.cs :: [t1.pr].map tx from rfl, join_tx, tx_len]
                    simp only [List.map_cons, List.map_nil, List.flatten_cons, List.flatten_nil, List.length_append, List.length_cons, List.length_nil]
                    omega
                  refine ⟨_, q5, [tx wd.cs, tx t1.pr], rfl, rfl, .inl (.inl (.inl upd_same)), ?_, _, _, rfl, rfl, sizeLine_ge (by omega), _, _, rfl, rfl, ?_, ?_⟩
                  · simp only [List.map_cons, List.map_nil, List.sum_cons, List.sum_nil, tx_len, List.length_cons, List.length_nil]
                    omega
                  · rw [str_app_len]
                    exact sizeLine_ge (by omega)
                  · rw [t_w1 wd wb]
                    exact q _ _ B12 (P12.mono (by omega)) (Dr.n1 d1 hl.symm bn fun y hy _ => hy)
                | [t1, t2], hl, hts, B12, P12 =>
                  have d1 := hts t1 (by simp)
                  have d2 := hts t2 (by simp)
                  have z1 := d1.small hd3
                  have z2 := d2.small hd3
                  have jl : (Txt.join (Str.ofString " ") [tx wd.cs, tx t1.pr, tx t2.pr]).length ≤ 6000 := by
                    rw [s_sp, show ([tx wd.cs, tx t1.pr, tx t2.pr] : List Str) = tx wd.cs :: [t1.pr, t2.pr].map tx from rfl, join_tx, tx_len]
                    simp only [List.map_cons, List.map_nil, List.flatten_cons, List.flatten_nil, List.length_append, List.length_cons, List.length_nil]
                    omega
                  refine ⟨_, q5, [tx wd.cs, tx t1.pr, tx t2.pr], rfl, rfl, .inl (.inl (.inl upd_same)), ?_, _, _, rfl, rfl, sizeLine_ge (by omega), _, _, rfl, rfl, ?_, ?_⟩
                  · simp only [List.map_cons, List.map_nil, List.sum_cons, List.sum_nil, tx_len, List.length_cons, List.length_nil]
                    omega
                  · rw [str_app_len]
                    exact sizeLine_ge (by omega)
                  · rw [t_w2 wd wb]
                    exact q _ _ B12 (P12.mono (by omega)) (Dr.n2 d1 d2 hl.symm bn fun y hy _ => hy)
                | _ :: _ :: _ :: _, hl, _, _, _ =>
                  simp at hl
                  omega
end
end K


set_option Elab.async false
set_option linter.all false
set_option maxRecDepth 100000
set_option maxHeartbeats 4000000
namespace K
open PySem PySem.Spec PyProof.Rows L2 U SkE
def spOfAll : Sp := fun vs H Q E => ∃ d, d ≤ 3 ∧ spOf d vs H Q E
section
variable {P : Program} {w : World} {K : PySem.W.Frag} {mg : Str → Option Value} {base : Heap} {dW dB : Addr} {esW : Array DictEntry} {nW : Nat} (T : Txt K mg w dW dB esW nW)
include T
theorem ok__law_of {f f1 f2 : Addr} {fd fd1 fd2 : FuncData} (F : Fun K "_law_of" "_law_of" s__law_of f fd) (F2 : Fun K "_law_form" "_law_form" s__law_form f2 fd2) (h__law_take : Has P w K mg base "_law_take" 1 ["_law_purse_here", "_law_many"] spTake f1 fd1)
    (at_ : mg "_law_of" = some (.ref f)) (kp : PySem.W.keepIn K (.ref f) = true) (bi : Binds K fd ["_law_purse_here", "_law_kind", "_law_env", "_law_deep"] [])
    (at2 : mg "_law_form" = some (.ref f2)) (kp2 : PySem.W.keepIn K (.ref f2) = true) (bi2 : Binds K fd2 ["_law_purse_here", "_law_kind", "_law_env", "_law_deep"] []) :
    FnOk P w K mg base CX0 9 f fd ["_law_purse_here", "_law_kind", "_law_env", "_law_deep"] spOfAll := by
  have all : ∀ d, d ≤ 3 → FnOk P w K mg base CX0 (2 * d + 3) f fd ["_law_purse_here", "_law_kind", "_law_env", "_law_deep"] (spOf d) := by
    intro d
    induction d with
    | zero =>
      intro hd
      exact ok__law_of_step T 0 (by omega) F h__law_take ⟨at2, kp2, bi2, ⟨fun vs H Q E h => h.elim, fun A outer s H args us vs Q E hr e b v h => h.elim⟩⟩
    | succ d ih =>
      intro hd
      exact ok__law_of_step T (d + 1) (by omega) F h__law_take ⟨at2, kp2, bi2, (ok__law_form_step T d (by omega) F2 h__law_take ⟨at_, kp, bi, ih (by omega)⟩).mono (by omega)⟩
  exact ⟨fun vs H Q E ⟨d, hd, h⟩ => (all d hd).len vs H Q E h, fun A outer s H args us vs Q E hr e b v ⟨d, hd, h⟩ => ((all d hd).mono (by omega)).run A outer s H args us vs Q E hr e b v h⟩
omit T in
theorem cO3 {d : Nat} (h : d ≤ 3) : cO d ≤ 212 := by
  have : d = 0 ∨ d = 1 ∨ d = 2 ∨ d = 3 := by omega
  rcases this with rfl | rfl | rfl | rfl <;> decide
/-- rows of a program: parts' names and terms -/
def RowsL (p aR : Addr) (H : Hp) (rows : List (List Nat × U.Tm)) : Prop := ∃ as : List Addr, aR ≠ p ∧ H aR = some (.lst (as.map V.ref)) ∧ Paired (fun a (r : List Nat × U.Tm) => a ≠ p ∧ H a = some (.tup [.str (tx r.1), .str (tx r.2.pr)])) as rows
omit T in
theorem RowsL.but {p aR : Addr} {H H' : Hp} {rows : List (List Nat × U.Tm)} (h : RowsL p aR H rows) (b : But p H H') : RowsL p aR H' rows := by
  obtain ⟨as, n, h1, h2⟩ := h
  exact ⟨as, n, b _ _ h1 n, Paired.mapP h2 fun a r h => ⟨h.1, b _ _ h.2 h.1⟩⟩
omit T in
theorem RowsL.nil {p aR : Addr} {H : Hp} (n : aR ≠ p) : RowsL p aR (upd H aR (.lst [])) [] := ⟨[], n, upd_same, .nil⟩
omit T in
theorem RowsL.add {p aR t : Addr} {H : Hp} {rows : List (List Nat × U.Tm)} {n : List Nat} {k : U.Tm} (h : RowsL p aR H rows) (ht : H t = none) (nt : t ≠ p) :
    ∃ xs, xs.length = rows.length ∧ upd H t (.tup [.str (tx n), .str (tx k.pr)]) aR = some (.lst xs) ∧ RowsL p aR (upd (upd H t (.tup [.str (tx n), .str (tx k.pr)])) aR (.lst (xs ++ [V.ref t]))) (rows ++ [(n, k)]) := by
  obtain ⟨as, nR, h1, h2⟩ := h
  have ntR : t ≠ aR := Ne.symm (ne_of_none h1 ht)
  refine ⟨as.map V.ref, by rw [List.length_map, h2.length], (same_new ht) _ _ h1, as ++ [t], nR, by rw [upd_same, List.map_append]; rfl, ?_⟩
  refine Paired.app (Paired.mapP h2 fun a r h => ⟨h.1, ?_⟩) (.cons ⟨nt, ?_⟩ .nil)
  · rw [upd_ne fun z => ?_]
    · exact (same_new ht) _ _ h.2
    · rw [z, h1] at h
      cases h.2
  · rw [upd_ne ntR]
    exact upd_same
/-- the names that a drawn term may have -/
def NN (ss : List (List Nat)) : List Nat → Prop := nameOk (ss.map tx ++ [tx [120]])
def spProgram : Sp := fun vs H Q _ => ∃ (p : Addr) (c : Int), vs = [.ref p] ∧ Purse H p c ∧ c < 2 ^ 38 ∧
  ∀ (r : Addr) (H' : Hp) (e aG aR : Addr) (ss gs : List (List Nat)) (rows : List (List Nat × U.Tm)), But p H H' → Purse H' p (c + 4000) → (r ≠ p ∧ aG ≠ p) → H' r = some (.tup [.ref e, .ref aG, .ref aR]) → H' aG = some (.lst (gs.map fun n => V.str (tx n))) → gs.length = 8 → (∀ n ∈ gs, GreatOk n) →
    EnvL p e H' ss [] (gs.take 4) ((gs.drop 4).take 2) (gs.drop 6) → EnvOk 4 (NN ss) ss [] (gs.take 4) ((gs.drop 4).take 2) (gs.drop 6) → RowsL p aR H' rows → rows.length ≤ 8 → (∀ r ∈ rows, r.1 ∈ gs ∧ Dr (NN ss) [] 3 r.2) → Q (.ref r) H'
omit T in
theorem cut8 {gs : List (List Nat)} (h : gs.length = 8) : cutV (gs.map fun n => V.str (tx n)) none (some 4) = (gs.take 4).map (fun n => V.str (tx n)) ∧ cutV (gs.map fun n => V.str (tx n)) (some 4) (some 6) = ((gs.drop 4).take 2).map (fun n => V.str (tx n)) ∧ cutV (gs.map fun n => V.str (tx n)) (some 6) none = (gs.drop 6).map (fun n => V.str (tx n)) := by
  match gs, h with
  | [a, b, c, d, e, f, g, i], _ => exact ⟨rfl, rfl, rfl⟩
omit T in
theorem EnvOk.down {d e : Nat} {N : List Nat → Prop} {ss ns g1 g2 g3 : List (List Nat)} (o : EnvOk e N ss ns g1 g2 g3) (h : d ≤ e) : EnvOk d N ss ns g1 g2 g3 :=
  ⟨o.l3, o.os, o.on, by have := o.ln; omega, o.o1, o.o2, o.o3, o.ox⟩
omit T in
theorem kind2 {i : Nat} (h0 : 4 ≤ i) (h1 : i < 8) : ∃ k, K3 k ∧ atI [V.str (Str.ofString "pair"), V.str (Str.ofString "def")] ((i : Int) / 6) = some (.str k) := by
  have h : i = 4 ∨ i = 5 ∨ i = 6 ∨ i = 7 := by omega
  rcases h with rfl | rfl | rfl | rfl
  · exact ⟨_, .inr (.inl rfl), rfl⟩
  · exact ⟨_, .inr (.inl rfl), rfl⟩
  · exact ⟨_, .inr (.inr rfl), rfl⟩
  · exact ⟨_, .inr (.inr rfl), rfl⟩
omit T in
theorem gs_ok {gs : List (List Nat)} (g8 : gs.length = 8) (oG : ∀ n ∈ gs, GreatOk n) : GOk (gs.take 4) ∧ GOk ((gs.drop 4).take 2) ∧ GOk (gs.drop 6) := by
  refine ⟨⟨?_, ?_, fun n hn => oG n (List.mem_of_mem_take hn)⟩, ⟨?_, ?_, fun n hn => oG n (List.mem_of_mem_drop (List.mem_of_mem_take hn))⟩, ⟨?_, ?_, fun n hn => oG n (List.mem_of_mem_drop hn)⟩⟩ <;> simp [g8]
theorem ok__law_program {f f1 f2 f3 : Addr} {fd fd1 fd2 fd3 : FuncData} (F : Fun K "_law_program" "_law_program" s__law_program f fd) (h__law_take : Has P w K mg base "_law_take" 1 ["_law_purse_here", "_law_many"] spTake f1 fd1)
    (h__law_names : Has P w K mg base "_law_names" 2 ["_law_purse_here", "_law_many", "_law_signs", "_law_wide"] spNames f2 fd2) (h__law_of : Has P w K mg base "_law_of" 9 ["_law_purse_here", "_law_kind", "_law_env", "_law_deep"] spOfAll f3 fd3) :
    FnOk P w K mg base CX0 10 f fd ["_law_purse_here"] spProgram := by
  refine F.ok sc__law_program (fun vs H Q E h => ?_) (fun cdv A outer s H vs Q E hr h => ?_)
  · obtain ⟨p, c, rfl, _⟩ := h
    rfl
  · obtain ⟨p, c, rfl, P0, hc, q⟩ := h
    have hu := hu_of hr
    refine ⟨_, (pss_cons (ps_set (i := 1) sc__law_program.nd rfl (.inl rfl) (pe_callH h__law_names (hr.mono (by first | decide | omega)) (by rfl) (pa_cons (pv 0) (pa_cons pe_int (pa_cons pe_str (pa_cons pe_int pa_nil))))))
      (pss_cons (ps_set (i := 2) sc__law_program.nd rfl (.inl rfl) (pe_callH h__law_names (hr.mono (by first | decide | omega)) (by rfl) (pa_cons (pv 0) (pa_cons pe_int (pa_cons pe_str (pa_cons pe_int pa_nil))))))
      (pss_cons (ps_set (i := 3) sc__law_program.nd rfl (.inl rfl) (pe_tup (pa_cons (pv 1) (pa_cons (pe_lst pa_nil) (pa_cons (pe_disp (pps_cons pe_str (pe_slice sl_list (pv 2) po_none (po_some pe_int)) (pps_cons pe_str (pe_slice sl_list (pv 2) (po_some pe_int) (po_some pe_int)) (pps_cons pe_str (pe_slice sl_list (pv 2) (po_some pe_int) po_none) pps_nil))) rfl rfl (by simp) (Nat.le_of_ble_eq_true rfl)) pa_nil)))))
      (pss_cons (ps_set (i := 4) sc__law_program.nd rfl (.inl rfl) (pe_lst pa_nil))
      (pss_cons (ps_for PassesOwn.never rfl (pi_enum (by rfl) T.z_enumerate (pa_cons (pv 2) pa_nil)) (pg_tup rfl (pgs_cons (pg_name (i := 5) sc__law_program.nd rfl (.inl rfl)) (pgs_cons (pg_name (i := 6) sc__law_program.nd rfl (.inl rfl)) pgs_nil))) 
        (Evl.pss_cut (ps_set (i := 7) sc__law_program.nd rfl (.inl rfl) (pe_ifExp (pt_cmpR op_lt (pv 5) pe_int (nomark _)) pe_str (pe_ix ix_list (pe_lst (pa_cons pe_str (pa_cons pe_str pa_nil))) (pe_op op_fdiv (pv 5) pe_int) (fun _ _ => rfl))))
        (pss_cons (ps_set (i := 8) sc__law_program.nd rfl (.inl rfl) (pe_callH h__law_of (hr.mono (by first | decide | omega)) (by rfl) (pa_cons (pv 0) (pa_cons (pv 7) (pa_cons (pv 3) (pa_cons (pe_callH h__law_take (hr.mono (by first | decide | omega)) (by rfl) (pa_cons (pv 0) (pa_cons pe_int pa_nil))) pa_nil))))))
        (pss_one (ps_if (pt_cmpR op_gt (pe_callH h__law_take (hr.mono (by first | decide | omega)) (by rfl) (pa_cons (pv 0) (pa_cons pe_int pa_nil))) pe_int (nomark _)) 
          (pss_one (ps_expr (pe_bm PySem.F.plainAttrs_list PySem.F.slot_list_append PySem.F.type_list_append mt_append (pv 4) (pa_cons (pe_tup (pa_cons (pv 6) (pa_cons (pv 8) pa_nil))) pa_nil)))) pss_nil)))))
      (pss_one (ps_ret (pe_tup (pa_cons (pv 3) (pa_cons (pv 2) (pa_cons (pv 4) pa_nil))))))))))), ?_⟩
    have e38 : (2 : Int) ^ 38 = 274877906944 := by decide
    have e39 : (2 : Int) ^ 39 = 549755813888 := by decide
    have e40 : (2 : Int) ^ 40 = 1099511627776 := by decide
    refine ⟨_, rfl, p, c, smalls, 4, 3, by rw [smalls_tx]; rfl, P0, by omega, by decide, by decide, by decide, by decide, fun aS H1 ss b1 P1 nS eS l3 oS => ?_⟩
    refine ⟨_, rfl, p, _, greats, 6, 8, by rw [greats_tx]; rfl, P1, by omega, by decide, by decide, by decide, by decide, fun aG H2 gs b2 P2 nG eG g8 oG => ?_⟩
    have nSp : aS ≠ p := Ne.symm (P0.ne nS)
    have nGp : aG ≠ p := Ne.symm (P1.ne nG)
    have b02 := But.trans b1 b2
    have eS2 := b2 _ _ eS nSp
    obtain ⟨k1, k2, k3⟩ := cut8 g8
    refine ⟨_, rfl, sizeLine_ge (by show 0 ≤ 10000; decide), fun aN hN => ?_⟩
    have s1 : Same H2 (upd H2 aN (.lst [])) := same_new hN
    refine fun aD hD => ⟨_, rfl, _, rfl, aG, _, rfl, .inl (.inl (same_new hD _ _ (s1 _ _ eG))), fun u1 hu1 => ?_⟩
    refine ⟨_, rfl, _, rfl, _, rfl, aG, _, rfl, .inl (.inl (same_new hu1 _ _ (same_new hD _ _ (s1 _ _ eG)))), fun u2 hu2 => ?_⟩
    refine ⟨_, rfl, _, rfl, aG, _, rfl, .inl (.inl (same_new hu2 _ _ (same_new hu1 _ _ (same_new hD _ _ (s1 _ _ eG))))), fun u3 hu3 => ?_⟩
    rw [k1, k2, k3]
    rw [k1] at hu2 hu3
    rw [k2] at hu3
    refine ⟨same_new hu3 _ _ (same_new hu2 _ _ (same_new hu1 _ _ upd_same)), [((.inr (Str.ofString "number") : Key), .ref u1), (.inr (Str.ofString "pair"), .ref u2), (.inr (Str.ofString "def"), .ref u3)], rfl, by show 3 ≤ 15; decide, ?_⟩
    refine ⟨sizeLine_ge (by show 3 ≤ 10000; decide), fun e he => ?_⟩
    have P20 := P2.same s1
    have P21 := P20.same (same_new (o := .dK []) hD)
    have P22 := P21.same (same_new (o := .lst ((gs.take 4).map fun n => V.str (tx n))) hu1)
    have P23 := P22.same (same_new (o := .lst (((gs.drop 4).take 2).map fun n => V.str (tx n))) hu2)
    have P24 := P23.same (same_new (o := .lst ((gs.drop 6).map fun n => V.str (tx n))) hu3)
    have nND : aD ≠ p := Ne.symm (P20.ne hD)
    have P25 := P24.put (o := .dK (mergeK [] [((.inr (Str.ofString "number") : Key), .ref u1), (.inr (Str.ofString "pair"), .ref u2), (.inr (Str.ofString "def"), .ref u3)])) (Ne.symm nND)
    have P26 := P25.same (same_new (o := .tup [.ref aS, .ref aN, .ref aD]) he)
    have B24 := But.trans (But.of_same (p := p) s1) (But.trans (But.of_same (same_new (o := .dK []) hD)) (But.trans (But.of_same (same_new (o := .lst ((gs.take 4).map fun n => V.str (tx n))) hu1)) (But.trans (But.of_same (same_new (o := .lst (((gs.drop 4).take 2).map fun n => V.str (tx n))) hu2)) (But.of_same (same_new (o := .lst ((gs.drop 6).map fun n => V.str (tx n))) hu3)))))
    have B25 := But.updN (o := .dK (mergeK [] [((.inr (Str.ofString "number") : Key), .ref u1), (.inr (Str.ofString "pair"), .ref u2), (.inr (Str.ofString "def"), .ref u3)])) B24 (But.gone (But.of_same s1) hD nND)
    have B26 := But.trans B25 (But.of_same (same_new (o := .tup [.ref aS, .ref aN, .ref aD]) he))
    have npN : aN ≠ p := Ne.symm (P2.ne hN)
    have np1 : u1 ≠ p := Ne.symm (P21.ne hu1)
    have np2 : u2 ≠ p := Ne.symm (P22.ne hu2)
    have np3 : u3 ≠ p := Ne.symm (P23.ne hu3)
    have npe : e ≠ p := Ne.symm (P25.ne he)
    have nD1 : u1 ≠ aD := Ne.symm (ne_of_none upd_same hu1)
    have nD2 : u2 ≠ aD := Ne.symm (ne_of_none (same_new hu1 _ _ upd_same) hu2)
    have nD3 : u3 ≠ aD := Ne.symm (ne_of_none (same_new hu2 _ _ (same_new hu1 _ _ upd_same)) hu3)
    have nDN : aN ≠ aD := ne_of_none upd_same hD
    have env : EnvL p e (upd (upd (upd (upd (upd (upd (upd H2 aN (.lst [])) aD (.dK [])) u1 (.lst ((gs.take 4).map fun n => V.str (tx n)))) u2 (.lst (((gs.drop 4).take 2).map fun n => V.str (tx n)))) u3 (.lst ((gs.drop 6).map fun n => V.str (tx n)))) aD (.dK (mergeK [] [((.inr (Str.ofString "number") : Key), .ref u1), (.inr (Str.ofString "pair"), .ref u2), (.inr (Str.ofString "def"), .ref u3)]))) e (.tup [.ref aS, .ref aN, .ref aD])) ss [] (gs.take 4) ((gs.drop 4).take 2) (gs.drop 6) := by
      refine ⟨aS, aN, aD, u1, u2, u3, ⟨npe, nSp, npN, nND, np1, np2, np3⟩, upd_same, B26 _ _ eS2 nSp, same_new he _ _ ?_, same_new he _ _ ?_, same_new he _ _ ?_, same_new he _ _ ?_, same_new he _ _ ?_⟩
      · rw [upd_ne nDN]
        exact same_new hu3 _ _ (same_new hu2 _ _ (same_new hu1 _ _ (same_new hD _ _ upd_same)))
      · rw [upd_same]
        rfl
      · rw [upd_ne nD1]
        exact same_new hu3 _ _ (same_new hu2 _ _ upd_same)
      · rw [upd_ne nD2]
        exact same_new hu3 _ _ upd_same
      · rw [upd_ne nD3]
        exact upd_same
    have eG3 := B26 _ _ eG nGp
    have B3 := But.trans b02 B26
    generalize upd (upd (upd (upd (upd (upd (upd H2 aN (.lst [])) aD (.dK [])) u1 (.lst ((gs.take 4).map fun n => V.str (tx n)))) u2 (.lst (((gs.drop 4).take 2).map fun n => V.str (tx n)))) u3 (.lst ((gs.drop 6).map fun n => V.str (tx n)))) aD (.dK (mergeK [] [((.inr (Str.ofString "number") : Key), .ref u1), (.inr (Str.ofString "pair"), .ref u2), (.inr (Str.ofString "def"), .ref u3)]))) e (.tup [.ref aS, .ref aN, .ref aD]) = H3 at env eG3 B3 P26 ⊢
    clear B24 B25 B26 P20 P21 P22 P23 P24 P25 nD1 nD2 nD3 nDN hN hD hu1 hu2 hu3 he s1
    obtain ⟨go1, go2, go3⟩ := gs_ok g8 oG
    have ok : EnvOk 4 (NN ss) ss [] (gs.take 4) ((gs.drop 4).take 2) (gs.drop 6) := by
      refine ⟨l3, fun n hn => ⟨oS n hn, List.mem_append.mpr (.inl (List.mem_map.mpr ⟨n, hn, rfl⟩))⟩, fun n hn => by simp at hn, by decide, go1, go2, go3, List.mem_append.mpr (.inr (List.mem_singleton.mpr rfl))⟩
    refine ⟨sizeLine_ge (by show 0 ≤ 10000; decide), fun aR hR => ?_⟩
    have npR : aR ≠ p := Ne.symm (P26.ne hR)
    refine ⟨_, rfl, aG, _, rfl, .inl (.inl (same_new hR _ _ eG3)), for_it (walk_enum (xs := gs.map fun n => V.str (tx n)))
      (fun i σ H' => ∃ x5 x6 x7 x8 rows, σ = [some (.ref p), some (.ref aS), some (.ref aG), some (.ref e), some (.ref aR), x5, x6, x7, x8] ∧ But p H3 H' ∧ Purse H' p (c + 20 + 214 * (i : Nat)) ∧ RowsL p aR H' rows ∧ rows.length ≤ i ∧ ∀ r ∈ rows, r.1 ∈ gs ∧ Dr (NN ss) [] 3 r.2) ?_ ?_ ?_ ?_⟩
    · exact ⟨none, none, none, none, [], rfl, But.of_same (same_new hR), (P26.put (Ne.symm npR)).mono (by omega), RowsL.nil npR, Nat.zero_le _, fun r h => by simp at h⟩
    · rintro i σ H' _ ⟨x5, x6, x7, x8, rows, rfl, B, _⟩
      exact .inl (.inl (B _ _ eG3 nGp))
    · rintro i y σ H6 H7 hi ⟨x5, x6, x7, x8, rows, rfl, B6, P6, R6, hrl, hro⟩ ⟨T0, v1, v2, rfl, hT0, rfl, hv1, hv2⟩
      rw [List.length_map, g8] at hi
      cases Option.some.inj hv1
      obtain ⟨n, hn1, rfl⟩ := List.mem_map.mp (List.mem_of_getElem? hv2)
      refine ⟨T0, _, rfl, .inl (.inl upd_same), rfl, _, _, rfl, _, _, rfl, rfl, ?_⟩
      have B7 := But.trans B6 (But.of_same (same_new (o := .tup [.int i, .str (tx n)]) hT0))
      have P7 := P6.same (same_new (o := .tup [.int i, .str (tx n)]) hT0)
      have R7 := R6.but (But.of_same (same_new (o := .tup [.int i, .str (tx n)]) hT0))
      generalize upd H6 T0 (.tup [.int i, .str (tx n)]) = H7 at B7 P7 R7 ⊢
      refine ⟨fun σ H' => ∃ kind, K3 kind ∧ σ = [some (.ref p), some (.ref aS), some (.ref aG), some (.ref e), some (.ref aR), some (.int i), some (.str (tx n)), some (.str kind), x8] ∧ But p H3 H' ∧ Purse H' p (c + 20 + 214 * (i : Nat)) ∧ RowsL p aR H' rows, ?_, ?_⟩
      · refine ⟨_, rfl, _, _, rfl, rfl, _, rfl, ite2 (fun h => ⟨_, .inl rfl, rfl, B7, P7, R7⟩) (fun h => ?_)⟩
        have h4 : 4 ≤ i := by
          have : ¬ ((i : Int) < 4) := fun z => h (decide_eq_true z)
          omega
        obtain ⟨k, hk1, hk2⟩ := kind2 h4 hi
        refine ⟨sizeLine_ge (by show 2 ≤ 10000; decide), fun q1 hq1 => ⟨_, rfl, _, _, rfl, rfl, ⟨by decide, by decide⟩, q1, _, _, _, rfl, rfl, .inl (.inl upd_same), hk2, k, hk1, rfl, But.trans B7 (But.of_same (same_new hq1)), P7.same (same_new hq1), R7.but (But.of_same (same_new hq1))⟩⟩
      · rintro σ H8 ⟨kind, k3, rfl, B8, P8, R8⟩
        refine ⟨_, rfl, _, rfl, _, rfl, _, rfl, p, 4, _, rfl, P8, by omega, by decide, by decide, fun r H9 hr0 hr1 P9 b9 => ?_⟩
        obtain ⟨d, rfl⟩ : ∃ d : Nat, r = d := ⟨r.toNat, by omega⟩
        have hd : d ≤ 3 := by omega
        have hcd := cO3 hd
        refine ⟨d, hd, p, e, kind, _, ss, [], _, _, _, NN ss, rfl, k3, P9, by omega, env.but (But.trans B8 b9), ok.down (by omega), fun t H10 b10 P10 dr => ?_⟩
        have B10 := But.trans B8 (But.trans b9 b10)
        have R10 := (R8.but b9).but b10
        refine ⟨_, rfl, p, 4, _, rfl, P10, by omega, by decide, by decide, fun r2 H11 hr20 hr21 P11 b11 => ⟨_, _, rfl, rfl, _, rfl, ite2 (fun h => ?_) (fun h => ⟨_, _, _, _, rows, rfl, But.trans B10 b11, P11.mono (by omega), R10.but b11, by omega, hro⟩)⟩⟩
        have R11 := R10.but b11
        have B11 := But.trans B10 b11
        obtain ⟨as, _, hR1, _⟩ := id R11
        refine ⟨_, rfl, .inl ⟨rfl, _, .inl (.inl hR1)⟩, _, rfl, _, rfl, sizeLine_ge (by show 2 ≤ 10000; decide), fun t1 ht1 => ?_⟩
        obtain ⟨xs, hx1, hx2, hx3⟩ := R11.add (n := n) (k := t) ht1 (Ne.symm (P11.ne ht1))
        have P12 := (P11.same (same_new (o := .tup [.str (tx n), .str (tx t.pr)]) ht1)).put (o := .lst (xs ++ [V.ref t1])) (Ne.symm npR)
        refine ⟨aR, xs, _, rfl, rfl, hx2, sizeLine_ge (by show xs.length + 1 ≤ 10000; omega), _, _, _, _, rows ++ [(n, t)], rfl, But.updN (But.trans B11 (But.of_same (same_new ht1))) hR, P12.mono (by omega), hx3, by rw [List.length_append]; show rows.length + 1 ≤ i + 1; omega, fun r hr => ?_⟩
        rcases List.mem_append.mp hr with hr | hr
        · exact hro r hr
        · rw [List.mem_singleton.mp hr]
          exact ⟨hn1, dr.mono hd⟩
    · rintro σ H6 ⟨x5, x6, x7, x8, rows, rfl, B6, P6, R6, hrl, hro⟩
      rw [List.length_map, g8] at P6 hrl
      refine ⟨_, rfl, _, rfl, _, rfl, sizeLine_ge (by show 3 ≤ 10000; decide), fun r hr0 => ?_⟩
      have Bn := But.trans B6 (But.of_same (same_new (o := .tup [.ref e, .ref aG, .ref aR]) hr0))
      exact q r _ e aG aR ss gs rows (But.trans B3 Bn) ((P6.same (same_new hr0)).mono (by omega)) ⟨Ne.symm (P6.ne hr0), nGp⟩ upd_same (Bn _ _ eG3 nGp) g8 oG (env.but Bn) ok (R6.but (But.of_same (same_new hr0))) hrl hro
end
end K


set_option Elab.async false
set_option linter.all false
set_option maxRecDepth 100000
set_option maxHeartbeats 4000000
/-! o.m(e, .., k = v, ..): an own method called by keywords, too -/
namespace U
open PySem PySem.Spec PyProof.Rows L2
def tMethN (C : Addr) (m : Str) (n nk : Nat) (sp : Sp) (gV : List V → List V → List V) (E : XK) (ta : TE) (t tk : TA) : TE := fun σ H Q => ta σ H fun x H1 => ∃ a dx fs, x = .ref a ∧ H1 a = some (.ins C dx fs) ∧ fs.lookup m = none ∧
  t σ H1 fun vs H2 => tk σ H2 fun zs H3 => (x :: vs).length = n ∧ zs.length = nk ∧ sp (gV (x :: vs) zs) H3 Q E
section
variable {X : Cx} {CX : CXT} {k n : Nat} {f C : Addr} {fd : FuncData} {ps ks : List Str} {sp : Sp} {E : XK} {m : Str} {o e : Expr} {es : List Expr} {kws : List Keyword} {apos pos : Pos} {ta : TE} {t tk : TA} {g : List Value → List Value → List Value} {gV : List V → List V → List V}
theorem pe_methN {pl : Sem Bool} (he : PE X o ta) (c : Cls X.K C) (hm : Meth X.K C m f) (F : FnOk X.prog X.w X.K X.mg X.base CX k f fd ps sp) (hr : Room k X.A) (hb : KBn X.K fd ps n ks g gV) (hx : Passes CX X E)
    (ha : PA X (e :: es) t) (hkw : PK X kws tk) (hall : (backToKw pos (keywordEach kws X.env)).all (·.1.isSome) = true := by rfl) (hks : (backToKw pos (keywordEach kws X.env)).filterMap (·.1) = ks := by rfl)
    (hst : starEach (e :: es) X.env = (false, eval e X.env) :: starEach es X.env := by rfl)
    (hpl : ((backTo pos (starEach (e :: es) X.env)).any (·.1) || (backToKw pos (keywordEach kws X.env)).any (·.1.isNone)) = false := by rfl)
    (ht : eval (.Call (.Attribute o m apos) (e :: es) kws pos) X.env = (do
      let ov ← eval o X.env
      standAt apos.atName
      let (f, first) ← holding [ov] (getMethod ov m pl)
      callWith pos f first (backTo pos (starEach (e :: es) X.env)) (backToKw pos (keywordEach kws X.env))) := by rfl) :
    PE X (.Call (.Attribute o m apos) (e :: es) kws pos) (tMethN C m n ks.length sp gV E ta t tk) := by
  refine ⟨fun pins s σ H Q I h => ?_⟩
  refine PySem.W.methodCall_KW (pl := pl) (thn (he.run pins s σ H _ I h) fun u s1 ⟨x, H1, I1, rx, a, dx, fs, ex, ea, l, q⟩ => ?_) ht
  subst ex
  obtain rfl : u = Value.ref a := rx
  refine getmeth_ok I1 ea c hm l ?_
  refine PySem.W.callWith_KW (first := [.ref a]) (h₀ := X.base) I.ok.mod.kin hm.kp hall (thn (ha.run pos pins s1 σ H1 _ I1 q) fun us s2 ⟨vs, H2, I2, r, q2⟩ => ?_) hpl hst
  refine thn (hkw.run pos pins s2 σ H2 _ I2 q2) fun ws s3 ⟨zs, H3, I3, rz, l1, l2, q3⟩ => ⟨I3.kIn, ?_⟩
  rw [hks]
  exact run_fnN (us := .ref a :: us) (vs := .ref a :: vs) F hr hb hx I3 (.cons rfl r) rz l1 l2 q3
/-- o.m(k = v, ..) -/
theorem pe_methN0 {pl : Sem Bool} (he : PE X o ta) (c : Cls X.K C) (hm : Meth X.K C m f) (F : FnOk X.prog X.w X.K X.mg X.base CX k f fd ps sp) (hr : Room k X.A) (hb : KBn X.K fd ps n ks g gV) (hx : Passes CX X E)
    (hkw : PK X kws tk) (hall : (backToKw pos (keywordEach kws X.env)).all (·.1.isSome) = true := by rfl) (hks : (backToKw pos (keywordEach kws X.env)).filterMap (·.1) = ks := by rfl)
    (hpl : ((backTo pos (starEach [] X.env)).any (·.1) || (backToKw pos (keywordEach kws X.env)).any (·.1.isNone)) = false := by rfl)
    (ht : eval (.Call (.Attribute o m apos) [] kws pos) X.env = (do
      let ov ← eval o X.env
      standAt apos.atName
      let (f, first) ← holding [ov] (getMethod ov m pl)
      callWith pos f first (backTo pos (starEach [] X.env)) (backToKw pos (keywordEach kws X.env))) := by rfl) :
    PE X (.Call (.Attribute o m apos) [] kws pos) (tMethN C m n ks.length sp gV E ta tNil tk) := by
  refine ⟨fun pins s σ H Q I h => ?_⟩
  refine PySem.W.methodCall_KW (pl := pl) (thn (he.run pins s σ H _ I h) fun u s1 ⟨x, H1, I1, rx, a, dx, fs, ex, ea, l, q⟩ => ?_) ht
  subst ex
  obtain rfl : u = Value.ref a := rx
  refine getmeth_ok I1 ea c hm l ?_
  refine PySem.W.callWith_KW0 (first := [.ref a]) (h₀ := X.base) I.ok.mod.kin hm.kp hall (thn (hkw.run pos pins s1 σ H1 _ I1 q) fun ws s2 ⟨zs, H2, I2, rz, l1, l2, q2⟩ => ⟨I2.kIn, ?_⟩) hpl
  rw [hks]
  exact run_fnN (us := [.ref a]) (vs := [.ref a]) F hr hb hx I2 (.cons rfl .nil) rz l1 l2 q2
end
end U

set_option Elab.async false
set_option linter.all false
set_option maxRecDepth 100000
set_option maxHeartbeats 4000000
/-! {x} in an f-string, x of a class with a __str__ of its own -/
namespace U
open PySem PySem.Spec PyProof.Rows L2
section
variable {X : Cx} {CX : CXT} {n : Nat} {C f : Addr} {fd : FuncData} {ps : List Str} {sp : Sp} {E : XK}
def tFmtOwn (C : Addr) (sp : Sp) (E : XK) (te : TE) : TE := fun σ H Q => te σ H fun x H1 => ∃ (a dx : Addr) (fs : List (Str × V)), x = .ref a ∧ H1 a = some (.ins C dx fs) ∧ sp [.ref a] H1 (fun z H' => ∃ y : Str, z = .str y ∧ Q (.str y) H') E
theorem pe_fmtOwn {e : Expr} {te : TE} {pos : Pos} (F : FnOk X.prog X.w X.K X.mg X.base CX n f fd ps sp) (hb : Binds X.K fd ps []) (hx : Passes CX X E) (hs : PySem.W.findIn X.K (.ref C) "__str__" = some (some (.ref f))) (hf : PySem.W.isFn X.K (.ref f) = true)
    (hfm : PySem.W.findIn X.K (.ref C) "__format__" = some (some (.builtin "object.__format__"))) (hm : PySem.W.mroIn X.K C (.type "object") = some true) (hr : Room (n + 1) X.A) (he : PE X e te) :
    PE X (.FormattedValue e (-1) none pos) (tFmtOwn C sp E te) := by
  refine ⟨fun pins s σ H Q I h => ?_⟩
  refine wpAny_FormattedValue_plain (thn (he.run pins s σ H _ I h) fun v s1 hv => ?_)
  obtain ⟨x, H1, I1, r1, a, dx, fs, rfl, ha, hsp⟩ := hv
  obtain rfl : v = Value.ref a := r1
  obtain ⟨ox, od, J⟩ := inst_of I1 ha
  refine PySem.W.kfo_fieldS hr.in1.units0 I1.kIn J hfm hm hs hf (wpAny_mono (run_own F hb hx ⟨hr.in1, rfl⟩ (I1.tok _) (show Vals [V.ref a] [Value.ref a] from .cons rfl .nil) hsp) (fun v s' z => ?_) fun _ _ e => e)
  obtain ⟨z, H', I', rz, k, rfl, q⟩ := z
  obtain ⟨t, rfl⟩ := (show ∃ t, v = Value.str k t from rz)
  exact ⟨.str k, H', I', ⟨_, rfl⟩, q⟩
end
end U

set_option Elab.async false
set_option linter.all false
set_option maxRecDepth 100000
set_option maxHeartbeats 4000000
/-! a dict by names beside the rows that it stands for -/
namespace U
open PySem PySem.Spec PyProof.Rows L2
variable {α : Type}
/-- in its place, or at the end -/
def putR (rows : List (List Nat × α)) (n : List Nat) (k : α) : List (List Nat × α) := if rows.any (fun r => decide (r.1 = n)) = true then rows.map (fun r => if r.1 = n then (r.1, k) else r) else rows ++ [(n, k)]
def dropR (rows : List (List Nat × α)) (n : List Nat) : List (List Nat × α) := rows.filter fun r => decide (r.1 ≠ n)
def getR (rows : List (List Nat × α)) (n : List Nat) : Option α := (rows.find? fun r => decide (r.1 = n)).map (·.2)
def PairK (R : V → α → Prop) (kvs : List (Key × V)) (rows : List (List Nat × α)) : Prop := Paired (fun (kv : Key × V) (r : List Nat × α) => kv.1 = .inr (tx r.1) ∧ R kv.2 r.2) kvs rows
theorem key_eq {kv : Key × V} {l n : List Nat} (h : kv.1 = .inr (tx l)) : kv.1 = .inr (tx n) ↔ l = n := by
  rw [h]
  constructor
  · intro e
    exact tx_inj (Sum.inr.inj e)
  · intro e
    rw [e]
theorem PairK.mono {R S : V → α → Prop} {kvs : List (Key × V)} {rows : List (List Nat × α)} (h : PairK R kvs rows) (m : ∀ v k, R v k → S v k) : PairK S kvs rows := Paired.mapP h fun _ _ h => ⟨h.1, m _ _ h.2⟩
theorem PairK.any {R : V → α → Prop} {kvs : List (Key × V)} {rows : List (List Nat × α)} (h : PairK R kvs rows) (n : List Nat) : (kvs.any fun kv => decide (kv.1 = .inr (tx n))) = rows.any fun r => decide (r.1 = n) := by
  induction h with
  | nil => rfl
  | cons h _ ih =>
    rw [List.any_cons, List.any_cons, ih]
    exact congrArg (· || _) (decide_eq_decide.mpr (key_eq h.1))
theorem PairK.app {R : V → α → Prop} {kvs : List (Key × V)} {rows : List (List Nat × α)} (h : PairK R kvs rows) {n : List Nat} {v : V} {k : α} (r : R v k) : PairK R (kvs ++ [(.inr (tx n), v)]) (rows ++ [(n, k)]) := Paired.app h (.cons ⟨rfl, r⟩ .nil)
theorem PairK.put {R : V → α → Prop} {kvs : List (Key × V)} {rows : List (List Nat × α)} (h : PairK R kvs rows) {n : List Nat} {v : V} {k : α} (r : R v k) : PairK R (putK kvs (.inr (tx n)) v) (putR rows n k) := by
  unfold putK putR
  rw [h.any n]
  by_cases e : (rows.any fun r => decide (r.1 = n)) = true
  · rw [if_pos e, if_pos e]
    clear e
    induction h with
    | nil => exact .nil
    | @cons kv row _ _ h _ ih =>
      rw [List.map_cons, List.map_cons]
      refine .cons ?_ ih
      by_cases e : row.1 = n
      · rw [if_pos ((key_eq h.1).mpr e), if_pos e]
        exact ⟨h.1, r⟩
      · rw [if_neg fun z => e ((key_eq h.1).mp z), if_neg e]
        exact h
  · rw [if_neg e, if_neg e]
    exact h.app r
theorem PairK.drop {R : V → α → Prop} {kvs : List (Key × V)} {rows : List (List Nat × α)} (h : PairK R kvs rows) (n : List Nat) : PairK R (dropK kvs (.inr (tx n))) (dropR rows n) := by
  unfold dropK dropR
  induction h with
  | nil => exact .nil
  | @cons kv row _ _ h _ ih =>
    by_cases e : row.1 = n
    · have e1 := (key_eq (n := n) h.1).mpr e
      rw [List.filter_cons_of_neg (by simp [e1]), List.filter_cons_of_neg (by simp [e])]
      exact ih
    · have e1 : ¬ kv.1 = .inr (tx n) := fun z => e ((key_eq h.1).mp z)
      rw [List.filter_cons_of_pos (by simp [e1]), List.filter_cons_of_pos (by simp [e])]
      exact .cons h ih
theorem PairK.get {R : V → α → Prop} {kvs : List (Key × V)} {rows : List (List Nat × α)} (h : PairK R kvs rows) (n : List Nat) : (getR rows n = none ∧ valV kvs (.inr (tx n)) = none) ∨ ∃ k v, getR rows n = some k ∧ valV kvs (.inr (tx n)) = some v ∧ R v k := by
  unfold getR
  induction h with
  | nil => exact .inl ⟨rfl, rfl⟩
  | @cons kv row _ _ h _ ih =>
    by_cases e : row.1 = n
    · refine .inr ⟨row.2, kv.2, ?_, valV_pos ((key_eq h.1).mpr e), h.2⟩
      rw [List.find?_cons_of_pos (by simp [e])]
      rfl
    · rw [valV_neg fun z => e ((key_eq h.1).mp z), List.find?_cons_of_neg (by simp [e])]
      exact ih
theorem PairK.keys {R : V → α → Prop} {kvs : List (Key × V)} {rows : List (List Nat × α)} (h : PairK R kvs rows) : kvs.map (·.1) = (rows.map fun r => tx r.1).map Sum.inr := by
  induction h with
  | nil => rfl
  | cons h _ ih =>
    rw [List.map_cons, List.map_cons, List.map_cons, ih, h.1]
/-- rows put one behind the other -/
def putAll (rows more : List (List Nat × α)) : List (List Nat × α) := more.foldl (fun acc r => putR acc r.1 r.2) rows
theorem putAll_add (rows more : List (List Nat × α)) (r : List Nat × α) : putAll rows (more ++ [r]) = putR (putAll rows more) r.1 r.2 := by
  unfold putAll
  rw [List.foldl_append]
  rfl
theorem putR_len (rows : List (List Nat × α)) (n : List Nat) (k : α) : (putR rows n k).length ≤ rows.length + 1 := by
  unfold putR
  split
  · rw [List.length_map]
    omega
  · rw [List.length_append]
    exact Nat.le_refl _
theorem dropR_len (rows : List (List Nat × α)) (n : List Nat) : (dropR rows n).length ≤ rows.length := List.length_filter_le _ _
theorem putAll_len (rows more : List (List Nat × α)) : (putAll rows more).length ≤ rows.length + more.length := by
  induction more generalizing rows with
  | nil => exact Nat.le_refl _
  | cons r more ih =>
    have h1 := ih (putR rows r.1 r.2)
    have h2 := putR_len rows r.1 r.2
    show (putAll (putR rows r.1 r.2) more).length ≤ _
    rw [List.length_cons]
    omega
theorem putR_mem {rows : List (List Nat × α)} {n : List Nat} {k : α} {r : List Nat × α} (h : r ∈ putR rows n k) : r ∈ rows ∨ r = (n, k) := by
  unfold putR at h
  split at h
  · obtain ⟨x, hx, rfl⟩ := List.mem_map.mp h
    by_cases e : x.1 = n
    · rw [if_pos e, e]
      exact .inr rfl
    · rw [if_neg e]
      exact .inl hx
  · rcases List.mem_append.mp h with h | h
    · exact .inl h
    · exact .inr (List.mem_singleton.mp h)
theorem dropR_mem {rows : List (List Nat × α)} {n : List Nat} {r : List Nat × α} (h : r ∈ dropR rows n) : r ∈ rows ∧ r.1 ≠ n := by
  obtain ⟨h1, h2⟩ := List.mem_filter.mp h
  exact ⟨h1, of_decide_eq_true h2⟩
/-- no name twice -/
def NodR (rows : List (List Nat × α)) : Prop := (rows.map (·.1)).Nodup
theorem NodR.put {rows : List (List Nat × α)} (h : NodR rows) (n : List Nat) (k : α) : NodR (putR rows n k) := by
  unfold NodR putR at *
  by_cases e : (rows.any fun r => decide (r.1 = n)) = true
  · rw [if_pos e]
    have : (rows.map fun r => if r.1 = n then (r.1, k) else r).map (·.1) = rows.map (·.1) := by
      rw [List.map_map]
      refine List.map_congr_left fun r _ => ?_
      show (if r.1 = n then (r.1, k) else r).1 = r.1
      split <;> rfl
    rw [this]
    exact h
  · rw [if_neg e, List.map_append]
    refine List.nodup_append.mpr ⟨h, by simp, fun a ha b hb z => ?_⟩
    obtain ⟨r, hr, rfl⟩ := List.mem_map.mp ha
    have hb : b = n := by simpa using hb
    refine e (List.any_eq_true.mpr ⟨r, hr, decide_eq_true ?_⟩)
    rw [z, hb]
theorem NodR.drop {rows : List (List Nat × α)} (h : NodR rows) (n : List Nat) : NodR (dropR rows n) := by
  unfold NodR at *
  exact (List.Sublist.map _ List.filter_sublist).nodup h
theorem NodR.all {more : List (List Nat × α)} : ∀ {rows : List (List Nat × α)}, NodR rows → NodR (putAll rows more) := by
  induction more with
  | nil => intro rows h; exact h
  | cons r more ih => intro rows h; exact ih (h.put r.1 r.2)
end U

set_option Elab.async false
set_option linter.all false
set_option maxRecDepth 100000
set_option maxHeartbeats 4000000
/-! sorted(xs), texts, any number of them, in a list or a tuple -/
namespace U
open PySem PySem.Spec PyProof.Rows L2
section
variable {prog : Program} {w : World} {A : Around} {E : Value → Shared → Prop} {s : Shared}
theorem collect_tup {l : Addr} {vs : List Value} {o : Obj} {n : Nat} {Q : List Value → Shared → Prop} (ho : s.heap.get? l = some o) (hc : o.cls = .type "tuple") (hd : o.data = .seq vs.toArray n)
    (h : Q vs { s with heap := (s.heap.push (seqObj "list" #[] 0)).update s.heap.objs.size (Obj.mapSeq (· ++ vs.toArray)) }) (hsz : vs.length ≤ sizeLine) :
    wpAny (model prog w) A (collect (.ref l)) Q E s := by
  unfold collect
  refine wpAny_bind (wpAny_runValue (codeAny_builtin entry_proto_collect' ?_))
  show wpAny _ _ (do again (.builtin "list.__iadd__" ⟨[← newList [], .ref l], []⟩)) _ _ s
  refine wpAny_bind (wpAny_newList (wpAny_pure ⟨Code.quiet_builtin _ (by decide +kernel), codeAny_builtin entry_list_iadd' ?_⟩))
  show wpAny _ _ (Builtin.List.listExtendWith (.ref s.heap.objs.size) (.ref l) (.ref s.heap.objs.size)) _ _ { s with heap := s.heap.push (seqObj "list" #[] 0) }
  unfold Builtin.List.listExtendWith
  have ho' : (s.heap.push (seqObj "list" #[] 0)).get? l = some o := Heap.get?_push_of_some _ ho
  refine wpAny_bind (wpAny_typeOf (T := "tuple") ⟨o, ho', hc⟩ ?_)
  have ht : (Value.type "tuple" == Value.type "tuple") = true := by rfl
  rw [if_pos (by rw [ht]; simp)]
  refine wpAny_bind (listItems_at ho' hd ?_)
  refine wpAny_bind (listItems_at (xs := #[]) (n := 0) (Heap.get?_push_size _ rfl) rfl ?_)
  rw [if_neg (by simp)]
  refine wpAny_bind (listUpdate_at (xs := #[]) (n := 0) (Heap.get?_push_size _ rfl) rfl ?_ (Nat.zero_le _) (by show (#[] ++ vs.toArray).size ≤ sizeLine + 1; simp only [Array.size_append, List.size_toArray, List.length_nil]; omega))
  refine wpAny_pure ?_
  show wpAny (model prog w) A (do
      let o ← load s.heap.objs.size
      match o.data with
      | .seq xs _ => pure xs.toList
      | _ => unsupported "internal:collect") Q E { s with heap := (s.heap.push (seqObj "list" #[] 0)).update s.heap.objs.size (Obj.mapSeq (· ++ vs.toArray)) }
  refine wpAny_bind (wpAny_load (get?_update_seq (Heap.get?_push_size _ rfl) _) ?_)
  show wpAny _ _ (pure ((#[] : Array Value) ++ vs.toArray).toList) Q E _
  rw [show ((#[] : Array Value) ++ vs.toArray).toList = vs by simp]
  exact wpAny_pure h
theorem sorted_tup {l : Addr} {vs : List Value} {ss : List Str} {o : Obj} {n : Nat} {Q : Value → Shared → Prop} (ho : s.heap.get? l = some o) (hc : o.cls = .type "tuple") (hd : o.data = .seq vs.toArray n) (hS : StrsAre vs ss) (hL : vs.length ≤ sizeLine)
    (h : ∀ (out : Array Value) (ss' : List Str), StrsAre out.toList ss' → ss'.Perm ss → sortedS ss' = true → Q (.ref (s.heap.objs.size + 1)) { s with heap := sortedAll s.heap vs out }) :
    wpAny (model prog w) A (call (.builtin "sorted") [.ref l]) Q E s := by
  refine Calls.call_function_entry kind_sorted plain_sorted entry_sorted (args_sorted1 _) ?_
  unfold Builtin.«sorted»
  refine wpAny_bind (m := checkCount "sorted" 1 1 _) (wpAny_pure ?_)
  refine wpAny_bind (collect_tup ho hc hd ?_ hL)
  refine wpAny_bind (wpAny_newList ?_ hL)
  have hsz : ((s.heap.push (seqObj "list" #[] 0)).update s.heap.objs.size (Obj.mapSeq (· ++ vs.toArray))).objs.size = s.heap.objs.size + 1 := by
    rw [Heap.size_update, size_push']
  have hoL : (((s.heap.push (seqObj "list" #[] 0)).update s.heap.objs.size (Obj.mapSeq (· ++ vs.toArray))).push (seqObj "list" vs.toArray 0)).get? (s.heap.objs.size + 1) = some (seqObj "list" vs.toArray 0) := by
    rw [← hsz]; exact Heap.get?_push_size _ rfl
  show wpAny _ _ _ _ _ { s with heap := ((s.heap.push (seqObj "list" #[] 0)).update s.heap.objs.size (Obj.mapSeq (· ++ vs.toArray))).push (seqObj "list" vs.toArray 0) }
  rw [hsz]
  refine wpAny_bind (wpAny_holding (wpAny_call_entry slot_list_sort ⟨_, hoL, rfl⟩ entry_list_sort (list_sort_treeKAny strKind_oneLt hoL hS.keysOf (fun v₁ v₂ rest e => keyKind_strs (by rw [← e]; exact hS)) hL fun st' hp hs => ⟨_, rfl, ?_⟩) (args_list_sort _)))
  obtain ⟨ss', h1, h2, h3⟩ := sorted_out_str hS hp hs
  exact wpAny_pure ⟨_, rfl, h _ ss' h1 h2 h3⟩
end
section
variable {X : Cx}
def rSortedA (K : PySem.W.Frag) : List V → Hp → VK → Prop := fun vs H Q => ∃ (a : Addr) (xs : List Str), vs = [V.ref a] ∧ (SqL K H a (xs.map V.str) ∨ SqT K H a (xs.map V.str)) ∧
  ∀ (ys : List Str) (p : Addr), ys.Perm xs → sortedS ys = true → H p = none → Q (.ref p) (upd H p (.lst (ys.map V.str)))
theorem cr_sortedA : CallR X (.builtin "sorted") (rSortedA X.K) := by
  intro pins s σ H vs us Q I r h
  obtain ⟨a, xs, rfl, hs, q⟩ := h
  rw [Vals.ref1 r]
  rcases hs with hs | hs
  · obtain ⟨its, rv, hl, hz⟩ := I.list hs
    have hlen0 := rv.length
    rw [List.length_map] at hlen0 hz
    refine PyProof.Rows.sorted_strsAny hl.isList rv.strs (by rw [← hlen0]; exact hz) fun out ys h1 h2 h3 => ?_
    obtain ⟨ep, he'⟩ := PyProof.Rows.sortedAll_at s.heap its out
    have hlen : (ys.map V.str).length ≤ sizeLine := by rw [List.length_map, h2.length_eq]; exact hz
    exact ⟨.ref _, upd H (s.heap.objs.size + 1) (.lst (ys.map V.str)), I.laid (t' := s.toks) (fun _ _ => PyProof.Rows.sortedAll_old) (Nat.le_succ _) ⟨hlen, out.toList, ep, vals_of_strs h1, he'⟩, rfl, q ys _ h2 h3 (I.hok.fresh (Nat.le_succ _))⟩
  · obtain ⟨its, rv, ⟨⟨c2, dd, d2, sl⟩, g2, k2, n2, k3⟩, hz⟩ := I.tuple hs
    have hlen0 := rv.length
    rw [List.length_map] at hlen0 hz
    refine sorted_tup g2 k2 k3 rv.strs (by rw [← hlen0]; exact hz) fun out ys h1 h2 h3 => ?_
    obtain ⟨ep, he'⟩ := PyProof.Rows.sortedAll_at s.heap its out
    have hlen : (ys.map V.str).length ≤ sizeLine := by rw [List.length_map, h2.length_eq]; exact hz
    exact ⟨.ref _, upd H (s.heap.objs.size + 1) (.lst (ys.map V.str)), I.laid (t' := s.toks) (fun _ _ => PyProof.Rows.sortedAll_old) (Nat.le_succ _) ⟨hlen, out.toList, ep, vals_of_strs h1, he'⟩, rfl, q ys _ h2 h3 (I.hok.fresh (Nat.le_succ _))⟩
end
end U

set_option Elab.async false
set_option linter.all false
set_option maxRecDepth 100000
set_option maxHeartbeats 4000000
namespace U
open PySem PySem.Spec PyProof.Rows L2
theorem rising_le : ∀ (l : List Str) (p : Str), risingS p l = true → (∀ y ∈ l, p.cps.toList ≤ y.cps.toList) ∧ sortedS l = true
  | [], _, _ => ⟨fun y hy => by simp at hy, rfl⟩
  | x :: r, p, h => by
    have h' : (!ltCps x.cps.toList p.cps.toList && risingS x r) = true := h
    rw [Bool.and_eq_true] at h'
    obtain ⟨h1, h2⟩ := h'
    rw [ltCps_eq] at h1
    have px : p.cps.toList ≤ x.cps.toList := by
      refine List.not_lt.mp ?_
      simpa using h1
    obtain ⟨h3, _⟩ := rising_le r x h2
    refine ⟨fun y hy => ?_, h2⟩
    rcases List.mem_cons.mp hy with rfl | hy
    · exact px
    · exact List.le_trans px (h3 y hy)
theorem sorted_cons {x : Str} {r : List Str} (h : sortedS (x :: r) = true) : (∀ y ∈ r, x.cps.toList ≤ y.cps.toList) ∧ sortedS r = true := rising_le r x h
theorem sorted_unique : ∀ {a b : List (List Nat)}, a.Perm b → sortedS (a.map tx) = true → sortedS (b.map tx) = true → a = b
  | [], b, p, _, _ => (List.nil_perm.mp p).symm
  | x :: a, [], p, _, _ => absurd p.length_eq (by simp)
  | x :: a, y :: b, p, ha, hb => by
    obtain ⟨a1, a2⟩ := sorted_cons ha
    obtain ⟨b1, b2⟩ := sorted_cons hb
    have le1 : x ≤ y := by
      have : y ∈ x :: a := p.mem_iff.mpr List.mem_cons_self
      rcases List.mem_cons.mp this with e | h
      · rw [e]
        exact List.le_refl _
      · have := a1 (tx y) (List.mem_map.mpr ⟨y, h, rfl⟩)
        simpa using this
    have le2 : y ≤ x := by
      have : x ∈ y :: b := p.mem_iff.mp List.mem_cons_self
      rcases List.mem_cons.mp this with e | h
      · rw [e]
        exact List.le_refl _
      · have := b1 (tx x) (List.mem_map.mpr ⟨x, h, rfl⟩)
        simpa using this
    have e : x = y := List.le_antisymm le1 le2
    subst e
    rw [sorted_unique (p.cons_inv) a2 b2]
end U

set_option Elab.async false
set_option linter.all false
set_option maxRecDepth 100000
set_option maxHeartbeats 4000000
/-! rows by their names, sorted -/
namespace U
open PySem PySem.Spec PyProof.Rows L2
variable {α : Type}
theorem getR_none {rows : List (List Nat × α)} {n : List Nat} (h : n ∉ rows.map (·.1)) : getR rows n = none := by
  unfold getR
  rw [List.find?_eq_none.mpr fun r hr => ?_]
  · rfl
  · intro z
    exact h (List.mem_map.mpr ⟨r, hr, of_decide_eq_true z⟩)
theorem getR_mem {rows : List (List Nat × α)} (nd : NodR rows) {r : List Nat × α} (h : r ∈ rows) : getR rows r.1 = some r.2 := by
  induction rows with
  | nil => simp at h
  | cons x rows ih =>
    unfold NodR at nd
    rw [List.map_cons, List.nodup_cons] at nd
    unfold getR
    by_cases e : x.1 = r.1
    · rw [List.find?_cons_of_pos (by simp [e])]
      rcases List.mem_cons.mp h with z | z
      · rw [z]
        rfl
      · exact absurd (List.mem_map.mpr ⟨r, z, e.symm⟩) nd.1
    · rw [List.find?_cons_of_neg (by simp [e])]
      rcases List.mem_cons.mp h with z | z
      · exact absurd (by rw [z]) e
      · exact ih nd.2 z
theorem getR_some {rows : List (List Nat × α)} {n : List Nat} {k : α} (h : getR rows n = some k) : (n, k) ∈ rows := by
  unfold getR at h
  cases e : rows.find? fun r => decide (r.1 = n) with
  | none =>
    rw [e] at h
    cases h
  | some r =>
    rw [e] at h
    have h1 := List.find?_some e
    have h2 := List.mem_of_find?_eq_some e
    have h1 : r.1 = n := of_decide_eq_true h1
    have h3 : r.2 = k := Option.some.inj h
    rw [← h1, ← h3]
    exact h2
/-- the rows of these names -/
def byNames (d : α) (rows : List (List Nat × α)) (ns : List (List Nat)) : List (List Nat × α) := ns.map fun n => (n, (getR rows n).getD d)
theorem byNames_self (d : α) {rows : List (List Nat × α)} (nd : NodR rows) : byNames d rows (rows.map (·.1)) = rows := by
  unfold byNames
  rw [List.map_map]
  have : rows.map ((fun n => (n, (getR rows n).getD d)) ∘ (·.1)) = rows.map id := List.map_congr_left fun r hr => by
    show (r.1, (getR rows r.1).getD d) = r
    rw [getR_mem nd hr]
    rfl
  rw [this, List.map_id]
theorem byNames_perm (d : α) {rows : List (List Nat × α)} (nd : NodR rows) {ns : List (List Nat)} (p : ns.Perm (rows.map (·.1))) : (byNames d rows ns).Perm rows := by
  have h := p.map fun n => (n, (getR rows n).getD d)
  have e := byNames_self d nd
  unfold byNames at e ⊢
  rw [e] at h
  exact h
theorem byNames_names (d : α) (rows : List (List Nat × α)) (ns : List (List Nat)) : (byNames d rows ns).map (·.1) = ns := by
  unfold byNames
  rw [List.map_map]
  show ns.map (fun n => n) = ns
  exact List.map_id' ns
/-- texts that are a permutation of names are names -/
theorem names_of {ys : List Str} {ls : List (List Nat)} (p : ys.Perm (ls.map tx)) : ∃ ns : List (List Nat), ys = ns.map tx ∧ ns.Perm ls := by
  have e : ∀ zs : List Str, (zs.map fun z => z.cps.toList).map tx = zs := fun zs => by
    rw [List.map_map]
    have : zs.map (tx ∘ fun z => z.cps.toList) = zs.map id := List.map_congr_left fun z _ => (tx_of z).symm
    rw [this, List.map_id]
  refine ⟨ys.map fun z => z.cps.toList, (e ys).symm, ?_⟩
  have h := p.map fun z : Str => z.cps.toList
  rw [List.map_map] at h
  have : ls.map ((fun z : Str => z.cps.toList) ∘ tx) = ls.map id := List.map_congr_left fun l _ => tx_cps l
  rw [this, List.map_id] at h
  exact h
end U

set_option Elab.async false
set_option linter.all false
set_option maxRecDepth 100000
set_option maxHeartbeats 4000000
/-! B.m(e, ..): a def read off an own class and called, as an __init__ calls that of the class above -/
namespace U
open PySem PySem.Spec PyProof.Rows L2
/-- B.m is the def at f -/
structure SupI (K : PySem.W.Frag) (C : Addr) (m : Str) (f : Addr) : Prop where
  rd : PySem.W.readsIn K C (.type "type") = true
  ga : PySem.W.specialIn K (.ref C) "__getattribute__" = some (some (.builtin "type.__getattribute__"))
  at_ : PySem.W.findCls K (.ref C) (.type "type") m = some (.val (.ref f))
  kp : PySem.W.keepIn K (.ref f) = true
section
variable {X : Cx} {CX : CXT} {k : Nat} {f C : Addr} {fd : FuncData} {ps : List Str} {ds : List Value} {dvs : List V} {sp : Sp} {E : XK} {m : Str} {o e : Expr} {es : List Expr} {apos pos : Pos} {ta : TE} {t : TA}
def tSup (C : Addr) (sp : Sp) (dvs : List V) (E : XK) (ta : TE) (t : TA) : TE := fun σ H Q => ta σ H fun x H1 => x = .ref C ∧ t σ H1 fun vs H2 => sp (vs ++ dvs) H2 Q E
theorem pe_sup {pl : Sem Bool} (he : PE X o ta) (S : SupI X.K C m f) (F : FnOk X.prog X.w X.K X.mg X.base CX k f fd ps sp) (hr : Room k X.A) (hb : Binds X.K fd ps ds) (hd : Vals dvs ds) (hx : Passes CX X E) (ha : PA X (e :: es) t)
    (hst : starEach (e :: es) X.env = (false, eval e X.env) :: starEach es X.env := by rfl) (hpl : (backTo pos (starEach es X.env)).any (·.1) = false := by rfl)
    (ht : eval (.Call (.Attribute o m apos) (e :: es) [] pos) X.env = (do
      let ov ← eval o X.env
      standAt apos.atName
      let (f, first) ← holding [ov] (getMethod ov m pl)
      callWith pos f first (backTo pos (starEach (e :: es) X.env)) (backToKw pos (keywordEach [] X.env))) := by rfl) :
    PE X (.Call (.Attribute o m apos) (e :: es) [] pos) (tSup C sp dvs E ta t) := by
  refine ⟨fun pins s σ H Q I h => ?_⟩
  refine PySem.W.methodCall_KW (pl := pl) (thn (he.run pins s σ H _ I h) fun u s1 ⟨x, H1, I1, rx, ex, q⟩ => ?_) ht
  subst ex
  obtain rfl : u = Value.ref C := rx
  refine PySem.W.method_cls I1.kIn S.ga (ClX.getcval_ok I1 (mc := .type "type") ⟨S.rd, S.ga⟩ (v := .ref f) ⟨S.at_, rfl⟩ fun s2 I2 => ?_)
  refine PySem.W.callWith_K (first := []) (h₀ := X.base) I2.ok.mod.kin S.kp (thn (ha.run pos pins s2 σ H1 _ I2 q) fun us s3 ⟨vs, H2, I3, r, q2⟩ => ⟨I3.kIn, ?_⟩) hst hpl
  exact run_fn (us := us) (vs := vs) F hr hb hd hx I3 r q2
end
end U

set_option Elab.async false
set_option linter.all false
set_option maxRecDepth 100000
set_option maxHeartbeats 4000000
namespace U
open PySem PySem.Spec PyProof.Rows L2
theorem pe_makeH0 {X : Cx} {k : Nat} {f C : Addr} {fd : FuncData} {ps : List Str} {sp : Sp} {x : Str} {p pos : Pos} (h : HasC X.prog X.w X.K X.mg X.base x C k ps sp f fd) (hr : Room (k + 1) X.A) (hg : Gl X x) (hdb : (x == ("__debug__" : Str)) = false := by decide) :
    PE X (.Call (.Name x p) [] [] pos) (tMake C sp [] E0 tNil) := pe_make0 h.mkC h.ok hr hg h.at_ h.bi .nil pass0 hdb
end U
namespace K
open PySem PySem.Spec PyProof.Rows L2 U SkE
/-- the class KeptSpace as the top has made it -/
structure SpaceC (K : PySem.W.Frag) (C : Addr) : Prop where
  cl : Cls K C
  ns : NoAttr K C "senses"
  nw : NoAttr K C "_walks"
/-- the class Kept as the top has made it -/
structure KeptC (K : PySem.W.Frag) (C : Addr) : Prop where
  cl : Cls K C
  ns : NoAttr K C "steps"
  np : NoAttr K C "space"
  nb : NoAttr K C "bodies"
  na : NoAttr K C "_asked"
def spaceF (s w : V) : List (Str × V) := putF "_walks" w (putF "senses" s [])
def keptF (s p b a : V) : List (Str × V) := putF "_asked" a (putF "bodies" b (putF "space" p (putF "steps" s [])))
theorem ne_sw1 : ¬ (("senses" : Str) = "_walks") := by decide +kernel
theorem ne_k1 : ¬ (("steps" : Str) = "space") := by decide +kernel
theorem ne_k2 : ¬ (("steps" : Str) = "bodies") := by decide +kernel
theorem ne_k3 : ¬ (("steps" : Str) = "_asked") := by decide +kernel
theorem ne_k4 : ¬ (("space" : Str) = "bodies") := by decide +kernel
theorem ne_k5 : ¬ (("space" : Str) = "_asked") := by decide +kernel
theorem ne_k6 : ¬ (("bodies" : Str) = "_asked") := by decide +kernel
/-- a space of no knots, its places such -/
def Space0 (G : Addr → Prop) (CS : Addr) (H : Hp) (p : Addr) : Prop := ∃ dx s w, (G p ∧ G s ∧ G w) ∧ H p = some (.ins CS dx (spaceF (.ref s) (.ref w))) ∧ H s = some (.dK []) ∧ H w = some (.dK [])
/-- a Kept that has kept nothing -/
def Kept0 (G : Addr → Prop) (CK CS : Addr) (H : Hp) (p : Addr) : Prop := ∃ dx s b a, (G s ∧ G b ∧ G a) ∧ H p = some (.ins CK dx (keptF (.int 0) (.ref s) (.ref b) (.ref a))) ∧ Space0 G CS H s ∧ H b = some (.dK []) ∧ H a = some (.dK [])
theorem Space0.but {G G' : Addr → Prop} {CS p q : Addr} {H H' : Hp} (h : Space0 G CS H p) (b : But q H H') (n : ∀ a, G a → a ≠ q) (m : ∀ a, G a → G' a) : Space0 G' CS H' p := by
  obtain ⟨dx, s, w, ⟨g1, g2, g3⟩, h1, h2, h3⟩ := h
  exact ⟨dx, s, w, ⟨m _ g1, m _ g2, m _ g3⟩, b _ _ h1 (n _ g1), b _ _ h2 (n _ g2), b _ _ h3 (n _ g3)⟩
theorem Kept0.but {G G' : Addr → Prop} {CK CS p q : Addr} {H H' : Hp} (h : Kept0 G CK CS H p) (b : But q H H') (np : p ≠ q) (n : ∀ a, G a → a ≠ q) (m : ∀ a, G a → G' a) : Kept0 G' CK CS H' p := by
  obtain ⟨dx, s, b1, a, ⟨g1, g2, g3⟩, h1, h2, h3, h4⟩ := h
  exact ⟨dx, s, b1, a, ⟨m _ g1, m _ g2, m _ g3⟩, b _ _ h1 np, h2.but b n m, b _ _ h3 (n _ g2), b _ _ h4 (n _ g3)⟩
def spSpaceInit (CS : Addr) : Sp := fun vs H Q _ => ∃ (p dx : Addr), vs = [.ref p] ∧ H p = some (.ins CS dx []) ∧ ∀ H' s, But p H H' → H s = none → H' p = some (.ins CS dx (putF "senses" (.ref s) [])) → H' s = some (.dK []) → Q .non H'
def spKSpaceInit (CS : Addr) : Sp := fun vs H Q _ => ∃ (p dx : Addr), vs = [.ref p] ∧ H p = some (.ins CS dx []) ∧ ∀ H' dx' s w, But p H H' → H s = none → H w = none → H' p = some (.ins CS dx' (spaceF (.ref s) (.ref w))) → H' s = some (.dK []) → H' w = some (.dK []) → Q .non H'
def spKeptInit (CK CS : Addr) : Sp := fun vs H Q _ => ∃ (p dx : Addr), vs = [.ref p] ∧ H p = some (.ins CK dx []) ∧ ∀ H', But p H H' → Kept0 (fun a => H a = none) CK CS H' p → Q .non H'
section
variable {P : Program} {w : World} {K : PySem.W.Frag} {mg : Str → Option Value} {base : Heap} {dW dB : Addr} {esW : Array DictEntry} {nW : Nat} (T : Txt K mg w dW dB esW nW)
include T
theorem ok_Space_init {f CS : Addr} {fd : FuncData} (F : Fun K "__init__" "Space.__init__" s_Space___init__ f fd) (MC : SpaceC K CS) : FnOk P w K mg base CX0 1 f fd ["self"] (spSpaceInit CS) := by
  refine F.ok sc_Space___init__ (fun vs H Q E h => ?_) (fun cdv A outer s H vs Q E hr h => ?_)
  · obtain ⟨p, dx, rfl, _⟩ := h
    rfl
  · obtain ⟨p, dx, rfl, hp, q⟩ := h
    refine ⟨_, (pss_one (ps_fld (pv 0) pe_dnewK rfl)), ?_⟩
    intro d1 hd1
    have n1 : p ≠ d1 := ne_of_none hp hd1
    refine ⟨_, rfl, p, CS, dx, _, rfl, same_new hd1 _ _ hp, MC.cl, MC.ns, by show 0 < 1000; decide, ?_⟩
    refine q _ d1 ((But.of_same (same_new hd1)).trans But.upd) hd1 upd_same ?_
    rw [upd_ne (Ne.symm n1)]
    exact upd_same
theorem ok_KSpace_init {f f1 CS CB : Addr} {fd fd1 : FuncData} (F : Fun K "__init__" "KeptSpace.__init__" s_KeptSpace___init__ f fd) (MC : SpaceC K CS) (hSp : mg "Space" = some (.ref CB)) (SS : SupI K CB "__init__" f1) (okS : FnOk P w K mg base CX0 1 f1 fd1 ["self"] (spSpaceInit CS)) (bS : Binds K fd1 ["self"] []) :
    FnOk P w K mg base CX0 2 f fd ["self"] (spKSpaceInit CS) := by
  refine F.ok sc_KeptSpace___init__ (fun vs H Q E h => ?_) (fun cdv A outer s H vs Q E hr h => ?_)
  · obtain ⟨p, dx, rfl, _⟩ := h
    rfl
  · obtain ⟨p, dx, rfl, hp, q⟩ := h
    refine ⟨_, (pss_cons (ps_expr (pe_sup (pe_globR (by rfl) hSp) SS okS (hr.mono (by decide)) bS .nil pass0 (pa_cons (pv 0) pa_nil)))
      (pss_one (ps_fld (pv 0) pe_dnewK rfl))), ?_⟩
    refine ⟨rfl, _, rfl, p, dx, rfl, hp, fun H1 s1 b1 hs1 hp1 e1 => ?_⟩
    intro d1 hd1
    have n1 : p ≠ d1 := ne_of_none hp1 hd1
    refine ⟨_, rfl, p, CS, dx, _, rfl, same_new hd1 _ _ hp1, MC.cl, MC.nw, by show 1 < 1000; decide, ?_⟩
    have ns : s1 ≠ p := fun z => by rw [z, hp1] at e1; cases e1
    have hd0 : H d1 = none := But.gone b1 hd1 (Ne.symm n1)
    refine q _ dx s1 d1 ((b1.trans (But.of_same (same_new hd1))).trans But.upd) hs1 hd0 upd_same ?_ ?_
    · rw [upd_ne ns]
      exact same_new hd1 _ _ e1
    · rw [upd_ne (Ne.symm n1)]
      exact upd_same
theorem ok_Kept_init {f f1 CK CS : Addr} {fd fd1 : FuncData} (F : Fun K "__init__" "Kept.__init__" s_Kept___init__ f fd) (MC : KeptC K CK) (m_KeptSpace : HasC P w K mg base "KeptSpace" CS 2 ["self"] (spKSpaceInit CS) f1 fd1) : FnOk P w K mg base CX0 4 f fd ["self"] (spKeptInit CK CS) := by
  refine F.ok sc_Kept___init__ (fun vs H Q E h => ?_) (fun cdv A outer s H vs Q E hr h => ?_)
  · obtain ⟨p, dx, rfl, _⟩ := h
    rfl
  · obtain ⟨p, dx, rfl, hp, q⟩ := h
    refine ⟨_, (pss_cons (ps_fld (pv 0) pe_int rfl)
      (pss_cons (ps_fld (pv 0) (pe_makeH0 m_KeptSpace (hr.mono (by first | decide | omega)) (by rfl)) rfl)
      (pss_cons (ps_fld (pv 0) pe_dnewK rfl)
      (pss_one (ps_fld (pv 0) pe_dnewK rfl))))), ?_⟩
    refine ⟨_, rfl, p, CK, dx, _, rfl, hp, MC.cl, MC.ns, by show 0 < 1000; decide, fun k dk hk0 hdk nk => ⟨k, dk, rfl, upd_same, fun H1 dk2 s1 w1 b1 hs1 hw1 e1 e2 e3 => ⟨rfl, ?_⟩⟩⟩
    have hk1 : upd (upd H p (.ins CK dx (putF "steps" (.int 0) []))) dk (.own k) k = none := by
      rw [upd_ne (Ne.symm nk)]
      exact hk0
    have S0 : Same (upd H p (.ins CK dx (putF "steps" (.int 0) []))) (upd (upd (upd H p (.ins CK dx (putF "steps" (.int 0) []))) dk (.own k)) k (.ins CS dk [])) := (same_new hdk).trans (same_new hk1)
    have Sa : Same (upd H p (.ins CK dx (putF "steps" (.int 0) []))) H1 := fun a o e => b1 a o (S0 _ _ e) (ne_of_none e hk0)
    have hp1 := Sa _ _ (upd_same (H := H) (a := p) (o := .ins CK dx (putF "steps" (.int 0) [])))
    have npk : p ≠ k := ne_of_none upd_same hk0
    refine ⟨_, rfl, p, CK, dx, _, rfl, hp1, MC.cl, MC.np, by show 1 < 1000; decide, fun d2 hd2 => ?_⟩
    have n2 : p ≠ d2 := ne_of_none upd_same hd2
    refine ⟨_, rfl, p, CK, dx, _, rfl, same_new hd2 _ _ upd_same, MC.cl, MC.nb, by show 2 < 1000; decide, fun d3 hd3 => ?_⟩
    have n3 : p ≠ d3 := ne_of_none upd_same hd3
    refine ⟨_, rfl, p, CK, dx, _, rfl, same_new hd3 _ _ upd_same, MC.cl, MC.na, by show 3 < 1000; decide, ?_⟩
    have B0 : But p H (upd H p (.ins CK dx (putF "steps" (.int 0) []))) := But.upd
    have B1 := B0.trans (But.of_same (p := p) Sa)
    have B2 := B1.trans (But.upd (p := p) (o := .ins CK dx (putF "space" (.ref k) (putF "steps" (.int 0) []))))
    have B3 := B2.trans (But.of_same (p := p) (same_new (o := .dK []) hd2))
    have B4 := B3.trans (But.upd (p := p) (o := .ins CK dx (putF "bodies" (.ref d2) (putF "space" (.ref k) (putF "steps" (.int 0) [])))))
    have g1 : H k = none := But.gone B0 hk0 (Ne.symm npk)
    have g2 : H d2 = none := But.gone B2 hd2 (Ne.symm n2)
    have g3 : H d3 = none := But.gone B4 hd3 (Ne.symm n3)
    have nsp : s1 ≠ p := fun z => by rw [z, hp1] at e2; cases e2
    have nwp : w1 ≠ p := fun z => by rw [z, hp1] at e3; cases e3
    have g4 : H s1 = none := But.gone (B0.trans (But.of_same (p := p) S0)) hs1 nsp
    have g5 : H w1 = none := But.gone (B0.trans (But.of_same (p := p) S0)) hw1 nwp
    have BF := (((But.upd (H := H1) (p := p) (o := .ins CK dx (putF "space" (.ref k) (putF "steps" (.int 0) [])))).trans (But.of_same (p := p) (same_new (o := .dK []) hd2))).trans (But.upd (p := p) (o := .ins CK dx (putF "bodies" (.ref d2) (putF "space" (.ref k) (putF "steps" (.int 0) [])))))).trans (But.of_same (p := p) (same_new (o := .dK []) hd3))
    have BG := BF.trans (But.upd (p := p) (o := .ins CK dx (keptF (.int 0) (.ref k) (.ref d2) (.ref d3))))
    refine q _ ((B4.trans (But.of_same (p := p) (same_new (o := .dK []) hd3))).trans But.upd) ⟨dx, k, d2, d3, ⟨g1, g2, g3⟩, upd_same, ⟨dk2, s1, w1, ⟨g1, g4, g5⟩, BG _ _ e1 (Ne.symm npk), BG _ _ e2 nsp, BG _ _ e3 nwp⟩, ?_, ?_⟩
    · rw [upd_ne (Ne.symm n2)]
      refine same_new hd3 _ _ ?_
      rw [upd_ne (Ne.symm n2)]
      exact upd_same
    · rw [upd_ne (Ne.symm n3)]
      exact upd_same
end
end K


set_option Elab.async false
set_option linter.all false
set_option maxRecDepth 100000
set_option maxHeartbeats 4000000
/-! a dict's comprehension over whatever is walked -/
namespace U
open PySem PySem.Spec PyProof.Rows L2
/-- what one turn of it does, the heap behind it as N says -/
abbrev DcTurn (g : TG) (tt : TT) (tk tv : TE) (vs : List Nat) (σ : L2.St) (D : Addr) (N : Hp → Prop) (x : V) (H' : Hp) : Prop :=
  g x (wipe σ vs) H' fun σ2 H2 => wipe σ2 vs = wipe σ vs ∧ tt σ2 H2 fun b H3 =>
    if b = true then tk σ2 H3 fun y H4 => tv σ2 H4 fun z H5 => ∃ kvs k, y = kV k ∧ H5 D = some (.dK kvs) ∧ kvs.length < sizeLine ∧ N (upd H5 D (.dK (putK kvs k z))) else N H3
theorem dc_do {J : It} {n : Nat} {G : Hp → Prop} {Y : Nat → Hp → V → Hp → Prop} (wk : Walk J n G Y) {g : TG} {tt : TT} {tk tv : TE} {vs : List Nat} {σ : L2.St} {H1 : Hp} {D : Addr} {Qd : Hp → Prop} (Pv : Nat → Hp → Prop)
    (start : Pv 0 (upd H1 D (.dK []))) (stays : ∀ i Hi, i ≤ n → Pv i Hi → G Hi) (turn : ∀ i x Hi H', i < n → Pv i Hi → Y i Hi x H' → DcTurn g tt tk tv vs σ D (Pv (i + 1)) x H') (stop : ∀ Hi, Pv n Hi → Qd Hi) :
    ∃ W : Nat → Nat → Hp → Prop, (∃ m, W 0 m (upd H1 D (.dK []))) ∧ ∀ i m Hi, W i m Hi → (J.stop i Hi ∧ Qd Hi) ∨ (J.go i Hi ∧ ∃ Nx : Hp → Prop, (∀ H', Nx H' → ∃ m', m' < m ∧ W (i + 1) m' H') ∧ ∀ x H', J.yld i Hi x H' → DcTurn g tt tk tv vs σ D Nx x H') := by
  refine ⟨fun i m Hi => i + m = n ∧ Pv i Hi, ⟨n, Nat.zero_add n, start⟩, fun i m Hi hW => ?_⟩
  obtain ⟨him, hP⟩ := hW
  have hGi := stays i Hi (by omega) hP
  match m, him with
  | 0, him =>
    obtain rfl : i = n := by omega
    exact .inl ⟨wk.stops Hi hGi, stop Hi hP⟩
  | m + 1, him =>
    have hin : i < n := by omega
    exact .inr ⟨wk.goes i Hi hin hGi, Pv (i + 1), fun H' hN => ⟨m, by omega, by omega, hN⟩, fun x H' hy => turn i x Hi H' hin hP (wk.yields i Hi x H' hin hGi hy)⟩
end U

set_option Elab.async false
set_option linter.all false
set_option maxRecDepth 100000
set_option maxHeartbeats 4000000
/-! a def with positional defaults, by its body; an own class with an __eq__ -/
namespace U
open PySem PySem.Spec PyProof.Rows L2
section
variable {P : Program} {w : World} {K : PySem.W.Frag} {mg : Str → Option Value} {base : Heap} {x qual : Str} {params : Arguments} {body : List Stmt} {scope : Scope} {dvs : List V} {kws : List (Str × V)} {f : Addr} {fd : FuncData}
theorem FunD.ok0 {N ps : List Str} {k : Nat} {sp : Sp} (F : FunD K x qual params body scope dvs kws f fd) (S : FnScope N ps scope) (len : ∀ vs H Q E, sp vs H Q E → vs.length = ps.length)
    (hbody : ∀ (cdv : Value) (A : Around) (outer : List Env) (s : Shared) (H : Hp) (vs : List V) (Q : VK) (E : XK), Room k (A.deeper (envOfC qual scope s.heap.objs.size f cdv)) → sp vs H Q E →
      ∃ t, PSs (cxOf CX0 P w K mg base N qual scope f cdv A outer s H E).nox body t ∧ t { nx := fun _ H' => Q .non H', rt := Q } (start N vs) H) : FnOk P w K mg base CX0 (k + 1) f fd ps sp := by
  obtain ⟨oc, od, dV, kV, doc, pm, an, cdv, ct, osl, rfl, lk, hcd, _, _⟩ := F.ex
  refine fn_of lk hcd S len fun A outer s H vs Q E hr hsp => ?_
  obtain ⟨t, h, q⟩ := hbody cdv A outer s H vs Q E hr hsp
  exact ⟨t, h.nox, q⟩
end
/-- an own class with an __eq__: what else stands of it -/
structure OwnC (K : PySem.W.Frag) (C : Addr) : Prop where
  nb : PySem.W.findIn K (.ref C) "__bool__" = some none
  ne : PySem.W.findIn K (.ref C) "__ne__" = some (some (.builtin "object.__ne__"))
  no : PySem.W.subIn K (.ref C) (.type "NoneType") = some false
  ns : PySem.W.subIn K (.ref C) (.type "str") = some false
  ob : PySem.W.subIn K (.ref C) (.type "object") = some true
  ty : ∀ (H : Hp) (a dx : Addr) (fs : List (Str × V)), H a = some (.ins C dx fs) → TyX K H (.ref a) (.ref C)
  self : PySem.W.kitOne K (.ref C) (.ref C) = some true
  kN : PySem.W.kitOne K (.type "NoneType") (.ref C) = some false
  kS : PySem.W.kitOne K (.type "str") (.ref C) = some false
end U

set_option Elab.async false
set_option linter.all false
set_option maxRecDepth 100000
set_option maxHeartbeats 4000000
namespace K
open PySem PySem.Spec PyProof.Rows L2 U SkE
/-- the class House as the top has made it -/
structure HouseC (K : PySem.W.Frag) (C : Addr) : Prop where
  cl : Cls K C
  np : NoAttr K C "_parts"
  nd : NoAttr K C "_deeds"
  nk : NoAttr K C "_kept"
def houseF (p d k : V) : List (Str × V) := putF "_kept" k (putF "_deeds" d (putF "_parts" p []))
theorem ne_h1 : ¬ (("_parts" : Str) = "_deeds") := by decide +kernel
theorem ne_h2 : ¬ (("_parts" : Str) = "_kept") := by decide +kernel
theorem ne_h3 : ¬ (("_deeds" : Str) = "_kept") := by decide +kernel
section
variable (p d k : V)
theorem hF_parts : (houseF p d k).lookup ("_parts" : Str) = some p := by
  unfold houseF
  rw [lookup_putF, if_neg ne_h2, lookup_putF, if_neg ne_h1, lookup_putF, if_pos rfl]
theorem hF_deeds : (houseF p d k).lookup ("_deeds" : Str) = some d := by
  unfold houseF
  rw [lookup_putF, if_neg ne_h3, lookup_putF, if_pos rfl]
theorem hF_kept : (houseF p d k).lookup ("_kept" : Str) = some k := by
  unfold houseF
  rw [lookup_putF, if_pos rfl]
end
def IsRef (v : V) (a : Addr) : Prop := v = .ref a
/-- how a house is made of a list of rows, each a name and what stands at a place -/
def SqLst : Hp → Addr → Addr → List V → Prop := fun H p l xs => l ≠ p ∧ H l = some (.lst xs)
def SqTup (K : PySem.W.Frag) : Hp → Addr → Addr → List V → Prop := fun H p l xs => ∀ H', But p H H' → SqT K H' l xs
def spHouseInit (Sq : Hp → Addr → Addr → List V → Prop) (CH CK CS : Addr) : Sp := fun vs H Q _ => ∃ (p dx l : Addr) (ts : List Addr) (rs : List (List Nat × Addr)), vs = [.ref p, .ref l] ∧ H p = some (.ins CH dx []) ∧ Sq H p l (ts.map V.ref) ∧
  Paired (fun t (r : List Nat × Addr) => t ≠ p ∧ H t = some (.tup [.str (tx r.1), .ref r.2])) ts rs ∧ rs.length ≤ 100 ∧
  ∀ H' dx' aP aD k kvs, But p H H' → H' p = some (.ins CH dx' (houseF (.ref aP) (.ref aD) (.ref k))) → H aP = none → H aD = none → H k = none → aP ≠ aD → aP ≠ k → aD ≠ k → H' aP = some (.dK kvs) → PairK IsRef kvs (putAll [] rs) → H' aD = some (.lst []) → Kept0 (fun a => H a = none) CK CS H' k → Q .non H'
theorem row_at {ts : List Addr} {rs : List (List Nat × Addr)} {F : Addr → List Nat × Addr → Prop} (h : Paired F ts rs) : ∀ {i : Nat} {x : V}, (ts.map V.ref)[i]? = some x → ∃ t r, x = .ref t ∧ rs[i]? = some r ∧ F t r := by
  induction h with
  | nil => intro i x hx; simp at hx
  | @cons t r _ _ h _ ih =>
    intro i x hx
    cases i with
    | zero => exact ⟨t, r, (Option.some.inj hx).symm, rfl, h⟩
    | succ i => exact ih hx
section
variable {P : Program} {w : World} {K : PySem.W.Frag} {mg : Str → Option Value} {base : Heap} {dW dB : Addr} {esW : Array DictEntry} {nW : Nat} (T : Txt K mg w dW dB esW nW)
include T
theorem ok_House_init {f f1 CH CK CS : Addr} {fd fd1 : FuncData} {dvs : List V} (F : FunD K "__init__" "House.__init__" (defArgs s_House___init__) (defBody s_House___init__) (defScope s_House___init__) dvs [] f fd) (MC : HouseC K CH) (m_Kept : HasC P w K mg base "Kept" CK 4 ["self"] (spKeptInit CK CS) f1 fd1) :
    FnOk P w K mg base CX0 6 f fd ["self", "parts"] (spHouseInit SqLst CH CK CS) := by
  refine FunD.ok0 F sc_House___init__ (fun vs H Q E h => ?_) (fun cdv A outer s H vs Q E hr h => ?_)
  · obtain ⟨p, dx, l, ts, rs, rfl, _⟩ := h
    rfl
  · obtain ⟨p, dx, l, ts, rs, rfl, hp, ⟨nl, hl⟩, hts, hrl, q⟩ := h
    have hu := hu_of hr
    refine ⟨_, (pss_cons (ps_fld (pv 0) (pe_dc (own := [("name", 2), ("term", 3)]) (g := gTup K 2 (gCons (gName 2) (gCons (gName 3) gNil))) (tt := tYes) rfl sc_House___init__.nd (pi_list (pv 1)) (blkOk_by (N := nm_House___init__) (sc := defScope s_House___init__) (by decide +kernel)) (fun _ _ _ _ _ => pg_tup rfl (pgs_cons (pg_name (i := 2) sc_House___init__.nd rfl (.inl rfl)) (pgs_cons (pg_name (i := 3) sc_House___init__.nd rfl (.inl rfl)) pgs_nil))) (fun _ _ _ _ _ => pts_nil) (fun _ _ _ _ _ => (pv 2)) (fun _ _ _ _ _ => (pv 3))) rfl)
      (pss_cons (ps_fld (pv 0) (pe_lst pa_nil) rfl)
      (pss_one (ps_fld (pv 0) (pe_makeH0 m_Kept (hr.mono (by first | decide | omega)) (by rfl)) rfl)))), ?_⟩
    refine ⟨_, rfl, l, rfl, ⟨_, .inl (.inl hl)⟩, fun D hD => dc_do (g := gTup K 2 (gCons (gName 2) (gCons (gName 3) gNil))) (tt := tYes) (tk := tVar 2) (tv := tVar 3) (vs := [2, 3]) (walk_list (xs := ts.map V.ref)) (fun i H' => But p H H' ∧ H' p = some (.ins CH dx []) ∧ ∃ kvs, H' D = some (.dK kvs) ∧ PairK IsRef kvs (putAll [] (rs.take i))) ?_ ?_ ?_ ?_⟩
    · exact ⟨But.of_same (same_new hD), same_new hD _ _ hp, [], upd_same, .nil⟩
    · rintro i Hi _ ⟨b, _⟩
      exact .inl (.inl (b _ _ hl nl))
    · rintro i x Hi H' hi ⟨b, hpp, kvs, hk, pk⟩ ⟨rfl, hx⟩
      obtain ⟨t, r, rfl, hr, nt, et⟩ := row_at hts hx
      have kl : kvs.length ≤ 100 := by
        have h1 : kvs.length = _ := Paired.length pk
        have h2 := putAll_len (α := Addr) [] (rs.take i)
        rw [List.length_take] at h2
        have : ([] : List (List Nat × Addr)).length = 0 := rfl
        omega
      refine ⟨t, _, rfl, .inl (.inl (b _ _ et nt)), rfl, _, _, rfl, _, _, rfl, rfl, rfl, ?_⟩
      unfold tYes
      refine iteT ?_
      refine ⟨_, rfl, _, rfl, kvs, .inr (tx r.1), rfl, hk, sizeLine_ge (by show kvs.length + 1 ≤ 10000; omega), But.updN b hD, ?_, _, upd_same, ?_⟩
      · rw [upd_ne (ne_of_none hp hD)]
        exact hpp
      · rw [List.take_succ, hr]
        show PairK IsRef _ (putAll [] (rs.take i ++ [r]))
        rw [putAll_add]
        exact pk.put rfl
    · rintro Hi ⟨b, hpp, kvs, hk, pk⟩
      have hlen : (ts.map V.ref).length = rs.length := by rw [List.length_map, hts.length]
      rw [hlen, List.take_length] at pk
      have nD : p ≠ D := ne_of_none hp hD
      refine ⟨_, rfl, p, CH, dx, _, rfl, hpp, MC.cl, MC.np, by show 0 < 1000; decide, sizeLine_ge (by show 0 ≤ 10000; decide), fun d hd => ?_⟩
      have nd : p ≠ d := ne_of_none upd_same hd
      refine ⟨_, rfl, p, CH, dx, _, rfl, same_new hd _ _ upd_same, MC.cl, MC.nd, by show 1 < 1000; decide, fun k dk hk0 hdk nk => ⟨k, dk, rfl, upd_same, fun H' b' k0 => ⟨rfl, ?_⟩⟩⟩
      have npk : p ≠ k := ne_of_none upd_same hk0
      have npd : p ≠ dk := ne_of_none upd_same hdk
      have hk1 : upd (upd (upd (upd Hi p (.ins CH dx (putF "_parts" (.ref D) []))) d (.lst [])) p (.ins CH dx (putF "_deeds" (.ref d) (putF "_parts" (.ref D) [])))) dk (.own k) k = none := by
        rw [upd_ne (Ne.symm nk)]
        exact hk0
      have S : Same (upd (upd (upd Hi p (.ins CH dx (putF "_parts" (.ref D) []))) d (.lst [])) p (.ins CH dx (putF "_deeds" (.ref d) (putF "_parts" (.ref D) [])))) H' := fun a o e => b' a o (same_new hk1 _ _ (same_new hdk _ _ e)) (ne_of_none e hk0)
      have B1 := b.trans (But.upd (p := p) (o := .ins CH dx (putF "_parts" (.ref D) [])))
      have B2 := (B1.trans (But.of_same (same_new (o := .lst []) hd))).trans (But.upd (p := p) (o := .ins CH dx (putF "_deeds" (.ref d) (putF "_parts" (.ref D) []))))
      have hD1 : upd Hi p (.ins CH dx (putF "_parts" (.ref D) [])) D = some (.dK kvs) := by
        rw [upd_ne (Ne.symm nD)]
        exact hk
      have nDd : D ≠ d := ne_of_none hD1 hd
      have hD3 : upd (upd (upd Hi p (.ins CH dx (putF "_parts" (.ref D) []))) d (.lst [])) p (.ins CH dx (putF "_deeds" (.ref d) (putF "_parts" (.ref D) []))) D = some (.dK kvs) := by
        rw [upd_ne (Ne.symm nD)]
        exact same_new hd _ _ hD1
      have hd3 : upd (upd (upd Hi p (.ins CH dx (putF "_parts" (.ref D) []))) d (.lst [])) p (.ins CH dx (putF "_deeds" (.ref d) (putF "_parts" (.ref D) []))) d = some (.lst []) := by
        rw [upd_ne (Ne.symm nd)]
        exact upd_same
      have hp3 := S _ _ (upd_same (H := upd (upd Hi p (.ins CH dx (putF "_parts" (.ref D) []))) d (.lst [])) (a := p) (o := .ins CH dx (putF "_deeds" (.ref d) (putF "_parts" (.ref D) []))))
      refine ⟨_, rfl, p, CH, dx, _, rfl, hp3, MC.cl, MC.nk, by show 2 < 1000; decide, ?_⟩
      refine q _ dx D d k kvs ((B2.trans (But.of_same S)).trans But.upd) upd_same hD (But.gone B1 hd (Ne.symm nd)) (But.gone B2 hk0 (Ne.symm npk)) nDd (ne_of_none hD3 hk0) (ne_of_none hd3 hk0) ?_ pk ?_ ?_
      · rw [upd_ne (Ne.symm nD)]
        exact S _ _ hD3
      · rw [upd_ne (Ne.symm nd)]
        exact S _ _ hd3
      · refine k0.but But.upd (Ne.symm npk) (fun a ha z => ?_) (fun a ha => ?_)
        · rw [z, same_new hk1 _ _ (same_new hdk _ _ upd_same)] at ha
          cases ha
        · exact But.gone ((B2.trans (But.of_same (p := p) (same_new hdk))).trans (But.of_same (p := p) (same_new hk1))) ha fun z => by
            rw [z, same_new hk1 _ _ (same_new hdk _ _ upd_same)] at ha
            cases ha
end
end K


set_option Elab.async false
set_option linter.all false
set_option maxRecDepth 100000
set_option maxHeartbeats 4000000
namespace K
open PySem PySem.Spec PyProof.Rows L2 U SkE
inductive Deed where
  | wr (n l : List Nat)
  | st (n : List Nat)
def Deed.row : Deed → List V
  | .wr n l => [.str (Str.ofString "write"), .str (tx n), .str (tx l)]
  | .st n => [.str (Str.ofString "strike"), .str (tx n)]
/-- a house: the dict of its parts, its deeds, what it has kept -/
structure HouseAt (R : V → U.Tm → Prop) (CH p dx aP aD k : Addr) (H : Hp) (rows : List (List Nat × U.Tm)) (deeds : List Deed) : Prop where
  hp : H p = some (.ins CH dx (houseF (.ref aP) (.ref aD) (.ref k)))
  parts : ∃ kvs, H aP = some (.dK kvs) ∧ PairK R kvs rows
  deeds : ∃ ds, H aD = some (.lst (ds.map V.ref)) ∧ Paired (fun d (e : Deed) => ∃ q v, H d = some (.tup [.ref q, v]) ∧ H q = some (.tup e.row)) ds deeds
def spHLen (CH : Addr) : Sp := fun vs H Q _ => ∃ (R : V → U.Tm → Prop) (p dx aP aD k : Addr) (rows : List (List Nat × U.Tm)) (deeds : List Deed), vs = [.ref p] ∧ HouseAt R CH p dx aP aD k H rows deeds ∧ Q (.int rows.length) H
def spHPast (CH : Addr) : Sp := fun vs H Q _ => ∃ (R : V → U.Tm → Prop) (p dx aP aD k : Addr) (rows : List (List Nat × U.Tm)) (deeds : List Deed), vs = [.ref p] ∧ HouseAt R CH p dx aP aD k H rows deeds ∧ deeds.length ≤ 1000 ∧
  ∀ l H' qs, Same H H' → H l = none → H' l = some (.lst (qs.map V.ref)) → Paired (fun q (e : Deed) => H' q = some (.tup e.row)) qs deeds → Q (.ref l) H'
def spHParts (CH : Addr) : Sp := fun vs H Q _ => ∃ (R : V → U.Tm → Prop) (p dx aP aD k : Addr) (rows : List (List Nat × U.Tm)) (deeds : List Deed), vs = [.ref p] ∧ HouseAt R CH p dx aP aD k H rows deeds ∧ rows.length < 64 ∧ NodR rows ∧
  ∀ l H' as srt, Same H H' → H l = none → H' l = some (.lst (as.map V.ref)) → srt.Perm rows → sortedS (srt.map fun r => tx r.1) = true → Paired (fun a (r : List Nat × U.Tm) => ∃ v, R v r.2 ∧ H' a = some (.tup [.str (tx r.1), v])) as srt → Q (.ref l) H'
theorem ref_at {β : Type} {F : Addr → β → Prop} {ts : List Addr} {rs : List β} (h : Paired F ts rs) : ∀ {i : Nat} {x : V}, (ts.map V.ref)[i]? = some x → ∃ t r, x = .ref t ∧ rs[i]? = some r ∧ F t r := by
  induction h with
  | nil => intro i x hx; simp at hx
  | @cons t r _ _ h _ ih =>
    intro i x hx
    cases i with
    | zero => exact ⟨t, r, (Option.some.inj hx).symm, rfl, h⟩
    | succ i => exact ih hx
section
variable {P : Program} {w : World} {K : PySem.W.Frag} {mg : Str → Option Value} {base : Heap} {dW dB : Addr} {esW : Array DictEntry} {nW : Nat} (T : Txt K mg w dW dB esW nW)
include T
theorem ok_House_len {f CH : Addr} {fd : FuncData} (F : Fun K "__len__" "House.__len__" s_House___len__ f fd) (MC : HouseC K CH) : FnOk P w K mg base CX0 1 f fd ["self"] (spHLen CH) := by
  refine F.ok sc_House___len__ (fun vs H Q E h => ?_) (fun cdv A outer s H vs Q E hr h => ?_)
  · obtain ⟨R, p, dx, aP, aD, k, rows, deeds, rfl, _⟩ := h
    rfl
  · obtain ⟨R, p, dx, aP, aD, k, rows, deeds, rfl, HA, q⟩ := h
    obtain ⟨kvs, hk, pk⟩ := HA.parts
    refine ⟨_, (pss_one (ps_ret (pe_callB call_lenD (by rfl) T.z_len (by decide +kernel) (pa_cons (pe_fld (pv 0) (by rfl)) pa_nil)))), ?_⟩
    refine ⟨_, rfl, p, CH, dx, _, _, rfl, HA.hp, MC.cl, MC.np, hF_parts _ _ _, aP, _, rfl, hk, ?_⟩
    rw [show kvs.length = rows.length from Paired.length pk]
    exact q
theorem ok_House_past {f CH : Addr} {fd : FuncData} (F : Fun K "past" "House.past" s_House_past f fd) (MC : HouseC K CH) : FnOk P w K mg base CX0 1 f fd ["self"] (spHPast CH) := by
  refine F.ok sc_House_past (fun vs H Q E h => ?_) (fun cdv A outer s H vs Q E hr h => ?_)
  · obtain ⟨R, p, dx, aP, aD, k, rows, deeds, rfl, _⟩ := h
    rfl
  · obtain ⟨R, p, dx, aP, aD, k, rows, deeds, rfl, HA, hn, q⟩ := h
    obtain ⟨ds, hd, pd⟩ := HA.deeds
    refine ⟨_, (pss_one (ps_ret (pe_lc (own := [("deed", 1), ("_", 2)]) (g := gTup K 2 (gCons (gName 1) (gCons (gName 2) gNil))) (tt := tYes) rfl sc_House_past.nd (pi_list (pe_fld (pv 0) (by rfl))) (blkOk_by (N := nm_House_past) (sc := defScope s_House_past) (by decide +kernel)) (fun _ _ _ _ _ => pg_tup rfl (pgs_cons (pg_name (i := 1) sc_House_past.nd rfl (.inl rfl)) (pgs_cons (pg_name (i := 2) sc_House_past.nd rfl (.inl rfl)) pgs_nil))) (fun _ _ _ _ _ => pts_nil) (fun _ _ _ _ _ => (pv 1))))), ?_⟩
    refine ⟨_, rfl, p, CH, dx, _, _, rfl, HA.hp, MC.cl, MC.nd, hF_deeds _ _ _, aD, rfl, ⟨_, .inl (.inl hd)⟩, fun D hD => lc_it (walk_list (xs := ds.map V.ref)) (fun i H' => Same H H' ∧ ∃ qs, H' D = some (.lst (qs.map V.ref)) ∧ Paired (fun q (e : Deed) => H q = some (.tup e.row)) qs (deeds.take i)) ?_ ?_ ?_ ?_⟩
    · exact ⟨same_new hD, [], upd_same, .nil⟩
    · rintro i Hi _ ⟨s1, _⟩
      exact .inl (.inl (s1 _ _ hd))
    · rintro i x Hi H' hi ⟨s1, qs, hq, pq⟩ ⟨rfl, hx⟩
      obtain ⟨d, e, rfl, he, qa, v, hd1, hd2⟩ := ref_at pd hx
      refine ⟨d, _, rfl, .inl (.inl (s1 _ _ hd1)), rfl, _, _, rfl, _, _, rfl, rfl, rfl, ?_⟩
      unfold tYes
      have ql : qs.length ≤ 1000 := by
        have h1 := pq.length
        rw [List.length_take] at h1
        omega
      refine iteT ⟨_, rfl, _, hq, by rw [List.length_map]; exact sizeLine_ge (by show qs.length + 1 ≤ 10000; omega), fun b o hb => ?_, qs ++ [qa], by rw [upd_same, List.map_append]; rfl, ?_⟩
      · rw [upd_ne (ne_of_none hb hD)]
        exact s1 _ _ hb
      · rw [List.take_succ, he]
        exact Paired.app pq (.cons hd2 .nil)
    · rintro Hi ⟨s1, qs, hq, pq⟩
      rw [List.length_map, pd.length, List.take_length] at pq
      exact q D Hi qs s1 hD hq (Paired.mapP pq fun a e h => s1 _ _ h)
theorem ok_House_parts {f CH : Addr} {fd : FuncData} (F : Fun K "parts" "House.parts" s_House_parts f fd) (MC : HouseC K CH) : FnOk P w K mg base CX0 1 f fd ["self"] (spHParts CH) := by
  refine F.ok sc_House_parts (fun vs H Q E h => ?_) (fun cdv A outer s H vs Q E hr h => ?_)
  · obtain ⟨R, p, dx, aP, aD, k, rows, deeds, rfl, _⟩ := h
    rfl
  · obtain ⟨R, p, dx, aP, aD, k, rows, deeds, rfl, HA, hn, nd, q⟩ := h
    have hu := hu_of hr
    obtain ⟨kvs, hk, pk⟩ := HA.parts
    refine ⟨_, (pss_one (ps_ret (pe_lc (own := [("name", 1)]) (g := gName 1) (tt := tYes) (te := (tTup (tCons (tVar 1) (tCons (tDGet (tFld K (tVar 0) "_parts") (tVar 1)) tNil)))) rfl sc_House_parts.nd (pi_list (pe_callB (call_sortedD rfl) (by rfl) T.z_sorted (by decide +kernel) (pa_cons (pe_fld (pv 0) (by rfl)) pa_nil))) (blkOk_by (N := nm_House_parts) (sc := defScope s_House_parts) (by decide +kernel)) (fun _ _ _ _ _ => pg_name (i := 1) sc_House_parts.nd rfl (.inl rfl)) (fun _ _ _ _ _ => pts_nil) (fun _ _ _ _ _ => (pe_tup (pa_cons (pv 1) (pa_cons (pe_dget (by exact hu) (pe_fld (pv 0) (by rfl)) (pv 1) (fun _ _ => rfl)) pa_nil))))))), ?_⟩
    refine ⟨_, rfl, p, CH, dx, _, _, rfl, HA.hp, MC.cl, MC.np, hF_parts _ _ _, aP, kvs, _, rfl, .inl hk, pk.keys, by rw [List.length_map]; exact hn, fun ys s0 hy hs hs0 => ?_⟩
    rw [show (rows.map fun r => tx r.1) = (rows.map (·.1)).map tx by rw [List.map_map]; rfl] at hy
    obtain ⟨ns, rfl, hns⟩ := names_of hy
    have s1 : Same H (upd H s0 (.lst ((ns.map tx).map V.str))) := same_new hs0
    have es : upd H s0 (.lst ((ns.map tx).map V.str)) s0 = some (.lst ((ns.map tx).map V.str)) := upd_same
    generalize upd H s0 (.lst ((ns.map tx).map V.str)) = H1 at s1 es ⊢
    have nl : ns.length = rows.length := by rw [hns.length_eq, List.length_map]
    refine ⟨s0, rfl, ⟨_, .inl (.inl es)⟩, fun D hD => lc_do (walk_list (xs := (ns.map tx).map V.str)) (fun i H' => Same H1 H' ∧ ∃ as : List Addr, H' D = some (.lst (as.map V.ref)) ∧ Paired (fun a (r : List Nat × U.Tm) => ∃ v, R v r.2 ∧ H' a = some (.tup [.str (tx r.1), v])) as (byNames (.atom .num []) rows (ns.take i))) (fun _ => rfl) ⟨same_new hD, [], upd_same, .nil⟩ (fun _ H' _ h => .inl (.inl (h.1 _ _ es))) ?_ ?_⟩
    · rintro i x Hi H' hi ⟨s2, as, ha, pa⟩ ⟨rfl, hx⟩
      rw [List.getElem?_map, List.getElem?_map] at hx
      obtain ⟨n, hn1, hn2⟩ : ∃ n, ns[i]? = some n ∧ V.str (tx n) = x := by
        cases e : ns[i]? with
        | none => rw [e] at hx; cases hx
        | some n => rw [e] at hx; exact ⟨n, rfl, Option.some.inj hx⟩
      subst hn2
      have hm : n ∈ rows.map (·.1) := hns.mem_iff.mp (List.mem_of_getElem? hn1)
      obtain ⟨r, hr, rfl⟩ := List.mem_map.mp hm
      have hg := getR_mem nd hr
      rcases pk.get r.1 with ⟨h1, _⟩ | ⟨t, v, h1, h2, h3⟩
      · rw [hg] at h1
        cases h1
      · have et : r.2 = t := Option.some.inj (hg.symm.trans h1)
        subst et
        have al : as.length ≤ 64 := by
          have h4 := pa.length
          unfold byNames at h4
          rw [List.length_map, List.length_take] at h4
          omega
        have s12 : Same H H' := fun a o e => s2 _ _ (s1 _ _ e)
        refine ⟨_, rfl, _, rfl, p, CH, dx, _, _, rfl, s12 _ _ HA.hp, MC.cl, MC.np, hF_parts _ _ _, _, rfl, aP, v, rfl, .inl ⟨kvs, .inr (tx r.1), .inl (s12 _ _ hk), rfl, h2.symm⟩, sizeLine_ge (by show 2 ≤ 10000; decide), fun u hu0 => ?_⟩
        have su := same_new (o := .tup [.str (tx r.1), v]) hu0
        have nu : u ≠ D := Ne.symm (ne_of_none ha hu0)
        refine ⟨_, su _ _ ha, by rw [List.length_map]; exact sizeLine_ge (by show as.length + 1 ≤ 10000; omega), fun a o e => ?_, as ++ [u], by rw [upd_same, List.map_append]; rfl, ?_⟩
        · rw [upd_ne (ne_of_none e hD)]
          exact su _ _ (s2 _ _ e)
        · have e1 : byNames (.atom .num []) rows (ns.take (i + 1)) = byNames (.atom .num []) rows (ns.take i) ++ [r] := by
            unfold byNames
            rw [List.take_succ, hn1, List.map_append]
            show _ ++ [(r.1, (getR rows r.1).getD _)] = _
            rw [hg]
            rfl
          rw [e1]
          refine Paired.app (Paired.mapP pa fun a r' h => ?_) (.cons ⟨v, h3, ?_⟩ .nil)
          · obtain ⟨v', g1, g2⟩ := h
            refine ⟨v', g1, ?_⟩
            rw [upd_ne fun z => ?_]
            · exact su _ _ g2
            · rw [z, ha] at g2
              cases g2
          · rw [upd_ne nu]
            exact upd_same
    · rintro Hi ⟨s2, as, ha, pa⟩
      have s12 : Same H Hi := fun a o e => s2 _ _ (s1 _ _ e)
      have nD : H D = none := by
        cases e : H D with
        | none => rfl
        | some o =>
          rw [s1 _ _ e] at hD
          cases hD
      rw [List.length_map, List.length_map, List.take_length] at pa
      refine q D Hi as _ s12 nD ha (byNames_perm _ nd hns) ?_ pa
      have e2 : (byNames (.atom .num []) rows ns).map (fun r => tx r.1) = ((byNames (.atom .num []) rows ns).map (·.1)).map tx := by rw [List.map_map]; rfl
      rw [e2, byNames_names]
      exact hs
end
end K


set_option Elab.async false
set_option linter.all false
set_option maxRecDepth 100000
set_option maxHeartbeats 4000000
namespace K
open PySem PySem.Spec PyProof.Rows L2 U SkE
/-- a method of a class's own: where it is found, how it is called, what it promises -/
structure HasM (P : Program) (w : World) (K : PySem.W.Frag) (mg : Str → Option Value) (base : Heap) (C : Addr) (m : Str) (k : Nat) (ps : List Str) (sp : Sp) (f : Addr) (fd : FuncData) : Prop where
  at_ : PySem.W.findIn K (.ref C) m = some (some (.ref f))
  fn : PySem.W.isFn K (.ref f) = true
  bi : Binds K fd ps []
  ok : FnOk P w K mg base CX0 k f fd ps sp
/-- the same, called by o.m() -/
structure HasT (P : Program) (w : World) (K : PySem.W.Frag) (mg : Str → Option Value) (base : Heap) (C : Addr) (m : Str) (k : Nat) (ps : List Str) (sp : Sp) (f : Addr) (fd : FuncData) : Prop where
  me : Meth K C m f
  bi : Binds K fd ps []
  ok : FnOk P w K mg base CX0 k f fd ps sp
def hRepr (n : Nat) : Str := Str.empty ++ Str.ofString "House(" ++ Str.ofString (toString (n : Int)) ++ Str.ofString " " ++ (if n = 1 then Str.ofString "part" else Str.ofString "parts") ++ Str.ofString ")"
def hLine (r : List Nat × U.Tm) : Str := Str.empty ++ tx r.1 ++ Str.ofString " " ++ tx r.2.pr ++ Str.ofString "\n"
def spHRepr (CH : Addr) : Sp := fun vs H Q _ => ∃ (R : V → U.Tm → Prop) (p dx aP aD k : Addr) (rows : List (List Nat × U.Tm)) (deeds : List Deed), vs = [.ref p] ∧ HouseAt R CH p dx aP aD k H rows deeds ∧ rows.length ≤ 1000 ∧ Q (.str (hRepr rows.length)) H
def spHStr (CH CT C : Addr) : Sp := fun vs H Q _ => ∃ (p dx aP aD k : Addr) (rows : List (List Nat × U.Tm)) (deeds : List Deed), vs = [.ref p] ∧ HouseAt (fun v t => ∃ a, v = .ref a ∧ TermAt CT C H t a) CH p dx aP aD k H rows deeds ∧ rows.length < 64 ∧ NodR rows ∧ (∀ r ∈ rows, r.1.length ≤ 100 ∧ r.2.pr.length ≤ 9000) ∧
  ∀ (H' : Hp) (srt : List (List Nat × U.Tm)), Same H H' → srt.Perm rows → sortedS (srt.map fun r => tx r.1) = true → Q (.str (Txt.join (Str.ofString "") (srt.map hLine))) H'
section
variable {P : Program} {w : World} {K : PySem.W.Frag} {mg : Str → Option Value} {base : Heap} {dW dB : Addr} {esW : Array DictEntry} {nW : Nat} (T : Txt K mg w dW dB esW nW)
include T
theorem ok_House_repr {f CH : Addr} {fd : FuncData} (F : Fun K "__repr__" "House.__repr__" s_House___repr__ f fd) (MC : HouseC K CH) : FnOk P w K mg base CX0 1 f fd ["self"] (spHRepr CH) := by
  refine F.ok sc_House___repr__ (fun vs H Q E h => ?_) (fun cdv A outer s H vs Q E hr h => ?_)
  · obtain ⟨R, p, dx, aP, aD, k, rows, deeds, rfl, _⟩ := h
    rfl
  · obtain ⟨R, p, dx, aP, aD, k, rows, deeds, rfl, HA, hl, q⟩ := h
    obtain ⟨kvs, hk, pk⟩ := HA.parts
    have kl : kvs.length = rows.length := Paired.length pk
    refine ⟨_, (pss_cons (ps_set (i := 1) sc_House___repr__.nd rfl (.inl rfl) (pe_ifExp (pt_cmpR op_eq (pe_callB call_lenD (by rfl) T.z_len (by decide +kernel) (pa_cons (pe_fld (pv 0) (by rfl)) pa_nil)) pe_int (nomark _)) pe_str pe_str))
      (pss_one (ps_ret (pe_joined (.cons pe_str (.cons (pe_fmt (pe_callB call_lenD (by rfl) T.z_len (by decide +kernel) (pa_cons (pe_fld (pv 0) (by rfl)) pa_nil))) (.cons pe_str (.cons (pe_fmt (pv 1)) (.cons pe_str .nil))))))))), ?_⟩
    refine ⟨_, rfl, p, CH, dx, _, _, rfl, HA.hp, MC.cl, MC.np, hF_parts _ _ _, aP, _, rfl, hk, ?_⟩
    have e0 : Str.empty.length = 0 := rfl
    have e1 : (Str.ofString "House(").length = 6 := by decide +kernel
    have e2 : (Str.ofString " ").length = 1 := by decide +kernel
    have e3 : (Str.ofString ")").length = 1 := by decide +kernel
    have e4 : (Str.ofString "part").length = 4 := by decide +kernel
    have e5 : (Str.ofString "parts").length = 5 := by decide +kernel
    have hb : (Str.ofString (toString (kvs.length : Int))).length ≤ 13 := by
      obtain ⟨l, h1, h2⟩ := num_text (i := (kvs.length : Int)) (by show kvs.length < _; omega)
      rw [h1, tx_len]
      rcases h2 with rfl | ⟨d, ds, h, _, hl, _⟩
      · decide
      · rcases h with rfl | rfl <;> simp <;> omega
    have lg : ((kvs.length : Int)).natAbs.log2 < 1920 := Nat.lt_of_le_of_lt (Nat.log2_le_self _) (by show kvs.length < 1920; omega)
    refine ⟨rfl, _, rfl, ite2 (fun h => ?_) (fun h => ?_)⟩
    · have h1 : rows.length = 1 := by
        have := of_decide_eq_true h
        rw [← kl]
        have := V.int.inj this
        omega
      refine ⟨_, rfl, by rw [str_app_len]; exact sizeLine_ge (by omega), _, rfl, p, CH, dx, _, _, rfl, HA.hp, MC.cl, MC.np, hF_parts _ _ _, aP, _, rfl, hk, .inr ⟨_, rfl, lg, _, rfl, by rw [str_app_len, str_app_len]; exact sizeLine_ge (by omega), _, rfl, by rw [str_app_len, str_app_len, str_app_len]; exact sizeLine_ge (by omega), _, rfl, .inl ⟨_, rfl, sizeLine_ge (by omega), _, rfl, by rw [str_app_len, str_app_len, str_app_len, str_app_len]; exact sizeLine_ge (by omega), _, rfl, by rw [str_app_len, str_app_len, str_app_len, str_app_len, str_app_len]; exact sizeLine_ge (by omega), ?_⟩⟩⟩
      unfold hRepr at q
      rw [if_pos h1, ← kl] at q
      exact q
    · have h1 : ¬ rows.length = 1 := by
        intro z
        refine h (decide_eq_true ?_)
        rw [kl, z]
        rfl
      refine ⟨_, rfl, by rw [str_app_len]; exact sizeLine_ge (by omega), _, rfl, p, CH, dx, _, _, rfl, HA.hp, MC.cl, MC.np, hF_parts _ _ _, aP, _, rfl, hk, .inr ⟨_, rfl, lg, _, rfl, by rw [str_app_len, str_app_len]; exact sizeLine_ge (by omega), _, rfl, by rw [str_app_len, str_app_len, str_app_len]; exact sizeLine_ge (by omega), _, rfl, .inl ⟨_, rfl, sizeLine_ge (by omega), _, rfl, by rw [str_app_len, str_app_len, str_app_len, str_app_len]; exact sizeLine_ge (by omega), _, rfl, by rw [str_app_len, str_app_len, str_app_len, str_app_len, str_app_len]; exact sizeLine_ge (by omega), ?_⟩⟩⟩
      unfold hRepr at q
      rw [if_neg h1, ← kl] at q
      exact q
theorem ok_House_str {f f1 f2 CH CT C : Addr} {fd fd1 fd2 : FuncData} (F : Fun K "__str__" "House.__str__" s_House___str__ f fd) (MC : HouseC K CH) (hTs : HasM P w K mg base CT "__str__" 1 ["self"] (spTermStr CT C) f1 fd1) (hTf : PySem.W.findIn K (.ref CT) "__format__" = some (some (.builtin "object.__format__"))) (hTm : PySem.W.mroIn K CT (.type "object") = some true)
    (hPa : HasT P w K mg base CH "parts" 1 ["self"] (spHParts CH) f2 fd2) : FnOk P w K mg base CX0 3 f fd ["self"] (spHStr CH CT C) := by
  refine F.ok sc_House___str__ (fun vs H Q E h => ?_) (fun cdv A outer s H vs Q E hr h => ?_)
  · obtain ⟨p, dx, aP, aD, k, rows, deeds, rfl, _⟩ := h
    rfl
  · obtain ⟨p, dx, aP, aD, k, rows, deeds, rfl, HA, hl, nd, hz, q⟩ := h
    refine ⟨_, (pss_one (ps_ret (pe_join pe_str (pe_lc (own := [("name", 1), ("term", 2)]) (g := gTup K 2 (gCons (gName 1) (gCons (gName 2) gNil))) (tt := tYes) rfl sc_House___str__.nd (pi_list (pe_meth0 (pv 0) MC.cl hPa.me hPa.ok (hr.mono (by decide)) hPa.bi .nil pass0)) (blkOk_by (N := nm_House___str__) (sc := defScope s_House___str__) (by decide +kernel)) (fun _ _ _ _ _ => pg_tup rfl (pgs_cons (pg_name (i := 1) sc_House___str__.nd rfl (.inl rfl)) (pgs_cons (pg_name (i := 2) sc_House___str__.nd rfl (.inl rfl)) pgs_nil))) (fun _ _ _ _ _ => pts_nil) (fun _ _ _ _ _ => (pe_joined (.cons (pe_fmt (pv 1)) (.cons pe_str (.cons (pe_fmtOwn hTs.ok hTs.bi pass0 hTs.at_ hTs.fn hTf hTm (hr.mono (by decide)) (pv 2)) (.cons pe_str .nil)))))))))), ?_⟩
    have e1 : (Str.ofString " ").length = 1 := by decide +kernel
    have e2 : (Str.ofString "\n").length = 1 := by decide +kernel
    have e3 : (Str.ofString "").length = 0 := by decide +kernel
    have e0 : Str.empty.length = 0 := rfl
    refine ⟨⟨_, rfl⟩, _, rfl, p, dx, _, rfl, HA.hp, by first | rfl | decide +kernel, _, p, dx, aP, aD, k, rows, deeds, rfl, HA, hl, nd, fun l H1 as srt s1 nl el hp hs pa => ?_⟩
    refine ⟨l, rfl, ⟨_, .inl (.inl el)⟩, fun D hD => lc_it (g := gTup K 2 (gCons (gName 1) (gCons (gName 2) gNil))) (tt := tYes) (te := fun σ H Q => tJs [tFmt (tVar 1), tC (V.str (Str.ofString " ")), tFmtOwn CT (spTermStr CT C) E0 (tVar 2), tC (V.str (Str.ofString "\n"))] Str.empty σ H fun out H1 => Q (V.str out) H1) (vs := [1, 2]) (walk_list (xs := as.map V.ref)) (fun i H' => Same H1 H' ∧ H' D = some (.lst (((srt.take i).map hLine).map V.str))) ?_ ?_ ?_ ?_⟩
    · exact ⟨same_new hD, upd_same⟩
    · rintro i Hi _ ⟨s2, _⟩
      exact .inl (.inl (s2 _ _ el))
    · rintro i x Hi H' hi ⟨s2, hq⟩ ⟨rfl, hx⟩
      obtain ⟨t, r, rfl, hr, v, ⟨a, rfl, hT⟩, ht⟩ := ref_at pa hx
      refine ⟨t, _, rfl, .inl (.inl (s2 _ _ ht)), rfl, _, _, rfl, _, _, rfl, rfl, rfl, ?_⟩
      unfold tYes
      have s12 : Same H H' := fun a o e => s2 _ _ (s1 _ _ e)
      have hT' := hT.same s12
      obtain ⟨dxa, qa, ra, qsa, zsa, ha, _⟩ := id hT'
      have rm := hz r (hp.mem_iff.mp (List.mem_of_getElem? hr))
      have z1 : (tx r.1).length ≤ 100 := by rw [tx_len]; exact rm.1
      have z2 : (tx r.2.pr).length ≤ 9000 := by rw [tx_len]; exact rm.2
      refine iteT ⟨_, rfl, .inl ⟨_, rfl, sizeLine_ge (by omega), _, rfl, by rw [str_app_len]; exact sizeLine_ge (by omega), _, rfl, by rw [str_app_len, str_app_len]; exact sizeLine_ge (by omega), _, rfl, a, dxa, _, rfl, ha, r.2, a, rfl, hT', _, rfl, _, rfl, by rw [str_app_len, str_app_len, str_app_len]; exact sizeLine_ge (by omega), _, rfl, by rw [str_app_len, str_app_len, str_app_len, str_app_len]; exact sizeLine_ge (by omega), _, hq, ?_, fun b o hb => ?_, ?_⟩⟩
      · rw [List.length_map, List.length_map, List.length_take]
        have := hp.length_eq
        exact sizeLine_ge (by show _ + 1 ≤ 10000; omega)
      · rw [upd_ne (ne_of_none hb hD)]
        exact s2 _ _ hb
      · rw [upd_same, List.take_succ, hr, List.map_append, List.map_append]
        rfl
    · rintro Hi ⟨s2, hq⟩
      rw [List.length_map, pa.length, List.take_length] at hq
      have sl := hp.length_eq
      refine ⟨_, D, srt.map hLine, rfl, rfl, .inl (.inl (.inl hq)), ?_, ?_⟩
      · have e4 : ((srt.map hLine).map (·.length)).sum ≤ srt.length * 9200 := by
          have hz' : ∀ r ∈ srt, r.1.length ≤ 100 ∧ r.2.pr.length ≤ 9000 := fun r hr => hz r (hp.mem_iff.mp hr)
          clear hq hs pa sl hp
          induction srt with
          | nil => simp
          | cons r srt ih =>
            have h1 := ih fun r hr => hz' r (List.mem_cons_of_mem _ hr)
            have h2 := hz' r List.mem_cons_self
            have h3 : (hLine r).length ≤ 9200 := by
              unfold hLine
              rw [str_app_len, str_app_len, str_app_len, str_app_len, tx_len r.1, tx_len r.2.pr]
              omega
            rw [List.map_cons, List.map_cons, List.sum_cons, List.length_cons, Nat.succ_mul]
            omega
        rw [e3, Nat.mul_zero]
        omega
      · exact q Hi srt (fun a o e => s2 _ _ (s1 _ _ e)) hp hs
end
end K


set_option Elab.async false
set_option linter.all false
set_option maxRecDepth 100000
set_option maxHeartbeats 4000000
/-! x == y of two of a class without an __eq__: whether they are one -/
namespace U
open PySem PySem.Spec PyProof.Rows L2
section
open PySem.W
variable {prog : Program} {w : World} {A : Around} {E : Value → Shared → Prop} {s : Shared} {K : Frag} {x y C : Addr} {ox oy : Obj} {od oe : Option Obj}
theorem inst_cls (I : InstAt s.heap x ox C od) : s.heap.get? x = some ox ∧ ox.cls = .ref C := ⟨I.1, I.2⟩
theorem call_id (X : K.In s.heap) (I : InstAt s.heap x ox C od) (J : InstAt s.heap y oy C oe) (hm : mroIn K C (.type "object") = some true) {Q : Value → Shared → Prop} (h1 : x = y → Q (.bool true) s) (h2 : x ≠ y → Q .notImplemented s) :
    wpAny (model prog w) A (call (.builtin "object.__eq__") [.ref x, .ref y]) Q E s := by
  refine wpAny_call (codeAny_call_builtin F.cmp_object.eq.plain F.cmpEntry_eq (check_slot F.cmpKind_eq F.cmpSplit_eq (I.type.andThen (looks_mroIn X hm)) (F.cmpArgs_eq _ _) ?_))
  by_cases e : x = y
  · subst e
    exact objEq_entry_same (h1 rfl)
  · obtain ⟨g1, c1⟩ := inst_cls I
    exact objEq_entry_other e g1 (inst_cls J).1 (by rw [c1]; intro z; cases z) (h2 e)
theorem try_id (X : K.In s.heap) (I : InstAt s.heap x ox C od) (J : InstAt s.heap y oy C oe) (hm : mroIn K C (.type "object") = some true) (hs : findIn K (.ref C) "__eq__" = some (some (.builtin "object.__eq__"))) {Q : Option Value → Shared → Prop} (h1 : x = y → Q (some (.bool true)) s) (h2 : x ≠ y → Q none s) :
    wpAny (model prog w) A (tryCompare (.ref x) "__eq__" (.ref y)) Q E s := by
  unfold tryCompare
  exact wpAny_bind (HN.ifBound_objEq X I hs (call_id X I J hm (fun e => wpAny_pure (h1 e)) fun e => wpAny_pure (h2 e)))
theorem eq_id (hu : A.units < cLine) (X : K.In s.heap) (I : InstAt s.heap x ox C od) (J : InstAt s.heap y oy C oe) (hm : mroIn K C (.type "object") = some true) (hs : findIn K (.ref C) "__eq__" = some (some (.builtin "object.__eq__"))) {Q : Value → Shared → Prop}
    (h : Q (.bool (decide (x = y))) s) : wpAny (model prog w) A (richCompare .Eq (.ref x) (.ref y)) Q E s := by
  unfold richCompare
  simp only [oneThing_ref, cmpInfo_Eq]
  refine wpAny_holding (wpAny_bind (wpAny_cRoomFor hu ?_))
  refine wpAny_bind (I.type.here (wpAny_bind (J.type.here ?_)))
  rw [if_neg (show ¬ ((Value.ref C != Value.ref C) = true) by simp)]
  refine wpAny_bind (wpAny_pure ?_)
  simp only [Bool.false_eq_true, if_false, Bool.not_false, if_true]
  refine wpAny_bind (try_id X I J hm hs (fun e => ?_) fun e => ?_)
  · rw [decide_eq_true e] at h
    exact wpAny_pure h
  · rw [decide_eq_false e] at h
    refine wpAny_bind (try_id X J I hm hs (fun z => absurd z.symm e) fun _ => ?_)
    obtain ⟨g1, c1⟩ := inst_cls I
    exact wpAny_bind (wpAny_rule (wpAny_bind (wpAny_isSame_ref_other e g1 (inst_cls J).1 (by rw [c1]; intro z; cases z) (wpAny_pure h))))
end
section
variable {X : Cx} {C : Addr}
/-- x == y of two of this class: whether they are one -/
def rEqId (C : Addr) : R2 := fun x y H Q => ∃ (a b da db : Addr) (fa fb : List (Str × V)), x = .ref a ∧ y = .ref b ∧ H a = some (.ins C da fa) ∧ H b = some (.ins C db fb) ∧ Q (.bl (decide (a = b))) H
theorem op_eqId (hu : X.A.units < cLine) (hm : PySem.W.mroIn X.K C (.type "object") = some true) (hs : PySem.W.findIn X.K (.ref C) "__eq__" = some (some (.builtin "object.__eq__"))) : OpR X (compareOp .Eq) (rEqId C) := by
  intro pins s σ H x y v u Q I rx ry h
  obtain ⟨a, b, da, db, fa, fb, rfl, rfl, ha, hb, q⟩ := h
  cases (show v = Value.ref a from rx)
  cases (show u = Value.ref b from ry)
  obtain ⟨_, _, Ja⟩ := inst_of I ha
  obtain ⟨_, _, Jb⟩ := inst_of I hb
  exact eq_id hu I.kIn Ja Jb hm hs ⟨.bl _, H, I, rfl, q⟩
end
end U

set_option Elab.async false
set_option linter.all false
set_option maxRecDepth 100000
set_option maxHeartbeats 4000000
/-! sorted(a set of texts), of any number -/
namespace U
open PySem PySem.Spec PyProof.Rows L2
section
variable {P : Program} {w : World} {A : Around} {E : Value → Shared → Prop} {s : Shared} {a : Addr}
theorem sorted_setA {l : List Str} {Q : Value → Shared → Prop} (R : SetS w s.heap a l) (hh : A.handled = none) (hz : l.length ≤ sizeLine)
    (fin : ∀ s' p (out : Array Value) (c : Nat) (ys : List Str), (∀ b o, s.heap.get? b = some o → s'.heap.get? b = some o) → s'.gens = s.gens → s'.os = s.os → s.heap.objs.size ≤ p →
      s'.heap.get? p = some (seqObj "list" out c) → StrsAre out.toList ys → ys.Perm l → sortedS ys = true → Q (.ref p) s') :
    wpAny (model P w) A (call (.builtin "sorted") [.ref a]) Q E s := by
  obtain ⟨ob, es, ep, tb, ⟨o1, o2, o3⟩, ⟨e1, e2, e3⟩, ⟨e4, e5⟩, e6, e7⟩ := R
  refine Calls.call_function_entry kind_sorted plain_sorted entry_sorted (args_sorted1 _) ?_
  unfold Builtin.«sorted»
  refine wpAny_bind (m := checkCount "sorted" 1 1 _) (wpAny_pure (wpAny_bind (collect_set (A := A.in1) hh ⟨ob, o1, o2.1, o3⟩ e5 e4 e6 e7 fun s1 vs k1 z1 g1 p1 pm => ?_)))
  have len : vs.length = l.length := by
    have q1 := pm.length_eq
    have q2 := e2.length_eq
    simp only [List.length_map] at q1 q2
    omega
  have tx : StrsAre vs (vs.map fun v => textOf (0, v)) := texts_of (w := w) vs fun v hv => by
    obtain ⟨e, he, q⟩ := List.mem_map.mp (pm.mem_iff.mp hv)
    obtain ⟨x, u, h1, _⟩ := e1 e he
    exact ⟨x, u, q ▸ h1⟩
  have pl : (vs.map fun v => textOf (0, v)).Perm l := by
    have q := pm.map fun v => textOf (0, v)
    rw [List.map_map] at q
    exact q.trans e2
  refine wpAny_bind (wpAny_newList ?_ (by rw [len]; exact hz))
  have at1 : (s1.heap.push (seqObj "list" vs.toArray 0)).get? s1.heap.objs.size = some (seqObj "list" vs.toArray 0) := Heap.get?_push_size _ rfl
  refine wpAny_bind (wpAny_holding (wpAny_call_entry slot_list_sort ⟨_, at1, rfl⟩ entry_list_sort
    (list_sort_treeKAny strKind_oneLt at1 tx.keysOf (fun v₁ v₂ rest e => keyKind_strs (by rw [← e]; exact tx)) (by rw [len]; exact hz) fun st' hp hs => ?_) (args_list_sort _)))
  obtain ⟨ys, y1, y2, y3⟩ := sorted_out_str tx hp hs
  obtain ⟨c, hc⟩ := sortedHeap_at (vs := vs) (out := (arrOf st').map (·.2)) at1
  refine ⟨_, rfl, wpAny_pure ⟨_, rfl, fin _ s1.heap.objs.size _ c ys (fun b u e => ?_) g1 p1 z1 hc y1 (y2.trans pl) y3⟩⟩
  have old := k1 b u e
  have lt := Heap.lt_size old
  exact (sortedHeap_old (Nat.ne_of_lt lt) (by rw [size_push']; exact Nat.lt_succ_of_lt lt)).trans (Heap.get?_push_of_some _ old)
end
section
variable {X : Cx}
def rSortedOfA (w : World) : List V → Hp → VK → Prop := fun vs H Q => ∃ (a : Addr) (l : List Str), vs = [V.ref a] ∧ H a = some (SetSO w a l) ∧ l.length ≤ sizeLine ∧ ∀ (ys : List Str) (p : Addr), ys.Perm l → sortedS ys = true → H p = none → Q (.ref p) (upd H p (.lst (ys.map V.str)))
theorem cr_sortedOfA (hc : X.calm = true) : CallR X (.builtin "sorted") (rSortedOfA X.w) := by
  intro pins s σ H vs us Q I r h
  obtain ⟨a, l, rfl, ha, hz, go⟩ := h
  rw [Vals.ref1 r]
  refine sorted_setA (I.hok a _ ha).1 (I.ok.hd hc) hz fun s' p out c ys k g o hp at' st pm so => ?_
  have fr : H p = none := I.hok.fresh hp
  have sz : (ys.map V.str).length ≤ sizeLine := by
    rw [List.length_map, pm.length_eq]
    exact hz
  obtain ⟨h1, g1, d1, t1, o1⟩ := s'
  obtain rfl : o1 = s.os := o
  refine ⟨.ref p, upd H p (.lst (ys.map V.str)), ?_, rfl, go ys p pm so fr⟩
  exact I.call (ch := []) (Un.laid k hp fr) (I.hok.laid k hp ⟨sz, out.toList, c, vals_of_strs st, at'⟩) (by rw [show g1 = s.gens from g]; exact I.bare) (fun _ z => nomatch z)
end
/-- the sorted texts of these -/
def NamesIs (S : List Nat → Prop) (ys : List Str) : Prop := ys.Nodup ∧ sortedS ys = true ∧ ∀ x, x ∈ ys ↔ ∃ l, x = tx l ∧ S l
theorem NamesIs.uniq {S : List Nat → Prop} {a b : List Str} (h1 : NamesIs S a) (h2 : NamesIs S b) : a = b := by
  obtain ⟨a1, a2, a3⟩ := h1
  obtain ⟨b1, b2, b3⟩ := h2
  have p : a.Perm b := (List.perm_ext_iff_of_nodup a1 b1).mpr fun x => (a3 x).trans (b3 x).symm
  have ta : ∀ l : List Str, (l.map (·.cps.toList)).map tx = l := fun l => by
    rw [List.map_map]
    refine (List.map_congr_left fun z _ => ?_).trans (List.map_id l)
    exact (tx_of z).symm
  have := sorted_unique (p.map (·.cps.toList)) (by rw [ta]; exact a2) (by rw [ta]; exact b2)
  have := congrArg (List.map tx) this
  rwa [ta, ta] at this
/-- each once -/
def once : List (List Nat) → List (List Nat)
  | [] => []
  | [x] => [x]
  | x :: y :: r => if x = y then once (y :: r) else x :: once (y :: r)
end U

set_option Elab.async false
set_option linter.all false
set_option maxRecDepth 100000
set_option maxHeartbeats 4000000
namespace K
open PySem PySem.Spec PyProof.Rows L2 U SkE
theorem run_all {t s : List Nat} {m : Nat} (h1 : t.length ≤ m) (h2 : ∀ c ∈ t, c ∈ s) : runLen t s 0 m = t.length := by
  unfold runLen
  rw [List.drop_zero, List.take_of_length_le h1]
  have g : ∀ l : List Nat, (∀ c ∈ l, c ∈ s) → (l.takeWhile fun c => decide (c ∈ s)) = l := by
    intro l
    induction l with
    | nil => intro _; rfl
    | cons x r ih =>
      intro h
      rw [List.takeWhile_cons, if_pos (decide_eq_true (h x List.mem_cons_self)), ih fun c hc => h c (List.mem_cons_of_mem _ hc)]
  rw [g t h2]
def spRunName : Sp := fun vs H Q _ => ∃ (n : List Nat), vs = [.str (tx n), .str (tx greats), .int 6] ∧ GreatOk n ∧ Q (.bl true) H
def spPartName : Sp := fun vs H Q _ => ∃ (n : List Nat), vs = [.str (tx n)] ∧ GreatOk n ∧ Q (.bl true) H
def spRefuse (CT C : Addr) : Sp := fun vs H Q _ => ∃ (k : U.Tm) (p : Addr), vs = [.ref p] ∧ TermAt CT C H k p ∧ k.size ≤ 1000 ∧ (∀ y, ¬ k.Free y) ∧ ∀ H', Same H H' → Q .non H'
def spTermFr (CT C : Addr) : Sp := fun vs H Q _ => ∃ (k : U.Tm) (p : Addr), vs = [.ref p] ∧ TermAt CT C H k p ∧ k.size ≤ 1000 ∧ ∀ r H' ys, Same H H' → H r = none → H' r = some (.lst (ys.map V.str)) → FreeIs k ys → Q (.ref r) H'
def spHEq (K : PySem.W.Frag) (CH CK : Addr) : Sp := fun vs H Q _ => ∃ (p dx aP aD k : Addr) (y : V), vs = [.ref p, y] ∧ H p = some (.ins CH dx (houseF (.ref aP) (.ref aD) (.ref k))) ∧ (∃ dk fk, H k = some (.ins CK dk fk)) ∧
  ((∃ t, PySem.W.kitOne K t (.ref CH) = some false ∧ TyX K H y t ∧ Q (.bl false) H) ∨
   ∃ p2 dx2 aP2 aD2 k2, y = .ref p2 ∧ TyX K H y (.ref CH) ∧ PySem.W.kitOne K (.ref CH) (.ref CH) = some true ∧ H p2 = some (.ins CH dx2 (houseF (.ref aP2) (.ref aD2) (.ref k2))) ∧ (∃ dk fk, H k2 = some (.ins CK dk fk)) ∧ Q (.bl (decide (k = k2))) H)
def spHTerm (CH : Addr) : Sp := fun vs H Q _ => ∃ (R : V → U.Tm → Prop) (p dx aP aD k : Addr) (rows : List (List Nat × U.Tm)) (deeds : List Deed) (n : List Nat) (t : U.Tm), vs = [.ref p, .str (tx n)] ∧ HouseAt R CH p dx aP aD k H rows deeds ∧ GreatOk n ∧ getR rows n = some t ∧ ∀ v, R v t → Q v H
section
variable {P : Program} {w : World} {K : PySem.W.Frag} {mg : Str → Option Value} {base : Heap} {dW dB : Addr} {esW : Array DictEntry} {nW : Nat} (T : Txt K mg w dW dB esW nW)
include T
theorem ok_run_name {f fR : Addr} {fd fdR : FuncData} (F : Fun K "is_run" "is_run" s_is_run f fd) (h_run_end : Has P w K mg base "run_end" 1 ["text", "at", "signs", "most"] spRunEnd fR fdR) : FnOk P w K mg base CX0 2 f fd ["text", "signs", "most"] spRunName := by
  refine F.ok sc_is_run (fun vs H Q E h => ?_) (fun cdv A outer s H vs Q E hr h => ?_)
  · obtain ⟨n, rfl, _⟩ := h
    rfl
  · obtain ⟨n, rfl, hn, q⟩ := h
    have hl : (tx n).length ≤ sizeLine := by rw [tx_len]; exact sizeLine_ge (by have := hn.2.1; omega)
    have hl2 : n.length ≤ sizeLine := by rw [tx_len] at hl; exact hl
    have ne : n ≠ [] := fun z => by have := hn.1; rw [z] at this; simp at this
    refine ⟨_, (pss_one (ps_ret (pe_and (pe_cmpR op_ne (pv 0) pe_str (nomark _)) (pe_one (pe_cmpR op_eq (pe_callH h_run_end (hr.mono (by first | decide | omega)) (by rfl) (pa_cons (pv 0) (pa_cons pe_int (pa_cons (pv 1) (pa_cons (pv 2) pa_nil))))) (pe_callB call_len_str (by rfl) T.z_len (by decide +kernel) (pa_cons (pv 0) pa_nil)) (nomark _)))))), ?_⟩
    refine ⟨_, rfl, rfl, _, rfl, ?_⟩
    rw [tx_ne, decide_eq_false ne]
    refine iteT ⟨_, rfl, _, rfl, _, rfl, n, greats, 0, 6, rfl, hl2, _, rfl, _, rfl, hl, rfl, ?_⟩
    rw [run_all hn.2.1 hn.2.2, tx_len]
    have e : decide (V.int ((0 + n.length : Nat) : Int) = V.int (n.length : Int)) = true := decide_eq_true (by rw [Nat.zero_add])
    rw [e]
    exact q
theorem ok_part_name {f fR : Addr} {fd fdR : FuncData} (F : Fun K "is_part_name" "is_part_name" s_is_part_name f fd) (h_is_run : Has P w K mg base "is_run" 2 ["text", "signs", "most"] spRunName fR fdR) : FnOk P w K mg base CX0 3 f fd ["thing"] spPartName := by
  refine F.ok sc_is_part_name (fun vs H Q E h => ?_) (fun cdv A outer s H vs Q E hr h => ?_)
  · obtain ⟨n, rfl, _⟩ := h
    rfl
  · obtain ⟨n, rfl, hn, q⟩ := h
    refine ⟨_, (pss_one (ps_ret (pe_and (pe_callB call_isi (by rfl) T.z_isinstance (by decide +kernel) (pa_cons (pv 0) (pa_cons (pe_bltn (v := .ty "str") (u := .type "str") (by rfl) T.z_str (by decide +kernel) rfl) pa_nil))) (pe_one (pe_callH h_is_run (hr.mono (by first | decide | omega)) (by rfl) (pa_cons (pv 0) (pa_cons (pe_globS (by rfl) T.g_GREAT) (pa_cons (pe_globI (by rfl) T.g_MOST_GREAT) pa_nil)))))))), ?_⟩
    refine ⟨_, rfl, _, _, _, _, true, rfl, .ty "str", .base (.str (tx n)), kit_ty (by decide +kernel), true, rfl, ?_⟩
    refine iteT ⟨_, rfl, n, ?_, hn, q⟩
    rw [greats_tx]
    rfl
theorem ok_Term_fr {f C CT : Addr} {fd : FuncData} (F : Fun K "free_names" "Term.free_names" s_Term_free_names f fd) (MC : TermC K CT) (TC : TreeC K C) : FnOk P w K mg base CX0 1 f fd ["self"] (spTermFr CT C) := by
  refine F.ok sc_Term_free_names (fun vs H Q E h => ?_) (fun cdv A outer s H vs Q E hr h => ?_)
  · obtain ⟨k, p, rfl, _⟩ := h
    rfl
  · obtain ⟨k, p, rfl, ⟨dx, q0, r, qs, zs, h1, h2, h3, h4, h5, h6⟩, hs, q⟩ := h
    obtain ⟨ys, ⟨dxq, _, tf, n1, nf, n3⟩, n4⟩ := h2.free
    refine ⟨_, (pss_one (ps_ret (pe_callTy call_list_of (by rfl) T.z_list (by decide +kernel) (pa_cons (pe_fld (pe_fld (pv 0) (by rfl)) (by rfl)) pa_nil)))), ?_⟩
    exact ⟨_, rfl, p, CT, dx, _, _, rfl, h1, MC.cl, MC.nt, mF_tree _ _ _, q0, C, dxq, _, _, rfl, n1, TC.cl, TC.nf, nf, tf, _, rfl, .inr (.inl (.inl n3)), fun l hl => q l _ ys (same_new hl) hl upd_same n4⟩
theorem ok_refuse {f f1 C CT : Addr} {fd fd1 : FuncData} (F : Fun K "refuse_loose" "refuse_loose" s_refuse_loose f fd) (MT : TermC K CT) (hFr : HasT P w K mg base CT "free_names" 1 ["self"] (spTermFr CT C) f1 fd1) : FnOk P w K mg base CX0 2 f fd ["term"] (spRefuse CT C) := by
  refine F.ok sc_refuse_loose (fun vs H Q E h => ?_) (fun cdv A outer s H vs Q E hr h => ?_)
  · obtain ⟨k, p, rfl, _⟩ := h
    rfl
  · obtain ⟨k, p, rfl, hT, hs, hf, q⟩ := h
    obtain ⟨dx, q0, r, qs, zs, h1, _⟩ := id hT
    refine ⟨_, (pss_cons (ps_set (i := 1) sc_refuse_loose.nd rfl (.inl rfl) (pe_meth0 (pv 0) MT.cl hFr.me hFr.ok (hr.mono (by decide)) hFr.bi .nil pass0))
      (pss_one (ps_if (pt_truth (pv 1) (by intro _; rfl)) 
        (pss_one (ps_never)) pss_nil))), ?_⟩
    refine ⟨_, rfl, p, dx, _, rfl, h1, by first | rfl | decide +kernel, k, p, rfl, hT, hs, fun l H' ys s1 nl el fi => ?_⟩
    have e : ys = [] := by
      cases ys with
      | nil => rfl
      | cons y ys =>
        obtain ⟨l, _, hl⟩ := (fi.2.2 y).mp List.mem_cons_self
        exact absurd hl (hf l)
    subst e
    exact ⟨_, rfl, false, .inl ⟨[], .inl (.inl el), rfl⟩, iteF (q H' s1)⟩
theorem ok_House_eq {f CH CK : Addr} {fd : FuncData} (F : Fun K "__eq__" "House.__eq__" s_House___eq__ f fd) (MC : HouseC K CH) (hH : mg "House" = some (.ref CH)) (hKm : PySem.W.mroIn K CK (.type "object") = some true) (hKe : PySem.W.findIn K (.ref CK) "__eq__" = some (some (.builtin "object.__eq__"))) :
    FnOk P w K mg base CX0 1 f fd ["self", "other"] (spHEq K CH CK) := by
  refine F.ok sc_House___eq__ (fun vs H Q E h => ?_) (fun cdv A outer s H vs Q E hr h => ?_)
  · obtain ⟨p, dx, aP, aD, k, y, rfl, _⟩ := h
    rfl
  · obtain ⟨p, dx, aP, aD, k, y, rfl, hp, ⟨dk, fk, hk⟩, q⟩ := h
    have hu := hu_of hr
    refine ⟨_, (pss_one (ps_ret (pe_and (pe_callB call_isi (by rfl) T.z_isinstance (by decide +kernel) (pa_cons (pv 1) (pa_cons (pe_globR (by rfl) hH) pa_nil))) (pe_one (pe_cmpR (op_eqId (Nat.lt_of_succ_lt hu) hKm hKe) (pe_fld (pv 0) (by rfl)) (pe_fld (pv 1) (by rfl)) (nomark _)))))), ?_⟩
    rcases q with ⟨t, g1, g2, q⟩ | ⟨p2, dx2, aP2, aD2, k2, rfl, g1, g2, hp2, ⟨dk2, fk2, hk2⟩, q⟩
    · exact ⟨_, rfl, _, _, t, _, false, rfl, .own CH, g2, g1, false, rfl, iteF q⟩
    · exact ⟨_, rfl, _, _, _, _, true, rfl, .own CH, g1, g2, true, rfl, iteT ⟨_, rfl, p, CH, dx, _, _, rfl, hp, MC.cl, MC.nk, hF_kept _ _ _, _, rfl, p2, CH, dx2, _, _, rfl, hp2, MC.cl, MC.nk, hF_kept _ _ _, k, k2, dk, dk2, fk, fk2, rfl, rfl, hk, hk2, q⟩⟩
theorem ok_House_term {f f1 CH : Addr} {fd fd1 : FuncData} (F : Fun K "term_of" "House.term_of" s_House_term_of f fd) (MC : HouseC K CH) (h_is_part_name : Has P w K mg base "is_part_name" 3 ["thing"] spPartName f1 fd1) :
    FnOk P w K mg base CX0 4 f fd ["self", "name"] (spHTerm CH) := by
  refine F.ok sc_House_term_of (fun vs H Q E h => ?_) (fun cdv A outer s H vs Q E hr h => ?_)
  · obtain ⟨R, p, dx, aP, aD, k, rows, deeds, n, t, rfl, _⟩ := h
    rfl
  · obtain ⟨R, p, dx, aP, aD, k, rows, deeds, n, t, rfl, HA, hn, ht, q⟩ := h
    have hu := hu_of hr
    obtain ⟨kvs, hk, pk⟩ := HA.parts
    refine ⟨_, (pss_cons (ps_if (PW.pt (pw_or (pt_not (pt_val (pe_callH h_is_part_name (hr.mono (by first | decide | omega)) (by rfl) (pa_cons (pv 1) pa_nil)))) (pw_or1 (pt_cmp (pc_dnotin hu (pv 1) (pe_fld (pv 0) (by rfl))))))) 
        (pss_one (ps_never)) pss_nil)
      (pss_one (ps_ret (pe_dget hu (pe_fld (pv 0) (by rfl)) (pv 1) (fun _ _ => rfl))))), ?_⟩
    rcases pk.get n with ⟨h1, _⟩ | ⟨t', v, h1, h2, h3⟩
    · rw [ht] at h1
      cases h1
    · obtain rfl : t = t' := Option.some.inj (ht.symm.trans h1)
      refine ⟨_, rfl, n, rfl, hn, true, rfl, iteF ⟨_, rfl, _, rfl, p, CH, dx, _, _, rfl, HA.hp, MC.cl, MC.np, hF_parts _ _ _, aP, some v, rfl, .inl ⟨kvs, .inr (tx n), .inl hk, rfl, h2.symm⟩, _, rfl, iteF ?_⟩⟩
      exact ⟨_, rfl, p, CH, dx, _, _, rfl, HA.hp, MC.cl, MC.np, hF_parts _ _ _, _, rfl, aP, v, rfl, .inl ⟨kvs, .inr (tx n), .inl hk, rfl, h2.symm⟩, q v h3⟩
end
end K


set_option Elab.async false
set_option linter.all false
set_option maxRecDepth 100000
set_option maxHeartbeats 4000000
namespace K
open PySem PySem.Spec PyProof.Rows L2 U SkE
/-- all but two places stays -/
def But2 (p q : Addr) (H H' : Hp) : Prop := ∀ b o, H b = some o → b ≠ p → b ≠ q → H' b = some o
theorem HouseAt.fine {R S : V → U.Tm → Prop} {CH p dx aP aD k : Addr} {H : Hp} {rows : List (List Nat × U.Tm)} {deeds : List Deed} (h : HouseAt R CH p dx aP aD k H rows deeds) (m : ∀ v t, R v t → S v t) : HouseAt S CH p dx aP aD k H rows deeds := by
  obtain ⟨h1, ⟨kvs, h2, h3⟩, h4⟩ := h
  exact ⟨h1, ⟨kvs, h2, h3.mono m⟩, h4⟩
theorem HouseAt.same {R : V → U.Tm → Prop} {CH p dx aP aD k : Addr} {H H' : Hp} {rows : List (List Nat × U.Tm)} {deeds : List Deed} (h : HouseAt R CH p dx aP aD k H rows deeds) (s : Same H H') : HouseAt R CH p dx aP aD k H' rows deeds := by
  obtain ⟨h1, ⟨kvs, h2, h3⟩, ds, h4, h5⟩ := h
  exact ⟨s _ _ h1, ⟨kvs, s _ _ h2, h3⟩, ds, s _ _ h4, Paired.mapP h5 fun d e ⟨q, v, g1, g2⟩ => ⟨q, v, s _ _ g1, s _ _ g2⟩⟩
/-- one more deed, the dict as it is told -/
theorem HouseAt.next {R : V → U.Tm → Prop} {CH p dx aP aD k : Addr} {H H1 : Hp} {rows rows' : List (List Nat × U.Tm)} {deeds : List Deed} (h : HouseAt R CH p dx aP aD k H rows deeds) {e : Deed} {q d : Addr} {v : V} {ds : List Addr} {kvs' : List (Key × V)} (s : Same H H1) (hds : H aD = some (.lst (ds.map V.ref)))
    (pd : Paired (fun d (e : Deed) => ∃ q v, H d = some (.tup [.ref q, v]) ∧ H q = some (.tup e.row)) ds deeds) (hq : H1 q = some (.tup e.row)) (hd : H1 d = some (.tup [.ref q, v])) (pk : PairK R kvs' rows') (hk : ∃ kvs, H aP = some (.dK kvs)) :
    But2 aP aD H (upd (upd H1 aD (.lst (ds.map V.ref ++ [.ref d]))) aP (.dK kvs')) ∧ HouseAt R CH p dx aP aD k (upd (upd H1 aD (.lst (ds.map V.ref ++ [.ref d]))) aP (.dK kvs')) rows' (deeds ++ [e]) := by
  obtain ⟨kvs, hk⟩ := hk
  have hk1 := s _ _ hk
  have hds1 := s _ _ hds
  have ne : aP ≠ aD := fun z => by
    rw [z, hds1] at hk1
    cases hk1
  have other : ∀ {b : Addr} {o : HO}, H1 b = some o → (∀ l, o ≠ .lst l) → (∀ l, o ≠ .dK l) → upd (upd H1 aD (.lst (ds.map V.ref ++ [.ref d]))) aP (.dK kvs') b = some o := fun {b o} hb n1 n2 => by
    rw [upd_ne fun z => ?_, upd_ne fun z => ?_]
    · exact hb
    · rw [z, hds1] at hb
      exact n1 _ (Option.some.inj hb).symm
    · rw [z, hk1] at hb
      exact n2 _ (Option.some.inj hb).symm
  have tupo : ∀ {b : Addr} {xs : List V}, H1 b = some (.tup xs) → upd (upd H1 aD (.lst (ds.map V.ref ++ [.ref d]))) aP (.dK kvs') b = some (.tup xs) := fun hb => other hb (by intro l z; cases z) (by intro l z; cases z)
  refine ⟨fun b o hb n1 n2 => ?_, other (s _ _ h.hp) (by intro l z; cases z) (by intro l z; cases z), ⟨kvs', upd_same, pk⟩, ds ++ [d], ?_, ?_⟩
  · rw [upd_ne n1, upd_ne n2]
    exact s _ _ hb
  · rw [upd_ne (Ne.symm ne), upd_same, List.map_append]
    rfl
  · exact Paired.app (Paired.mapP pd fun d e ⟨q, v, g1, g2⟩ => ⟨q, v, tupo (s _ _ g1), tupo (s _ _ g2)⟩) (.cons ⟨q, v, tupo hd, tupo hq⟩ .nil)
def spHWrite (CH CT C : Addr) : Sp := fun vs H Q _ => ∃ (R : V → U.Tm → Prop) (p dx aP aD k : Addr) (rows : List (List Nat × U.Tm)) (deeds : List Deed) (n : List Nat) (t : U.Tm) (a : Addr), vs = [.ref p, .str (tx n), .ref a, .bl false] ∧ HouseAt R CH p dx aP aD k H rows deeds ∧ GreatOk n ∧ R (.ref a) t ∧ TermAt CT C H t a ∧ t.size ≤ 1000 ∧ (∀ y, ¬ t.Free y) ∧ rows.length < 60 ∧ deeds.length ≤ 1000 ∧
  ∀ H', But2 aP aD H H' → HouseAt R CH p dx aP aD k H' (putR rows n t) (deeds ++ [.wr n t.pr]) → Q .non H'
def spHStrike (CH : Addr) : Sp := fun vs H Q _ => ∃ (R : V → U.Tm → Prop) (p dx aP aD k : Addr) (rows : List (List Nat × U.Tm)) (deeds : List Deed) (n : List Nat) (t : U.Tm), vs = [.ref p, .str (tx n)] ∧ HouseAt R CH p dx aP aD k H rows deeds ∧ GreatOk n ∧ getR rows n = some t ∧ deeds.length ≤ 1000 ∧
  ∀ H', But2 aP aD H H' → HouseAt R CH p dx aP aD k H' (dropR rows n) (deeds ++ [.st n]) → Q .non H'
section
variable {P : Program} {w : World} {K : PySem.W.Frag} {mg : Str → Option Value} {base : Heap} {dW dB : Addr} {esW : Array DictEntry} {nW : Nat} (T : Txt K mg w dW dB esW nW)
include T
theorem ok_House_strike {f f1 CH : Addr} {fd fd1 : FuncData} (F : Fun K "strike" "House.strike" s_House_strike f fd) (MC : HouseC K CH) (hTo : HasT P w K mg base CH "term_of" 4 ["self", "name"] (spHTerm CH) f1 fd1) :
    FnOk P w K mg base CX0 5 f fd ["self", "name"] (spHStrike CH) := by
  refine F.ok sc_House_strike (fun vs H Q E h => ?_) (fun cdv A outer s H vs Q E hr h => ?_)
  · obtain ⟨R, p, dx, aP, aD, k, rows, deeds, n, t, rfl, _⟩ := h
    rfl
  · obtain ⟨R, p, dx, aP, aD, k, rows, deeds, n, t, rfl, HA, hn, ht, hdl, q⟩ := h
    have hu := hu_of hr
    obtain ⟨kvs, hk, pk⟩ := HA.parts
    obtain ⟨ds, hd, pd⟩ := HA.deeds
    have dl := pd.length
    refine ⟨_, (pss_cons (ps_set (i := 2) sc_House_strike.nd rfl (.inl rfl) (pe_meth (pv 0) MC.cl hTo.me hTo.ok (hr.mono (by first | decide | omega)) hTo.bi .nil pass0 (pa_cons (pv 1) pa_nil)))
      (pss_cons (ps_expr (pe_bm PySem.F.plainAttrs_list PySem.F.slot_list_append PySem.F.type_list_append mt_append (pe_fld (pv 0) (by rfl)) (pa_cons (pe_tup (pa_cons (pe_tup (pa_cons pe_str (pa_cons (pv 1) pa_nil))) (pa_cons (pv 2) pa_nil))) pa_nil)))
      (pss_one (ps_ddel (pe_fld (pv 0) (by rfl)) (pv 1))))), ?_⟩
    refine ⟨_, rfl, p, dx, _, rfl, HA.hp, by first | rfl | decide +kernel, _, rfl, R, p, dx, aP, aD, k, rows, deeds, n, t, rfl, HA, hn, ht, fun v hv => ?_⟩
    refine ⟨_, rfl, p, CH, dx, _, _, rfl, HA.hp, MC.cl, MC.nd, hF_deeds _ _ _, .inl ⟨rfl, _, .inl (.inl hd)⟩, ?_⟩
    refine ⟨_, rfl, sizeLine_ge (by show 2 ≤ 10000; decide), fun q1 hq1 => ⟨_, rfl, sizeLine_ge (by show 2 ≤ 10000; decide), fun d1 hd1 => ?_⟩⟩
    have s1 : Same H (upd (upd H q1 (.tup [V.str (Str.ofString "strike"), V.str (tx n)])) d1 (.tup [.ref q1, v])) := fun b o e => same_new hd1 _ _ (same_new hq1 _ _ e)
    have eq1 : upd (upd H q1 (.tup [V.str (Str.ofString "strike"), V.str (tx n)])) d1 (.tup [.ref q1, v]) q1 = some (.tup [V.str (Str.ofString "strike"), V.str (tx n)]) := same_new hd1 _ _ upd_same
    have ed1 : upd (upd H q1 (.tup [V.str (Str.ofString "strike"), V.str (tx n)])) d1 (.tup [.ref q1, v]) d1 = some (.tup [.ref q1, v]) := upd_same
    generalize upd (upd H q1 (.tup [V.str (Str.ofString "strike"), V.str (tx n)])) d1 (.tup [.ref q1, v]) = H2 at s1 eq1 ed1 ⊢
    have npD : p ≠ aD := fun z => by
      have := HA.hp
      rw [z, hd] at this
      cases this
    have nPD : aP ≠ aD := fun z => by
      rw [z, hd] at hk
      cases hk
    obtain ⟨B, HA'⟩ := HA.next (e := .st n) s1 hd pd eq1 ed1 (pk.drop n) ⟨_, hk⟩
    refine ⟨aD, _, _, rfl, rfl, s1 _ _ hd, by rw [List.length_map]; exact sizeLine_ge (by show ds.length + 1 ≤ 10000; omega), ?_⟩
    refine ⟨_, rfl, p, CH, dx, _, _, rfl, by rw [upd_ne npD]; exact s1 _ _ HA.hp, MC.cl, MC.np, hF_parts _ _ _, _, rfl, aP, kvs, .inr (tx n), rfl, by rw [upd_ne nPD]; exact s1 _ _ hk, rfl, ?_, q _ B HA'⟩
    rcases pk.get n with ⟨h1, _⟩ | ⟨t', v', h1, h2, h3⟩
    · rw [ht] at h1
      cases h1
    · rw [h2]
      rfl
theorem ok_House_write {f f1 f2 f3 CH CT C : Addr} {fd fd1 fd2 fd3 : FuncData} (F : Fun K "write" "House.write" s_House_write f fd) (MC : HouseC K CH) (h_is_part_name : Has P w K mg base "is_part_name" 3 ["thing"] spPartName f1 fd1) (h_refuse_loose : Has P w K mg base "refuse_loose" 2 ["term"] (spRefuse CT C) f2 fd2)
    (hS : HasM P w K mg base CT "__str__" 1 ["self"] (spTermStr CT C) f3 fd3) : FnOk P w K mg base CX0 4 f fd ["self", "name", "term", "new"] (spHWrite CH CT C) := by
  refine F.ok sc_House_write (fun vs H Q E h => ?_) (fun cdv A outer s H vs Q E hr h => ?_)
  · obtain ⟨R, p, dx, aP, aD, k, rows, deeds, n, t, a, rfl, _⟩ := h
    rfl
  · obtain ⟨R, p, dx, aP, aD, k, rows, deeds, n, t, a, rfl, HA, hn, hR, hT, hs, hf, hrl, hdl, q⟩ := h
    have hu := hu_of hr
    refine ⟨_, (pss_cons (ps_if (pt_not (pt_val (pe_callH h_is_part_name (hr.mono (by first | decide | omega)) (by rfl) (pa_cons (pv 1) pa_nil)))) 
        (pss_one (ps_never)) pss_nil)
      (pss_cons (ps_expr (pe_callH h_refuse_loose (hr.mono (by first | decide | omega)) (by rfl) (pa_cons (pv 2) pa_nil)))
      (pss_cons (ps_set (i := 4) sc_House_write.nd rfl (.inl rfl) (pe_cmp (pc_din hu (pv 1) (pe_fld (pv 0) (by rfl)))))
      (pss_cons (ps_if (PW.pt (pw_and (pt_val (pv 3)) (pw_and1 (pt_val (pv 4))))) 
        (pss_one (ps_never)) pss_nil)
      (Evl.pss_cut (ps_if (PW.pt (pw_and (pt_not (pt_val (pv 4))) (pw_and1 (pt_cmpR op_ge (pe_callB call_lenD (by rfl) T.z_len (by decide +kernel) (pa_cons (pe_fld (pv 0) (by rfl)) pa_nil)) (pe_globI (by rfl) T.g_MOST_PARTS) (nomark _))))) 
        (pss_one (ps_never)) pss_nil)
      (pss_cons (ps_expr (pe_bm PySem.F.plainAttrs_list PySem.F.slot_list_append PySem.F.type_list_append mt_append (pe_fld (pv 0) (by rfl)) (pa_cons (pe_tup (pa_cons (pe_tup (pa_cons pe_str (pa_cons (pv 1) (pa_cons (pe_callTy (call_strOwn hS.ok hS.bi pass0 hS.at_ hS.fn (hr.mono (by first | decide | omega))) (by rfl) T.z_str (by decide +kernel) (pa_cons (pv 2) pa_nil)) pa_nil)))) (pa_cons (pe_dget1 hu (pe_fld (pv 0) (by rfl)) (pv 1) ⟨by rfl, by rfl, by rfl, by rfl⟩) pa_nil))) pa_nil)))
      (pss_one (ps_dput hu (pe_fld (pv 0) (by rfl)) (pv 1) (pv 2) rfl)))))))), ?_⟩
    refine ⟨_, rfl, n, rfl, hn, true, rfl, iteF ⟨_, rfl, t, a, rfl, hT, hs, hf, fun H1 s1 => ?_⟩⟩
    have HA1 := HA.same s1
    have hT1 := hT.same s1
    obtain ⟨kvs, hk, pk⟩ := HA1.parts
    obtain ⟨ds, hd, pd⟩ := HA1.deeds
    have dl := pd.length
    have kl : kvs.length = rows.length := Paired.length pk
    obtain ⟨dxa, qa, ra, qsa, zsa, ha, _⟩ := id hT1
    have npD : p ≠ aD := fun z => by
      have := HA1.hp
      rw [z, hd] at this
      cases this
    have nPD : aP ≠ aD := fun z => by
      rw [z, hd] at hk
      cases hk
    refine ⟨_, rfl, _, rfl, p, CH, dx, _, _, rfl, HA1.hp, MC.cl, MC.np, hF_parts _ _ _, aP, _, rfl, .inl ⟨kvs, .inr (tx n), .inl hk, rfl, rfl⟩, ?_⟩
    refine ⟨_, rfl, _, rfl, iteF (iteF ?_)⟩
    refine ⟨fun σ H' => σ = [some (.ref p), some (.str (tx n)), some (.ref a), some (.bl false), some (.bl (valV kvs (.inr (tx n))).isSome)] ∧ H' = H1, ?_, ?_⟩
    · cases (valV kvs (.inr (tx n))).isSome with
      | true => exact ⟨_, rfl, _, rfl, iteF (iteF ⟨rfl, rfl⟩)⟩
      | false => exact ⟨_, rfl, _, rfl, iteT ⟨_, rfl, p, CH, dx, _, _, rfl, HA1.hp, MC.cl, MC.np, hF_parts _ _ _, aP, kvs, rfl, hk, _, _, rfl, rfl, _, rfl, ite2 (fun h => absurd (of_decide_eq_true h) (by omega)) (fun _ => ⟨rfl, rfl⟩)⟩⟩
    · rintro σ H2 ⟨rfl, rfl⟩
      refine ⟨_, rfl, p, CH, dx, _, _, rfl, HA1.hp, MC.cl, MC.nd, hF_deeds _ _ _, .inl ⟨rfl, _, .inl (.inl hd)⟩, _, rfl, _, rfl, a, dxa, _, rfl, ha, t, a, rfl, hT1, _, rfl, sizeLine_ge (by show 3 ≤ 10000; decide), fun q1 hq1 => ?_⟩
      have s2 := same_new (o := .tup [V.str (Str.ofString "write"), V.str (tx n), V.str (tx t.pr)]) hq1
      refine ⟨_, rfl, p, CH, dx, _, _, rfl, s2 _ _ HA1.hp, MC.cl, MC.np, hF_parts _ _ _, aP, rfl, .inl ⟨_, .inl (s2 _ _ hk)⟩, _, rfl, _, .inl ⟨kvs, .inr (tx n), .inl (s2 _ _ hk), rfl, rfl⟩, sizeLine_ge (by show 2 ≤ 10000; decide), fun d1 hd1 => ?_⟩
      generalize hov : (valV kvs (.inr (tx n))).getD .non = v
      have s3 : Same H2 (upd (upd H2 q1 (.tup [V.str (Str.ofString "write"), V.str (tx n), V.str (tx t.pr)])) d1 (.tup [.ref q1, v])) := fun b o e => same_new hd1 _ _ (s2 _ _ e)
      have eq1 : upd (upd H2 q1 (.tup [V.str (Str.ofString "write"), V.str (tx n), V.str (tx t.pr)])) d1 (.tup [.ref q1, v]) q1 = some (.tup [V.str (Str.ofString "write"), V.str (tx n), V.str (tx t.pr)]) := same_new hd1 _ _ upd_same
      have ed1 : upd (upd H2 q1 (.tup [V.str (Str.ofString "write"), V.str (tx n), V.str (tx t.pr)])) d1 (.tup [.ref q1, v]) d1 = some (.tup [.ref q1, v]) := upd_same
      generalize upd (upd H2 q1 (.tup [V.str (Str.ofString "write"), V.str (tx n), V.str (tx t.pr)])) d1 (.tup [.ref q1, v]) = H3 at s3 eq1 ed1 ⊢
      obtain ⟨B, HA'⟩ := HA1.next (e := .wr n t.pr) s3 hd pd eq1 ed1 (pk.put hR) ⟨_, hk⟩
      refine ⟨aD, _, _, rfl, rfl, s3 _ _ hd, by rw [List.length_map]; exact sizeLine_ge (by show ds.length + 1 ≤ 10000; omega), ?_⟩
      refine ⟨_, rfl, _, rfl, p, CH, dx, _, _, rfl, by rw [upd_ne npD]; exact s3 _ _ HA1.hp, MC.cl, MC.np, hF_parts _ _ _, _, rfl, aP, _, rfl, .inl ⟨kvs, .inr (tx n), by rw [upd_ne nPD]; exact s3 _ _ hk, rfl, sizeLine_ge (by show kvs.length + 1 ≤ 10000; omega), rfl⟩, ?_⟩
      exact q _ (fun b o e n1 n2 => B b o (s1 _ _ e) n1 n2) HA'
end
end K


set_option Elab.async false
set_option linter.all false
set_option maxRecDepth 100000
set_option maxHeartbeats 4000000
namespace K
open PySem PySem.Spec PyProof.Rows L2 U SkE
section
variable {P : Program} {w : World} {K : PySem.W.Frag} {mg : Str → Option Value} {base : Heap} {dW dB : Addr} {esW : Array DictEntry} {nW : Nat} (T : Txt K mg w dW dB esW nW)
include T
theorem ok_House_initT {f f1 CH CK CS : Addr} {fd fd1 : FuncData} {dvs : List V} (F : FunD K "__init__" "House.__init__" (defArgs s_House___init__) (defBody s_House___init__) (defScope s_House___init__) dvs [] f fd) (MC : HouseC K CH) (m_Kept : HasC P w K mg base "Kept" CK 4 ["self"] (spKeptInit CK CS) f1 fd1) :
    FnOk P w K mg base CX0 6 f fd ["self", "parts"] (spHouseInit (SqTup K) CH CK CS) := by
  refine FunD.ok0 F sc_House___init__ (fun vs H Q E h => ?_) (fun cdv A outer s H vs Q E hr h => ?_)
  · obtain ⟨p, dx, l, ts, rs, rfl, _⟩ := h
    rfl
  · obtain ⟨p, dx, l, ts, rs, rfl, hp, hl, hts, hrl, q⟩ := h
    have hu := hu_of hr
    refine ⟨_, (pss_cons (ps_fld (pv 0) (pe_dc (own := [("name", 2), ("term", 3)]) (g := gTup K 2 (gCons (gName 2) (gCons (gName 3) gNil))) (tt := tYes) rfl sc_House___init__.nd (pi_tup (pv 1)) (blkOk_by (N := nm_House___init__) (sc := defScope s_House___init__) (by decide +kernel)) (fun _ _ _ _ _ => pg_tup rfl (pgs_cons (pg_name (i := 2) sc_House___init__.nd rfl (.inl rfl)) (pgs_cons (pg_name (i := 3) sc_House___init__.nd rfl (.inl rfl)) pgs_nil))) (fun _ _ _ _ _ => pts_nil) (fun _ _ _ _ _ => (pv 2)) (fun _ _ _ _ _ => (pv 3))) rfl)
      (pss_cons (ps_fld (pv 0) (pe_lst pa_nil) rfl)
      (pss_one (ps_fld (pv 0) (pe_makeH0 m_Kept (hr.mono (by first | decide | omega)) (by rfl)) rfl)))), ?_⟩
    refine ⟨_, rfl, l, rfl, ⟨_, hl H (fun _ _ e _ => e)⟩, fun D hD => dc_do (g := gTup K 2 (gCons (gName 2) (gCons (gName 3) gNil))) (tt := tYes) (tk := tVar 2) (tv := tVar 3) (vs := [2, 3]) (walk_tup (xs := ts.map V.ref)) (fun i H' => But p H H' ∧ H' p = some (.ins CH dx []) ∧ ∃ kvs, H' D = some (.dK kvs) ∧ PairK IsRef kvs (putAll [] (rs.take i))) ?_ ?_ ?_ ?_⟩
    · exact ⟨But.of_same (same_new hD), same_new hD _ _ hp, [], upd_same, .nil⟩
    · rintro i Hi _ ⟨b, _⟩
      exact hl Hi b
    · rintro i x Hi H' hi ⟨b, hpp, kvs, hk, pk⟩ ⟨rfl, hx⟩
      obtain ⟨t, r, rfl, hr, nt, et⟩ := row_at hts hx
      have kl : kvs.length ≤ 100 := by
        have h1 : kvs.length = _ := Paired.length pk
        have h2 := putAll_len (α := Addr) [] (rs.take i)
        rw [List.length_take] at h2
        have : ([] : List (List Nat × Addr)).length = 0 := rfl
        omega
      refine ⟨t, _, rfl, .inl (.inl (b _ _ et nt)), rfl, _, _, rfl, _, _, rfl, rfl, rfl, ?_⟩
      unfold tYes
      refine iteT ?_
      refine ⟨_, rfl, _, rfl, kvs, .inr (tx r.1), rfl, hk, sizeLine_ge (by show kvs.length + 1 ≤ 10000; omega), But.updN b hD, ?_, _, upd_same, ?_⟩
      · rw [upd_ne (ne_of_none hp hD)]
        exact hpp
      · rw [List.take_succ, hr]
        show PairK IsRef _ (putAll [] (rs.take i ++ [r]))
        rw [putAll_add]
        exact pk.put rfl
    · rintro Hi ⟨b, hpp, kvs, hk, pk⟩
      have hlen : (ts.map V.ref).length = rs.length := by rw [List.length_map, hts.length]
      rw [hlen, List.take_length] at pk
      have nD : p ≠ D := ne_of_none hp hD
      refine ⟨_, rfl, p, CH, dx, _, rfl, hpp, MC.cl, MC.np, by show 0 < 1000; decide, sizeLine_ge (by show 0 ≤ 10000; decide), fun d hd => ?_⟩
      have nd : p ≠ d := ne_of_none upd_same hd
      refine ⟨_, rfl, p, CH, dx, _, rfl, same_new hd _ _ upd_same, MC.cl, MC.nd, by show 1 < 1000; decide, fun k dk hk0 hdk nk => ⟨k, dk, rfl, upd_same, fun H' b' k0 => ⟨rfl, ?_⟩⟩⟩
      have npk : p ≠ k := ne_of_none upd_same hk0
      have npd : p ≠ dk := ne_of_none upd_same hdk
      have hk1 : upd (upd (upd (upd Hi p (.ins CH dx (putF "_parts" (.ref D) []))) d (.lst [])) p (.ins CH dx (putF "_deeds" (.ref d) (putF "_parts" (.ref D) [])))) dk (.own k) k = none := by
        rw [upd_ne (Ne.symm nk)]
        exact hk0
      have S : Same (upd (upd (upd Hi p (.ins CH dx (putF "_parts" (.ref D) []))) d (.lst [])) p (.ins CH dx (putF "_deeds" (.ref d) (putF "_parts" (.ref D) [])))) H' := fun a o e => b' a o (same_new hk1 _ _ (same_new hdk _ _ e)) (ne_of_none e hk0)
      have B1 := b.trans (But.upd (p := p) (o := .ins CH dx (putF "_parts" (.ref D) [])))
      have B2 := (B1.trans (But.of_same (same_new (o := .lst []) hd))).trans (But.upd (p := p) (o := .ins CH dx (putF "_deeds" (.ref d) (putF "_parts" (.ref D) []))))
      have hD1 : upd Hi p (.ins CH dx (putF "_parts" (.ref D) [])) D = some (.dK kvs) := by
        rw [upd_ne (Ne.symm nD)]
        exact hk
      have nDd : D ≠ d := ne_of_none hD1 hd
      have hD3 : upd (upd (upd Hi p (.ins CH dx (putF "_parts" (.ref D) []))) d (.lst [])) p (.ins CH dx (putF "_deeds" (.ref d) (putF "_parts" (.ref D) []))) D = some (.dK kvs) := by
        rw [upd_ne (Ne.symm nD)]
        exact same_new hd _ _ hD1
      have hd3 : upd (upd (upd Hi p (.ins CH dx (putF "_parts" (.ref D) []))) d (.lst [])) p (.ins CH dx (putF "_deeds" (.ref d) (putF "_parts" (.ref D) []))) d = some (.lst []) := by
        rw [upd_ne (Ne.symm nd)]
        exact upd_same
      have hp3 := S _ _ (upd_same (H := upd (upd Hi p (.ins CH dx (putF "_parts" (.ref D) []))) d (.lst [])) (a := p) (o := .ins CH dx (putF "_deeds" (.ref d) (putF "_parts" (.ref D) []))))
      refine ⟨_, rfl, p, CH, dx, _, rfl, hp3, MC.cl, MC.nk, by show 2 < 1000; decide, ?_⟩
      refine q _ dx D d k kvs ((B2.trans (But.of_same S)).trans But.upd) upd_same hD (But.gone B1 hd (Ne.symm nd)) (But.gone B2 hk0 (Ne.symm npk)) nDd (ne_of_none hD3 hk0) (ne_of_none hd3 hk0) ?_ pk ?_ ?_
      · rw [upd_ne (Ne.symm nD)]
        exact S _ _ hD3
      · rw [upd_ne (Ne.symm nd)]
        exact S _ _ hd3
      · refine k0.but But.upd (Ne.symm npk) (fun a ha z => ?_) (fun a ha => ?_)
        · rw [z, same_new hk1 _ _ (same_new hdk _ _ upd_same)] at ha
          cases ha
        · exact But.gone ((B2.trans (But.of_same (p := p) (same_new hdk))).trans (But.of_same (p := p) (same_new hk1))) ha fun z => by
            rw [z, same_new hk1 _ _ (same_new hdk _ _ upd_same)] at ha
            cases ha
end
end K


set_option Elab.async false
set_option linter.all false
set_option maxRecDepth 100000
set_option maxHeartbeats 4000000
namespace K
open PySem PySem.Spec PyProof.Rows L2 U SkE
def spTexts (CT C : Addr) : Sp := fun vs H Q _ => ∃ (l : Addr) (as : List Addr) (rows : List (List Nat × U.Tm)), vs = [.ref l] ∧ H l = some (.lst (as.map V.ref)) ∧ rows.length ≤ 100 ∧
  Paired (fun a (r : List Nat × U.Tm) => ∃ t, H a = some (.tup [.str (tx r.1), .ref t]) ∧ TermAt CT C H r.2 t) as rows ∧
  ∀ q H' qs, Same H H' → H q = none → H' q = some (.lst (qs.map V.ref)) → Paired (fun q (r : List Nat × U.Tm) => H' q = some (.tup [.str (tx r.1), .str (tx r.2.pr)])) qs rows → Q (.ref q) H'
section
variable {P : Program} {w : World} {K : PySem.W.Frag} {mg : Str → Option Value} {base : Heap} {dW dB : Addr} {esW : Array DictEntry} {nW : Nat} (T : Txt K mg w dW dB esW nW)
include T
theorem ok__law_texts {f f1 CT C : Addr} {fd fd1 : FuncData} (F : Fun K "_law_texts" "_law_texts" s__law_texts f fd) (hS : HasM P w K mg base CT "__str__" 1 ["self"] (spTermStr CT C) f1 fd1) : FnOk P w K mg base CX0 4 f fd ["_law_kinds"] (spTexts CT C) := by
  refine F.ok sc__law_texts (fun vs H Q E h => ?_) (fun cdv A outer s H vs Q E hr h => ?_)
  · obtain ⟨l, as, rows, rfl, _⟩ := h
    rfl
  · obtain ⟨l, as, rows, rfl, hl, hn, pa, q⟩ := h
    refine ⟨_, (pss_one (ps_ret (pe_lc (own := [("_law_part", 1), ("_law_term_here", 2)]) (g := gTup K 2 (gCons (gName 1) (gCons (gName 2) gNil))) (tt := tYes) rfl sc__law_texts.nd (pi_list (pv 0)) (blkOk_by (N := nm__law_texts) (sc := defScope s__law_texts) (by decide +kernel)) (fun _ _ _ _ _ => pg_tup rfl (pgs_cons (pg_name (i := 1) sc__law_texts.nd rfl (.inl rfl)) (pgs_cons (pg_name (i := 2) sc__law_texts.nd rfl (.inl rfl)) pgs_nil))) (fun _ _ _ _ _ => pts_nil) (fun _ _ _ _ _ => (pe_tup (pa_cons (pv 1) (pa_cons (pe_callTy (call_strOwn hS.ok hS.bi pass0 hS.at_ hS.fn (hr.mono (by decide))) (by rfl) T.z_str (by decide +kernel) (pa_cons (pv 2) pa_nil)) pa_nil))))))), ?_⟩
    refine ⟨_, rfl, l, rfl, ⟨_, .inl (.inl hl)⟩, fun D hD => lc_it (g := gTup K 2 (gCons (gName 1) (gCons (gName 2) gNil))) (tt := tYes) (te := tTup (tCons (tVar 1) (tCons (tCB (rTxtOwn CT (spTermStr CT C) E0) (tCons (tVar 2) tNil)) tNil))) (vs := [1, 2]) (walk_list (xs := as.map V.ref)) (fun i H' => Same H H' ∧ ∃ qs : List Addr, H' D = some (.lst (qs.map V.ref)) ∧ Paired (fun q (r : List Nat × U.Tm) => H' q = some (.tup [.str (tx r.1), .str (tx r.2.pr)])) qs (rows.take i)) ?_ ?_ ?_ ?_⟩
    · exact ⟨same_new hD, [], upd_same, .nil⟩
    · rintro i Hi _ ⟨s1, _⟩
      exact .inl (.inl (s1 _ _ hl))
    · rintro i x Hi H' hi ⟨s1, qs, hq, pq⟩ ⟨rfl, hx⟩
      obtain ⟨a, r, rfl, hr', t, ha, hT⟩ := ref_at pa hx
      refine ⟨a, _, rfl, .inl (.inl (s1 _ _ ha)), rfl, _, _, rfl, _, _, rfl, rfl, rfl, ?_⟩
      unfold tYes
      have hT' := hT.same s1
      obtain ⟨dxa, qa, ra, qsa, zsa, hta, _⟩ := id hT'
      have ql : qs.length ≤ 100 := by
        have h1 := pq.length
        rw [List.length_take] at h1
        omega
      refine iteT ⟨_, rfl, _, rfl, t, dxa, _, rfl, hta, r.2, t, rfl, hT', _, rfl, sizeLine_ge (by show 2 ≤ 10000; decide), fun u hu => ?_⟩
      have su := same_new (o := .tup [.str (tx r.1), .str (tx r.2.pr)]) hu
      have nu : u ≠ D := Ne.symm (ne_of_none hq hu)
      refine ⟨_, su _ _ hq, by rw [List.length_map]; exact sizeLine_ge (by show qs.length + 1 ≤ 10000; omega), fun b o hb => ?_, qs ++ [u], by rw [upd_same, List.map_append]; rfl, ?_⟩
      · rw [upd_ne (ne_of_none hb hD)]
        exact su _ _ (s1 _ _ hb)
      · rw [List.take_succ, hr']
        refine Paired.app (Paired.mapP pq fun b e h => ?_) (.cons ?_ .nil)
        · rw [upd_ne fun z => ?_]
          · exact su _ _ h
          · rw [z, hq] at h
            cases h
        · rw [upd_ne nu]
          exact upd_same
    · rintro Hi ⟨s1, qs, hq, pq⟩
      rw [List.length_map, pa.length, List.take_length] at pq
      exact q D Hi qs s1 hD hq pq
end
end K


set_option Elab.async false
set_option linter.all false
set_option maxRecDepth 100000
set_option maxHeartbeats 4000000
/-! terms stay where some lists and dicts change -/
namespace K
open PySem PySem.Spec PyProof.Rows L2 U SkE
/-- all but these places stays -/
def ButS (L : List Addr) (H H' : Hp) : Prop := ∀ b o, H b = some o → b ∉ L → H' b = some o
theorem ButS.refl {L : List Addr} {H : Hp} : ButS L H H := fun b o e _ => e
theorem ButS.trans {L : List Addr} {H H1 H2 : Hp} (a : ButS L H H1) (b : ButS L H1 H2) : ButS L H H2 := fun p o e n => b p o (a p o e n) n
theorem ButS.of_same {L : List Addr} {H H' : Hp} (s : Same H H') : ButS L H H' := fun b o e _ => s b o e
theorem ButS.of_but {L : List Addr} {p : Addr} {H H' : Hp} (h : But p H H') (m : p ∈ L) : ButS L H H' := fun b o e n => h b o e fun z => n (z ▸ m)
theorem ButS.upd {L : List Addr} {p : Addr} {H : Hp} {o : HO} (m : p ∈ L) : ButS L H (L2.upd H p o) := fun b u e n => by
  rw [upd_ne (fun z : b = p => n (z ▸ m))]
  exact e
/-- these places hold lists and dicts -/
def Mut4 (L : List Addr) (H : Hp) : Prop := ∀ a ∈ L, ∃ o, H a = some o ∧ ((∃ l, o = .lst l) ∨ ∃ l, o = .dK l)
def KeepD (G : Addr → Prop) (H H' : Hp) : Prop := ∀ a o, H a = some o → (∀ l, o ≠ .dK l) → (G a ∨ ∀ l, o ≠ .lst l) → H' a = some o
theorem KeepD.of {L : List Addr} {H H' : Hp} (b : ButS L H H') (m : Mut4 L H) : KeepD (fun a => a ∉ L) H H' := fun a o e n g => by
  by_cases h : a ∈ L
  · obtain ⟨o', e', hl⟩ := m a h
    rw [e] at e'
    obtain rfl := Option.some.inj e'
    rcases hl with ⟨l, rfl⟩ | ⟨l, rfl⟩
    · rcases g with g | g
      · exact absurd h g
      · exact absurd rfl (g l)
    · exact absurd rfl (n l)
  · exact b a o e h
theorem NodeAt.keepD {G : Addr → Prop} {C : Addr} {H H' : Hp} {t : U.Tm} {qs : List Addr} {p : Addr} {ys : List Str} (h : NodeAt C H t qs p ys) (k : KeepD G H H') : NodeAt C H' t qs p ys := by
  obtain ⟨dx, tw, tf, cd, h1, h2, h3, h4⟩ := h
  exact ⟨dx, tw, tf, cd, k _ _ h1 (by intro l z; cases z) (.inr (by intro l z; cases z)), k _ _ h2 (by intro l z; cases z) (.inr (by intro l z; cases z)), k _ _ h3 (by intro l z; cases z) (.inr (by intro l z; cases z)), h4⟩
theorem TreeAt.keepD {G : Addr → Prop} {C : Addr} {H H' : Hp} (k : KeepD G H H') : ∀ {t : U.Tm} {p : Addr}, TreeAt C H t p → TreeAt C H' t p
  | .atom _ _, _, ⟨ys, h⟩ => ⟨ys, h.keepD k⟩
  | .n1 _ _ _, _, ⟨q, ys, h, h1⟩ => ⟨q, ys, h.keepD k, TreeAt.keepD k h1⟩
  | .n2 _ _ _ _, _, ⟨q1, q2, ys, h, h1, h2⟩ => ⟨q1, q2, ys, h.keepD k, TreeAt.keepD k h1, TreeAt.keepD k h2⟩
  | .n3 _ _ _ _ _, _, ⟨q1, q2, q3, ys, h, h1, h2, h3⟩ => ⟨q1, q2, q3, ys, h.keepD k, TreeAt.keepD k h1, TreeAt.keepD k h2, TreeAt.keepD k h3⟩
theorem TermG.keepD {G : Addr → Prop} {CT C : Addr} {H H' : Hp} {k : U.Tm} {p : Addr} (h : TermG G CT C H k p) (b : KeepD G H H') : TermG G CT C H' k p := by
  obtain ⟨dx, q, r, qs, zs, g, h1, h2, h3, h4, h5, h6⟩ := h
  exact ⟨dx, q, r, qs, zs, g, b _ _ h1 (by intro l z; cases z) (.inr (by intro l z; cases z)), h2.keepD b, b _ _ h3 (by intro l z; cases z) (.inl g), Paired.mapP h4 fun q t h => h.keepD b, h5, h6⟩
theorem TermG.from {G G' : Addr → Prop} {CT C : Addr} {H : Hp} {k : U.Tm} {p : Addr} (h : TermG G CT C H k p) (m : ∀ a, G a → G' a) : TermG G' CT C H k p := by
  obtain ⟨dx, q, r, qs, zs, g, h⟩ := h
  exact ⟨dx, q, r, qs, zs, m _ g, h⟩
end K

set_option Elab.async false
set_option linter.all false
set_option maxRecDepth 100000
set_option maxHeartbeats 4000000
/-! a house beside the law's own dict of texts -/
namespace K
open PySem PySem.Spec PyProof.Rows L2 U SkE
def IsText (v : V) (t : U.Tm) : Prop := v = .str (tx t.pr)
def ModelAt (aM : Addr) (H : Hp) (rows : List (List Nat × U.Tm)) : Prop := ∃ kvs, H aM = some (.dK kvs) ∧ PairK IsText kvs rows
def InTb (Tb : Addr → U.Tm → Prop) (v : V) (t : U.Tm) : Prop := ∃ a, v = .ref a ∧ Tb a t
/-- the purse at p, the house at ph, the dict at aM, the terms of Tb; the house's rows, the dict's rows -/
structure Play (CH CT C p ph dx aP aD k aM : Addr) (Tb : Addr → U.Tm → Prop) (H : Hp) (c : Int) (rows mrows : List (List Nat × U.Tm)) (deeds : List Deed) : Prop where
  purse : Purse H p c
  house : HouseAt (InTb Tb) CH ph dx aP aD k H rows deeds
  model : ModelAt aM H mrows
  tb : ∀ a t, Tb a t → TermG (fun b => b ∉ [p, aP, aD, aM]) CT C H t a
  nD : aD ≠ p
  nM : aP ≠ aM
section
variable {CH CT C p ph dx aP aD k aM : Addr} {Tb : Addr → U.Tm → Prop} {H H' : Hp} {c c' : Int} {rows mrows mrows' rows' : List (List Nat × U.Tm)} {deeds deeds' : List Deed}
theorem Play.mut (h : Play CH CT C p ph dx aP aD k aM Tb H c rows mrows deeds) : Mut4 [p, aP, aD, aM] H := by
  obtain ⟨⟨a1, a2, a3, h1, _⟩, ⟨_, ⟨kvs, h2, _⟩, ds, h3, _⟩, ⟨kvm, h4, _⟩, _, _, _⟩ := h
  intro a ha
  simp only [List.mem_cons, List.not_mem_nil, or_false] at ha
  rcases ha with rfl | rfl | rfl | rfl
  · exact ⟨_, h1, .inl ⟨_, rfl⟩⟩
  · exact ⟨_, h2, .inr ⟨_, rfl⟩⟩
  · exact ⟨_, h3, .inl ⟨_, rfl⟩⟩
  · exact ⟨_, h4, .inr ⟨_, rfl⟩⟩
theorem Purse.not {a : Addr} {o : HO} (h : Purse H p c) (e : H a = some o) (n : ∀ l, o ≠ .lst l) : a ≠ p := fun z => by
  obtain ⟨a1, a2, a3, h1, _⟩ := h
  rw [z, h1] at e
  exact n _ (Option.some.inj e).symm
/-- the purse alone is drawn from, new things are made -/
theorem Play.but (h : Play CH CT C p ph dx aP aD k aM Tb H c rows mrows deeds) (b : But p H H') (P' : Purse H' p c') : Play CH CT C p ph dx aP aD k aM Tb H' c' rows mrows deeds := by
  have hm := h.mut
  obtain ⟨P, ⟨h1, ⟨kvs, h2, h3⟩, ds, h4, h5⟩, ⟨kvm, g1, g2⟩, ht, n1, n2⟩ := h
  have nd : ∀ {a : Addr} {o : HO}, H a = some o → (∀ l, o ≠ .lst l) → H' a = some o := fun e n => b _ _ e (P.not e n)
  refine ⟨P', ⟨nd h1 (by intro l z; cases z), ⟨kvs, nd h2 (by intro l z; cases z), h3⟩, ds, b _ _ h4 n1, Paired.mapP h5 fun d e ⟨q, v, f1, f2⟩ => ⟨q, v, nd f1 (by intro l z; cases z), nd f2 (by intro l z; cases z)⟩⟩, ⟨kvm, nd g1 (by intro l z; cases z), g2⟩, fun a t hat => (ht a t hat).keepD (KeepD.of (ButS.of_but b List.mem_cons_self) hm), n1, n2⟩
theorem Play.same (h : Play CH CT C p ph dx aP aD k aM Tb H c rows mrows deeds) (s : Same H H') : Play CH CT C p ph dx aP aD k aM Tb H' c rows mrows deeds := h.but (But.of_same s) (h.purse.same s)
/-- the dict of texts is changed -/
theorem Play.text {kvs' : List (Key × V)} (h : Play CH CT C p ph dx aP aD k aM Tb H c rows mrows deeds) (m : PairK IsText kvs' mrows') : Play CH CT C p ph dx aP aD k aM Tb (upd H aM (.dK kvs')) c rows mrows' deeds := by
  have hm := h.mut
  obtain ⟨P, ⟨h1, ⟨kvs, h2, h3⟩, ds, h4, h5⟩, ⟨kvm, g1, g2⟩, ht, n1, n2⟩ := h
  have nd : ∀ {a : Addr} {o : HO}, H a = some o → (∀ l, o ≠ .dK l) → upd H aM (.dK kvs') a = some o := fun {a o} e n => by
    rw [upd_ne fun z => ?_]
    · exact e
    · rw [z, g1] at e
      exact n _ (Option.some.inj e).symm
  have P' : Purse (upd H aM (.dK kvs')) p c := P.put fun z => P.not (z ▸ g1 : H p = _) (by intro l z; cases z) rfl
  exact ⟨P', ⟨nd h1 (by intro l z; cases z), ⟨kvs, by rw [upd_ne n2]; exact h2, h3⟩, ds, nd h4 (by intro l z; cases z), Paired.mapP h5 fun d e ⟨q, v, f1, f2⟩ => ⟨q, v, nd f1 (by intro l z; cases z), nd f2 (by intro l z; cases z)⟩⟩, ⟨kvs', upd_same, m⟩, fun a t hat => (ht a t hat).keepD (KeepD.of (ButS.upd (by simp)) hm), n1, n2⟩
/-- the house is changed -/
theorem Play.done (h : Play CH CT C p ph dx aP aD k aM Tb H c rows mrows deeds) (b : But2 aP aD H H') (ha : HouseAt (InTb Tb) CH ph dx aP aD k H' rows' deeds') : Play CH CT C p ph dx aP aD k aM Tb H' c rows' mrows deeds' := by
  have hm := h.mut
  obtain ⟨⟨a1, a2, a3, p1, pr⟩, ⟨_, ⟨kvs, hP, _⟩, ds, hD, _⟩, ⟨kvm, g1, g2⟩, ht, n1, n2⟩ := h
  have pP : p ≠ aP := fun z => by rw [z, hP] at p1; cases p1
  have mD : aM ≠ aD := fun z => by rw [z, hD] at g1; cases g1
  exact ⟨⟨a1, a2, a3, b _ _ p1 pP (Ne.symm n1), pr⟩, ha, ⟨kvm, b _ _ g1 (Ne.symm n2) mD, g2⟩, fun a t hat => (ht a t hat).keepD (KeepD.of (fun x o e n => b x o e (fun z => n (by rw [z]; simp)) fun z => n (by rw [z]; simp)) hm), n1, n2⟩
theorem Play.more {c2 : Int} (h : Play CH CT C p ph dx aP aD k aM Tb H c rows mrows deeds) (l : c ≤ c2) : Play CH CT C p ph dx aP aD k aM Tb H c2 rows mrows deeds := ⟨h.purse.mono l, h.house, h.model, h.tb, h.nD, h.nM⟩
/-- one more term -/
theorem Play.term {a0 : Addr} {t0 : U.Tm} (h : Play CH CT C p ph dx aP aD k aM Tb H c rows mrows deeds) (g : TermG (fun b => b ∉ [p, aP, aD, aM]) CT C H t0 a0) : Play CH CT C p ph dx aP aD k aM (fun a t => Tb a t ∨ (a = a0 ∧ t = t0)) H c rows mrows deeds :=
  ⟨h.purse, h.house.fine fun v t ⟨a, e, ha⟩ => ⟨a, e, .inl ha⟩, h.model, fun a t hat => hat.elim (h.tb a t) fun ⟨e1, e2⟩ => by rw [e1, e2]; exact g, h.nD, h.nM⟩
end
end K

set_option Elab.async false
set_option linter.all false
set_option maxRecDepth 100000
set_option maxHeartbeats 4000000
namespace K
open PySem PySem.Spec PyProof.Rows L2 U SkE
/-- EnvL, its places none of these -/
def EnvS (L : List Addr) (e : Addr) (H : Hp) (ss ns g1 g2 g3 : List (List Nat)) : Prop := ∃ aS aN aD a1 a2 a3 : Addr, (e ∉ L ∧ aS ∉ L ∧ aN ∉ L ∧ aD ∉ L ∧ a1 ∉ L ∧ a2 ∉ L ∧ a3 ∉ L) ∧ H e = some (.tup [.ref aS, .ref aN, .ref aD]) ∧
  H aS = some (.lst (ss.map fun n => V.str (tx n))) ∧ H aN = some (.lst (ns.map fun n => V.str (tx n))) ∧ H aD = some (.dK [(.inr (Str.ofString "number"), .ref a1), (.inr (Str.ofString "pair"), .ref a2), (.inr (Str.ofString "def"), .ref a3)]) ∧
  H a1 = some (.lst (g1.map fun n => V.str (tx n))) ∧ H a2 = some (.lst (g2.map fun n => V.str (tx n))) ∧ H a3 = some (.lst (g3.map fun n => V.str (tx n)))
theorem EnvS.keep {L : List Addr} {e : Addr} {H H' : Hp} {ss ns g1 g2 g3 : List (List Nat)} (h : EnvS L e H ss ns g1 g2 g3) (b : ButS L H H') : EnvS L e H' ss ns g1 g2 g3 := by
  obtain ⟨aS, aN, aD, a1, a2, a3, ⟨n1, n2, n3, n4, n5, n6, n7⟩, h1, h2, h3, h4, h5, h6, h7⟩ := h
  exact ⟨aS, aN, aD, a1, a2, a3, ⟨n1, n2, n3, n4, n5, n6, n7⟩, b _ _ h1 n1, b _ _ h2 n2, b _ _ h3 n3, b _ _ h4 n4, b _ _ h5 n5, b _ _ h6 n6, b _ _ h7 n7⟩
theorem EnvS.l {L : List Addr} {p e : Addr} {H : Hp} {ss ns g1 g2 g3 : List (List Nat)} (h : EnvS L e H ss ns g1 g2 g3) (m : p ∈ L) : EnvL p e H ss ns g1 g2 g3 := by
  obtain ⟨aS, aN, aD, a1, a2, a3, ⟨n1, n2, n3, n4, n5, n6, n7⟩, h⟩ := h
  have f : ∀ {a : Addr}, a ∉ L → a ≠ p := fun n z => n (z ▸ m)
  exact ⟨aS, aN, aD, a1, a2, a3, ⟨f n1, f n2, f n3, f n4, f n5, f n6, f n7⟩, h⟩
theorem fit_dr {ss : List (List Nat)} {t : U.Tm} (h : Dr (NN ss) [] 3 t) (l3 : ss.length = 3) : Fit t (ss.map tx ++ [tx [120]]) := by
  have h1 := h.size
  have h2 := h.small (Nat.le_refl 3)
  have e5 : 3 ^ (3 + 2) = 243 := by decide
  refine ⟨sizeLine_ge (by omega), h.ok, by omega, by have := h.depth; omega, by rw [List.length_append, List.length_map, l3]; decide, h.nm⟩
def RowOk (ss : List (List Nat)) (r : List Nat × U.Tm) : Prop := GreatOk r.1 ∧ Dr (NN ss) [] 3 r.2
/-- a deed of such names and terms -/
def EvOk (ss : List (List Nat)) (ev : Deed) : Prop := ∃ r0 : List Nat × U.Tm, RowOk ss r0 ∧ (ev = .wr r0.1 r0.2.pr ∨ ev = .st r0.1)
def gW {α : Type} : List α → List α → List α
  | [s], [t, n, b] => [s, n, t, b]
  | us, ws => us ++ ws
def spDone (CH CT C : Addr) : Sp := fun vs H Q _ => ∃ (p ph dx aP aD k aM e aG : Addr) (Tb : Addr → U.Tm → Prop) (c : Int) (rows : List (List Nat × U.Tm)) (deeds : List Deed) (ss gs g1 g2 g3 : List (List Nat)), vs = [.ref p, .ref ph, .ref aM, .ref e, .ref aG] ∧
  Play CH CT C p ph dx aP aD k aM Tb H c rows rows deeds ∧ c < 2 ^ 38 ∧ EnvS [p, aP, aD, aM] e H ss [] g1 g2 g3 ∧ EnvOk 4 (NN ss) ss [] g1 g2 g3 ∧ H aG = some (.lst (gs.map fun n => V.str (tx n))) ∧ aG ∉ [p, aP, aD, aM] ∧ gs.length = 8 ∧ (∀ n ∈ gs, GreatOk n) ∧
  NodR rows ∧ (∀ r ∈ rows, RowOk ss r) ∧ rows.length ≤ 8 + deeds.length ∧ deeds.length ≤ 40 ∧
  ∀ (r : Addr) (H' : Hp) (q : Addr) (ev : Deed) (rows' : List (List Nat × U.Tm)) (Tb' : Addr → U.Tm → Prop), ButS [p, aP, aD, aM] H H' → Play CH CT C p ph dx aP aD k aM Tb' H' (c + 400) rows' rows' (deeds ++ [ev]) → H' r = some (.tup [.non, .ref q]) → H' q = some (.tup ev.row) →
    NodR rows' → (∀ r ∈ rows', RowOk ss r) → rows'.length ≤ 8 + (deeds.length + 1) → EvOk ss ev → Q (.ref r) H'
section
variable {P : Program} {w : World} {K : PySem.W.Frag} {mg : Str → Option Value} {base : Heap} {dW dB : Addr} {esW : Array DictEntry} {nW : Nat} (T : Txt K mg w dW dB esW nW)
include T
theorem ok__law_done {f f1 f2 f3 f4 f5 CH CT C : Addr} {fd fd1 fd2 fd3 fd4 fd5 : FuncData} {ds : List Value} (F : Fun K "_law_done" "_law_done" s__law_done f fd) (MC : HouseC K CH) (h__law_take : Has P w K mg base "_law_take" 1 ["_law_purse_here", "_law_many"] spTake f1 fd1)
    (h__law_of : Has P w K mg base "_law_of" 9 ["_law_purse_here", "_law_kind", "_law_env", "_law_deep"] spOfAll f2 fd2) (m_Term : HasC P w K mg base "Term" CT 7 ["self", "text"] (spTermInit CT C) f3 fd3)
    (mSt : Meth K CH "strike" f4) (okSt : FnOk P w K mg base CX0 5 f4 fd4 ["self", "name"] (spHStrike CH)) (bSt : Binds K fd4 ["self", "name"] []) (kSt : KBn K fd4 ["self", "name"] 1 ["name"] (fun us ws => us ++ ws) (fun us ws => us ++ ws))
    (mWr : Meth K CH "write" f5) (okWr : FnOk P w K mg base CX0 4 f5 fd5 ["self", "name", "term", "new"] (spHWrite CH CT C)) (bWr : Binds K fd5 ["self", "name", "term", "new"] ds) (vWr : Vals [V.bl false] ds) (kWr : KBn K fd5 ["self", "name", "term", "new"] 1 ["term", "name", "new"] gW gW) :
    FnOk P w K mg base CX0 10 f fd ["_law_purse_here", "_law_house", "_law_model", "_law_env", "_law_greats"] (spDone CH CT C) := by
  refine F.ok sc__law_done (fun vs H Q E h => ?_) (fun cdv A outer s H vs Q E hr h => ?_)
  · obtain ⟨p, ph, dx, aP, aD, k, aM, e, aG, Tb, c, rows, deeds, ss, gs, g1, g2, g3, rfl, _⟩ := h
    rfl
  · obtain ⟨p, ph, dx, aP, aD, k, aM, e, aG, Tb, c, rows, deeds, ss, gs, g1, g2, g3, rfl, PL, hc, env, ok, hG, nG, g8, oG, nd, ro, rl, dl, q⟩ := h
    have hu := hu_of hr
    refine ⟨_, (pss_cons (ps_set (i := 5) sc__law_done.nd rfl (.inl rfl) (pe_ix ix_list (pv 4) (pe_callH h__law_take (hr.mono (by first | decide | omega)) (by rfl) (pa_cons (pv 0) (pa_cons pe_int pa_nil))) (fun _ _ => rfl)))
      (Evl.pss_cut (ps_if (PW.pt (pw_and (pt_cmp (pc_din hu (pv 5) (pv 2))) (pw_and1 (pt_cmpR op_eq (pe_callH h__law_take (hr.mono (by first | decide | omega)) (by rfl) (pa_cons (pv 0) (pa_cons pe_int pa_nil))) pe_int (nomark _))))) 
        (pss_cons (ps_expr (pe_dpop1 (pv 2) (pv 5) ⟨by rfl, by rfl, by rfl, by rfl⟩))
        (pss_one (ps_ret (pe_tup (pa_cons (pe_ifExp (pt_cmpR op_eq (pe_callH h__law_take (hr.mono (by first | decide | omega)) (by rfl) (pa_cons (pv 0) (pa_cons pe_int pa_nil))) pe_int (nomark _)) (pe_methN0 (pv 1) MC.cl mSt okSt (hr.mono (by decide)) kSt pass0 (pk_cons (pv 5) pk_nil)) (pe_meth (pv 1) MC.cl mSt okSt (hr.mono (by decide)) bSt .nil pass0 (pa_cons (pv 5) pa_nil))) (pa_cons (pe_tup (pa_cons pe_str (pa_cons (pv 5) pa_nil))) pa_nil)))))) pss_nil)
      (pss_cons (ps_set (i := 6) sc__law_done.nd rfl (.inl rfl) (pe_callH h__law_of (hr.mono (by first | decide | omega)) (by rfl) (pa_cons (pv 0) (pa_cons (pe_ix ix_list (pe_lst (pa_cons pe_str (pa_cons pe_str (pa_cons pe_str pa_nil)))) (pe_callH h__law_take (hr.mono (by first | decide | omega)) (by rfl) (pa_cons (pv 0) (pa_cons pe_int pa_nil))) (fun _ _ => rfl)) (pa_cons (pv 3) (pa_cons (pe_callH h__law_take (hr.mono (by first | decide | omega)) (by rfl) (pa_cons (pv 0) (pa_cons pe_int pa_nil))) pa_nil))))))
      (Evl.pss_cut (ps_if (PW.pt (pw_and (pt_cmp (pc_din hu (pv 5) (pv 2))) (pw_and1 (pt_cmpR op_eq (pe_callH h__law_take (hr.mono (by first | decide | omega)) (by rfl) (pa_cons (pv 0) (pa_cons pe_int pa_nil))) pe_int (nomark _))))) 
        (pss_one (ps_set (i := 6) sc__law_done.nd rfl (.inl rfl) (pe_dget hu (pv 2) (pv 5) (fun _ _ => rfl)))) pss_nil)
      (pss_cons (ps_dput hu (pv 2) (pv 5) (pv 6) rfl)
      (pss_cons (ps_set (i := 7) sc__law_done.nd rfl (.inl rfl) (pe_callH h__law_take (hr.mono (by first | decide | omega)) (by rfl) (pa_cons (pv 0) (pa_cons pe_int pa_nil))))
      (pss_cons (ps_set (i := 8) sc__law_done.nd rfl (.inl rfl) (pe_ifExp (pt_cmpR op_eq (pv 7) pe_int (nomark _)) (pe_meth (pv 1) MC.cl mWr okWr (hr.mono (by decide)) bWr vWr pass0 (pa_cons (pv 5) (pa_cons (pe_makeH m_Term (hr.mono (by first | decide | omega)) (by rfl) (pa_cons (pv 6) pa_nil)) pa_nil))) (pe_methN0 (pv 1) MC.cl mWr okWr (hr.mono (by decide)) kWr pass0 (pk_cons (pe_makeH m_Term (hr.mono (by first | decide | omega)) (by rfl) (pa_cons (pv 6) pa_nil)) (pk_cons (pv 5) (pk_cons pe_bl pk_nil))))))
      (pss_one (ps_ret (pe_tup (pa_cons (pv 8) (pa_cons (pe_tup (pa_cons pe_str (pa_cons (pv 5) (pa_cons (pv 6) pa_nil)))) pa_nil)))))))))))), ?_⟩
    have e38 : (2 : Int) ^ 38 = 274877906944 := by decide
    have e39 : (2 : Int) ^ 39 = 549755813888 := by decide
    have e40 : (2 : Int) ^ 40 = 1099511627776 := by decide
    have mp : p ∈ [p, aP, aD, aM] := by simp
    refine ⟨_, rfl, _, rfl, p, 8, _, rfl, PL.purse, by omega, by decide, by decide, fun r0 H1 h00 h01 P1 b1 => ?_⟩
    obtain ⟨n, hn1, hn2⟩ := item_at (ss := gs) h00 (by omega)
    have on := oG n hn1
    have PL1 := PL.but b1 P1
    have B1 : ButS [p, aP, aD, aM] H H1 := ButS.of_but b1 mp
    refine ⟨aG, _, _, _, rfl, rfl, .inl (.inl (B1 _ _ hG nG)), hn2, ?_⟩
    refine ⟨fun σ H' => σ = [some (.ref p), some (.ref ph), some (.ref aM), some (.ref e), some (.ref aG), some (.str (tx n)), none, none, none] ∧ But p H1 H' ∧ Purse H' p (c + 2), ?_, ?_⟩
    · obtain ⟨kvm, hm1, hm2⟩ := PL1.model
      rcases hm2.get n with ⟨hg, hv⟩ | ⟨t, v, hg, hv, rfl⟩
      · exact ⟨_, rfl, _, rfl, aM, none, rfl, .inl ⟨kvm, .inr (tx n), .inl hm1, rfl, hv.symm⟩, _, rfl, iteF (iteF ⟨rfl, fun _ _ e _ => e, P1.mono (by omega)⟩)⟩
      · refine ⟨_, rfl, _, rfl, aM, some _, rfl, .inl ⟨kvm, .inr (tx n), .inl hm1, rfl, hv.symm⟩, _, rfl, iteT ⟨_, rfl, p, 3, _, rfl, P1, by omega, by decide, by decide, fun r3 H2 h30 h31 P2 b2 => ⟨rfl, _, rfl, ite2 (fun h => ?_) (fun h => ⟨rfl, b2, P2.mono (by omega)⟩)⟩⟩⟩
        have PL2 := PL1.but b2 P2
        have npM : aM ≠ p := P1.not hm1 (by intro l z; cases z)
        have hm3 := b2 _ _ hm1 npM
        refine ⟨_, rfl, aM, rfl, .inl ⟨_, .inl hm3⟩, _, rfl, kvm, .inr (tx n), _, hm3, rfl, hv, ?_⟩
        have PL3 := PL2.text (hm2.drop n)
        have B3 : ButS [p, aP, aD, aM] H (upd H2 aM (.dK (dropK kvm (.inr (tx n))))) := (B1.trans (ButS.of_but b2 mp)).trans (ButS.upd (by simp))
        generalize upd H2 aM (.dK (dropK kvm (.inr (tx n)))) = H3 at PL3 B3 ⊢
        refine ⟨_, rfl, p, 2, _, rfl, PL3.purse, by omega, by decide, by decide, fun r4 H4 h40 h41 P4 b4 => ?_⟩
        have PL4 := PL3.but b4 P4
        have B4 := B3.trans (ButS.of_but b4 mp)
        have fin : ∀ H5, But2 aP aD H4 H5 → HouseAt (InTb Tb) CH ph dx aP aD k H5 (dropR rows n) (deeds ++ [.st n]) → ∀ q1, H5 q1 = none → ∀ r1, upd H5 q1 (.tup (Deed.st n).row) r1 = none → Q (.ref r1) (upd (upd H5 q1 (.tup (Deed.st n).row)) r1 (.tup [.non, .ref q1])) := by
          intro H5 B5 HA5 q1 hq1 r1 hr1
          have PL5 := (PL4.done B5 HA5).same (same_new (o := .tup (Deed.st n).row) hq1)
          have PL6 := (PL5.same (same_new (o := .tup [.non, .ref q1]) hr1)).more (c2 := c + 400) (by omega)
          have B45 : ButS [p, aP, aD, aM] H4 H5 := fun x o e n => B5 x o e (fun z => n (by rw [z]; simp)) fun z => n (by rw [z]; simp)
          refine q r1 _ q1 (.st n) (dropR rows n) Tb ((B4.trans B45).trans ((ButS.of_same (same_new hq1)).trans (ButS.of_same (same_new hr1)))) PL6 upd_same (same_new hr1 _ _ upd_same) (nd.drop n) (fun r hr => ro r (dropR_mem hr).1) (Nat.le_trans (dropR_len rows n) (by omega)) ⟨(n, t), ro _ (getR_some hg), .inr rfl⟩
        have hp4 := PL4.house.hp
        refine ⟨rfl, _, rfl, ite2 (fun h2 => ?_) (fun h2 => ?_)⟩
        · refine ⟨_, rfl, ph, dx, _, rfl, hp4, by first | rfl | decide +kernel, _, rfl, rfl, rfl, InTb Tb, ph, dx, aP, aD, k, rows, deeds, n, t, rfl, PL4.house, on, hg, by omega, fun H5 B5 HA5 => ⟨_, rfl, sizeLine_ge (by show 2 ≤ 10000; decide), fun q1 hq1 => ⟨sizeLine_ge (by show 2 ≤ 10000; decide), fun r1 hr1 => fin H5 B5 HA5 q1 hq1 r1 hr1⟩⟩⟩
        · refine ⟨_, rfl, ph, dx, _, rfl, hp4, by first | rfl | decide +kernel, _, rfl, InTb Tb, ph, dx, aP, aD, k, rows, deeds, n, t, rfl, PL4.house, on, hg, by omega, fun H5 B5 HA5 => ⟨_, rfl, sizeLine_ge (by show 2 ≤ 10000; decide), fun q1 hq1 => ⟨sizeLine_ge (by show 2 ≤ 10000; decide), fun r1 hr1 => fin H5 B5 HA5 q1 hq1 r1 hr1⟩⟩⟩
    · rintro σ H2 ⟨rfl, b2, P2⟩
      have PL2 := PL1.but b2 P2
      have B2 := B1.trans (ButS.of_but b2 mp)
      refine ⟨_, rfl, sizeLine_ge (by show 3 ≤ 10000; decide), fun q1 hq1 => ⟨_, rfl, p, 3, _, rfl, PL2.purse.same (same_new hq1), by omega, by decide, by decide, fun r3 H3 h30 h31 P3 b3 => ?_⟩⟩
      obtain ⟨kd, hk1, hk2⟩ := kind_at h30 h31
      have b23 : But p H2 H3 := But.trans (But.of_same (same_new hq1)) b3
      have PL3 := PL2.but b23 P3
      have B3 := B2.trans (ButS.of_but b23 mp)
      refine ⟨q1, _, _, _, rfl, rfl, .inl (.inl (b3 _ _ upd_same (Ne.symm (PL2.purse.ne hq1)))), hk2, _, rfl, _, rfl, p, 4, _, rfl, P3, by omega, by decide, by decide, fun r4 H4 h40 h41 P4 b4 => ?_⟩
      obtain ⟨d, rfl⟩ : ∃ d : Nat, r4 = d := ⟨r4.toNat, by omega⟩
      have hd : d ≤ 3 := by omega
      have hcd := cO3 hd
      have PL4 := PL3.but b4 P4
      have B4 := B3.trans (ButS.of_but b4 mp)
      refine ⟨d, hd, p, e, kd, _, ss, [], g1, g2, g3, NN ss, rfl, hk1, P4, by omega, (env.keep B4).l mp, ok.down (by omega), fun t0 H5 b5 P5 dr0 => ?_⟩
      have PL5 := PL4.but b5 P5
      have B5 := B4.trans (ButS.of_but b5 mp)
      refine ⟨fun σ H' => ∃ t : U.Tm, Dr (NN ss) [] 3 t ∧ σ = [some (.ref p), some (.ref ph), some (.ref aM), some (.ref e), some (.ref aG), some (.str (tx n)), some (.str (tx t.pr)), none, none] ∧ But p H5 H' ∧ Purse H' p (c + 230), ?_, ?_⟩
      · obtain ⟨kvm, hm1, hm2⟩ := PL5.model
        rcases hm2.get n with ⟨hg, hv⟩ | ⟨t, v, hg, hv, rfl⟩
        · exact ⟨_, rfl, _, rfl, aM, none, rfl, .inl ⟨kvm, .inr (tx n), .inl hm1, rfl, hv.symm⟩, _, rfl, iteF (iteF ⟨t0, dr0.mono hd, rfl, fun _ _ e _ => e, P5.mono (by omega)⟩)⟩
        · refine ⟨_, rfl, _, rfl, aM, some _, rfl, .inl ⟨kvm, .inr (tx n), .inl hm1, rfl, hv.symm⟩, _, rfl, iteT ⟨_, rfl, p, 3, _, rfl, P5, by omega, by decide, by decide, fun r6 H6 h60 h61 P6 b6 => ⟨rfl, _, rfl, ite2 (fun h => ?_) (fun h => ⟨t0, dr0.mono hd, rfl, b6, P6.mono (by omega)⟩)⟩⟩⟩
          have hm3 := b6 _ _ hm1 (P5.not hm1 (by intro l z; cases z))
          exact ⟨_, rfl, _, rfl, aM, _, rfl, .inl ⟨kvm, .inr (tx n), .inl hm3, rfl, hv.symm⟩, t, (ro _ (getR_some hg)).2, rfl, b6, P6.mono (by omega)⟩
      · rintro σ H6 ⟨t, dr, rfl, b6, P6⟩
        have PL6 := PL5.but b6 P6
        have B6 := B5.trans (ButS.of_but b6 mp)
        obtain ⟨kvm, hm1, hm2⟩ := PL6.model
        have kml : kvm.length ≤ 60 := by
          have : kvm.length = rows.length := Paired.length hm2
          omega
        refine ⟨_, rfl, _, rfl, _, rfl, aM, _, rfl, .inl ⟨kvm, .inr (tx n), hm1, rfl, sizeLine_ge (by show kvm.length + 1 ≤ 10000; omega), rfl⟩, ?_⟩
        have PL7 := PL6.text (hm2.put (n := n) (v := .str (tx t.pr)) (k := t) rfl)
        have B7 : ButS [p, aP, aD, aM] H (upd H6 aM (.dK (putK kvm (.inr (tx n)) (.str (tx t.pr))))) := B6.trans (ButS.upd (by simp))
        generalize upd H6 aM (.dK (putK kvm (.inr (tx n)) (.str (tx t.pr)))) = H7 at PL7 B7 ⊢
        refine ⟨_, rfl, p, 2, _, rfl, PL7.purse, by omega, by decide, by decide, fun r8 H8 h80 h81 P8 b8 => ?_⟩
        have PL8 := PL7.but b8 P8
        have B8 := B7.trans (ButS.of_but b8 mp)
        have hp8 := PL8.house.hp
        have fit := fit_dr dr ok.l3
        have sz := fit.size
        have nf : ∀ y, ¬ t.Free y := fun y hy => by simpa using dr.free y hy
        have made : ∀ x dxx, H8 x = none → upd H8 dxx (.own x) x = none → H8 dxx = none → ∀ H9, But x (upd (upd H8 dxx (.own x)) x (.ins CT dxx [])) H9 → TermG (fun a => upd (upd H8 dxx (.own x)) x (.ins CT dxx []) a = none) CT C H9 t x →
            Play CH CT C p ph dx aP aD k aM (fun a t' => Tb a t' ∨ (a = x ∧ t' = t)) H9 (c + 231) rows (putR rows n t) deeds ∧ Same H8 H9 ∧ TermAt CT C H9 t x := by
          intro x dxx hx hx2 hdx H9 b9 tg
          have S : Same H8 H9 := fun a o e => b9 _ _ (same_new hx2 _ _ (same_new hdx _ _ e)) (ne_of_none e hx)
          have PL9 := (PL8.same S).more (c2 := c + 231) (by omega)
          refine ⟨PL9.term (tg.from fun a ha hmem => ?_), S, tg.at_⟩
          obtain ⟨o, e, _⟩ := PL8.mut a hmem
          rw [same_new hx2 _ _ (same_new hdx _ _ e)] at ha
          cases ha
        have fin : ∀ x H9 H10, Play CH CT C p ph dx aP aD k aM (fun a t' => Tb a t' ∨ (a = x ∧ t' = t)) H9 (c + 231) rows (putR rows n t) deeds → Same H8 H9 → But2 aP aD H9 H10 → HouseAt (InTb (fun a t' => Tb a t' ∨ (a = x ∧ t' = t))) CH ph dx aP aD k H10 (putR rows n t) (deeds ++ [.wr n t.pr]) →
            ∀ q1, H10 q1 = none → ∀ r1, upd H10 q1 (.tup (Deed.wr n t.pr).row) r1 = none → Q (.ref r1) (upd (upd H10 q1 (.tup (Deed.wr n t.pr).row)) r1 (.tup [.non, .ref q1])) := by
          intro x H9 H10 PL9 S B10 HA10 q1 hq1 r1 hr1
          have PL10 := (PL9.done B10 HA10).same (same_new (o := .tup (Deed.wr n t.pr).row) hq1)
          have PL11 := (PL10.same (same_new (o := .tup [.non, .ref q1]) hr1)).more (c2 := c + 400) (by omega)
          have B910 : ButS [p, aP, aD, aM] H9 H10 := fun x o e n => B10 x o e (fun z => n (by rw [z]; simp)) fun z => n (by rw [z]; simp)
          refine q r1 _ q1 (.wr n t.pr) (putR rows n t) _ (((B8.trans (ButS.of_same S)).trans B910).trans ((ButS.of_same (same_new hq1)).trans (ButS.of_same (same_new hr1)))) PL11 upd_same (same_new hr1 _ _ upd_same) (nd.put n t) (fun r hr => ?_) (Nat.le_trans (putR_len rows n t) (by omega)) ⟨(n, t), ⟨on, dr⟩, .inl rfl⟩
          rcases putR_mem hr with hr | rfl
          · exact ro r hr
          · exact ⟨on, dr⟩
        refine ⟨_, rfl, rfl, _, rfl, ite2 (fun h => ?_) (fun h => ?_)⟩
        · refine ⟨_, rfl, ph, dx, _, rfl, hp8, by first | rfl | decide +kernel, _, rfl, _, rfl, fun x dxx hx hdx nx => ⟨t, _, x, dxx, rfl, fit, upd_same, fun H9 b9 tg => ⟨rfl, ?_⟩⟩⟩
          obtain ⟨PL9, S, tA⟩ := made x dxx hx (by rw [upd_ne (Ne.symm nx)]; exact hx) hdx H9 b9 tg
          exact ⟨_, ph, dx, aP, aD, k, rows, deeds, n, t, x, rfl, PL9.house, on, ⟨x, rfl, .inr ⟨rfl, rfl⟩⟩, tA, by omega, nf, by omega, by omega, fun H10 B10 HA10 => ⟨_, rfl, _, rfl, _, rfl, sizeLine_ge (by show 3 ≤ 10000; decide), fun q1 hq1 => ⟨sizeLine_ge (by show 2 ≤ 10000; decide), fun r1 hr1 => fin x H9 H10 PL9 S B10 HA10 q1 hq1 r1 hr1⟩⟩⟩
        · refine ⟨_, rfl, ph, dx, _, rfl, hp8, by first | rfl | decide +kernel, _, rfl, fun x dxx hx hdx nx => ⟨t, _, x, dxx, rfl, fit, upd_same, fun H9 b9 tg => ⟨rfl, ?_⟩⟩⟩
          obtain ⟨PL9, S, tA⟩ := made x dxx hx (by rw [upd_ne (Ne.symm nx)]; exact hx) hdx H9 b9 tg
          exact ⟨_, rfl, rfl, rfl, _, ph, dx, aP, aD, k, rows, deeds, n, t, x, rfl, PL9.house, on, ⟨x, rfl, .inr ⟨rfl, rfl⟩⟩, tA, by omega, nf, by omega, by omega, fun H10 B10 HA10 => ⟨_, rfl, _, rfl, _, rfl, sizeLine_ge (by show 3 ≤ 10000; decide), fun q1 hq1 => ⟨sizeLine_ge (by show 2 ≤ 10000; decide), fun r1 hr1 => fin x H9 H10 PL9 S B10 HA10 q1 hq1 r1 hr1⟩⟩⟩
end
end K


set_option Elab.async false
set_option linter.all false
set_option maxRecDepth 100000
set_option maxHeartbeats 4000000
/-! rows told in order are one; rows of texts as data -/
namespace U
open PySem PySem.Spec PyProof.Rows L2
variable {α : Type}
theorem perm_nod {a b : List (List Nat × α)} (p : a.Perm b) (nd : NodR b) : NodR a := by
  unfold NodR at *
  exact (p.map (·.1)).nodup_iff.mpr nd
theorem perm_byNames (d : α) {srt rows : List (List Nat × α)} (p : srt.Perm rows) (nd : NodR rows) : srt = byNames d rows (srt.map (·.1)) := by
  unfold byNames
  rw [List.map_map]
  have : srt.map ((fun n => (n, (getR rows n).getD d)) ∘ (·.1)) = srt.map id := List.map_congr_left fun r hr => by
    show (r.1, (getR rows r.1).getD d) = r
    rw [getR_mem nd (p.mem_iff.mp hr)]
    rfl
  rw [this, List.map_id]
theorem srt_one (d : α) {a b rows : List (List Nat × α)} (pa : a.Perm rows) (pb : b.Perm rows) (nd : NodR rows) (sa : sortedS (a.map fun r => tx r.1) = true) (sb : sortedS (b.map fun r => tx r.1) = true) : a = b := by
  have e : ∀ l : List (List Nat × α), (l.map fun r => tx r.1) = (l.map (·.1)).map tx := fun l => by rw [List.map_map]; rfl
  rw [e] at sa sb
  have h : a.map (·.1) = b.map (·.1) := sorted_unique ((pa.trans pb.symm).map (·.1)) sa sb
  rw [perm_byNames d pa nd, perm_byNames d pb nd, h]
/-- rows of texts, as data -/
def rowsD (l : List (List Str)) : PyData := .list (l.map fun r => .tuple (r.map PyData.str))
theorem eqv_strs (r : List Str) : PyData.eqv (.tuple (r.map PyData.str)) (.tuple (r.map PyData.str)) = true := by
  rw [PyData.eqv, eqvAll_strs]
  simp
theorem eqv_all : ∀ l : List (List Str), PyData.eqvAll (l.map fun r => .tuple (r.map PyData.str)) (l.map fun r => .tuple (r.map PyData.str)) = true
  | [] => by simp [PyData.eqvAll]
  | r :: l => by
    rw [List.map_cons, PyData.eqvAll, eqv_strs, eqv_all l]
    rfl
theorem eqv_rows (l : List (List Str)) : PyData.eqv (rowsD l) (rowsD l) = true := by
  unfold rowsD
  rw [PyData.eqv, eqv_all]
theorem lay_rows : ∀ l : List (List Str), (∀ r ∈ l, ∀ x ∈ r, Asc x) → PyData.canLayAll0 (l.map fun r => .tuple (r.map PyData.str)) = true
  | [], _ => rfl
  | r :: l, h => by
    rw [List.map_cons, PyData.canLayAll0, lay_rows l fun x hx => h x (List.mem_cons_of_mem _ hx), Bool.and_true, PyData.canLay0]
    exact canLay_strs r (h r List.mem_cons_self)
theorem deep_rows : ∀ l : List (List Str), PyData.depthAll (l.map fun r => .tuple (r.map PyData.str)) ≤ 2
  | [] => by simp [PyData.depthAll]
  | r :: l => by
    have h1 := deep_rows l
    have h2 := depth_strs r
    simp only [List.map_cons, PyData.depthAll, PyData.depth]
    omega
theorem shaped_rows {l : List (List Str)} (h : ∀ r ∈ l, ∀ x ∈ r, Asc x) : SeqAt.shaped (rowsD l) = true := by
  have h1 := lay_rows l h
  have h2 := deep_rows l
  unfold rowsD
  simp only [SeqAt.shaped, PyData.canLay0, h1, Bool.true_and]
  refine decide_eq_true ?_
  simp only [PyData.depth]
  omega
theorem dp_rows {K : PySem.W.Frag} {H : Hp} {l : Addr} {qs : List Addr} {rs : List (List Str)} (hl : H l = some (.lst (qs.map V.ref))) (h : Paired (fun q (r : List Str) => H q = some (.tup (r.map V.str))) qs rs) : Dp K H (.ref l) (rowsD rs) := by
  refine .lst (.inl (.inl hl)) ?_
  clear hl
  induction h with
  | nil => exact .nil
  | cons h _ ih => exact .cons (.tup (.inl (.inl h)) (dpAll_strs _)) ih
end U

set_option Elab.async false
set_option linter.all false
set_option maxRecDepth 100000
set_option maxHeartbeats 4000000
namespace K
open PySem PySem.Spec PyProof.Rows L2 U SkE
def Deed.ts : Deed → List Str
  | .wr n l => [Str.ofString "write", tx n, tx l]
  | .st n => [Str.ofString "strike", tx n]
theorem row_ts (e : Deed) : e.row = e.ts.map V.str := by cases e <;> rfl
theorem paired_map {α β γ : Type} {F : α → γ → Prop} {g : β → γ} : ∀ {l : List α} {m : List β}, Paired (fun a b => F a (g b)) l m → Paired F l (m.map g)
  | _, _, .nil => .nil
  | _, _, .cons h r => .cons h (paired_map r)
theorem empty_app (x : Str) : (Str.empty ++ x : Str) = x := by
  cases x with
  | mk a =>
    show Str.mk (#[] ++ a) = Str.mk a
    rw [Array.empty_append]
theorem line_of (r : List Nat × U.Tm) : (tx r.1 ++ Str.ofString " " ++ tx r.2.pr ++ Str.ofString "\n" : Str) = hLine r := by
  unfold hLine
  rw [empty_app]
theorem sum_line : ∀ {srt : List (List Nat × U.Tm)}, (∀ r ∈ srt, r.1.length ≤ 100 ∧ r.2.pr.length ≤ 9000) → ((srt.map hLine).map (·.length)).sum ≤ srt.length * 9200
  | [], _ => by simp
  | r :: srt, h => by
    have h1 := sum_line fun x hx => h x (List.mem_cons_of_mem r hx)
    have h2 := h r List.mem_cons_self
    have e0 : Str.empty.length = 0 := rfl
    have e1 : (Str.ofString " ").length = 1 := by decide +kernel
    have e2 : (Str.ofString "\n").length = 1 := by decide +kernel
    have h3 : (hLine r).length ≤ 9200 := by
      unfold hLine
      rw [str_app_len, str_app_len, str_app_len, str_app_len, tx_len r.1, tx_len r.2.pr]
      omega
    rw [List.map_cons, List.map_cons, List.sum_cons, List.length_cons, Nat.succ_mul]
    omega
theorem eqv_nil (l : List (List Str)) : PyData.eqv (rowsD l) (rowsD []) = decide (l = []) := by
  unfold rowsD
  cases l <;> simp [PyData.eqv, PyData.eqvAll]
theorem to_row {α β : Type} {F : α → β → Prop} {l : List α} {m : List β} (h : Paired F l m) : ∀ {i : Nat} {x : α}, l[i]? = some x → ∃ y, m[i]? = some y ∧ F x y := by
  induction h with
  | nil => intro i x hx; simp at hx
  | @cons x y _ _ h _ ih =>
    intro i z hz
    cases i with
    | zero => exact ⟨y, rfl, Option.some.inj hz ▸ h⟩
    | succ i => exact ih hz
/-- the law's dict is locked -/
theorem Play.lock {CH CT C p ph dx aP aD k aM : Addr} {Tb : Addr → U.Tm → Prop} {H : Hp} {c : Int} {rows mrows : List (List Nat × U.Tm)} {deeds : List Deed} {kvm : List (Key × V)} (h : Play CH CT C p ph dx aP aD k aM Tb H c rows mrows deeds) (g1 : H aM = some (.dK kvm)) (o : HO) :
    HouseAt (InTb Tb) CH ph dx aP aD k (upd H aM o) rows deeds ∧ ∀ a t, Tb a t → TermG (fun b => b ∉ [p, aP, aD, aM]) CT C (upd H aM o) t a := by
  have hm := h.mut
  obtain ⟨P, ⟨h1, ⟨kvs, h2, h3⟩, ds, h4, h5⟩, _, ht, n1, n2⟩ := h
  have nd : ∀ {a : Addr} {u : HO}, H a = some u → (∀ l, u ≠ .dK l) → upd H aM o a = some u := fun {a u} e n => by
    rw [upd_ne fun z => ?_]
    · exact e
    · rw [z, g1] at e
      exact n _ (Option.some.inj e).symm
  exact ⟨⟨nd h1 (by intro l z; cases z), ⟨kvs, by rw [upd_ne n2]; exact h2, h3⟩, ds, nd h4 (by intro l z; cases z), Paired.mapP h5 fun d e ⟨q, v, f1, f2⟩ => ⟨q, v, nd f1 (by intro l z; cases z), nd f2 (by intro l z; cases z)⟩⟩, fun a t hat => (ht a t hat).keepD (KeepD.of (ButS.upd (by simp)) hm)⟩
theorem asc_row {ss : List (List Nat)} {r : List Nat × U.Tm} (h : RowOk ss r) : ∀ x ∈ [tx r.1, tx r.2.pr], Asc x := by
  intro x hx
  simp only [List.mem_cons, List.not_mem_nil, or_false] at hx
  rcases hx with rfl | rfl
  · exact Asc.tx fun c hc => asc_greats c (h.1.2.2 c hc)
  · exact Asc.tx (asc_pr _ h.2.ok)
theorem asc_ev {ss : List (List Nat)} {ev : Deed} (h : EvOk ss ev) : ∀ x ∈ ev.ts, Asc x := by
  obtain ⟨r, ok, rfl | rfl⟩ := h
  · intro x hx
    rcases List.mem_cons.mp hx with rfl | hx
    · show ∀ c ∈ (Str.ofString _).cps.toList, c < 128; decide +kernel
    · exact asc_row ok x hx
  · intro x hx
    rcases List.mem_cons.mp hx with rfl | hx
    · show ∀ c ∈ (Str.ofString _).cps.toList, c < 128; decide +kernel
    · exact asc_row ok x (List.mem_of_mem_take (i := 1) hx)
def spStands (CH CT C : Addr) : Sp := fun vs H Q _ => ∃ (p ph dx aP aD k aM aPast : Addr) (Tb : Addr → U.Tm → Prop) (c : Int) (rows : List (List Nat × U.Tm)) (deeds : List Deed) (ss : List (List Nat)) (qs : List Addr), vs = [.ref ph, .ref aM, .ref aPast] ∧
  Play CH CT C p ph dx aP aD k aM Tb H c rows rows deeds ∧ H aPast = some (.lst (qs.map V.ref)) ∧ Paired (fun q (e : Deed) => H q = some (.tup e.row)) qs deeds ∧ NodR rows ∧ (∀ r ∈ rows, RowOk ss r) ∧ rows.length < 60 ∧ deeds.length ≤ 60 ∧ (∀ e ∈ deeds, ∀ x ∈ e.ts, Asc x) ∧ ∀ H', Same H H' → Q (.bl true) H'
section
variable {P : Program} {w : World} {K : PySem.W.Frag} {mg : Str → Option Value} {base : Heap} {dW dB : Addr} {esW : Array DictEntry} {nW : Nat} (T : Txt K mg w dW dB esW nW)
include T
theorem ok__law_stands {f f1 f2 f3 f4 f5 f6 f7 f8 CH CT C : Addr} {fd fd1 fd2 fd3 fd4 fd5 fd6 fd7 fd8 : FuncData} (F : Fun K "_law_stands" "_law_stands" s__law_stands f fd) (MC : HouseC K CH) (hT : mg "Term" = some (.ref CT)) (hPa : HasT P w K mg base CH "parts" 1 ["self"] (spHParts CH) f1 fd1) (hPs : HasT P w K mg base CH "past" 1 ["self"] (spHPast CH) f2 fd2)
    (h__law_texts : Has P w K mg base "_law_texts" 4 ["_law_kinds"] (spTexts CT C) f3 fd3) (hSt : HasM P w K mg base CH "__str__" 3 ["self"] (spHStr CH CT C) f4 fd4) (hLn : HasM P w K mg base CH "__len__" 1 ["self"] (spHLen CH) f5 fd5) (hRp : HasM P w K mg base CH "__repr__" 1 ["self"] (spHRepr CH) f6 fd6)
    (hNb : PySem.W.findIn K (.ref CH) "__bool__" = some none) (mTo : Meth K CH "term_of" f7) (okTo : FnOk P w K mg base CX0 4 f7 fd7 ["self", "name"] (spHTerm CH)) (bTo : Binds K fd7 ["self", "name"] []) (kTo : KBn K fd7 ["self", "name"] 1 ["name"] (fun us ws => us ++ ws) (fun us ws => us ++ ws))
    (hTy : ∀ (H : Hp) (a dx : Addr) (fs : List (Str × V)), H a = some (.ins CT dx fs) → TyX K H (.ref a) (.ref CT)) (hTk : PySem.W.kitOne K (.ref CT) (.ref CT) = some true) (hTs : HasM P w K mg base CT "__str__" 1 ["self"] (spTermStr CT C) f8 fd8) : FnOk P w K mg base CX0 10 f fd ["_law_house", "_law_model", "_law_past"] (spStands CH CT C) := by
  refine F.ok sc__law_stands (fun vs H Q E h => ?_) (fun cdv A outer s H vs Q E hr h => ?_)
  · obtain ⟨p, ph, dx, aP, aD, k, aM, aPast, Tb, c, rows, deeds, ss, qs, rfl, _⟩ := h
    rfl
  · obtain ⟨p, ph, dx, aP, aD, k, aM, aPast, Tb, c, rows, deeds, ss, qs, rfl, PL, hq, pq, nd, ro, rl, dl, da, q⟩ := h
    have hu := hu_of hr
    refine ⟨_, (pss_cons (ps_setLc (i := 3) (own := [("_law_part", 6)]) (g := gName 6) (tt := tYes) (te := (tTup (tCons (tVar 6) (tCons (tDGet (tVar 1) (tVar 6)) tNil)))) rfl sc__law_stands.nd rfl rfl (sw_true rfl rfl rfl rfl) (pi_list (pe_callB (call_sortedD rfl) (by rfl) T.z_sorted (by decide +kernel) (pa_cons (pv 1) pa_nil))) (blkOk_by (N := nm__law_stands) (sc := defScope s__law_stands) (by decide +kernel)) (fun _ _ _ _ _ => pg_name (i := 6) sc__law_stands.nd rfl (.inl rfl)) (fun _ _ _ _ _ => pts_nil) (fun _ _ _ _ _ => (pe_tup (pa_cons (pv 6) (pa_cons (pe_dget (by exact hu) (pv 1) (pv 6) (fun _ _ => rfl)) pa_nil)))))
      (pss_cons (ps_if (PW.pt (pw_or (pt_not (pt_val (pe_callB call_isi (by rfl) T.z_isinstance (by decide +kernel) (pa_cons (pe_meth0 (pv 0) MC.cl hPa.me hPa.ok (hr.mono (by decide)) hPa.bi .nil pass0) (pa_cons (pe_bltn (v := .ty "list") (u := .type "list") (by rfl) T.z_list (by decide +kernel) rfl) pa_nil))))) (pw_or (pt_cmpR (op_neD hr.units) (pe_callH h__law_texts (hr.mono (by first | decide | omega)) (by rfl) (pa_cons (pe_meth0 (pv 0) MC.cl hPa.me hPa.ok (hr.mono (by decide)) hPa.bi .nil pass0) pa_nil)) (pv 3) (nomark _)) (pw_or1 (pt_cmpR (op_neD hr.units) (pe_meth0 (pv 0) MC.cl hPs.me hPs.ok (hr.mono (by decide)) hPs.bi .nil pass0) (pv 2) (nomark _)))))) 
        (pss_one (ps_ret pe_bl)) pss_nil)
      (pss_cons (ps_if (pt_not (pt_val (pe_callB (cr_all rfl) (by rfl) T.z_all (by decide +kernel) (pa_cons (pe_lc (own := [("_law_row", 7)]) (g := gName 7) (tt := tYes) (te := (tAndV (tCB (rIsi K) (tCons (tVar 7) (tCons (tC (V.ty "tuple")) tNil))) (tCB (rIsi K) (tCons (tOp (rIxT K) (tVar 7) (tC (V.int 1))) (tCons (tC (V.ref CT)) tNil))))) rfl sc__law_stands.nd (pi_list (pe_meth0 (pv 0) MC.cl hPa.me hPa.ok (hr.mono (by decide)) hPa.bi .nil pass0)) (blkOk_by (N := nm__law_stands) (sc := defScope s__law_stands) (by decide +kernel)) (fun _ _ _ _ _ => pg_name (i := 7) sc__law_stands.nd rfl (.inl rfl)) (fun _ _ _ _ _ => pts_nil) (fun _ _ _ _ _ => (pe_and (pe_callB call_isi (by rfl) T.z_isinstance (by decide +kernel) (pa_cons (pv 7) (pa_cons (pe_bltn (v := .ty "tuple") (u := .type "tuple") (by rfl) T.z_tuple (by decide +kernel) rfl) pa_nil))) (pe_one (pe_callB call_isi (by rfl) T.z_isinstance (by decide +kernel) (pa_cons (pe_ix ix_tup (pv 7) pe_int (fun _ _ => rfl)) (pa_cons (pe_globR (by rfl) hT) pa_nil))))))) pa_nil)))) 
        (pss_one (ps_ret pe_bl)) pss_nil)
      (pss_cons (ps_setLc (i := 4) (own := [("_law_part", 6), ("_law_text", 8)]) (g := gTup K 2 (gCons (gName 6) (gCons (gName 8) gNil))) (tt := tYes) rfl sc__law_stands.nd rfl rfl (sw_true rfl rfl rfl rfl) (pi_list (pv 3)) (blkOk_by (N := nm__law_stands) (sc := defScope s__law_stands) (by decide +kernel)) (fun _ _ _ _ _ => pg_tup rfl (pgs_cons (pg_name (i := 6) sc__law_stands.nd rfl (.inl rfl)) (pgs_cons (pg_name (i := 8) sc__law_stands.nd rfl (.inl rfl)) pgs_nil))) (fun _ _ _ _ _ => pts_nil) (fun _ _ _ _ _ => (pe_op op_add_str (pe_op op_add_str (pe_op op_add_str (pv 6) pe_str) (pv 8)) pe_str)))
      (pss_cons (ps_if (PW.pt (pw_or (pt_cmpR op_ne (pe_callTy (call_strOwn hSt.ok hSt.bi pass0 hSt.at_ hSt.fn (hr.mono (by decide))) (by rfl) T.z_str (by decide +kernel) (pa_cons (pv 0) pa_nil)) (pe_join pe_str (pv 4)) (nomark _)) (pw_or1 (pt_cmpR op_ne (pe_callB (call_lenOwn hLn.ok hLn.bi pass0 hLn.at_ hLn.fn (hr.mono (by decide))) (by rfl) T.z_len (by decide +kernel) (pa_cons (pv 0) pa_nil)) (pe_callB call_len_seq (by rfl) T.z_len (by decide +kernel) (pa_cons (pv 3) pa_nil)) (nomark _))))) 
        (pss_one (ps_ret pe_bl)) pss_nil)
      (Evl.pss_cut (ps_set (i := 5) sc__law_stands.nd rfl (.inl rfl) (pe_ifExp (pt_cmpR op_eq (pe_callB call_len_seq (by rfl) T.z_len (by decide +kernel) (pa_cons (pv 3) pa_nil)) pe_int (nomark _)) pe_str pe_str))
      (pss_cons (ps_if (PW.pt (pw_or (pt_cmpR op_ne (pe_callB (call_reprOwn hRp.ok hRp.bi pass0 hRp.at_ hRp.fn (hr.mono (by decide))) (by rfl) T.z_repr (by decide +kernel) (pa_cons (pv 0) pa_nil)) (pe_op op_add_str (pe_op op_add_str (pe_op op_add_str (pe_op op_add_str pe_str (pe_callTy call_str_int (by rfl) T.z_str (by decide +kernel) (pa_cons (pe_callB call_len_seq (by rfl) T.z_len (by decide +kernel) (pa_cons (pv 3) pa_nil)) pa_nil))) pe_str) (pv 5)) pe_str) (nomark _)) (pw_or1 (pt_cmpR op_ne (pe_callTy (call_boolOwn hLn.ok hLn.bi pass0 hNb hLn.at_ hLn.fn (hr.mono (by decide))) (by rfl) T.z_bool (by decide +kernel) (pa_cons (pv 0) pa_nil)) (pe_cmpR (op_neD hr.units) (pv 3) (pe_lst pa_nil) (nomark _)) (nomark _))))) 
        (pss_one (ps_ret pe_bl)) pss_nil)
      (pss_cons (ps_if (pt_not (pt_val (pe_callB (cr_all rfl) (by rfl) T.z_all (by decide +kernel) (pa_cons (pe_lock (pe_lc (own := [("_law_part", 6)]) (g := gName 6) (tt := tYes) rfl sc__law_stands.nd (pi_keys (pv 1)) (blkOk_by (N := nm__law_stands) (sc := defScope s__law_stands) (by decide +kernel)) (fun _ _ _ _ _ => pg_name (i := 6) sc__law_stands.nd rfl (.inl rfl)) (fun _ _ _ _ _ => pts_nil) (fun _ _ _ _ _ => (pe_cmpR op_eq (pe_callTy (call_strOwn hTs.ok hTs.bi pass0 hTs.at_ hTs.fn (hr.mono (by decide))) (by rfl) T.z_str (by decide +kernel) (pa_cons (pe_methN0 (pv 0) MC.cl mTo okTo (hr.mono (by decide)) kTo pass0 (pk_cons (pv 6) pk_nil)) pa_nil)) (pe_dget (by exact hu) (pv 1) (pv 6) (fun _ _ => rfl)) (nomark _))))) pa_nil)))) 
        (pss_one (ps_ret pe_bl)) pss_nil)
      (pss_one (ps_ret (pe_callB (cr_all rfl) (by rfl) T.z_all (by decide +kernel) (pa_cons (pe_lock (pe_lc (own := [("_law_part", 6)]) (g := gName 6) (tt := tYes) rfl sc__law_stands.nd (pi_keys (pv 1)) (blkOk_by (N := nm__law_stands) (sc := defScope s__law_stands) (by decide +kernel)) (fun _ _ _ _ _ => pg_name (i := 6) sc__law_stands.nd rfl (.inl rfl)) (fun _ _ _ _ _ => pts_nil) (fun _ _ _ _ _ => (pe_cmpR op_eq (pe_callTy (call_strOwn hTs.ok hTs.bi pass0 hTs.at_ hTs.fn (hr.mono (by decide))) (by rfl) T.z_str (by decide +kernel) (pa_cons (pe_meth (pv 0) MC.cl mTo okTo (hr.mono (by decide)) bTo .nil pass0 (pa_cons (pv 6) pa_nil)) pa_nil)) (pe_dget (by exact hu) (pv 1) (pv 6) (fun _ _ => rfl)) (nomark _))))) pa_nil)))))))))))), ?_⟩
    obtain ⟨kvm, hm1, hm2⟩ := PL.model
    refine ⟨_, rfl, aM, kvm, _, rfl, .inl hm1, hm2.keys, by rw [List.length_map]; omega, fun ys s0 hy hs hs0 => ?_⟩
    rw [show (rows.map fun r => tx r.1) = (rows.map (·.1)).map tx by rw [List.map_map]; rfl] at hy
    obtain ⟨ns, rfl, hns⟩ := names_of hy
    have s1 : Same H (upd H s0 (.lst ((ns.map tx).map V.str))) := same_new hs0
    have es : upd H s0 (.lst ((ns.map tx).map V.str)) s0 = some (.lst ((ns.map tx).map V.str)) := upd_same
    generalize upd H s0 (.lst ((ns.map tx).map V.str)) = H1 at s1 es ⊢
    have nl : ns.length = rows.length := by rw [hns.length_eq, List.length_map]
    refine ⟨s0, rfl, ⟨_, .inl (.inl es)⟩, fun D hD => lc_do (walk_list (xs := (ns.map tx).map V.str)) (fun i H' => Same H1 H' ∧ ∃ as : List Addr, H' D = some (.lst (as.map V.ref)) ∧ Paired (fun a (r : List Nat × U.Tm) => H' a = some (.tup [.str (tx r.1), .str (tx r.2.pr)])) as (byNames (.atom .num []) rows (ns.take i))) (fun _ => rfl) ⟨same_new hD, [], upd_same, .nil⟩ (fun _ H' _ h => .inl (.inl (h.1 _ _ es))) ?_ ?_⟩
    · rintro i x Hi H' hi ⟨s2, as, ha, pa⟩ ⟨rfl, hx⟩
      rw [List.getElem?_map, List.getElem?_map] at hx
      obtain ⟨n, hn1, hn2⟩ : ∃ n, ns[i]? = some n ∧ V.str (tx n) = x := by
        cases e : ns[i]? with
        | none => rw [e] at hx; cases hx
        | some n => rw [e] at hx; exact ⟨n, rfl, Option.some.inj hx⟩
      subst hn2
      obtain ⟨r, hr, rfl⟩ := List.mem_map.mp (hns.mem_iff.mp (List.mem_of_getElem? hn1))
      have hg := getR_mem nd hr
      rcases hm2.get r.1 with ⟨h1, _⟩ | ⟨t, v, h1, h2, rfl⟩
      · rw [hg] at h1
        cases h1
      · obtain rfl : r.2 = t := Option.some.inj (hg.symm.trans h1)
        have al : as.length ≤ 64 := by
          have h4 := pa.length
          unfold byNames at h4
          rw [List.length_map, List.length_take] at h4
          omega
        have s12 : Same H H' := fun a o e => s2 _ _ (s1 _ _ e)
        refine ⟨_, rfl, _, rfl, _, rfl, aM, _, rfl, .inl ⟨kvm, .inr (tx r.1), .inl (s12 _ _ hm1), rfl, h2.symm⟩, sizeLine_ge (by show 2 ≤ 10000; decide), fun u hu0 => ?_⟩
        have su := same_new (o := .tup [.str (tx r.1), .str (tx r.2.pr)]) hu0
        refine ⟨_, su _ _ ha, by rw [List.length_map]; exact sizeLine_ge (by show as.length + 1 ≤ 10000; omega), fun a o e => ?_, as ++ [u], by rw [upd_same, List.map_append]; rfl, ?_⟩
        · rw [upd_ne (ne_of_none e hD)]
          exact su _ _ (s2 _ _ e)
        · have e1 : byNames (.atom .num []) rows (ns.take (i + 1)) = byNames (.atom .num []) rows (ns.take i) ++ [r] := by
            unfold byNames
            rw [List.take_succ, hn1, List.map_append]
            show _ ++ [(r.1, (getR rows r.1).getD _)] = _
            rw [hg]
            rfl
          rw [e1]
          refine Paired.app (Paired.mapP pa fun a r' h => ?_) (.cons ?_ .nil)
          · rw [upd_ne fun z => ?_]
            · exact su _ _ h
            · rw [z, ha] at h
              cases h
          · rw [upd_ne (Ne.symm (ne_of_none ha hu0))]
            exact upd_same
    · rintro H2 ⟨s2, as, ha, pa⟩
      rw [List.length_map, List.length_map, List.take_length] at pa
      have s02 : Same H H2 := fun a o e => s2 _ _ (s1 _ _ e)
      have sp := byNames_perm (.atom .num []) nd hns
      have ss : sortedS ((byNames (.atom .num []) rows ns).map fun r => tx r.1) = true := by
        have e2 : (byNames (.atom .num []) rows ns).map (fun r => tx r.1) = ((byNames (.atom .num []) rows ns).map (·.1)).map tx := by rw [List.map_map]; rfl
        rw [e2, byNames_names]
        exact hs
      generalize byNames (.atom .num []) rows ns = srt at pa sp ss
      have PL2 := PL.same s02
      clear s1 s2 es hy hs hD
      have lk : ∀ {a b c : V}, (houseF a b c).lookup ("parts" : Str) = none := fun {a b c} => by first | rfl | decide +kernel
      have lk2 : ∀ {a b c : V}, (houseF a b c).lookup ("past" : Str) = none := fun {a b c} => by first | rfl | decide +kernel
      have hsrt : ∀ x ∈ srt.map fun r => [tx r.1, tx r.2.pr], ∀ y ∈ x, Asc y := fun x hx => by
        obtain ⟨r, hr, rfl⟩ := List.mem_map.mp hx
        exact asc_row (ro r (sp.mem_iff.mp hr))
      have hdd : ∀ x ∈ deeds.map Deed.ts, ∀ y ∈ x, Asc y := fun x hx => by
        obtain ⟨e, he, rfl⟩ := List.mem_map.mp hx
        exact da e he
      have sl : srt.length ≤ 60 := by have := sp.length_eq; omega
      refine ⟨_, rfl, ph, dx, _, rfl, PL2.house.hp, lk, InTb Tb, ph, dx, aP, aD, k, rows, deeds, rfl, PL2.house, by omega, nd, fun l3 H3 as3 srt3 s3 nl3 el3 hp3 hs3 pa3 => ?_⟩
      have PL3 := PL2.same s3
      refine ⟨_, _, _, _, true, rfl, .ty "list", .base (.lst el3), kit_ty (by decide +kernel), true, rfl, iteF ?_⟩
      refine ⟨_, rfl, ph, dx, _, rfl, PL3.house.hp, lk, InTb Tb, ph, dx, aP, aD, k, rows, deeds, rfl, PL3.house, by omega, nd, fun l4 H4 as4 srt4 s4 nl4 el4 hp4 hs4 pa4 => ?_⟩
      have PL4 := PL3.same s4
      obtain rfl : srt = srt4 := srt_one (.atom .num []) sp hp4 nd ss hs4
      refine ⟨l4, as4, srt, rfl, el4, by omega, Paired.mapP pa4 fun a r ⟨v, ⟨b, hb1, hb2⟩, h2⟩ => ⟨b, by rw [hb1] at h2; exact h2, (PL4.tb b _ hb2).at_⟩, fun q5 H5 qs5 s5 nq5 eq5 pq5 => ?_⟩
      have PL5 := PL4.same s5
      have s25 : Same H2 H5 := fun a o e => s5 _ _ (s4 _ _ (s3 _ _ e))
      have eD5 := s25 _ _ ha
      have pa5 : Paired (fun a (r : List Nat × U.Tm) => H5 a = some (.tup [.str (tx r.1), .str (tx r.2.pr)])) as srt := Paired.mapP pa fun a r h => s25 _ _ h
      refine ⟨_, rfl, rowsD (srt.map fun r => [tx r.1, tx r.2.pr]), rowsD (srt.map fun r => [tx r.1, tx r.2.pr]), dp_rows eq5 (paired_map (F := fun (q : Addr) (r : List Str) => H5 q = some (.tup (r.map V.str))) (g := fun r : List Nat × U.Tm => [tx r.1, tx r.2.pr]) pq5), dp_rows eD5 (paired_map (F := fun (q : Addr) (r : List Str) => H5 q = some (.tup (r.map V.str))) (g := fun r : List Nat × U.Tm => [tx r.1, tx r.2.pr]) pa5), shaped_rows hsrt, shaped_rows hsrt, false, by rw [eqv_rows]; rfl, iteF ?_⟩
      refine ⟨_, rfl, ph, dx, _, rfl, PL5.house.hp, lk2, InTb Tb, ph, dx, aP, aD, k, rows, deeds, rfl, PL5.house, by omega, fun l6 H6 qs6 s6 nl6 el6 pq6 => ?_⟩
      have PL6 := PL5.same s6
      have s06 : Same H H6 := fun a o e => s6 _ _ (s25 _ _ (s02 _ _ e))
      refine ⟨_, rfl, rowsD (deeds.map Deed.ts), rowsD (deeds.map Deed.ts), dp_rows el6 (paired_map (Paired.mapP pq6 fun a e h => by rw [← row_ts]; exact h)), dp_rows (s06 _ _ hq) (paired_map (Paired.mapP pq fun a e h => by rw [← row_ts]; exact s06 _ _ h)), shaped_rows hdd, shaped_rows hdd, false, by rw [eqv_rows]; rfl, iteF ?_⟩
      clear pq6 nl6 el6 pq5 eq5 nq5 pa4 el4 nl4 pa3 el3 nl3 hs3 hp3 pa
      refine ⟨_, rfl, ph, dx, _, rfl, PL6.house.hp, lk, InTb Tb, ph, dx, aP, aD, k, rows, deeds, rfl, PL6.house, by omega, nd, fun l7 H7 as7 srt7 s7 nl7 el7 hp7 hs7 pa7 => ?_⟩
      have PL7 := PL6.same s7
      refine ⟨l7, rfl, ⟨_, .inl (.inl el7)⟩, fun D8 hD8 => lc_do (te := tAndV (tCB (rIsi K) (tCons (tVar 7) (tCons (tC (V.ty "tuple")) tNil))) (tCB (rIsi K) (tCons (tOp (rIxT K) (tVar 7) (tC (V.int 1))) (tCons (tC (V.ref CT)) tNil)))) (walk_list (xs := as7.map V.ref)) (fun i H' => Same H7 H' ∧ H' D8 = some (.lst ((List.replicate i true).map V.bl))) (fun _ => rfl) ⟨same_new hD8, upd_same⟩ (fun _ H' _ h => .inl (.inl (h.1 _ _ el7))) ?_ ?_⟩
      · rintro i x Hi H' hi ⟨s8, h8⟩ ⟨rfl, hx⟩
        obtain ⟨a, r, rfl, hr', v, ⟨b, rfl, hb⟩, ha'⟩ := ref_at pa7 hx
        obtain ⟨dxb, qb, rb, qsb, zsb, hbi, _⟩ := ((PL7.same s8).tb b _ hb).at_
        have hi' : i < 60 := by
          have h1 := pa7.length
          have h2 := hp7.length_eq
          rw [List.length_map] at hi
          omega
        refine ⟨_, rfl, _, _, _, _, true, rfl, .ty "tuple", .base (.tup (s8 _ _ ha')), kit_ty (by decide +kernel), true, rfl, iteT ⟨_, rfl, a, _, _, _, rfl, rfl, .inl (.inl (s8 _ _ ha')), rfl, _, _, _, _, true, rfl, .own CT, hTy _ _ _ _ hbi, hTk, _, h8, by rw [List.length_map, List.length_replicate]; exact sizeLine_ge (by show i + 1 ≤ 10000; omega), fun x o e => ?_, ?_⟩⟩
        · rw [upd_ne (ne_of_none e hD8)]
          exact s8 _ _ e
        · rw [upd_same, List.replicate_succ', List.map_append]
          rfl
      · rintro H8 ⟨s8, h8⟩
        have PL8 := PL7.same s8
        have all8 : ∀ n : Nat, (List.replicate n true).all id = true := fun n => by
          induction n with
          | zero => rfl
          | succ n ih => rw [List.replicate_succ, List.all_cons, ih]; rfl
        refine ⟨D8, _, rfl, .inl (.inl h8), true, congrArg V.bl (all8 _), iteF ?_⟩
        have s08 : Same H2 H8 := fun a o e => s8 _ _ (s7 _ _ (s6 _ _ (s25 _ _ e)))
        have eD8 := s08 _ _ ha
        have pa8 : Paired (fun a (r : List Nat × U.Tm) => H8 a = some (.tup [.str (tx r.1), .str (tx r.2.pr)])) as srt := Paired.mapP pa5 fun a r h => s8 _ _ (s7 _ _ (s6 _ _ h))
        have e1 : (Str.ofString " ").length = 1 := by decide +kernel
        have e2 : (Str.ofString "\n").length = 1 := by decide +kernel
        refine ⟨_, rfl, D, rfl, ⟨_, .inl (.inl eD8)⟩, fun D9 hD9 => lc_it (g := gTup K 2 (gCons (gName 6) (gCons (gName 8) gNil))) (tt := tYes) (vs := [6, 8]) (walk_list (xs := as.map V.ref)) (fun i H' => Same H8 H' ∧ H' D9 = some (.lst (((srt.take i).map hLine).map V.str))) ⟨same_new hD9, upd_same⟩ (fun _ H' _ h => .inl (.inl (h.1 _ _ eD8))) ?_ ?_⟩
        · rintro i x Hi H' hi ⟨s9, h9⟩ ⟨rfl, hx⟩
          obtain ⟨a, r, rfl, hr', ha'⟩ := ref_at pa8 hx
          have rm := ro r (sp.mem_iff.mp (List.mem_of_getElem? hr'))
          have z1 : (tx r.1).length ≤ 6 := by rw [tx_len]; exact rm.1.2.1
          have z2 : (tx r.2.pr).length ≤ 1701 := by rw [tx_len]; exact rm.2.small (Nat.le_refl 3)
          refine ⟨a, _, rfl, .inl (.inl (s9 _ _ ha')), rfl, _, _, rfl, _, _, rfl, rfl, rfl, ?_⟩
          unfold tYes
          refine iteT ⟨_, rfl, _, _, rfl, rfl, sizeLine_ge (by omega), _, rfl, _, _, rfl, rfl, by rw [str_app_len]; exact sizeLine_ge (by omega), _, _, rfl, rfl, by rw [str_app_len, str_app_len]; exact sizeLine_ge (by omega), _, h9, ?_, fun x o e => ?_, ?_⟩
          · rw [List.length_map, List.length_map, List.length_take]
            exact sizeLine_ge (by show _ + 1 ≤ 10000; omega)
          · rw [upd_ne (ne_of_none e hD9)]
            exact s9 _ _ e
          · rw [upd_same, line_of, List.take_succ, hr', List.map_append, List.map_append]
            rfl
        · rintro H9 ⟨s9, h9⟩
          have PL9 := PL8.same s9
          rw [List.length_map, pa8.length, List.take_length] at h9
          have bnd : ∀ r ∈ rows, r.1.length ≤ 100 ∧ r.2.pr.length ≤ 9000 := fun r hr => ⟨Nat.le_trans (ro r hr).1.2.1 (by decide), Nat.le_trans ((ro r hr).2.small (Nat.le_refl 3)) (by decide)⟩
          refine ⟨_, rfl, ph, dx, _, rfl, PL9.house.hp, ph, dx, aP, aD, k, rows, deeds, rfl, PL9.house.fine fun v t ⟨a, e, hb⟩ => ⟨a, e, (PL9.tb a t hb).at_⟩, by omega, nd, bnd, fun H10 srt10 s10 hp10 hs10 => ⟨_, rfl, ?_⟩⟩
          obtain rfl : srt = srt10 := srt_one (.atom .num []) sp hp10 nd ss hs10
          have PL10 := PL9.same s10
          have e3 : (Str.ofString "").length = 0 := by decide +kernel
          have eD10 := s10 _ _ (s9 _ _ eD8)
          have asl : (as.map V.ref).length = rows.length := by rw [List.length_map, pa8.length, sp.length_eq]
          refine ⟨⟨_, rfl⟩, _, rfl, _, D9, srt.map hLine, rfl, rfl, .inl (.inl (.inl (s10 _ _ h9))), ?_, rfl, false, congrArg V.bl (by simp), iteF ?_⟩
          · have := sum_line fun r hr => bnd r (sp.mem_iff.mp hr)
            rw [e3, Nat.mul_zero]
            omega
          refine ⟨_, rfl, ph, dx, _, rfl, PL10.house.hp, InTb Tb, ph, dx, aP, aD, k, rows, deeds, rfl, PL10.house, _, rfl, by omega, by show (rows.length : Int) < 2 ^ 63; omega, _, rfl, D, _, rfl, .inl (.inl (.inl eD10)), rfl, false, congrArg V.bl (by rw [asl]; simp), iteF ?_⟩
          refine ⟨fun σ H' => H' = H10 ∧ σ = [some (.ref ph), some (.ref aM), some (.ref aPast), some (.ref D), some (.ref D9), some (.str (if rows.length = 1 then Str.ofString "part" else Str.ofString "parts")), none, none, none], ?_, ?_⟩
          · refine ⟨_, rfl, D, _, rfl, .inl (.inl (.inl eD10)), rfl, _, rfl, ite2 (fun h => ?_) (fun h => ?_)⟩
            · have h1 : rows.length = 1 := by
                have := V.int.inj (of_decide_eq_true h)
                omega
              rw [if_pos h1]
              exact ⟨rfl, rfl⟩
            · have h1 : ¬ rows.length = 1 := fun z => h (decide_eq_true (by rw [asl, z]; rfl))
              rw [if_neg h1]
              exact ⟨rfl, rfl⟩
          · rintro σ H11 ⟨rfl, rfl⟩
            have hb : (Str.ofString (toString (((as.map V.ref).length : Nat) : Int))).length ≤ 13 := by
              obtain ⟨l, h1, h2⟩ := num_text (i := (((as.map V.ref).length : Nat) : Int)) (by rw [asl]; show rows.length < _; omega)
              rw [h1, tx_len]
              rcases h2 with rfl | ⟨d, ds, h, _, hl, _⟩
              · decide
              · rcases h with rfl | rfl <;> simp <;> omega
            have lg : ((((as.map V.ref).length : Nat) : Int)).natAbs.log2 < 1920 := Nat.lt_of_le_of_lt (Nat.log2_le_self _) (by rw [asl]; show rows.length < 1920; omega)
            have c1 : (Str.ofString "House(").length = 6 := by decide +kernel
            have c2 : (Str.ofString ")").length = 1 := by decide +kernel
            have cw : (if rows.length = 1 then Str.ofString "part" else Str.ofString "parts").length ≤ 5 := by
              split <;> decide +kernel
            refine ⟨_, rfl, ph, dx, _, rfl, PL10.house.hp, InTb Tb, ph, dx, aP, aD, k, rows, deeds, rfl, PL10.house, by omega, _, rfl, _, rfl, D, _, rfl, .inl (.inl (.inl eD10)), _, rfl, lg, _, _, rfl, rfl, sizeLine_ge (by omega), _, _, rfl, rfl, by rw [str_app_len]; exact sizeLine_ge (by omega), _, rfl, _, _, rfl, rfl, by rw [str_app_len, str_app_len]; exact sizeLine_ge (by omega), _, _, rfl, rfl, by rw [str_app_len, str_app_len, str_app_len]; exact sizeLine_ge (by omega), rfl, false, congrArg V.bl (by rw [asl]; unfold hRepr; rw [empty_app]; simp), iteF ?_⟩
            refine ⟨_, rfl, ph, dx, _, rfl, PL10.house.hp, InTb Tb, ph, dx, aP, aD, k, rows, deeds, rfl, PL10.house, _, rfl, by omega, by show (rows.length : Int) < 2 ^ 63; omega, _, rfl, sizeLine_ge (by show 0 ≤ 10000; decide), fun q12 hq12 => ?_⟩
            have s12 := same_new (o := .lst []) hq12
            have pa12 : Paired (fun a (r : List Nat × U.Tm) => upd H11 q12 (.lst []) a = some (.tup [.str (tx r.1), .str (tx r.2.pr)])) as srt := Paired.mapP pa8 fun a r h => s12 _ _ (s10 _ _ (s9 _ _ h))
            refine ⟨rowsD (srt.map fun r => [tx r.1, tx r.2.pr]), rowsD [], dp_rows (s12 _ _ eD10) (paired_map (F := fun (q : Addr) (r : List Str) => upd H11 q12 (.lst []) q = some (.tup (r.map V.str))) (g := fun r : List Nat × U.Tm => [tx r.1, tx r.2.pr]) pa12), dp_rows (qs := []) upd_same .nil, shaped_rows hsrt, shaped_rows (by simp), rfl, false, congrArg V.bl ?_, iteF ?_⟩
            · rw [eqv_nil]
              have := sp.length_eq
              cases srt with
              | nil => simp at this; simp [this]
              | cons r srt =>
                simp at this
                simp
                intro z
                rw [z] at this
                simp at this
            have PL12 := PL10.same s12
            have s012 : Same H (upd H11 q12 (.lst [])) := fun a o e => s12 _ _ (s10 _ _ (s9 _ _ (s08 _ _ (s02 _ _ e))))
            have hm12 := s012 _ _ hm1
            generalize upd H11 q12 (.lst []) = H12 at PL12 s012 hm12 ⊢
            have lk3 : ∀ {a b c : V}, (houseF a b c).lookup ("term_of" : Str) = none := fun {a b c} => by first | rfl | decide +kernel
            have kl : kvm.length ≤ 60 := by
              have : kvm.length = rows.length := Paired.length hm2
              omega
            refine ⟨aM, _, hm12, trivial, fun od13 => ⟨_, rfl, aM, od13, rfl, .inl ⟨kvm, upd_same, fun D13 hD13 => ?_⟩⟩⟩
            obtain ⟨HL13, tL13⟩ := PL12.lock hm12 (.frz od13 (.dK kvm))
            have hfz13 : upd H12 aM (.frz od13 (.dK kvm)) aM = some (.frz od13 (.dK kvm)) := upd_same
            have back13 : ∀ {G : Hp}, Same (upd H12 aM (.frz od13 (.dK kvm))) G → Same H12 (upd G aM (.dK kvm)) := fun {G} sg a o e => by
              by_cases z : a = aM
              · rw [z] at e ⊢
                rw [hm12] at e
                rw [upd_same]
                exact e
              · rw [upd_ne z]
                exact sg _ _ (by rw [upd_ne z]; exact e)
            generalize upd H12 aM (.frz od13 (.dK kvm)) = H13 at HL13 tL13 hfz13 back13 hD13 ⊢
            refine lc_do (walk_keys (kvs := kvm)) (fun i H' => Same H13 H' ∧ H' D13 = some (.lst ((List.replicate i true).map V.bl))) (fun _ => rfl) ⟨same_new hD13, upd_same⟩ (fun _ H' _ h => h.1 _ _ hfz13) ?_ ?_
            · rintro i x Hi H' hi ⟨s14, h14⟩ ⟨rfl, kk, v, hkv, rfl⟩
              obtain ⟨r, hr', hk1, hk2⟩ := to_row hm2 hkv
              obtain rfl : kk = .inr (tx r.1) := hk1
              obtain rfl : v = .str (tx r.2.pr) := hk2
              have rm := List.mem_of_getElem? hr'
              have hg := getR_mem nd rm
              have hv : valV kvm (.inr (tx r.1)) = some (.str (tx r.2.pr)) := by
                rcases hm2.get r.1 with ⟨h1, _⟩ | ⟨t, v, h1, h2, h3⟩
                · rw [hg] at h1
                  cases h1
                · obtain rfl : r.2 = t := Option.some.inj (hg.symm.trans h1)
                  rw [h2]
                  exact congrArg some h3
              have HL' := HL13.same s14
              refine ⟨_, rfl, ph, dx, _, rfl, HL'.hp, lk3, _, rfl, rfl, rfl, InTb Tb, ph, dx, aP, aD, k, rows, deeds, r.1, r.2, rfl, HL', (ro r rm).1, hg, ?_⟩
              rintro _ ⟨a, rfl, hb⟩
              have tA := (tL13 a _ hb).at_.same s14
              obtain ⟨dxa, qa, ra, qsa, zsa, ha', _⟩ := id tA
              refine ⟨a, dxa, _, rfl, ha', r.2, a, rfl, tA, _, rfl, _, rfl, _, rfl, aM, _, rfl, .inl ⟨kvm, .inr (tx r.1), .inr ⟨od13, s14 _ _ hfz13⟩, rfl, hv.symm⟩, rfl, ?_⟩
              rw [decide_eq_true rfl]
              refine ⟨_, h14, by rw [List.length_map, List.length_replicate]; exact sizeLine_ge (by show i + 1 ≤ 10000; omega), fun x o e => ?_, ?_⟩
              · rw [upd_ne (ne_of_none e hD13)]
                exact s14 _ _ e
              · rw [upd_same, List.replicate_succ', List.map_append]
                rfl
            · rintro G13 ⟨s14, h14⟩
              have nDM13 : D13 ≠ aM := Ne.symm (ne_of_none hfz13 hD13)
              have hD13' : upd G13 aM (.dK kvm) D13 = some (.lst ((List.replicate kvm.length true).map V.bl)) := by
                rw [upd_ne nDM13]
                exact h14
              have hm13 : upd G13 aM (.dK kvm) aM = some (.dK kvm) := upd_same
              have PL13 := PL12.same (back13 s14)
              have s013 : Same H (upd G13 aM (.dK kvm)) := fun a o e => back13 s14 _ _ (s012 _ _ e)
              refine ⟨s14 _ _ hfz13, ?_⟩
              generalize upd G13 aM (.dK kvm) = H13 at hD13' hm13 PL13 s013 ⊢
              refine ⟨D13, _, rfl, .inl (.inl hD13'), true, congrArg V.bl (all8 _), iteF ?_⟩
              refine ⟨aM, _, hm13, trivial, fun od14 => ⟨_, rfl, aM, od14, rfl, .inl ⟨kvm, upd_same, fun D14 hD14 => ?_⟩⟩⟩
              obtain ⟨HL14, tL14⟩ := PL13.lock hm13 (.frz od14 (.dK kvm))
              have hfz14 : upd H13 aM (.frz od14 (.dK kvm)) aM = some (.frz od14 (.dK kvm)) := upd_same
              have back14 : ∀ {G : Hp}, Same (upd H13 aM (.frz od14 (.dK kvm))) G → Same H13 (upd G aM (.dK kvm)) := fun {G} sg a o e => by
                by_cases z : a = aM
                · rw [z] at e ⊢
                  rw [hm13] at e
                  rw [upd_same]
                  exact e
                · rw [upd_ne z]
                  exact sg _ _ (by rw [upd_ne z]; exact e)
              generalize upd H13 aM (.frz od14 (.dK kvm)) = H14 at HL14 tL14 hfz14 back14 hD14 ⊢
              refine lc_do (walk_keys (kvs := kvm)) (fun i H' => Same H14 H' ∧ H' D14 = some (.lst ((List.replicate i true).map V.bl))) (fun _ => rfl) ⟨same_new hD14, upd_same⟩ (fun _ H' _ h => h.1 _ _ hfz14) ?_ ?_
              · rintro i x Hi H' hi ⟨s14, h14⟩ ⟨rfl, kk, v, hkv, rfl⟩
                obtain ⟨r, hr', hk1, hk2⟩ := to_row hm2 hkv
                obtain rfl : kk = .inr (tx r.1) := hk1
                obtain rfl : v = .str (tx r.2.pr) := hk2
                have rm := List.mem_of_getElem? hr'
                have hg := getR_mem nd rm
                have hv : valV kvm (.inr (tx r.1)) = some (.str (tx r.2.pr)) := by
                  rcases hm2.get r.1 with ⟨h1, _⟩ | ⟨t, v, h1, h2, h3⟩
                  · rw [hg] at h1
                    cases h1
                  · obtain rfl : r.2 = t := Option.some.inj (hg.symm.trans h1)
                    rw [h2]
                    exact congrArg some h3
                have HL' := HL14.same s14
                refine ⟨_, rfl, ph, dx, _, rfl, HL'.hp, lk3, _, rfl, InTb Tb, ph, dx, aP, aD, k, rows, deeds, r.1, r.2, rfl, HL', (ro r rm).1, hg, ?_⟩
                rintro _ ⟨a, rfl, hb⟩
                have tA := (tL14 a _ hb).at_.same s14
                obtain ⟨dxa, qa, ra, qsa, zsa, ha', _⟩ := id tA
                refine ⟨a, dxa, _, rfl, ha', r.2, a, rfl, tA, _, rfl, _, rfl, _, rfl, aM, _, rfl, .inl ⟨kvm, .inr (tx r.1), .inr ⟨od14, s14 _ _ hfz14⟩, rfl, hv.symm⟩, rfl, ?_⟩
                rw [decide_eq_true rfl]
                refine ⟨_, h14, by rw [List.length_map, List.length_replicate]; exact sizeLine_ge (by show i + 1 ≤ 10000; omega), fun x o e => ?_, ?_⟩
                · rw [upd_ne (ne_of_none e hD14)]
                  exact s14 _ _ e
                · rw [upd_same, List.replicate_succ', List.map_append]
                  rfl
              · rintro G14 ⟨s14, h14⟩
                have nDM14 : D14 ≠ aM := Ne.symm (ne_of_none hfz14 hD14)
                have hD14' : upd G14 aM (.dK kvm) D14 = some (.lst ((List.replicate kvm.length true).map V.bl)) := by
                  rw [upd_ne nDM14]
                  exact h14
                have hm14 : upd G14 aM (.dK kvm) aM = some (.dK kvm) := upd_same
                have PL14 := PL13.same (back14 s14)
                have s014 : Same H (upd G14 aM (.dK kvm)) := fun a o e => back14 s14 _ _ (s013 _ _ e)
                refine ⟨s14 _ _ hfz14, ?_⟩
                generalize upd G14 aM (.dK kvm) = H14 at hD14' hm14 PL14 s014 ⊢
                exact ⟨D14, _, rfl, .inl (.inl hD14'), by rw [all8]; exact q _ s014⟩
end
end K


set_option Elab.async false
set_option linter.all false
set_option maxRecDepth 100000
set_option maxHeartbeats 4000000
namespace U
open PySem PySem.Spec PyProof.Rows L2
section
open PySem.W PySem.SeqAt
open AutoSeq1 (wpAny_loadPart')
open MeetsSeq MeetsSeq2 MeetsSeq3 SeqRoads2
variable {prog : Program} {w : World} {A : Around} {E : Value → Shared → Prop} {s : Shared} {K : Frag} {x C L f : Addr} {h₀ : Heap} {m : Str → Option Value} {ox : Obj} {od : Option Obj} {name : Str} {b tb : Value}
theorem in_own {l : Addr} {x : Value} {N : Nat} {Q : Value → Shared → Prop} (J : Nat → Shared → Prop)
    (hl : ∀ i s, J i s → ∃ (items : Array Value) (n : Nat), items.size = N ∧ s.heap.get? l = some { cls := .type "list", data := .seq items n } ∧ ∀ h : i < items.size, wpAny (model prog w) A.in1 (eqBool items[i] x) (fun r s' => (r = true → Q (.bool true) s') ∧ (r = false → J (i + 1) s')) E s)
    (fin : ∀ s, J N s → Q (.bool false) s) (h0 : J 0 s) : wpAny (model prog w) A (compareOp .In x (.ref l)) Q E s := by
  show wpAny _ A (do return .bool (← contains (.ref l) x)) Q E s
  obtain ⟨items, n, hN, hle, _⟩ := hl _ _ h0
  refine wpAny_bind (wpAny_contains_slot (T := "list") ⟨_, hle, rfl⟩ PySem.F.slot_list_contains (wpAny_mono (Q := fun v s' => ∃ r : Bool, v = .bool r ∧ Q (.bool r) s') (GQ.call_here PySem.F.slot_list_contains ⟨_, hle, rfl⟩ PySem.F.entry_list_contains (PySem.F.args_list_contains_2 _ _) ?_) (fun v s' hv => ?_) fun _ _ e => e))
  · obtain ⟨hp, g, d, tk, os⟩ := s
    wp_walk using wpAny_loadPart' hle
    exact ⟨plainId_quiet plain_contains_loop _, codeAny_builtin entry_contains_loop (by
      rw [Around.under_plainId plain_contains_loop _]
      refine con_loop (R := wants (fun v s' => ∃ r : Bool, v = .bool r ∧ Q (.bool r) s') E) l x N J (fun i s h => ?_) (fun s h => ⟨false, rfl, fin s h⟩) _ 0 rfl (Nat.zero_le _) _ h0
      obtain ⟨items, n, h1, h2, h3⟩ := hl i s h
      exact ⟨items, n, h1, h2, fun hi => wpAny_mono (h3 hi) (fun r s' z => ⟨fun e => ⟨true, rfl, z.1 e⟩, z.2⟩) fun _ _ e => e⟩)⟩
  · obtain ⟨b, rfl, hq⟩ := hv
    exact wpAny_truthy_bool (wpAny_pure hq)
end
/-- x in [y], both of the class C with an __eq__ of its own, by which y is it -/
def rIn1 (C : Addr) (sp : Sp) (E : XK) : R2 := fun x y H Q => ∃ (a b l dx dx2 : Addr) (fs fs2 : List (Str × V)), x = .ref a ∧ y = .ref l ∧ H l = some (.lst [.ref b]) ∧ H a = some (.ins C dx fs) ∧ H b = some (.ins C dx2 fs2) ∧ a ≠ b ∧
  sp [.ref b, .ref a] H (fun z H2 => ∃ r, z = .bl r ∧ V.bl r = .bl true ∧ Q (.bl true) H2) E
section
variable {X : Cx} {CX : CXT} {n : Nat} {C f : Addr} {fd : FuncData} {ps : List Str} {sp : Sp} {E : XK}
theorem op_in1 (F : FnOk X.prog X.w X.K X.mg X.base CX n f fd ps sp) (hs : PySem.W.findIn X.K (.ref C) "__eq__" = some (some (.ref f))) (hf : PySem.W.isFn X.K (.ref f) = true) (hty : ∀ H a dx fs, H a = some (.ins C dx fs) → TyX X.K H (.ref a) (.ref C))
    (hb : Binds X.K fd ps []) (hx : Passes CX X E) (hr : Room (n + 1) X.A) : OpR X (compareOp .In) (rIn1 C sp E) := by
  intro pins s σ H x y v u Q I rx ry h
  obtain ⟨a, b, l, dx, dx2, fs, fs2, rfl, rfl, hl, ha, hb2, hab, hsp⟩ := h
  cases (show v = Value.ref a from rx)
  cases (show u = Value.ref l from ry)
  refine in_own (N := 1) (fun i s => i = 0 ∧ Inv X pins σ H s) (fun i s h => ?_) (fun s h => ?_) ⟨rfl, I⟩
  · rcases h with ⟨rfl, I⟩
    obtain ⟨z, its, m, r, hlen, e⟩ := I.lstM hl
    cases r with
    | cons r0 r =>
      cases r
      refine ⟨_, m, rfl, e, fun _ => ?_⟩
      cases (show _ = Value.ref b from r0)
      show wpAny _ _ (eqBool (Value.ref b) (.ref a)) _ _ _
      refine GQ.eqBool_refG (Ne.symm hab) ?_
      refine wpAny_mono (rc_own F hs hf hb hx ⟨hr.in1, rfl⟩ I (x := .ref b) (y := .ref a) rfl rfl ⟨b, dx2, fs2, .ref C, rfl, hb2, hty _ _ _ _ ha, by simp [PySem.W.notFirst], ?_⟩ (Q := fun z H2 => z = .bl true ∧ Q (.bl true) H2)) (fun w s' z => ?_) fun _ _ e => e
      · exact hsp
      · obtain ⟨z, H', I', rz, rfl, q⟩ := z
        cases (show w = Value.bool true from rz)
        exact ⟨true, rfl, fun _ => ⟨.bl true, H', I', rfl, q⟩, fun z => (by cases z)⟩
  · rcases h with ⟨h, _⟩
    cases h
end
end U

set_option Elab.async false
set_option linter.all false
set_option maxRecDepth 100000
set_option maxHeartbeats 4000000
/-! x in [None, text], x of a class with an __eq__ of its own: neither is it -/
namespace U
open PySem PySem.Spec PyProof.Rows L2
section
open PySem.W PySem.SeqAt
open AutoSeq1 (wpAny_loadPart')
variable {prog : Program} {w : World} {A : Around} {E : Value → Shared → Prop} {s : Shared} {K : Frag} {x C L f : Addr} {h₀ : Heap} {m : Str → Option Value} {ox : Obj} {od : Option Obj} {name : Str} {b tb : Value}
theorem str_eq_declines_ins (b : Str) (u : Tok) (l : Addr) (o : Obj) (fs : Array Value) (hf : o.data = .fields fs) :
    Meets (Builtin.«str.__eq__» ⟨[.str b u, .ref l], []⟩) (fun _ R s => s.heap.get? l = some o ∧ R (.ok (.ret .notImplemented)) s) :=
  .of_wp fun prog w A R s h => by
    obtain ⟨c, dd, da, sl⟩ := o
    dsimp only at hf
    subst hf
    obtain ⟨hp, g, d, tk, os⟩ := s
    obtain ⟨hl, h⟩ := h
    wp_walk using wpAny_loadPart' hl, wpAny_load hl
    exact ⟨_, rfl, h⟩
theorem str_eq {dx : Addr} {t : Str} {tk : Tok} {Q : Value → Shared → Prop} (hu : A.units < cLine) (X : K.In s.heap) (hx : s.heap.get? x = some (instObj C dx)) (I : InstAt s.heap x (instObj C dx) C od) (hn : subIn K (.ref C) (.type "str") = some false)
    (hs : findIn K (.ref C) "__eq__" = some (some (.ref f))) (hf : isFn K (.ref f) = true)
    (h : wpAny (model prog w) A (call (.ref f) [.ref x, .str t tk]) (W.CmpBack Q) E s) : wpAny (model prog w) A (richCompare .Eq (.str t tk) (.ref x)) Q E s := by
  have one : wpAny (model prog w) A (tryCompare (.ref x) (cmpInfo .Eq).2.2 (.str t tk)) (fun r s' => ∃ v, r = some v ∧ Q v s') E s := by
    unfold tryCompare
    refine wpAny_bind (ifBound_K X I hs hf (wpAny_mono h (fun v s' hv => ?_) fun _ _ e => e))
    cases v <;> first | exact hv.elim | exact wpAny_pure ⟨_, rfl, hv⟩
  have hT : s.TypeIs (.str t tk) "str" := typeIs_str s t tk
  simp only [richCompare, hT.oneThing_none]
  refine wpAny_holding (wpAny_bind (wpAny_cRoomFor hu ?_))
  refine wpAny_bind (wpAny_typeOf hT (wpAny_bind (I.type.here ?_)))
  split
  · refine wpAny_bind ((looks_subIn X hn).here ?_)
    simp only [Bool.false_eq_true, if_false, Bool.not_false, if_true]
    refine wpAny_bind (m := tryCompare (.str t tk) _ (.ref x)) (wpAny_tryCompare_declines hT PySem.F.slot_str_eq (wpAny_mono (Q := fun v s' => v = .notImplemented ∧ s' = s) (GQ.call_here PySem.F.slot_str_eq hT PySem.F.entry_str_eq (PySem.F.args_str_eq_2 _ _) ?_) (fun v s' z => ⟨z.1, ?_⟩) fun _ _ e => e))
    · unfold instObj at hx
      obtain ⟨hp, g, d, tk, os⟩ := s
      wp_walk using wpAny_loadPart' hx, wpAny_load hx
      exact ⟨rfl, rfl⟩
    · obtain ⟨_, rfl⟩ := z
      refine wpAny_bind (wpAny_mono one (fun r s' z => ?_) fun _ _ e => e)
      obtain ⟨v, rfl, hq⟩ := z
      exact wpAny_pure hq
  · rename_i q
    simp at q
end
/-- x in [None, text], x of the class C with an __eq__ of its own, by which neither is it -/
def rIn2N (C : Addr) (sp : Sp) (E : XK) : R2 := fun x y H Q => ∃ (a l dx : Addr) (fs : List (Str × V)) (t : Str), x = .ref a ∧ y = .ref l ∧ H l = some (.lst [.non, .str t]) ∧ H a = some (.ins C dx fs) ∧
  sp [.ref a, .non] H (fun z H1 => z = .bl false ∧ Same H H1 ∧ sp [.ref a, .str t] H1 (fun z H2 => z = .bl false ∧ Same H1 H2 ∧ Q (.bl false) H2) E) E
section
variable {X : Cx} {CX : CXT} {n : Nat} {C f : Addr} {fd : FuncData} {ps : List Str} {sp : Sp} {E : XK}
theorem op_in2N (F : FnOk X.prog X.w X.K X.mg X.base CX n f fd ps sp) (hs : PySem.W.findIn X.K (.ref C) "__eq__" = some (some (.ref f))) (hf : PySem.W.isFn X.K (.ref f) = true) (hno : PySem.W.subIn X.K (.ref C) (.type "NoneType") = some false) (hst : PySem.W.subIn X.K (.ref C) (.type "str") = some false)
    (hb : Binds X.K fd ps []) (hx : Passes CX X E) (hr : Room (n + 1) X.A) : OpR X (compareOp .In) (rIn2N C sp E) := by
  intro pins s σ H x y v u Q I rx ry h
  obtain ⟨a, l, dx, fs, t, rfl, rfl, hl, ha, hsp⟩ := h
  cases (show v = Value.ref a from rx)
  cases (show u = Value.ref l from ry)
  refine in_own (N := 2) (fun i s => (i = 0 ∧ Inv X pins σ H s) ∨ (i = 1 ∧ ∃ H1, Inv X pins σ H1 s ∧ Same H H1 ∧ sp [.ref a, .str t] H1 (fun z H2 => z = .bl false ∧ Same H1 H2 ∧ Q (.bl false) H2) E) ∨ (i = 2 ∧ ∃ H2, Inv X pins σ H2 s ∧ Same H H2 ∧ Q (.bl false) H2)) (fun i s h => ?_) (fun s h => ?_) (.inl ⟨rfl, I⟩)
  · rcases h with ⟨rfl, I⟩ | ⟨rfl, H1, I1, s1, hsp1⟩ | ⟨rfl, H2, I2, s2, _⟩
    · obtain ⟨z, its, m, r, hlen, e⟩ := I.lstM hl
      cases r with
      | cons r0 r =>
        cases r with
        | cons r1 r =>
          cases r
          refine ⟨_, m, rfl, e, fun _ => ?_⟩
          cases (show _ = Value.none from r0)
          obtain ⟨ox, od, J⟩ := inst_of I ha
          show wpAny _ _ (eqBool Value.none (.ref a)) _ _ _
          unfold eqBool
          refine wpAny_holding ?_
          refine wpAny_ite_split (fun hab => absurd (eq_of_beq hab) nofun) (fun _ => ?_)
          refine wpAny_bind (none_eq hr.in1.units0 I.kIn J hno hs hf (wpAny_mono (run_own (vs := [V.ref a, V.non]) F hb hx ⟨hr.in1, rfl⟩ I (.cons rfl (.cons rfl .nil)) hsp) (fun w s' z => ?_) fun _ _ e => e))
          obtain ⟨z, H', I', rz, rfl, s1, q⟩ := z
          cases (show w = Value.bool false from rz)
          exact wpAny_truthy_bool ⟨fun z => (by cases z), fun _ => .inr (.inl ⟨rfl, H', I', s1, q⟩)⟩
    · obtain ⟨z, its, m, r, hlen, e⟩ := I1.lstM (s1 _ _ hl)
      cases r with
      | cons r0 r =>
        cases r with
        | cons r1 r =>
          cases r
          refine ⟨_, m, rfl, e, fun _ => ?_⟩
          obtain ⟨tk, rfl⟩ := r1
          obtain ⟨mA, O, _⟩ := ins_get I1.hok (s1 _ _ ha)
          have hob := O.obj
          obtain ⟨od, J, _⟩ := O.look
          show wpAny _ _ (eqBool (Value.str t tk) (.ref a)) _ _ _
          unfold eqBool
          refine wpAny_holding ?_
          refine wpAny_ite_split (fun hab => absurd (eq_of_beq hab) nofun) (fun _ => ?_)
          refine wpAny_bind (str_eq hr.in1.units0 I1.kIn hob J hst hs hf (wpAny_mono (run_own (vs := [V.ref a, V.str t]) F hb hx ⟨hr.in1, rfl⟩ I1 (.cons rfl (.cons ⟨_, rfl⟩ .nil)) hsp1) (fun w s' z => ?_) fun _ _ e => e))
          obtain ⟨z, H', I', rz, rfl, s2, q⟩ := z
          cases (show w = Value.bool false from rz)
          exact wpAny_truthy_bool ⟨fun z => (by cases z), fun _ => .inr (.inr ⟨rfl, H', I', s1.trans s2, q⟩)⟩
    · obtain ⟨z, its, m, r, hlen, e⟩ := I2.lstM (s2 _ _ hl)
      have hz : its.length = 2 := by simpa using r.length.symm
      exact ⟨_, m, by simpa using hz, e, fun h => by simp [hz] at h⟩
  · rcases h with ⟨h, _⟩ | ⟨h, _⟩ | ⟨_, H2, I2, _, q⟩
    · cases h
    · cases h
    · exact ⟨.bl false, H2, I2, rfl, q⟩
end
end U

set_option Elab.async false
set_option linter.all false
set_option maxRecDepth 100000
set_option maxHeartbeats 4000000
namespace U
open PySem PySem.Spec PyProof.Rows L2
/-- xs == [] -/
def rEqNil (K : PySem.W.Frag) : R2 := fun x y H Q => ∃ (a b : Addr) (xs : List V), x = .ref a ∧ y = .ref b ∧ SqL K H a xs ∧ SqL K H b [] ∧ Q (.bl xs.isEmpty) H
section
variable {X : Cx}
theorem op_eqNil (hu : X.A.units < cLine) : OpR X (compareOp .Eq) (rEqNil X.K) := by
  intro pins s σ H x y v u Q I rx ry h
  obtain ⟨a, b, xs, rfl, rfl, ha, hb, q⟩ := h
  cases (show v = Value.ref a from rx)
  cases (show u = Value.ref b from ry)
  obtain ⟨its, rv, hl, hz⟩ := I.list ha
  obtain ⟨its2, rv2, hl2, hz2⟩ := I.list hb
  cases rv2
  show wpAny (model X.prog X.w) X.A (richCompare .Eq (.ref a) (.ref b)) (EP X pins σ Q) X.xe s
  cases xs with
  | nil =>
    cases rv
    exact SeqAt.RcAt.lists (e := fun _ => true) hl.isList hl2.isList rfl hu (fun j h1 _ => by simp at h1) _ _ _ _ ⟨.bl true, H, I, rfl, q⟩
  | cons x xs =>
    cases rv with
    | @cons _ u _ us r0 rv =>
      exact SeqAt.RcAt.lists_lengths hl.isList hl2.isList (by simp) hu _ _ _ _ ⟨.bl false, H, I, rfl, q⟩
end
end U

set_option Elab.async false
set_option linter.all false
set_option maxRecDepth 100000
set_option maxHeartbeats 4000000
/-! how the laws of houses begin: terms made of rows, the house of these, the dict of the rows -/
namespace K
open PySem PySem.Spec PyProof.Rows L2 U SkE
section
variable {α β : Type}
def RowRel (F : α → β → Prop) (a : List Nat × α) (b : List Nat × β) : Prop := a.1 = b.1 ∧ F a.2 b.2
theorem row_any {F : α → β → Prop} {as : List (List Nat × α)} {bs : List (List Nat × β)} (h : Paired (RowRel F) as bs) (n : List Nat) : (as.any fun r => decide (r.1 = n)) = bs.any fun r => decide (r.1 = n) := by
  induction h with
  | nil => rfl
  | cons h _ ih => rw [List.any_cons, List.any_cons, ih, h.1]
theorem row_put {F : α → β → Prop} {as : List (List Nat × α)} {bs : List (List Nat × β)} (h : Paired (RowRel F) as bs) (n : List Nat) {x : α} {y : β} (f : F x y) : Paired (RowRel F) (putR as n x) (putR bs n y) := by
  unfold putR
  rw [row_any h n]
  by_cases e : (bs.any fun r => decide (r.1 = n)) = true
  · rw [if_pos e, if_pos e]
    clear e
    induction h with
    | nil => exact .nil
    | @cons a b _ _ h _ ih =>
      rw [List.map_cons, List.map_cons]
      refine .cons ?_ ih
      by_cases e : b.1 = n
      · rw [if_pos (h.1.trans e), if_pos e]
        exact ⟨h.1, f⟩
      · rw [if_neg fun z => e (h.1.symm.trans z), if_neg e]
        exact h
  · rw [if_neg e, if_neg e]
    exact Paired.app h (.cons ⟨rfl, f⟩ .nil)
theorem row_all {F : α → β → Prop} {xs : List (List Nat × α)} {ys : List (List Nat × β)} (h : Paired (RowRel F) xs ys) : ∀ {as : List (List Nat × α)} {bs : List (List Nat × β)}, Paired (RowRel F) as bs → Paired (RowRel F) (putAll as xs) (putAll bs ys) := by
  induction h with
  | nil => exact fun h => h
  | @cons a b _ _ h _ ih =>
    intro as bs h0
    have e := row_put h0 a.1 h.2
    have := ih e
    rw [show putR bs a.1 b.2 = putR bs b.1 b.2 by rw [h.1]] at this
    exact this
theorem pair_rows {F : α → β → Prop} {R : V → α → Prop} {S : V → β → Prop} (m : ∀ v a b, R v a → F a b → S v b) : ∀ {kvs : List (Key × V)} {as : List (List Nat × α)} {bs : List (List Nat × β)}, PairK R kvs as → Paired (RowRel F) as bs → PairK S kvs bs
  | [], [], [], .nil, .nil => .nil
  | kv :: _, a :: _, b :: _, .cons h hs, .cons g gs => .cons ⟨by rw [h.1, g.1], m _ _ _ h.2 g.2⟩ (pair_rows m hs gs)
theorem pair_merge {R : V → α → Prop} {more : List (Key × V)} {rows : List (List Nat × α)} (h : PairK R more rows) : ∀ {kvs : List (Key × V)} {as : List (List Nat × α)}, PairK R kvs as → PairK R (mergeK kvs more) (putAll as rows) := by
  induction h with
  | nil => exact fun h => h
  | @cons kv r _ _ h _ ih =>
    intro kvs as h0
    have e := h0.put (n := r.1) h.2
    rw [← h.1] at e
    exact ih e
theorem putAll_mem {more : List (List Nat × α)} : ∀ {rows : List (List Nat × α)} {r : List Nat × α}, r ∈ putAll rows more → r ∈ rows ∨ r ∈ more := by
  induction more with
  | nil => exact fun h => .inl h
  | cons x more ih =>
    intro rows r h
    rcases ih (rows := putR rows x.1 x.2) h with h | h
    · rcases putR_mem h with h | h
      · exact .inl h
      · exact .inr (by rw [h]; exact List.mem_cons_self)
    · exact .inr (List.mem_cons_of_mem _ h)
end
theorem seq_asg {te : TE} {g : TG} {u : TS} {D : Ends} {σ : L2.St} {H : Hp} (h : te σ H fun x H1 => g x σ H1 (u D)) : tSeq (tAsg te g) u D σ H := h
/-- [(name, Term(text)) for name, text in rows] -/
theorem lc_terms {K : PySem.W.Frag} {C CT : Addr} {i j r : Nat} {σ : L2.St} {H : Hp} {Q : VK} {aR p : Addr} {rows : List (List Nat × U.Tm)} (hr : σ[r]? = some (some (.ref aR))) (h0 : ∀ x y, wipe (((wipe σ [i, j]).set i (some x)).set j (some y)) [i, j] = wipe σ [i, j]) (h1 : ∀ x y, (((wipe σ [i, j]).set i (some x)).set j (some y))[i]? = some (some x)) (h2 : ∀ x y, (((wipe σ [i, j]).set i (some x)).set j (some y))[j]? = some (some y))
    (R : RowsL p aR H rows) (rl : rows.length ≤ 100) (fit : ∀ r ∈ rows, ∃ N, Fit r.2 N)
    (q : ∀ D H' us hs, Same H H' → H D = none → H' D = some (.lst (us.map V.ref)) → Paired (fun u (h : List Nat × Addr) => H u = none ∧ H' u = some (.tup [.str (tx h.1), .ref h.2])) us hs → Paired (RowRel fun a t => TermG (fun a => H a = none ∧ a ≠ D) CT C H' t a) hs rows → Q (.ref D) H') :
    tLc (iList K (tVar r)) (gTup K 2 (gCons (gName i) (gCons (gName j) gNil))) tYes (tTup (tCons (tVar i) (tCons (tMake CT (spTermInit CT C) [] E0 (tCons (tVar j) tNil)) tNil))) [i, j] σ H Q := by
  obtain ⟨as, nR, eR, pR⟩ := R
  refine ⟨_, hr, aR, rfl, ⟨_, .inl (.inl eR)⟩, fun D hD => lc_it (walk_list (xs := as.map V.ref)) (fun n H' => Same H H' ∧ ∃ (us : List Addr) (hs : List (List Nat × Addr)), H' D = some (.lst (us.map V.ref)) ∧ Paired (fun u (h : List Nat × Addr) => (H u = none ∧ u ≠ D) ∧ H' u = some (.tup [.str (tx h.1), .ref h.2])) us hs ∧ Paired (RowRel fun a t => TermG (fun a => H a = none ∧ a ≠ D) CT C H' t a) hs (rows.take n)) ?_ ?_ ?_ ?_⟩
  · exact ⟨same_new hD, [], [], upd_same, .nil, .nil⟩
  · rintro n Hn _ ⟨s1, _⟩
    exact .inl (.inl (s1 _ _ eR))
  · rintro n x Hn H' hn ⟨s1, us, hs, hq, pu, ph⟩ ⟨rfl, hx⟩
    obtain ⟨t, row, rfl, hrow, nt, et⟩ := ref_at pR hx
    refine ⟨t, _, rfl, .inl (.inl (s1 _ _ et)), rfl, _, _, rfl, _, _, rfl, rfl, h0 _ _, ?_⟩
    have ul : us.length ≤ 100 := by
      have h1 := pu.length
      have h2 := ph.length
      rw [List.length_take] at h2
      omega
    obtain ⟨N, ft⟩ := fit row (List.mem_of_getElem? hrow)
    unfold tYes
    refine iteT ⟨_, h1 _ _, _, h2 _ _, fun a dx ha hdx nxa => ⟨row.2, N, a, dx, rfl, ft, upd_same, fun H3 b3 t3 => ⟨rfl, ?_⟩⟩⟩
    have hax : upd H' dx (.own a) a = none := by rw [upd_ne (Ne.symm nxa)]; exact ha
    have S0 : Same H' (upd (upd H' dx (.own a)) a (.ins CT dx [])) := (same_new hdx).trans (same_new hax)
    have S3 : Same H' H3 := fun b o e => b3 _ _ (S0 _ _ e) (ne_of_none e ha)
    have gone : ∀ {b : Addr}, (upd (upd H' dx (.own a)) a (.ins CT dx [])) b = none → H b = none ∧ b ≠ D := fun {b} hb => by
      have hb' : H' b = none := by
        cases h : H' b with
        | none => rfl
        | some o => rw [S0 _ _ h] at hb; cases hb
      refine ⟨?_, fun z => ?_⟩
      · cases h : H b with
        | none => rfl
        | some o => rw [s1 _ _ h] at hb'; cases hb'
      · rw [z, hq] at hb'
        cases hb'
    refine ⟨sizeLine_ge (by show 2 ≤ 10000; decide), fun u hu => ?_⟩
    have su := same_new (o := .tup [.str (tx row.1), .ref a]) hu
    have S4 := S3.trans su
    have nu : u ≠ D := Ne.symm (ne_of_none (S3 _ _ hq) hu)
    have hu' : H u = none := by
      cases h : H u with
      | none => rfl
      | some o => rw [S3 _ _ (s1 _ _ h)] at hu; cases hu
    refine ⟨_, S4 _ _ hq, by rw [List.length_map]; exact sizeLine_ge (by show us.length + 1 ≤ 10000; omega), fun b o hb => ?_, us ++ [u], hs ++ [(row.1, a)], by rw [upd_same, List.map_append]; rfl, ?_, ?_⟩
    · rw [upd_ne (ne_of_none hb hD)]
      exact S4 _ _ (s1 _ _ hb)
    · refine Paired.app (Paired.mapP pu fun b e h => ⟨h.1, ?_⟩) (.cons ⟨⟨hu', nu⟩, ?_⟩ .nil)
      · rw [upd_ne h.1.2]
        exact S4 _ _ h.2
      · rw [upd_ne nu]
        exact upd_same
    · rw [List.take_succ, hrow]
      have kd : ∀ o, KeepD (fun a => H a = none ∧ a ≠ D) (upd H3 u (.tup [.str (tx row.1), .ref a])) (upd (upd H3 u (.tup [.str (tx row.1), .ref a])) D o) := fun o b v hv _ g => by
        have nb : b ≠ D := fun z => by
          rcases g with ⟨_, g⟩ | g
          · exact g z
          · rw [z, S4 _ _ hq] at hv
            exact g _ (Option.some.inj hv).symm
        rw [upd_ne nb]
        exact hv
      have kS : ∀ {H1 H2 : Hp}, Same H1 H2 → KeepD (fun a => H a = none ∧ a ≠ D) H1 H2 := fun s b v hv _ _ => s b v hv
      refine Paired.app (Paired.mapP ph fun b e h => ⟨h.1, (h.2.keepD (kS S4)).keepD (kd _)⟩) (.cons ⟨rfl, ((t3.from fun b hb => gone hb).keepD (kS su)).keepD (kd _)⟩ .nil)
  · rintro Hn ⟨s1, us, hs, hq, pu, ph⟩
    rw [List.length_map, pR.length, List.take_length] at ph
    exact q D Hn us hs s1 hD hq (Paired.mapP pu fun u h g => ⟨g.1.1, g.2⟩) ph
/-- House(rows), what it leaves -/
theorem house_made {Sq : Hp → Addr → Addr → List V → Prop} {CH CK CS D : Addr} {H : Hp} {R : Addr → Hp → Prop} {E : XK} {us : List Addr} {hs : List (List Nat × Addr)} {v : V} (hv : v = .ref D) (sq : ∀ x H', H x = none → Same H H' → Sq H' x D (us.map V.ref)) (pu : Paired (fun u (h : List Nat × Addr) => H u = some (.tup [.str (tx h.1), .ref h.2])) us hs) (hl : hs.length ≤ 100)
    (q : ∀ ph H' dx aP aD k kvs, Same H H' → H ph = none → (H aP = none ∧ H aD = none ∧ H k = none) → (aP ≠ aD ∧ aP ≠ k ∧ aD ≠ k ∧ ph ≠ aP ∧ ph ≠ aD ∧ ph ≠ k) → H' ph = some (.ins CH dx (houseF (.ref aP) (.ref aD) (.ref k))) → H' aP = some (.dK kvs) → PairK IsRef kvs (putAll [] hs) → H' aD = some (.lst []) → Kept0 (fun a => H a = none) CK CS H' k → R ph H') :
    ∀ x dx, H x = none → H dx = none → dx ≠ x → spHouseInit Sq CH CK CS [.ref x, v] (upd (upd H dx (.own x)) x (.ins CH dx [])) (fun v H2 => v = .non ∧ R x H2) E := by
  intro x dx hx hdx nx
  subst hv
  have hx' : upd H dx (.own x) x = none := by rw [upd_ne (Ne.symm nx)]; exact hx
  have S0 : Same H (upd (upd H dx (.own x)) x (.ins CH dx [])) := (same_new hdx).trans (same_new hx')
  refine ⟨x, dx, D, us, hs, rfl, upd_same, sq _ _ hx S0, Paired.mapP pu fun u h e => ⟨ne_of_none e hx, S0 _ _ e⟩, hl, fun H' dx' aP aD k kvs b h1 g1 g2 g3 n1 n2 n3 h2 h3 h4 h5 => ⟨rfl, ?_⟩⟩
  have gone : ∀ {b : Addr}, (upd (upd H dx (.own x)) x (.ins CH dx [])) b = none → H b = none ∧ x ≠ b := fun {b} hb => by
    refine ⟨?_, fun z => ?_⟩
    · cases h : H b with
      | none => rfl
      | some o => rw [S0 _ _ h] at hb; cases hb
    · rw [← z, upd_same] at hb
      cases hb
  have S1 : Same H H' := fun b' o e => b _ _ (S0 _ _ e) (ne_of_none e hx)
  refine q x H' dx' aP aD k kvs S1 hx ⟨(gone g1).1, (gone g2).1, (gone g3).1⟩ ⟨n1, n2, n3, (gone g1).2, (gone g2).2, (gone g3).2⟩ h1 h2 h3 h4 ?_
  obtain ⟨dxk, s, b1, a, ⟨f1, f2, f3⟩, e1, ⟨dxs, sn, w, ⟨f4, f5, f6⟩, e2⟩, e3⟩ := h5
  exact ⟨dxk, s, b1, a, ⟨(gone f1).1, (gone f2).1, (gone f3).1⟩, e1, ⟨dxs, sn, w, ⟨(gone f4).1, (gone f5).1, (gone f6).1⟩, e2⟩, e3⟩
/-- the same, where the house is to stand told -/
theorem house_mk {Sq : Hp → Addr → Addr → List V → Prop} {CH CK CS D x dx : Addr} {H : Hp} {Q : VK} {E : XK} {us : List Addr} {hs : List (List Nat × Addr)} {v : V} (hv : v = .ref D) (sq : ∀ x H', H x = none → Same H H' → Sq H' x D (us.map V.ref)) (pu : Paired (fun u (h : List Nat × Addr) => H u = some (.tup [.str (tx h.1), .ref h.2])) us hs) (hl : hs.length ≤ 100) (hx : H x = none) (hdx : H dx = none) (nx : dx ≠ x)
    (q : ∀ H' dx aP aD k kvs, Same H H' → (H aP = none ∧ H aD = none ∧ H k = none) → (aP ≠ aD ∧ aP ≠ k ∧ aD ≠ k ∧ x ≠ aP ∧ x ≠ aD ∧ x ≠ k) → H' x = some (.ins CH dx (houseF (.ref aP) (.ref aD) (.ref k))) → H' aP = some (.dK kvs) → PairK IsRef kvs (putAll [] hs) → H' aD = some (.lst []) → Kept0 (fun a => H a = none) CK CS H' k → Q .non H') :
    spHouseInit Sq CH CK CS [.ref x, v] (upd (upd H dx (.own x)) x (.ins CH dx [])) Q E := by
  subst hv
  have hx' : upd H dx (.own x) x = none := by rw [upd_ne (Ne.symm nx)]; exact hx
  have S0 : Same H (upd (upd H dx (.own x)) x (.ins CH dx [])) := (same_new hdx).trans (same_new hx')
  refine ⟨x, dx, D, us, hs, rfl, upd_same, sq _ _ hx S0, Paired.mapP pu fun u h e => ⟨ne_of_none e hx, S0 _ _ e⟩, hl, fun H' dx' aP aD k kvs b h1 g1 g2 g3 n1 n2 n3 h2 h3 h4 h5 => ?_⟩
  have gone : ∀ {b : Addr}, (upd (upd H dx (.own x)) x (.ins CH dx [])) b = none → H b = none ∧ x ≠ b := fun {b} hb => by
    refine ⟨?_, fun z => ?_⟩
    · cases h : H b with
      | none => rfl
      | some o => rw [S0 _ _ h] at hb; cases hb
    · rw [← z, upd_same] at hb
      cases hb
  have S1 : Same H H' := fun b' o e => b _ _ (S0 _ _ e) (ne_of_none e hx)
  refine q H' dx' aP aD k kvs S1 ⟨(gone g1).1, (gone g2).1, (gone g3).1⟩ ⟨n1, n2, n3, (gone g1).2, (gone g2).2, (gone g3).2⟩ h1 h2 h3 h4 ?_
  obtain ⟨dxk, s, b1, a, ⟨f1, f2, f3⟩, e1, ⟨dxs, sn, w, ⟨f4, f5, f6⟩, e2⟩, e3⟩ := h5
  exact ⟨dxk, s, b1, a, ⟨(gone f1).1, (gone f2).1, (gone f3).1⟩, e1, ⟨dxs, sn, w, ⟨(gone f4).1, (gone f5).1, (gone f6).1⟩, e2⟩, e3⟩
/-- what a law of houses has at hand when it begins -/
theorem Play.start {CH CT C p ph dx aP aD k aM : Addr} {H : Hp} {c : Int} {hs : List (List Nat × Addr)} {rows : List (List Nat × U.Tm)} {kvs kvm : List (Key × V)} (P : Purse H p c) (hp : H ph = some (.ins CH dx (houseF (.ref aP) (.ref aD) (.ref k)))) (hP : H aP = some (.dK kvs)) (pk : PairK IsRef kvs (putAll [] hs)) (hD : H aD = some (.lst []))
    (hM : H aM = some (.dK kvm)) (pm : PairK IsText kvm (putAll [] rows)) (th : Paired (RowRel fun a t => TermG (fun b => b ∉ [p, aP, aD, aM]) CT C H t a) hs rows) (nD : aD ≠ p) (nM : aP ≠ aM) :
    Play CH CT C p ph dx aP aD k aM (fun a t => TermG (fun b => b ∉ [p, aP, aD, aM]) CT C H t a) H c (putAll [] rows) (putAll [] rows) [] :=
  ⟨P, ⟨hp, ⟨kvs, hP, pair_rows (fun v a b e f => ⟨a, e, f⟩) pk (row_all th .nil)⟩, [], hD, .nil⟩, ⟨kvm, hM, pm⟩, fun _ _ h => h, nD, nM⟩
theorem gone_upd {H : Hp} {a b : Addr} {o : HO} (ha : H a = none) (h : upd H a o b = none) : H b = none := by
  cases h' : H b with
  | none => rfl
  | some o' => rw [same_new ha _ _ h'] at h; cases h
theorem Play.tupN {CH CT C p ph dx aP aD k aM : Addr} {Tb : Addr → U.Tm → Prop} {H : Hp} {c : Int} {rows mrows : List (List Nat × U.Tm)} {deeds : List Deed} {q : Addr} {xs : List V} (h : Play CH CT C p ph dx aP aD k aM Tb H c rows mrows deeds) (e : H q = some (.tup xs)) : q ∉ [p, aP, aD, aM] := fun hm => by
  obtain ⟨o, e', h⟩ := h.mut q hm
  rw [e] at e'
  rcases h with ⟨l, rfl⟩ | ⟨l, rfl⟩ <;> cases e'
theorem Play.insN {CH CT C p ph dx aP aD k aM : Addr} {Tb : Addr → U.Tm → Prop} {H : Hp} {c : Int} {rows mrows : List (List Nat × U.Tm)} {deeds : List Deed} {q D dy : Addr} {fs : List (Str × V)} (h : Play CH CT C p ph dx aP aD k aM Tb H c rows mrows deeds) (e : H q = some (.ins D dy fs)) : q ∉ [p, aP, aD, aM] := fun hm => by
  obtain ⟨o, e', h⟩ := h.mut q hm
  rw [e] at e'
  rcases h with ⟨l, rfl⟩ | ⟨l, rfl⟩ <;> cases e'
theorem Play.newN {CH CT C p ph dx aP aD k aM : Addr} {Tb : Addr → U.Tm → Prop} {H : Hp} {c : Int} {rows mrows : List (List Nat × U.Tm)} {deeds : List Deed} {q : Addr} (h : Play CH CT C p ph dx aP aD k aM Tb H c rows mrows deeds) (e : H q = none) : q ∉ [p, aP, aD, aM] := fun hm => by
  obtain ⟨o, e', _⟩ := h.mut q hm
  rw [e] at e'
  cases e'
theorem HouseAt.made {F : Addr → U.Tm → Prop} {CH x dx aP aD k : Addr} {H : Hp} {hs : List (List Nat × Addr)} {rows : List (List Nat × U.Tm)} {kvs : List (Key × V)} (c1 : H x = some (.ins CH dx (houseF (.ref aP) (.ref aD) (.ref k)))) (c2 : H aP = some (.dK kvs)) (pk : PairK IsRef kvs (putAll [] hs)) (c4 : H aD = some (.lst [])) (th : Paired (RowRel F) hs rows) :
    HouseAt (fun v t => ∃ a, v = .ref a ∧ F a t) CH x dx aP aD k H (putAll [] rows) [] := ⟨c1, ⟨kvs, c2, pair_rows (fun v a b e f => ⟨a, e, f⟩) pk (row_all th .nil)⟩, [], c4, .nil⟩
theorem pair_texts : ∀ rows : List (List Nat × U.Tm), PairK IsText (rows.map fun r => ((.inr (tx r.1) : Key), V.str (tx r.2.pr))) rows
  | [] => .nil
  | _ :: rows => .cons ⟨rfl, rfl⟩ (pair_texts rows)
theorem TermG.fromH {G G' : Addr → Prop} {CT C : Addr} {H : Hp} {k : U.Tm} {p : Addr} (h : TermG G CT C H k p) (m : ∀ a o, G a → H a = some o → G' a) : TermG G' CT C H k p := by
  obtain ⟨dx, q, r, qs, zs, g, h1, h2, h3, h4⟩ := h
  exact ⟨dx, q, r, qs, zs, m _ _ g h3, h1, h2, h3, h4⟩
/-- terms, a house of them, the dict of texts: the play begins -/
theorem play_start {CH CT C CK p ph dx aP aD k aM D e : Addr} {H2 H3 H5 H8 : Hp} {c0 c : Int} {us : List Addr} {hs : List (List Nat × Addr)} {rows : List (List Nat × U.Tm)} {kvs kvm : List (Key × V)} {ss ns g1 g2 g3 : List (List Nat)} (P2 : Purse H2 p c0) (env : EnvL p e H2 ss ns g1 g2 g3) (s3 : Same H2 H3) (hD : H2 D = none) (eD : H3 D = some (.lst (us.map V.ref)))
    (th : Paired (RowRel fun a t => TermG (fun a => H2 a = none ∧ a ≠ D) CT C H3 t a) hs rows) (b5 : But p H3 H5) (P5 : Purse H5 p c) (f1 : H3 ph = none) (f2 : H3 aP = none ∧ H3 aD = none ∧ H3 k = none) (n : aP ≠ aD ∧ aP ≠ k ∧ aD ≠ k ∧ ph ≠ aP ∧ ph ≠ aD ∧ ph ≠ k)
    (e1 : H5 ph = some (.ins CH dx (houseF (.ref aP) (.ref aD) (.ref k)))) (e2 : H5 aP = some (.dK kvs)) (pk : PairK IsRef kvs (putAll [] hs)) (e3 : H5 aD = some (.lst [])) (e4 : ∃ dk fk, H5 k = some (.ins CK dk fk)) (B : But D H5 H8) (hM : H5 aM = none) (eM : H8 aM = some (.dK kvm)) (pm : PairK IsText kvm (putAll [] rows)) :
    Play CH CT C p ph dx aP aD k aM (fun a t => TermG (fun b => b ∉ [p, aP, aD, aM]) CT C H8 t a) H8 c (putAll [] rows) (putAll [] rows) [] ∧ EnvS [p, aP, aD, aM] e H8 ss ns g1 g2 g3 ∧ (∀ a o, H2 a = some o → a ≠ p → a ∉ [p, aP, aD, aM] ∧ H8 a = some o) ∧ (∃ dk fk, H8 k = some (.ins CK dk fk)) := by
  have P3 := P2.same s3
  have nDp : D ≠ p := Ne.symm (P2.ne hD)
  have eD5 : H5 D = some (.lst (us.map V.ref)) := b5 _ _ eD nDp
  have nP : aP ≠ p := P5.not e2 (by intro l z; cases z)
  have nDD : aD ≠ D := fun z => by rw [← z, f2.2.1] at eD; cases eD
  have nDp2 : aD ≠ p := fun z => by rw [z] at f2; obtain ⟨a, b, c, h, _⟩ := P3; rw [h] at f2; cases f2.2.1
  have old : ∀ a o, H3 a = some o → a ≠ p → a ∉ [p, aP, aD, aM] := fun a o h np hm => by
    simp only [List.mem_cons, List.not_mem_nil, or_false] at hm
    rcases hm with rfl | rfl | rfl | rfl
    · exact np rfl
    · rw [f2.1] at h; cases h
    · rw [f2.2.1] at h; cases h
    · rw [b5 _ _ h np] at hM; cases hM
  have keep : ∀ a o, H2 a = some o → a ≠ p → a ∉ [p, aP, aD, aM] ∧ H8 a = some o := fun a o h np =>
    ⟨old a o (s3 _ _ h) np, B _ _ (b5 _ _ (s3 _ _ h) np) (ne_of_none h hD)⟩
  have kd : KeepD (fun a => a ∉ [p, aP, aD, aM] ∧ a ≠ D) H3 H8 := fun a o h _ g => by
    have np : a ≠ p := fun z => by
      rcases g with ⟨g, _⟩ | g
      · exact g (by rw [z]; simp)
      · exact P3.not h g z
    have nD : a ≠ D := fun z => by
      rcases g with ⟨_, g⟩ | g
      · exact g z
      · rw [z, eD] at h
        exact g _ (Option.some.inj h).symm
    exact B _ _ (b5 _ _ h np) nD
  have th8 : Paired (RowRel fun a t => TermG (fun b => b ∉ [p, aP, aD, aM]) CT C H8 t a) hs rows := Paired.mapP th fun h r g => ⟨g.1, ((g.2.fromH (G' := fun a => a ∉ [p, aP, aD, aM] ∧ a ≠ D) fun a o ha ho => ⟨old a o ho (fun z => by
    obtain ⟨_, _, _, h, _⟩ := P2
    rw [z, h] at ha
    cases ha.1), ha.2⟩).keepD kd).from fun a ha => ha.1⟩
  have nphD : ph ≠ D := fun z => by rw [← z, f1] at eD; cases eD
  have nPD : aP ≠ D := fun z => by rw [← z, f2.1] at eD; cases eD
  have nkD : k ≠ D := fun z => by rw [← z, f2.2.2] at eD; cases eD
  have P8 : Purse H8 p c := by
    obtain ⟨a, b, c', h, r⟩ := P5
    exact ⟨a, b, c', B _ _ h (Ne.symm nDp), r⟩
  have nM : aP ≠ aM := ne_of_none e2 hM
  refine ⟨Play.start P8 (B _ _ e1 nphD) (B _ _ e2 nPD) pk (B _ _ e3 nDD) eM pm th8 nDp2 nM, ?_, keep, ?_⟩
  · obtain ⟨aS, aN, aE, a1, a2, a3, ⟨m1, m2, m3, m4, m5, m6, m7⟩, h1, h2, h3, h4, h5, h6, h7⟩ := env
    have k1 := keep _ _ h1 m1
    have k2 := keep _ _ h2 m2
    have k3 := keep _ _ h3 m3
    have k4 := keep _ _ h4 m4
    have k5 := keep _ _ h5 m5
    have k6 := keep _ _ h6 m6
    have k7 := keep _ _ h7 m7
    exact ⟨aS, aN, aE, a1, a2, a3, ⟨k1.1, k2.1, k3.1, k4.1, k5.1, k6.1, k7.1⟩, k1.2, k2.2, k3.2, k4.2, k5.2, k6.2, k7.2⟩
  · obtain ⟨dk, fk, h⟩ := e4
    exact ⟨dk, fk, B _ _ h nkD⟩
end K

set_option Elab.async false
set_option linter.all false
set_option maxRecDepth 100000
set_option maxHeartbeats 4000000
namespace K
open PySem PySem.Spec PyProof.Rows L2 U SkE
def spLaw (K : PySem.W.Frag) : Sp := fun vs H Q _ => ∃ (l : Addr) (ns : List Int), vs = [.ref l] ∧ SqL K H l (ns.map V.int) ∧ ns.length ≤ 63 ∧ ∀ H', Q (.bl true) H'
section
variable {P : Program} {w : World} {K : PySem.W.Frag} {mg : Str → Option Value} {base : Heap} {dW dB : Addr} {esW : Array DictEntry} {nW : Nat} (T : Txt K mg w dW dB esW nW)
include T
theorem ok_law {f f0 f1 f2 f3 f4 f5 f6 f7 f8 f9 fa fb fc : Addr} {C CT CH CK CS dE : Addr} {fd g0 g1 g2 g3 g4 g5 g6 g7 g8 g9 ga gb gc : FuncData} {ds : List Value} (F : Fun K "law" "law" s_law f fd) (MC : HouseC K CH)
    (h__law_purse : Has P w K mg base "_law_purse" 1 ["_law_script", "_law_at"] (spPurse K) f0 g0) (h__law_take : Has P w K mg base "_law_take" 1 ["_law_purse_here", "_law_many"] spTake f1 g1)
    (h__law_program : Has P w K mg base "_law_program" 10 ["_law_purse_here"] spProgram f2 g2) (m_Term : HasC P w K mg base "Term" CT 7 ["self", "text"] (spTermInit CT C) f3 g3)
    (m_House : HasC P w K mg base "House" CH 6 ["self", "parts"] (spHouseInit SqLst CH CK CS) f4 g4)
    (okHT : FnOk P w K mg base CX0 6 f4 g4 ["self", "parts"] (spHouseInit (SqTup K) CH CK CS)) (kHT : KBn K g4 ["self", "parts"] 1 ["parts"] (fun us ws => us ++ ws) (fun us ws => us ++ ws))
    (bH0 : Binds K g4 ["self", "parts"] ds) (vH0 : Vals [V.ref dE] ds) (eH0 : ∀ H, SqT K H dE [])
    (h__law_stands : Has P w K mg base "_law_stands" 10 ["_law_house", "_law_model", "_law_past"] (spStands CH CT C) f5 g5) (h__law_done : Has P w K mg base "_law_done" 10 ["_law_purse_here", "_law_house", "_law_model", "_law_env", "_law_greats"] (spDone CH CT C) f6 g6)
    (hPa : HasT P w K mg base CH "parts" 1 ["self"] (spHParts CH) f7 g7) (hPs : HasT P w K mg base CH "past" 1 ["self"] (spHPast CH) f8 g8)
    (hSt : HasM P w K mg base CH "__str__" 3 ["self"] (spHStr CH CT C) f9 g9) (hLn : HasM P w K mg base CH "__len__" 1 ["self"] (spHLen CH) fa ga) (hRp : HasM P w K mg base CH "__repr__" 1 ["self"] (spHRepr CH) fb gb) (hEq : HasM P w K mg base CH "__eq__" 1 ["self", "other"] (spHEq K CH CK) fc gc)
    (hNe : PySem.W.findIn K (.ref CH) "__ne__" = some (some (.builtin "object.__ne__"))) (hNo : PySem.W.subIn K (.ref CH) (.type "NoneType") = some false) (hNs : PySem.W.subIn K (.ref CH) (.type "str") = some false) (hTy : ∀ (H : Hp) (a dx : Addr) (fs : List (Str × V)), H a = some (.ins CH dx fs) → TyX K H (.ref a) (.ref CH)) (hKH : PySem.W.kitOne K (.ref CH) (.ref CH) = some true) (hKN : PySem.W.kitOne K (.type "NoneType") (.ref CH) = some false) (hKS : PySem.W.kitOne K (.type "str") (.ref CH) = some false) (hOb : PySem.W.subIn K (.ref CH) (.type "object") = some true) :
    FnOk P w K mg base CX0 12 f fd ["_law_script"] (spLaw K) := by
  refine F.ok sc_law (fun vs H Q E h => ?_) (fun cdv A outer s H vs Q E hr h => ?_)
  · obtain ⟨a, ns, rfl, _⟩ := h
    rfl
  · obtain ⟨l, ns, rfl, hl, hlen, q⟩ := h
    have hu := hu_of hr
    refine ⟨_, (pss_cons (ps_for PassesOwn.never rfl (pi_range1 (by rfl) T.z_range (pa_cons (pe_callB (call_max2 rfl) (by rfl) T.z_max (by decide +kernel) (pa_cons pe_int (pa_cons (pe_callB (call_min2 rfl) (by rfl) T.z_min (by decide +kernel) (pa_cons pe_int (pa_cons (pe_callB call_len_seq (by rfl) T.z_len (by decide +kernel) (pa_cons (pv 0) pa_nil)) pa_nil))) pa_nil))) pa_nil)) (pg_name (i := 1) sc_law.nd rfl (.inl rfl)) 
        (pss_cons (ps_set (i := 2) sc_law.nd rfl (.inl rfl) (pe_callH h__law_purse (hr.mono (by first | decide | omega)) (by rfl) (pa_cons (pv 0) (pa_cons (pv 1) pa_nil))))
        (pss_cons (ps_asg (pe_callH h__law_program (hr.mono (by first | decide | omega)) (by rfl) (pa_cons (pv 2) pa_nil)) (pg_tup rfl (pgs_cons (pg_name (i := 3) sc_law.nd rfl (.inl rfl)) (pgs_cons (pg_name (i := 4) sc_law.nd rfl (.inl rfl)) (pgs_cons (pg_name (i := 5) sc_law.nd rfl (.inl rfl)) pgs_nil)))))
        (pss_cons (ps_setLc (i := 6) (own := [("_law_part", 14), ("_law_text", 15)]) (g := gTup K 2 (gCons (gName 14) (gCons (gName 15) gNil))) (tt := tYes) (te := (tTup (tCons (tVar 14) (tCons (tMake CT (spTermInit CT C) [] E0 (tCons (tVar 15) tNil)) tNil)))) rfl sc_law.nd rfl rfl (sw_true rfl rfl rfl rfl) (pi_list (pv 5)) (blkOk_by (N := nm_law) (sc := defScope s_law) (by decide +kernel)) (fun _ _ _ _ _ => pg_tup rfl (pgs_cons (pg_name (i := 14) sc_law.nd rfl (.inl rfl)) (pgs_cons (pg_name (i := 15) sc_law.nd rfl (.inl rfl)) pgs_nil))) (fun _ _ _ _ _ => pts_nil) (fun _ _ _ _ _ => (pe_tup (pa_cons (pv 14) (pa_cons (pe_makeH m_Term (hr.mono (by first | decide | omega)) (by rfl) (pa_cons (pv 15) pa_nil)) pa_nil)))))
        (Evl.pss_cut (ps_set (i := 7) sc_law.nd rfl (.inl rfl) (pe_ifExp (pt_cmpR op_eq (pe_callH h__law_take (hr.mono (by first | decide | omega)) (by rfl) (pa_cons (pv 2) (pa_cons pe_int pa_nil))) pe_int (nomark _)) (pe_makeH m_House (hr.mono (by decide)) (by rfl) (pa_cons (pv 6) pa_nil)) (pe_makeK0 m_House.mkC okHT (hr.mono (by decide)) (by rfl) m_House.at_ kHT pass0 (pk_cons (pe_callTy call_tuple_of (by rfl) T.z_tuple (by decide +kernel) (pa_cons (pv 6) pa_nil)) pk_nil))))
        (pss_cons (ps_par (i := 8) (j := 9) (by rfl) sc_law.nd rfl rfl (by decide) rfl rfl (pa_cons (pe_callTy (call_dictP rfl) (by rfl) T.z_dict (by decide +kernel) (pa_cons (pv 5) pa_nil)) (pa_cons (pe_lst pa_nil) pa_nil)) (by rfl))
        (pss_cons (ps_expr (pe_bm0 PySem.F.plainAttrs_list PySem.F.slot_list_clear PySem.F.type_list_clear mt_clear (pv 6)))
        (pss_cons (ps_for PassesOwn.never rfl (pi_range1 (by rfl) T.z_range (pa_cons (pe_op op_add pe_int (pe_callH h__law_take (hr.mono (by first | decide | omega)) (by rfl) (pa_cons (pv 2) (pa_cons pe_int pa_nil)))) pa_nil)) (pg_name (i := 10) sc_law.nd rfl (.inl rfl)) 
          (pss_cons (ps_if (pt_not (pt_val (pe_callH h__law_stands (hr.mono (by first | decide | omega)) (by rfl) (pa_cons (pv 7) (pa_cons (pv 8) (pa_cons (pv 9) pa_nil)))))) 
            (pss_one (ps_ret pe_bl)) pss_nil)
          (pss_cons (ps_expr (pe_bm0 PySem.F.plainAttrs_list PySem.F.slot_list_clear PySem.F.type_list_clear mt_clear (pe_meth0 (pv 7) MC.cl hPa.me hPa.ok (hr.mono (by decide)) hPa.bi .nil pass0)))
          (pss_cons (ps_expr (pe_bm PySem.F.plainAttrs_list PySem.F.slot_list_append PySem.F.type_list_append mt_append (pe_meth0 (pv 7) MC.cl hPs.me hPs.ok (hr.mono (by decide)) hPs.bi .nil pass0) (pa_cons pe_non pa_nil)))
          (pss_cons (ps_asg (pe_callH h__law_done (hr.mono (by first | decide | omega)) (by rfl) (pa_cons (pv 2) (pa_cons (pv 7) (pa_cons (pv 8) (pa_cons (pv 3) (pa_cons (pv 4) pa_nil)))))) (pg_tup rfl (pgs_cons (pg_name (i := 11) sc_law.nd rfl (.inl rfl)) (pgs_cons (pg_name (i := 12) sc_law.nd rfl (.inl rfl)) pgs_nil))))
          (pss_cons (ps_set (i := 9) sc_law.nd rfl (.inl rfl) (pe_op op_cat (pv 9) (pe_lst (pa_cons (pv 12) pa_nil))))
          (pss_one (ps_if (pt_cmpR op_notN (pv 11) pe_non (nomark _)) 
            (pss_one (ps_ret pe_bl)) pss_nil))))))))
        (pss_one (ps_if (PW.pt (pw_or (pt_not (pt_val (pe_callH h__law_stands (hr.mono (by first | decide | omega)) (by rfl) (pa_cons (pv 7) (pa_cons (pv 8) (pa_cons (pv 9) pa_nil)))))) (pw_or (pt_cmpR (op_eqOwn hEq.ok hEq.at_ hEq.fn hEq.bi pass0 (hr.mono (by decide))) (pv 7) (pe_makeH m_House (hr.mono (by decide)) (by rfl) (pa_cons (pe_lst pa_nil) pa_nil)) (nomark _)) (pw_or (pt_cmpR (op_neOwn hEq.ok hEq.at_ hEq.fn hNe hOb hEq.bi pass0 (hr.mono (by decide))) (pv 7) (pv 7) (nomark _)) (pw_or1 (pt_cmpR (op_in2N hEq.ok hEq.at_ hEq.fn hNo hNs hEq.bi pass0 (hr.mono (by decide))) (pv 7) (pe_lst (pa_cons pe_non (pa_cons (pe_callTy (call_strOwn hSt.ok hSt.bi pass0 hSt.at_ hSt.fn (hr.mono (by decide))) (by rfl) T.z_str (by decide +kernel) (pa_cons (pv 7) pa_nil)) pa_nil))) (by rfl))))))) 
          (pss_one (ps_ret pe_bl)) pss_nil))))))))))
      (pss_cons (ps_set (i := 13) sc_law.nd rfl (.inl rfl) (pe_makeH m_House (hr.mono (by decide)) (by rfl) (pa_cons (pe_lst (pa_cons (pe_tup (pa_cons pe_str (pa_cons (pe_makeH m_Term (hr.mono (by first | decide | omega)) (by rfl) (pa_cons pe_str pa_nil)) pa_nil))) pa_nil)) pa_nil)))
      (pss_cons (ps_if (PW.pt (pw_or (pt_cmpR op_ne (pe_callB (call_reprOwn hRp.ok hRp.bi pass0 hRp.at_ hRp.fn (hr.mono (by decide))) (by rfl) T.z_repr (by decide +kernel) (pa_cons (pv 13) pa_nil)) pe_str (nomark _)) (pw_or (pt_cmpR op_ne (pe_callB (call_lenOwn hLn.ok hLn.bi pass0 hLn.at_ hLn.fn (hr.mono (by decide))) (by rfl) T.z_len (by decide +kernel) (pa_cons (pv 13) pa_nil)) pe_int (nomark _)) (pw_or (pt_cmpR op_ne (pe_callTy (call_strOwn hSt.ok hSt.bi pass0 hSt.at_ hSt.fn (hr.mono (by decide))) (by rfl) T.z_str (by decide +kernel) (pa_cons (pv 13) pa_nil)) pe_str (nomark _)) (pw_or1 (pt_cmpR op_ne (pe_callB (call_reprOwn hRp.ok hRp.bi pass0 hRp.at_ hRp.fn (hr.mono (by decide))) (by rfl) T.z_repr (by decide +kernel) (pa_cons (pe_make0 m_House.mkC okHT (hr.mono (by decide)) (by rfl) m_House.at_ bH0 vH0 pass0 (by decide)) pa_nil)) pe_str (nomark _))))))) 
        (pss_one (ps_ret pe_bl)) pss_nil)
      (pss_one (ps_ret (pe_and (pe_cmpR op_eq (pe_callB (call_lenOwn hLn.ok hLn.bi pass0 hLn.at_ hLn.fn (hr.mono (by decide))) (by rfl) T.z_len (by decide +kernel) (pa_cons (pe_make0 m_House.mkC okHT (hr.mono (by decide)) (by rfl) m_House.at_ bH0 vH0 pass0 (by decide)) pa_nil)) pe_int (nomark _)) (pe_and (pe_cmpR (op_neOwn hEq.ok hEq.at_ hEq.fn hNe hOb hEq.bi pass0 (hr.mono (by decide))) (pe_make0 m_House.mkC okHT (hr.mono (by decide)) (by rfl) m_House.at_ bH0 vH0 pass0 (by decide)) (pe_make0 m_House.mkC okHT (hr.mono (by decide)) (by rfl) m_House.at_ bH0 vH0 pass0 (by decide)) (nomark _)) (pe_and (pe_cmpR op_eq (pe_callTy (call_strOwn hSt.ok hSt.bi pass0 hSt.at_ hSt.fn (hr.mono (by decide))) (by rfl) T.z_str (by decide +kernel) (pa_cons (pe_make0 m_House.mkC okHT (hr.mono (by decide)) (by rfl) m_House.at_ bH0 vH0 pass0 (by decide)) pa_nil)) pe_str (nomark _)) (pe_one (pe_cmpR (op_eqNil hr.units0) (pe_meth0 (pe_make0 m_House.mkC okHT (hr.mono (by decide)) (by rfl) m_House.at_ bH0 vH0 pass0 (by decide)) MC.cl hPa.me hPa.ok (hr.mono (by decide)) hPa.bi .nil pass0) (pe_lst pa_nil) (nomark _))))))))))), ?_⟩
    have e38 : (2 : Int) ^ 38 = 274877906944 := by decide
    have e39 : (2 : Int) ^ 39 = 549755813888 := by decide
    have e40 : (2 : Int) ^ 40 = 1099511627776 := by decide
    refine ⟨_, rfl, l, _, rfl, .inl hl, _, _, rfl, _, _, rfl, ?_⟩
    have hb : (if (if ((ns.map V.int).length : Int) < 3 then ((ns.map V.int).length : Int) else 3) > 1 then (if ((ns.map V.int).length : Int) < 3 then ((ns.map V.int).length : Int) else 3) else 1) ≤ 3 ∧ 0 ≤ (if (if ((ns.map V.int).length : Int) < 3 then ((ns.map V.int).length : Int) else 3) > 1 then (if ((ns.map V.int).length : Int) < 3 then ((ns.map V.int).length : Int) else 3) else 1) := by
      split <;> split <;> omega
    refine ⟨_, rfl, by omega, by omega, for_range (fun _ σ H' => (∃ a1 a2 a3 a4 a5 a6 a7 a8 a9 a10 a11 a12 a13, σ = [some (.ref l), a1, a2, a3, a4, a5, a6, a7, a8, a9, a10, a11, a12, a13, none, none]) ∧ SqL K H' l (ns.map V.int)) ⟨⟨_, _, _, _, _, _, _, _, _, _, _, _, _, rfl⟩, hl⟩ ?_ ?_⟩
    · rintro i σ H0 hi ⟨⟨a1, a2, a3, a4, a5, a6, a7, a8, a9, a10, a11, a12, a13, rfl⟩, hl0⟩
      have hi : i ≤ 100 := by omega
      refine ⟨_, rfl, _, rfl, l, ns, i, ?_, hl0, hi, fun p pa pb hp ha hb hb2 => ?_⟩
      · rw [Int.zero_add]
        rfl
      have P0 : Purse (upd H0 p (.lst [.int pa, .int pb, .int 0])) p 0 := ⟨pa, pb, 0, upd_same, ha, hb, hb2, Int.le_refl _, Int.le_refl _⟩
      have s0 : Same H0 (upd H0 p (.lst [.int pa, .int pb, .int 0])) := same_new hp
      generalize upd H0 p (.lst [.int pa, .int pb, .int 0]) = H1 at P0 s0 ⊢
      refine ⟨_, rfl, p, 0, rfl, P0, by omega, fun r0 H2 e aG aR ss gs rows b2 P2 hne hr0 hG g8 oG env ok hR rl ro => ?_⟩
      refine ⟨r0, _, rfl, .inl (.inl hr0), rfl, _, _, rfl, _, _, rfl, _, _, rfl, rfl, ?_⟩
      refine seq_asg (lc_terms (r := 5) (i := 14) (j := 15) (by rfl) (by intros; rfl) (by intros; rfl) (by intros; rfl) hR (by omega) (fun r hr => ⟨_, fit_dr (ro r hr).2 ok.l3⟩) (fun D H3 us hs s3 hD eD pu ph0 => ?_))
      have P3 := P2.same s3
      have nDp : D ≠ p := Ne.symm (P2.ne hD)
      have eD4 : ∀ {H4 : Hp}, But p H3 H4 → H4 D = some (.lst (us.map V.ref)) := fun b => b _ _ eD nDp
      have pu4 : ∀ {H4 : Hp}, But p H3 H4 → Paired (fun u (h : List Nat × Addr) => H4 u = some (.tup [.str (tx h.1), .ref h.2])) us hs := fun b => Paired.mapP pu fun u h e => b _ _ e.2 (P3.not e.2 (by intro l z; cases z))
      have gone1 : ∀ {H4 : Hp} {t a : Addr} {o : HO}, H4 t = none → upd H4 t o a = none → H4 a = none := fun {H4 t a o} ht h => by
        cases h' : H4 a with
        | none => rfl
        | some o' => rw [same_new ht _ _ h'] at h; cases h
      have keptE : ∀ {H4 H' : Hp} {t k : Addr} {o : HO}, H4 t = none → Kept0 (fun a => upd H4 t o a = none) CK CS H' k → Kept0 (fun a => H4 a = none) CK CS H' k := fun ht h8 => by
        obtain ⟨dxk, s', b1, a, ⟨f1, f2, f3⟩, e1, ⟨dxs, sn, w, ⟨f4, f5, f6⟩, e2⟩, e3⟩ := h8
        exact ⟨dxk, s', b1, a, ⟨gone1 ht f1, gone1 ht f2, gone1 ht f3⟩, e1, ⟨dxs, sn, w, ⟨gone1 ht f4, gone1 ht f5, gone1 ht f6⟩, e2⟩, e3⟩
      have fin : ∀ {H4 : Hp}, But p H3 H4 → Purse H4 p (0 + 4000 + 1) → ∀ ph H' dx aP aD k kvs, Same H4 H' → H4 ph = none → (H4 aP = none ∧ H4 aD = none ∧ H4 k = none) → (aP ≠ aD ∧ aP ≠ k ∧ aD ≠ k ∧ ph ≠ aP ∧ ph ≠ aD ∧ ph ≠ k) → H' ph = some (.ins CH dx (houseF (.ref aP) (.ref aD) (.ref k))) → H' aP = some (.dK kvs) → PairK IsRef kvs (putAll [] hs) → H' aD = some (.lst []) → Kept0 (fun a => H4 a = none) CK CS H' k →
          ∃ hu dxh aP aD k kvs, [some (V.ref l), some (.int (0 + i)), some (.ref p), some (.ref e), some (.ref aG), some (.ref aR), some (.ref D), some (.ref ph), a8, a9, a10, a11, a12, a13, none, none] = [some (V.ref l), some (.int (0 + i)), some (.ref p), some (.ref e), some (.ref aG), some (.ref aR), some (.ref D), some (.ref hu), a8, a9, a10, a11, a12, a13, none, none] ∧ But p H3 H' ∧ Purse H' p 4001 ∧ H3 hu = none ∧ (H3 aP = none ∧ H3 aD = none ∧ H3 k = none) ∧ (aP ≠ aD ∧ aP ≠ k ∧ aD ≠ k ∧ hu ≠ aP ∧ hu ≠ aD ∧ hu ≠ k) ∧
            H' hu = some (.ins CH dxh (houseF (.ref aP) (.ref aD) (.ref k))) ∧ H' aP = some (.dK kvs) ∧ PairK IsRef kvs (putAll [] hs) ∧ H' aD = some (.lst []) ∧ (∃ dk fk, H' k = some (.ins CK dk fk)) := fun {H4} b4 P4 ph H' dx aP aD k kvs s1 h1 h2 h3 h4 h5 h6 h7 h8 => by
        obtain ⟨dxk, s', b1, a, _, f1, _⟩ := h8
        have gn : ∀ {a : Addr}, H4 a = none → H3 a = none := fun h => But.gone b4 h (Ne.symm (P4.ne h))
        exact ⟨ph, dx, aP, aD, k, kvs, rfl, b4.trans (But.of_same s1), (P4.same s1).mono (by omega), gn h1, ⟨gn h2.1, gn h2.2.1, gn h2.2.2⟩, h3, h4, h5, h6, h7, dxk, _, f1⟩
      have hsl : hs.length ≤ 8 := by rw [ph0.length]; exact rl
      refine ⟨fun σ H' => ∃ hu dxh aP aD k kvs, σ = [some (.ref l), some (.int (0 + i)), some (.ref p), some (.ref e), some (.ref aG), some (.ref aR), some (.ref D), some (.ref hu), a8, a9, a10, a11, a12, a13, none, none] ∧ But p H3 H' ∧ Purse H' p 4001 ∧ H3 hu = none ∧ (H3 aP = none ∧ H3 aD = none ∧ H3 k = none) ∧ (aP ≠ aD ∧ aP ≠ k ∧ aD ≠ k ∧ hu ≠ aP ∧ hu ≠ aD ∧ hu ≠ k) ∧
        H' hu = some (.ins CH dxh (houseF (.ref aP) (.ref aD) (.ref k))) ∧ H' aP = some (.dK kvs) ∧ PairK IsRef kvs (putAll [] hs) ∧ H' aD = some (.lst []) ∧ (∃ dk fk, H' k = some (.ins CK dk fk)), ?_, ?_⟩
      · refine ⟨_, rfl, p, 2, _, rfl, P3, by omega, by decide, by decide, fun r4 H4 h40 h41 P4 b4 => ⟨rfl, _, rfl, ite2 (fun h2 => ?_) (fun h2 => ?_)⟩⟩
        · exact ⟨_, rfl, fun x dx hx hdx nx => house_made rfl (fun x H' hx s => ⟨ne_of_none (eD4 b4) hx, s _ _ (eD4 b4)⟩) (pu4 b4) (by omega) (fin b4 P4) x dx hx hdx nx⟩
        · exact ⟨_, rfl, D, _, rfl, .inl ⟨.inl (.inl (eD4 b4)), fun t ht => ⟨rfl, rfl, fun x dx hx hdx nx => house_made rfl (fun x H' hx s H'' b => .inl (.inl (b _ _ (s _ _ upd_same) (ne_of_none upd_same hx)))) (Paired.mapP (pu4 b4) fun u h e => same_new ht _ _ e) (by omega) (fun ph H' dx aP aD k kvs s1 h1 h2 h3 h4 h5 h6 h7 h8 => fin b4 P4 ph H' dx aP aD k kvs ((same_new ht).trans s1) (gone1 ht h1) ⟨gone1 ht h2.1, gone1 ht h2.2.1, gone1 ht h2.2.2⟩ h3 h4 h5 h6 h7 (keptE ht h8)) x dx hx hdx nx⟩⟩⟩
      · rintro σ H5 ⟨ph, dxh, aP, aD, k, kvs, rfl, b5, P5, g1, ⟨g2, g3, g4⟩, ⟨n1, n2, n3, n4, n5, n6⟩, e1, e2, pk, e3, e4⟩
        obtain ⟨as, nR, eR, pR⟩ := (hR.but (But.of_same s3)).but b5
        refine ⟨_, rfl, aR, as, rows.map fun r => ((.inr (tx r.1) : Key), V.str (tx r.2.pr)), rfl, .inl (.inl eR), paired_map (g := fun r : List Nat × U.Tm => ((.inr (tx r.1) : Key), V.str (tx r.2.pr))) (Paired.mapP pR fun a r h => .inl (.inl h.2)), fun aM hM => ⟨sizeLine_ge (by show 0 ≤ 10000; decide), fun aQ hQ => ⟨_, _, rfl, ?_⟩⟩⟩
        have S7 := (same_new (o := .dK (mergeK [] (rows.map fun r => ((.inr (tx r.1) : Key), V.str (tx r.2.pr))))) hM).trans (same_new (o := .lst []) hQ)
        have eD7 := S7 _ _ (b5 _ _ eD nDp)
        refine ⟨_, rfl, .inl ⟨rfl, _, .inl (.inl eD7)⟩, D, _, rfl, rfl, eD7, ?_⟩
        have nMD : aM ≠ D := fun z => by rw [z, b5 _ _ eD nDp] at hM; cases hM
        have nQD : aQ ≠ D := fun z => by rw [z, same_new hM _ _ (b5 _ _ eD nDp)] at hQ; cases hQ
        have B58 : But D H5 (upd (upd (upd H5 aM (.dK (mergeK [] (rows.map fun r => ((.inr (tx r.1) : Key), V.str (tx r.2.pr)))))) aQ (.lst [])) D (.lst [])) := (But.of_same S7).trans But.upd
        have eM8 : (upd (upd (upd H5 aM (.dK (mergeK [] (rows.map fun r => ((.inr (tx r.1) : Key), V.str (tx r.2.pr)))))) aQ (.lst [])) D (.lst [])) aM = some (.dK (mergeK [] (rows.map fun r => ((.inr (tx r.1) : Key), V.str (tx r.2.pr))))) := by
          rw [upd_ne nMD]
          exact same_new hQ _ _ upd_same
        have eQ8 : (upd (upd (upd H5 aM (.dK (mergeK [] (rows.map fun r => ((.inr (tx r.1) : Key), V.str (tx r.2.pr)))))) aQ (.lst [])) D (.lst [])) aQ = some (.lst []) := by
          rw [upd_ne nQD]
          exact upd_same
        generalize upd (upd (upd H5 aM (.dK (mergeK [] (rows.map fun r => ((.inr (tx r.1) : Key), V.str (tx r.2.pr)))))) aQ (.lst [])) D (.lst []) = H8 at B58 eM8 eQ8 ⊢
        obtain ⟨PL, env8, keep8, ek8⟩ := play_start P2 env s3 hD eD ph0 b5 P5 g1 ⟨g2, g3, g4⟩ ⟨n1, n2, n3, n4, n5, n6⟩ e1 e2 pk e3 e4 B58 hM eM8 (pair_merge (pair_texts rows) .nil)
        have eG8 := keep8 _ _ hG hne.2
        have mp : p ∈ [p, aP, aD, aM] := by simp
        have S0 : ∀ {H' : Hp}, ButS [p, aP, aD, aM] H8 H' → Same H0 H' := fun b a o h => by
          have np := ne_of_none h hp
          have k := keep8 a o (b2 _ _ (s0 _ _ h) np) np
          exact b _ _ k.2 k.1
        have ro8 : ∀ r ∈ putAll [] rows, RowOk ss r := fun r hr => by
          rcases putAll_mem hr with h | h
          · cases h
          · exact ⟨oG _ (ro r h).1, (ro r h).2⟩
        have rl8 : (putAll [] rows).length ≤ 8 := by
          have := putAll_len [] rows
          have e0 : ([] : List (List Nat × U.Tm)).length = 0 := rfl
          omega
        have nd8 : NodR (putAll [] rows) := NodR.all List.nodup_nil
        refine ⟨_, rfl, p, 12, _, rfl, PL.purse, by omega, by decide, by decide, fun r9 H9 h90 h91 P9 b9 => ?_⟩
        have PL9 := PL.but b9 P9
        have B9 : ButS [p, aP, aD, aM] H8 H9 := ButS.of_but b9 mp
        have nQp : aQ ≠ p := Ne.symm ((P5.same (same_new hM)).ne hQ)
        have nQL : aQ ∉ [p, aP, aD, aM] := fun hm => by
          simp only [List.mem_cons, List.not_mem_nil, or_false] at hm
          rcases hm with rfl | rfl | rfl | rfl
          · exact nQp rfl
          · rw [same_new hM _ _ e2] at hQ; cases hQ
          · rw [same_new hM _ _ e3] at hQ; cases hQ
          · rw [upd_same] at hQ; cases hQ
        have B89 : ∀ {H' : Hp}, ButS [p, aP, aD, aM] H9 H' → ButS [p, aP, aD, aM] H8 H' := fun b => B9.trans b
        refine ⟨_, _, rfl, rfl, _, rfl, by omega, by omega, for_range (fun (j : Nat) σ H' => ∃ (a10 a11 a12 : Option V) (aQ' : Addr) (Tb : Addr → U.Tm → Prop) (rows' : List (List Nat × U.Tm)) (deeds : List Deed) (qs : List Addr), aQ' ∉ [p, aP, aD, aM] ∧ σ = [some (.ref l), some (.int (0 + i)), some (.ref p), some (.ref e), some (.ref aG), some (.ref aR), some (.ref D), some (.ref ph), some (.ref aM), some (.ref aQ'), a10, a11, a12, a13, none, none] ∧
          ButS [p, aP, aD, aM] H9 H' ∧ Play CH CT C p ph dxh aP aD k aM Tb H' (4002 + 400 * j) rows' rows' deeds ∧ deeds.length = j ∧ H' aQ' = some (.lst (qs.map V.ref)) ∧ Paired (fun q (e : Deed) => H' q = some (.tup e.row)) qs deeds ∧ NodR rows' ∧ (∀ r ∈ rows', RowOk ss r) ∧ rows'.length ≤ 8 + j ∧ (∀ ev ∈ deeds, EvOk ss ev)) ?_ ?_ ?_⟩
        · exact ⟨_, _, _, aQ, _, _, [], [], nQL, rfl, ButS.refl, PL9.more (by omega), rfl, b9 _ _ eQ8 nQp, .nil, nd8, ro8, by omega, by simp⟩
        · rintro j σ H10 hj ⟨a10, a11, a12, aQ', Tb, rows', deeds, qs, nQ', rfl, B10, PL10, dl, eq10, pq10, nd10, ro10, rl10, ev10⟩
          have hj12 : j ≤ 12 := by omega
          refine ⟨_, rfl, _, rfl, _, rfl, p, ph, dxh, aP, aD, k, aM, aQ', Tb, _, rows', deeds, ss, qs, rfl, PL10, eq10, pq10, nd10, ro10, by omega, by omega, fun e he => asc_ev (ev10 e he), fun H11 s11 => ⟨_, rfl, iteF ?_⟩⟩
          have PL11 := PL10.same s11
          refine ⟨_, rfl, ph, dxh, _, rfl, PL11.house.hp, by first | rfl | decide +kernel, InTb Tb, ph, dxh, aP, aD, k, rows', deeds, rfl, PL11.house, by omega, nd10, fun l1 H12 as1 srt s12 nl1 el1 _ _ _ => ⟨.inl ⟨rfl, _, .inl (.inl el1)⟩, l1, _, rfl, rfl, el1, ?_⟩⟩
          have S12 := upd_new (o := .lst []) nl1 s12
          have PL12 := PL11.same S12
          generalize upd H12 l1 (.lst []) = H12' at S12 PL12 ⊢
          refine ⟨_, rfl, ph, dxh, _, rfl, PL12.house.hp, by first | rfl | decide +kernel, InTb Tb, ph, dxh, aP, aD, k, rows', deeds, rfl, PL12.house, by omega, fun l2 H13 qs2 s13 nl2 el2 pq2 => ⟨.inl ⟨rfl, _, .inl (.inl el2)⟩, l2, _, _, rfl, rfl, el2, ?_, ?_⟩⟩
          · rw [List.length_map, pq2.length]
            exact sizeLine_ge (by show deeds.length + 1 ≤ 10000; omega)
          have S13 := upd_new (o := .lst (qs2.map V.ref ++ [.non])) nl2 s13
          have PL13 := PL12.same S13
          have S3 := (s11.trans S12).trans S13
          generalize upd H13 l2 (.lst (qs2.map V.ref ++ [.non])) = H13' at S13 PL13 S3 ⊢
          have B13 := B89 (B10.trans (ButS.of_same S3))
          refine ⟨_, rfl, _, rfl, _, rfl, _, rfl, _, rfl, p, ph, dxh, aP, aD, k, aM, e, aG, Tb, _, rows', deeds, ss, gs, _, _, _, rfl, PL13, by omega, env8.keep B13, ok, B13 _ _ eG8.2 eG8.1, eG8.1, g8, oG, nd10, ro10, by omega, by omega, fun r15 H15 q15 ev rows15 Tb15 B15 PL15 er eq15 nd15 ro15 rl15 ev15 => ?_⟩
          refine ⟨r15, _, rfl, .inl (.inl er), rfl, _, _, rfl, _, _, rfl, rfl, ?_⟩
          have eq15' := B15 _ _ (S3 _ _ eq10) nQ'
          have pq15 : Paired (fun q (e : Deed) => H15 q = some (.tup e.row)) qs deeds := Paired.mapP pq10 fun q e h => B15 _ _ (S3 _ _ h) (PL10.tupN h)
          have ql := pq10.length
          refine ⟨_, rfl, _, rfl, sizeLine_ge (by show 1 ≤ 10000; decide), fun u hu => ⟨aQ', u, _, _, rfl, rfl, same_new hu _ _ eq15', upd_same, sizeLine_ge (by rw [List.length_map]; show qs.length + 1 ≤ 10000; omega), fun v hv => ?_⟩⟩
          have Suv := (same_new (o := .lst [V.ref q15]) hu).trans (same_new (o := .lst (qs.map V.ref ++ [V.ref q15])) hv)
          refine ⟨_, rfl, rfl, _, rfl, ?_⟩
          rw [decide_eq_true rfl]
          refine iteF ?_
          refine ⟨_, _, _, v, Tb15, rows15, deeds ++ [ev], qs ++ [q15], ?_, rfl, (B10.trans (ButS.of_same S3)).trans (B15.trans (ButS.of_same Suv)), (PL15.same Suv).more (by push_cast; omega), by rw [List.length_append, dl]; rfl, by rw [upd_same, List.map_append]; rfl, Paired.app (Paired.mapP pq15 fun q e h => Suv _ _ h) (.cons (Suv _ _ eq15) .nil), nd15, ro15, by omega, fun e' he => ?_⟩
          · exact PL15.newN (gone_upd hu hv)
          · rcases List.mem_append.mp he with h | h
            · exact ev10 e' h
            · rw [List.mem_singleton.mp h]
              exact ev15
        · rintro σ H16 ⟨a10, a11, a12, aQ', Tb, rows', deeds, qs, nQ', rfl, B16, PL16, dl, eq16, pq16, nd16, ro16, rl16, ev16⟩
          refine ⟨_, rfl, _, rfl, _, rfl, p, ph, dxh, aP, aD, k, aM, aQ', Tb, _, rows', deeds, ss, qs, rfl, PL16, eq16, pq16, nd16, ro16, by omega, by omega, fun e he => asc_ev (ev16 e he), fun H17 s17 => ⟨_, rfl, iteF ?_⟩⟩
          have PL17 := PL16.same s17
          have ek17 : ∃ dk fk, H17 k = some (.ins CK dk fk) := by
            obtain ⟨dk, fk, h⟩ := ek8
            exact ⟨dk, fk, s17 _ _ (B89 B16 _ _ h (PL.insN h))⟩
          refine ⟨_, rfl, sizeLine_ge (by show 0 ≤ 10000; decide), fun aL hL => fun x dx hx hdx nx => ?_⟩
          refine house_mk (Sq := SqLst) (D := aL) (us := []) (hs := []) rfl (fun x H' hx s => ⟨ne_of_none upd_same hx, s _ _ upd_same⟩) .nil (by simp) hx hdx nx ?_
          rintro H18 dx2 aP2 aD2 k2 kv2 s18 f2 f3 c1 c2 c3 c4 c5
          refine ⟨rfl, ?_⟩
          have S18 := (same_new (o := .lst []) hL).trans s18
          have PL18 := PL17.same S18
          have hp18 := PL18.house.hp
          have ek18 : ∃ dk fk, H18 k = some (.ins CK dk fk) := by
            obtain ⟨dk, fk, h⟩ := ek17
            exact ⟨dk, fk, S18 _ _ h⟩
          have nk : k ≠ k2 := fun z => by
            obtain ⟨dk, fk, h⟩ := ek17
            have h' := same_new (o := .lst []) hL _ _ h
            rw [z, f2.2.2] at h'
            cases h'
          obtain ⟨dk2, s2, b2', a2', _, g2', _⟩ := c5
          refine ⟨ph, dxh, _, _, rfl, hp18, hTy _ _ _ _ c1, by simp [PySem.W.notFirst], ph, dxh, aP, aD, k, .ref x, rfl, hp18, ek18, .inr ⟨x, dx2, aP2, aD2, k2, rfl, hTy _ _ _ _ c1, hKH, c1, ⟨_, _, g2'⟩, _, rfl, _, rfl, ?_⟩⟩
          rw [decide_eq_false nk]
          refine iteF ?_
          refine ⟨_, rfl, _, rfl, ph, dxh, _, _, rfl, hp18, hTy _ _ _ _ hp18, by simp [PySem.W.notFirst], ph, dxh, aP, aD, k, .ref ph, rfl, hp18, ek18, .inr ⟨ph, dxh, aP, aD, k, rfl, hTy _ _ _ _ hp18, hKH, hp18, ek18, _, rfl, _, rfl, ?_⟩⟩
          rw [decide_eq_true rfl]
          refine iteF ?_
          have bnd16 : ∀ r ∈ rows', r.1.length ≤ 100 ∧ r.2.pr.length ≤ 9000 := fun r hr => ⟨Nat.le_trans (ro16 r hr).1.2.1 (by decide), Nat.le_trans ((ro16 r hr).2.small (Nat.le_refl 3)) (by decide)⟩
          refine ⟨_, rfl, _, rfl, ph, dxh, _, rfl, hp18, ph, dxh, aP, aD, k, rows', deeds, rfl, PL18.house.fine fun v t ⟨a, e, hb⟩ => ⟨a, e, (PL18.tb a t hb).at_⟩, by omega, nd16, bnd16, fun H19 srt19 s19 hp19 hs19 => ⟨_, rfl, sizeLine_ge (by show 2 ≤ 10000; decide), fun u hu => ?_⟩⟩
          have S20 := s19.trans (same_new (o := .lst [V.non, V.str (Txt.join (Str.ofString "") (srt19.map hLine))]) hu)
          have hp20 := S20 _ _ hp18
          have ek20 : ∃ dk fk, (upd H19 u (.lst [V.non, V.str (Txt.join (Str.ofString "") (srt19.map hLine))])) k = some (.ins CK dk fk) := by
            obtain ⟨dk, fk, h⟩ := ek18
            exact ⟨dk, fk, S20 _ _ h⟩
          refine ⟨ph, u, dxh, _, _, rfl, rfl, upd_same, hp20, ph, dxh, aP, aD, k, .non, rfl, hp20, ek20, .inl ⟨_, hKN, .base .non, rfl, fun _ _ e => e, ph, dxh, aP, aD, k, .str _, rfl, hp20, ek20, .inl ⟨_, hKS, .base (.str _), rfl, fun _ _ e => e, ?_⟩⟩⟩
          refine ⟨_, rfl, iteF ?_⟩
          exact ⟨⟨_, _, _, _, _, _, _, _, _, _, _, _, _, rfl⟩, (S0 ((B89 B16).trans (ButS.of_same ((s17.trans S18).trans S20)))).seq hl0⟩
    · rintro σ H1 ⟨⟨a1, a2, a3, a4, a5, a6, a7, a8, a9, a10, a11, a12, a13, rfl⟩, hl0⟩
      have e1 : (Str.ofString "1" : Str) = tx (U.Tm.atom .num [49]).pr := by decide +kernel
      have dr1 : Dr (NN [[], [], []]) [] 3 (.atom .num [49]) := Dr.atom 3 one_ok (by decide) (by intro z; cases z) (by intro z; cases z)
      refine fun a dx ha hdx nxa => ⟨.atom .num [49], _, a, dx, by rw [← e1]; rfl, fit_dr dr1 rfl, upd_same, fun H3 b3 t3 => ⟨rfl, sizeLine_ge (by show 2 ≤ 10000; decide), fun u hu => ⟨sizeLine_ge (by show 1 ≤ 10000; decide), fun aL hL => fun x dy hx hdy nx => ?_⟩⟩⟩
      have sL := same_new (o := .lst [V.ref u]) hL
      have eL : (upd (upd H3 u (.tup [V.str (Str.ofString "A"), V.ref a])) aL (.lst [V.ref u])) aL = some (.lst [V.ref u]) := upd_same
      refine house_mk (Sq := SqLst) (D := aL) (us := [u]) (hs := [([65], a)]) rfl (fun x H' hx s => ⟨ne_of_none eL hx, s _ _ eL⟩) (.cons (sL _ _ (by rw [show (Str.ofString "A" : Str) = tx [65] by decide +kernel]; exact upd_same)) .nil) (by show 1 ≤ 100; decide) hx hdy nx ?_
      rintro H4 dx4 aP aD k kvs s4 f2 f3 c1 c2 c3 c4 c5
      refine ⟨rfl, ?_⟩
      have tA : TermAt CT C H4 (.atom .num [49]) a := t3.at_.same (((same_new (o := .tup [V.str (Str.ofString "A"), V.ref a]) hu).trans sL).trans s4)
      have HA := HouseAt.made (F := fun a t => TermAt CT C H4 t a) c1 c2 c3 c4 (rows := [([65], .atom .num [49])]) (.cons ⟨rfl, tA⟩ .nil)
      have er : putAll [] [(([65] : List Nat), U.Tm.atom .num [49])] = [([65], .atom .num [49])] := rfl
      rw [er] at HA
      have nd1 : NodR [(([65] : List Nat), U.Tm.atom .num [49])] := List.nodup_cons.mpr ⟨by simp, List.nodup_nil⟩
      have hr1 : hRepr 1 = Str.ofString "House(1 part)" := by decide +kernel
      have hr0 : hRepr 0 = Str.ofString "House(0 parts)" := by decide +kernel
      have hl1 : Txt.join (Str.ofString "") ([(([65] : List Nat), U.Tm.atom .num [49])].map hLine) = Str.ofString "A 1\n" := by decide +kernel
      have hl0' : Txt.join (Str.ofString "") (([] : List (List Nat × U.Tm)).map hLine) = Str.ofString "" := by decide +kernel
      have new0 : ∀ {H : Hp} {x dx : Addr} {Q : VK}, H x = none → H dx = none → dx ≠ x → (∀ H' dx aP aD k, Same H H' → H k = none → HouseAt (fun v t => ∃ a, v = V.ref a ∧ TermAt CT C H' t a) CH x dx aP aD k H' [] [] → (∃ dk fk, H' k = some (.ins CK dk fk)) → Q .non H') →
          spHouseInit (SqTup K) CH CK CS (V.ref x :: ([] ++ [V.ref dE])) (upd (upd H dx (.own x)) x (.ins CH dx [])) Q E0 := fun {H x dx Q} hx hdx nx q => by
        refine house_mk (Sq := SqTup K) (D := dE) (us := []) (hs := []) rfl (fun _ _ _ _ H' _ => eH0 H') .nil (by show 0 ≤ 100; decide) hx hdx nx fun H' dx aP aD k kvs s f1 f2 c1 c2 c3 c4 c5 => ?_
        obtain ⟨dk, s', b', a', _, g, _⟩ := c5
        exact q H' dx aP aD k s f1.2.2 (HouseAt.made c1 c2 c3 c4 (rows := []) .nil) ⟨_, _, g⟩
      refine ⟨_, rfl, x, dx4, _, rfl, c1, _, x, dx4, aP, aD, k, _, _, rfl, HA, by show 1 ≤ 1000; decide, _, rfl, rfl, false, congrArg V.bl (by show (!decide (V.str (hRepr 1) = V.str (Str.ofString "House(1 part)"))) = false; rw [hr1]; simp), iteF ?_⟩
      refine ⟨_, rfl, x, dx4, _, rfl, c1, _, x, dx4, aP, aD, k, _, _, rfl, HA, _, rfl, by show (0 : Int) ≤ 1; decide, by show (1 : Int) < 2 ^ 63; decide, rfl, false, congrArg V.bl (by show (!decide (V.int 1 = V.int 1)) = false; simp), iteF ?_⟩
      refine ⟨_, rfl, x, dx4, _, rfl, c1, x, dx4, aP, aD, k, _, _, rfl, HA, by show 1 < 64; decide, nd1, fun r hr => ?_, fun H5 srt s5 hp5 hs5 => ⟨_, rfl, rfl, false, congrArg V.bl ?_, iteF ?_⟩⟩
      · rw [List.mem_singleton.mp hr]
        exact ⟨by show 1 ≤ 100; decide, by show 1 ≤ 9000; decide⟩
      · rw [List.perm_singleton.mp hp5, hl1]
        simp
      refine fun x6 dx6 hx6 hdx6 nx6 => new0 hx6 hdx6 nx6 fun H6 dx6' aP6 aD6 k6 s6 _ HA6 _ => ⟨rfl, x6, dx6', _, rfl, HA6.hp, _, x6, dx6', aP6, aD6, k6, _, _, rfl, HA6, by show 0 ≤ 1000; decide, _, rfl, rfl, false, congrArg V.bl (by show (!decide (V.str (hRepr 0) = V.str (Str.ofString "House(0 parts)"))) = false; rw [hr0]; simp), iteF ?_⟩
      refine fun x7 dx7 hx7 hdx7 nx7 => new0 hx7 hdx7 nx7 fun H7 dx7' aP7 aD7 k7 s7 _ HA7 _ => ⟨rfl, x7, dx7', _, rfl, HA7.hp, _, x7, dx7', aP7, aD7, k7, _, _, rfl, HA7, _, rfl, by show (0 : Int) ≤ 0; decide, by show (0 : Int) < 2 ^ 63; decide, rfl, true, congrArg V.bl (by show (decide (V.int 0 = V.int 0)) = true; simp), iteT ?_⟩
      refine fun x8 dx8 hx8 hdx8 nx8 => new0 hx8 hdx8 nx8 fun H8 dx8' aP8 aD8 k8 s8 _ HA8 ek8 => ⟨rfl, ?_⟩
      refine fun x9 dx9 hx9 hdx9 nx9 => new0 hx9 hdx9 nx9 fun H9 dx9' aP9 aD9 k9 s9 g9 HA9 ek9 => ⟨rfl, ?_⟩
      have nk : k8 ≠ k9 := fun z => by
        obtain ⟨dk, fk, h⟩ := ek8
        rw [z, g9] at h
        cases h
      have hp8 := s9 _ _ HA8.hp
      have ek8' : ∃ dk fk, H9 k8 = some (.ins CK dk fk) := by
        obtain ⟨dk, fk, h⟩ := ek8
        exact ⟨dk, fk, s9 _ _ h⟩
      refine ⟨x8, dx8', _, _, rfl, hp8, hTy _ _ _ _ HA9.hp, by simp [PySem.W.notFirst], x8, dx8', aP8, aD8, k8, .ref x9, rfl, hp8, ek8', .inr ⟨x9, dx9', aP9, aD9, k9, rfl, hTy _ _ _ _ HA9.hp, hKH, HA9.hp, ek9, _, rfl, true, congrArg V.bl (by rw [decide_eq_false nk]; rfl), iteT ?_⟩⟩
      refine fun x10 dx10 hx10 hdx10 nx10 => new0 hx10 hdx10 nx10 fun H10 dx10' aP10 aD10 k10 s10 _ HA10 _ => ⟨rfl, x10, dx10', _, rfl, HA10.hp, x10, dx10', aP10, aD10, k10, _, _, rfl, HA10, by show 0 < 64; decide, List.nodup_nil, fun r hr => (by cases hr), fun H11 srt s11 hp11 hs11 => ⟨_, rfl, rfl, true, congrArg V.bl ?_, iteT ?_⟩⟩
      · rw [List.perm_nil.mp hp11, hl0']
        simp
      refine fun x12 dx12 hx12 hdx12 nx12 => new0 hx12 hdx12 nx12 fun H12 dx12' aP12 aD12 k12 s12 _ HA12 _ => ⟨rfl, x12, dx12', _, rfl, HA12.hp, by first | rfl | decide +kernel, _, x12, dx12', aP12, aD12, k12, _, _, rfl, HA12, by show 0 < 64; decide, List.nodup_nil, fun l13 H13 as13 srt13 s13 nl13 el13 hp13 hs13 pa13 => ⟨sizeLine_ge (by show 0 ≤ 10000; decide), fun u hu => ?_⟩⟩
      have e13 : as13 = [] := by
        rw [List.perm_nil.mp hp13] at pa13
        cases pa13
        rfl
      subst e13
      exact ⟨l13, u, _, rfl, rfl, .inl (.inl (same_new hu _ _ el13)), .inl (.inl upd_same), q _⟩
end
end K


set_option Elab.async false
set_option linter.all false
set_option maxRecDepth 100000
set_option maxHeartbeats 4000000
/-! facts of the top, read by a Hook: what the library's facts lack -/
namespace U
open PySem PySem.Spec PyProof.Rows L2
theorem ex_at {l : List Bool} (h : l.all id = true) (i : Nat) {b : Bool} (e : l[i]? = some b) : b = true := by
  have := List.all_eq_true.mp h b (List.mem_of_getElem? e)
  exact this
theorem fun_of {K : PySem.W.Frag} {x qual : Str} {st : Stmt} {kws : List (Str × V)} {f : Addr} {fd : FuncData} (F : FunD K x qual (defArgs st) (defBody st) (defScope st) [] kws f fd) : Fun K x qual st f fd := by
  obtain ⟨oc, od, dV, kV, doc, pm, an, cdv, ct, osl, rfl, lk, hcd, hD, _⟩ := F.ex
  rcases hD with ⟨_, rfl⟩ | ⟨e, _⟩
  · exact ⟨⟨oc, od, kV, doc, pm, an, cdv, ct, osl, rfl, lk, hcd⟩, F.kp⟩
  · exact absurd rfl e
theorem fun_kbn {K : PySem.W.Frag} {x qual : Str} {st : Stmt} {f : Addr} {fd : FuncData} {ps ks : List Str} {n : Nat} {g : List Value → List Value → List Value} {gV : List V → List V → List V} (F : Fun K x qual st f fd)
    (h : ∀ (kV doc pm : Value) (an : Option Addr) (cdv ct : Value) (us ws : List Value), us.length = n → ws.length = ks.length → bindArgs (PySem.W.fnOf x qual (defArgs st) (defBody st) (defScope st) .none kV doc pm an cdv ct) ⟨us, ks.zip ws⟩ = pure (ps.zip (g us ws)))
    (hrel : ∀ {vs : List V} {us : List Value} {zs : List V} {ws : List Value}, Vals vs us → Vals zs ws → Vals (gV vs zs) (g us ws)) : KBn K fd ps n ks g gV := by
  obtain ⟨oc, od, kV, doc, pm, an, cdv, ct, osl, rfl, lk, hcd⟩ := F.ex
  exact ⟨fun s us ws _ h1 h2 => .of_eq (h kV doc pm an cdv ct us ws h1 h2), hrel⟩
def clsVal (K : PySem.W.Frag) (C f : Addr) (m : Str) : Bool := match PySem.W.findCls K (.ref C) (.type "type") m with
  | some (.val (.ref a)) => decide (a = f)
  | _ => false
theorem clsVal_ok {K : PySem.W.Frag} {C f : Addr} {m : Str} (h : clsVal K C f m = true) : PySem.W.findCls K (.ref C) (.type "type") m = some (.val (.ref f)) := by
  unfold clsVal at h
  split at h
  · rename_i a e
    rw [e, of_decide_eq_true h]
  · cases h
/-- a written tuple at a -/
def tupA (K : PySem.W.Frag) (a : Addr) (vs : List V) : Bool := match K.lookup a with
  | some ⟨.type c, _, .seq its _, _⟩ => decide (c = "tuple") && (decide (its.size ≤ sizeLine) && He.relAll vs its.toList)
  | _ => false
theorem tupA_ok {K : PySem.W.Frag} {a : Addr} {vs : List V} (h : tupA K a vs = true) (H : Hp) : SqT K H a vs := by
  unfold tupA at h
  split at h
  · rename_i c od its n sl q
    obtain ⟨h1, h2⟩ := He.ba h
    obtain ⟨h3, h4⟩ := He.ba h2
    exact .inr ⟨_, its, n, q, congrArg Value.type (of_decide_eq_true h1), rfl, of_decide_eq_true h3, He.relAll_ok h4⟩
  · cases h
def kvOf (e : DictEntry) : Option (Str × Int) := match e.key, e.val with
  | .str x _, .int i _ => some (x, i)
  | _, _ => none
def wordsB (K : PySem.W.Frag) (a : Addr) (kvs : List (Str × Int)) : Bool := match K.lookup a with
  | some ⟨_, _, .dict es _, _⟩ => decide (es.toList.map kvOf = kvs.map some)
  | _ => false
theorem kv_paired : ∀ {l : List DictEntry} {kvs : List (Str × Int)}, l.map kvOf = kvs.map some → Paired (fun (p : Str × Int) (e : DictEntry) => ∃ t u, e.key = .str p.1 t ∧ e.val = .int p.2 u) kvs l
  | [], [], _ => .nil
  | [], _ :: _, h => by cases h
  | _ :: _, [], h => by cases h
  | e :: l, q :: kvs, h => by
    have h1 : kvOf e :: l.map kvOf = some q :: kvs.map some := h
    injection h1 with h2 h3
    refine .cons ?_ (kv_paired h3)
    unfold kvOf at h2
    split at h2
    · rename_i x t i u q1 q2
      cases h2
      exact ⟨t, u, q1, q2⟩
    · cases h2
theorem ktab_of {K : PySem.W.Frag} {w : World} {a : Addr} {es : Array DictEntry} {n : Nat} {kvs : List (Str × Int)} (t : KDict K w a es n) (h : wordsB K a kvs = true) (nd : (kvs.map (·.1)).Nodup) : KTab K w a es n kvs := by
  unfold wordsB at h
  rw [t.at_] at h
  exact ⟨t, kv_paired (of_decide_eq_true h), nd⟩
/-- instances of an own class are told to be so -/
def tyB (K : PySem.W.Frag) (C : Addr) : Bool := He.eqO (PySem.W.findIn K (.ref C) "__class__") (some (some (.builtin "object.__class__"))) && (He.eqO (PySem.W.specialIn K (.builtin "object.__class__") "__get__") (some (some (.builtin "getset_descriptor.__get__"))) && (decide (PySem.W.takesIn K (.builtin "object.__class__") = some true) && decide (PySem.W.mroIn K C (.type "object") = some true)))
theorem tyB_ok {K : PySem.W.Frag} {C : Addr} (cl : Cls K C) (h : tyB K C = true) : ∀ (H : Hp) (a dx : Addr) (fs : List (Str × V)), H a = some (.ins C dx fs) → TyX K H (.ref a) (.ref C) := by
  obtain ⟨h1, h2⟩ := He.ba h
  obtain ⟨h3, h4⟩ := He.ba h2
  obtain ⟨h5, h6⟩ := He.ba h4
  exact fun H a dx fs e => .base (.ins e cl (He.eqO_ok h1) (He.eqO_ok h3) (of_decide_eq_true h5) (of_decide_eq_true h6))
def ownB (K : PySem.W.Frag) (C : Addr) : Bool := He.eqO (PySem.W.findIn K (.ref C) "__bool__") (some none) && (He.eqO (PySem.W.findIn K (.ref C) "__ne__") (some (some (.builtin "object.__ne__"))) && (decide (PySem.W.subIn K (.ref C) (.type "NoneType") = some false) && (decide (PySem.W.subIn K (.ref C) (.type "str") = some false) &&
  (decide (PySem.W.subIn K (.ref C) (.type "object") = some true) && (tyB K C && (decide (PySem.W.kitOne K (.ref C) (.ref C) = some true) && (decide (PySem.W.kitOne K (.type "NoneType") (.ref C) = some false) && decide (PySem.W.kitOne K (.type "str") (.ref C) = some false))))))))
theorem ownB_ok {K : PySem.W.Frag} {C : Addr} (cl : Cls K C) (h : ownB K C = true) : OwnC K C := by
  obtain ⟨h1, h⟩ := He.ba h
  obtain ⟨h2, h⟩ := He.ba h
  obtain ⟨h3, h⟩ := He.ba h
  obtain ⟨h4, h⟩ := He.ba h
  obtain ⟨h5, h⟩ := He.ba h
  obtain ⟨h6, h⟩ := He.ba h
  obtain ⟨h7, h⟩ := He.ba h
  obtain ⟨h8, h⟩ := He.ba h
  exact ⟨He.eqO_ok h1, He.eqO_ok h2, of_decide_eq_true h3, of_decide_eq_true h4, of_decide_eq_true h5, tyB_ok cl h6, of_decide_eq_true h7, of_decide_eq_true h8, of_decide_eq_true h⟩
def supB (K : PySem.W.Frag) (C f : Addr) (m : Str) : Bool := PySem.W.readsIn K C (.type "type") && (He.eqO (PySem.W.specialIn K (.ref C) "__getattribute__") (some (some (.builtin "type.__getattribute__"))) && (clsVal K C f m && PySem.W.keepIn K (.ref f)))
theorem supB_ok {K : PySem.W.Frag} {C f : Addr} {m : Str} (h : supB K C f m = true) : SupI K C m f := by
  obtain ⟨h1, h⟩ := He.ba h
  obtain ⟨h2, h⟩ := He.ba h
  obtain ⟨h3, h⟩ := He.ba h
  exact ⟨h1, He.eqO_ok h2, clsVal_ok h3, h⟩
end U

set_option Elab.async false
set_option linter.all false
set_option maxRecDepth 100000
set_option maxHeartbeats 4000000
/-! the Hook: a small part of the heap, without a look for what stands there twice -/
namespace U
open PySem PySem.Spec PyProof.Rows L2
def refsE (o : Obj) : List Addr := match o.data with
  | .seq its _ => its.toList.flatMap He.refV
  | .dict es _ => es.toList.flatMap fun e => He.refV e.val
  | .func fd => He.refV fd.code ++ (He.refV fd.defaults ++ He.refV fd.kwdefaults)
  | .cls cd => [cd.ns]
  | _ => []
def lvE (g : Addr → Option Obj) (as : List Addr) : List Addr := as.flatMap fun a => match g a with
  | some o => refsE o
  | none => []
def lvs (g : Addr → Option Obj) : Nat → List Addr → List Addr
  | 0, as => as
  | n + 1, as => as ++ lvs g n (lvE g as)
def asL (g : Addr → Option Obj) : List Addr := lvs g 5 [mainGlobals] ++ [PySem.cStatics]
structure SaysZ (fa : List He.Fa) (fn : List He.DefD) (ts : List He.Tab) (ex : PySem.W.Frag → Bool) (w : World) (K : PySem.W.Frag) : Prop where
  t : He.SaysT fa fn ts w K
  more : ex K = true
abbrev AlZ : Type := He.AlT × Bool
def obsZ (fa : List He.Fa) (fn : List He.DefD) (ts : List He.Tab) (ex : PySem.W.Frag → Bool) (g : Addr → Option Obj) : AlZ := (He.obsT fa fn ts (He.frG g (asL g)), ex (He.frG g (asL g)))
def hookZ (fa : List He.Fa) (fn : List He.DefD) (ts : List He.Tab) (ex : PySem.W.Frag → Bool) : PySem.W.Hook where
  α := AlZ
  obs := fun s => obsZ fa fn ts ex s.heap.get?
  val := fun w => (He.valT fn ts w, true)
  says := fun w h => ∃ K : PySem.W.Frag, K.In h ∧ SaysZ fa fn ts ex w K
  of := fun _ _ e => ⟨_, He.frG_in, ⟨congrArg (fun z : AlZ => z.1) e, congrArg (fun z : AlZ => z.2) e⟩⟩
  keeps := fun _ _ _ ⟨K, hK, c⟩ k => ⟨K, PySem.W.Frag.In.keeps hK k, c⟩
theorem obsZ_eq {fa : List He.Fa} {fn : List He.DefD} {ts : List He.Tab} {ex : PySem.W.Frag → Bool} {g : Addr → Option Obj} {s : Shared} (h : ∀ a, g a = s.heap.get? a) : obsZ fa fn ts ex g = (hookZ fa fn ts ex).obs s := by
  have e : g = s.heap.get? := funext h
  rw [e] <;> rfl
end U

set_option Elab.async false
set_option linter.all false
set_option maxRecDepth 100000
set_option maxHeartbeats 4000000
namespace K
open PySem PySem.Spec PyProof.Rows L2 U SkE
theorem wkv_nd : (wkv.map (·.1)).Nodup := by decide +kernel
theorem gW_vals {vs zs : List V} {us ws : List Value} (h1 : Vals vs us) (h2 : Vals zs ws) : Vals (gW vs zs) (gW us ws) := by
  cases h1 with
  | nil => exact h2
  | cons a h1 =>
    cases h1 with
    | cons b h1 => exact Vals.append (.cons a (.cons b h1)) h2
    | nil =>
      cases h2 with
      | nil => exact .cons a .nil
      | cons b h2 =>
        cases h2 with
        | nil => exact .cons a (.cons b .nil)
        | cons c h2 =>
          cases h2 with
          | nil => exact .cons a (.cons b (.cons c .nil))
          | cons d h2 =>
            cases h2 with
            | nil => exact .cons a (.cons c (.cons b (.cons d .nil)))
            | cons e h2 => exact .cons a (.cons b (.cons c (.cons d (.cons e h2))))
def fn : List He.DefD := [⟨("free_in", none), "free_in", "free_in", defArgs s_free_in, defBody s_free_in, defScope s_free_in, [], []⟩,
  ⟨("all_trees", none), "all_trees", "all_trees", defArgs s_all_trees, defBody s_all_trees, defScope s_all_trees, [], []⟩,
  ⟨("run_end", none), "run_end", "run_end", defArgs s_run_end, defBody s_run_end, defScope s_run_end, [], []⟩,
  ⟨("is_run", none), "is_run", "is_run", defArgs s_is_run, defBody s_is_run, defScope s_is_run, [], []⟩,
  ⟨("behind_trees", none), "behind", "behind", defArgs s_behind, defBody s_behind, defScope s_behind, [], []⟩,
  ⟨("number_end", none), "number_end", "number_end", defArgs s_number_end, defBody s_number_end, defScope s_number_end, [], []⟩,
  ⟨("word_end", none), "word_end", "word_end", defArgs s_word_end, defBody s_word_end, defScope s_word_end, [], []⟩,
  ⟨("small_end", none), "small_end", "small_end", defArgs s_small_end, defBody s_small_end, defScope s_small_end, [], []⟩,
  ⟨("bracket_at", none), "bracket_at", "bracket_at", defArgs s_bracket_at, defBody s_bracket_at, defScope s_bracket_at, [], []⟩,
  ⟨("piece_at", none), "piece_at", "piece_at", defArgs s_piece_at, defBody s_piece_at, defScope s_piece_at, [], []⟩,
  ⟨("pieces_of", none), "pieces_of", "pieces_of", defArgs s_pieces_of, defBody s_pieces_of, defScope s_pieces_of, [], []⟩,
  ⟨("check_size", none), "check_size", "check_size", defArgs s_check_size, defBody s_check_size, defScope s_check_size, [], []⟩,
  ⟨("built", none), "built", "built", defArgs s_built, defBody s_built, defScope s_built, [], []⟩,
  ⟨("tree_of", none), "tree_of", "tree_of", defArgs s_tree_of, defBody s_tree_of, defScope s_tree_of, [], []⟩,
  ⟨("is_part_name", none), "is_part_name", "is_part_name", defArgs s_is_part_name, defBody s_is_part_name, defScope s_is_part_name, [], []⟩,
  ⟨("refuse_loose", none), "refuse_loose", "refuse_loose", defArgs s_refuse_loose, defBody s_refuse_loose, defScope s_refuse_loose, [], []⟩,
  ⟨("_law_purse", none), "_law_purse", "_law_purse", defArgs s__law_purse, defBody s__law_purse, defScope s__law_purse, [], []⟩,
  ⟨("_law_take", none), "_law_take", "_law_take", defArgs s__law_take, defBody s__law_take, defScope s__law_take, [], []⟩,
  ⟨("_law_names", none), "_law_names", "_law_names", defArgs s__law_names, defBody s__law_names, defScope s__law_names, [], []⟩,
  ⟨("_law_form", none), "_law_form", "_law_form", defArgs s__law_form, defBody s__law_form, defScope s__law_form, [], []⟩,
  ⟨("_law_of", none), "_law_of", "_law_of", defArgs s__law_of, defBody s__law_of, defScope s__law_of, [], []⟩,
  ⟨("_law_program", none), "_law_program", "_law_program", defArgs s__law_program, defBody s__law_program, defScope s__law_program, [], []⟩,
  ⟨("_law_texts", none), "_law_texts", "_law_texts", defArgs s__law_texts, defBody s__law_texts, defScope s__law_texts, [], []⟩,
  ⟨("_law_stands", none), "_law_stands", "_law_stands", defArgs s__law_stands, defBody s__law_stands, defScope s__law_stands, [], []⟩,
  ⟨("_law_done", none), "_law_done", "_law_done", defArgs s__law_done, defBody s__law_done, defScope s__law_done, [], []⟩,
  ⟨("law", none), "law", "law", defArgs s_law, defBody s_law, defScope s_law, [], []⟩,
  ⟨("Tree", some "__init__"), "__init__", "Tree.__init__", defArgs s_Tree___init__, defBody s_Tree___init__, defScope s_Tree___init__, [], []⟩,
  ⟨("Term", some "__init__"), "__init__", "Term.__init__", defArgs s_Term___init__, defBody s_Term___init__, defScope s_Term___init__, [], []⟩,
  ⟨("Term", some "__str__"), "__str__", "Term.__str__", defArgs s_Term___str__, defBody s_Term___str__, defScope s_Term___str__, [], []⟩,
  ⟨("Term", some "free_names"), "free_names", "Term.free_names", defArgs s_Term_free_names, defBody s_Term_free_names, defScope s_Term_free_names, [], []⟩,
  ⟨("Space", some "__init__"), "__init__", "Space.__init__", defArgs s_Space___init__, defBody s_Space___init__, defScope s_Space___init__, [], []⟩,
  ⟨("KeptSpace", some "__init__"), "__init__", "KeptSpace.__init__", defArgs s_KeptSpace___init__, defBody s_KeptSpace___init__, defScope s_KeptSpace___init__, [], []⟩,
  ⟨("Kept", some "__init__"), "__init__", "Kept.__init__", defArgs s_Kept___init__, defBody s_Kept___init__, defScope s_Kept___init__, [], []⟩,
  ⟨("House", some "__init__"), "__init__", "House.__init__", defArgs s_House___init__, defBody s_House___init__, defScope s_House___init__, [.adr (He.dflAt ("House", some "__init__") 0)], []⟩,
  ⟨("House", some "write"), "write", "House.write", defArgs s_House_write, defBody s_House_write, defScope s_House_write, [], [("new", .bl false)]⟩,
  ⟨("House", some "strike"), "strike", "House.strike", defArgs s_House_strike, defBody s_House_strike, defScope s_House_strike, [], []⟩,
  ⟨("House", some "past"), "past", "House.past", defArgs s_House_past, defBody s_House_past, defScope s_House_past, [], []⟩,
  ⟨("House", some "parts"), "parts", "House.parts", defArgs s_House_parts, defBody s_House_parts, defScope s_House_parts, [], []⟩,
  ⟨("House", some "term_of"), "term_of", "House.term_of", defArgs s_House_term_of, defBody s_House_term_of, defScope s_House_term_of, [], []⟩,
  ⟨("House", some "__eq__"), "__eq__", "House.__eq__", defArgs s_House___eq__, defBody s_House___eq__, defScope s_House___eq__, [], []⟩,
  ⟨("House", some "__len__"), "__len__", "House.__len__", defArgs s_House___len__, defBody s_House___len__, defScope s_House___len__, [], []⟩,
  ⟨("House", some "__str__"), "__str__", "House.__str__", defArgs s_House___str__, defBody s_House___str__, defScope s_House___str__, [], []⟩,
  ⟨("House", some "__repr__"), "__repr__", "House.__repr__", defArgs s_House___repr__, defBody s_House___repr__, defScope s_House___repr__, [], []⟩]
def fa : List He.Fa := [.glo "free_in",
  .glo "all_trees",
  .glo "run_end",
  .glo "is_run",
  .glo "behind_trees",
  .glo "number_end",
  .glo "word_end",
  .glo "small_end",
  .glo "bracket_at",
  .glo "piece_at",
  .glo "pieces_of",
  .glo "check_size",
  .glo "built",
  .glo "tree_of",
  .glo "is_part_name",
  .glo "refuse_loose",
  .glo "_law_purse",
  .glo "_law_take",
  .glo "_law_names",
  .glo "_law_form",
  .glo "_law_of",
  .glo "_law_program",
  .glo "_law_texts",
  .glo "_law_stands",
  .glo "_law_done",
  .glo "law",
  .free "abs",
  .free "all",
  .free "any",
  .free "bool",
  .free "dict",
  .free "enumerate",
  .free "int",
  .free "isinstance",
  .free "len",
  .free "list",
  .free "max",
  .free "min",
  .free "range",
  .free "repr",
  .free "set",
  .free "sorted",
  .free "str",
  .free "tuple",
  .str "CLOSE" (Str.ofString ")"),
  .str "FIGURES" (Str.ofString "0123456789"),
  .str "FIRST_FIGURES" (Str.ofString "123456789"),
  .str "GREAT" (Str.ofString "ABCDEFGHIJKLMNOPQRSTUVWXYZ"),
  .int "MOST_FIGURES" 12,
  .int "MOST_GREAT" 6,
  .int "MOST_OPEN" 30,
  .int "MOST_PARTS" 60,
  .int "MOST_SMALL" 4,
  .int "MOST_TERMS" 200,
  .str "SMALL" (Str.ofString "abcdefghijklmnopqrstuvwxyz"),
  .glo "WORDS",
  .glo "BINDERS",
  .glo "Tree",
  .glo "Term",
  .cls "Tree",
  .noat "Tree" "text",
  .noat "Tree" "kind",
  .noat "Tree" "small",
  .noat "Tree" "within",
  .noat "Tree" "free",
  .noat "Tree" "code",
  .cls "Term",
  .noat "Term" "_tree",
  .noat "Term" "_text",
  .noat "Term" "_trees",
  .mkr "Tree",
  .mkr "Term",
  .glo "Space",
  .glo "KeptSpace",
  .glo "Kept",
  .glo "House",
  .cls "KeptSpace",
  .noat "KeptSpace" "senses",
  .noat "KeptSpace" "_walks",
  .cls "Kept",
  .noat "Kept" "steps",
  .noat "Kept" "space",
  .noat "Kept" "bodies",
  .noat "Kept" "_asked",
  .cls "House",
  .noat "House" "_parts",
  .noat "House" "_deeds",
  .noat "House" "_kept",
  .mkr "KeptSpace",
  .mkr "Kept",
  .mkr "House",
  .meth "Term" "__str__",
  .meth "Term" "free_names",
  .meth "House" "write",
  .meth "House" "strike",
  .meth "House" "past",
  .meth "House" "parts",
  .meth "House" "term_of",
  .meth "House" "__eq__",
  .meth "House" "__len__",
  .meth "House" "__str__",
  .meth "House" "__repr__"]
def exs (K : PySem.W.Frag) : List Bool := [wordsB K (He.ga K "WORDS") wkv,
  tupA K (He.ga K "BINDERS") [V.str (Str.ofString "let"), V.str (Str.ofString "def")],
  ownB K (He.ga K "House"),
  supB K (He.ga K "Space") (He.ma K (He.ga K "Space") "__init__") "__init__",
  He.eqO (PySem.W.findIn K (.ref (He.ga K "Term")) "__format__") (some (some (.builtin "object.__format__"))),
  decide (PySem.W.mroIn K (He.ga K "Term") (.type "object") = some true),
  tyB K (He.ga K "Term"),
  decide (PySem.W.kitOne K (.ref (He.ga K "Term")) (.ref (He.ga K "Term")) = some true),
  decide (PySem.W.mroIn K (He.ga K "Kept") (.type "object") = some true),
  He.eqO (PySem.W.findIn K (.ref (He.ga K "Kept")) "__eq__") (some (some (.builtin "object.__eq__"))),
  tupA K (He.dflAt ("House", some "__init__") 0 K) []]
def ex (K : PySem.W.Frag) : Bool := (exs K).all id
def tabW : He.Tab := (fun K => He.ga K "WORDS", wkv.map (·.1))
theorem facts {P : Program} {w : World} {K : PySem.W.Frag} {h : Heap} {mg : Str → Option Value} {f : Addr} (X : K.In h) (G : h.Ns mainGlobals mg) (hfa : mg ("law" : Str) = some (.ref f)) (c : SaysZ fa fn [tabW] ex w K) :
    ∃ fd : FuncData, (∀ (s : Shared) (v : Value), BindsTo s fd ⟨[v], []⟩ [("_law_script", v)]) ∧ ∀ base : Heap, K.In base → base.Ns mainGlobals mg → FnOk P w K mg base CX0 12 f fd ["_law_script"] (spLaw K) := by
  obtain ⟨d_free_in, D_free_in⟩ : ∃ fd, FunD K "free_in" "free_in" (defArgs s_free_in) (defBody s_free_in) (defScope s_free_in) [] [] (He.ga K "free_in") fd := c.t.d.def_ 0
  have F_free_in := fun_of D_free_in
  have b_free_in := F_free_in.binds (ps := ["tree"]) fun _ _ _ _ _ _ us hl => match us, hl with | [_], _ => rfl
  have k_free_in := D_free_in.kp
  have m_free_in := He.glo_ok X G (c.t.d.fact 0 (f := .glo "free_in"))
  obtain ⟨d_all_trees, D_all_trees⟩ : ∃ fd, FunD K "all_trees" "all_trees" (defArgs s_all_trees) (defBody s_all_trees) (defScope s_all_trees) [] [] (He.ga K "all_trees") fd := c.t.d.def_ 1
  have F_all_trees := fun_of D_all_trees
  have b_all_trees := F_all_trees.binds (ps := ["tree"]) fun _ _ _ _ _ _ us hl => match us, hl with | [_], _ => rfl
  have k_all_trees := D_all_trees.kp
  have m_all_trees := He.glo_ok X G (c.t.d.fact 1 (f := .glo "all_trees"))
  obtain ⟨d_run_end, D_run_end⟩ : ∃ fd, FunD K "run_end" "run_end" (defArgs s_run_end) (defBody s_run_end) (defScope s_run_end) [] [] (He.ga K "run_end") fd := c.t.d.def_ 2
  have F_run_end := fun_of D_run_end
  have b_run_end := F_run_end.binds (ps := ["text", "at", "signs", "most"]) fun _ _ _ _ _ _ us hl => match us, hl with | [_, _, _, _], _ => rfl
  have k_run_end := D_run_end.kp
  have m_run_end := He.glo_ok X G (c.t.d.fact 2 (f := .glo "run_end"))
  obtain ⟨d_is_run, D_is_run⟩ : ∃ fd, FunD K "is_run" "is_run" (defArgs s_is_run) (defBody s_is_run) (defScope s_is_run) [] [] (He.ga K "is_run") fd := c.t.d.def_ 3
  have F_is_run := fun_of D_is_run
  have b_is_run := F_is_run.binds (ps := ["text", "signs", "most"]) fun _ _ _ _ _ _ us hl => match us, hl with | [_, _, _], _ => rfl
  have k_is_run := D_is_run.kp
  have m_is_run := He.glo_ok X G (c.t.d.fact 3 (f := .glo "is_run"))
  obtain ⟨d_behind, D_behind⟩ : ∃ fd, FunD K "behind" "behind" (defArgs s_behind) (defBody s_behind) (defScope s_behind) [] [] (He.ga K "behind_trees") fd := c.t.d.def_ 4
  have F_behind := fun_of D_behind
  have b_behind := F_behind.binds (ps := ["text", "at", "sign"]) fun _ _ _ _ _ _ us hl => match us, hl with | [_, _, _], _ => rfl
  have k_behind := D_behind.kp
  have m_behind := He.glo_ok X G (c.t.d.fact 4 (f := .glo "behind_trees"))
  obtain ⟨d_number_end, D_number_end⟩ : ∃ fd, FunD K "number_end" "number_end" (defArgs s_number_end) (defBody s_number_end) (defScope s_number_end) [] [] (He.ga K "number_end") fd := c.t.d.def_ 5
  have F_number_end := fun_of D_number_end
  have b_number_end := F_number_end.binds (ps := ["text", "at"]) fun _ _ _ _ _ _ us hl => match us, hl with | [_, _], _ => rfl
  have k_number_end := D_number_end.kp
  have m_number_end := He.glo_ok X G (c.t.d.fact 5 (f := .glo "number_end"))
  obtain ⟨d_word_end, D_word_end⟩ : ∃ fd, FunD K "word_end" "word_end" (defArgs s_word_end) (defBody s_word_end) (defScope s_word_end) [] [] (He.ga K "word_end") fd := c.t.d.def_ 6
  have F_word_end := fun_of D_word_end
  have b_word_end := F_word_end.binds (ps := ["text", "at"]) fun _ _ _ _ _ _ us hl => match us, hl with | [_, _], _ => rfl
  have k_word_end := D_word_end.kp
  have m_word_end := He.glo_ok X G (c.t.d.fact 6 (f := .glo "word_end"))
  obtain ⟨d_small_end, D_small_end⟩ : ∃ fd, FunD K "small_end" "small_end" (defArgs s_small_end) (defBody s_small_end) (defScope s_small_end) [] [] (He.ga K "small_end") fd := c.t.d.def_ 7
  have F_small_end := fun_of D_small_end
  have b_small_end := F_small_end.binds (ps := ["text", "at"]) fun _ _ _ _ _ _ us hl => match us, hl with | [_, _], _ => rfl
  have k_small_end := D_small_end.kp
  have m_small_end := He.glo_ok X G (c.t.d.fact 7 (f := .glo "small_end"))
  obtain ⟨d_bracket_at, D_bracket_at⟩ : ∃ fd, FunD K "bracket_at" "bracket_at" (defArgs s_bracket_at) (defBody s_bracket_at) (defScope s_bracket_at) [] [] (He.ga K "bracket_at") fd := c.t.d.def_ 8
  have F_bracket_at := fun_of D_bracket_at
  have b_bracket_at := F_bracket_at.binds (ps := ["text", "at"]) fun _ _ _ _ _ _ us hl => match us, hl with | [_, _], _ => rfl
  have k_bracket_at := D_bracket_at.kp
  have m_bracket_at := He.glo_ok X G (c.t.d.fact 8 (f := .glo "bracket_at"))
  obtain ⟨d_piece_at, D_piece_at⟩ : ∃ fd, FunD K "piece_at" "piece_at" (defArgs s_piece_at) (defBody s_piece_at) (defScope s_piece_at) [] [] (He.ga K "piece_at") fd := c.t.d.def_ 9
  have F_piece_at := fun_of D_piece_at
  have b_piece_at := F_piece_at.binds (ps := ["text", "at"]) fun _ _ _ _ _ _ us hl => match us, hl with | [_, _], _ => rfl
  have k_piece_at := D_piece_at.kp
  have m_piece_at := He.glo_ok X G (c.t.d.fact 9 (f := .glo "piece_at"))
  obtain ⟨d_pieces_of, D_pieces_of⟩ : ∃ fd, FunD K "pieces_of" "pieces_of" (defArgs s_pieces_of) (defBody s_pieces_of) (defScope s_pieces_of) [] [] (He.ga K "pieces_of") fd := c.t.d.def_ 10
  have F_pieces_of := fun_of D_pieces_of
  have b_pieces_of := F_pieces_of.binds (ps := ["text"]) fun _ _ _ _ _ _ us hl => match us, hl with | [_], _ => rfl
  have k_pieces_of := D_pieces_of.kp
  have m_pieces_of := He.glo_ok X G (c.t.d.fact 10 (f := .glo "pieces_of"))
  obtain ⟨d_check_size, D_check_size⟩ : ∃ fd, FunD K "check_size" "check_size" (defArgs s_check_size) (defBody s_check_size) (defScope s_check_size) [] [] (He.ga K "check_size") fd := c.t.d.def_ 11
  have F_check_size := fun_of D_check_size
  have b_check_size := F_check_size.binds (ps := ["pieces"]) fun _ _ _ _ _ _ us hl => match us, hl with | [_], _ => rfl
  have k_check_size := D_check_size.kp
  have m_check_size := He.glo_ok X G (c.t.d.fact 11 (f := .glo "check_size"))
  obtain ⟨d_built, D_built⟩ : ∃ fd, FunD K "built" "built" (defArgs s_built) (defBody s_built) (defScope s_built) [] [] (He.ga K "built") fd := c.t.d.def_ 12
  have F_built := fun_of D_built
  have b_built := F_built.binds (ps := ["text", "pieces"]) fun _ _ _ _ _ _ us hl => match us, hl with | [_, _], _ => rfl
  have k_built := D_built.kp
  have m_built := He.glo_ok X G (c.t.d.fact 12 (f := .glo "built"))
  obtain ⟨d_tree_of, D_tree_of⟩ : ∃ fd, FunD K "tree_of" "tree_of" (defArgs s_tree_of) (defBody s_tree_of) (defScope s_tree_of) [] [] (He.ga K "tree_of") fd := c.t.d.def_ 13
  have F_tree_of := fun_of D_tree_of
  have b_tree_of := F_tree_of.binds (ps := ["text"]) fun _ _ _ _ _ _ us hl => match us, hl with | [_], _ => rfl
  have k_tree_of := D_tree_of.kp
  have m_tree_of := He.glo_ok X G (c.t.d.fact 13 (f := .glo "tree_of"))
  obtain ⟨d_is_part_name, D_is_part_name⟩ : ∃ fd, FunD K "is_part_name" "is_part_name" (defArgs s_is_part_name) (defBody s_is_part_name) (defScope s_is_part_name) [] [] (He.ga K "is_part_name") fd := c.t.d.def_ 14
  have F_is_part_name := fun_of D_is_part_name
  have b_is_part_name := F_is_part_name.binds (ps := ["thing"]) fun _ _ _ _ _ _ us hl => match us, hl with | [_], _ => rfl
  have k_is_part_name := D_is_part_name.kp
  have m_is_part_name := He.glo_ok X G (c.t.d.fact 14 (f := .glo "is_part_name"))
  obtain ⟨d_refuse_loose, D_refuse_loose⟩ : ∃ fd, FunD K "refuse_loose" "refuse_loose" (defArgs s_refuse_loose) (defBody s_refuse_loose) (defScope s_refuse_loose) [] [] (He.ga K "refuse_loose") fd := c.t.d.def_ 15
  have F_refuse_loose := fun_of D_refuse_loose
  have b_refuse_loose := F_refuse_loose.binds (ps := ["term"]) fun _ _ _ _ _ _ us hl => match us, hl with | [_], _ => rfl
  have k_refuse_loose := D_refuse_loose.kp
  have m_refuse_loose := He.glo_ok X G (c.t.d.fact 15 (f := .glo "refuse_loose"))
  obtain ⟨d__law_purse, D__law_purse⟩ : ∃ fd, FunD K "_law_purse" "_law_purse" (defArgs s__law_purse) (defBody s__law_purse) (defScope s__law_purse) [] [] (He.ga K "_law_purse") fd := c.t.d.def_ 16
  have F__law_purse := fun_of D__law_purse
  have b__law_purse := F__law_purse.binds (ps := ["_law_script", "_law_at"]) fun _ _ _ _ _ _ us hl => match us, hl with | [_, _], _ => rfl
  have k__law_purse := D__law_purse.kp
  have m__law_purse := He.glo_ok X G (c.t.d.fact 16 (f := .glo "_law_purse"))
  obtain ⟨d__law_take, D__law_take⟩ : ∃ fd, FunD K "_law_take" "_law_take" (defArgs s__law_take) (defBody s__law_take) (defScope s__law_take) [] [] (He.ga K "_law_take") fd := c.t.d.def_ 17
  have F__law_take := fun_of D__law_take
  have b__law_take := F__law_take.binds (ps := ["_law_purse_here", "_law_many"]) fun _ _ _ _ _ _ us hl => match us, hl with | [_, _], _ => rfl
  have k__law_take := D__law_take.kp
  have m__law_take := He.glo_ok X G (c.t.d.fact 17 (f := .glo "_law_take"))
  obtain ⟨d__law_names, D__law_names⟩ : ∃ fd, FunD K "_law_names" "_law_names" (defArgs s__law_names) (defBody s__law_names) (defScope s__law_names) [] [] (He.ga K "_law_names") fd := c.t.d.def_ 18
  have F__law_names := fun_of D__law_names
  have b__law_names := F__law_names.binds (ps := ["_law_purse_here", "_law_many", "_law_signs", "_law_wide"]) fun _ _ _ _ _ _ us hl => match us, hl with | [_, _, _, _], _ => rfl
  have k__law_names := D__law_names.kp
  have m__law_names := He.glo_ok X G (c.t.d.fact 18 (f := .glo "_law_names"))
  obtain ⟨d__law_form, D__law_form⟩ : ∃ fd, FunD K "_law_form" "_law_form" (defArgs s__law_form) (defBody s__law_form) (defScope s__law_form) [] [] (He.ga K "_law_form") fd := c.t.d.def_ 19
  have F__law_form := fun_of D__law_form
  have b__law_form := F__law_form.binds (ps := ["_law_purse_here", "_law_kind", "_law_env", "_law_deep"]) fun _ _ _ _ _ _ us hl => match us, hl with | [_, _, _, _], _ => rfl
  have k__law_form := D__law_form.kp
  have m__law_form := He.glo_ok X G (c.t.d.fact 19 (f := .glo "_law_form"))
  obtain ⟨d__law_of, D__law_of⟩ : ∃ fd, FunD K "_law_of" "_law_of" (defArgs s__law_of) (defBody s__law_of) (defScope s__law_of) [] [] (He.ga K "_law_of") fd := c.t.d.def_ 20
  have F__law_of := fun_of D__law_of
  have b__law_of := F__law_of.binds (ps := ["_law_purse_here", "_law_kind", "_law_env", "_law_deep"]) fun _ _ _ _ _ _ us hl => match us, hl with | [_, _, _, _], _ => rfl
  have k__law_of := D__law_of.kp
  have m__law_of := He.glo_ok X G (c.t.d.fact 20 (f := .glo "_law_of"))
  obtain ⟨d__law_program, D__law_program⟩ : ∃ fd, FunD K "_law_program" "_law_program" (defArgs s__law_program) (defBody s__law_program) (defScope s__law_program) [] [] (He.ga K "_law_program") fd := c.t.d.def_ 21
  have F__law_program := fun_of D__law_program
  have b__law_program := F__law_program.binds (ps := ["_law_purse_here"]) fun _ _ _ _ _ _ us hl => match us, hl with | [_], _ => rfl
  have k__law_program := D__law_program.kp
  have m__law_program := He.glo_ok X G (c.t.d.fact 21 (f := .glo "_law_program"))
  obtain ⟨d__law_texts, D__law_texts⟩ : ∃ fd, FunD K "_law_texts" "_law_texts" (defArgs s__law_texts) (defBody s__law_texts) (defScope s__law_texts) [] [] (He.ga K "_law_texts") fd := c.t.d.def_ 22
  have F__law_texts := fun_of D__law_texts
  have b__law_texts := F__law_texts.binds (ps := ["_law_kinds"]) fun _ _ _ _ _ _ us hl => match us, hl with | [_], _ => rfl
  have k__law_texts := D__law_texts.kp
  have m__law_texts := He.glo_ok X G (c.t.d.fact 22 (f := .glo "_law_texts"))
  obtain ⟨d__law_stands, D__law_stands⟩ : ∃ fd, FunD K "_law_stands" "_law_stands" (defArgs s__law_stands) (defBody s__law_stands) (defScope s__law_stands) [] [] (He.ga K "_law_stands") fd := c.t.d.def_ 23
  have F__law_stands := fun_of D__law_stands
  have b__law_stands := F__law_stands.binds (ps := ["_law_house", "_law_model", "_law_past"]) fun _ _ _ _ _ _ us hl => match us, hl with | [_, _, _], _ => rfl
  have k__law_stands := D__law_stands.kp
  have m__law_stands := He.glo_ok X G (c.t.d.fact 23 (f := .glo "_law_stands"))
  obtain ⟨d__law_done, D__law_done⟩ : ∃ fd, FunD K "_law_done" "_law_done" (defArgs s__law_done) (defBody s__law_done) (defScope s__law_done) [] [] (He.ga K "_law_done") fd := c.t.d.def_ 24
  have F__law_done := fun_of D__law_done
  have b__law_done := F__law_done.binds (ps := ["_law_purse_here", "_law_house", "_law_model", "_law_env", "_law_greats"]) fun _ _ _ _ _ _ us hl => match us, hl with | [_, _, _, _, _], _ => rfl
  have k__law_done := D__law_done.kp
  have m__law_done := He.glo_ok X G (c.t.d.fact 24 (f := .glo "_law_done"))
  obtain ⟨d_law, D_law⟩ : ∃ fd, FunD K "law" "law" (defArgs s_law) (defBody s_law) (defScope s_law) [] [] (He.ga K "law") fd := c.t.d.def_ 25
  have F_law := fun_of D_law
  have b_law := F_law.binds (ps := ["_law_script"]) fun _ _ _ _ _ _ us hl => match us, hl with | [_], _ => rfl
  have k_law := D_law.kp
  have m_law := He.glo_ok X G (c.t.d.fact 25 (f := .glo "law"))
  obtain ⟨d_Tree___init__, D_Tree___init__⟩ : ∃ fd, FunD K "__init__" "Tree.__init__" (defArgs s_Tree___init__) (defBody s_Tree___init__) (defScope s_Tree___init__) [] [] (He.ma K (He.ga K "Tree") "__init__") fd := c.t.d.def_ 26
  have F_Tree___init__ := fun_of D_Tree___init__
  have b_Tree___init__ := F_Tree___init__.binds (ps := ["self", "text", "kind", "small", "within"]) fun _ _ _ _ _ _ us hl => match us, hl with | [_, _, _, _, _], _ => rfl
  have k_Tree___init__ := D_Tree___init__.kp
  obtain ⟨d_Term___init__, D_Term___init__⟩ : ∃ fd, FunD K "__init__" "Term.__init__" (defArgs s_Term___init__) (defBody s_Term___init__) (defScope s_Term___init__) [] [] (He.ma K (He.ga K "Term") "__init__") fd := c.t.d.def_ 27
  have F_Term___init__ := fun_of D_Term___init__
  have b_Term___init__ := F_Term___init__.binds (ps := ["self", "text"]) fun _ _ _ _ _ _ us hl => match us, hl with | [_, _], _ => rfl
  have k_Term___init__ := D_Term___init__.kp
  obtain ⟨d_Term___str__, D_Term___str__⟩ : ∃ fd, FunD K "__str__" "Term.__str__" (defArgs s_Term___str__) (defBody s_Term___str__) (defScope s_Term___str__) [] [] (He.ma K (He.ga K "Term") "__str__") fd := c.t.d.def_ 28
  have F_Term___str__ := fun_of D_Term___str__
  have b_Term___str__ := F_Term___str__.binds (ps := ["self"]) fun _ _ _ _ _ _ us hl => match us, hl with | [_], _ => rfl
  have k_Term___str__ := D_Term___str__.kp
  obtain ⟨d_Term_free_names, D_Term_free_names⟩ : ∃ fd, FunD K "free_names" "Term.free_names" (defArgs s_Term_free_names) (defBody s_Term_free_names) (defScope s_Term_free_names) [] [] (He.ma K (He.ga K "Term") "free_names") fd := c.t.d.def_ 29
  have F_Term_free_names := fun_of D_Term_free_names
  have b_Term_free_names := F_Term_free_names.binds (ps := ["self"]) fun _ _ _ _ _ _ us hl => match us, hl with | [_], _ => rfl
  have k_Term_free_names := D_Term_free_names.kp
  obtain ⟨d_Space___init__, D_Space___init__⟩ : ∃ fd, FunD K "__init__" "Space.__init__" (defArgs s_Space___init__) (defBody s_Space___init__) (defScope s_Space___init__) [] [] (He.ma K (He.ga K "Space") "__init__") fd := c.t.d.def_ 30
  have F_Space___init__ := fun_of D_Space___init__
  have b_Space___init__ := F_Space___init__.binds (ps := ["self"]) fun _ _ _ _ _ _ us hl => match us, hl with | [_], _ => rfl
  have k_Space___init__ := D_Space___init__.kp
  obtain ⟨d_KeptSpace___init__, D_KeptSpace___init__⟩ : ∃ fd, FunD K "__init__" "KeptSpace.__init__" (defArgs s_KeptSpace___init__) (defBody s_KeptSpace___init__) (defScope s_KeptSpace___init__) [] [] (He.ma K (He.ga K "KeptSpace") "__init__") fd := c.t.d.def_ 31
  have F_KeptSpace___init__ := fun_of D_KeptSpace___init__
  have b_KeptSpace___init__ := F_KeptSpace___init__.binds (ps := ["self"]) fun _ _ _ _ _ _ us hl => match us, hl with | [_], _ => rfl
  have k_KeptSpace___init__ := D_KeptSpace___init__.kp
  obtain ⟨d_Kept___init__, D_Kept___init__⟩ : ∃ fd, FunD K "__init__" "Kept.__init__" (defArgs s_Kept___init__) (defBody s_Kept___init__) (defScope s_Kept___init__) [] [] (He.ma K (He.ga K "Kept") "__init__") fd := c.t.d.def_ 32
  have F_Kept___init__ := fun_of D_Kept___init__
  have b_Kept___init__ := F_Kept___init__.binds (ps := ["self"]) fun _ _ _ _ _ _ us hl => match us, hl with | [_], _ => rfl
  have k_Kept___init__ := D_Kept___init__.kp
  obtain ⟨d_House___init__, D_House___init__⟩ : ∃ fd, FunD K "__init__" "House.__init__" (defArgs s_House___init__) (defBody s_House___init__) (defScope s_House___init__) [V.ref (He.dflAt ("House", some "__init__") 0 K)] [] (He.ma K (He.ga K "House") "__init__") fd := c.t.d.def_ 33
  have k_House___init__ := D_House___init__.kp
  obtain ⟨d_House_write, D_House_write⟩ : ∃ fd, FunD K "write" "House.write" (defArgs s_House_write) (defBody s_House_write) (defScope s_House_write) [] [("new", V.bl false)] (He.ma K (He.ga K "House") "write") fd := c.t.d.def_ 34
  have F_House_write := fun_of D_House_write
  have k_House_write := D_House_write.kp
  obtain ⟨d_House_strike, D_House_strike⟩ : ∃ fd, FunD K "strike" "House.strike" (defArgs s_House_strike) (defBody s_House_strike) (defScope s_House_strike) [] [] (He.ma K (He.ga K "House") "strike") fd := c.t.d.def_ 35
  have F_House_strike := fun_of D_House_strike
  have b_House_strike := F_House_strike.binds (ps := ["self", "name"]) fun _ _ _ _ _ _ us hl => match us, hl with | [_, _], _ => rfl
  have k_House_strike := D_House_strike.kp
  obtain ⟨d_House_past, D_House_past⟩ : ∃ fd, FunD K "past" "House.past" (defArgs s_House_past) (defBody s_House_past) (defScope s_House_past) [] [] (He.ma K (He.ga K "House") "past") fd := c.t.d.def_ 36
  have F_House_past := fun_of D_House_past
  have b_House_past := F_House_past.binds (ps := ["self"]) fun _ _ _ _ _ _ us hl => match us, hl with | [_], _ => rfl
  have k_House_past := D_House_past.kp
  obtain ⟨d_House_parts, D_House_parts⟩ : ∃ fd, FunD K "parts" "House.parts" (defArgs s_House_parts) (defBody s_House_parts) (defScope s_House_parts) [] [] (He.ma K (He.ga K "House") "parts") fd := c.t.d.def_ 37
  have F_House_parts := fun_of D_House_parts
  have b_House_parts := F_House_parts.binds (ps := ["self"]) fun _ _ _ _ _ _ us hl => match us, hl with | [_], _ => rfl
  have k_House_parts := D_House_parts.kp
  obtain ⟨d_House_term_of, D_House_term_of⟩ : ∃ fd, FunD K "term_of" "House.term_of" (defArgs s_House_term_of) (defBody s_House_term_of) (defScope s_House_term_of) [] [] (He.ma K (He.ga K "House") "term_of") fd := c.t.d.def_ 38
  have F_House_term_of := fun_of D_House_term_of
  have b_House_term_of := F_House_term_of.binds (ps := ["self", "name"]) fun _ _ _ _ _ _ us hl => match us, hl with | [_, _], _ => rfl
  have k_House_term_of := D_House_term_of.kp
  obtain ⟨d_House___eq__, D_House___eq__⟩ : ∃ fd, FunD K "__eq__" "House.__eq__" (defArgs s_House___eq__) (defBody s_House___eq__) (defScope s_House___eq__) [] [] (He.ma K (He.ga K "House") "__eq__") fd := c.t.d.def_ 39
  have F_House___eq__ := fun_of D_House___eq__
  have b_House___eq__ := F_House___eq__.binds (ps := ["self", "other"]) fun _ _ _ _ _ _ us hl => match us, hl with | [_, _], _ => rfl
  have k_House___eq__ := D_House___eq__.kp
  obtain ⟨d_House___len__, D_House___len__⟩ : ∃ fd, FunD K "__len__" "House.__len__" (defArgs s_House___len__) (defBody s_House___len__) (defScope s_House___len__) [] [] (He.ma K (He.ga K "House") "__len__") fd := c.t.d.def_ 40
  have F_House___len__ := fun_of D_House___len__
  have b_House___len__ := F_House___len__.binds (ps := ["self"]) fun _ _ _ _ _ _ us hl => match us, hl with | [_], _ => rfl
  have k_House___len__ := D_House___len__.kp
  obtain ⟨d_House___str__, D_House___str__⟩ : ∃ fd, FunD K "__str__" "House.__str__" (defArgs s_House___str__) (defBody s_House___str__) (defScope s_House___str__) [] [] (He.ma K (He.ga K "House") "__str__") fd := c.t.d.def_ 41
  have F_House___str__ := fun_of D_House___str__
  have b_House___str__ := F_House___str__.binds (ps := ["self"]) fun _ _ _ _ _ _ us hl => match us, hl with | [_], _ => rfl
  have k_House___str__ := D_House___str__.kp
  obtain ⟨d_House___repr__, D_House___repr__⟩ : ∃ fd, FunD K "__repr__" "House.__repr__" (defArgs s_House___repr__) (defBody s_House___repr__) (defScope s_House___repr__) [] [] (He.ma K (He.ga K "House") "__repr__") fd := c.t.d.def_ 42
  have F_House___repr__ := fun_of D_House___repr__
  have b_House___repr__ := F_House___repr__.binds (ps := ["self"]) fun _ _ _ _ _ _ us hl => match us, hl with | [_], _ => rfl
  have k_House___repr__ := D_House___repr__.kp
  have T0 : TxtB K mg := ⟨He.free_ok X G (c.t.d.fact 26 (f := .free "abs")), He.free_ok X G (c.t.d.fact 27 (f := .free "all")), He.free_ok X G (c.t.d.fact 28 (f := .free "any")), He.free_ok X G (c.t.d.fact 29 (f := .free "bool")), He.free_ok X G (c.t.d.fact 30 (f := .free "dict")), He.free_ok X G (c.t.d.fact 31 (f := .free "enumerate")), He.free_ok X G (c.t.d.fact 32 (f := .free "int")), He.free_ok X G (c.t.d.fact 33 (f := .free "isinstance")), He.free_ok X G (c.t.d.fact 34 (f := .free "len")), He.free_ok X G (c.t.d.fact 35 (f := .free "list")), He.free_ok X G (c.t.d.fact 36 (f := .free "max")), He.free_ok X G (c.t.d.fact 37 (f := .free "min")), He.free_ok X G (c.t.d.fact 38 (f := .free "range")), He.free_ok X G (c.t.d.fact 39 (f := .free "repr")), He.free_ok X G (c.t.d.fact 40 (f := .free "set")), He.free_ok X G (c.t.d.fact 41 (f := .free "sorted")), He.free_ok X G (c.t.d.fact 42 (f := .free "str")), He.free_ok X G (c.t.d.fact 43 (f := .free "tuple")), He.str_ok X G (c.t.d.fact 44 (f := .str "CLOSE" (Str.ofString ")"))), He.str_ok X G (c.t.d.fact 45 (f := .str "FIGURES" (Str.ofString "0123456789"))), He.str_ok X G (c.t.d.fact 46 (f := .str "FIRST_FIGURES" (Str.ofString "123456789"))), He.str_ok X G (c.t.d.fact 47 (f := .str "GREAT" (Str.ofString "ABCDEFGHIJKLMNOPQRSTUVWXYZ"))), He.int_ok X G (c.t.d.fact 48 (f := .int "MOST_FIGURES" 12)), He.int_ok X G (c.t.d.fact 49 (f := .int "MOST_GREAT" 6)), He.int_ok X G (c.t.d.fact 50 (f := .int "MOST_OPEN" 30)), He.int_ok X G (c.t.d.fact 51 (f := .int "MOST_PARTS" 60)), He.int_ok X G (c.t.d.fact 52 (f := .int "MOST_SMALL" 4)), He.int_ok X G (c.t.d.fact 53 (f := .int "MOST_TERMS" 200)), He.str_ok X G (c.t.d.fact 54 (f := .str "SMALL" (Str.ofString "abcdefghijklmnopqrstuvwxyz")))⟩
  have e := hfa.symm.trans m_law
  cases e
  refine ⟨d_law, fun s v => (FunD.bindsA (ps := ["_law_script"]) D_law fun _ _ _ _ _ _ us hl => match us, hl with | [_], _ => rfl) s [v] rfl, fun base _ _ => ?_⟩
  obtain ⟨esW, nW, tW⟩ := c.t.tab 0 (t := tabW)
  have T : Txt K mg w (He.ga K "WORDS") (He.ga K "BINDERS") esW nW := ⟨T0, He.glo_ok X G (c.t.d.fact 55 (f := .glo "WORDS")), ktab_of tW (ex_at c.more 0 (b := wordsB K (He.ga K "WORDS") wkv) rfl) wkv_nd, He.glo_ok X G (c.t.d.fact 56 (f := .glo "BINDERS")), fun H => tupA_ok (ex_at c.more 1 (b := tupA K (He.ga K "BINDERS") [V.str (Str.ofString "let"), V.str (Str.ofString "def")]) rfl) H⟩
  have mgTree := He.glo_ok X G (c.t.d.fact 57 (f := .glo "Tree"))
  have mgTerm := He.glo_ok X G (c.t.d.fact 58 (f := .glo "Term"))
  have clTree : TreeC K (He.ga K "Tree") := ⟨He.cls_ok (c.t.d.fact 59 (f := .cls "Tree")), He.noat_ok (c.t.d.fact 60 (f := .noat "Tree" "text")), He.noat_ok (c.t.d.fact 61 (f := .noat "Tree" "kind")), He.noat_ok (c.t.d.fact 62 (f := .noat "Tree" "small")), He.noat_ok (c.t.d.fact 63 (f := .noat "Tree" "within")), He.noat_ok (c.t.d.fact 64 (f := .noat "Tree" "free")), He.noat_ok (c.t.d.fact 65 (f := .noat "Tree" "code"))⟩
  have clTerm : TermC K (He.ga K "Term") := ⟨He.cls_ok (c.t.d.fact 66 (f := .cls "Term")), He.noat_ok (c.t.d.fact 67 (f := .noat "Term" "_tree")), He.noat_ok (c.t.d.fact 68 (f := .noat "Term" "_text")), He.noat_ok (c.t.d.fact 69 (f := .noat "Term" "_trees"))⟩
  have mTree := He.mkr_ok (c.t.d.fact 70 (f := .mkr "Tree"))
  have mTerm := He.mkr_ok (c.t.d.fact 71 (f := .mkr "Term"))
  have h_run_end : Has P w K mg base "run_end" 1 ["text", "at", "signs", "most"] spRunEnd _ _ := ⟨m_run_end, k_run_end, b_run_end, ok_run_end T F_run_end⟩
  have h_behind : Has P w K mg base "behind_trees" 1 ["text", "at", "sign"] spBehind _ _ := ⟨m_behind, k_behind, b_behind, ok_behind T F_behind⟩
  have h_number_end : Has P w K mg base "number_end" 2 ["text", "at"] spNumEnd _ _ := ⟨m_number_end, k_number_end, b_number_end, ok_number_end T F_number_end h_run_end⟩
  have h_small_end : Has P w K mg base "small_end" 2 ["text", "at"] spSmallEnd _ _ := ⟨m_small_end, k_small_end, b_small_end, ok_small_end T F_small_end h_run_end⟩
  have h_word_end : Has P w K mg base "word_end" 1 ["text", "at"] spWordEnd _ _ := ⟨m_word_end, k_word_end, b_word_end, ok_word_end T F_word_end⟩
  have h_bracket_at : Has P w K mg base "bracket_at" 3 ["text", "at"] spBracket _ _ := ⟨m_bracket_at, k_bracket_at, b_bracket_at, ok_bracket_at T F_bracket_at h_word_end h_behind h_small_end⟩
  have h_piece_at : Has P w K mg base "piece_at" 4 ["text", "at"] spPiece _ _ := ⟨m_piece_at, k_piece_at, b_piece_at, ok_piece_at T F_piece_at h_bracket_at h_run_end h_number_end⟩
  have h_pieces_of : Has P w K mg base "pieces_of" 5 ["text"] spPieces _ _ := ⟨m_pieces_of, k_pieces_of, b_pieces_of, ok_pieces_of T F_pieces_of h_piece_at h_behind⟩
  have h_check_size : Has P w K mg base "check_size" 1 ["pieces"] spCheck _ _ := ⟨m_check_size, k_check_size, b_check_size, ok_check_size T F_check_size⟩
  have h_free_in : Has P w K mg base "free_in" 1 ["tree"] (spFreeIn (He.ga K "Tree")) _ _ := ⟨m_free_in, k_free_in, b_free_in, ok_free_in T F_free_in clTree⟩
  have m_Tree : HasC P w K mg base "Tree" (He.ga K "Tree") 2 ["self", "text", "kind", "small", "within"] (spTreeInit (He.ga K "Tree")) _ _ := ⟨mgTree, mTree, b_Tree___init__, ok_Tree_init T F_Tree___init__ clTree h_free_in⟩
  have h_built : Has P w K mg base "built" 4 ["text", "pieces"] (spBuilt (He.ga K "Tree")) _ _ := ⟨m_built, k_built, b_built, ok_built T F_built clTree m_Tree⟩
  have h_tree_of : Has P w K mg base "tree_of" 6 ["text"] (spTreeOf (He.ga K "Tree")) _ _ := ⟨m_tree_of, k_tree_of, b_tree_of, ok_tree_of T F_tree_of h_pieces_of h_check_size h_built⟩
  have h_all_trees : Has P w K mg base "all_trees" 1 ["tree"] (spAll (He.ga K "Tree")) _ _ := ⟨m_all_trees, k_all_trees, b_all_trees, ok_all_trees T F_all_trees clTree⟩
  have m_Term : HasC P w K mg base "Term" (He.ga K "Term") 7 ["self", "text"] (spTermInit (He.ga K "Term") (He.ga K "Tree")) _ _ := ⟨mgTerm, mTerm, b_Term___init__, ok_Term_init T F_Term___init__ clTerm h_tree_of h_all_trees⟩
  have h__law_purse : Has P w K mg base "_law_purse" 1 ["_law_script", "_law_at"] (spPurse K) _ _ := ⟨m__law_purse, k__law_purse, b__law_purse, ok__law_purse T F__law_purse⟩
  have h__law_take : Has P w K mg base "_law_take" 1 ["_law_purse_here", "_law_many"] spTake _ _ := ⟨m__law_take, k__law_take, b__law_take, ok__law_take T F__law_take⟩
  have h__law_names : Has P w K mg base "_law_names" 2 ["_law_purse_here", "_law_many", "_law_signs", "_law_wide"] spNames _ _ := ⟨m__law_names, k__law_names, b__law_names, ok__law_names T F__law_names h__law_take⟩
  have h__law_of : Has P w K mg base "_law_of" 9 ["_law_purse_here", "_law_kind", "_law_env", "_law_deep"] spOfAll _ _ := ⟨m__law_of, k__law_of, b__law_of, ok__law_of T F__law_of F__law_form h__law_take m__law_of k__law_of b__law_of m__law_form k__law_form b__law_form⟩
  have h__law_program : Has P w K mg base "_law_program" 10 ["_law_purse_here"] spProgram _ _ := ⟨m__law_program, k__law_program, b__law_program, ok__law_program T F__law_program h__law_take h__law_names h__law_of⟩
  have mgSpace := He.glo_ok X G (c.t.d.fact 72 (f := .glo "Space"))
  have mgKS := He.glo_ok X G (c.t.d.fact 73 (f := .glo "KeptSpace"))
  have mgKept := He.glo_ok X G (c.t.d.fact 74 (f := .glo "Kept"))
  have mgHouse := He.glo_ok X G (c.t.d.fact 75 (f := .glo "House"))
  have clKS : SpaceC K (He.ga K "KeptSpace") := ⟨He.cls_ok (c.t.d.fact 76 (f := .cls "KeptSpace")), He.noat_ok (c.t.d.fact 77 (f := .noat "KeptSpace" "senses")), He.noat_ok (c.t.d.fact 78 (f := .noat "KeptSpace" "_walks"))⟩
  have clKept : KeptC K (He.ga K "Kept") := ⟨He.cls_ok (c.t.d.fact 79 (f := .cls "Kept")), He.noat_ok (c.t.d.fact 80 (f := .noat "Kept" "steps")), He.noat_ok (c.t.d.fact 81 (f := .noat "Kept" "space")), He.noat_ok (c.t.d.fact 82 (f := .noat "Kept" "bodies")), He.noat_ok (c.t.d.fact 83 (f := .noat "Kept" "_asked"))⟩
  have clHouse : HouseC K (He.ga K "House") := ⟨He.cls_ok (c.t.d.fact 84 (f := .cls "House")), He.noat_ok (c.t.d.fact 85 (f := .noat "House" "_parts")), He.noat_ok (c.t.d.fact 86 (f := .noat "House" "_deeds")), He.noat_ok (c.t.d.fact 87 (f := .noat "House" "_kept"))⟩
  have mKS := He.mkr_ok (c.t.d.fact 88 (f := .mkr "KeptSpace"))
  have mKept := He.mkr_ok (c.t.d.fact 89 (f := .mkr "Kept"))
  have mHouse := He.mkr_ok (c.t.d.fact 90 (f := .mkr "House"))
  have OH := ownB_ok clHouse.cl (ex_at c.more 2 (b := ownB K (He.ga K "House")) rfl)
  have sSpace := supB_ok (ex_at c.more 3 (b := supB K (He.ga K "Space") (He.ma K (He.ga K "Space") "__init__") "__init__") rfl)
  have mTs := He.meth_ok (c.t.d.fact 91 (f := .meth "Term" "__str__"))
  have mFr := He.meth_ok (c.t.d.fact 92 (f := .meth "Term" "free_names"))
  have hTf := He.eqO_ok (ex_at c.more 4 (b := He.eqO (PySem.W.findIn K (.ref (He.ga K "Term")) "__format__") (some (some (.builtin "object.__format__")))) rfl)
  have hTm := of_decide_eq_true (ex_at c.more 5 (b := decide (PySem.W.mroIn K (He.ga K "Term") (.type "object") = some true)) rfl)
  have hTTy := tyB_ok clTerm.cl (ex_at c.more 6 (b := tyB K (He.ga K "Term")) rfl)
  have hTk := of_decide_eq_true (ex_at c.more 7 (b := decide (PySem.W.kitOne K (.ref (He.ga K "Term")) (.ref (He.ga K "Term")) = some true)) rfl)
  have hKm := of_decide_eq_true (ex_at c.more 8 (b := decide (PySem.W.mroIn K (He.ga K "Kept") (.type "object") = some true)) rfl)
  have hKe := He.eqO_ok (ex_at c.more 9 (b := He.eqO (PySem.W.findIn K (.ref (He.ga K "Kept")) "__eq__") (some (some (.builtin "object.__eq__")))) rfl)
  have mWr := He.meth_ok (c.t.d.fact 93 (f := .meth "House" "write"))
  have mSt := He.meth_ok (c.t.d.fact 94 (f := .meth "House" "strike"))
  have mPs := He.meth_ok (c.t.d.fact 95 (f := .meth "House" "past"))
  have mPa := He.meth_ok (c.t.d.fact 96 (f := .meth "House" "parts"))
  have mTo := He.meth_ok (c.t.d.fact 97 (f := .meth "House" "term_of"))
  have iEq := He.meth_ok (c.t.d.fact 98 (f := .meth "House" "__eq__"))
  have iLen := He.meth_ok (c.t.d.fact 99 (f := .meth "House" "__len__"))
  have iStr := He.meth_ok (c.t.d.fact 100 (f := .meth "House" "__str__"))
  have iRepr := He.meth_ok (c.t.d.fact 101 (f := .meth "House" "__repr__"))
  have m_KeptSpace : HasC P w K mg base "KeptSpace" (He.ga K "KeptSpace") 2 ["self"] (spKSpaceInit (He.ga K "KeptSpace")) _ _ := ⟨mgKS, mKS, b_KeptSpace___init__, ok_KSpace_init T F_KeptSpace___init__ clKS mgSpace sSpace (ok_Space_init T F_Space___init__ clKS) b_Space___init__⟩
  have m_Kept : HasC P w K mg base "Kept" (He.ga K "Kept") 4 ["self"] (spKeptInit (He.ga K "Kept") (He.ga K "KeptSpace")) _ _ := ⟨mgKept, mKept, b_Kept___init__, ok_Kept_init T F_Kept___init__ clKept m_KeptSpace⟩
  have FD := D_House___init__
  obtain ⟨dsH, vH0, bH0⟩ := FD.binds1 (ps := ["self", "parts"]) 1 0 (by simp) rfl fun T kV doc pm an cdv ct us its l1 l2 => match us, its, l1, l2 with | [_], [_], _, _ => ⟨_, rfl, rfl⟩
  obtain ⟨dsF, vHF, bHF⟩ := FD.binds1 (ps := ["self", "parts"]) 2 1 (by simp) rfl fun T kV doc pm an cdv ct us its l1 l2 => match us, its, l1, l2 with | [_, _], [_], _, _ => ⟨_, rfl, rfl⟩
  cases vHF
  obtain ⟨itsK, kHT⟩ := FD.kbindsD (ps := ["self", "parts"]) 1 ["parts"] (fun us _ ws => us ++ ws) (by simp) (fun h1 _ h3 => Vals.append h1 h3) fun T kV doc pm an cdv ct us its ws l1 l2 l3 => match us, its, ws, l1, l2, l3 with | [_], [_], [_], _, _, _ => ⟨_, rfl, rfl⟩
  have eH0 : ∀ H, SqT K H (He.dflAt ("House", some "__init__") 0 K) [] := fun H => tupA_ok (ex_at c.more 10 (b := tupA K (He.dflAt ("House", some "__init__") 0 K) []) rfl) H
  have m_House : HasC P w K mg base "House" (He.ga K "House") 6 ["self", "parts"] (spHouseInit SqLst (He.ga K "House") (He.ga K "Kept") (He.ga K "KeptSpace")) _ _ := ⟨mgHouse, mHouse, bHF, ok_House_init T FD clHouse m_Kept⟩
  have okHT : FnOk P w K mg base CX0 6 (He.ma K (He.ga K "House") "__init__") _ ["self", "parts"] (spHouseInit (SqTup K) (He.ga K "House") (He.ga K "Kept") (He.ga K "KeptSpace")) := ok_House_initT T FD clHouse m_Kept
  have hTs : HasM P w K mg base (He.ga K "Term") "__str__" 1 ["self"] (spTermStr (He.ga K "Term") (He.ga K "Tree")) _ _ := ⟨mTs.at_, mTs.fn, b_Term___str__, ok_Term_str T F_Term___str__ clTerm⟩
  have hFr : HasT P w K mg base (He.ga K "Term") "free_names" 1 ["self"] (spTermFr (He.ga K "Term") (He.ga K "Tree")) _ _ := ⟨mFr, b_Term_free_names, ok_Term_fr T F_Term_free_names clTerm clTree⟩
  have h_is_run : Has P w K mg base "is_run" 2 ["text", "signs", "most"] spRunName _ _ := ⟨m_is_run, k_is_run, b_is_run, ok_run_name T F_is_run h_run_end⟩
  have h_is_part_name : Has P w K mg base "is_part_name" 3 ["thing"] spPartName _ _ := ⟨m_is_part_name, k_is_part_name, b_is_part_name, ok_part_name T F_is_part_name h_is_run⟩
  have h_refuse_loose : Has P w K mg base "refuse_loose" 2 ["term"] (spRefuse (He.ga K "Term") (He.ga K "Tree")) _ _ := ⟨m_refuse_loose, k_refuse_loose, b_refuse_loose, ok_refuse T F_refuse_loose clTerm hFr⟩
  have FW := D_House_write
  obtain ⟨dsW, vWr, bWr⟩ := FW.binds0 (ps := ["self", "name", "term", "new"]) 3 (by simp) rfl fun D doc pm an cdv ct us ks l1 l2 => match us, ks, l1, l2 with | [_, _, _], [_], _, _ => ⟨_, _, _, _, _, _, rfl, rfl, rfl⟩
  have kWr : KBn K d_House_write ["self", "name", "term", "new"] 1 ["term", "name", "new"] gW gW := fun_kbn F_House_write (fun kV doc pm an cdv ct us ws h1 h2 => match us, ws, h1, h2 with | [_], [_, _, _], _, _ => rfl) fun h1 h2 => gW_vals h1 h2
  have okWr := ok_House_write (P := P) (w := w) (base := base) T F_House_write clHouse h_is_part_name h_refuse_loose hTs
  have okTo := ok_House_term (P := P) (w := w) (base := base) T F_House_term_of clHouse h_is_part_name
  have kTo : KBn K d_House_term_of ["self", "name"] 1 ["name"] (fun us ws => us ++ ws) (fun us ws => us ++ ws) := fun_kbn F_House_term_of (fun kV doc pm an cdv ct us ws h1 h2 => match us, ws, h1, h2 with | [_], [_], _, _ => rfl) fun h1 h2 => Vals.append h1 h2
  have hTo : HasT P w K mg base (He.ga K "House") "term_of" 4 ["self", "name"] (spHTerm (He.ga K "House")) _ _ := ⟨mTo, b_House_term_of, okTo⟩
  have okSt := ok_House_strike (P := P) (w := w) (base := base) T F_House_strike clHouse hTo
  have kSt : KBn K d_House_strike ["self", "name"] 1 ["name"] (fun us ws => us ++ ws) (fun us ws => us ++ ws) := fun_kbn F_House_strike (fun kV doc pm an cdv ct us ws h1 h2 => match us, ws, h1, h2 with | [_], [_], _, _ => rfl) fun h1 h2 => Vals.append h1 h2
  have hPs : HasT P w K mg base (He.ga K "House") "past" 1 ["self"] (spHPast (He.ga K "House")) _ _ := ⟨mPs, b_House_past, ok_House_past T F_House_past clHouse⟩
  have hPa : HasT P w K mg base (He.ga K "House") "parts" 1 ["self"] (spHParts (He.ga K "House")) _ _ := ⟨mPa, b_House_parts, ok_House_parts T F_House_parts clHouse⟩
  have hEq : HasM P w K mg base (He.ga K "House") "__eq__" 1 ["self", "other"] (spHEq K (He.ga K "House") (He.ga K "Kept")) _ _ := ⟨iEq.at_, iEq.fn, b_House___eq__, ok_House_eq T F_House___eq__ clHouse mgHouse hKm hKe⟩
  have hLn : HasM P w K mg base (He.ga K "House") "__len__" 1 ["self"] (spHLen (He.ga K "House")) _ _ := ⟨iLen.at_, iLen.fn, b_House___len__, ok_House_len T F_House___len__ clHouse⟩
  have hSt : HasM P w K mg base (He.ga K "House") "__str__" 3 ["self"] (spHStr (He.ga K "House") (He.ga K "Term") (He.ga K "Tree")) _ _ := ⟨iStr.at_, iStr.fn, b_House___str__, ok_House_str T F_House___str__ clHouse hTs hTf hTm hPa⟩
  have hRp : HasM P w K mg base (He.ga K "House") "__repr__" 1 ["self"] (spHRepr (He.ga K "House")) _ _ := ⟨iRepr.at_, iRepr.fn, b_House___repr__, ok_House_repr T F_House___repr__ clHouse⟩
  have h__law_texts : Has P w K mg base "_law_texts" 4 ["_law_kinds"] (spTexts (He.ga K "Term") (He.ga K "Tree")) _ _ := ⟨m__law_texts, k__law_texts, b__law_texts, ok__law_texts T F__law_texts hTs⟩
  have h__law_done : Has P w K mg base "_law_done" 10 ["_law_purse_here", "_law_house", "_law_model", "_law_env", "_law_greats"] (spDone (He.ga K "House") (He.ga K "Term") (He.ga K "Tree")) _ _ := ⟨m__law_done, k__law_done, b__law_done, ok__law_done T F__law_done clHouse h__law_take h__law_of m_Term mSt okSt b_House_strike kSt mWr okWr bWr vWr kWr⟩
  have h__law_stands : Has P w K mg base "_law_stands" 10 ["_law_house", "_law_model", "_law_past"] (spStands (He.ga K "House") (He.ga K "Term") (He.ga K "Tree")) _ _ := ⟨m__law_stands, k__law_stands, b__law_stands, ok__law_stands T F__law_stands clHouse mgTerm hPa hPs h__law_texts hSt hLn hRp OH.nb mTo okTo b_House_term_of kTo hTTy hTk hTs⟩
  exact ok_law T F_law clHouse h__law_purse h__law_take h__law_program m_Term m_House okHT kHT bH0 vH0 eH0 h__law_stands h__law_done hPa hPs hSt hLn hRp hEq OH.ne OH.no OH.ns OH.ty OH.self OH.kN OH.kS OH.ob
end K


set_option Elab.async false
set_option linter.all false
set_option maxRecDepth 100000
set_option maxHeartbeats 0
namespace K
open PySem PySem.Spec PyProof.Rows L2 U
abbrev R : PySem.W.OpenRow := PySem.W.OpenLaw.row PySem.Challenge.rw_unwritparts_k22_houses_written
abbrev hk : PySem.W.Hook := hookZ fa fn [tabW] ex
def ob (s : PySem.W.SharedT) : AlZ := obsZ fa fn [tabW] ex (HandSHeadRun.getT s)
theorem ob_eq (s : PySem.W.SharedT) : ob s = hk.obs s.abs := obsZ_eq (HandSHeadRun.getT_eq s)
def loose : List Str := (["_wall", "own_copy", "NoTerm", "TooMuch", "NoName", "Loose", "Written", "NoPart", "Full", "Bare", "HEAD", "NEED", "FORM", "END", "IF", "LEFT", "RIGHT", "CALL", "HALF", "code_of", "last_code", "coded", "WORDS", "BINDERS", "SMALL", "GREAT", "FIGURES", "FIRST_FIGURES", "MOST_SMALL", "MOST_GREAT"] : List PySem.Str) ++ (["MOST_FIGURES", "MOST_OPEN", "MOST_TERMS", "CLOSE", "Tree", "free_in", "all_trees", "run_end", "is_run", "behind", "behind_trees", "number_end", "word_end", "small_end", "bracket_at", "piece_at", "pieces_of", "check_size", "built", "tree_of", "ASKED", "GREATEST", "NO_HEADS", "Walking", "Run", "behind_runs", "unfit", "names_for", "reckoned", "Bottom"] : List PySem.Str) ++ (["no_word", "Telling", "words_of", "OPEN", "Space", "Reading", "Keeping", "KeptWalking", "KeptSpace", "Kept", "is_same_sense", "MOST", "Term", "is_part_name", "refuse_loose", "MOST_PARTS", "House", "_law_purse", "_law_take", "_law_names", "_law_form", "_law_of", "_law_program", "_law_texts", "_law_stands", "_law_done"] : List PySem.Str)
theorem runF (w : World) : HandSHeadRun.RunEq R (PySem.W.view R.prog [99]) hk ob 12000 loose (w.withFollow "special-get-raises" false) := by
  intro os
  kernel_rfl
theorem runT (w : World) : HandSHeadRun.RunEq R (PySem.W.view R.prog [99]) hk ob 12000 loose (w.withFollow "special-get-raises" true) := by
  intro os
  kernel_rfl
theorem run (w : World) : HandSHeadRun.RunEq R (PySem.W.view R.prog [99]) hk ob 12000 loose w :=
  PySem.W.byRow2 "special-get-raises" (P := fun w => HandSHeadRun.RunEq R (PySem.W.view R.prog [99]) hk ob 12000 loose w) runF runT w
end K


set_option Elab.async false
set_option linter.all false
set_option maxRecDepth 100000
set_option maxHeartbeats 4000000
open PySem PySem.W PyProof.Rows
set_option maxHeartbeats 0 in
theorem PySem.Challenge.cw_unwritparts_k22_houses_written_holds : PySem.Challenge.rw_unwritparts_k22_houses_written.Holds := by
  w_on; o_law
  refine HandSHeadRun.head_any (r := OpenLaw.row PySem.Challenge.rw_unwritparts_k22_houses_written) (q := view (OpenLaw.row PySem.Challenge.rw_unwritparts_k22_houses_written).prog [99]) (H := K.hk) (ob := K.ob) (M := 12000) (loose := K.loose) (d := HandSHeadRun.topDef (OpenLaw.row PySem.Challenge.rw_unwritparts_k22_houses_written).prog 99) (kwd := []) K.ob_eq
    (by kernel_rfl) (fun s => by kernel_rfl) K.run (by kernel_rfl) (by kernel_rfl) (by kernel_rfl) (by rfl) (by first | assumption | decide +kernel) (by decide +kernel) ⟨rfl, rfl, rfl, rfl, rfl, by decide +kernel⟩ ?hw ?hc
  case hw => w_witness2
  case hc =>
    refine L2.walk_ofE (l := PySem.Challenge.rw_unwritparts_k22_houses_written) (n := 63) (k := 12) (x := "_law_script") (CX := L2.CX0) rfl (by decide) (by kernel_rfl) ⟨rfl, by decide, by decide⟩ ?F (fun _ _ _ _ z => z)
    intro w mg fa h Y G hmg0
    obtain ⟨K, KX, c⟩ := Y
    have hmg : mg ("law" : PySem.Str) = some (.ref fa) := by
      have e : (HandSHeadRun.topDef (OpenLaw.row PySem.Challenge.rw_unwritparts_k22_houses_written).prog 99).name = ("law" : PySem.Str) := by kernel_rfl
      rw [← e]
      exact hmg0
    obtain ⟨fd, hb, hF⟩ := _root_.K.facts (P := (PySem.Challenge.rw_unwritparts_k22_houses_written).prog) (w := w) KX G hmg c
    exact ⟨K, fd, _root_.K.spLaw K, KX, hb, fun H a ns hl _ hS => ⟨a, ns, rfl, hS, hl, fun _ => rfl⟩, hF⟩


