import PyProof.Rows.All
import Wide.All
import OpenK.AllK
import Wide.FinOn
import HandS.ForMost
import HandS.Wide
import HandS.IsInst
import HandS.Walk
import PyProof.ListStr
import HandS.OwnEq
import HandS.SlotsOwn
import HandS.Iter
import HandS.More
import PySem.Challenge.RW_unwritparts_k10_walks_that_need
import HandS.List
import HandS.Evl
import HandS.Set
import HandS.SetFor
import HandS.Strs
import HandS.TupAny
import HandS.Dict
import HandS.DictComp
import HandS.FStr
import HandS.RaiseMore
import PyProof.Rows.SortShellAny
import KE.KIntText
import KE.IntTextLaws
import KE.KAssignIn
import HandS.Flow
import HandS.Style
import KE.KDictPairs
import HandS.ClsMeth
import KE.GoesEnum
import KE.GoesMore
import HandS.DictTup
import HandS.ListItems
import KE.SortData
import HandS.Deep
import HandS.Defaults
import HandS.MakeKw
import HandS.HeadEnd
import HandS.Head0
import HandS.Head1
import HandS.Head2
import HandS.HeadHook1
import HandS.HeadHook2
import HandS.HeadHook3
import HandS.HeadHook4
set_option Elab.async false
set_option linter.all false
set_option maxRecDepth 100000
set_option maxHeartbeats 4000000
namespace U
open PySem PySem.Spec PyProof.Rows L2
/-! ### words of one's own over the hand layer -/
/-- a ** b, of a base of at most a thousand bits -/
def CPowW (i j : Int) : Prop := 0 ≤ j ∧ j ≤ 1000 ∧ i.natAbs < 2 ^ 1000
theorem op_powW {X : Cx} : OpR X (binaryOp .Pow) (rI CPowW fun i j => .int (i ^ j.toNat)) := opI fun i j _ _ _ _ _ hc q => by
  refine pow_int hc.1 ?_ q
  have h1 : Builtin.Int.intBits i ≤ 1000 := by
    have := PySem.Flt.log2_lt_of (by decide) hc.2.2
    unfold Builtin.Int.intBits
    split <;> omega
  have h2 := hc.1
  have h3 := hc.2.1
  have h4 : (Builtin.Int.intBits i : Int) * j ≤ 1000 * 1000 := Int.mul_le_mul (by omega) h3 h2 (by decide)
  exact Int.le_trans h4 (by decide)
/-- a def of the module: where it stands, how it is called, what it promises -/
structure Has (P : Program) (w : World) (K : PySem.W.Frag) (mg : Str → Option Value) (base : Heap) (x : Str) (k : Nat) (ps : List Str) (sp : Sp) (f : Addr) (fd : FuncData) : Prop where
  at_ : mg x = some (.ref f)
  kp : PySem.W.keepIn K (.ref f) = true
  bi : Binds K fd ps []
  ok : FnOk P w K mg base CX0 k f fd ps sp
section
variable {X : Cx} {k : Nat} {f : Addr} {fd : FuncData} {ps : List Str} {sp : Sp} {x : Str} {p pos : Pos} {e : Expr} {es : List Expr} {t : TA}
theorem pe_callH (h : Has X.prog X.w X.K X.mg X.base x k ps sp f fd) (hr : Room k X.A) (hg : Gl X x) (ha : PA X (e :: es) t) (hdb : (x == ("__debug__" : Str)) = false := by decide)
    (he : starEach (e :: es) X.env = (false, eval e X.env) :: starEach es X.env := by rfl) (hpl : (backTo pos (starEach es X.env)).any (·.1) = false := by rfl) :
    PE X (.Call (.Name x p) (e :: es) [] pos) (tCall sp [] E0 t) :=
  pe_call h.ok hr hg h.at_ h.kp h.bi .nil pass0 ha hdb he hpl
end
/-- a class of the module: where it stands, how its __init__ is called, what that promises -/
structure HasC (P : Program) (w : World) (K : PySem.W.Frag) (mg : Str → Option Value) (base : Heap) (x : Str) (C : Addr) (k : Nat) (ps : List Str) (sp : Sp) (f : Addr) (fd : FuncData) : Prop where
  at_ : mg x = some (.ref C)
  mkC : Mk K C f
  bi : Binds K fd ps []
  ok : FnOk P w K mg base CX0 k f fd ps sp
section
variable {X : Cx} {k : Nat} {f C : Addr} {fd : FuncData} {ps : List Str} {sp : Sp} {x : Str} {p pos : Pos} {e : Expr} {es : List Expr} {t : TA}
theorem pe_makeH (h : HasC X.prog X.w X.K X.mg X.base x C k ps sp f fd) (hr : Room (k + 1) X.A) (hg : Gl X x) (ha : PA X (e :: es) t) (hdb : (x == ("__debug__" : Str)) = false := by decide)
    (he : starEach (e :: es) X.env = (false, eval e X.env) :: starEach es X.env := by rfl) (hpl : (backTo pos (starEach es X.env)).any (·.1) = false := by rfl) :
    PE X (.Call (.Name x p) (e :: es) [] pos) (tMake C sp [] E0 t) :=
  pe_make h.mkC h.ok hr hg h.at_ h.bi .nil pass0 ha hdb he hpl
end
section
variable {X : Cx}
theorem vals_signs (x : Str) : ∀ (zs : List Nat) (us : List Value) (n : Nat), zs.length = us.length → (∀ (j : Nat) (v : Value), us[j]? = some v → ∃ (c : Nat) (u : Tok), zs[j]? = some c ∧ v = Value.str ⟨#[c]⟩ u) → Vals (zs.map fun c => V.str ⟨#[c]⟩) us
  | [], [], _, _, _ => .nil
  | [], _ :: _, _, h, _ => by simp at h
  | _ :: _, [], _, h, _ => by simp at h
  | z :: zs, u :: us, n, h, f => by
    obtain ⟨c, t, e1, e2⟩ := f 0 u rfl
    have e : z = c := Option.some.inj e1
    subst e
    exact .cons ⟨t, e2⟩ (vals_signs x zs us n (by simpa using h) fun j v e => f (j + 1) v e)
/-- list(text) -/
theorem call_list_txt (hc : X.calm = true) : CallR X (.type "list") (fun xs H Q => ∃ z : Str, xs = [.str z] ∧ z.length ≤ sizeLine ∧ ∀ l, H l = none → Q (.ref l) (upd H l (.lst (z.cps.toList.map fun c => V.str ⟨#[c]⟩)))) := by
  intro pins s σ H xs us Q I r h
  obtain ⟨z, rfl, hz, q⟩ := h
  obtain ⟨u, rfl, t, rfl⟩ := vals1 r
  refine PySem.call_list_str (I.ok.hd hc) z t (fun h' tk acc' c' kp e hi => ?_) (by simpa [Str.length] using hz)
  have hl : acc'.size = z.cps.size := hi.1
  have hz2 : z.cps.size ≤ sizeLine := by simpa [Str.length] using hz
  refine ⟨.ref s.heap.objs.size, _, I.laid (t' := tk) kp (Nat.le_refl _) (o := .lst (z.cps.toList.map fun c => V.str ⟨#[c]⟩)) ?_, rfl, q _ (I.hok.fresh (Nat.le_refl _))⟩
  refine ⟨by simpa using hz2, acc'.toList, c', vals_signs z z.cps.toList acc'.toList 0 (by simp [hl]) (fun j v e => ?_), by simpa using e⟩
  obtain ⟨c, u, h1, h2⟩ := hi.2 j v (by simpa using e)
  exact ⟨c, u, by simpa using h1, h2⟩
end

section
variable {X : Cx} {x : Str} {pos : Pos} {i : Int} {z : Str}
theorem pe_globI (hg : Gl X x) (hm : ∃ t, X.mg x = some (.int i t)) (hdb : (x == ("__debug__" : Str)) = false := by decide) : PE X (.Name x pos) (tC (.int i)) := by
  obtain ⟨t, h⟩ := hm
  exact pe_glob hg h ⟨_, rfl⟩ hdb
theorem pe_globR {d : Addr} (hg : Gl X x) (hm : X.mg x = some (.ref d)) (hdb : (x == ("__debug__" : Str)) = false := by decide) : PE X (.Name x pos) (tC (.ref d)) := pe_glob hg hm rfl hdb
theorem pe_globS (hg : Gl X x) (hm : ∃ t, X.mg x = some (.str z t)) (hdb : (x == ("__debug__" : Str)) = false := by decide) : PE X (.Name x pos) (tC (.str z)) := by
  obtain ⟨t, h⟩ := hm
  exact pe_glob hg h ⟨_, rfl⟩ hdb
end
/-- a text of these signs -/
abbrev tx (l : List Nat) : Str := ⟨l.toArray⟩
theorem tx_len (l : List Nat) : (tx l).length = l.length := by simp [Str.length]
theorem tx_cps (l : List Nat) : (tx l).cps.toList = l := by simp
theorem tx_inj {a b : List Nat} (h : tx a = tx b) : a = b := by
  have := congrArg (fun z : Str => z.cps.toList) h
  simpa using this
theorem tx_app (a b : List Nat) : (tx a ++ tx b : Str) = tx (a ++ b) := congrArg Str.mk (show a.toArray ++ b.toArray = (a ++ b).toArray by simp)
theorem tx_of (z : Str) : z = tx z.cps.toList := by cases z; simp
theorem atI_tx {l : List Nat} {j : Nat} {c : Nat} (h : l[j]? = some c) : atI (tx l).cps.toList (j : Int) = some c := by
  rw [tx_cps]
  exact atI_nat h

/-! ### keywords alone -/
section
variable {X : Cx} {CX : CXT} {k : Nat} {f : Addr} {fd : FuncData} {ps ks : List Str} {sp : Sp} {E : XK} {x : Str} {p pos : Pos} {kws : List Keyword} {tk : TA} {g : List Value → List Value → List Value} {gV : List V → List V → List V}
theorem pe_callK0 (F : FnOk X.prog X.w X.K X.mg X.base CX k f fd ps sp) (hr : Room k X.A) (hg : Gl X x) (hm : X.mg x = some (.ref f)) (hk : PySem.W.keepIn X.K (.ref f) = true) (hb : KBinds X.K fd ps ks g gV) (hx : Passes CX X E)
    (hkw : PK X kws tk) (hall : (backToKw pos (keywordEach kws X.env)).all (·.1.isSome) = true := by rfl) (hks : (backToKw pos (keywordEach kws X.env)).filterMap (·.1) = ks := by rfl)
    (hdb : (x == ("__debug__" : Str)) = false := by decide)
    (hpl : ((backTo pos (starEach [] X.env)).any (·.1) || (backToKw pos (keywordEach kws X.env)).any (·.1.isNone)) = false := by rfl) :
    PE X (.Call (.Name x p) [] kws pos) (tCallK sp gV E tNil tk) := by
  refine ⟨fun pins s σ H Q I h => ?_⟩
  refine wpAny_Call_Name_kw (ld_glob I hg hm ?_ hdb)
  refine PySem.W.callWith_KW0 (h₀ := X.base) I.ok.mod.kin hk hall (thn (hkw.run pos pins s σ H _ I h) fun ws s2 ⟨zs, H2, I2, rz, q2⟩ => ⟨I2.kIn, ?_⟩) hpl
  rw [hks]
  exact run_fnk (us := []) F hr hb hx I2 .nil rz q2
/-- one keyword for the one parameter -/
theorem kb_one {K : PySem.W.Frag} {a : Str} (h1 : ∀ u : Value, bindArgs fd ⟨[u], []⟩ = pure [(a, u)]) (h : ∀ u : Value, bindArgs fd ⟨[], [(a, u)]⟩ = pure [(a, u)]) : KBinds K fd [a] [a] (fun us ws => us ++ ws) (fun us ws => us ++ ws) := by
  refine ⟨fun s us ws _ hl => ?_, fun r r2 => Vals.append r r2⟩
  match us, ws, hl with
  | [u], [], _ => exact .of_eq (h1 u)
  | [], [u], _ => exact .of_eq (h u)
end
/-! ### lengths -/
theorem cutS_len (z : Str) (lo hi : Option Int) : (cutS z lo hi).length ≤ z.length := by
  unfold cutS
  simp only [Str.length, List.size_toArray, List.length_take, List.length_drop, Array.length_toList]
  omega
theorem sizeLine_ge {n : Nat} (h : n ≤ 10000) : n ≤ sizeLine := Nat.le_trans h (by decide)
/-- what may be asked of any kind -/
inductive Th (H : Hp) : V → Prop where
  | non : Th H .non
  | bl (b : Bool) : Th H (.bl b)
  | int (i : Int) : Th H (.int i)
  | txt (z : Str) (h : z.length ≤ 10000) : Th H (.str z)
  | lst {a : Addr} {xs : List V} (e : H a = some (.lst xs)) : Th H (.ref a)
  | tup {a : Addr} {xs : List V} (e : H a = some (.tup xs)) : Th H (.ref a)
theorem Th.same {H H' : Hp} {v : V} (h : Th H v) (s : Same H H') : Th H' v := by
  cases h with
  | non => exact .non
  | bl b => exact .bl b
  | int i => exact .int i
  | txt z h => exact .txt z h
  | lst e => exact .lst (s _ _ e)
  | tup e => exact .tup (s _ _ e)
theorem tx_ne (t : List Nat) : decide (V.str (tx t) = V.str (Str.ofString "")) = decide (t = []) := by
  have e : Str.ofString "" = tx [] := by decide +kernel
  rw [e]
  by_cases h : t = []
  · subst h
    simp
  · rw [decide_eq_false h]
    refine decide_eq_false fun z => h (tx_inj (V.str.inj z))
theorem le_sign (a b : Nat) : (!decide ((⟨#[b]⟩ : Str).cps.toList < (⟨#[a]⟩ : Str).cps.toList)) = decide (a ≤ b) := by
  have e : decide ((⟨#[b]⟩ : Str).cps.toList < (⟨#[a]⟩ : Str).cps.toList) = decide (b < a) := decide_eq_decide.mpr (by simp [List.cons_lt_cons_iff])
  rw [e]
  by_cases h : b < a
  · rw [decide_eq_true h, decide_eq_false (by omega)]
    rfl
  · rw [decide_eq_false h, decide_eq_true (by omega)]
    rfl
theorem same_new {H : Hp} {p : Addr} {o : HO} (h : H p = none) : Same H (upd H p o) := fun b x e => by
  rw [upd_ne (ne_of_none e h)]
  exact e
/-- a comprehension of one name, without a test -/
theorem lc_do {J : It} {n : Nat} {G : Hp → Prop} {Y : Nat → Hp → V → Hp → Prop} (w : Walk J n G Y) {k : Nat} {te : TE} {vs : List Nat} {σ : L2.St} {H1 : Hp} {D : Addr} {Qd : Hp → Prop} (Pv : Nat → Hp → Prop)
    (hw : ∀ x, wipe ((wipe σ vs).set k (some x)) vs = wipe σ vs) (h0 : Pv 0 (upd H1 D (.lst []))) (hG : ∀ i H, i ≤ n → Pv i H → G H)
    (hs : ∀ i x H H', i < n → Pv i H → Y i H x H' → te ((wipe σ vs).set k (some x)) H' fun y H4 => ∃ acc, H4 D = some (.lst acc) ∧ acc.length < sizeLine ∧ Pv (i + 1) (upd H4 D (.lst (acc ++ [y])))) (hd : ∀ H, Pv n H → Qd H) :
    ∃ W : Nat → Nat → Hp → Prop, (∃ m, W 0 m (upd H1 D (.lst []))) ∧ ∀ i m H, W i m H →
      (J.stop i H ∧ Qd H) ∨ (J.go i H ∧ ∃ Nx : Hp → Prop, (∀ H', Nx H' → ∃ m', m' < m ∧ W (i + 1) m' H') ∧ ∀ x H', J.yld i H x H' → gName k x (wipe σ vs) H' fun σ2 H2 => wipe σ2 vs = wipe σ vs ∧ tYes σ2 H2 fun b H3 =>
        if b = true then te σ2 H3 fun y H4 => ∃ acc, H4 D = some (.lst acc) ∧ acc.length < sizeLine ∧ Nx (upd H4 D (.lst (acc ++ [y]))) else Nx H3) := by
  refine lc_it w Pv h0 hG (fun i x H H' hi p y => ⟨hw x, ?_⟩) hd
  show if true = true then te ((wipe σ vs).set k (some x)) H' (fun y H4 => ∃ acc, H4 D = some (.lst acc) ∧ acc.length < sizeLine ∧ Pv (i + 1) (upd H4 D (.lst (acc ++ [y])))) else Pv (i + 1) H'
  rw [if_pos rfl]
  exact hs i x H H' hi p y
/-- a new object: the heap behind it by what it keeps and what is new -/
theorem alloc {H : Hp} {o : HO} {R : V → Hp → Prop} (h : ∀ p G, H p = none → Same H G → G p = some o → R (.ref p) G) : ∀ p, H p = none → R (.ref p) (upd H p o) := fun p hp => h p _ hp (same_new hp) upd_same
end U

set_option Elab.async false
set_option linter.all false
set_option maxRecDepth 100000
set_option maxHeartbeats 4000000
namespace U
open PySem PySem.Spec PyProof.Rows L2
/-- x == y, x of the class C with an __eq__ of its own, y of any class but a lower one: its answer, a bool -/
def rEqOwn (K : PySem.W.Frag) (C : Addr) (sp : Sp) (E : XK) : R2 := fun x y H Q => ∃ (a dx : Addr) (fs : List (Str × V)) (t : Value), x = .ref a ∧ H a = some (.ins C dx fs) ∧ TyX K H y t ∧ PySem.W.notFirst K C t = true ∧ sp [.ref a, y] H (fun z H' => ∃ b, z = .bl b ∧ Q (.bl b) H') E
section
open PySem.W
variable {prog : Program} {w : World} {A : Around} {E : Value → Shared → Prop} {s : Shared} {K : Frag} {x C L f : Addr} {h₀ : Heap} {m : Str → Option Value} {ox : Obj} {od : Option Obj} {name : Str} {b tb : Value}
theorem ifBoundB {M : Model} {id : String} {args : List Value} {Q : Option Value → Shared → Prop} (X : K.In s.heap) (I : InstAt s.heap x ox C od) (hs : findIn K (.ref C) name = some (some (.builtin id))) (hb : ∀ self, bindSpecial (.builtin id) self = pure (.builtin id, [self]))
    (h : wpAny M A (call (.builtin id) (.ref x :: args)) (fun v => Q (some v)) E s) : wpAny M A (callSpecialIfBound? (.ref x) name args) Q E s := by
  simp only [callSpecialIfBound?, bindSpecialIfBound?]
  refine wpAny_holding (wpAny_bind (wpAny_bind (wpAny_bind (I.type.here ((looks_findIn X hs).here ?_)))))
  simp only [hb]
  refine wpAny_bind (wpAny_askSetting (wpAny_ite ?_))
  have fin : wpAny M A (call (.builtin id) ([.ref x] ++ args) >>= fun v => pure (some v)) Q E s := wpAny_bind (wpAny_mono h (fun v s' h' => wpAny_pure h') fun _ _ h' => h')
  split
  · exact wpAny_bind (wpAny_pure (wpAny_pure fin))
  · exact wpAny_tryCatch (wpAny_bind (wpAny_pure (wpAny_pure fin)))
theorem check_own {M : Model} {id owner n : String} {rest : List Value} {Q : Unit → Shared → Prop} (hk : builtinKind id = some .slot) (hsp : splitId id = some (owner, n)) (ha : argsOk id ⟨.ref x :: rest, []⟩) (X : K.In s.heap) (I : InstAt s.heap x ox C od)
    (hsub : subIn K (.ref C) (.type owner) = some true) (hq : Q () s) : wpAny M A (checkBuiltinCall id ⟨.ref x :: rest, []⟩) Q E s := by
  simp only [checkBuiltinCall, hk, hsp]
  refine wpAny_bind ?_
  · unfold isInstance
    refine wpAny_bind (I.type.here ((looks_subIn X hsub).here ?_))
    cases hsig : Manifest.signature? id with
    | none => exact wpAny_pure hq
    | some sig =>
      simp only [argsOk, hsig] at ha
      have h2 : Bind.checkArgs id sig ⟨.ref x :: rest, []⟩ = pure () := ha
      show wpAny M A (Bind.checkArgs id sig ⟨.ref x :: rest, []⟩) Q E _
      rw [h2]; exact wpAny_pure hq
theorem objNe_own (X : K.In s.heap) (I : InstAt s.heap x ox C od) (hs : findIn K (.ref C) "__eq__" = some (some (.ref f))) (hf : isFn K (.ref f) = true) (hu : A.units < cLine) {Q : Fin → Shared → Prop}
    (hcall : wpAny (model prog w) A (call (.ref f) [.ref x, b]) (fun v s' => ∃ r, v = .bool r ∧ Q (.done (.ret (.bool (!r)))) s') E s) :
    wpAny (model prog w) A (Builtin.«object.__ne__» ⟨[.ref x, b], []⟩) Q E s := by
  obtain ⟨h, g, d, t, os⟩ := s
  unfold Builtin.«object.__ne__»
  repeat (first
    | with_reducible refine wpAny_cRoomFor hu ?_
    | (refine wpAny_bind (m := callSpecialIfBound? (.ref x) (Str.ofString "__eq__") [b])
        (ifBound_K X I hs hf (wpAny_mono hcall (fun r s' hr => by
          obtain ⟨b, rfl, hq⟩ := hr
          repeat (first | exact hq | exact wpAny_pure hq | exact wpAny_truthy_bool hq | (refine wpAny_bind (m := truthy (.bool _)) (wpAny_truthy_bool ?_)) | wp_step)) fun _ _ e => e)))
    | wp_step)
theorem ne_own {Q : Value → Shared → Prop} (hu : A.units + 1 < cLine) (FF : Fr h₀ L s.heap m) (X₀ : K.In h₀) (I : InstAt s.heap x ox C od) (hb : Looks (model prog w) s.heap (typeOf b) tb) (hn : notFirst K C tb = true)
    (hne : findIn K (.ref C) "__ne__" = some (some (.builtin "object.__ne__"))) (hob : subIn K (.ref C) (.type "object") = some true)
    (hs : findIn K (.ref C) "__eq__" = some (some (.ref f))) (hf : isFn K (.ref f) = true)
    (h : wpAny (model prog w) A.in1 (call (.ref f) [.ref x, b]) (fun v s' => ∃ r, v = .bool r ∧ Q (.bool (!r)) s') E s) : wpAny (model prog w) A (richCompare .NotEq (.ref x) b) Q E s := by
  have X := X₀.keeps FF.keep
  have one : wpAny (model prog w) A (tryCompare (.ref x) (cmpInfo .NotEq).2.1 b) (fun r s' => ∃ v, r = some v ∧ Q v s') E s := by
    unfold tryCompare
    refine wpAny_bind (ifBoundB X I hne F.cmp_object.ne.bind (wpAny_call (codeAny_call_builtin F.cmp_object.ne.plain F.cmpEntry_ne (check_own F.cmpKind_ne F.cmpSplit_ne (F.cmpArgs_ne _ _) X I hob
      (objNe_own (A := A.in1) X I hs hf hu (wpAny_mono h (fun v s' hv => ?_) fun _ _ e => e))))))
    obtain ⟨r, rfl, hq⟩ := hv
    exact ⟨r, rfl, wpAny_pure ⟨_, rfl, hq⟩⟩
  unfold richCompare
  simp only [oneThing_ref]
  refine wpAny_holding (wpAny_bind (wpAny_cRoomFor (Nat.lt_of_succ_lt hu) ?_))
  refine wpAny_bind (I.type.here (wpAny_bind (hb.here ?_)))
  split
  · rename_i q
    have e : subIn K tb (.ref C) = some false := by
      rcases Bool.or_eq_true_iff.mp hn with e | e
      · rw [beq_iff_eq.mp e] at q; simp at q
      · exact beq_iff_eq.mp e
    refine wpAny_bind ((looks_subIn X e).here ?_)
    simp only [Bool.false_eq_true, if_false]
    refine wpAny_bind (wpAny_mono one (fun r s' z => ?_) fun _ _ e => e)
    obtain ⟨v, rfl, hq⟩ := z
    exact wpAny_pure hq
  · refine wpAny_bind (wpAny_pure ?_)
    simp only [Bool.false_eq_true, if_false]
    refine wpAny_bind (wpAny_mono one (fun r s' z => ?_) fun _ _ e => e)
    obtain ⟨v, rfl, hq⟩ := z
    exact wpAny_pure hq
end
section
variable {X : Cx} {CX : CXT} {n : Nat} {C f : Addr} {fd : FuncData} {ps : List Str} {sp : Sp} {E : XK}
theorem rc_own (F : FnOk X.prog X.w X.K X.mg X.base CX n f fd ps sp) (hs : PySem.W.findIn X.K (.ref C) "__eq__" = some (some (.ref f))) (hf : PySem.W.isFn X.K (.ref f) = true) (hb : Binds X.K fd ps []) (hx : Passes CX X E) {A : Around} (sb : L2.Sub X n A)
    {pins : List (Addr × Obj)} {s : Shared} {σ : L2.St} {H : Hp} {x y : V} {v u : Value} {Q : VK} (I : Inv X pins σ H s) (rx : RelV x v) (ry : RelV y u) (h : rEqOwn X.K C sp E x y H Q) :
    wpAny (model X.prog X.w) A (richCompare .Eq v u) (EP X pins σ Q) X.xe s := by
  obtain ⟨a, dx, fs, t, rfl, ha, ty, hn, hsp⟩ := h
  cases (show v = Value.ref a from rx)
  obtain ⟨mA, J, _⟩ := ins_get I.hok ha
  obtain ⟨od, J, _⟩ := J.look
  obtain ⟨m, hF⟩ := I.fr
  obtain ⟨PP, kit, hP, _⟩ := kit_of I ry ty
  refine PySem.W.cmp_K (op := .Eq) (tb := t) sb.room.units0 hF I.ok.mod.kin J (kit.ty _ _ I.kIn hP) hn hs hf ?_
  have e0 : Env0 X.prog X.w X.K X.mg X.base A X.stack s H := by
    have e := I.env0
    exact ⟨by rw [sb.fr]; exact e.frames, e.mod, e.bs, e.bsz, e.funs, e.frf, e.hok, e.bare⟩
  have hl := F.len _ _ _ _ hsp
  have r2 : Vals [V.ref a, y] [Value.ref a, u] := .cons rfl (.cons ry .nil)
  refine wpAny_call (codeAny_mono (F.run A X.stack s H ⟨[.ref a, u], []⟩ [.ref a, u] [.ref a, y] _ E sb.room e0 (by
    have := hb s [.ref a, u] I.kIn (by simpa using hl)
    simpa using this) r2 hsp) fun r s' hq => ?_)
  cases r with
  | error e => exact hx pins σ H s e s' I hq
  | ok fl =>
    cases fl with
    | ret w =>
      obtain ⟨z, H', I', rz, b, ez, q⟩ := I.after hq
      subst ez
      cases (show w = Value.bool b from rz)
      exact ⟨.bl b, H', I', rfl, q⟩
    | next => exact False.elim hq
    | brk => exact False.elim hq
    | cont => exact False.elim hq
theorem op_eqOwn (F : FnOk X.prog X.w X.K X.mg X.base CX n f fd ps sp) (hs : PySem.W.findIn X.K (.ref C) "__eq__" = some (some (.ref f))) (hf : PySem.W.isFn X.K (.ref f) = true) (hb : Binds X.K fd ps []) (hx : Passes CX X E) (hr : Room n X.A) : OpR X (compareOp .Eq) (rEqOwn X.K C sp E) := by
  intro pins s σ H x y v u Q I rx ry h
  show wpAny (model X.prog X.w) X.A (richCompare .Eq v u) (EP X pins σ Q) X.xe s
  exact rc_own F hs hf hb hx ⟨hr, rfl⟩ I rx ry h
end
end U

set_option Elab.async false
set_option linter.all false
set_option maxRecDepth 100000
set_option maxHeartbeats 4000000
namespace U
open PySem PySem.Spec PyProof.Rows L2
section
open PySem.W
variable {prog : Program} {w : World} {A : Around} {E : Value → Shared → Prop} {s : Shared} {K : Frag} {x C L f : Addr} {h₀ : Heap} {m : Str → Option Value} {ox : Obj} {od : Option Obj} {name : Str} {b tb : Value}
open Builtin Builtin.Str in
theorem str_own {Q : Value → Shared → Prop} (hu : A.in1.in1.units < cLine) (X : K.In s.heap) (I : InstAt s.heap x ox C od) (hs : findIn K (.ref C) "__str__" = some (some (.ref f))) (hf : isFn K (.ref f) = true)
    (h : wpAny (model prog w) A.in1.in1 (call (.ref f) [.ref x]) (StrBack Q) E s) : wpAny (model prog w) A (call (.type "str") [.ref x]) Q E s := by
  refine callType_codes (T := "str") (Bi := Builtin.«object.__init__») (Q₁ := fun r s₁ => ∃ y u, r = .str y u ∧ Q r s₁) PySem.F.called_str (PySem.F.typeCall_str_1 _) PySem.F.entry_object_init ?_ ?_
  · refine codeAny_of_tree ?_
    show wpAny _ A.in1.in1 (do checkBuiltinCall "str.__new__" ⟨[.type "str", .ref x], []⟩; again (.builtin "str.__new__" ⟨[.type "str", .ref x], []⟩)) _ _ s
    refine wpAny_bind (wpAny_of_eq (PySem.F.newCall_str_1 _) (wpAny_pure ⟨plainId_quiet (by decide +kernel) _, codeAny_builtin PySem.F.entry_str_new ?_⟩))
    rw [Around.under_plainId (by decide +kernel) _]
    rw [str_new_tree]
    refine wpAny_bind (wpAny_pure ?_)
    refine wpAny_bind (wpAny_of_eq isSubtype_str_str ?_)
    have key : wpAny (model prog w) A.in1.in1 (PySem.Builtin.Str.strOf (.ref x)) (fun r s₁ => ∃ y u, r = .str y u ∧ Q r s₁) E s := by
      unfold PySem.Builtin.Str.strOf
      rw [show isExactStr (.ref x) = false from rfl]
      refine wpAny_bind (m := cRoomFor _ _) (wpAny_cRoomFor hu ?_)
      refine wpAny_bind (m := callSpecial? (.ref x) (Str.ofString "__str__")) (special_fn X I hs (beq_iff_eq.mp hf) (wpAny_mono h (fun r s' z => ?_) fun _ _ y => y))
      cases r <;> first | exact z.elim | exact wpAny_pure ⟨_, _, rfl, z⟩
    exact wpAny_bind (wpAny_mono key (fun r s₁ hr => wpAny_pure hr) fun _ _ y => y)
  · rintro obj s₁ ⟨y, u, rfl, hq⟩
    exact ⟨typeIs_str _ _ _, PySem.F.args_object_init_2 _ _, object_init_meets PySem.F.called_str.init.lookup PySem.F.called_str.made (by decide) prog w A.in1 _ s₁ ⟨typeIs_str _ _ _, rfl, hq⟩⟩
theorem len_body {Q : Value → Shared → Prop} (X : K.In s.heap) (I : InstAt s.heap x ox C od) (hs : findIn K (.ref C) "__len__" = some (some (.ref f))) (hf : isFn K (.ref f) = true)
    (h : wpAny (model prog w) A (call (.ref f) [.ref x]) (W.LenBack Q) E s) : wpAny (model prog w) A (Builtin.«len» ⟨[.ref x], []⟩) (fun fin s' => ∃ v, fin = .done (.ret v) ∧ Q v s') E s := by
  unfold Builtin.«len»
  refine wpAny_bind (m := oneArg "len" _) (wpAny_pure ?_)
  refine wpAny_bind (m := callSpecial? (.ref x) (Str.ofString "__len__")) (special_fn X I hs (beq_iff_eq.mp hf) (wpAny_mono h (fun r s' hr => ?_) fun _ _ y => y))
  cases r <;> first | exact hr.elim | skip
  rename_i n u
  obtain ⟨⟨h0, h1⟩, hq⟩ := hr
  refine wpAny_bind (wpAny_holding (wpAny_pure ?_))
  refine wpAny_bind (wpAny_letGo ?_)
  show wpAny _ _ (if n < 0 then _ else _) _ _ _
  rw [if_neg (by omega)]
  show wpAny _ _ (if n ≥ 2 ^ 63 then _ else _) _ _ _
  rw [if_neg (by omega)]
  exact wpAny_bind (wpAny_mkInt (wpAny_pure ⟨_, rfl, hq⟩))
theorem truthy_len {Q : Bool → Shared → Prop} (X : K.In s.heap) (I : InstAt s.heap x ox C od) (hs : findIn K (.ref C) "__bool__" = some none) (hl : findIn K (.ref C) "__len__" = some (some (.ref f))) (hf : isFn K (.ref f) = true)
    (h : wpAny (model prog w) A.in1 (call (.ref f) [.ref x]) (W.LenBack fun v s' => ∃ n t, v = .int n t ∧ Q (n != 0) s') E s) : wpAny (model prog w) A (truthy (.ref x)) Q E s := by
  unfold truthy
  refine wpAny_bind (m := callSpecial? (.ref x) (Str.ofString "__bool__")) (wpAny_bind (wpAny_bind (I.type.here ((looks_findIn X hs).here (wpAny_pure ?_)))))
  refine wpAny_bind (wpAny_bind (I.type.here ((looks_findIn X hl).here ?_)))
  show wpAny _ _ (if (some (Value.ref f)).isNone = true then _ else _) _ _ _
  rw [if_neg (by simp)]
  refine wpAny_bind (runValue_entry entry_len ?_)
  rw [Around.under_plainId plain_len _]
  refine len_body X I hl hf (wpAny_mono h (fun v s' hv => ?_) fun _ _ e => e)
  cases v <;> first | exact hv.elim | skip
  obtain ⟨h1, n, t, e, q⟩ := hv
  cases e
  exact ⟨h1, wpAny_pure q⟩
open Builtin Builtin.Str in
theorem bool_own {Q : Value → Shared → Prop} (X : K.In s.heap) (I : InstAt s.heap x ox C od) (hs : findIn K (.ref C) "__bool__" = some none) (hl : findIn K (.ref C) "__len__" = some (some (.ref f))) (hf : isFn K (.ref f) = true)
    (h : wpAny (model prog w) A.in1.in1.in1 (call (.ref f) [.ref x]) (W.LenBack fun v s' => ∃ n t, v = .int n t ∧ Q (.bool (n != 0)) s') E s) : wpAny (model prog w) A (call (.type "bool") [.ref x]) Q E s := by
  refine callType_codes (T := "bool") (Bi := Builtin.«object.__init__») (Q₁ := fun r s₁ => ∃ y, r = .bool y ∧ Q r s₁) PySem.F.called_bool (PySem.F.typeCall_bool_1 _) PySem.F.entry_object_init ?_ ?_
  · refine codeAny_of_tree ?_
    show wpAny _ A.in1.in1 (do checkBuiltinCall "bool.__new__" ⟨[.type "bool", .ref x], []⟩; again (.builtin "bool.__new__" ⟨[.type "bool", .ref x], []⟩)) _ _ s
    refine wpAny_bind (wpAny_of_eq (PySem.F.newCall_bool_1 _) (wpAny_pure ⟨plainId_quiet (by decide +kernel) _, codeAny_builtin PySem.F.entry_bool_new ?_⟩))
    rw [Around.under_plainId (by decide +kernel) _]
    have key : wpAny (model prog w) A.in1.in1 (truthy (.ref x)) (fun b s₁ => Q (.bool b) s₁) E s := truthy_len X I hs hl hf h
    have f1 := PySem.F.conv_sub_bool
    obtain ⟨hp, g, d, tk, os⟩ := s
    unfold Builtin.«bool.__new__»
    repeat (any_goals (first | assumption | (with_reducible refine wpAny_mono key (fun b s1 hb => ?_) (fun _ _ e => e)) | wp_step))
    all_goals first | exact ⟨_, rfl, hb⟩ | exact wpAny_pure ⟨_, rfl, hb⟩ | skip
    trace_state
  · rintro obj s₁ ⟨y, rfl, hq⟩
    exact ⟨rfl, PySem.F.args_object_init_2 _ _, object_init_meets PySem.F.called_bool.init.lookup PySem.F.called_bool.made (by decide) prog w A.in1 _ s₁ ⟨rfl, rfl, hq⟩⟩
end
section
variable {X : Cx} {CX : CXT} {n : Nat} {C f : Addr} {fd : FuncData} {ps : List Str} {sp : Sp} {E : XK}
/-- a def is called with these values -/
theorem run_own (F : FnOk X.prog X.w X.K X.mg X.base CX n f fd ps sp) (hb : Binds X.K fd ps []) (hx : Passes CX X E) {A : Around} (sb : L2.Sub X n A)
    {pins : List (Addr × Obj)} {s : Shared} {σ : L2.St} {H : Hp} {vs : List V} {us : List Value} {Q : VK} (I : Inv X pins σ H s) (r : Vals vs us) (hsp : sp vs H Q E) :
    wpAny (model X.prog X.w) A (call (.ref f) us) (EP X pins σ Q) X.xe s := by
  have e0 : Env0 X.prog X.w X.K X.mg X.base A X.stack s H := by
    have e := I.env0
    exact ⟨by rw [sb.fr]; exact e.frames, e.mod, e.bs, e.bsz, e.funs, e.frf, e.hok, e.bare⟩
  have hl := F.len _ _ _ _ hsp
  have hr := r.length
  refine wpAny_call (codeAny_mono (F.run A X.stack s H ⟨us, []⟩ us vs _ E sb.room e0 (by
    have := hb s us I.kIn (by simp; omega)
    simpa using this) r hsp) fun r s' hq => ?_)
  cases r with
  | error e => exact hx pins σ H s e s' I hq
  | ok fl =>
    cases fl with
    | ret w => exact I.after hq
    | next => exact False.elim hq
    | brk => exact False.elim hq
    | cont => exact False.elim hq
theorem inst_of {pins : List (Addr × Obj)} {s : Shared} {σ : L2.St} {H : Hp} {a dx : Addr} {fs : List (Str × V)} (I : Inv X pins σ H s) (ha : H a = some (.ins C dx fs)) : ∃ ox od, PySem.W.InstAt s.heap a ox C od := by
  obtain ⟨mA, J, _⟩ := ins_get I.hok ha
  obtain ⟨od, J, _⟩ := J.look
  exact ⟨_, _, J⟩
/-- len(x), x of the class C with a __len__ of its own -/
def rLenOwn (C : Addr) (sp : Sp) (E : XK) : List V → Hp → VK → Prop := fun xs H Q => ∃ (a dx : Addr) (fs : List (Str × V)), xs = [.ref a] ∧ H a = some (.ins C dx fs) ∧ sp [.ref a] H (fun z H' => ∃ n : Int, z = .int n ∧ 0 ≤ n ∧ n < 2 ^ 63 ∧ Q (.int n) H') E
theorem call_lenOwn (F : FnOk X.prog X.w X.K X.mg X.base CX n f fd ps sp) (hb : Binds X.K fd ps []) (hx : Passes CX X E) (hs : PySem.W.findIn X.K (.ref C) "__len__" = some (some (.ref f))) (hf : PySem.W.isFn X.K (.ref f) = true) (hr : Room (n + 1) X.A) : CallR X (.builtin "len") (rLenOwn C sp E) := by
  intro pins s σ H xs us Q I r h
  obtain ⟨a, dx, fs, rfl, ha, hsp⟩ := h
  obtain ⟨u, rfl, ru⟩ := vals1 r
  obtain rfl : u = Value.ref a := ru
  obtain ⟨ox, od, J⟩ := inst_of I ha
  obtain ⟨m, hF⟩ := I.fr
  refine PySem.W.len_K hF I.ok.mod.kin J hs hf (wpAny_mono (run_own F hb hx ⟨hr.in1, rfl⟩ I r hsp) (fun v s' z => ?_) fun _ _ e => e)
  obtain ⟨z, H', I', rz, k, rfl, h0, h1, q⟩ := z
  obtain ⟨t, rfl⟩ := (show ∃ t, v = Value.int k t from rz)
  exact ⟨⟨h0, h1⟩, .int k, H', I'.tok _, ⟨_, rfl⟩, q⟩
/-- bool(x) by that -/
def rBoolOwn (C : Addr) (sp : Sp) (E : XK) : List V → Hp → VK → Prop := fun xs H Q => ∃ (a dx : Addr) (fs : List (Str × V)), xs = [.ref a] ∧ H a = some (.ins C dx fs) ∧ sp [.ref a] H (fun z H' => ∃ n : Int, z = .int n ∧ 0 ≤ n ∧ n < 2 ^ 63 ∧ Q (.bl (n != 0)) H') E
theorem call_boolOwn (F : FnOk X.prog X.w X.K X.mg X.base CX n f fd ps sp) (hb : Binds X.K fd ps []) (hx : Passes CX X E) (hn : PySem.W.findIn X.K (.ref C) "__bool__" = some none) (hs : PySem.W.findIn X.K (.ref C) "__len__" = some (some (.ref f))) (hf : PySem.W.isFn X.K (.ref f) = true) (hr : Room (n + 3) X.A) :
    CallR X (.type "bool") (rBoolOwn C sp E) := by
  intro pins s σ H xs us Q I r h
  obtain ⟨a, dx, fs, rfl, ha, hsp⟩ := h
  obtain ⟨u, rfl, ru⟩ := vals1 r
  obtain rfl : u = Value.ref a := ru
  obtain ⟨ox, od, J⟩ := inst_of I ha
  refine bool_own I.kIn J hn hs hf (wpAny_mono (run_own F hb hx ⟨hr.in1.in1.in1, rfl⟩ I r hsp) (fun v s' z => ?_) fun _ _ e => e)
  obtain ⟨z, H', I', rz, k, rfl, h0, h1, q⟩ := z
  obtain ⟨t, rfl⟩ := (show ∃ t, v = Value.int k t from rz)
  exact ⟨⟨h0, h1⟩, k, _, rfl, .bl _, H', I'.tok _, rfl, q⟩
/-- str(x), repr(x) by defs of its own -/
def rTxtOwn (C : Addr) (sp : Sp) (E : XK) : List V → Hp → VK → Prop := fun xs H Q => ∃ (a dx : Addr) (fs : List (Str × V)), xs = [.ref a] ∧ H a = some (.ins C dx fs) ∧ sp [.ref a] H (fun z H' => ∃ y : Str, z = .str y ∧ Q (.str y) H') E
theorem call_reprOwn (F : FnOk X.prog X.w X.K X.mg X.base CX n f fd ps sp) (hb : Binds X.K fd ps []) (hx : Passes CX X E) (hs : PySem.W.findIn X.K (.ref C) "__repr__" = some (some (.ref f))) (hf : PySem.W.isFn X.K (.ref f) = true) (hr : Room (n + 1) X.A) : CallR X (.builtin "repr") (rTxtOwn C sp E) := by
  intro pins s σ H xs us Q I r h
  obtain ⟨a, dx, fs, rfl, ha, hsp⟩ := h
  obtain ⟨u, rfl, ru⟩ := vals1 r
  obtain rfl : u = Value.ref a := ru
  obtain ⟨ox, od, J⟩ := inst_of I ha
  obtain ⟨m, hF⟩ := I.fr
  refine PySem.W.repr_K hr.in1.units0 hF I.ok.mod.kin J hs hf (wpAny_mono (run_own F hb hx ⟨hr.in1, rfl⟩ I r hsp) (fun v s' z => ?_) fun _ _ e => e)
  obtain ⟨z, H', I', rz, k, rfl, q⟩ := z
  obtain ⟨t, rfl⟩ := (show ∃ t, v = Value.str k t from rz)
  exact ⟨.str k, H', I', ⟨_, rfl⟩, q⟩
theorem call_strOwn (F : FnOk X.prog X.w X.K X.mg X.base CX n f fd ps sp) (hb : Binds X.K fd ps []) (hx : Passes CX X E) (hs : PySem.W.findIn X.K (.ref C) "__str__" = some (some (.ref f))) (hf : PySem.W.isFn X.K (.ref f) = true) (hr : Room (n + 2) X.A) : CallR X (.type "str") (rTxtOwn C sp E) := by
  intro pins s σ H xs us Q I r h
  obtain ⟨a, dx, fs, rfl, ha, hsp⟩ := h
  obtain ⟨u, rfl, ru⟩ := vals1 r
  obtain rfl : u = Value.ref a := ru
  obtain ⟨ox, od, J⟩ := inst_of I ha
  refine str_own hr.in1.in1.units0 I.kIn J hs hf (wpAny_mono (run_own F hb hx ⟨hr.in1.in1, rfl⟩ I r hsp) (fun v s' z => ?_) fun _ _ e => e)
  obtain ⟨z, H', I', rz, k, rfl, q⟩ := z
  obtain ⟨t, rfl⟩ := (show ∃ t, v = Value.str k t from rz)
  exact ⟨.str k, H', I', ⟨_, rfl⟩, q⟩
/-- x != y by the own __eq__ -/
def rNeOwn (K : PySem.W.Frag) (C : Addr) (sp : Sp) (E : XK) : R2 := fun x y H Q => ∃ (a dx : Addr) (fs : List (Str × V)) (t : Value), x = .ref a ∧ H a = some (.ins C dx fs) ∧ TyX K H y t ∧ PySem.W.notFirst K C t = true ∧ sp [.ref a, y] H (fun z H' => ∃ b, z = .bl b ∧ Q (.bl (!b)) H') E
theorem op_neOwn (F : FnOk X.prog X.w X.K X.mg X.base CX n f fd ps sp) (hs : PySem.W.findIn X.K (.ref C) "__eq__" = some (some (.ref f))) (hf : PySem.W.isFn X.K (.ref f) = true) (hne : PySem.W.findIn X.K (.ref C) "__ne__" = some (some (.builtin "object.__ne__")))
    (hob : PySem.W.subIn X.K (.ref C) (.type "object") = some true) (hb : Binds X.K fd ps []) (hx : Passes CX X E) (hr : Room (n + 1) X.A) : OpR X (compareOp .NotEq) (rNeOwn X.K C sp E) := by
  intro pins s σ H x y v u Q I rx ry h
  obtain ⟨a, dx, fs, t, rfl, ha, ty, hn, hsp⟩ := h
  cases (show v = Value.ref a from rx)
  obtain ⟨ox, od, J⟩ := inst_of I ha
  obtain ⟨m, hF⟩ := I.fr
  obtain ⟨PP, kit, hP, _⟩ := kit_of I ry ty
  show wpAny (model X.prog X.w) X.A (richCompare .NotEq (.ref a) u) (EP X pins σ Q) X.xe s
  refine ne_own hr.in1.units0 hF I.ok.mod.kin J (kit.ty _ _ I.kIn hP) hn hne hob hs hf (wpAny_mono (run_own (vs := [V.ref a, y]) F hb hx ⟨hr.in1, rfl⟩ I (.cons rfl (.cons ry .nil)) hsp) (fun w s' z => ?_) fun _ _ e => e)
  obtain ⟨z, H', I', rz, b, rfl, q⟩ := z
  cases (show w = Value.bool b from rz)
  exact ⟨b, rfl, .bl _, H', I', rfl, q⟩
end
end U

set_option Elab.async false
set_option linter.all false
set_option maxRecDepth 100000
set_option maxHeartbeats 4000000
/-! terms, their texts, the pieces of a text: no program here -/
namespace U
inductive Kd where
  | num | name | part
  deriving DecidableEq
inductive Wd where
  | sum | less | times | below | iff | pair | first | second | lett | deff | call
  deriving DecidableEq
inductive Tm where
  | atom (k : Kd) (l : List Nat)
  | n1 (w : Wd) (b : List Nat) (x : Tm)
  | n2 (w : Wd) (b : List Nat) (x y : Tm)
  | n3 (w : Wd) (b : List Nat) (x y z : Tm)
  deriving DecidableEq
def Kd.cs : Kd → List Nat
  | .num => [110, 117, 109, 98, 101, 114]
  | .name => [110, 97, 109, 101]
  | .part => [112, 97, 114, 116]
def Wd.cs : Wd → List Nat
  | .sum => [115, 117, 109]
  | .less => [108, 101, 115, 115]
  | .times => [116, 105, 109, 101, 115]
  | .below => [98, 101, 108, 111, 119]
  | .iff => [105, 102]
  | .pair => [112, 97, 105, 114]
  | .first => [102, 105, 114, 115, 116]
  | .second => [115, 101, 99, 111, 110, 100]
  | .lett => [108, 101, 116]
  | .deff => [100, 101, 102]
  | .call => [99, 97, 108, 108]
def Wd.ar : Wd → Nat
  | .sum => 2 | .less => 2 | .times => 2 | .below => 2 | .iff => 3 | .pair => 2 | .first => 1 | .second => 1 | .lett => 2 | .deff => 1 | .call => 2
def Wd.bd : Wd → Bool
  | .lett => true
  | .deff => true
  | _ => false
def Wd.all : List Wd := [.sum, .less, .times, .below, .iff, .pair, .first, .second, .lett, .deff, .call]
theorem Wd.mem (w : Wd) : w ∈ Wd.all := by cases w <;> decide
/-- a bracket's head: the word, the small name behind it -/
def hd (w : Wd) (b : List Nat) : List Nat := 40 :: w.cs ++ (if w.bd then 32 :: b else [])
def Tm.pr : Tm → List Nat
  | .atom _ l => l
  | .n1 w b x => hd w b ++ (32 :: x.pr) ++ [41]
  | .n2 w b x y => hd w b ++ (32 :: x.pr ++ 32 :: y.pr) ++ [41]
  | .n3 w b x y z => hd w b ++ (32 :: x.pr ++ 32 :: y.pr ++ 32 :: z.pr) ++ [41]
def Tm.kids : Tm → List Tm
  | .atom _ _ => []
  | .n1 _ _ x => [x]
  | .n2 _ _ x y => [x, y]
  | .n3 _ _ x y z => [x, y, z]
def Tm.size : Tm → Nat
  | .atom _ _ => 1
  | .n1 _ _ x => 1 + x.size
  | .n2 _ _ x y => 1 + x.size + y.size
  | .n3 _ _ x y z => 1 + x.size + y.size + z.size
def Tm.depth : Tm → Nat
  | .atom _ _ => 0
  | .n1 _ _ x => 1 + x.depth
  | .n2 _ _ x y => 1 + max x.depth y.depth
  | .n3 _ _ x y z => 1 + max (max x.depth y.depth) z.depth
def Tm.kind : Tm → List Nat
  | .atom k _ => k.cs
  | .n1 w _ _ => w.cs
  | .n2 w _ _ _ => w.cs
  | .n3 w _ _ _ _ => w.cs
def sm (w : Wd) (b : List Nat) : Option (List Nat) := if w.bd then some b else none
def Tm.small : Tm → Option (List Nat)
  | .atom _ _ => none
  | .n1 w b _ => sm w b
  | .n2 w b _ _ => sm w b
  | .n3 w b _ _ _ => sm w b
/-- small letters, figures -/
def smalls : List Nat := (List.range 26).map (97 + ·)
def greats : List Nat := (List.range 26).map (65 + ·)
def figs : List Nat := (List.range 10).map (48 + ·)
def figs1 : List Nat := (List.range 9).map (49 + ·)
def SmallOk (l : List Nat) : Prop := 1 ≤ l.length ∧ l.length ≤ 4 ∧ ∀ c ∈ l, c ∈ smalls
def GreatOk (l : List Nat) : Prop := 1 ≤ l.length ∧ l.length ≤ 6 ∧ ∀ c ∈ l, c ∈ greats
def NumOk (l : List Nat) : Prop := l = [48] ∨ ∃ d ds, (l = d :: ds ∨ l = 45 :: d :: ds) ∧ d ∈ figs1 ∧ ds.length ≤ 11 ∧ ∀ c ∈ ds, c ∈ figs
def AtomOk : Kd → List Nat → Prop
  | .num, l => NumOk l
  | .name, l => SmallOk l
  | .part, l => GreatOk l
def BndOk (w : Wd) (b : List Nat) : Prop := if w.bd = true then SmallOk b else b = []
def Tm.Ok : Tm → Prop
  | .atom k l => AtomOk k l
  | .n1 w b x => w.ar = 1 ∧ BndOk w b ∧ x.Ok
  | .n2 w b x y => w.ar = 2 ∧ BndOk w b ∧ x.Ok ∧ y.Ok
  | .n3 w b x y z => w.ar = 3 ∧ BndOk w b ∧ x.Ok ∧ y.Ok ∧ z.Ok
/-- a piece: its form or the bracket that closes, where it begins and ends, its small name -/
structure Pc where
  kind : List Nat
  b : Nat
  e : Nat
  small : Option (List Nat)
  deriving DecidableEq
def cl (a : Nat) : Pc := ⟨[41], a, a + 1, none⟩
/-- the texts of terms behind one another, a blank ahead of each -/
def kT : List Tm → List Nat
  | [] => []
  | k :: ks => 32 :: k.pr ++ kT ks
def op (a : Nat) (w : Wd) (b : List Nat) : Pc := ⟨w.cs, a, a + (hd w b).length, sm w b⟩
def Tm.pc : Tm → Nat → List Pc
  | .atom k l, a => [⟨k.cs, a, a + l.length, none⟩]
  | .n1 w b x, a => op a w b :: (x.pc (a + (hd w b).length + 1) ++ [cl (a + (hd w b).length + (kT [x]).length)])
  | .n2 w b x y, a => op a w b :: (x.pc (a + (hd w b).length + 1) ++ (y.pc (a + (hd w b).length + (kT [x]).length + 1) ++ [cl (a + (hd w b).length + (kT [x, y]).length)]))
  | .n3 w b x y z, a => op a w b :: (x.pc (a + (hd w b).length + 1) ++ (y.pc (a + (hd w b).length + (kT [x]).length + 1) ++ (z.pc (a + (hd w b).length + (kT [x, y]).length + 1) ++ [cl (a + (hd w b).length + (kT [x, y, z]).length)])))
def kP : Nat → List Tm → List Pc
  | _, [] => []
  | a, k :: ks => k.pc (a + 1) ++ kP (a + 1 + k.pr.length) ks
/-- what is left of a text, of its pieces, where these brackets are open: behind what stands, the terms still lacking in each -/
def rT : List (List Tm) → List Nat
  | [] => []
  | ks :: fs => kT ks ++ 41 :: rT fs
def rP : Nat → List (List Tm) → List Pc
  | _, [] => []
  | a, ks :: fs => kP a ks ++ cl (a + (kT ks).length) :: rP (a + (kT ks).length + 1) fs
/-- a bracket's view -/
structure View (t : Tm) (w : Wd) (b : List Nat) (ks : List Tm) : Prop where
  pr : t.pr = hd w b ++ kT ks ++ [41]
  pc : ∀ a, t.pc a = op a w b :: (kP (a + (hd w b).length) ks ++ [cl (a + (hd w b).length + (kT ks).length)])
  ar : ks.length = w.ar
  bn : BndOk w b
  kids : t.kids = ks
  kind : t.kind = w.cs
  small : t.small = sm w b
  size : t.size = 1 + (ks.map Tm.size).sum
  depth : t.depth = 1 + (ks.map Tm.depth).foldr max 0
  oks : ∀ k ∈ ks, k.Ok
theorem kT_len : ∀ ks, (kT ks).length = (ks.map fun k => 1 + k.pr.length).sum
  | [] => rfl
  | k :: ks => by
    rw [kT, List.cons_append, List.length_cons, List.length_append, kT_len ks, List.map_cons, List.sum_cons]
    omega
theorem kT_app : ∀ xs ys, kT (xs ++ ys) = kT xs ++ kT ys
  | [], ys => rfl
  | x :: xs, ys => by
    rw [List.cons_append, kT, kT, kT_app xs ys]
    simp
theorem view {t : Tm} (h : t.Ok) : (∃ k l, t = .atom k l ∧ AtomOk k l) ∨ ∃ w b ks, View t w b ks := by
  cases t with
  | atom k l => exact .inl ⟨k, l, rfl, h⟩
  | n1 w b x =>
    obtain ⟨h1, h2, h3⟩ := h
    refine .inr ⟨w, b, [x], ⟨by simp [Tm.pr, kT], fun a => by simp [Tm.pc, kP], h1.symm, h2, rfl, rfl, rfl, by simp [Tm.size], by simp [Tm.depth], fun k hk => ?_⟩⟩
    simp only [List.mem_singleton] at hk
    exact hk ▸ h3
  | n2 w b x y =>
    obtain ⟨h1, h2, h3, h4⟩ := h
    refine .inr ⟨w, b, [x, y], ⟨by simp [Tm.pr, kT], fun a => by simp [Tm.pc, kP, kT]; congr 1; omega, h1.symm, h2, rfl, rfl, rfl, by simp [Tm.size]; omega, by simp [Tm.depth], fun k hk => ?_⟩⟩
    simp only [List.mem_cons, List.not_mem_nil, or_false] at hk
    rcases hk with rfl | rfl
    · exact h3
    · exact h4
  | n3 w b x y z =>
    obtain ⟨h1, h2, h3, h4, h5⟩ := h
    refine .inr ⟨w, b, [x, y, z], ⟨by simp [Tm.pr, kT], fun a => by
      simp only [Tm.pc, kP, kT, List.append_nil, List.length_cons, List.length_append, List.length_nil, List.append_assoc]
      rw [show a + (hd w b).length + (x.pr.length + 1) + 1 = a + (hd w b).length + 1 + x.pr.length + 1 by omega, show a + (hd w b).length + (x.pr.length + 1 + (y.pr.length + 1)) + 1 = a + (hd w b).length + 1 + x.pr.length + 1 + y.pr.length + 1 by omega], h1.symm, h2, rfl, rfl, rfl, by simp [Tm.size]; omega, by simp [Tm.depth, Nat.max_assoc], fun k hk => ?_⟩⟩
    simp only [List.mem_cons, List.not_mem_nil, or_false] at hk
    rcases hk with rfl | rfl | rfl
    · exact h3
    · exact h4
    · exact h5
/-! ### runs of signs -/
/-- how many of these signs stand from a on, at most m -/
def runLen (t s : List Nat) (a m : Nat) : Nat := (((t.drop a).take m).takeWhile fun c => decide (c ∈ s)).length
theorem run_in {t s : List Nat} {a m j : Nat} (h : j < runLen t s a m) : a + j < t.length ∧ j < m ∧ ∃ c, t[a + j]? = some c ∧ c ∈ s := by
  unfold runLen at h
  obtain ⟨r, e⟩ := List.takeWhile_prefix (l := (t.drop a).take m) fun c => decide (c ∈ s)
  have h2 : j < ((t.drop a).take m).length := by
    rw [← e, List.length_append]
    omega
  have h3 := h2
  rw [List.length_take, List.length_drop] at h3
  have h4 : ((t.drop a).take m)[j]? = (((t.drop a).take m).takeWhile fun c => decide (c ∈ s))[j]? := by
    conv => lhs; rw [← e]
    exact List.getElem?_append_left h
  rw [List.getElem?_take_of_lt (by omega), List.getElem?_drop, List.getElem?_eq_getElem h] at h4
  have h8 := List.all_takeWhile (l := (t.drop a).take m) (p := fun c => decide (c ∈ s))
  rw [List.all_eq_true] at h8
  exact ⟨by omega, by omega, _, h4, of_decide_eq_true (h8 _ (List.getElem_mem h))⟩
theorem while_stops {p : Nat → Bool} : ∀ {l : List Nat} {c : Nat}, l[(l.takeWhile p).length]? = some c → p c = false
  | [], c, h => by simp at h
  | x :: r, c, h => by
    rw [List.takeWhile_cons] at h
    by_cases hx : p x = true
    · rw [if_pos hx] at h
      exact while_stops (l := r) (by simpa using h)
    · rw [if_neg hx] at h
      have e : x = c := by simpa using h
      subst e
      simpa using hx
theorem run_ends {t s : List Nat} {a m : Nat} (h1 : a + runLen t s a m < t.length) (h2 : runLen t s a m < m) : ∃ c, t[a + runLen t s a m]? = some c ∧ c ∉ s := by
  refine ⟨_, List.getElem?_eq_getElem h1, fun hc => ?_⟩
  have h5 : ((t.drop a).take m)[runLen t s a m]? = t[a + runLen t s a m]? := by
    rw [List.getElem?_take_of_lt h2, List.getElem?_drop]
  have h6 := while_stops (p := fun c => decide (c ∈ s)) (l := (t.drop a).take m) (h5.trans (List.getElem?_eq_getElem h1))
  exact absurd hc (of_decide_eq_false h6)
/-- a run that stands there, and no more -/
theorem run_is {t s l r : List Nat} {a m : Nat} (h : t.drop a = l ++ r) (hl : ∀ c ∈ l, c ∈ s) (hm : l.length ≤ m) (hr : l.length = m ∨ ∀ c, r.head? = some c → c ∉ s) : runLen t s a m = l.length := by
  unfold runLen
  rw [h, List.take_append]
  have e1 : l.take m = l := List.take_of_length_le hm
  rw [e1]
  have all : ∀ x : List Nat, (∀ c ∈ x, c ∈ s) → ∀ y : List Nat, ((x ++ y).takeWhile fun c => decide (c ∈ s)) = x ++ y.takeWhile fun c => decide (c ∈ s) := by
    intro x
    induction x with
    | nil => intro _ y; rfl
    | cons c x ih =>
      intro hx y
      rw [List.cons_append, List.takeWhile_cons, if_pos (decide_eq_true (hx c List.mem_cons_self)), ih (fun d hd => hx d (List.mem_cons_of_mem _ hd))]
      rfl
  rw [all l hl, List.length_append]
  have e2 : ((r.take (m - l.length)).takeWhile fun c => decide (c ∈ s)) = [] := by
    rcases hr with e | e
    · rw [e, Nat.sub_self]
      rfl
    · cases r with
      | nil => simp
      | cons c r =>
        have hc := e c rfl
        cases hq : m - l.length with
        | zero => rfl
        | succ q => rw [List.take_succ_cons, List.takeWhile_cons, if_neg (by simpa using hc)]
  rw [e2]
  rfl
theorem drop_more {t l r : List Nat} {a : Nat} (h : t.drop a = l ++ r) : t.drop (a + l.length) = r := by
  rw [← List.drop_drop, h, List.drop_left]
theorem drop_at {t r : List Nat} {a c : Nat} (h : t.drop a = c :: r) : t[a]? = some c ∧ a < t.length := by
  have h1 : t[a]? = some c := by
    have := congrArg List.head? h
    rwa [List.head?_drop, List.head?_cons] at this
  exact ⟨h1, (List.getElem?_eq_some_iff.mp h1).1⟩
/-- what may stand behind a term -/
def Sep (r : List Nat) : Prop := ∀ c, r.head? = some c → c = 32 ∨ c = 41
theorem sep_rT : ∀ R : List (List Tm), Sep (rT R)
  | [], c, h => by simp [rT] at h
  | [] :: fs, c, h => by
    simp [rT, kT] at h
    exact .inr h.symm
  | (k :: ks) :: fs, c, h => by
    simp [rT, kT] at h
    exact .inl h.symm
theorem Sep.not {r s : List Nat} (h : Sep r) (h1 : 32 ∉ s) (h2 : 41 ∉ s) : ∀ c, r.head? = some c → c ∉ s := by
  intro c hc
  rcases h c hc with rfl | rfl
  · exact h1
  · exact h2
/-! ### how deep, how many -/
structure Sz where
  o : Int
  n : Int
  d : Int
def isWd (l : List Nat) : Prop := ∃ w : Wd, l = w.cs
instance (l : List Nat) : Decidable (isWd l) := decidable_of_iff (l ∈ Wd.all.map Wd.cs) ⟨fun h => by
  obtain ⟨w, _, e⟩ := List.mem_map.mp h
  exact ⟨w, e.symm⟩, fun ⟨w, e⟩ => List.mem_map.mpr ⟨w, w.mem, e.symm⟩⟩
def sz1 (p : Pc) (z : Sz) : Sz := if p.kind = [41] then ⟨z.o - 1, z.n, z.d⟩ else ⟨z.o, z.n + 1, z.d⟩
def sz2 (p : Pc) (z : Sz) : Sz := if isWd p.kind then ⟨z.o + 1, z.n, max z.d (z.o + 1)⟩ else z
def szStep (z : Sz) (p : Pc) : Sz := sz2 p (sz1 p z)
theorem wd_not (w : Wd) : w.cs ≠ [41] := by cases w <;> decide
theorem wd_is (w : Wd) : isWd w.cs := ⟨w, rfl⟩
theorem kd_not (k : Kd) : k.cs ≠ [41] := by cases k <;> decide
theorem kd_wd (k : Kd) : ¬ isWd k.cs := by cases k <;> decide
theorem cl_wd : ¬ isWd [41] := by decide
theorem sz_open (a : Nat) (w : Wd) (b : List Nat) (z : Sz) : szStep z (op a w b) = ⟨z.o + 1, z.n + 1, max z.d (z.o + 1)⟩ := by
  unfold szStep sz1 sz2 op
  rw [if_neg (wd_not w), if_pos (wd_is w)]
theorem sz_close (a : Nat) (z : Sz) : szStep z (cl a) = ⟨z.o - 1, z.n, z.d⟩ := by
  unfold szStep sz1 sz2 cl
  rw [if_pos rfl, if_neg cl_wd]
theorem sz_atom (k : Kd) (a e : Nat) (s : Option (List Nat)) (z : Sz) : szStep z ⟨k.cs, a, e, s⟩ = ⟨z.o, z.n + 1, z.d⟩ := by
  unfold szStep sz1 sz2
  rw [if_neg (kd_not k), if_neg (kd_wd k)]
theorem sz_term : ∀ (t : Tm) (a : Nat) (z : Sz), z.o ≤ z.d → (t.pc a).foldl szStep z = ⟨z.o, z.n + t.size, max z.d (z.o + t.depth)⟩
  | .atom k l, a, z, h => by
    rw [Tm.pc, List.foldl_cons, List.foldl_nil, sz_atom, Tm.size, Tm.depth, Sz.mk.injEq]
    exact ⟨rfl, by omega, by omega⟩
  | .n1 w b x, a, z, h => by
    rw [Tm.pc, List.foldl_cons, sz_open, List.foldl_append, sz_term x _ _ (by dsimp only; omega), List.foldl_cons, List.foldl_nil, sz_close, Tm.size, Tm.depth, Sz.mk.injEq]
    dsimp only
    exact ⟨by omega, by omega, by omega⟩
  | .n2 w b x y, a, z, h => by
    rw [Tm.pc, List.foldl_cons, sz_open, List.foldl_append, sz_term x _ _ (by dsimp only; omega), List.foldl_append, sz_term y _ _ (by dsimp only; omega), List.foldl_cons, List.foldl_nil, sz_close, Tm.size, Tm.depth, Sz.mk.injEq]
    dsimp only
    exact ⟨by omega, by omega, by omega⟩
  | .n3 w b x y v, a, z, h => by
    rw [Tm.pc, List.foldl_cons, sz_open, List.foldl_append, sz_term x _ _ (by dsimp only; omega), List.foldl_append, sz_term y _ _ (by dsimp only; omega), List.foldl_append, sz_term v _ _ (by dsimp only; omega), List.foldl_cons, List.foldl_nil, sz_close, Tm.size, Tm.depth, Sz.mk.injEq]
    dsimp only
    exact ⟨by omega, by omega, by omega⟩
/-! ### a place within a term -/
structure Fr where
  t : Tm
  w : Wd
  b : List Nat
  at_ : Nat
  dn : List Tm
  rs : List Tm
def Ctx (t0 : Tm) : List Fr → Tm → Nat → Prop
  | [], k, a => k = t0 ∧ a = 0
  | f :: fs, k, a => View f.t f.w f.b (f.dn ++ k :: f.rs) ∧ a = f.at_ + (hd f.w f.b).length + (kT f.dn).length + 1 ∧ Ctx t0 fs f.t f.at_
def rests (fs : List Fr) : List (List Tm) := fs.map (·.rs)
theorem Ctx.text {t0 : Tm} : ∀ {fs : List Fr} {k : Tm} {a : Nat}, Ctx t0 fs k a → t0.pr.drop a = k.pr ++ rT (rests fs)
  | [], k, a, ⟨h1, h2⟩ => by
    subst h1 h2
    simp [rests, rT]
  | f :: fs, k, a, ⟨v, e, c⟩ => by
    have ih := c.text
    rw [v.pr, kT_app, kT] at ih
    have e2 : a = f.at_ + (hd f.w f.b ++ kT f.dn ++ [32]).length := by simp; omega
    rw [e2]
    refine drop_more ?_
    rw [ih]
    simp [rests, rT]
/-- the piece with which a term begins -/
def Tm.hp (t : Tm) (a : Nat) : Pc := match t with
  | .atom k l => ⟨k.cs, a, a + l.length, none⟩
  | .n1 w b _ => op a w b
  | .n2 w b _ _ => op a w b
  | .n3 w b _ _ _ => op a w b
theorem View.hp {t : Tm} {w : Wd} {b : List Nat} {ks : List Tm} (v : View t w b ks) (a : Nat) : t.hp a = op a w b := by
  have h := v.pc a
  cases t with
  | atom k l =>
    rw [Tm.pc, List.cons.injEq] at h
    have h2 := congrArg List.length h.2
    simp at h2
  | n1 w' b' x =>
    rw [Tm.pc, List.cons.injEq] at h
    exact h.1
  | n2 w' b' x y =>
    rw [Tm.pc, List.cons.injEq] at h
    exact h.1
  | n3 w' b' x y z =>
    rw [Tm.pc, List.cons.injEq] at h
    exact h.1
theorem num_first {l : List Nat} (h : NumOk l) : ∃ c r, l = c :: r ∧ (c = 45 ∨ c ∈ figs) := by
  rcases h with rfl | ⟨d, ds, h | h, h1, _⟩
  · exact ⟨48, [], rfl, .inr (by decide)⟩
  · refine ⟨d, ds, h, .inr ?_⟩
    unfold figs1 at h1
    unfold figs
    obtain ⟨j, hj, rfl⟩ := List.mem_map.mp h1
    have := List.mem_range.mp hj
    exact List.mem_map.mpr ⟨j + 1, List.mem_range.mpr (by omega), by omega⟩
  · exact ⟨45, d :: ds, h, .inl rfl⟩
theorem some_first {l s : List Nat} (h1 : 1 ≤ l.length) (h2 : ∀ c ∈ l, c ∈ s) : ∃ c r, l = c :: r ∧ c ∈ s := by
  cases l with
  | nil => simp at h1
  | cons c r => exact ⟨c, r, rfl, h2 c List.mem_cons_self⟩
/-! ### the walk over a text -/
def Oks (R : List (List Tm)) : Prop := ∀ ks ∈ R, ∀ k ∈ ks, k.Ok
/-- a term is ahead, these brackets are open around it: what is left of the text and of its pieces -/
def Ahead (t0 : List Nat) (all : List Pc) (k : Tm) (R : List (List Tm)) (a : Nat) (done : List Pc) : Prop :=
  t0.drop a = k.pr ++ rT R ∧ k.Ok ∧ Oks R ∧ done ++ (k.pc a ++ rP (a + k.pr.length) R) = all
/-- a piece was read, these brackets are open -/
def Mid (t0 : List Nat) (all : List Pc) (R : List (List Tm)) (a : Nat) (done : List Pc) : Prop :=
  t0.drop a = rT R ∧ Oks R ∧ done ++ rP a R = all
/-- what is open behind the piece of a term -/
def openR (k : Tm) (R : List (List Tm)) : List (List Tm) := match k with
  | .atom _ _ => R
  | t => t.kids :: R
def hlen (k : Tm) : Nat := match k with
  | .atom _ l => l.length
  | .n1 w b _ => (hd w b).length
  | .n2 w b _ _ => (hd w b).length
  | .n3 w b _ _ _ => (hd w b).length
theorem hp_end (k : Tm) (a : Nat) : (k.hp a).e = a + hlen k := by cases k <;> rfl
theorem View.hlen {t : Tm} {w : Wd} {b : List Nat} {ks : List Tm} (v : View t w b ks) : hlen t = (hd w b).length := by
  have h := hp_end t 0
  rw [v.hp 0] at h
  have h2 : (op 0 w b).e = 0 + (hd w b).length := rfl
  omega
theorem View.openR {t : Tm} {w : Wd} {b : List Nat} {ks : List Tm} (v : View t w b ks) (R : List (List Tm)) : openR t R = ks :: R := by
  have h := v.pc 0
  cases t with
  | atom k l =>
    rw [Tm.pc, List.cons.injEq] at h
    have h2 := congrArg List.length h.2
    simp at h2
  | n1 w' b' x => rw [← v.kids]; rfl
  | n2 w' b' x y => rw [← v.kids]; rfl
  | n3 w' b' x y z => rw [← v.kids]; rfl
theorem Ahead.mid {t0 : List Nat} {all : List Pc} {k : Tm} {R : List (List Tm)} {a : Nat} {done : List Pc} (h : Ahead t0 all k R a done) : Mid t0 all (openR k R) (a + hlen k) (done ++ [k.hp a]) := by
  obtain ⟨h1, h2, h3, h4⟩ := h
  rcases view h2 with ⟨kd, l, rfl, _⟩ | ⟨w, b, ks, v⟩
  · exact ⟨drop_more h1, h3, by rw [List.append_assoc]; exact h4⟩
  · rw [v.openR, v.hlen, v.hp]
    refine ⟨drop_more ?_, ?_, ?_⟩
    · rw [h1, v.pr]
      simp [rT]
    · intro x hx k hk
      rcases List.mem_cons.mp hx with rfl | hx
      · exact v.oks k hk
      · exact h3 x hx k hk
    · rw [← h4, v.pc, v.pr, rP]
      simp only [List.length_append, List.length_cons, List.length_nil, List.append_assoc, List.cons_append, List.nil_append]
      rw [show a + ((hd w b).length + ((kT ks).length + (0 + 1))) = a + (hd w b).length + (kT ks).length + 1 by omega]
theorem Mid.next {t0 : List Nat} {all : List Pc} {k : Tm} {ks : List Tm} {R : List (List Tm)} {a : Nat} {done : List Pc} (h : Mid t0 all ((k :: ks) :: R) a done) : t0[a]? = some 32 ∧ Ahead t0 all k (ks :: R) (a + 1) done := by
  obtain ⟨h1, h2, h3⟩ := h
  have e : t0.drop a = 32 :: (k.pr ++ rT (ks :: R)) := by
    rw [h1]
    simp [rT, kT]
  refine ⟨(drop_at e).1, drop_more (l := [32]) e, h2 _ List.mem_cons_self k List.mem_cons_self, ?_, ?_⟩
  · intro x hx y hy
    rcases List.mem_cons.mp hx with rfl | hx
    · exact h2 _ List.mem_cons_self y (List.mem_cons_of_mem _ hy)
    · exact h2 x (List.mem_cons_of_mem _ hx) y hy
  · rw [← h3, rP, rP, kP, kT]
    simp only [List.length_append, List.length_cons, List.append_assoc, List.cons_append]
    rw [show a + (k.pr.length + (kT ks).length + 1) = a + 1 + k.pr.length + (kT ks).length by omega]
theorem Mid.close {t0 : List Nat} {all : List Pc} {R : List (List Tm)} {a : Nat} {done : List Pc} (h : Mid t0 all ([] :: R) a done) : t0[a]? = some 41 ∧ Mid t0 all R (a + 1) (done ++ [cl a]) := by
  obtain ⟨h1, h2, h3⟩ := h
  have e : t0.drop a = 41 :: rT R := h1
  refine ⟨(drop_at e).1, drop_more (l := [41]) e, fun x hx => h2 x (List.mem_cons_of_mem _ hx), ?_⟩
  rw [← h3, List.append_assoc]
  rfl
theorem Mid.over {t0 : List Nat} {all : List Pc} {a : Nat} {done : List Pc} (h : Mid t0 all [] a done) (l : a ≤ t0.length) : a = t0.length ∧ done = all := by
  obtain ⟨h1, h2, h3⟩ := h
  have e : t0.drop a = [] := h1
  have h4 := List.drop_eq_nil_iff.mp e
  exact ⟨by omega, by rw [← h3]; simp [rP]⟩
theorem ahead_start {k : Tm} (h : k.Ok) : Ahead k.pr (k.pc 0) k [] 0 [] := ⟨by simp [rT], h, fun x hx => by simp at hx, by simp [rP]⟩
def Rsize (R : List (List Tm)) : Nat := (R.map fun ks => (ks.map Tm.size).sum).sum
theorem Ahead.less {t0 : List Nat} {all : List Pc} {k : Tm} {R : List (List Tm)} {a : Nat} {done : List Pc} (h : Ahead t0 all k R a done) : Rsize (openR k R) + 1 = k.size + Rsize R := by
  rcases view h.2.1 with ⟨kd, l, rfl, _⟩ | ⟨w, b, ks, v⟩
  · show Rsize R + 1 = 1 + Rsize R
    omega
  · rw [v.openR, v.size]
    simp [Rsize]
    omega
theorem pc_len : ∀ (t : Tm) (a : Nat), (t.pc a).length ≤ 2 * t.size
  | .atom k l, a => by simp [Tm.pc, Tm.size]
  | .n1 w b x, a => by
    have := pc_len x (a + (hd w b).length + 1)
    simp [Tm.pc, Tm.size]
    omega
  | .n2 w b x y, a => by
    have h1 := pc_len x (a + (hd w b).length + 1)
    have h2 := pc_len y (a + (hd w b).length + (kT [x]).length + 1)
    simp [Tm.pc, Tm.size] at h1 h2 ⊢
    omega
  | .n3 w b x y z, a => by
    have h1 := pc_len x (a + (hd w b).length + 1)
    have h2 := pc_len y (a + (hd w b).length + (kT [x]).length + 1)
    have h3 := pc_len z (a + (hd w b).length + (kT [x, y]).length + 1)
    simp [Tm.pc, Tm.size] at h1 h2 h3 ⊢
    omega
theorem hlen_le (k : Tm) : hlen k ≤ k.pr.length := by
  cases k <;> simp [hlen, Tm.pr]
theorem pr_pos {k : Tm} (h : k.Ok) : 1 ≤ k.pr.length := by
  rcases view h with ⟨kd, l, rfl, hk⟩ | ⟨w, b, ks, v⟩
  · cases kd with
    | num =>
      obtain ⟨c, r, e, _⟩ := num_first hk
      show 1 ≤ l.length
      rw [e]
      simp
    | name => exact hk.1
    | part => exact hk.1
  · rw [v.pr]
    simp
    omega
theorem Ahead.bound {t0 : List Nat} {all : List Pc} {k : Tm} {R : List (List Tm)} {a : Nat} {done : List Pc} (h : Ahead t0 all k R a done) : a + hlen k ≤ t0.length ∧ done.length < all.length := by
  have h1 := congrArg List.length h.1
  rw [List.length_drop, List.length_append] at h1
  have h2 := hlen_le k
  have h3 := pr_pos h.2.1
  refine ⟨by omega, ?_⟩
  have h4 := h.mid.2.2
  rw [← h4]
  simp
theorem rT_len : ∀ R : List (List Tm), R.length ≤ (rT R).length
  | [] => Nat.le_refl _
  | ks :: R => by
    have := rT_len R
    simp [rT]
    omega
theorem Ahead.few {t0 : List Nat} {all : List Pc} {k : Tm} {R : List (List Tm)} {a : Nat} {done : List Pc} (h : Ahead t0 all k R a done) : R.length < t0.length := by
  have h1 := congrArg List.length h.1
  rw [List.length_drop, List.length_append] at h1
  have h2 := pr_pos h.2.1
  have h3 := rT_len R
  omega
theorem Mid.room {t0 : List Nat} {all : List Pc} {R : List (List Tm)} {a : Nat} {done : List Pc} (h : Mid t0 all ([] :: R) a done) : done.length < all.length := by
  rw [← h.2.2]
  simp [rP]
  omega
/-! ### free names, all names -/
def Tm.Free : Tm → List Nat → Prop
  | .atom k l, y => k = .name ∧ y = l
  | .n1 w b x, y => x.Free y ∧ (w.bd = true → y ≠ b)
  | .n2 w b x z, y => x.Free y ∨ (z.Free y ∧ (w.bd = true → y ≠ b))
  | .n3 w b x z v, y => x.Free y ∨ z.Free y ∨ (v.Free y ∧ (w.bd = true → y ≠ b))
/-- a small name that stands in it as a term -/
def Tm.Names (N : List Nat → Prop) : Tm → Prop
  | .atom k l => k = .name → N l
  | .n1 _ _ x => x.Names N
  | .n2 _ _ x z => x.Names N ∧ z.Names N
  | .n3 _ _ x z v => x.Names N ∧ z.Names N ∧ v.Names N
theorem Tm.Free.in_names {N : List Nat → Prop} : ∀ {t : Tm} {y : List Nat}, t.Free y → t.Names N → N y
  | .atom _ _, _, ⟨h1, h2⟩, n => h2 ▸ n h1
  | .n1 _ _ _, _, h, n => Tm.Free.in_names h.1 n
  | .n2 _ _ _ _, _, h, n => h.elim (fun h => Tm.Free.in_names h n.1) fun h => Tm.Free.in_names h.1 n.2
  | .n3 _ _ _ _ _, _, h, n => h.elim (fun h => Tm.Free.in_names h n.1) fun h => h.elim (fun h => Tm.Free.in_names h n.2.1) fun h => Tm.Free.in_names h.1 n.2.2
theorem View.names {t : Tm} {w : Wd} {b : List Nat} {ks : List Tm} (v : View t w b ks) {N : List Nat → Prop} (h : t.Names N) : ∀ k ∈ ks, k.Names N := by
  rw [← v.kids]
  cases t with
  | atom k l =>
    intro x hx
    simp [Tm.kids] at hx
  | n1 w' b' x =>
    intro k hk
    simp only [Tm.kids, List.mem_singleton] at hk
    exact hk ▸ h
  | n2 w' b' x y =>
    intro k hk
    simp only [Tm.kids, List.mem_cons, List.not_mem_nil, or_false] at hk
    rcases hk with rfl | rfl
    · exact h.1
    · exact h.2
  | n3 w' b' x y z =>
    intro k hk
    simp only [Tm.kids, List.mem_cons, List.not_mem_nil, or_false] at hk
    rcases hk with rfl | rfl | rfl
    · exact h.1
    · exact h.2.1
    · exact h.2.2
/-! ### trees on their way -/
def restsOk (N : List Nat → Prop) (fs : List Fr) : Prop := ∀ f ∈ fs, ∀ x ∈ f.rs, x.Ok ∧ x.Names N
/-- what comes next: a term's own piece, a bracket that closes, nothing -/
inductive Bst (N : List Nat → Prop) (t0 : Tm) (rem : List Pc) : List Fr → List Tm → Prop where
  | ahead {fs : List Fr} (k : Tm) (a : Nat) (c : Ctx t0 fs k a) (ok : k.Ok) (nm : k.Names N) (ro : restsOk N fs) (e : rem = k.pc a ++ rP (a + k.pr.length) (rests fs)) : Bst N t0 rem fs []
  | close {f : Fr} {fs : List Fr} (v : View f.t f.w f.b f.dn) (c : Ctx t0 fs f.t f.at_) (nm : f.t.Names N) (ro : restsOk N fs) (e : rem = cl (f.at_ + (hd f.w f.b).length + (kT f.dn).length) :: rP (f.at_ + f.t.pr.length) (rests fs)) : Bst N t0 rem (f :: fs) []
  | over (e : rem = []) : Bst N t0 rem [] [t0]
/-- a term is put where it belongs -/
def putDn (fs : List Fr) (k : Tm) : List Fr := match fs with
  | [] => []
  | f :: r => { f with dn := f.dn ++ [k], rs := f.rs.tail } :: r
def putBot (fs : List Fr) (k : Tm) : List Tm := match fs with
  | [] => [k]
  | _ :: _ => []
theorem Bst.fin {N : List Nat → Prop} {t0 k : Tm} {fs : List Fr} {a : Nat} {rem : List Pc} (c : Ctx t0 fs k a) (nm : t0.Names N) (hn : ∀ f ∈ fs, f.t.Names N) (ro : restsOk N fs) (e : rem = rP (a + k.pr.length) (rests fs)) : Bst N t0 rem (putDn fs k) (putBot fs k) := by
  cases fs with
  | nil =>
    obtain ⟨h1, _⟩ := c
    subst h1
    exact .over e
  | cons f r =>
    obtain ⟨v, h1, h2⟩ := c
    have ro' : restsOk N r := fun g hg => ro g (List.mem_cons_of_mem _ hg)
    cases hrs : f.rs with
    | nil =>
      rw [hrs] at v
      show Bst N t0 rem ({ f with dn := f.dn ++ [k], rs := f.rs.tail } :: r) []
      refine .close v h2 (hn f List.mem_cons_self) ro' ?_
      rw [e]
      show rP (a + k.pr.length) (f.rs :: rests r) = _
      rw [hrs, rP, kP, kT, kT_app, v.pr, kT_app]
      simp only [kT, List.append_nil, List.length_append, List.length_cons, List.length_nil, List.nil_append, h1]
      rw [show f.at_ + (hd f.w f.b).length + (kT f.dn).length + 1 + k.pr.length + 0 = f.at_ + (hd f.w f.b).length + ((kT f.dn).length + (k.pr.length + 1)) by omega,
        show f.at_ + (hd f.w f.b).length + ((kT f.dn).length + (k.pr.length + 1)) + 1 = f.at_ + ((hd f.w f.b).length + ((kT f.dn).length + (k.pr.length + 1)) + (0 + 1)) by omega]
    | cons k' rs' =>
      rw [hrs] at v
      show Bst N t0 rem ({ f with dn := f.dn ++ [k], rs := f.rs.tail } :: r) []
      have hk := ro f List.mem_cons_self k' (by rw [hrs]; exact List.mem_cons_self)
      refine .ahead k' (a + k.pr.length + 1) ⟨?_, ?_, h2⟩ hk.1 hk.2 ?_ ?_
      · show View f.t f.w f.b (f.dn ++ [k] ++ k' :: f.rs.tail)
        rw [hrs]
        simpa using v
      · show a + k.pr.length + 1 = f.at_ + (hd f.w f.b).length + (kT (f.dn ++ [k])).length + 1
        rw [kT_app, h1]
        simp [kT]
        omega
      · intro g hg x hx
        rcases List.mem_cons.mp hg with rfl | hg
        · have hx2 : x ∈ f.rs.tail := hx
          exact ro f List.mem_cons_self x (List.mem_of_mem_tail hx2)
        · exact ro' g hg x hx
      · rw [e]
        show rP (a + k.pr.length) (f.rs :: rests r) = k'.pc (a + k.pr.length + 1) ++ rP _ (f.rs.tail :: rests r)
        rw [hrs, List.tail_cons, rP, rP, kP, kT]
        simp only [List.length_append, List.length_cons, List.append_assoc, List.cons_append]
        rw [show a + k.pr.length + (k'.pr.length + (kT rs').length + 1) = a + k.pr.length + 1 + k'.pr.length + (kT rs').length by omega]
theorem View.some_kid {t : Tm} {w : Wd} {b : List Nat} {ks : List Tm} (v : View t w b ks) : ∃ k1 ks', ks = k1 :: ks' := by
  have h := v.ar
  cases ks with
  | nil =>
    exfalso
    cases w <;> simp [Wd.ar] at h
  | cons k1 ks' => exact ⟨k1, ks', rfl⟩
/-- a bracket opens -/
theorem Bst.open {N : List Nat → Prop} {t0 k k1 : Tm} {ks : List Tm} {w : Wd} {b : List Nat} {fs : List Fr} {a : Nat} {rem : List Pc} (v : View k w b (k1 :: ks)) (c : Ctx t0 fs k a) (nm : k.Names N) (ro : restsOk N fs)
    (e : op a w b :: rem = k.pc a ++ rP (a + k.pr.length) (rests fs)) : Bst N t0 rem (⟨k, w, b, a, [], ks⟩ :: fs) [] := by
  have hk := v.names nm
  refine .ahead k1 (a + (hd w b).length + 1) ⟨v, by simp [kT], c⟩ (v.oks _ List.mem_cons_self) (hk _ List.mem_cons_self) ?_ ?_
  · intro g hg x hx
    rcases List.mem_cons.mp hg with rfl | hg
    · exact ⟨v.oks x (List.mem_cons_of_mem _ hx), hk x (List.mem_cons_of_mem _ hx)⟩
    · exact ro g hg x hx
  · rw [v.pc, v.pr, List.cons_append] at e
    have e := (List.cons.inj e).2
    rw [e]
    show _ = k1.pc _ ++ rP _ (ks :: rests fs)
    rw [rP, kP, kT]
    simp only [List.length_append, List.length_cons, List.length_nil, List.append_assoc, List.cons_append, List.nil_append]
    rw [show a + ((hd w b).length + (k1.pr.length + ((kT ks).length + (0 + 1)) + 1)) = a + (hd w b).length + 1 + k1.pr.length + (kT ks).length + 1 by omega,
      show a + (hd w b).length + (k1.pr.length + (kT ks).length + 1) = a + (hd w b).length + 1 + k1.pr.length + (kT ks).length by omega]
end U

set_option Elab.async false
set_option linter.all false
set_option maxRecDepth 100000
set_option maxHeartbeats 4000000
/-! a written dict of texts and ints: in, not in, an item, its keys walked -/
namespace U
open PySem PySem.Spec PyProof.Rows L2
structure KTab (K : PySem.W.Frag) (w : World) (d : Addr) (es : Array DictEntry) (n : Nat) (kvs : List (Str × Int)) : Prop where
  dict : KDict K w d es n
  rows : Paired (fun (p : Str × Int) (e : DictEntry) => ∃ t u, e.key = .str p.1 t ∧ e.val = .int p.2 u) kvs es.toList
  nd : (kvs.map (·.1)).Nodup
section
variable {K : PySem.W.Frag} {w : World} {d : Addr} {es : Array DictEntry} {n : Nat} {kvs : List (Str × Int)}
theorem find_rows : ∀ {kvs : List (Str × Int)} {es : List DictEntry}, Paired (fun (p : Str × Int) (e : DictEntry) => ∃ t u, e.key = .str p.1 t ∧ e.val = .int p.2 u) kvs es → ∀ z : Str,
    (∃ i u e, (z, i) ∈ kvs ∧ es.find? (·.key.isStr z) = some e ∧ e.val = .int i u) ∨ (z ∉ kvs.map (·.1) ∧ es.find? (·.key.isStr z) = none ∧ es.any (·.refKey) = false)
  | [], [], .nil, z => .inr ⟨by simp, rfl, rfl⟩
  | p :: kvs, e :: es, .cons ⟨t, u, h1, h2⟩ r, z => by
    have hk : e.key.isStr z = decide (p.1 = z) := by
      rw [h1]
      by_cases hz : p.1 = z
      · subst hz
        simp [Value.isStr]
      · rw [decide_eq_false hz]
        simp [Value.isStr, hz]
    have hr : e.refKey = false := by
      unfold DictEntry.refKey
      rw [h1]
    by_cases hz : p.1 = z
    · refine .inl ⟨p.2, u, e, ?_, ?_, h2⟩
      · rw [← hz]
        exact List.mem_cons_self
      · rw [List.find?_cons, hk, decide_eq_true hz]
    · have nx : (e :: es).find? (·.key.isStr z) = es.find? (·.key.isStr z) := by
        rw [List.find?_cons, hk, decide_eq_false hz]
      rw [nx]
      rcases find_rows r z with ⟨i, u', e', a, b, c⟩ | ⟨a, b, c⟩
      · exact .inl ⟨i, u', e', List.mem_cons_of_mem _ a, b, c⟩
      · refine .inr ⟨?_, b, by rw [List.any_cons, hr, c]; rfl⟩
        rw [List.map_cons, List.mem_cons]
        exact fun h => h.elim (fun h => hz h.symm) a
theorem KTab.ns (T : KTab K w d es n kvs) (z : Str) : (∃ i u, (z, i) ∈ kvs ∧ PySem.W.nsIn K d z = some (some (.int i u))) ∨ (z ∉ kvs.map (·.1) ∧ PySem.W.nsIn K d z = some none) := by
  have hl := T.dict.at_
  unfold PySem.W.nsIn
  rw [hl]
  dsimp only
  rcases find_rows T.rows z with ⟨i, u, e, a, b, c⟩ | ⟨a, b, c⟩
  · exact .inl ⟨i, u, a, by rw [b, ← c]⟩
  · refine .inr ⟨a, ?_⟩
    rw [b]
    dsimp only
    rw [if_neg (by rw [c]; decide)]
end
section
variable {X : Cx} {d : Addr} {es : Array DictEntry} {n : Nat} {kvs : List (Str × Int)}
/-- z in d -/
theorem op_in_tab (T : KTab X.K X.w d es n kvs) : OpR X (compareOp .In) (fun x y H Q => ∃ z : Str, x = .str z ∧ y = .ref d ∧ Q (.bl (decide (z ∈ kvs.map (·.1)))) H) := by
  intro pins s σ H x y v u Q I rx ry ⟨z, h1, h2, q⟩
  rcases T.ns z with ⟨i, u0, m, e⟩ | ⟨m, e⟩
  · rw [decide_eq_true (List.mem_map.mpr ⟨_, m, rfl⟩)] at q
    exact op_in_kd T.dict pins s σ H x y v u Q I rx ry ⟨z, _, h1, h2, e, q⟩
  · rw [decide_eq_false m] at q
    exact op_in_kd T.dict pins s σ H x y v u Q I rx ry ⟨z, _, h1, h2, e, q⟩
/-- z not in d -/
theorem op_notIn_tab (T : KTab X.K X.w d es n kvs) : OpR X (compareOp .NotIn) (fun x y H Q => ∃ z : Str, x = .str z ∧ y = .ref d ∧ Q (.bl (!decide (z ∈ kvs.map (·.1)))) H) := by
  intro pins s σ H x y v u Q I rx ry ⟨z, h1, h2, q⟩
  rcases T.ns z with ⟨i, u0, m, e⟩ | ⟨m, e⟩
  · rw [decide_eq_true (List.mem_map.mpr ⟨_, m, rfl⟩)] at q
    exact op_notIn_kd T.dict pins s σ H x y v u Q I rx ry ⟨z, _, h1, h2, e, q⟩
  · rw [decide_eq_false m] at q
    exact op_notIn_kd T.dict pins s σ H x y v u Q I rx ry ⟨z, _, h1, h2, e, q⟩
/-- d[z], z a key of it -/
theorem ix_tab (T : KTab X.K X.w d es n kvs) : IxR X (fun x y H Q => ∃ z : Str, x = .ref d ∧ y = .str z ∧ (∃ i, (z, i) ∈ kvs) ∧ ∀ i, (z, i) ∈ kvs → Q (.int i) H) := by
  intro value slice pins s σ H x y v u Q I rx ry ⟨z, h1, h2, ⟨i0, hi⟩, q⟩ hs
  rcases T.ns z with ⟨i, u0, m, e⟩ | ⟨m, e⟩
  · exact ix_kdict value slice pins s σ H x y v u Q I rx ry ⟨d, z, .int i, h1, h2, ⟨es, n, _, T.dict.at_, T.dict.lit, e, ⟨_, rfl⟩⟩, q i m⟩ hs
  · exact absurd (List.mem_map.mpr ⟨_, hi, rfl⟩) m
/-- its keys, one by one -/
def Itn (ks : List Str) : It := ⟨fun i _ => i < ks.length, fun i H v H' => H' = H ∧ ∃ k, ks[i]? = some k ∧ v = .str k, fun i _ => ks.length ≤ i⟩
theorem walk_tab {ks : List Str} : Walk (Itn ks) ks.length (fun _ => True) (fun i H v H' => H' = H ∧ ∃ k, ks[i]? = some k ∧ v = .str k) :=
  ⟨fun _ _ hi _ => hi, fun _ _ => Nat.le_refl _, fun _ _ _ _ _ _ y => y⟩
theorem pairs_rows (P : Program) (w : World) : ∀ {kvs : List (Str × Int)} {es : List DictEntry}, Paired (fun (p : Str × Int) (e : DictEntry) => ∃ t u, e.key = .str p.1 t ∧ e.val = .int p.2 u) kvs es →
    ∃ ps : List (Str × Value), Pairs (PySem.strKind P w) es ps ∧ ps.map (·.1) = kvs.map (·.1)
  | [], [], .nil => ⟨[], .nil, rfl⟩
  | p :: kvs, e :: es, .cons ⟨t, u, h1, h2⟩ r => by
    obtain ⟨ps, a, b⟩ := pairs_rows P w r
    have key : (PySem.strKind P w).is p.1 e.key = true := by
      rw [h1]
      exact strKind_is P w p.1 t
    exact ⟨(p.1, e.val) :: ps, .cons key rfl a, by rw [List.map_cons, List.map_cons, b]⟩
theorem KTab.dictAt {K : PySem.W.Frag} {w : World} (P : Program) (T : KTab K w d es n kvs) {h : Heap} (I : K.In h) : ∃ ps : List (Str × Value), h.DictAt (PySem.strKind P w) d ps n ∧ ps.map (·.1) = kvs.map (·.1) ∧ es.size = ps.length := by
  obtain ⟨ps, a, b⟩ := pairs_rows P w T.rows
  refine ⟨ps, ⟨_, es, I _ _ T.dict.at_, ⟨rfl, rfl, rfl⟩, rfl, fun e he => ?_, a, by rw [b]; exact T.nd⟩, b, ?_⟩
  · obtain ⟨x, t, e1, e2⟩ := T.dict.lit.all e (Array.mem_toList_iff.mpr he)
    refine ⟨x, ?_, e2⟩
    rw [e1]
    exact strKind_is P w x t
  · rw [← a.length, Array.length_toList]
theorem turn_tab {P : Program} {w : World} {K : PySem.W.Frag} {tg : Expr} (T : KTab K w d es n kvs) (it : Addr) :
    Turn P w K tg (Itn (kvs.map (·.1))) [it] it (fun i h => h.IsKeyIter it d i (kvs.map (·.1)).length n) where
  mem := List.mem_singleton.mpr rfl
  obj := by
    intro i h st b hb
    obtain rfl := List.mem_singleton.mp hb
    obtain ⟨o, e, _, dd⟩ := st
    refine ⟨o, e, fun v z => ?_⟩
    rw [dd] at z
    cases z
  keep := fun i h h' st k => st.at fun o e => k it (List.mem_singleton.mpr rfl) o e
  item := by
    intro X hP hw hK hc i pins s σ H E I hf st hg
    subst hP hw hK
    obtain ⟨f0, f1, f2, f3, f4, f5⟩ := hf it (List.mem_singleton.mpr rfl)
    obtain ⟨ps, da, pe, _⟩ := T.dictAt X.prog I.kIn
    have hl : (kvs.map (·.1)).length = ps.length := by rw [← pe, List.length_map]
    have hi : i < ps.length := hl ▸ hg
    have hk : (kvs.map (·.1))[i]? = some ps[i].1 := by rw [← pe, List.getElem?_map, List.getElem?_eq_getElem hi]; rfl
    rw [hl] at st
    refine wpAny_pyNext_dict_item st da (k := ps[i].1) (v := ps[i].2) (List.getElem?_eq_getElem hi) fun key h' hkey st' sb => ?_
    have I1 : Inv X pins σ H { s with heap := h' } := I.turned (t' := s.toks) (fun b ob hb e => (sb.2 b hb).trans e) f0 f1 f3 f4 f5
    obtain ⟨oi, e, c, dd⟩ := id st'
    have rel : RelV (.str ps[i].1) key := by
      rcases keyIs_shape (k := .inr ps[i].1) (v := key) hkey with ⟨_, _, z, _⟩ | ⟨x, t, z, rfl⟩
      · cases z
      · obtain rfl := Sum.inr.inj z
        exact ⟨t, rfl⟩
    refine ⟨key, rfl, go_of (s := { s with heap := h' }) e c dd (by decide) ⟨_, H, I1, rel, ⟨rfl, _, hk, rfl⟩, ?_, fun b hb => (hf b hb).1⟩⟩
    rw [hl]
    exact st'
  done := by
    intro X hP hw hK hc i pins s σ H E I hf st hg
    subst hP hw hK
    obtain ⟨f0, f1, f2, f3, f4, f5⟩ := hf it (List.mem_singleton.mpr rfl)
    obtain ⟨ps, da, pe, hs⟩ := T.dictAt X.prog I.kIn
    have hl : (kvs.map (·.1)).length = ps.length := by rw [← pe, List.length_map]
    exact next_key_end (I.ok.hd hc) st (I.kIn _ _ T.dict.at_) rfl (hs.trans hl.symm) hg fun h' eb => ⟨rfl, I.turned (t' := s.toks) (fun b ob hb e => eb b ob hb e) f0 f1 f3 f4 f5⟩
  self := fun A i s Q E st h => wpAny_pyIter_keyiter st h
/-- for k in d -/
def iTab (d : Addr) (ks : List Str) (td : TE) : TI := fun σ H R => td σ H fun x H1 => x = .ref d ∧ R (Itn ks) H1
theorem pi_tab {tg e : Expr} {td : TE} (T : KTab X.K X.w d es n kvs) (he : PE X e td) : PI X tg e (iTab d (kvs.map (·.1)) td) := by
  refine ⟨fun pins s σ H R I h => ?_⟩
  refine thn (he.run pins s σ H _ I h) fun u s1 ⟨x, H1, I1, rx, ex, q⟩ => ?_
  subst ex
  obtain rfl : u = Value.ref d := rx
  obtain ⟨ps, da, pe, hs⟩ := T.dictAt X.prog I1.kIn
  have hl : (kvs.map (·.1)).length = ps.length := by rw [← pe, List.length_map]
  refine iter_keys T.dict.low (I1.kIn _ _ T.dict.at_) ⟨rfl, rfl, rfl⟩ rfl (pi_one (tk := s1.toks) I1 _ (turn_tab T _) ⟨_, Heap.get?_push_size _ rfl, rfl, ?_⟩ q)
  rw [hs, hl]
  rfl
end
end U

set_option Elab.async false
set_option linter.all false
set_option maxRecDepth 100000
set_option maxHeartbeats 4000000
namespace K
open PySem PySem.Spec PyProof.Rows L2 U
def topS (i : Nat) : Stmt := PySem.Challenge.pw_unwritparts_k10_walks_that_need.main.body.getD i (.Pass ⟨0, 0, 0, 0⟩)
abbrev s_code_of : Stmt := topS 11
abbrev nm_code_of : List Str := ["tree"]
theorem sc_code_of : FnScope nm_code_of ["tree"] (defScope s_code_of) := ⟨rfl, rfl, rfl, by decide +kernel, rfl, by decide +kernel, by decide +kernel⟩
abbrev s_last_code : Stmt := topS 12
abbrev nm_last_code : List Str := []
theorem sc_last_code : FnScope nm_last_code [] (defScope s_last_code) := ⟨rfl, rfl, rfl, by decide +kernel, rfl, by decide +kernel, by decide +kernel⟩
abbrev s_coded : Stmt := topS 13
abbrev nm_coded : List Str := ["tree", "begun", "then", "kind", "within", "behind"]
theorem sc_coded : FnScope nm_coded ["tree", "begun", "then"] (defScope s_coded) := ⟨rfl, rfl, rfl, by decide +kernel, rfl, by decide +kernel, by decide +kernel⟩
abbrev s_NoTerm___init__ : Stmt := inClass (topS 15) 0
abbrev nm_NoTerm___init__ : List Str := ["self", "spot"]
theorem sc_NoTerm___init__ : FnScope nm_NoTerm___init__ ["self", "spot"] (defScope s_NoTerm___init__) := ⟨rfl, rfl, rfl, by decide +kernel, rfl, by decide +kernel, by decide +kernel⟩
abbrev s_TooMuch___init__ : Stmt := inClass (topS 16) 0
abbrev nm_TooMuch___init__ : List Str := ["self", "what"]
theorem sc_TooMuch___init__ : FnScope nm_TooMuch___init__ ["self", "what"] (defScope s_TooMuch___init__) := ⟨rfl, rfl, rfl, by decide +kernel, rfl, by decide +kernel, by decide +kernel⟩
abbrev s_Tree___init__ : Stmt := inClass (topS 30) 0
abbrev nm_Tree___init__ : List Str := ["self", "text", "kind", "small", "within"]
theorem sc_Tree___init__ : FnScope nm_Tree___init__ ["self", "text", "kind", "small", "within"] (defScope s_Tree___init__) := ⟨rfl, rfl, rfl, by decide +kernel, rfl, by decide +kernel, by decide +kernel⟩
abbrev s_free_in : Stmt := topS 31
abbrev nm_free_in : List Str := ["tree", "found", "inner", "small"]
theorem sc_free_in : FnScope nm_free_in ["tree"] (defScope s_free_in) := ⟨rfl, rfl, rfl, by decide +kernel, rfl, by decide +kernel, by decide +kernel⟩
abbrev s_all_trees : Stmt := topS 32
abbrev nm_all_trees : List Str := ["tree", "found", "at", "within"]
theorem sc_all_trees : FnScope nm_all_trees ["tree"] (defScope s_all_trees) := ⟨rfl, rfl, rfl, by decide +kernel, rfl, by decide +kernel, by decide +kernel⟩
abbrev s_run_end : Stmt := topS 33
abbrev nm_run_end : List Str := ["text", "at", "signs", "most", "end"]
theorem sc_run_end : FnScope nm_run_end ["text", "at", "signs", "most"] (defScope s_run_end) := ⟨rfl, rfl, rfl, by decide +kernel, rfl, by decide +kernel, by decide +kernel⟩
abbrev s_behind : Stmt := topS 34
abbrev nm_behind : List Str := ["text", "at", "sign"]
theorem sc_behind : FnScope nm_behind ["text", "at", "sign"] (defScope s_behind) := ⟨rfl, rfl, rfl, by decide +kernel, rfl, by decide +kernel, by decide +kernel⟩
abbrev s_number_end : Stmt := topS 36
abbrev nm_number_end : List Str := ["text", "at", "first", "second"]
theorem sc_number_end : FnScope nm_number_end ["text", "at"] (defScope s_number_end) := ⟨rfl, rfl, rfl, by decide +kernel, rfl, by decide +kernel, by decide +kernel⟩
abbrev s_word_end : Stmt := topS 37
abbrev nm_word_end : List Str := ["text", "at", "end", "longer", "word"]
theorem sc_word_end : FnScope nm_word_end ["text", "at"] (defScope s_word_end) := ⟨rfl, rfl, rfl, by decide +kernel, rfl, by decide +kernel, by decide +kernel⟩
abbrev s_small_end : Stmt := topS 38
abbrev nm_small_end : List Str := ["text", "at", "end"]
theorem sc_small_end : FnScope nm_small_end ["text", "at"] (defScope s_small_end) := ⟨rfl, rfl, rfl, by decide +kernel, rfl, by decide +kernel, by decide +kernel⟩
abbrev s_bracket_at : Stmt := topS 39
abbrev nm_bracket_at : List Str := ["text", "at", "end", "word", "start"]
theorem sc_bracket_at : FnScope nm_bracket_at ["text", "at"] (defScope s_bracket_at) := ⟨rfl, rfl, rfl, by decide +kernel, rfl, by decide +kernel, by decide +kernel⟩
abbrev s_piece_at : Stmt := topS 40
abbrev nm_piece_at : List Str := ["text", "at", "sign"]
theorem sc_piece_at : FnScope nm_piece_at ["text", "at"] (defScope s_piece_at) := ⟨rfl, rfl, rfl, by decide +kernel, rfl, by decide +kernel, by decide +kernel⟩
abbrev s_pieces_of : Stmt := topS 41
abbrev nm_pieces_of : List Str := ["text", "pieces", "lacking", "at", "piece"]
theorem sc_pieces_of : FnScope nm_pieces_of ["text"] (defScope s_pieces_of) := ⟨rfl, rfl, rfl, by decide +kernel, rfl, by decide +kernel, by decide +kernel⟩
abbrev s_check_size : Stmt := topS 42
abbrev nm_check_size : List Str := ["pieces", "opened", "terms", "deepest", "piece"]
theorem sc_check_size : FnScope nm_check_size ["pieces"] (defScope s_check_size) := ⟨rfl, rfl, rfl, by decide +kernel, rfl, by decide +kernel, by decide +kernel⟩
abbrev s_built : Stmt := topS 43
abbrev nm_built : List Str := ["text", "pieces", "opened", "rows", "piece", "kind", "begin", "end", "small", "within", "_"]
theorem sc_built : FnScope nm_built ["text", "pieces"] (defScope s_built) := ⟨rfl, rfl, rfl, by decide +kernel, rfl, by decide +kernel, by decide +kernel⟩
abbrev s_tree_of : Stmt := topS 44
abbrev nm_tree_of : List Str := ["text", "pieces"]
theorem sc_tree_of : FnScope nm_tree_of ["text"] (defScope s_tree_of) := ⟨rfl, rfl, rfl, by decide +kernel, rfl, by decide +kernel, by decide +kernel⟩
abbrev s_Walking___init__ : Stmt := inClass (topS 48) 0
abbrev nm_Walking___init__ : List Str := ["self", "knot", "sense", "senses", "tree", "names"]
theorem sc_Walking___init__ : FnScope nm_Walking___init__ ["self", "knot", "sense", "senses"] (defScope s_Walking___init__) := ⟨rfl, rfl, rfl, by decide +kernel, rfl, by decide +kernel, by decide +kernel⟩
abbrev s_Walking_make : Stmt := inClass (topS 48) 1
abbrev nm_Walking_make : List Str := ["self", "tree", "names", "knot"]
theorem sc_Walking_make : FnScope nm_Walking_make ["self", "tree", "names"] (defScope s_Walking_make) := ⟨rfl, rfl, rfl, by decide +kernel, rfl, by decide +kernel, by decide +kernel⟩
abbrev s_Walking_take : Stmt := inClass (topS 48) 2
abbrev nm_Walking_take : List Str := ["self", "got"]
theorem sc_Walking_take : FnScope nm_Walking_take ["self", "got"] (defScope s_Walking_take) := ⟨rfl, rfl, rfl, by decide +kernel, rfl, by decide +kernel, by decide +kernel⟩
abbrev s_Run___init__ : Stmt := inClass (topS 49) 0
abbrev nm_Run___init__ : List Str := ["self", "most", "known", "bodies"]
theorem sc_Run___init__ : FnScope nm_Run___init__ ["self", "most", "known", "bodies"] (defScope s_Run___init__) := ⟨rfl, rfl, rfl, by decide +kernel, rfl, by decide +kernel, by decide +kernel⟩
abbrev s_Run_follow : Stmt := inClass (topS 49) 1
abbrev nm_Run_follow : List Str := ["self", "walk"]
theorem sc_Run_follow : FnScope nm_Run_follow ["self", "walk"] (defScope s_Run_follow) := ⟨rfl, rfl, rfl, by decide +kernel, rfl, by decide +kernel, by decide +kernel⟩
abbrev s_Run_go : Stmt := inClass (topS 49) 2
abbrev nm_Run_go : List Str := ["self", "walk"]
theorem sc_Run_go : FnScope nm_Run_go ["self", "walk"] (defScope s_Run_go) := ⟨rfl, rfl, rfl, by decide +kernel, rfl, by decide +kernel, by decide +kernel⟩
abbrev s_Run__do : Stmt := inClass (topS 49) 3
abbrev nm_Run__do : List Str := ["self", "walk", "code", "names", "waiting", "head", "steps", "known", "most", "ahead", "deed", "much", "what", "knot"]
theorem sc_Run__do : FnScope nm_Run__do ["self", "walk"] (defScope s_Run__do) := ⟨rfl, rfl, rfl, by decide +kernel, rfl, by decide +kernel, by decide +kernel⟩
abbrev s_Run__form : Stmt := inClass (topS 49) 4
abbrev nm_Run__form : List Str := ["self", "walk", "tree", "code", "names", "waiting", "within", "left", "text", "inner"]
theorem sc_Run__form : FnScope nm_Run__form ["self", "walk", "tree", "code", "names", "waiting"] (defScope s_Run__form) := ⟨rfl, rfl, rfl, by decide +kernel, rfl, by decide +kernel, by decide +kernel⟩
abbrev s_Run__call : Stmt := inClass (topS 49) 5
abbrev nm_Run__call : List Str := ["self", "walk", "tree", "head", "code", "names", "waiting", "_", "small", "text", "stand", "inner", "body", "name", "knot"]
theorem sc_Run__call : FnScope nm_Run__call ["self", "walk", "tree", "head", "code", "names", "waiting"] (defScope s_Run__call) := ⟨rfl, rfl, rfl, by decide +kernel, rfl, by decide +kernel, by decide +kernel⟩
abbrev s_behind_runs : Stmt := topS 50
abbrev nm_behind_runs : List Str := ["code", "names", "waiting"]
theorem sc_behind_runs : FnScope nm_behind_runs ["code", "names", "waiting"] (defScope s_behind_runs) := ⟨rfl, rfl, rfl, by decide +kernel, rfl, by decide +kernel, by decide +kernel⟩
abbrev s_unfit : Stmt := topS 52
abbrev nm_unfit : List Str := ["head", "must", "knot"]
theorem sc_unfit : FnScope nm_unfit ["head", "must", "knot"] (defScope s_unfit) := ⟨rfl, rfl, rfl, by decide +kernel, rfl, by decide +kernel, by decide +kernel⟩
abbrev s_names_for : Stmt := topS 53
abbrev nm_names_for : List Str := ["tree", "names", "small"]
theorem sc_names_for : FnScope nm_names_for ["tree", "names"] (defScope s_names_for) := ⟨rfl, rfl, rfl, by decide +kernel, rfl, by decide +kernel, by decide +kernel⟩
abbrev s_reckoned : Stmt := topS 54
abbrev nm_reckoned : List Str := ["kind", "left", "right", "knot", "number"]
theorem sc_reckoned : FnScope nm_reckoned ["kind", "left", "right", "knot"] (defScope s_reckoned) := ⟨rfl, rfl, rfl, by decide +kernel, rfl, by decide +kernel, by decide +kernel⟩
abbrev s_Walk___init__ : Stmt := inClass (topS 57) 0
abbrev nm_Walk___init__ : List Str := ["self", "needs", "steps", "made", "end"]
theorem sc_Walk___init__ : FnScope nm_Walk___init__ ["self", "needs", "steps", "made", "end"] (defScope s_Walk___init__) := ⟨rfl, rfl, rfl, by decide +kernel, rfl, by decide +kernel, by decide +kernel⟩
abbrev s_Told___init__ : Stmt := inClass (topS 58) 0
abbrev nm_Told___init__ : List Str := ["self", "knot", "senses", "gots", "bodies"]
theorem sc_Told___init__ : FnScope nm_Told___init__ ["self", "knot", "senses", "gots", "bodies"] (defScope s_Told___init__) := ⟨rfl, rfl, rfl, by decide +kernel, rfl, by decide +kernel, by decide +kernel⟩
abbrev s_Told_follow : Stmt := inClass (topS 58) 1
abbrev nm_Told_follow : List Str := ["self", "walk"]
theorem sc_Told_follow : FnScope nm_Told_follow ["self", "walk"] (defScope s_Told_follow) := ⟨rfl, rfl, rfl, by decide +kernel, rfl, by decide +kernel, by decide +kernel⟩
abbrev s_walked : Stmt := topS 59
abbrev nm_walked : List Str := ["knot", "term", "names", "gots", "senses", "told", "made", "number", "name", "tree", "stand"]
theorem sc_walked : FnScope nm_walked ["knot", "term", "names", "gots"] (defScope s_walked) := ⟨rfl, rfl, rfl, by decide +kernel, rfl, by decide +kernel, by decide +kernel⟩
abbrev s_Term___init__ : Stmt := inClass (topS 61) 0
abbrev nm_Term___init__ : List Str := ["self", "text"]
theorem sc_Term___init__ : FnScope nm_Term___init__ ["self", "text"] (defScope s_Term___init__) := ⟨rfl, rfl, rfl, by decide +kernel, rfl, by decide +kernel, by decide +kernel⟩
abbrev s_Term_form : Stmt := inClass (topS 61) 1
abbrev nm_Term_form : List Str := ["self"]
theorem sc_Term_form : FnScope nm_Term_form ["self"] (defScope s_Term_form) := ⟨rfl, rfl, rfl, by decide +kernel, rfl, by decide +kernel, by decide +kernel⟩
abbrev s_Term_inner : Stmt := inClass (topS 61) 2
abbrev nm_Term_inner : List Str := ["self", "tree"]
theorem sc_Term_inner : FnScope nm_Term_inner ["self"] (defScope s_Term_inner) := ⟨rfl, rfl, rfl, by decide +kernel, rfl, by decide +kernel, by decide +kernel⟩
abbrev s_Term_tree : Stmt := inClass (topS 61) 6
abbrev nm_Term_tree : List Str := ["self"]
theorem sc_Term_tree : FnScope nm_Term_tree ["self"] (defScope s_Term_tree) := ⟨rfl, rfl, rfl, by decide +kernel, rfl, by decide +kernel, by decide +kernel⟩
abbrev s_Term___eq__ : Stmt := inClass (topS 61) 7
abbrev nm_Term___eq__ : List Str := ["self", "other"]
theorem sc_Term___eq__ : FnScope nm_Term___eq__ ["self", "other"] (defScope s_Term___eq__) := ⟨rfl, rfl, rfl, by decide +kernel, rfl, by decide +kernel, by decide +kernel⟩
abbrev s_Term___len__ : Stmt := inClass (topS 61) 8
abbrev nm_Term___len__ : List Str := ["self"]
theorem sc_Term___len__ : FnScope nm_Term___len__ ["self"] (defScope s_Term___len__) := ⟨rfl, rfl, rfl, by decide +kernel, rfl, by decide +kernel, by decide +kernel⟩
abbrev s_Term___str__ : Stmt := inClass (topS 61) 9
abbrev nm_Term___str__ : List Str := ["self"]
theorem sc_Term___str__ : FnScope nm_Term___str__ ["self"] (defScope s_Term___str__) := ⟨rfl, rfl, rfl, by decide +kernel, rfl, by decide +kernel, by decide +kernel⟩
abbrev s_Term___repr__ : Stmt := inClass (topS 61) 10
abbrev nm_Term___repr__ : List Str := ["self"]
theorem sc_Term___repr__ : FnScope nm_Term___repr__ ["self"] (defScope s_Term___repr__) := ⟨rfl, rfl, rfl, by decide +kernel, rfl, by decide +kernel, by decide +kernel⟩
abbrev s__law_purse : Stmt := topS 63
abbrev nm__law_purse : List Str := ["_law_script", "_law_at", "_law_cell", "_law_mix", "_law_k"]
theorem sc__law_purse : FnScope nm__law_purse ["_law_script", "_law_at"] (defScope s__law_purse) := ⟨rfl, rfl, rfl, by decide +kernel, rfl, by decide +kernel, by decide +kernel⟩
abbrev s__law_take : Stmt := topS 64
abbrev nm__law_take : List Str := ["_law_purse_here", "_law_many", "_law_digit"]
theorem sc__law_take : FnScope nm__law_take ["_law_purse_here", "_law_many"] (defScope s__law_take) := ⟨rfl, rfl, rfl, by decide +kernel, rfl, by decide +kernel, by decide +kernel⟩
abbrev s__law_shown : Stmt := topS 65
abbrev nm__law_shown : List Str := ["_law_tree", "_law_one"]
theorem sc__law_shown : FnScope nm__law_shown ["_law_tree"] (defScope s__law_shown) := ⟨rfl, rfl, rfl, by decide +kernel, rfl, by decide +kernel, by decide +kernel⟩
abbrev s__law_put_together : Stmt := topS 66
abbrev nm__law_put_together : List Str := ["_law_purse_here", "_law_leaves", "_law_some", "_law_at"]
theorem sc__law_put_together : FnScope nm__law_put_together ["_law_purse_here", "_law_leaves"] (defScope s__law_put_together) := ⟨rfl, rfl, rfl, by decide +kernel, rfl, by decide +kernel, by decide +kernel⟩
abbrev s__law_walked_over : Stmt := topS 67
abbrev nm__law_walked_over : List Str := ["_law_tree", "_law_found", "_law_one"]
theorem sc__law_walked_over : FnScope nm__law_walked_over ["_law_tree"] (defScope s__law_walked_over) := ⟨rfl, rfl, rfl, by decide +kernel, rfl, by decide +kernel, by decide +kernel⟩
abbrev s__law_leaf : Stmt := topS 68
abbrev nm__law_leaf : List Str := ["_law_purse_here", "_law_way"]
theorem sc__law_leaf : FnScope nm__law_leaf ["_law_purse_here"] (defScope s__law_leaf) := ⟨rfl, rfl, rfl, by decide +kernel, rfl, by decide +kernel, by decide +kernel⟩
abbrev s__law_right : Stmt := topS 69
abbrev nm__law_right : List Str := ["_law_purse_here", "_law_leaves", "_law_tree", "_law_names", "_law_name", "_law_needs", "_law_worths", "_law_knot", "_law_many", "_law_gots", "_law_told", "_law_terms", "_law_due", "_law_places", "_law_k", "_law_leaf_here", "_law_at", "_law_term"]
theorem sc__law_right : FnScope nm__law_right ["_law_purse_here"] (defScope s__law_right) := ⟨rfl, rfl, rfl, by decide +kernel, rfl, by decide +kernel, by decide +kernel⟩
abbrev s_law : Stmt := topS 70
abbrev nm_law : List Str := ["_law_script", "_law_k", "_law_purse_here", "_law_turn"]
theorem sc_law : FnScope nm_law ["_law_script"] (defScope s_law) := ⟨rfl, rfl, rfl, by decide +kernel, rfl, by decide +kernel, by decide +kernel⟩
structure TxtB (K : PySem.W.Frag) (mg : Str → Option Value) : Prop where
  z_abs : mg "abs" = none
  z_any : mg "any" = none
  z_dict : mg "dict" = none
  z_enumerate : mg "enumerate" = none
  z_int : mg "int" = none
  z_isinstance : mg "isinstance" = none
  z_len : mg "len" = none
  z_list : mg "list" = none
  z_max : mg "max" = none
  z_min : mg "min" = none
  z_range : mg "range" = none
  z_set : mg "set" = none
  z_sorted : mg "sorted" = none
  z_str : mg "str" = none
  z_sum : mg "sum" = none
  z_tuple : mg "tuple" = none
  g_CALL : ∃ t, mg "CALL" = some (.int 7 t)
  g_CLOSE : ∃ t, mg "CLOSE" = some (.str (Str.ofString ")") t)
  g_END : ∃ t, mg "END" = some (.int 3 t)
  g_FIGURES : ∃ t, mg "FIGURES" = some (.str (Str.ofString "0123456789") t)
  g_FIRST_FIGURES : ∃ t, mg "FIRST_FIGURES" = some (.str (Str.ofString "123456789") t)
  g_FORM : ∃ t, mg "FORM" = some (.int 2 t)
  g_GREAT : ∃ t, mg "GREAT" = some (.str (Str.ofString "ABCDEFGHIJKLMNOPQRSTUVWXYZ") t)
  g_GREATEST : ∃ t, mg "GREATEST" = some (.int 1000000000000 t)
  g_HALF : ∃ t, mg "HALF" = some (.int 8 t)
  g_HEAD : ∃ t, mg "HEAD" = some (.int 0 t)
  g_IF : ∃ t, mg "IF" = some (.int 4 t)
  g_LEFT : ∃ t, mg "LEFT" = some (.int 5 t)
  g_MOST_FIGURES : ∃ t, mg "MOST_FIGURES" = some (.int 12 t)
  g_MOST_GREAT : ∃ t, mg "MOST_GREAT" = some (.int 6 t)
  g_MOST_OPEN : ∃ t, mg "MOST_OPEN" = some (.int 30 t)
  g_MOST_SMALL : ∃ t, mg "MOST_SMALL" = some (.int 4 t)
  g_MOST_TERMS : ∃ t, mg "MOST_TERMS" = some (.int 200 t)
  g_NEED : ∃ t, mg "NEED" = some (.int 1 t)
  g_NO_MOST : ∃ t, mg "NO_MOST" = some (.int 1000000000000000 t)
  g_RIGHT : ∃ t, mg "RIGHT" = some (.int 6 t)
  g_SMALL : ∃ t, mg "SMALL" = some (.str (Str.ofString "abcdefghijklmnopqrstuvwxyz") t)
/-- the words' table -/
def wkv : List (Str × Int) := Wd.all.map fun w => (tx w.cs, (w.ar : Int))
structure Txt (K : PySem.W.Frag) (mg : Str → Option Value) (w : World) (dW dB : Addr) (esW : Array DictEntry) (nW : Nat) : Prop extends TxtB K mg where
  gW : mg "WORDS" = some (.ref dW)
  W : KTab K w dW esW nW wkv
  gB : mg "BINDERS" = some (.ref dB)
  B : ∀ H, SqT K H dB [.str (Str.ofString "let"), .str (Str.ofString "def")]
/-! ### cuts, signs -/
theorem cut_tx (t : List Nat) (a b : Nat) : cutS (tx t) (some (a : Int)) (some (b : Int)) = tx ((t.drop a).take (b - a)) := by
  unfold cutS
  rw [HT.sIx_nat, HT.sIx_nat, tx_len, tx_cps]
  refine congrArg (fun l : List Nat => tx l) ?_
  by_cases h1 : a ≤ t.length
  · rw [Nat.min_eq_left h1]
    by_cases h2 : b ≤ t.length
    · rw [Nat.min_eq_left h2]
    · rw [Nat.min_eq_right (by omega), List.take_of_length_le (by rw [List.length_drop]; omega), List.take_of_length_le (by rw [List.length_drop]; omega)]
  · rw [Nat.min_eq_right (show t.length ≤ a by omega), show t.drop t.length = [] from List.drop_eq_nil_of_le (Nat.le_refl _), show t.drop a = [] from List.drop_eq_nil_of_le (by omega)]
    simp
theorem cut_at {t l r : List Nat} {a : Nat} {x y : Int} (h : t.drop a = l ++ r) (hx : x = (a : Int)) (hy : y = ((a + l.length : Nat) : Int)) : cutS (tx t) (some x) (some y) = tx l := by
  rw [hx, hy, cut_tx, h, Nat.add_sub_cancel_left, List.take_left]
theorem at_tx {t : List Nat} {a c : Nat} {x : Int} (h : t[a]? = some c) (hx : x = (a : Int)) : atI (tx t).cps.toList x = some c := by
  rw [hx]
  exact atI_tx h
theorem str_eq (a b : List Nat) : decide (V.str (tx a) = V.str (tx b)) = decide (a = b) := decide_eq_decide.mpr ⟨fun h => tx_inj (V.str.inj h), fun h => by rw [h]⟩
def spRunEnd : Sp := fun vs H Q _ => ∃ (t s : List Nat) (a m : Nat), vs = [.str (tx t), .int a, .str (tx s), .int m] ∧ t.length ≤ sizeLine ∧ Q (.int ((a + runLen t s a m : Nat) : Int)) H
/-- the sign that must stand there stands there -/
def spBehind : Sp := fun vs H Q _ => ∃ (t : List Nat) (a c : Nat), vs = [.str (tx t), .int a, .str (tx [c])] ∧ t.length ≤ sizeLine ∧ t[a]? = some c ∧ Q (.int ((a + 1 : Nat) : Int)) H
def spNumEnd : Sp := fun vs H Q _ => ∃ (t l r : List Nat) (a : Nat), vs = [.str (tx t), .int a] ∧ t.length ≤ sizeLine ∧ t.drop a = l ++ r ∧ NumOk l ∧ Sep r ∧ Q (.int ((a + l.length : Nat) : Int)) H
def spSmallEnd : Sp := fun vs H Q _ => ∃ (t l r : List Nat) (a : Nat), vs = [.str (tx t), .int a] ∧ t.length ≤ sizeLine ∧ t.drop a = l ++ r ∧ SmallOk l ∧ Sep r ∧ Q (.int ((a + l.length : Nat) : Int)) H
theorem figs_tx : Str.ofString "0123456789" = tx figs := by decide +kernel
theorem figs1_tx : Str.ofString "123456789" = tx figs1 := by decide +kernel
theorem smalls_tx : Str.ofString "abcdefghijklmnopqrstuvwxyz" = tx smalls := by decide +kernel
theorem greats_tx : Str.ofString "ABCDEFGHIJKLMNOPQRSTUVWXYZ" = tx greats := by decide +kernel
theorem one_tx (c : Nat) : (⟨#[c]⟩ : Str) = tx [c] := rfl
section
variable {P : Program} {w : World} {K : PySem.W.Frag} {mg : Str → Option Value} {base : Heap} {dW dB : Addr} {esW : Array DictEntry} {nW : Nat} (T : Txt K mg w dW dB esW nW)
include T
theorem ok_run_end {f : Addr} {fd : FuncData} (F : Fun K "run_end" "run_end" s_run_end f fd) : FnOk P w K mg base CX0 1 f fd ["text", "at", "signs", "most"] spRunEnd := by
  refine F.ok sc_run_end (fun vs H Q E h => ?_) (fun cdv A outer s H vs Q E hr h => ?_)
  · obtain ⟨t, s, a, m, rfl, _⟩ := h
    rfl
  · obtain ⟨t, z, a, m, rfl, hl, q⟩ := h
    refine ⟨_, (pss_cons (ps_set (i := 4) sc_run_end.nd rfl (.inl rfl) (pv 1))
      (pss_cons (ps_while PassesOwn.never (PW.pt (pw_and (pt_cmpR op_lt (pv 4) (pe_callB call_len_str (by rfl) T.z_len (by decide +kernel) (pa_cons (pv 0) pa_nil)) (nomark _)) (pw_and (pt_cmpR op_lt (pe_op op_sub (pv 4) (pv 1)) (pv 3) (nomark _)) (pw_and1 (pt_cmpR op_in_sign (pe_ix ix_str (pv 0) (pv 4) (fun _ _ => rfl)) (pv 2) (by rfl)))))) 
        (pss_one (ps_aug (i := 4) sc_run_end.nd rfl (.inl rfl) pe_int ip_add)))
      (pss_one (ps_ret (pv 4))))), ?_⟩
    refine ⟨_, rfl, fun m' σ H' => H' = H ∧ ∃ j, σ = [some (.str (tx t)), some (.int a), some (.str (tx z)), some (.int m), some (.int ((a + j : Nat) : Int))] ∧ j + m' = runLen t z a m, ⟨runLen t z a m, rfl, 0, rfl, Nat.zero_add _⟩, ?_⟩
    rintro m' σ H' ⟨rfl, j, rfl, hj⟩
    refine ⟨_, rfl, _, rfl, _, rfl, by rw [tx_len]; exact hl, _, _, rfl, rfl, _, rfl, ?_⟩
    rw [tx_len]
    have stop : ¬ j < runLen t z a m → Q (.int ((a + j : Nat) : Int)) H' := fun h => by
      have e : j = runLen t z a m := by omega
      rw [e]
      exact q
    refine ite2 (fun h1 => ?_) (fun h1 => ?_)
    · have h1 := of_decide_eq_true h1
      refine ⟨_, rfl, _, rfl, _, _, rfl, rfl, _, rfl, _, _, rfl, rfl, _, rfl, ?_⟩
      refine ite2 (fun h2 => ?_) (fun h2 => ?_)
      · have h2 := of_decide_eq_true h2
        have h3 : a + j < t.length := by omega
        refine ⟨_, rfl, _, rfl, _, _, t[a + j], rfl, rfl, by rw [tx_len]; exact hl, atI_tx (List.getElem?_eq_getElem h3), _, rfl, t[a + j], tx z, rfl, rfl, _, rfl, ?_⟩
        rw [tx_cps]
        refine ite2 (fun h4 => ?_) (fun h4 => ?_)
        · have h4 := of_decide_eq_true h4
          have h5 : j < runLen t z a m := by
            refine Nat.lt_of_le_of_ne (by omega) fun e => ?_
            obtain ⟨c, e1, e2⟩ := run_ends (t := t) (s := z) (a := a) (m := m) (by omega) (by omega)
            rw [← e, List.getElem?_eq_getElem h3] at e1
            exact e2 (Option.some.inj e1 ▸ h4)
          refine ⟨fun σ H'' => H'' = H' ∧ ∃ j', σ = [some (.str (tx t)), some (.int a), some (.str (tx z)), some (.int m), some (.int ((a + j' : Nat) : Int))] ∧ j' = j + 1, ?_, ?_⟩
          · rintro σ H'' ⟨rfl, j', rfl, rfl⟩
            exact ⟨m' - 1, by omega, rfl, j + 1, rfl, by omega⟩
          · exact ⟨_, rfl, _, _, rfl, rfl, rfl, j + 1, rfl, rfl⟩
        · have h4 : t[a + j] ∉ z := fun e => h4 (decide_eq_true e)
          refine ⟨_, rfl, stop fun e => ?_⟩
          obtain ⟨_, _, c, e1, e2⟩ := run_in e
          rw [List.getElem?_eq_getElem h3] at e1
          exact h4 (Option.some.inj e1 ▸ e2)
      · have h2 : ¬ (((a + j : Nat) : Int) - (a : Int) < (m : Int)) := fun e => h2 (decide_eq_true e)
        refine ⟨_, rfl, stop fun e => ?_⟩
        obtain ⟨_, e1, _⟩ := run_in e
        omega
    · have h1 : ¬ (((a + j : Nat) : Int) < (t.length : Int)) := fun e => h1 (decide_eq_true e)
      refine ⟨_, rfl, stop fun e => ?_⟩
      obtain ⟨e1, _, _⟩ := run_in e
      omega
theorem ok_behind {f : Addr} {fd : FuncData} (F : Fun K "behind" "behind" s_behind f fd) : FnOk P w K mg base CX0 1 f fd ["text", "at", "sign"] spBehind := by
  refine F.ok sc_behind (fun vs H Q E h => ?_) (fun cdv A outer s H vs Q E hr h => ?_)
  · obtain ⟨t, a, c, rfl, _⟩ := h
    rfl
  · obtain ⟨t, a, c, rfl, hl, hc, q⟩ := h
    refine ⟨_, (pss_cons (ps_if (pt_cmpR op_ne (pe_slice sl_str (pv 0) (po_some (pv 1)) (po_some (pe_op op_add (pv 1) pe_int))) (pv 2) (nomark _)) 
        (pss_one (ps_never)) pss_nil)
      (pss_one (ps_ret (pe_op op_add (pv 1) pe_int)))), ?_⟩
    have hd : t.drop a = [c] ++ t.drop (a + 1) := by
      have h1 : a < t.length := (List.getElem?_eq_some_iff.mp hc).1
      rw [List.drop_eq_getElem_cons h1, (List.getElem?_eq_some_iff.mp hc).2]
      rfl
    refine ⟨_, rfl, _, rfl, _, rfl, _, rfl, _, _, rfl, rfl, _, rfl, _, rfl, by rw [tx_len]; exact hl, _, rfl, rfl, _, rfl, ?_⟩
    refine iteNS (congrArg V.str (cut_at hd rfl rfl)) ?_
    exact ⟨_, rfl, _, _, rfl, rfl, q⟩
theorem ok_small_end {f fR : Addr} {fd fdR : FuncData} (F : Fun K "small_end" "small_end" s_small_end f fd) (h_run_end : Has P w K mg base "run_end" 1 ["text", "at", "signs", "most"] spRunEnd fR fdR) : FnOk P w K mg base CX0 2 f fd ["text", "at"] spSmallEnd := by
  refine F.ok sc_small_end (fun vs H Q E h => ?_) (fun cdv A outer s H vs Q E hr h => ?_)
  · obtain ⟨t, l, r, a, rfl, _⟩ := h
    rfl
  · obtain ⟨t, l, r, a, rfl, hl, hd, ⟨s1, s2, s3⟩, hs, q⟩ := h
    refine ⟨_, (pss_cons (ps_set (i := 2) sc_small_end.nd rfl (.inl rfl) (pe_callH h_run_end (hr.mono (by first | decide | omega)) (by rfl) (pa_cons (pv 0) (pa_cons (pv 1) (pa_cons (pe_globS (by rfl) T.g_SMALL) (pa_cons (pe_globI (by rfl) T.g_MOST_SMALL) pa_nil))))))
      (pss_cons (ps_if (pt_cmpR op_eq (pv 2) (pv 1) (nomark _)) 
        (pss_one (ps_never)) pss_nil)
      (pss_one (ps_ret (pv 2))))), ?_⟩
    have hrun : runLen t smalls a 4 = l.length := run_is hd s3 s2 (.inr (hs.not (by decide) (by decide)))
    refine ⟨_, rfl, _, rfl, t, smalls, a, 4, by rw [smalls_tx]; rfl, hl, ?_⟩
    rw [hrun]
    refine ⟨_, rfl, _, rfl, rfl, _, rfl, ?_⟩
    refine ite2 (fun h => ?_) (fun h => ⟨_, rfl, q⟩)
    have h := V.int.inj (of_decide_eq_true h)
    omega
theorem ok_number_end {f fR : Addr} {fd fdR : FuncData} (F : Fun K "number_end" "number_end" s_number_end f fd) (h_run_end : Has P w K mg base "run_end" 1 ["text", "at", "signs", "most"] spRunEnd fR fdR) : FnOk P w K mg base CX0 2 f fd ["text", "at"] spNumEnd := by
  refine F.ok sc_number_end (fun vs H Q E h => ?_) (fun cdv A outer s H vs Q E hr h => ?_)
  · obtain ⟨t, l, r, a, rfl, _⟩ := h
    rfl
  · obtain ⟨t, l, r, a, rfl, hl, hd, hn, hs, q⟩ := h
    refine ⟨_, (pss_cons (ps_if (pt_cmpR op_eq (pe_ix ix_str (pv 0) (pv 1) (fun _ _ => rfl)) pe_str (nomark _)) 
        (pss_one (ps_ret (pe_op op_add (pv 1) pe_int))) pss_nil)
      (pss_cons (ps_set (i := 2) sc_number_end.nd rfl (.inl rfl) (pe_ifExp (pt_cmpR op_eq (pe_ix ix_str (pv 0) (pv 1) (fun _ _ => rfl)) pe_str (nomark _)) (pe_op op_add (pv 1) pe_int) (pv 1)))
      (pss_cons (ps_set (i := 3) sc_number_end.nd rfl (.inl rfl) (pe_callH h_run_end (hr.mono (by first | decide | omega)) (by rfl) (pa_cons (pv 0) (pa_cons (pv 2) (pa_cons (pe_globS (by rfl) T.g_FIRST_FIGURES) (pa_cons pe_int pa_nil))))))
      (pss_cons (ps_if (pt_cmpR op_eq (pv 3) (pv 2) (nomark _)) 
        (pss_one (ps_never)) pss_nil)
      (pss_one (ps_ret (pe_callH h_run_end (hr.mono (by first | decide | omega)) (by rfl) (pa_cons (pv 0) (pa_cons (pv 3) (pa_cons (pe_globS (by rfl) T.g_FIGURES) (pa_cons (pe_op op_sub (pe_globI (by rfl) T.g_MOST_FIGURES) pe_int) pa_nil))))))))))), ?_⟩
    have z0 : Str.ofString "0" = tx [48] := by decide +kernel
    have zm : Str.ofString "-" = tx [45] := by decide +kernel
    have hls : (tx t).length ≤ sizeLine := by rw [tx_len]; exact hl
    rcases hn with rfl | ⟨d, ds, hld, h1, h2, h3⟩
    · have at0 := (drop_at hd).1
      refine ⟨_, rfl, _, rfl, _, _, 48, rfl, rfl, hls, atI_tx at0, rfl, _, rfl, ?_⟩
      rw [z0, one_tx, str_eq]
      refine iteT ⟨_, rfl, _, _, rfl, rfl, ?_⟩
      exact q
    · have d1 : 49 ≤ d ∧ d ≤ 57 := by
        unfold figs1 at h1
        obtain ⟨j, hj, rfl⟩ := List.mem_map.mp h1
        have := List.mem_range.mp hj
        omega
      have fin : ∀ b : Nat, t.drop b = d :: ds ++ r → runLen t figs1 b 1 = 1 ∧ runLen t figs (b + 1) 11 = ds.length := by
        intro b hb
        refine ⟨run_is (l := [d]) (r := ds ++ r) (by simpa using hb) (by simpa using h1) (Nat.le_refl 1) (.inl rfl), ?_⟩
        exact run_is (drop_more (l := [d]) (by simpa using hb)) h3 h2 (.inr (hs.not (by decide) (by decide)))
      have tail : ∀ b : Nat, t.drop b = d :: ds ++ r → a + l.length = b + 1 + ds.length → ∀ (x2 : Option V),
          tSeq (tAsg (tCall spRunEnd [] E0 (tCons (tVar 0) (tCons (tVar 2) (tCons (tC (V.str (Str.ofString "123456789"))) (tCons (tC (V.int 1)) tNil))))) (gName 3))
            (tSeq (tIfS (tTest (tOp rEq (tVar 3) (tVar 2))) tNever tNext)
              (tRet (tCall spRunEnd [] E0 (tCons (tVar 0) (tCons (tVar 3) (tCons (tC (V.str (Str.ofString "0123456789"))) (tCons (tOp (rI0 fun i j => V.int (i - j)) (tC (V.int 12)) (tC (V.int 1))) tNil)))))))
            { nx := fun x H' => Q V.non H', rt := Q } [some (.str (tx t)), some (.int a), some (.int b), x2] H := by
        intro b hb he x2
        obtain ⟨r1, r2⟩ := fin b hb
        refine ⟨_, rfl, _, rfl, t, figs1, b, 1, by rw [figs1_tx]; rfl, hl, ?_⟩
        rw [r1]
        refine ⟨_, rfl, _, rfl, rfl, _, rfl, ?_⟩
        refine ite2 (fun h => ?_) (fun h => ?_)
        · have h := V.int.inj (of_decide_eq_true h)
          omega
        · refine ⟨_, rfl, _, rfl, _, _, rfl, rfl, t, figs, b + 1, 11, by rw [figs_tx]; rfl, hl, ?_⟩
          rw [r2, ← he]
          exact q
      rcases hld with rfl | rfl
      · have at0 := (drop_at hd).1
        refine ⟨_, rfl, _, rfl, _, _, d, rfl, rfl, hls, atI_tx at0, rfl, _, rfl, ?_⟩
        rw [z0, one_tx, str_eq, decide_eq_false (by simp; omega)]
        refine iteF ⟨_, rfl, _, rfl, _, _, d, rfl, rfl, hls, atI_tx at0, rfl, _, rfl, ?_⟩
        rw [zm, one_tx, str_eq, decide_eq_false (by simp; omega)]
        refine iteF ⟨_, rfl, ?_⟩
        exact tail a hd (by simp; omega) _
      · have at0 := (drop_at hd).1
        refine ⟨_, rfl, _, rfl, _, _, 45, rfl, rfl, hls, atI_tx at0, rfl, _, rfl, ?_⟩
        rw [z0, one_tx, str_eq, decide_eq_false (by decide)]
        refine iteF ⟨_, rfl, _, rfl, _, _, 45, rfl, rfl, hls, atI_tx at0, rfl, _, rfl, ?_⟩
        rw [zm, one_tx, str_eq, decide_eq_true rfl]
        refine iteT ⟨_, rfl, _, _, rfl, rfl, ?_⟩
        exact tail (a + 1) (drop_more (l := [45]) hd) (by simp; omega) _
end
end K


set_option Elab.async false
set_option linter.all false
set_option maxRecDepth 100000
set_option maxHeartbeats 4000000
namespace K
open PySem PySem.Spec PyProof.Rows L2 U
theorem keys_eq : wkv.map (·.1) = Wd.all.map fun w => tx w.cs := by
  unfold wkv
  rw [List.map_map]
  rfl
theorem in_keys (l : List Nat) : (tx l ∈ wkv.map (·.1)) ↔ isWd l := by
  rw [keys_eq, List.mem_map]
  constructor
  · rintro ⟨w, _, e⟩
    exact ⟨w, (tx_inj e).symm⟩
  · rintro ⟨w, e⟩
    exact ⟨w, w.mem, by rw [e]⟩
theorem wd_short : ∀ w : Wd, ∀ j, j < w.cs.length → ¬ isWd (w.cs.take j) := by
  intro w
  cases w <;> decide
theorem wd_starts : ∀ w : Wd, ∀ j, j < w.cs.length → Txt.startswith (tx w.cs) (tx (w.cs.take (j + 1))) = true := by
  intro w
  cases w <;> decide +kernel
theorem wd_len : ∀ w : Wd, 1 ≤ w.cs.length ∧ w.cs.length ≤ 6 := by
  intro w
  cases w <;> decide
def spWordEnd : Sp := fun vs H Q _ => ∃ (t r : List Nat) (a : Nat) (w : Wd), vs = [.str (tx t), .int a] ∧ t.length ≤ sizeLine ∧ t.drop a = w.cs ++ r ∧ ∀ H', Same H H' → Q (.int ((a + w.cs.length : Nat) : Int)) H'
section
variable {P : Program} {w : World} {K : PySem.W.Frag} {mg : Str → Option Value} {base : Heap} {dW dB : Addr} {esW : Array DictEntry} {nW : Nat} (T : Txt K mg w dW dB esW nW)
include T
theorem ok_word_end {f : Addr} {fd : FuncData} (F : Fun K "word_end" "word_end" s_word_end f fd) : FnOk P w K mg base CX0 1 f fd ["text", "at"] spWordEnd := by
  refine F.ok sc_word_end (fun vs H Q E h => ?_) (fun cdv A outer s H vs Q E hr h => ?_)
  · obtain ⟨t, r, a, w', rfl, _⟩ := h
    rfl
  · obtain ⟨t, r, a, wd, rfl, hl, hd, q⟩ := h
    have hls : (tx t).length ≤ sizeLine := by rw [tx_len]; exact hl
    have wl := wd_len wd
    have tl : a + wd.cs.length ≤ t.length := by
      have h := congrArg List.length hd
      rw [List.length_drop, List.length_append] at h
      omega
    have cut : ∀ j, j ≤ wd.cs.length → t.drop a = wd.cs.take j ++ (wd.cs.drop j ++ r) := fun j _ => by
      rw [hd, ← List.append_assoc, List.take_append_drop]
    have len : ∀ j, j ≤ wd.cs.length → (wd.cs.take j).length = j := fun j hj => by rw [List.length_take]; omega
    refine ⟨_, (pss_cons (ps_set (i := 2) sc_word_end.nd rfl (.inl rfl) (pv 1))
      (pss_cons (ps_while PassesOwn.never (pt_cmpR (op_notIn_tab T.W) (pe_slice sl_str (pv 0) (po_some (pv 1)) (po_some (pv 2))) (pe_globR (by rfl) T.gW) (by rfl)) 
        (pss_cons (ps_set (i := 3) sc_word_end.nd rfl (.inr rfl) (pe_slice sl_str (pv 0) (po_some (pv 1)) (po_some (pe_op op_add (pv 2) pe_int))))
        (pss_cons (ps_if (PW.pt (pw_or (pt_cmpR op_eq (pv 2) (pe_callB call_len_str (by rfl) T.z_len (by decide +kernel) (pa_cons (pv 0) pa_nil)) (nomark _)) (pw_or1 (pt_not (pt_val (pe_callB (cr_any rfl) (by rfl) T.z_any (by decide +kernel) (pa_cons (pe_lc (own := [("word", 4)]) (g := gName 4) (tt := tYes) rfl sc_word_end.nd (pi_tab T.W (pe_globR (by rfl) T.gW)) (blkOk_by (N := nm_word_end) (sc := defScope s_word_end) (by decide +kernel)) (fun _ _ _ _ _ => pg_name (i := 4) sc_word_end.nd rfl (.inl rfl)) (fun _ _ _ _ _ => pts_nil) (fun _ _ _ _ _ => (pe_m1 PySem.F.slot_str_startswith PySem.F.type_str_startswith mt_startswith (pv 4) (pv 3)))) pa_nil))))))) 
          (pss_one (ps_never)) pss_nil)
        (pss_one (ps_aug (i := 2) sc_word_end.nd rfl (.inl rfl) pe_int ip_add)))))
      (pss_one (ps_ret (pv 2))))), ?_⟩
    refine ⟨_, rfl, fun m σ H' => Same H H' ∧ ∃ (j : Nat) (x3 x4 : Option V), σ = [some (.str (tx t)), some (.int a), some (.int ((a + j : Nat) : Int)), x3, x4] ∧ j + m = wd.cs.length, ⟨wd.cs.length, Same.refl H, 0, _, _, rfl, Nat.zero_add _⟩, ?_⟩
    rintro m σ H1 ⟨s1, j, x3, x4, rfl, hj⟩
    refine ⟨_, rfl, _, rfl, _, rfl, _, rfl, _, rfl, _, rfl, hls, ?_⟩
    rw [cut_at (cut j (by omega)) rfl (by rw [len j (by omega)])]
    refine ⟨_, rfl, rfl, _, rfl, ?_⟩
    by_cases hw : isWd (wd.cs.take j)
    · rw [decide_eq_true ((in_keys _).mpr hw)]
      have hjj : ¬ j < wd.cs.length := fun h => wd_short wd j h hw
      have e : j = wd.cs.length := by omega
      refine iteF ⟨_, rfl, ?_⟩
      rw [e]
      exact q H1 s1
    · rw [decide_eq_false (fun h => hw ((in_keys _).mp h))]
      have hlt : j < wd.cs.length := by
        refine Nat.lt_of_le_of_ne (by omega) fun e => hw ?_
        rw [e, List.take_length]
        exact wd_is wd
      refine iteT ⟨fun σ' H' => Same H H' ∧ ∃ (x3 x4 : Option V), σ' = [some (.str (tx t)), some (.int a), some (.int ((a + (j + 1) : Nat) : Int)), x3, x4], ?_, ?_⟩
      · rintro σ' H' ⟨s2, y3, y4, rfl⟩
        exact ⟨m - 1, by omega, s2, j + 1, y3, y4, rfl, by omega⟩
      · refine ⟨_, rfl, _, rfl, _, rfl, _, rfl, _, _, rfl, rfl, _, rfl, _, rfl, hls, ?_⟩
        rw [cut_at (cut (j + 1) (by omega)) rfl (by rw [len (j + 1) (by omega)]; rfl)]
        obtain ⟨lg, hlg⟩ : ∃ lg, lg = wd.cs.take (j + 1) := ⟨_, rfl⟩
        rw [← hlg]
        refine ⟨_, rfl, _, rfl, _, rfl, hls, rfl, _, rfl, ?_⟩
        rw [tx_len]
        rw [decide_eq_false (fun e => by have e := V.int.inj e; omega)]
        refine iteF ⟨rfl, fun D hD => lc_do walk_tab (fun i H' => Same H1 H' ∧ H' D = some (.lst (((wkv.map (·.1)).take i).map fun k => V.bl (Txt.startswith k (tx lg))))) (fun _ => rfl) ⟨same_new hD, upd_same⟩ (fun _ _ _ _ => trivial) ?_ ?_⟩
        · rintro i x H2 H3 hi ⟨s2, d2⟩ ⟨rfl, k, hk, rfl⟩
          refine ⟨_, rfl, ⟨_, rfl⟩, _, rfl, _, _, rfl, rfl, _, d2, ?_, fun b o e => ?_, ?_⟩
          · rw [List.length_map, List.length_take, keys_eq]
            exact small1000 (by rw [List.length_map]; show min i 11 ≤ 1000; omega)
          · rw [upd_ne (ne_of_none e hD)]
            exact s2 _ _ e
          · rw [upd_same, List.take_add_one, hk, List.map_append]
            rfl
        · rintro H2 ⟨s2, d2⟩
          rw [List.take_length] at d2
          refine ⟨D, (wkv.map (·.1)).map fun k => Txt.startswith k (tx lg), rfl, .inl (.inl (by rw [d2, List.map_map]; rfl)), _, rfl, ?_⟩
          have e : (((wkv.map (·.1)).map fun k => Txt.startswith k (tx lg)).any id) = true := by
            rw [List.any_map, List.any_eq_true]
            exact ⟨tx wd.cs, (in_keys _).mpr (wd_is wd), hlg ▸ wd_starts wd j hlt⟩
          rw [e]
          refine iteF ⟨_, rfl, _, _, rfl, rfl, s1.trans s2, some (.str (tx lg)), x4, ?_⟩
          rfl
end
/-- a bracket's piece: where it ends, its word, its small name -/
def smV : Option (List Nat) → V
  | none => .non
  | some b => .str (tx b)
def pcV (p : Pc) : List V := [.str (tx p.kind), .int p.b, .int p.e, smV p.small]
def spBracket : Sp := fun vs H Q _ => ∃ (t r : List Nat) (a : Nat) (w : Wd) (b : List Nat), vs = [.str (tx t), .int a] ∧ t.length ≤ sizeLine ∧ t.drop a = hd w b ++ 32 :: r ∧ BndOk w b ∧ ∀ p H', Same H H' → H' p = some (.tup (pcV (op a w b))) → Q (.ref p) H'
theorem bind_in (w : Wd) : inV (V.str (tx w.cs)) [.str (Str.ofString "let"), .str (Str.ofString "def")] = w.bd := by
  cases w <;> decide +kernel
section
variable {P : Program} {w : World} {K : PySem.W.Frag} {mg : Str → Option Value} {base : Heap} {dW dB : Addr} {esW : Array DictEntry} {nW : Nat} (T : Txt K mg w dW dB esW nW)
include T
theorem ok_bracket_at {f f1 f2 f3 : Addr} {fd fd1 fd2 fd3 : FuncData} (F : Fun K "bracket_at" "bracket_at" s_bracket_at f fd) (h_word_end : Has P w K mg base "word_end" 1 ["text", "at"] spWordEnd f1 fd1)
    (h_behind : Has P w K mg base "behind_trees" 1 ["text", "at", "sign"] spBehind f2 fd2) (h_small_end : Has P w K mg base "small_end" 2 ["text", "at"] spSmallEnd f3 fd3) : FnOk P w K mg base CX0 3 f fd ["text", "at"] spBracket := by
  refine F.ok sc_bracket_at (fun vs H Q E h => ?_) (fun cdv A outer s H vs Q E hr h => ?_)
  · obtain ⟨t, r, a, w', b, rfl, _⟩ := h
    rfl
  · obtain ⟨t, r, a, wd, b, rfl, hl, hdr, hb, q⟩ := h
    have hls : (tx t).length ≤ sizeLine := by rw [tx_len]; exact hl
    refine ⟨_, (pss_cons (ps_set (i := 2) sc_bracket_at.nd rfl (.inl rfl) (pe_callH h_word_end (hr.mono (by first | decide | omega)) (by rfl) (pa_cons (pv 0) (pa_cons (pe_op op_add (pv 1) pe_int) pa_nil))))
      (pss_cons (ps_set (i := 3) sc_bracket_at.nd rfl (.inl rfl) (pe_slice sl_str (pv 0) (po_some (pe_op op_add (pv 1) pe_int)) (po_some (pv 2))))
      (pss_cons (ps_if (pt_cmpR op_notIn_seq (pv 3) (pe_globR (by rfl) T.gB) (by rfl)) 
        (pss_one (ps_ret (pe_tup (pa_cons (pv 3) (pa_cons (pv 1) (pa_cons (pv 2) (pa_cons pe_non pa_nil))))))) pss_nil)
      (pss_cons (ps_set (i := 4) sc_bracket_at.nd rfl (.inl rfl) (pe_callH h_behind (hr.mono (by first | decide | omega)) (by rfl) (pa_cons (pv 0) (pa_cons (pv 2) (pa_cons pe_str pa_nil)))))
      (pss_cons (ps_set (i := 2) sc_bracket_at.nd rfl (.inl rfl) (pe_callH h_small_end (hr.mono (by first | decide | omega)) (by rfl) (pa_cons (pv 0) (pa_cons (pv 4) pa_nil))))
      (pss_one (ps_ret (pe_tup (pa_cons (pv 3) (pa_cons (pv 1) (pa_cons (pv 2) (pa_cons (pe_slice sl_str (pv 0) (po_some (pv 4)) (po_some (pv 2))) pa_nil)))))))))))), ?_⟩
    unfold BndOk at hb
    have e1 : t.drop (a + 1) = wd.cs ++ ((if wd.bd then 32 :: b else []) ++ 32 :: r) := by
      refine drop_more (l := [40]) ?_
      rw [hdr]
      simp [hd]
    refine ⟨_, rfl, _, rfl, _, _, rfl, rfl, t, _, a + 1, wd, rfl, hl, e1, fun H1 s1 => ?_⟩
    refine ⟨_, rfl, _, rfl, _, _, rfl, rfl, _, rfl, _, rfl, _, rfl, _, rfl, hls, ?_⟩
    rw [cut_at (x := (a : Int) + 1) e1 rfl rfl]
    refine ⟨_, rfl, dB, _, rfl, .inr (T.B _), rfl, rfl, _, rfl, ?_⟩
    rw [show (if true = true then !inV (V.str (tx wd.cs)) [V.str (Str.ofString "let"), V.str (Str.ofString "def")] else inV (V.str (tx wd.cs)) [V.str (Str.ofString "let"), V.str (Str.ofString "def")]) = !wd.bd by rw [if_pos rfl, bind_in]]
    have fin : ∀ (e : Nat) (x : V), e = a + (hd wd b).length → x = smV (sm wd b) → [V.str (tx wd.cs), V.int a, V.int e, x] = pcV (op a wd b) := by
      intro e x he hx
      rw [he, hx]
      rfl
    cases hbd : wd.bd with
    | false =>
      rw [hbd] at hb
      simp only [Bool.false_eq_true, if_false] at hb
      subst hb
      refine iteT ⟨_, rfl, _, rfl, _, rfl, sizeLine_ge (by show 4 ≤ 10000; decide), fun p hp => ?_⟩
      refine q p _ (s1.trans (same_new hp)) (upd_same.trans ?_)
      refine congrArg (fun l => some (HO.tup l)) (fin (a + 1 + wd.cs.length) .non ?_ ?_)
      · simp [hd, hbd]
        omega
      · simp [sm, hbd, smV]
    | true =>
      rw [hbd] at hb
      simp only [if_true] at hb
      have e2 : t.drop (a + 1 + wd.cs.length) = 32 :: (b ++ 32 :: r) := by
        refine drop_more ?_
        rw [e1, hbd]
        simp
      have e3 : t.drop (a + 1 + wd.cs.length + 1) = b ++ 32 :: r := drop_more (l := [32]) e2
      have bl : Str.ofString " " = tx [32] := by decide +kernel
      refine iteF ⟨_, rfl, _, rfl, t, a + 1 + wd.cs.length, 32, by rw [bl]; rfl, hl, (drop_at e2).1, ?_⟩
      refine ⟨_, rfl, _, rfl, t, b, 32 :: r, a + 1 + wd.cs.length + 1, rfl, hl, e3, hb, fun c hc => .inl (Option.some.inj hc).symm, ?_⟩
      refine ⟨_, rfl, _, rfl, _, rfl, _, rfl, _, rfl, _, rfl, _, rfl, _, rfl, _, rfl, hls, ?_⟩
      rw [cut_at e3 rfl rfl]
      refine ⟨sizeLine_ge (by show 4 ≤ 10000; decide), fun p hp => q p _ (s1.trans (same_new hp)) (upd_same.trans ?_)⟩
      refine congrArg (fun l => some (HO.tup l)) (fin (a + 1 + wd.cs.length + 1 + b.length) _ ?_ ?_)
      · simp [hd, hbd]
        omega
      · simp [sm, hbd, smV]
def spPiece : Sp := fun vs H Q _ => ∃ (t r : List Nat) (a : Nat) (k : U.Tm), vs = [.str (tx t), .int a] ∧ t.length ≤ sizeLine ∧ k.Ok ∧ t.drop a = k.pr ++ r ∧ Sep r ∧ ∀ p H', Same H H' → H' p = some (.tup (pcV (k.hp a))) → Q (.ref p) H'
omit T in
theorem smalls_iff {c : Nat} : c ∈ smalls ↔ 97 ≤ c ∧ c ≤ 122 := by
  unfold smalls
  rw [List.mem_map]
  exact ⟨fun ⟨j, hj, e⟩ => by have := List.mem_range.mp hj; omega, fun h => ⟨c - 97, List.mem_range.mpr (by omega), by omega⟩⟩
omit T in
theorem greats_iff {c : Nat} : c ∈ greats ↔ 65 ≤ c ∧ c ≤ 90 := by
  unfold greats
  rw [List.mem_map]
  exact ⟨fun ⟨j, hj, e⟩ => by have := List.mem_range.mp hj; omega, fun h => ⟨c - 65, List.mem_range.mpr (by omega), by omega⟩⟩
omit T in
theorem figs_iff {c : Nat} : c ∈ figs ↔ 48 ≤ c ∧ c ≤ 57 := by
  unfold figs
  rw [List.mem_map]
  exact ⟨fun ⟨j, hj, e⟩ => by have := List.mem_range.mp hj; omega, fun h => ⟨c - 48, List.mem_range.mpr (by omega), by omega⟩⟩
omit T in
theorem in_smalls (c : Nat) : decide (c ∈ (Str.ofString "abcdefghijklmnopqrstuvwxyz").cps.toList) = decide (97 ≤ c ∧ c ≤ 122) := by
  rw [smalls_tx, tx_cps]
  exact decide_eq_decide.mpr smalls_iff
omit T in
theorem in_greats (c : Nat) : decide (c ∈ (Str.ofString "ABCDEFGHIJKLMNOPQRSTUVWXYZ").cps.toList) = decide (65 ≤ c ∧ c ≤ 90) := by
  rw [greats_tx, tx_cps]
  exact decide_eq_decide.mpr greats_iff
omit T in
theorem in_figs (c : Nat) : decide (c ∈ (Str.ofString "0123456789").cps.toList) = decide (48 ≤ c ∧ c ≤ 57) := by
  rw [figs_tx, tx_cps]
  exact decide_eq_decide.mpr figs_iff
omit T in
theorem is_sign (c d : Nat) {z : Str} (e : z = tx [d]) : decide (V.str (⟨#[c]⟩ : Str) = V.str z) = decide (c = d) := by
  rw [one_tx, e, str_eq]
  exact decide_eq_decide.mpr (by simp)
theorem ok_piece_at {f f1 f2 f3 : Addr} {fd fd1 fd2 fd3 : FuncData} (F : Fun K "piece_at" "piece_at" s_piece_at f fd) (h_bracket_at : Has P w K mg base "bracket_at" 3 ["text", "at"] spBracket f1 fd1)
    (h_run_end : Has P w K mg base "run_end" 1 ["text", "at", "signs", "most"] spRunEnd f2 fd2) (h_number_end : Has P w K mg base "number_end" 2 ["text", "at"] spNumEnd f3 fd3) : FnOk P w K mg base CX0 4 f fd ["text", "at"] spPiece := by
  refine F.ok sc_piece_at (fun vs H Q E h => ?_) (fun cdv A outer s H vs Q E hr h => ?_)
  · obtain ⟨t, r, a, k, rfl, _⟩ := h
    rfl
  · obtain ⟨t, r, a, k, rfl, hl, ok, hd, hs, q⟩ := h
    have hls : (tx t).length ≤ sizeLine := by rw [tx_len]; exact hl
    refine ⟨_, (pss_cons (ps_if (pt_cmpR op_eq (pv 1) (pe_callB call_len_str (by rfl) T.z_len (by decide +kernel) (pa_cons (pv 0) pa_nil)) (nomark _)) 
        (pss_one (ps_never)) pss_nil)
      (pss_cons (ps_set (i := 2) sc_piece_at.nd rfl (.inl rfl) (pe_ix ix_str (pv 0) (pv 1) (fun _ _ => rfl)))
      (pss_cons (ps_if (pt_cmpR op_eq (pv 2) pe_str (nomark _)) 
        (pss_one (ps_ret (pe_callH h_bracket_at (hr.mono (by first | decide | omega)) (by rfl) (pa_cons (pv 0) (pa_cons (pv 1) pa_nil))))) pss_nil)
      (pss_cons (ps_if (pt_cmpR op_in_sign (pv 2) (pe_globS (by rfl) T.g_SMALL) (by rfl)) 
        (pss_one (ps_ret (pe_tup (pa_cons pe_str (pa_cons (pv 1) (pa_cons (pe_callH h_run_end (hr.mono (by first | decide | omega)) (by rfl) (pa_cons (pv 0) (pa_cons (pv 1) (pa_cons (pe_globS (by rfl) T.g_SMALL) (pa_cons (pe_globI (by rfl) T.g_MOST_SMALL) pa_nil))))) (pa_cons pe_non pa_nil))))))) pss_nil)
      (pss_cons (ps_if (pt_cmpR op_in_sign (pv 2) (pe_globS (by rfl) T.g_GREAT) (by rfl)) 
        (pss_one (ps_ret (pe_tup (pa_cons pe_str (pa_cons (pv 1) (pa_cons (pe_callH h_run_end (hr.mono (by first | decide | omega)) (by rfl) (pa_cons (pv 0) (pa_cons (pv 1) (pa_cons (pe_globS (by rfl) T.g_GREAT) (pa_cons (pe_globI (by rfl) T.g_MOST_GREAT) pa_nil))))) (pa_cons pe_non pa_nil))))))) pss_nil)
      (pss_cons (ps_if (PW.pt (pw_or (pt_cmpR op_eq (pv 2) pe_str (nomark _)) (pw_or1 (pt_cmpR op_in_sign (pv 2) (pe_globS (by rfl) T.g_FIGURES) (by rfl))))) 
        (pss_one (ps_ret (pe_tup (pa_cons pe_str (pa_cons (pv 1) (pa_cons (pe_callH h_number_end (hr.mono (by first | decide | omega)) (by rfl) (pa_cons (pv 0) (pa_cons (pv 1) pa_nil))) (pa_cons pe_non pa_nil))))))) pss_nil)
      (pss_one (ps_never)))))))), ?_⟩
    have begin_ : ∀ c l, k.pr = c :: l → t.drop a = c :: (l ++ r) := fun c l e => by
      rw [hd, e]
      rfl
    have zb : Str.ofString "(" = tx [40] := by decide +kernel
    have zm : Str.ofString "-" = tx [45] := by decide +kernel
    have l4 : 4 ≤ sizeLine := sizeLine_ge (by decide)
    rcases view ok with ⟨kd, l, rfl, hk⟩ | ⟨wd, b, ks, v⟩
    · cases kd with
      | num =>
        obtain ⟨c, l', hc, hcs⟩ := num_first hk
        rw [figs_iff] at hcs
        obtain ⟨at0, lt⟩ := drop_at (begin_ c l' hc)
        refine ⟨_, rfl, _, rfl, _, rfl, hls, rfl, _, rfl, ?_⟩
        rw [tx_len, decide_eq_false (fun e => by have e := V.int.inj e; omega)]
        refine iteF ⟨_, rfl, _, rfl, _, _, c, rfl, rfl, hls, atI_tx at0, ?_⟩
        refine ⟨_, rfl, rfl, _, rfl, ?_⟩
        rw [is_sign c 40 zb, decide_eq_false (by omega)]
        refine iteF ⟨_, rfl, c, _, rfl, rfl, _, rfl, ?_⟩
        rw [in_smalls, decide_eq_false (by omega)]
        refine iteF ⟨_, rfl, c, _, rfl, rfl, _, rfl, ?_⟩
        rw [in_greats, decide_eq_false (by omega)]
        refine iteF ⟨_, rfl, rfl, _, rfl, ?_⟩
        rw [is_sign c 45 zm]
        have fin : tRet (tTup (tCons (tC (V.str (Str.ofString "number"))) (tCons (tVar 1) (tCons (tCall spNumEnd [] E0 (tCons (tVar 0) (tCons (tVar 1) tNil))) (tCons (tC V.non) tNil))))) { nx := tNever { nx := fun x H' => Q V.non H', rt := Q }, rt := Q }
            [some (.str (tx t)), some (.int a), some (.str ⟨#[c]⟩)] H := by
          refine ⟨_, rfl, _, rfl, _, rfl, t, l, r, a, rfl, hl, hd, hk, hs, l4, fun p hp => q p _ (same_new hp) (upd_same.trans ?_)⟩
          rw [show Str.ofString "number" = tx Kd.num.cs by decide +kernel]
          rfl
        by_cases h45 : c = 45
        · rw [decide_eq_true h45]
          exact iteT (iteT fin)
        · rw [decide_eq_false h45]
          refine iteF ⟨_, rfl, c, _, rfl, rfl, _, rfl, ?_⟩
          rw [in_figs, decide_eq_true (by omega)]
          exact iteT fin
      | name =>
        obtain ⟨c, l', hc, hcs⟩ := some_first hk.1 hk.2.2
        rw [smalls_iff] at hcs
        obtain ⟨at0, lt⟩ := drop_at (begin_ c l' hc)
        refine ⟨_, rfl, _, rfl, _, rfl, hls, rfl, _, rfl, ?_⟩
        rw [tx_len, decide_eq_false (fun e => by have e := V.int.inj e; omega)]
        refine iteF ⟨_, rfl, _, rfl, _, _, c, rfl, rfl, hls, atI_tx at0, ?_⟩
        refine ⟨_, rfl, rfl, _, rfl, ?_⟩
        rw [is_sign c 40 zb, decide_eq_false (by omega)]
        refine iteF ⟨_, rfl, c, _, rfl, rfl, _, rfl, ?_⟩
        rw [in_smalls, decide_eq_true (by omega)]
        refine iteT ⟨_, rfl, _, rfl, _, rfl, t, smalls, a, 4, by rw [smalls_tx]; rfl, hl, ?_⟩
        rw [run_is hd hk.2.2 hk.2.1 (.inr (hs.not (by decide) (by decide)))]
        refine ⟨l4, fun p hp => q p _ (same_new hp) (upd_same.trans ?_)⟩
        rw [show Str.ofString "name" = tx Kd.name.cs by decide +kernel]
        rfl
      | part =>
        obtain ⟨c, l', hc, hcs⟩ := some_first hk.1 hk.2.2
        rw [greats_iff] at hcs
        obtain ⟨at0, lt⟩ := drop_at (begin_ c l' hc)
        refine ⟨_, rfl, _, rfl, _, rfl, hls, rfl, _, rfl, ?_⟩
        rw [tx_len, decide_eq_false (fun e => by have e := V.int.inj e; omega)]
        refine iteF ⟨_, rfl, _, rfl, _, _, c, rfl, rfl, hls, atI_tx at0, ?_⟩
        refine ⟨_, rfl, rfl, _, rfl, ?_⟩
        rw [is_sign c 40 zb, decide_eq_false (by omega)]
        refine iteF ⟨_, rfl, c, _, rfl, rfl, _, rfl, ?_⟩
        rw [in_smalls, decide_eq_false (by omega)]
        refine iteF ⟨_, rfl, c, _, rfl, rfl, _, rfl, ?_⟩
        rw [in_greats, decide_eq_true (by omega)]
        refine iteT ⟨_, rfl, _, rfl, _, rfl, t, greats, a, 6, by rw [greats_tx]; rfl, hl, ?_⟩
        rw [run_is hd hk.2.2 hk.2.1 (.inr (hs.not (by decide) (by decide)))]
        refine ⟨l4, fun p hp => q p _ (same_new hp) (upd_same.trans ?_)⟩
        rw [show Str.ofString "part" = tx Kd.part.cs by decide +kernel]
        rfl
    · obtain ⟨k1, ks', rfl⟩ : ∃ k1 ks', ks = k1 :: ks' := by
        have := v.ar
        cases ks with
        | nil =>
          exfalso
          cases wd <;> simp [Wd.ar] at this
        | cons k1 ks' => exact ⟨k1, ks', rfl⟩
      have hd2 : t.drop a = U.hd wd b ++ 32 :: (k1.pr ++ kT ks' ++ [41] ++ r) := by
        rw [hd, v.pr, kT]
        simp
      have hd3 : t.drop a = 40 :: (wd.cs ++ (if wd.bd then 32 :: b else []) ++ 32 :: (k1.pr ++ kT ks' ++ [41] ++ r)) := hd2
      obtain ⟨at0, lt⟩ := drop_at hd3
      refine ⟨_, rfl, _, rfl, _, rfl, hls, rfl, _, rfl, ?_⟩
      rw [tx_len, decide_eq_false (fun e => by have e := V.int.inj e; omega)]
      refine iteF ⟨_, rfl, _, rfl, _, _, 40, rfl, rfl, hls, atI_tx at0, ?_⟩
      refine ⟨_, rfl, rfl, _, rfl, ?_⟩
      rw [is_sign 40 40 zb, decide_eq_true rfl]
      refine iteT ⟨_, rfl, _, rfl, t, _, a, wd, b, rfl, hl, hd2, v.bn, fun p H' s1 hp => q p H' s1 ?_⟩
      rw [v.hp a]
      exact hp
end
end K


set_option Elab.async false
set_option linter.all false
set_option maxRecDepth 100000
set_option maxHeartbeats 4000000
namespace U
open PySem PySem.Spec PyProof.Rows L2
open Sem (wp)
open Builtin
theorem ext_tup (l b : Addr) (items items2 : Array Value) (n n2 : Nat) (dd : Option Addr) (sl : Array (Option Value)) (h1 : ¬(!items.isEmpty && Builtin.List.listTooLong (items.size + items2.size)) = true) (h2 : items.size ≤ sizeLine) (h3 : items.size + items2.size ≤ sizeLine) :
    Meets (Builtin.«list.extend» ⟨[.ref l, .ref b], []⟩) (fun _ R s => s.heap.get? l = some { cls := .type "list", dict := none, data := .seq items n, slots := #[] } ∧
      s.heap.get? b = some { cls := .type "tuple", dict := dd, data := .seq items2 n2, slots := sl } ∧ R (.ok (.ret Value.none)) { s with heap := s.heap.update l (Obj.mapSeq fun x => x ++ items2), toks := s.toks }) := by
  refine .of_wp fun prog w A R s h => ?_
  have sz : (items ++ items2).size ≤ sizeLine + 1 := by
    rw [Array.size_append]
    omega
  obtain ⟨hp, gg, dr, tk, os⟩ := s
  obtain ⟨e1, e2, r⟩ := h
  have g1 := PySem.AutoSeq1.idx_int
  have g2 := PySem.AutoSeq1.sub_tuple_tuple
  have g3 := PySem.AutoSeq1.sub_list_list
  have g4 := PySem.AutoSeq1.sub_tuple_list
  have g5 := PySem.AutoSeq1.sub_list_tuple
  wp_walk using (wpAny_updateSeq e1 rfl (hz := h2) (_hz' := sz)), PySem.AutoSeq1.wpAny_loadPart' e2
  exact ⟨_, rfl, r⟩
section
variable {X : Cx}
def rExtendT (K : PySem.W.Frag) : V → List V → Hp → VK → Prop := fun x vs H Q => ∃ l b xs zs, x = .ref l ∧ vs = [.ref b] ∧ H l = some (.lst xs) ∧ SqT K H b zs ∧ xs.length + zs.length ≤ sizeLine ∧ Q .non (upd H l (.lst (xs ++ zs)))
/-- xs.extend(t), t a tuple -/
theorem mt_extendT : MtR X "list.extend" (rExtendT X.K) := by
  intro pins s σ H x vs v us Q I rx rv h
  obtain ⟨l, b, xs, zs, rfl, rfl, hl, hb, hz, q⟩ := h
  cases rx
  obtain ⟨u, rfl, ru⟩ := rv.one
  cases ru
  obtain ⟨z1, its, n, r, len, e⟩ := I.lstM hl
  obtain ⟨its2, r2, ⟨⟨c2, dd, d2, sl⟩, g2, k2, n2, k3⟩, _⟩ := I.tuple hb
  simp only at k2 k3
  subst k2
  subst k3
  have len2 := r2.length
  have sz : its.toArray.size + its2.toArray.size ≤ sizeLine := by
    rw [List.size_toArray, List.size_toArray]
    omega
  refine call_meets PySem.F.slot_list_extend ⟨_, e, rfl⟩ PySem.F.entry_list_extend (PySem.F.args_list_extend_2 _ _) (ext_tup l b its.toArray its2.toArray n n2 dd sl ?_ (by omega) sz) ⟨e, g2, ?_⟩
  · rw [notLongL sz, Bool.and_false]
    exact Bool.false_ne_true
  · refine ⟨.non, _, I.lset (its' := its ++ its2) hl e (by simp) (r.append r2) ?_, rfl, q⟩
    rw [List.length_append]
    omega
/-- xs[-1], to be put anew -/
def rLast (K : PySem.W.Frag) : V → V → Hp → VK → Prop := fun x y H Q => ∃ p xs v, x = .ref p ∧ y = .int (-1) ∧ SqL K H p (xs ++ [v]) ∧ Q v H
theorem get_last : PGet X (rLast X.K) := by
  intro pins s σ H x y ov iv Q I rx ry h
  obtain ⟨p, xs, v, rfl, rfl, hp, q⟩ := h
  cases rx
  obtain ⟨t, rfl⟩ := ry
  obtain ⟨its, r, li, hz⟩ := I.list hp
  have len := r.length
  rw [List.length_append, List.length_singleton] at len
  obtain ⟨u, hu, ru⟩ := r.get (i := xs.length) (x := v) (by simp)
  have e : (-1 + (its.toArray.size : Int)).toNat = xs.length := by
    rw [List.size_toArray]
    omega
  exact wpAny_getItem_list_neg li.isList (by decide) (by rw [List.size_toArray]; omega) (by decide) (by rw [e]; simpa using hu) ⟨v, H, I, ru, q⟩
end
/-- a list's last place -/
theorem atI_end {α : Type} (xs : List α) (v : α) : atI (xs ++ [v]) (-1) = some v := by
  have h : ixN (xs ++ [v]).length (-1) = some xs.length := by
    unfold ixN
    rw [if_neg (by decide), if_pos (by simp; omega)]
    simp
    omega
  unfold atI
  rw [h]
  show (xs ++ [v])[xs.length]? = some v
  simp
theorem ixN_end {α : Type} (xs : List α) (v : α) : ixN (xs ++ [v]).length (-1) = some xs.length := by
  unfold ixN
  rw [if_neg (by decide), if_pos (by simp; omega)]
  simp
  omega
theorem set_end {α : Type} (xs : List α) (v y : α) : (xs ++ [v]).set xs.length y = xs ++ [y] := by simp
theorem Paired.app {α β : Type} {F : α → β → Prop} : ∀ {a : List α} {b : List β} {c : List α} {d : List β}, Paired F a b → Paired F c d → Paired F (a ++ c) (b ++ d)
  | _, _, _, _, .nil, h => h
  | _, _, _, _, .cons r t, h => .cons r (Paired.app t h)
theorem Paired.at_ {α β : Type} {F : α → β → Prop} : ∀ {a : List α} {b : List β} {i : Nat} {y : β}, Paired F a b → b[i]? = some y → ∃ x, a[i]? = some x ∧ F x y
  | _, _, i, _, .nil, h => by simp at h
  | _, _, 0, _, .cons (a := x) r t, h => by
    simp at h
    subst h
    exact ⟨x, rfl, r⟩
  | _, _, i + 1, _, .cons r t, h => by
    obtain ⟨x, h1, h2⟩ := Paired.at_ (i := i) t (by simpa using h)
    exact ⟨x, by simpa using h1, h2⟩
/-- all but what stands at p is as it was -/
def But (p : Addr) (H H' : Hp) : Prop := ∀ b o, H b = some o → b ≠ p → H' b = some o
theorem But.refl (p : Addr) (H : Hp) : But p H H := fun _ _ e _ => e
theorem But.trans {p : Addr} {H H1 H2 : Hp} (a : But p H H1) (b : But p H1 H2) : But p H H2 := fun c o e n => b c o (a c o e n) n
theorem But.of_same {p : Addr} {H H' : Hp} (s : Same H H') : But p H H' := fun b o e _ => s b o e
theorem But.upd {p : Addr} {H : Hp} {o : HO} : But p H (upd H p o) := fun b u e n => by
  rw [upd_ne n]
  exact e
theorem But.same {p : Addr} {H0 H H' : Hp} (h : But p H H') (s : Same H0 H) (n : H0 p = none) : Same H0 H' := fun b o e => h b o (s b o e) (ne_of_none e n)
end U

set_option Elab.async false
set_option linter.all false
set_option maxRecDepth 100000
set_option maxHeartbeats 4000000
namespace K
open PySem PySem.Spec PyProof.Rows L2 U
abbrev PcsAt (H : Hp) (ps : List Addr) (cs : List Pc) : Prop := Paired (fun p c => H p = some (.tup (pcV c))) ps cs
/-- all tuples are as they were -/
def Tups (H H' : Hp) : Prop := ∀ p xs, H p = some (.tup xs) → H' p = some (.tup xs)
theorem Tups.of {H H' : Hp} (h : Same H H') : Tups H H' := fun p xs e => h p _ e
theorem Tups.trans {H H1 H2 : Hp} (a : Tups H H1) (b : Tups H1 H2) : Tups H H2 := fun p xs e => b p xs (a p xs e)
theorem Tups.upd {H : Hp} {a : Addr} {l : List V} {o : HO} (e : H a = some (.lst l)) : Tups H (upd H a o) := fun p xs h => by
  rw [upd_ne (ne_of h e (by intro z; cases z))]
  exact h
theorem PcsAt.tups {H H' : Hp} {ps : List Addr} {cs : List Pc} (h : PcsAt H ps cs) (k : Tups H H') : PcsAt H' ps cs := by
  induction h with
  | nil => exact .nil
  | cons r t ih => exact .cons (k _ _ r) ih
/-- but for these two all is as it was, where they are new -/
theorem upd_new {H G : Hp} {a : Addr} {o : HO} (n : H a = none) (h : Same H G) : Same H (upd G a o) := fun b u e => by
  rw [upd_ne (ne_of_none e n)]
  exact h b u e
/-- how many terms each open bracket lacks, the innermost last -/
def lkV (R : List (List U.Tm)) : List V := (R.map fun ks => V.int ks.length).reverse
theorem lkV_cons (ks : List U.Tm) (R : List (List U.Tm)) : lkV (ks :: R) = lkV R ++ [V.int ks.length] := by simp [lkV]
theorem lkV_len (R : List (List U.Tm)) : (lkV R).length = R.length := by simp [lkV]
theorem ar_in (w : Wd) : ∃ i, (tx w.cs, i) ∈ wkv := ⟨_, List.mem_map.mpr ⟨w, w.mem, rfl⟩⟩
theorem cs_inj : ∀ w v : Wd, w.cs = v.cs → w = v := by
  intro w v
  cases w <;> cases v <;> decide
theorem ar_is (w : Wd) {i : Int} (h : (tx w.cs, i) ∈ wkv) : i = w.ar := by
  obtain ⟨v, _, e⟩ := List.mem_map.mp h
  rw [Prod.mk.injEq] at e
  rw [← e.2, cs_inj v w (tx_inj e.1)]
def spPieces : Sp := fun vs H Q _ => ∃ (k : U.Tm), vs = [.str (tx k.pr)] ∧ k.pr.length ≤ sizeLine ∧ k.Ok ∧ k.size ≤ 1000 ∧ ∀ p H' ps, Same H H' → H' p = some (.lst (ps.map V.ref)) → PcsAt H' ps (k.pc 0) → Q (.ref p) H'
section
variable {P : Program} {w : World} {K : PySem.W.Frag} {mg : Str → Option Value} {base : Heap} {dW dB : Addr} {esW : Array DictEntry} {nW : Nat} (T : Txt K mg w dW dB esW nW)
include T
theorem ok_pieces_of {f f1 f2 : Addr} {fd fd1 fd2 : FuncData} (F : Fun K "pieces_of" "pieces_of" s_pieces_of f fd) (h_piece_at : Has P w K mg base "piece_at" 4 ["text", "at"] spPiece f1 fd1)
    (h_behind : Has P w K mg base "behind_trees" 1 ["text", "at", "sign"] spBehind f2 fd2) : FnOk P w K mg base CX0 5 f fd ["text"] spPieces := by
  refine F.ok sc_pieces_of (fun vs H Q E h => ?_) (fun cdv A outer s H vs Q E hr h => ?_)
  · obtain ⟨k, rfl, _⟩ := h
    rfl
  · obtain ⟨k0, rfl, hl, ok, hsz, q⟩ := h
    have hls : (tx k0.pr).length ≤ sizeLine := by rw [tx_len]; exact hl
    refine ⟨_, (pss_cons (ps_set (i := 1) sc_pieces_of.nd rfl (.inl rfl) (pe_lst pa_nil))
      (pss_cons (ps_set (i := 2) sc_pieces_of.nd rfl (.inl rfl) (pe_lst pa_nil))
      (pss_cons (ps_set (i := 3) sc_pieces_of.nd rfl (.inl rfl) pe_int)
      (pss_cons (ps_while PassesOwn.never (pt_val pe_bl) 
        (pss_cons (ps_set (i := 4) sc_pieces_of.nd rfl (.inl rfl) (pe_callH h_piece_at (hr.mono (by first | decide | omega)) (by rfl) (pa_cons (pv 0) (pa_cons (pv 3) pa_nil))))
        (pss_cons (ps_expr (pe_bm PySem.F.plainAttrs_list PySem.F.slot_list_append PySem.F.type_list_append mt_append (pv 1) (pa_cons (pv 4) pa_nil)))
        (pss_cons (ps_set (i := 3) sc_pieces_of.nd rfl (.inl rfl) (pe_ix ix_tup (pv 4) pe_int (fun _ _ => rfl)))
        (Evl.pss_cut (ps_if (pt_cmpR (op_in_tab T.W) (pe_ix ix_tup (pv 4) pe_int (fun _ _ => rfl)) (pe_globR (by rfl) T.gW) (by rfl)) 
          (pss_one (ps_expr (pe_bm PySem.F.plainAttrs_list PySem.F.slot_list_append PySem.F.type_list_append mt_append (pv 2) (pa_cons (pe_ix (ix_tab T.W) (pe_globR (by rfl) T.gW) (pe_ix ix_tup (pv 4) pe_int (fun _ _ => rfl)) (fun _ _ => rfl)) pa_nil)))) pss_nil)
        (pss_cons (ps_while PassesOwn.never (PW.pt (pw_and (pt_truth (pv 2) (by intro _; rfl)) (pw_and1 (pt_cmpR op_eq (pe_ix ix_list (pv 2) (pe_un un_neg pe_int) (fun _ _ => rfl)) pe_int (nomark _))))) 
          (pss_cons (ps_expr (pe_bm0 PySem.F.plainAttrs_list PySem.F.slot_list_pop PySem.F.type_list_pop mt_pop (pv 2)))
          (pss_cons (ps_expr (pe_bm PySem.F.plainAttrs_list PySem.F.slot_list_append PySem.F.type_list_append mt_append (pv 1) (pa_cons (pe_tup (pa_cons (pe_globS (by rfl) T.g_CLOSE) (pa_cons (pv 3) (pa_cons (pe_callH h_behind (hr.mono (by first | decide | omega)) (by rfl) (pa_cons (pv 0) (pa_cons (pv 3) (pa_cons (pe_globS (by rfl) T.g_CLOSE) pa_nil)))) (pa_cons pe_non pa_nil))))) pa_nil)))
          (pss_one (ps_aug (i := 3) sc_pieces_of.nd rfl (.inl rfl) pe_int ip_add)))))
        (pss_cons (ps_if (pt_not (pt_truth (pv 2) (by intro _; rfl))) 
          (pss_one (ps_break)) pss_nil)
        (pss_cons (ps_set (i := 3) sc_pieces_of.nd rfl (.inl rfl) (pe_callH h_behind (hr.mono (by first | decide | omega)) (by rfl) (pa_cons (pv 0) (pa_cons (pv 3) (pa_cons pe_str pa_nil)))))
        (pss_one (ps_augS (pv 2) (pe_un un_neg pe_int) get_last pe_int ip_sub set_list))))))))))
      (pss_cons (ps_if (pt_cmpR op_ne (pv 3) (pe_callB call_len_str (by rfl) T.z_len (by decide +kernel) (pa_cons (pv 0) pa_nil)) (nomark _)) 
        (pss_one (ps_never)) pss_nil)
      (pss_one (ps_ret (pv 1)))))))), ?_⟩
    have plen := pc_len k0 0
    -- pieces = [], lacking = [], at = 0
    refine ⟨Nat.zero_le _, fun aP hP => ⟨Nat.zero_le _, fun aL hL => ?_⟩⟩
    have nPL : aP ≠ aL := ne_of_none upd_same hL
    have hL0 : H aL = none := (same_new hP).free hL
    refine ⟨fun m σ H' => ∃ (k : U.Tm) (R : List (List U.Tm)) (a : Nat) (done : List Pc) (ps : List Addr) (x4 : Option V), σ = [some (.str (tx k0.pr)), some (.ref aP), some (.ref aL), some (.int a), x4] ∧ Same H H' ∧ Ahead k0.pr (k0.pc 0) k R a done ∧
      H' aP = some (.lst (ps.map V.ref)) ∧ PcsAt H' ps done ∧ H' aL = some (.lst (lkV R)) ∧ m = k.size + Rsize R, ⟨_, k0, [], 0, [], [], _, rfl, (same_new hP).trans (same_new hL), ahead_start ok, ?_, .nil, upd_same, rfl⟩, ?_⟩
    · rw [upd_ne nPL]
      exact upd_same
    rintro m σ H1 ⟨k, R, a, done, ps, x4, rfl, s1, ah, eP, pcs, eL, hm⟩
    have less := ah.less
    have md := ah.mid
    obtain ⟨alen, dlen⟩ := ah.bound
    have pl := pcs.length
    refine ⟨_, rfl, iteT ⟨fun σ' H' => ∃ m', m' < m ∧ _, fun σ' H' h => h, ?_⟩⟩
    -- piece = piece_at(text, at); pieces.append(piece)
    refine ⟨_, rfl, _, rfl, k0.pr, rT R, a, k, rfl, hl, ah.2.1, ah.1, sep_rT R, fun p H2 s2 hp2 => ?_⟩
    have eP2 := s2 _ _ eP
    have eL2 := s2 _ _ eL
    have npP : p ≠ aP := ne_of hp2 eP2 (by intro z; cases z)
    have npL : p ≠ aL := ne_of hp2 eL2 (by intro z; cases z)
    refine ⟨_, rfl, .inl ⟨rfl, _, .inl (.inl eP2)⟩, _, rfl, aP, _, _, rfl, rfl, eP2, ?_, ?_⟩
    · rw [List.length_map]
      exact Nat.lt_of_lt_of_le (show ps.length < 10000 by omega) (sizeLine_ge (Nat.le_refl _))
    -- at = piece[2]
    have hp3 : (upd H2 aP (.lst (ps.map V.ref ++ [V.ref p]))) p = some (.tup (pcV (k.hp a))) := by
      rw [upd_ne npP]
      exact hp2
    refine ⟨_, rfl, p, _, _, _, rfl, rfl, .inl (.inl hp3), rfl, ?_⟩
    -- the words
    refine ⟨fun σ' H' => ∃ (R' : List (List U.Tm)) (a' : Nat) (done' : List Pc) (ps' : List Addr) (y4 : Option V), σ' = [some (.str (tx k0.pr)), some (.ref aP), some (.ref aL), some (.int a'), y4] ∧ Same H H' ∧ Mid k0.pr (k0.pc 0) R' a' done' ∧
      H' aP = some (.lst (ps'.map V.ref)) ∧ PcsAt H' ps' done' ∧ H' aL = some (.lst (lkV R')) ∧ a' ≤ k0.pr.length ∧ Rsize R' < m, ?_, ?_⟩
    · have eL3 : ∀ o, (upd H2 aP o) aL = some (.lst (lkV R)) := fun o => by
        rw [upd_ne nPL.symm]
        exact eL2
      have pcs2 : PcsAt (upd H2 aP (.lst (ps.map V.ref ++ [V.ref p]))) (ps ++ [p]) (done ++ [k.hp a]) :=
        Paired.app ((pcs.tups (Tups.of s2)).tups (Tups.upd eP2)) (.cons hp3 .nil)
      have sH : Same H (upd H2 aP (.lst (ps.map V.ref ++ [V.ref p]))) := upd_new hP (s1.trans s2)
      have lst : (upd H2 aP (.lst (ps.map V.ref ++ [V.ref p]))) aP = some (.lst ((ps ++ [p]).map V.ref)) := by
        rw [upd_same, List.map_append]
        rfl
      refine ⟨_, rfl, p, _, _, _, rfl, rfl, .inl (.inl hp3), rfl, _, rfl, rfl, _, rfl, ?_⟩
      have hend := hp_end k a
      rcases view ah.2.1 with ⟨kd, l, rfl, hk⟩ | ⟨wd, b, ks, v⟩
      · have e : decide (tx kd.cs ∈ wkv.map (·.1)) = false := decide_eq_false fun h => kd_wd kd ((in_keys _).mp h)
        show if decide (tx kd.cs ∈ wkv.map (·.1)) = true then _ else _
        rw [e]
        refine iteF ⟨R, a + l.length, _, ps ++ [p], _, rfl, sH, md, lst, pcs2, eL3 _, alen, by have h : Rsize R + 1 = _ := less; omega⟩
      · rw [v.hp a] at hp3 pcs2 md
        rw [v.openR, v.hlen] at md
        rw [v.hlen] at alen
        rw [v.openR] at less
        have e : decide (tx wd.cs ∈ wkv.map (·.1)) = true := decide_eq_true ((in_keys _).mpr (wd_is wd))
        rw [v.hp a]
        show if decide (tx wd.cs ∈ wkv.map (·.1)) = true then _ else _
        rw [e]
        refine iteT ⟨_, rfl, .inl ⟨rfl, _, .inl (.inl (eL3 _))⟩, _, rfl, p, _, _, _, rfl, rfl, .inl (.inl hp3), rfl, tx wd.cs, rfl, rfl, ar_in wd, fun i hi => ?_⟩
        rw [ar_is wd hi]
        refine ⟨aL, _, _, rfl, rfl, eL3 _, ?_, ?_⟩
        · rw [lkV_len]
          exact Nat.lt_of_lt_of_le ah.few hl
        · refine ⟨ks :: R, a + (hd wd b).length, _, ps ++ [p], _, rfl, upd_new hL0 sH, md, ?_, pcs2.tups (Tups.upd (eL3 _)), ?_, alen, by omega⟩
          · rw [upd_ne nPL]
            exact lst
          · rw [upd_same, lkV_cons, v.ar]
    · rintro σ2 H4 ⟨R4, a4, d4, p4, y4, rfl, s4, m4, eP4, pcs4, eL4, al4, lt4⟩
      refine ⟨fun n σ' H' => ∃ (R' : List (List U.Tm)) (a' : Nat) (done' : List Pc) (ps' : List Addr), σ' = [some (.str (tx k0.pr)), some (.ref aP), some (.ref aL), some (.int a'), y4] ∧ Same H H' ∧ Mid k0.pr (k0.pc 0) R' a' done' ∧
        H' aP = some (.lst (ps'.map V.ref)) ∧ PcsAt H' ps' done' ∧ H' aL = some (.lst (lkV R')) ∧ a' ≤ k0.pr.length ∧ Rsize R' < m ∧ n = R'.length, ⟨_, R4, a4, d4, p4, rfl, s4, m4, eP4, pcs4, eL4, al4, lt4, rfl⟩, ?_⟩
      rintro n σ5 H5 ⟨R', a', d', ps', rfl, s5, m5, eP5, pcs5, eL5, al5, lt5, rfl⟩
      have pl5 := pcs5.length
      cases R' with
      | nil =>
        -- all brackets are closed
        obtain ⟨e1, e2⟩ := m5.over al5
        refine ⟨_, rfl, false, .inl ⟨_, .inl (.inl eL5), rfl⟩, iteF (iteF ?_)⟩
        refine ⟨_, rfl, false, .inl ⟨_, .inl (.inl eL5), rfl⟩, iteT ?_⟩
        refine ⟨_, rfl, _, rfl, _, rfl, hls, rfl, _, rfl, ?_⟩
        refine iteNS (by rw [tx_len, e1]) ?_
        rw [e2] at pcs5
        exact ⟨_, rfl, q aP H5 ps' s5 eP5 pcs5⟩
      | cons ks R2 =>
        have eL6 := eL5
        rw [lkV_cons] at eL6
        have tru : true = !(lkV (ks :: R2)).isEmpty := by rw [lkV_cons]; simp
        refine ⟨_, rfl, true, .inl ⟨_, .inl (.inl eL5), tru⟩, iteT ⟨_, rfl, _, rfl, aL, _, _, _, rfl, rfl, .inl (.inl eL6), atI_end _ _, rfl, _, rfl, ?_⟩⟩
        cases ks with
        | nil =>
          rw [decide_eq_true (show V.int (([] : List U.Tm).length : Nat) = V.int 0 from rfl)]
          obtain ⟨at41, m6⟩ := m5.close
          have room := m5.room
          refine iteT ⟨fun σ' H' => ∃ n', n' < (([] : List U.Tm) :: R2).length ∧ _, fun σ' H' h => h, ?_⟩
          refine ⟨_, rfl, .inl ⟨rfl, _, .inl (.inl eL6)⟩, aL, _, .int (([] : List U.Tm).length : Nat), rfl, rfl, eL6, by simp, ?_⟩
          rw [List.dropLast_concat]
          have eP6 : (upd H5 aL (.lst (lkV R2))) aP = some (.lst (ps'.map V.ref)) := by
            rw [upd_ne nPL]
            exact eP5
          have cl41 : Str.ofString ")" = tx [41] := by decide +kernel
          refine ⟨_, rfl, .inl ⟨rfl, _, .inl (.inl eP6)⟩, _, rfl, _, rfl, _, rfl, k0.pr, a', 41, by rw [cl41]; rfl, hl, at41, sizeLine_ge (by show 4 ≤ 10000; decide), fun pT hT => ?_⟩
          have nT : aP ≠ pT := ne_of_none eP6 hT
          refine ⟨aP, _, _, rfl, rfl, (by rw [upd_ne nT]; exact eP6), ?_, ?_⟩
          · rw [List.length_map]
            exact Nat.lt_of_lt_of_le (show ps'.length < 10000 by omega) (sizeLine_ge (Nat.le_refl _))
          refine ⟨_, rfl, _, _, rfl, rfl, R2.length, by simp, R2, a' + 1, _, ps' ++ [pT], rfl, upd_new hP ((upd_new hL0 s5).trans (same_new hT)), m6, ?_, ?_, ?_, ?_, ?_, rfl⟩
          · rw [upd_same, List.map_append]
            rfl
          · refine Paired.app ((pcs5.tups (Tups.upd eL6)).tups ((Tups.of (same_new hT)).trans (Tups.upd ((same_new hT) _ _ eP6)))) (.cons ?_ .nil)
            rw [upd_ne nT.symm, upd_same, cl41]
            rfl
          · have nT2 : aL ≠ pT := ne_of_none (upd_same (H := H5) (o := .lst (lkV R2))) hT
            rw [upd_ne nPL.symm, upd_ne nT2, upd_same]
          · have := (List.getElem?_eq_some_iff.mp at41).1
            omega
          · have h : Rsize (([] : List U.Tm) :: R2) = Rsize R2 := by simp [Rsize]
            omega
        | cons k2 ks2 =>
          rw [decide_eq_false (show ¬ V.int ((k2 :: ks2).length : Nat) = V.int 0 from fun h => by have h := V.int.inj h; simp at h; omega)]
          obtain ⟨at32, ah6⟩ := m5.next
          refine iteF ?_
          refine ⟨_, rfl, true, .inl ⟨_, .inl (.inl eL5), tru⟩, iteF ?_⟩
          have bl : Str.ofString " " = tx [32] := by decide +kernel
          refine ⟨_, rfl, _, rfl, k0.pr, a', 32, by rw [bl]; rfl, hl, at32, ?_⟩
          refine ⟨_, rfl, _, rfl, aL, _, _, rfl, rfl, .inl (.inl eL6), _, _, rfl, rfl, aL, _, _, _, rfl, rfl, eL6, ixN_end _ _, ?_⟩
          rw [set_end]
          refine ⟨k2.size + Rsize (ks2 :: R2), ?_, k2, ks2 :: R2, a' + 1, d', ps', _, rfl, upd_new hL0 s5, ah6, ?_, pcs5.tups (Tups.upd eL5), ?_, rfl⟩
          · have h : Rsize ((k2 :: ks2) :: R2) = k2.size + Rsize (ks2 :: R2) := by
              simp [Rsize]
              omega
            omega
          · rw [upd_ne nPL]
            exact eP5
          · rw [upd_same, lkV_cons]
            simp
end
end K


set_option Elab.async false
set_option linter.all false
set_option maxRecDepth 100000
set_option maxHeartbeats 4000000
namespace K
open PySem PySem.Spec PyProof.Rows L2 U
def spCheck : Sp := fun vs H Q _ => ∃ (p : Addr) (ps : List Addr) (cs : List Pc), vs = [.ref p] ∧ H p = some (.lst (ps.map V.ref)) ∧ PcsAt H ps cs ∧ (cs.foldl szStep ⟨0, 0, 0⟩).d ≤ 30 ∧ (cs.foldl szStep ⟨0, 0, 0⟩).n ≤ 200 ∧ Q .non H
section
variable {P : Program} {w : World} {K : PySem.W.Frag} {mg : Str → Option Value} {base : Heap} {dW dB : Addr} {esW : Array DictEntry} {nW : Nat} (T : Txt K mg w dW dB esW nW)
include T
theorem ok_check_size {f : Addr} {fd : FuncData} (F : Fun K "check_size" "check_size" s_check_size f fd) : FnOk P w K mg base CX0 1 f fd ["pieces"] spCheck := by
  refine F.ok sc_check_size (fun vs H Q E h => ?_) (fun cdv A outer s H vs Q E hr h => ?_)
  · obtain ⟨p, ps, cs, rfl, _⟩ := h
    rfl
  · obtain ⟨p, ps, cs, rfl, hp, pcs, h30, h200, q⟩ := h
    refine ⟨_, (pss_cons (ps_set (i := 1) sc_check_size.nd rfl (.inl rfl) pe_int)
      (pss_cons (ps_set (i := 2) sc_check_size.nd rfl (.inl rfl) pe_int)
      (pss_cons (ps_set (i := 3) sc_check_size.nd rfl (.inl rfl) pe_int)
      (pss_cons (ps_for PassesOwn.never rfl (pi_list (pv 0)) (pg_name (i := 4) sc_check_size.nd rfl (.inl rfl)) 
        (Evl.pss_cut (ps_if (pt_cmpR op_eq (pe_ix ix_tup (pv 4) pe_int (fun _ _ => rfl)) (pe_globS (by rfl) T.g_CLOSE) (nomark _)) 
          (pss_one (ps_aug (i := 1) sc_check_size.nd rfl (.inl rfl) pe_int ip_sub)) 
          (pss_one (ps_aug (i := 2) sc_check_size.nd rfl (.inl rfl) pe_int ip_add)))
        (pss_one (ps_if (pt_cmpR (op_in_tab T.W) (pe_ix ix_tup (pv 4) pe_int (fun _ _ => rfl)) (pe_globR (by rfl) T.gW) (by rfl)) 
          (pss_cons (ps_aug (i := 1) sc_check_size.nd rfl (.inl rfl) pe_int ip_add)
          (pss_one (ps_set (i := 3) sc_check_size.nd rfl (.inl rfl) (pe_callB (call_max2 rfl) (by rfl) T.z_max (by decide +kernel) (pa_cons (pv 3) (pa_cons (pv 1) pa_nil)))))) pss_nil))))
      (pss_cons (ps_if (pt_cmpR op_gt (pv 3) (pe_globI (by rfl) T.g_MOST_OPEN) (nomark _)) 
        (pss_one (ps_never)) pss_nil)
      (pss_one (ps_if (pt_cmpR op_gt (pv 2) (pe_globI (by rfl) T.g_MOST_TERMS) (nomark _)) 
        (pss_one (ps_never)) pss_nil))))))), ?_⟩
    have len := pcs.length
    have cl41 : Str.ofString ")" = tx [41] := by decide +kernel
    refine ⟨_, rfl, p, rfl, ⟨_, .inl (.inl hp)⟩, for_it (walk_list (xs := ps.map V.ref)) (fun i σ H' => H' = H ∧ ∃ (z : Sz) (x4 : Option V), σ = [some (.ref p), some (.int z.o), some (.int z.n), some (.int z.d), x4] ∧ z = (cs.take i).foldl szStep ⟨0, 0, 0⟩)
      ⟨rfl, ⟨0, 0, 0⟩, _, rfl, rfl⟩ (fun i σ H' _ h => by rw [h.1]; exact .inl (.inl hp)) ?_ ?_⟩
    · rintro i x σ H1 H2 hi ⟨rfl, z, x4, rfl, hz⟩ ⟨rfl, hx⟩
      rw [List.length_map] at hi
      have hc : cs[i]? = some cs[i] := List.getElem?_eq_getElem (by omega)
      obtain ⟨pi, hpi, tp⟩ := Paired.at_ pcs hc
      have ex : x = .ref pi := by
        rw [List.getElem?_map, hpi] at hx
        exact (Option.some.inj hx).symm
      subst ex
      have nxt : (cs.take (i + 1)).foldl szStep ⟨0, 0, 0⟩ = szStep z cs[i] := by
        rw [List.take_add_one, hc, List.foldl_append, ← hz]
        rfl
      generalize cs[i] = c at tp nxt
      refine ⟨fun σ' H' => H' = H2 ∧ σ' = [some (.ref p), some (.int (sz1 c z).o), some (.int (sz1 c z).n), some (.int (sz1 c z).d), some (.ref pi)], ?_, ?_⟩
      · refine ⟨_, rfl, pi, _, _, _, rfl, rfl, .inl (.inl tp), rfl, rfl, _, rfl, ?_⟩
        rw [cl41, str_eq]
        unfold sz1
        by_cases h : c.kind = [41]
        · rw [decide_eq_true h, if_pos h]
          exact iteT ⟨_, rfl, _, _, rfl, rfl, rfl, rfl⟩
        · rw [decide_eq_false h, if_neg h]
          exact iteF ⟨_, rfl, _, _, rfl, rfl, rfl, rfl⟩
      · rintro σ' H' ⟨rfl, rfl⟩
        refine ⟨_, rfl, pi, _, _, _, rfl, rfl, .inl (.inl tp), rfl, tx c.kind, rfl, rfl, _, rfl, ?_⟩
        by_cases h : isWd c.kind
        · rw [decide_eq_true ((in_keys _).mpr h)]
          refine iteT ⟨_, rfl, _, _, rfl, rfl, _, rfl, _, rfl, _, _, rfl, rfl, szStep z c, some (.ref pi), ?_, nxt.symm⟩
          have e : szStep z c = ⟨(sz1 c z).o + 1, (sz1 c z).n, max (sz1 c z).d ((sz1 c z).o + 1)⟩ := by
            unfold szStep sz2
            rw [if_pos h]
          rw [e]
          have e2 : (if (sz1 c z).o + 1 > (sz1 c z).d then (sz1 c z).o + 1 else (sz1 c z).d) = max (sz1 c z).d ((sz1 c z).o + 1) := by
            split <;> omega
          show _ = [some (V.ref p), some (V.int ((sz1 c z).o + 1)), some (V.int (sz1 c z).n), some (V.int (max (sz1 c z).d ((sz1 c z).o + 1))), some (V.ref pi)]
          rw [← e2]
          rfl
        · rw [decide_eq_false (fun e => h ((in_keys _).mp e))]
          refine iteF ⟨rfl, szStep z c, some (.ref pi), ?_, nxt.symm⟩
          have e : szStep z c = sz1 c z := by
            unfold szStep sz2
            rw [if_neg h]
          rw [e]
    · rintro σ H1 ⟨rfl, z, x4, rfl, hz⟩
      rw [List.length_map, len, List.take_length] at hz
      rw [← hz] at h30 h200
      refine ⟨_, rfl, _, _, rfl, rfl, _, rfl, ?_⟩
      rw [decide_eq_false (show ¬ (30 : Int) < z.d by omega)]
      refine iteF ⟨_, rfl, _, _, rfl, rfl, _, rfl, ?_⟩
      rw [decide_eq_false (show ¬ (200 : Int) < z.n by omega)]
      exact iteF q
end
end K


set_option Elab.async false
set_option linter.all false
set_option maxRecDepth 100000
set_option maxHeartbeats 4000000
/-! sets of texts: made of a list, sorted -/
namespace U
open PySem PySem.Spec PyProof.Rows L2
def textOf (e : Int × Value) : Str := match e.2 with
  | .str x _ => x
  | _ => Str.empty
def TextE (w : World) (e : Int × Value) : Prop := ∃ x u, e.2 = Value.str x u ∧ e.1 = hashStr w x
/-- a set of texts at a: its members in some order; its table as a walk wants it -/
def SetS (w : World) (h : Heap) (a : Addr) (l : List Str) : Prop :=
  ∃ ob es ep tb, (h.get? a = some ob ∧ ob.ExactSet ∧ ob.data = .set es ep tb) ∧ ((∀ e ∈ es.toList, TextE w e) ∧ (es.toList.map textOf).Perm l ∧ l.Nodup) ∧
    (es.size < scanBound ∧ tb.fits es.size = true) ∧ Ris tb.place.toList ∧ (w.params.followText "set-order" = true ∨ tb.led = true)
section
variable {P : Program} {w : World} {h h' : Heap} {a : Addr} {l : List Str}
theorem SetS.moved (R : SetS w h a l) (k : ∀ o, h.get? a = some o → h'.get? a = some o) : SetS w h' a l := by
  obtain ⟨ob, es, ep, tb, ⟨h1, h2⟩, r⟩ := R
  exact ⟨ob, es, ep, tb, ⟨k ob h1, h2⟩, r⟩
theorem text_elems {l : List (Int × Value)} (g : ∀ e ∈ l, TextE w e) : ElemsOf (PySem.strKind P w) l := by
  intro e he
  obtain ⟨x, u, h1, h2⟩ := g e he
  refine ⟨⟨x, ?_, h2⟩, ?_⟩ <;> rw [h1]
  · exact strKind_is P w x u
  · rfl
theorem text_is {e : Int × Value} (g : TextE w e) (k : Str) : (PySem.strKind P w).is k e.2 = true ↔ textOf e = k := by
  obtain ⟨x, u, h1, _⟩ := g
  unfold textOf
  rw [h1]
  show Value.isStrOf k (.str x u) = true ↔ x = k
  simp [Value.isStrOf]
end
section
variable {P : Program} {w : World} {A : Around} {E : Value → Shared → Prop} {s : Shared} {a : Addr}
/-- the table is stored, and laid anew where it is too full -/
theorem setS_store {gv : Bool → Sem Unit} (hg : ∀ (b : Bool) (s₁ : Shared) (Q' : Unit → Shared → Prop), Q' () s₁ → wpAny (model P w) A (gv b) Q' E s₁)
    {ob : Obj} {es es1 : Array (Int × Value)} {ep : Nat} {tb tb1 : SetTable} {l : List Str} {wd : Bool} {R : Option Bool → Shared → Prop}
    (o1 : s.heap.get? a = some ob) (o2 : ob.ExactSet) (o3 : ob.data = .set es ep tb)
    (e1 : ∀ e ∈ es1.toList, TextE w e) (e2 : (es1.toList.map textOf).Perm l) (e3 : l.Nodup) (e4 : es1.size < scanBound) (e5 : tb1.fits es1.size = true) (e6 : Ris tb1.place.toList) (e7 : w.params.followText "set-order" = true ∨ tb1.led = true)
    (hR : ∀ h', Heap.SameBut a s.heap h' → SetS w h' a l → R (some true) { s with heap := h' }) :
    wpAny (model P w) A (storeSet a es1 tb1 >>= fun _ => if (!wd && tb1.tooFull) = true then
        gv (relayAll tb1 es1 (SetTable.grown es1.size)).2.2 >>= fun _ => storeSet a (relayAll tb1 es1 (SetTable.grown es1.size)).1 (relayAll tb1 es1 (SetTable.grown es1.size)).2.1 >>= fun _ => pure (some true)
      else pure (some true)) R E s := by
  have st := store_at (es' := es1) (t' := tb1) o1 o3
  have same := Heap.SameBut.update s.heap a (Obj.putSet es1 tb1)
  refine wpAny_bind (wpAny_storeSet_of o1 o3 ?_ (fits_of_scanBound e4))
  split
  · have p1 := relayAll_perm tb1 es1 (SetTable.grown es1.size)
    have p2 := relayAll_fits tb1 es1 (SetTable.grown es1.size)
    have p3 := relayAll_ris tb1 es1 (SetTable.grown es1.size)
    have p4 := relayAll_led tb1 es1 (SetTable.grown es1.size)
    revert p1 p2 p3 p4
    generalize relayAll tb1 es1 (SetTable.grown es1.size) = z
    intro p1 p2 p3 p4
    have sz : z.1.size = es1.size := by
      have := p1.length_eq
      simpa using this
    have bd : z.1.size < scanBound := by omega
    have st2 := store_at (es' := z.1) (t' := z.2.1) st rfl
    refine wpAny_bind (hg _ _ _ (wpAny_bind (wpAny_storeSet_of st rfl (wpAny_pure (hR _ (same.trans (Heap.SameBut.update _ a _)) ?_)) (fits_of_scanBound bd))))
    refine ⟨_, z.1, _, z.2.1, ⟨st2, o2, rfl⟩, ⟨fun e he => e1 e (p1.mem_iff.mp he), (p1.map textOf).trans e2, e3⟩, ⟨bd, p2⟩, p3, ?_⟩
    rcases e7 with h | h
    · exact .inl h
    · exact .inr (p4.trans h)
  · exact wpAny_pure (hR _ same ⟨_, es1, _, tb1, ⟨st, o2, rfl⟩, ⟨e1, e2, e3⟩, ⟨e4, e5⟩, e6, e7⟩)
/-- a text is added -/
theorem setS_add {l : List Str} {k : Str} {u : Tok} {Q : Bool → Shared → Prop} (R : SetS w s.heap a l) (room : l.length + 1 < scanBound)
    (hQ : ∀ (b : Bool) (h' : Heap), Heap.SameBut a s.heap h' → SetS w h' a (if k ∈ l then l else k :: l) → Q b { s with heap := h' }) :
    wpAny (model P w) A (setAddHashed a (.str k u) ((PySem.strKind P w).hash k)) Q E s := by
  obtain ⟨ob, es, ep, tb, ⟨o1, o2, o3⟩, ⟨e1, e2, e3⟩, ⟨e4, e5⟩, e6, e7⟩ := R
  have key := strKind_is P w k u
  have el : ElemsOf (PySem.strKind P w) es.toList := text_elems e1
  unfold setAddHashed setAddHashedIn
  refine wpAny_holding (wpAny_bind (wpAny_setState_of o1 o3 e5 ?_))
  dsimp only
  rw [byScan_of (show (Value.str k u).scannable = true from rfl) e4 el, if_pos rfl]
  unfold setAddByScan
  refine wpAny_bind (wpAny_bind (wpAny_rule (wpAny_bind (wpAny_setScan_of key o1 o3 e5 el ?_))))
  have mem : k ∈ l ↔ ∃ e ∈ es.toList, (PySem.strKind P w).is k e.2 = true := by
    rw [← e2.mem_iff, List.mem_map]
    exact ⟨fun ⟨e, he, q⟩ => ⟨e, he, (text_is (e1 e he) k).mpr q⟩, fun ⟨e, he, q⟩ => ⟨e, he, (text_is (e1 e he) k).mp q⟩⟩
  cases hf : List.findIdx? (fun e => (PySem.strKind P w).is k e.2) es.toList with
  | some j =>
    obtain ⟨hj, pj, _⟩ := List.findIdx?_eq_some_iff_getElem.mp hf
    have hm : k ∈ l := mem.mpr ⟨_, List.getElem_mem hj, pj⟩
    have q := fun b => hQ b s.heap (Heap.SameBut.refl a s.heap)
    rw [if_pos hm] at q
    exact wpAny_pure (wpAny_pure (q _ ⟨ob, es, ep, tb, ⟨o1, o2, o3⟩, ⟨e1, e2, e3⟩, ⟨e4, e5⟩, e6, e7⟩))
  | none =>
    have hm : k ∉ l := fun z => by
      obtain ⟨e, he, q⟩ := mem.mp z
      have := List.findIdx?_eq_none_iff.mp hf e he
      rw [q] at this
      cases this
    rw [if_neg hm] at hQ
    dsimp only
    have p1 := layNew_perm tb es ((PySem.strKind P w).hash k) (.str k u)
    have p2 := layNew_fits tb es ((PySem.strKind P w).hash k) (.str k u)
    have p3 := layNew_ris tb es ((PySem.strKind P w).hash k) (.str k u) e6
    have p4 := layNew_led tb es ((PySem.strKind P w).hash k) (.str k u)
    revert p1 p2 p3 p4
    generalize layNew tb es ((PySem.strKind P w).hash k) (.str k u) = z
    obtain ⟨es1, tb1, wd, gave⟩ := z
    intro p1 p2 p3 p4
    dsimp only at p1 p2 p3 p4 ⊢
    have pc : es1.toList.Perm (((PySem.strKind P w).hash k, Value.str k u) :: es.toList) := by
      rw [Array.toList_push] at p1
      exact p1.trans (List.perm_append_singleton _ _)
    have sz : es1.size = l.length + 1 := by
      have h1 := pc.length_eq
      have h2 := e2.length_eq
      simp only [Array.length_toList, List.length_cons, List.length_map] at h1 h2
      omega
    have f1 : ∀ e ∈ es1.toList, TextE w e := by
      intro e he
      rcases List.mem_cons.mp (pc.mem_iff.mp he) with z | z
      · rw [z]
        exact ⟨k, u, rfl, rfl⟩
      · exact e1 e z
    have f2 : (es1.toList.map textOf).Perm (k :: l) := (pc.map textOf).trans (List.Perm.cons k e2)
    have f3 : (k :: l).Nodup := List.nodup_cons.mpr ⟨hm, e3⟩
    have f4 : es1.size < scanBound := by omega
    have f7 : w.params.followText "set-order" = true ∨ tb1.led = true := by
      rcases e7 with h | h
      · exact .inl h
      · exact .inr (p4.trans h)
    have gw : ∀ (b : Bool) (s₁ : Shared) (Q' : Unit → Shared → Prop), Q' () s₁ → wpAny (model P w) A (match b with | true => rule "set.scan.the-table-gave-way" | false => pure ()) Q' E s₁ := by
      intro b s₁ Q' q
      cases b with
      | true => exact wpAny_rule q
      | false => exact wpAny_pure q
    refine wpAny_bind (gw _ _ _ ?_)
    have go : ∀ h', Heap.SameBut a s.heap h' → SetS w h' a (k :: l) → Q true { s with heap := h' } := fun h' sb r => hQ true h' sb r
    split
    · refine wpAny_bind ?_
      rw [hashByValue_scannable 8 (show (Value.str k u).scannable = true from rfl)]
      refine wpAny_pure ?_
      generalize plainKind (Value.str k u) = pk
      cases pk with
      | true =>
        simp only [↓reduceIte]
        refine setS_store ?_ o1 o2 o3 f1 f2 f3 f4 p2 p3 f7 fun h' sb r => wpAny_pure (go h' sb r)
        intro b s₁ Q' q
        cases b <;> first | exact wpAny_rule q | exact wpAny_pure q
      | false =>
        simp only [Bool.false_eq_true, ↓reduceIte]
        refine setS_store (tb1 := { tb1 with plain := false }) ?_ o1 o2 o3 f1 f2 f3 f4 (SetTable.fits_plain_off p2) p3 f7 fun h' sb r => wpAny_pure (go h' sb r)
        intro b s₁ Q' q
        cases b <;> first | exact wpAny_rule q | exact wpAny_pure q
    · refine wpAny_bind (wpAny_pure ?_)
      simp only [↓reduceIte]
      refine setS_store ?_ o1 o2 o3 f1 f2 f3 f4 p2 p3 f7 fun h' sb r => wpAny_pure (go h' sb r)
      intro b s₁ Q' q
      cases b <;> first | exact wpAny_rule q | exact wpAny_pure q
/-- the first i of the texts, each once, in some order -/
def Same1 (l xs : List Str) : Prop := l.Nodup ∧ ∀ x, x ∈ l ↔ x ∈ xs
theorem setS_loop {I : Addr} {fp wr : List Addr} {G : Array GenState → Array GenState → Prop} {n : Nat} {Pv : Nat → Value → Prop} {St : Nat → Shared → Prop} {R : Result → Shared → Prop}
    (W : WalksS P w A.in1 I fp wr G n Pv St) (a : Addr) (ha : a ∉ fp) (xs : List Str) (hn : xs.length = n) (hb : xs.length + 1 < scanBound) (hv : ∀ i v, Pv i v → ∃ x u, xs[i]? = some x ∧ v = Value.str x u) :
    ∀ (m i : Nat) (s : Shared) (l : List Str), i + m = n → St i s → SetS w s.heap a l → Same1 l (xs.take i) → l.length ≤ i →
      (∀ s' l', Moved (a :: wr) G s s' → SetS w s'.heap a l' → Same1 l' xs → l'.length ≤ n → R (.ok (.ret .none)) s') →
      codeAny (model P w) A (.builtin "set.update.loop" ⟨[.ref a, .ref I], []⟩) R s := by
  have hw : a ∉ wr := fun h => ha (W.sub _ h)
  have more : ∀ b ∈ wr, b ∈ a :: wr := fun b hb => List.mem_cons_of_mem _ hb
  intro m
  induction m with
  | zero =>
    intro i s l hi st R1 R2 R3 fin
    have e : i = n := by omega
    subst e
    refine codeAny_builtin PyProof.Rows.F.entry_set_update_loop ?_
    rw [Around.under_plainId PyProof.Rows.F.plain_set_update_loop _]
    refine (show wpAny _ A.in1 (pyNext (.ref I) >>= _) _ _ s from wpAny_bind (W.done s _ _ st fun s' mv => wpAny_pure (fin s' l (mv.mono more) (R1.moved fun o e => mv.heap a o hw e) ?_ R3)))
    rw [List.take_of_length_le (by omega)] at R2
    exact R2
  | succ m ih =>
    intro i s l hi st R1 R2 R3 fin
    refine codeAny_builtin PyProof.Rows.F.entry_set_update_loop ?_
    rw [Around.under_plainId PyProof.Rows.F.plain_set_update_loop _]
    refine (show wpAny _ A.in1 (pyNext (.ref I) >>= _) _ _ s from wpAny_bind (W.item i s _ _ (by omega) st fun v s' pv st' mv => ?_))
    obtain ⟨x, u, hx, rfl⟩ := hv i v pv
    refine (show wpAny _ A.in1 (holding [Value.str x u] (setAdd a (.str x u)) >>= _) _ _ s' from wpAny_bind (wpAny_holding ?_))
    unfold setAdd
    refine wpAny_holding (wpAny_bind ((PySem.strKind P w).pyHash (k := x) (strKind_is _ _ _ _) ?_))
    refine setS_add (s := { s' with toks := s'.toks + 1 }) (R1.moved fun o e => mv.heap a o hw e) (by omega) fun b h' sb R4 => ?_
    have R5 : Same1 (if x ∈ l then l else x :: l) (xs.take (i + 1)) := by
      refine ⟨?_, fun y => ?_⟩
      · split
        · exact R2.1
        · rename_i hx
          exact List.nodup_cons.mpr ⟨hx, R2.1⟩
      · rw [List.take_add_one, hx, List.mem_append, ← R2.2 y]
        split
        · rename_i hx
          refine ⟨.inl, fun z => z.elim id fun z => ?_⟩
          have z := (List.mem_singleton.mp z : y = x)
          rw [z]
          exact hx
        · rw [List.mem_cons]
          exact ⟨fun z => z.elim (fun z => .inr (z ▸ List.mem_cons_self)) .inl, fun z => z.elim .inr fun z => .inl (List.mem_singleton.mp z)⟩
    have R6 : (if x ∈ l then l else x :: l).length ≤ i + 1 := by
      split
      · omega
      · rw [List.length_cons]
        omega
    refine wpAny_pure ⟨plainId_quiet PyProof.Rows.F.plain_set_update_loop _, ih (i + 1) _ _ (by omega) (W.frame _ s' _ _ st' (Nat.le_succ _) fun b hb o e => ?_) R4 R5 R6 fun s2 l2 mv2 r1 r2 r3 => ?_⟩
    · exact (sb.2 b fun z => ha (z ▸ hb)).trans e
    · exact fin s2 l2 (Moved.trans W.gtrans ((mv.mono more).then_heap (Nat.le_succ _) fun b o hb e => (sb.2 b fun z => hb (z ▸ List.mem_cons_self)).trans e) mv2) r1 r2 r3
theorem setS_fresh {h : Heap} {a : Addr} (e : h.get? a = some { cls := .type "set", dict := none, data := .set #[] 0 (.fresh 0 0 (!w.params.followText "set-order")) }) : SetS w h a [] := by
  refine ⟨_, #[], 0, _, ⟨e, ⟨rfl, rfl, rfl⟩, rfl⟩, ⟨fun e he => by simp at he, .refl _, .nil⟩, ⟨by decide, rfl⟩, List.Pairwise.nil, ?_⟩
  show _ ∨ (!w.params.followText "set-order") = true
  cases w.params.followText "set-order" <;> simp
abbrev set0 (w : World) : Obj := { cls := .type "set", dict := none, data := .set #[] 0 (.fresh 0 0 (!w.params.followText "set-order")) }
/-- set(xs), xs a list of texts -/
theorem call_set_texts {q : Addr} {items : Array Value} {xs : List Str} {Q : Value → Shared → Prop} (hh : A.handled = none) (hq : s.heap.IsList q items) (hx : StrsAre items.toList xs) (hb : xs.length + 1 < scanBound)
    (fin : ∀ (h' : Heap) (tk : Nat) (l : List Str), SetS w h' s.heap.objs.size l → Same1 l xs → l.length ≤ xs.length → (∀ b o, s.heap.get? b = some o → h'.get? b = some o) → Q (.ref s.heap.objs.size) { s with heap := h', toks := tk }) :
    wpAny (model P w) A (call (.type "set") [.ref q]) Q E s := by
  have hsz : xs.length = items.size := by rw [← StrsAre.len_eq hx, Array.length_toList]
  obtain ⟨cc, tl, m1⟩ := PySem.F.called_set.mro
  have m2 := PySem.F.called_set.made
  have m3 := PySem.F.called_set.sub
  refine wpAny_call (codeAny_of_tree (show wpAny _ _ (callAny (.type "set") _) _ _ _ from wpAny_pure ⟨Code.quiet_builtin _ (by decide +kernel), codeAny_builtin PySem.F.entry_type_call ?_⟩))
  rw [Around.under_plain (weight_type_call_type "set" [.ref q] []) rfl]
  have m4 := PySem.F.called_set.notType
  have m5 := PySem.F.called_set.canCreate
  have m6 := PySem.F.typeCall_set_1 (.ref q)
  repeat (any_goals (first | assumption | wp_step))
  refine codeAny_mono (code_set_led1 (.ref q) (E := E) (Q₁ := fun ob s1 => ob = .ref s.heap.objs.size ∧ s1 = { s with heap := s.heap.push (set0 w) }) ⟨rfl, rfl⟩) fun r s1 hr => ?_
  match r, hr with
  | .error e, hr => exact hr
  | .ok (.ret ob), hr =>
    obtain ⟨rfl, rfl⟩ := hr
    have at0 : (s.heap.push (set0 w)).get? s.heap.objs.size = some (set0 w) := Heap.get?_push_size _ rfl
    have ty0 : Shared.TypeIs { s with heap := s.heap.push (set0 w) } (.ref s.heap.objs.size) "set" := ⟨_, at0, rfl⟩
    have n1 := PySem.F.called_set.init.lookup
    have n2 := PySem.F.called_set.init.bind (.ref s.heap.objs.size)
    repeat (any_goals (first | assumption | wp_step))
    refine codeAny_mono (codeAny_call_builtin (R := wants (fun r s2 => r = .none ∧ ∃ h' tk l, s2 = { s with heap := h', toks := tk } ∧ (SetS w h' s.heap.objs.size l ∧ Same1 l xs ∧ l.length ≤ xs.length) ∧ (∀ b o, s.heap.get? b = some o → h'.get? b = some o)) E)
      PySem.F.called_set.init.plain PySem.F.entry_set_init (check_set_init_1 ty0 ?_)) fun r2 s2 hr2 => ?_
    · obtain ⟨⟨c1, c2, c3, c4⟩, g1, g2, nn, g3⟩ := hq
      simp only at g2 g3
      subst g2
      subst g3
      have at1 := Heap.get?_push_of_some (set0 w) g1
      have li : (s.heap.push (set0 w)).IsList q items := ⟨_, at1, rfl, nn, rfl⟩
      have u1 := PySem.F.sub_list_set
      have u2 := PySem.F.sub_list_frozenset
      have u3 : (Value.type "list" == Value.type "dict") = false := by decide
      unfold Builtin.«set.__init__» noKeywords Builtin.Frozenset.updateFrom
      generalize hPI : pyIter = PI
      wp_walk
      subst hPI
      refine wpAny_pyIter_list li (wpAny_bind (wpAny_runValue ?_))
      have lt : q < s.heap.objs.size := Heap.lt_size g1
      have hh3 : A.in1.in1.in1.handled = none := by simp [hh]
      have z1 : (s.heap.push (set0 w)).objs.size = s.heap.objs.size + 1 := Heap.size_push ..
      have ne1 : q ≠ (s.heap.push (set0 w)).objs.size := by
        rw [z1]
        exact Nat.ne_of_lt (Nat.lt_succ_of_lt lt)
      have ne2 : s.heap.objs.size ∉ [(s.heap.push (set0 w)).objs.size, q] := by
        rw [z1]
        simp only [List.mem_cons, List.mem_singleton, List.not_mem_nil, or_false, not_or]
        exact ⟨Nat.ne_of_lt (Nat.lt_succ_self _), Nat.ne_of_gt lt⟩
      have val : ∀ (i : Nat) (v : Value), items[i]? = some v → ∃ x u, xs[i]? = some x ∧ v = Value.str x u := fun i v hv => by
        have hi : i < xs.length := by
          have := (Array.getElem?_eq_some_iff.mp hv).1
          omega
        obtain ⟨t, e⟩ := SS.strs_at hx i v (by rw [Array.getElem?_toList]; exact hv)
        exact ⟨xs[i], t, List.getElem?_eq_getElem hi, by rw [e, List.getD_eq_getElem?_getD, List.getElem?_eq_getElem hi]; rfl⟩
      refine setS_loop ((Walks.list hh3 _ q ne1 items).toS) s.heap.objs.size ne2 xs hsz hb val (items.size - 0) 0 _ [] (by omega) ⟨⟨_, Heap.get?_push_size _ rfl, rfl, rfl⟩, li.push _⟩ (setS_fresh (Heap.get?_push_of_some _ at0)) ⟨.nil, fun x => by simp⟩ (Nat.le_refl 0) ?_
      intro s3 l mv r1 r2 r3
      obtain ⟨h3, g3, d3, t3, o3⟩ := s3
      obtain rfl : g3 = s.gens := mv.gens
      obtain rfl : d3 = s.drawn := mv.drawn
      obtain rfl : o3 = s.os := mv.os
      refine (show wpAny _ _ _ _ _ _ from wpAny_pure (show wpAny _ _ (ret Value.none) _ _ _ from wpAny_pure ⟨rfl, h3, t3, l, rfl, ⟨r1, r2, by omega⟩, fun b o e => ?_⟩))
      have lb : b < s.heap.objs.size := Heap.lt_size e
      refine mv.heap b o ?_ (Heap.get?_push_of_some _ (Heap.get?_push_of_some _ e))
      rw [z1]
      simp only [List.mem_cons, List.mem_singleton, List.not_mem_nil, or_false, not_or]
      exact ⟨Nat.ne_of_lt lb, Nat.ne_of_lt (Nat.lt_succ_of_lt lb)⟩
    · match r2, hr2 with
      | .error e, hr2 => exact hr2
      | .ok (.ret r), hr2 =>
        obtain ⟨rfl, h3, t3, l, rfl, ⟨r1, r2, r3⟩, kp⟩ := hr2
        repeat (any_goals (first | assumption | wp_step))
        exact fin _ _ l r1 r2 r3 kp
      | .ok .next, hr2 => exact hr2.elim
      | .ok .brk, hr2 => exact hr2.elim
      | .ok .cont, hr2 => exact hr2.elim
  | .ok .next, hr => exact hr.elim
  | .ok .brk, hr => exact hr.elim
  | .ok .cont, hr => exact hr.elim
end
end U

set_option Elab.async false
set_option linter.all false
set_option maxRecDepth 100000
set_option maxHeartbeats 4000000
/-! sets of texts, sorted; both as rules -/
namespace U
open PySem PySem.Spec PyProof.Rows L2
theorem texts_of {w : World} : ∀ (vs : List Value), (∀ v ∈ vs, ∃ x u, v = Value.str x u) → StrsAre vs (vs.map fun v => textOf (0, v))
  | [], _ => .nil
  | v :: r, h => by
    obtain ⟨x, u, rfl⟩ := h v List.mem_cons_self
    exact .cons x u (texts_of (w := w) r fun y hy => h y (List.mem_cons_of_mem _ hy))
section
variable {P : Program} {w : World} {A : Around} {E : Value → Shared → Prop} {s : Shared} {a : Addr}
theorem sorted_setS {l : List Str} {Q : Value → Shared → Prop} (R : SetS w s.heap a l) (hh : A.handled = none) (h64 : l.length < 64)
    (fin : ∀ s' p (out : Array Value) (c : Nat) (ys : List Str), (∀ b o, s.heap.get? b = some o → s'.heap.get? b = some o) → s'.gens = s.gens → s'.os = s.os → s.heap.objs.size ≤ p →
      s'.heap.get? p = some (seqObj "list" out c) → StrsAre out.toList ys → ys.Perm l → sortedS ys = true → Q (.ref p) s') :
    wpAny (model P w) A (call (.builtin "sorted") [.ref a]) Q E s := by
  obtain ⟨ob, es, ep, tb, ⟨o1, o2, o3⟩, ⟨e1, e2, e3⟩, ⟨e4, e5⟩, e6, e7⟩ := R
  refine Calls.call_function_entry kind_sorted plain_sorted entry_sorted (args_sorted1 _) ?_
  unfold Builtin.«sorted»
  refine wpAny_bind (m := checkCount "sorted" 1 1 _) (wpAny_pure (wpAny_bind (collect_set (A := A.in1) hh ⟨ob, o1, o2.1, o3⟩ e5 e4 e6 e7 fun s1 vs k1 z1 g1 p1 pm => ?_)))
  have len : vs.length = l.length := by
    have q1 := pm.length_eq
    have q2 := e2.length_eq
    simp only [List.length_map] at q1 q2
    omega
  have tx : StrsAre vs (vs.map fun v => textOf (0, v)) := texts_of (w := w) vs fun v hv => by
    obtain ⟨e, he, q⟩ := List.mem_map.mp (pm.mem_iff.mp hv)
    obtain ⟨x, u, h1, _⟩ := e1 e he
    exact ⟨x, u, q ▸ h1⟩
  have pl : (vs.map fun v => textOf (0, v)).Perm l := by
    have q := pm.map fun v => textOf (0, v)
    rw [List.map_map] at q
    exact q.trans e2
  refine wpAny_bind (wpAny_newList ?_ (by rw [len, sizeLine_eq]; omega))
  have at1 : (s1.heap.push (seqObj "list" vs.toArray 0)).get? s1.heap.objs.size = some (seqObj "list" vs.toArray 0) := Heap.get?_push_size _ rfl
  refine wpAny_bind (wpAny_holding (wpAny_call_entry slot_list_sort ⟨_, at1, rfl⟩ entry_list_sort
    (list_sort_treeK strKind_oneLt at1 tx.keysOf (fun v₁ v₂ rest e => keyKind_strs (by rw [← e]; exact tx)) (by rw [len]; exact h64) fun st' hp hs => ?_) (args_list_sort _)))
  obtain ⟨ys, y1, y2, y3⟩ := sorted_out_str tx hp hs
  obtain ⟨c, hc⟩ := sortedHeap_at (vs := vs) (out := (arrOf st').map (·.2)) at1
  refine ⟨_, rfl, wpAny_pure ⟨_, rfl, fin _ s1.heap.objs.size _ c ys (fun b u e => ?_) g1 p1 z1 hc y1 (y2.trans pl) y3⟩⟩
  have old := k1 b u e
  have lt := Heap.lt_size old
  exact (sortedHeap_old (Nat.ne_of_lt lt) (by rw [size_push']; exact Nat.lt_succ_of_lt lt)).trans (Heap.get?_push_of_some _ old)
end
/-! ### as rules -/
/-- the set of these texts at a -/
def SetSO (w : World) (a : Addr) (l : List Str) : HO := .ext fun h => SetS w h a l
theorem setSO_ok {w : World} {P : Program} {H : Hp} {h : Heap} {a : Addr} {l : List Str} (R : SetS w h a l) : ObjOk P w H h a (SetSO w a l) := by
  refine ⟨R, ?_, fun h1 h2 p k => p.moved k⟩
  obtain ⟨ob, _, _, _, ⟨e, _⟩, _⟩ := R
  exact ⟨ob, e⟩
section
variable {X : Cx}
/-- set(xs), xs a list of texts -/
def rSetOf (K : PySem.W.Frag) (w : World) : List V → Hp → VK → Prop := fun vs H Q => ∃ (q : Addr) (xs : List Str), vs = [V.ref q] ∧ SqL K H q (xs.map V.str) ∧ xs.length + 1 < scanBound ∧ ∀ p l, Same1 l xs → l.length ≤ xs.length → H p = none → Q (.ref p) (upd H p (SetSO w p l))
theorem cr_setOf (hc : X.calm = true) : CallR X (.type "set") (rSetOf X.K X.w) := by
  intro pins s σ H vs us Q I r h
  obtain ⟨q, xs, rfl, hq, hb, go⟩ := h
  obtain ⟨its, rv, li, _⟩ := I.list hq
  rw [Vals.ref1 r]
  refine call_set_texts (I.ok.hd hc) li.isList (by simpa using strsAre_of rv) hb fun h' tk l r1 r2 r3 kp => ?_
  have fr : H s.heap.objs.size = none := I.hok.fresh (Nat.le_refl _)
  exact ⟨.ref _, upd H s.heap.objs.size (SetSO X.w s.heap.objs.size l), I.laid (t' := tk) kp (Nat.le_refl _) (setSO_ok r1), rfl, go _ l r2 r3 fr⟩
/-- sorted(found), a set of fewer than 64 texts -/
def rSortedOf (w : World) : List V → Hp → VK → Prop := fun vs H Q => ∃ (a : Addr) (l : List Str), vs = [V.ref a] ∧ H a = some (SetSO w a l) ∧ l.length < 64 ∧ ∀ (ys : List Str) (p : Addr), ys.Perm l → sortedS ys = true → H p = none → Q (.ref p) (upd H p (.lst (ys.map V.str)))
theorem cr_sortedOf (hc : X.calm = true) : CallR X (.builtin "sorted") (rSortedOf X.w) := by
  intro pins s σ H vs us Q I r h
  obtain ⟨a, l, rfl, ha, h64, go⟩ := h
  rw [Vals.ref1 r]
  refine sorted_setS (I.hok a _ ha).1 (I.ok.hd hc) h64 fun s' p out c ys k g o hp at' st pm so => ?_
  have fr : H p = none := I.hok.fresh hp
  have sz : (ys.map V.str).length ≤ sizeLine := by
    rw [List.length_map, pm.length_eq, sizeLine_eq]
    omega
  obtain ⟨h1, g1, d1, t1, o1⟩ := s'
  obtain rfl : o1 = s.os := o
  refine ⟨.ref p, upd H p (.lst (ys.map V.str)), ?_, rfl, go ys p pm so fr⟩
  exact I.call (ch := []) (Un.laid k hp fr) (I.hok.laid k hp ⟨sz, out.toList, c, vals_of_strs st, at'⟩) (by rw [show g1 = s.gens from g]; exact I.bare) (fun _ z => nomatch z)
end
end U

set_option Elab.async false
set_option linter.all false
set_option maxRecDepth 100000
set_option maxHeartbeats 4000000
namespace K
open PySem PySem.Spec PyProof.Rows L2 U
/-- the class Tree as the top has made it -/
structure TreeC (K : PySem.W.Frag) (C : Addr) : Prop where
  cl : Cls K C
  nt : NoAttr K C "text"
  nk : NoAttr K C "kind"
  ns : NoAttr K C "small"
  nw : NoAttr K C "within"
  nf : NoAttr K C "free"
  nc : NoAttr K C "code"
/-- a tree at q, its free names -/
def FreeAt (C : Addr) (H : Hp) (q : Addr) (fr : List Str) : Prop := ∃ dx fs tf, H q = some (.ins C dx fs) ∧ fs.lookup ("free" : Str) = some (.ref tf) ∧ H tf = some (.tup (fr.map V.str))
theorem FreeAt.same {C : Addr} {H H' : Hp} {q : Addr} {fr : List Str} (h : FreeAt C H q fr) (s : Same H H') : FreeAt C H' q fr := by
  obtain ⟨dx, fs, tf, h1, h2, h3⟩ := h
  exact ⟨dx, fs, tf, s _ _ h1, h2, s _ _ h3⟩
/-- all free names within, the last one's without the small name -/
def found (frs : List (List Str)) (small : V) : List Str := frs.dropLast.flatten ++ ((frs.drop (frs.length - 1)).flatten.filter fun y => !decide (V.str y = small))
/-- what these slices of a tuple are -/
theorem sl_most {K : PySem.W.Frag} {H : Hp} {a : Addr} {xs : List V} {Q : VK} (h : SqT K H a xs) (hQ : ∀ p H', Same H H' → SqT K H' p xs.dropLast → Q (.ref p) H') : rSlA K (.ref a) none (some (-1)) H Q := by
  have e1 : HT.sIx xs.length xs.length (some (-1)) = xs.length - 1 := by
    show (if (-1 : Int) < 0 then (-1 + (xs.length : Int)).toNat else min (-1 : Int).toNat xs.length) = _
    rw [if_pos (by decide)]
    omega
  refine ⟨a, xs, rfl, h, fun e => ?_, fun e p hp => ?_⟩
  · rw [e1] at e
    have e2 : xs = [] := List.eq_nil_of_length_eq_zero (by omega)
    subst e2
    exact hQ a H (Same.refl H) h
  · refine hQ p _ (same_new hp) (.inl (.inl (upd_same.trans ?_)))
    unfold cutV
    rw [e1, HT.sIx_none, List.drop_zero, Nat.sub_zero, List.dropLast_eq_take]
theorem no_part {σ : L2.St} {H : Hp} {Q : Option Int → Hp → Prop} (h : Q none H) : tNoPart σ H Q := h
theorem sl_end {K : PySem.W.Frag} {H : Hp} {a : Addr} {xs : List V} {Q : VK} (h : SqT K H a xs) (hQ : ∀ p H', Same H H' → SqT K H' p (xs.drop (xs.length - 1)) → Q (.ref p) H') : rSlA K (.ref a) (some (-1)) none H Q := by
  have e1 : HT.sIx xs.length 0 (some (-1)) = xs.length - 1 := by
    show (if (-1 : Int) < 0 then (-1 + (xs.length : Int)).toNat else min (-1 : Int).toNat xs.length) = _
    rw [if_pos (by decide)]
    omega
  refine ⟨a, xs, rfl, h, fun e => ?_, fun e p hp => ?_⟩
  · rw [e1] at e
    have e2 := e.1
    refine hQ a H (Same.refl H) ?_
    rw [e2, List.drop_zero]
    exact h
  · refine hQ p _ (same_new hp) (.inl (.inl (upd_same.trans ?_)))
    unfold cutV
    rw [e1, HT.sIx_none, List.take_of_length_le (by rw [List.length_drop]; exact Nat.le_refl _)]
/-- free_in of a tree whose kind, text, small, within stand -/
def spFreeIn (C : Addr) : Sp := fun vs H Q _ => ∃ (p dx tw : Addr) (fs : List (Str × V)) (text kind : List Nat) (small : V) (qs : List Addr) (frs : List (List Str)), vs = [.ref p] ∧ H p = some (.ins C dx fs) ∧
  fs.lookup ("kind" : Str) = some (.str (tx kind)) ∧ fs.lookup ("text" : Str) = some (.str (tx text)) ∧ fs.lookup ("small" : Str) = some small ∧ (small = .non ∨ ∃ z, small = .str z) ∧ fs.lookup ("within" : Str) = some (.ref tw) ∧ H tw = some (.tup (qs.map V.ref)) ∧
  Paired (FreeAt C H) qs frs ∧ (found frs small).length ≤ 1000 ∧ (∃ N : List Str, N.length < 64 ∧ ∀ x ∈ found frs small, x ∈ N) ∧
  ∀ r H' ys, Same H H' → H' r = some (.tup (ys.map V.str)) → (kind = Kd.name.cs → ys = [tx text]) → (kind ≠ Kd.name.cs → ys.Nodup ∧ sortedS ys = true ∧ ∀ x, x ∈ ys ↔ x ∈ found frs small) → Q (.ref r) H'
theorem SqT.updL {K : PySem.W.Frag} {H : Hp} {a b : Addr} {l xs : List V} {o : HO} (e : H a = some (.lst l)) (h : SqT K H b xs) : SqT K (upd H a o) b xs := by
  rcases h with (h | ⟨ob, h⟩) | h
  · exact .inl (.inl (by rw [upd_ne (ne_of h e (by intro z; cases z))]; exact h))
  · exact .inl (.inr ⟨ob, by rw [upd_ne (ne_of h e (by intro z; cases z))]; exact h⟩)
  · exact .inr h
theorem Same.seqT {K : PySem.W.Frag} {H H' : Hp} {a : Addr} {xs : List V} (e : Same H H') (h : SqT K H a xs) : SqT K H' a xs := by
  rcases h with (h | ⟨o, h⟩) | h
  · exact .inl (.inl (e _ _ h))
  · exact .inl (.inr ⟨o, e _ _ h⟩)
  · exact .inr h
theorem flat_take {α : Type} (l : List (List α)) (n : Nat) : (l.take n).flatten.length ≤ l.flatten.length := by
  have h : l.flatten = (l.take n).flatten ++ (l.drop n).flatten := by rw [← List.flatten_append, List.take_append_drop]
  rw [h, List.length_append]
  omega
theorem nodup_sub {α : Type} [DecidableEq α] : ∀ (l N : List α), l.Nodup → (∀ x ∈ l, x ∈ N) → l.length ≤ N.length
  | [], N, _, _ => Nat.zero_le _
  | x :: l, N, h, s => by
    obtain ⟨h1, h2⟩ := List.nodup_cons.mp h
    have hx := s x List.mem_cons_self
    have ih := nodup_sub l (N.erase x) h2 fun y hy => by
      have ne : y ≠ x := fun e => h1 (e ▸ hy)
      exact (List.mem_erase_of_ne ne).mpr (s y (List.mem_cons_of_mem _ hy))
    rw [List.length_erase_of_mem hx] at ih
    have := List.length_pos_of_mem hx
    rw [List.length_cons]
    omega
section
variable {P : Program} {w : World} {K : PySem.W.Frag} {mg : Str → Option Value} {base : Heap} {dW dB : Addr} {esW : Array DictEntry} {nW : Nat} (T : Txt K mg w dW dB esW nW)
include T
theorem ok_free_in {f C : Addr} {fd : FuncData} (F : Fun K "free_in" "free_in" s_free_in f fd) (TC : TreeC K C) : FnOk P w K mg base CX0 1 f fd ["tree"] (spFreeIn C) := by
  refine F.ok sc_free_in (fun vs H Q E h => ?_) (fun cdv A outer s H vs Q E hr h => ?_)
  · obtain ⟨p, dx, tw, fs, text, kind, small, qs, frs, rfl, _⟩ := h
    rfl
  · obtain ⟨p, dx, tw, fs, text, kind, small, qs, frs, rfl, hp, hk, ht, hs, hs2, hw, htw, pf, hlen, ⟨N, hN, hN2⟩, q⟩ := h
    refine ⟨_, (pss_cons (ps_if (pt_cmpR op_eq (pe_fld (pv 0) (by rfl)) pe_str (nomark _)) 
        (pss_one (ps_ret (pe_tup (pa_cons (pe_fld (pv 0) (by rfl)) pa_nil)))) pss_nil)
      (pss_cons (ps_set (i := 1) sc_free_in.nd rfl (.inl rfl) (pe_lst pa_nil))
      (pss_cons (ps_for PassesOwn.never rfl (pi_tup (pe_slice sl_tupA (pe_fld (pv 0) (by rfl)) po_none (po_some (pe_un un_neg pe_int)))) (pg_name (i := 2) sc_free_in.nd rfl (.inl rfl)) 
        (pss_one (ps_expr (pe_bm PySem.F.plainAttrs_list PySem.F.slot_list_extend PySem.F.type_list_extend mt_extendT (pv 1) (pa_cons (pe_fld (pv 2) (by rfl)) pa_nil)))))
      (pss_cons (ps_for PassesOwn.never rfl (pi_tup (pe_slice sl_tupA (pe_fld (pv 0) (by rfl)) (po_some (pe_un un_neg pe_int)) po_none)) (pg_name (i := 2) sc_free_in.nd rfl (.inl rfl)) 
        (pss_one (ps_expr (pe_bm PySem.F.plainAttrs_list PySem.F.slot_list_extend PySem.F.type_list_extend mt_extend (pv 1) (pa_cons (pe_lc (own := [("small", 3)]) (g := gName 3) (tt := tTest (tOp rNe (tVar 3) (tFld K (tVar 0) "small"))) rfl sc_free_in.nd (pi_tup (pe_fld (pv 2) (by rfl))) (blkOk_by (N := nm_free_in) (sc := defScope s_free_in) (by decide +kernel)) (fun _ _ _ _ _ => pg_name (i := 3) sc_free_in.nd rfl (.inl rfl)) (fun _ _ _ _ _ => pts_one (pt_cmpR op_ne (pv 3) (pe_fld (pv 0) (by rfl)) (nomark _))) (fun _ _ _ _ _ => (pv 3))) pa_nil)))))
      (pss_one (ps_ret (pe_callTy call_tuple_of (by rfl) T.z_tuple (by decide +kernel) (pa_cons (pe_callB (cr_sortedOf rfl) (by rfl) T.z_sorted (by decide +kernel) (pa_cons (pe_callTy (cr_setOf rfl) (by rfl) T.z_set (by decide +kernel) (pa_cons (pv 1) pa_nil)) pa_nil)) pa_nil)))))))), ?_⟩
    have nm : Str.ofString "name" = tx Kd.name.cs := by decide +kernel
    refine ⟨_, rfl, p, C, dx, _, _, rfl, hp, TC.cl, TC.nk, hk, rfl, _, rfl, ?_⟩
    rw [nm, str_eq]
    by_cases h : kind = Kd.name.cs
    · rw [decide_eq_true h]
      refine iteT ⟨_, rfl, p, C, dx, _, _, rfl, hp, TC.cl, TC.nt, ht, sizeLine_ge (by show 1 ≤ 10000; decide), fun r hr => ?_⟩
      exact q r _ [tx text] (same_new hr) upd_same (fun _ => rfl) fun z => absurd h z
    · rw [decide_eq_false h]
      refine iteF ⟨Nat.zero_le _, fun aF hF => ?_⟩
      have s0 : Same H (upd H aF (.lst [])) := same_new hF
      refine ⟨_, rfl, p, C, dx, _, _, rfl, s0 _ _ hp, TC.cl, TC.nw, hw, _, rfl, ?_⟩
      have plen := pf.length
      have fl : (frs.dropLast.flatten).length + ((frs.drop (frs.length - 1)).flatten.filter fun y => !decide (V.str y = small)).length ≤ 1000 := by
        rw [← List.length_append]
        exact hlen
      -- the first ones' free names
      refine ⟨_, rfl, sl_most (.inl (.inl (s0 _ _ htw))) fun b1 H1 s1 hb1 => ⟨b1, rfl, ⟨_, hb1⟩, for_it (walk_tup (xs := (qs.map V.ref).dropLast)) (fun i σ H' => Same H H' ∧ SqT K H' b1 (qs.map V.ref).dropLast ∧ ∃ x2 x3, σ = [some (.ref p), some (.ref aF), x2, x3] ∧ H' aF = some (.lst ((frs.dropLast.take i).flatten.map V.str)))
        ⟨s0.trans s1, hb1, _, _, rfl, s1 _ _ upd_same⟩ (fun i σ H' _ h => h.2.1) ?_ ?_⟩⟩
      · rintro i x σ H2 H3 hi ⟨s2, hb2, x2, x3, rfl, eF⟩ ⟨rfl, hx⟩
        rw [List.length_dropLast, List.length_map] at hi
        have hq : qs[i]? = some qs[i] := List.getElem?_eq_getElem (by omega)
        have hr2 : frs[i]? = some frs[i] := List.getElem?_eq_getElem (by omega)
        obtain ⟨qi, e1, dq, fq, tf, g1, g2, g3⟩ := Paired.at_ pf hr2
        have ex : x = .ref qi := by
          rw [List.getElem?_dropLast, if_pos (by rw [List.length_map]; omega), List.getElem?_map, e1] at hx
          exact (Option.some.inj hx).symm
        subst ex
        have hd : frs.dropLast[i]? = some frs[i] := by
          rw [List.getElem?_dropLast, if_pos (by omega), hr2]
        have nF : aF ≠ b1 ∨ True := .inr trivial
        refine ⟨_, rfl, .inl ⟨rfl, _, .inl (.inl eF)⟩, _, rfl, qi, C, dq, _, _, rfl, s2 _ _ g1, TC.cl, TC.nf, g2, aF, tf, _, _, rfl, rfl, eF, .inl (.inl (s2 _ _ g3)), ?_, ?_⟩
        · have h := flat_take frs.dropLast (i + 1)
          rw [List.take_add_one, hd, List.flatten_append, List.length_append] at h
          simp only [Option.toList_some, List.flatten_cons, List.flatten_nil, List.append_nil] at h
          rw [List.length_map, List.length_map]
          exact sizeLine_ge (by omega)
        · refine ⟨upd_new hF s2, SqT.updL eF hb2, _, _, rfl, ?_⟩
          · rw [upd_same, List.take_add_one, hd, List.flatten_append, List.map_append]
            simp
      · rintro σ H2 ⟨s2, hb2, x2, x3, rfl, eF⟩
        rw [List.length_dropLast, List.length_map, plen, show frs.length - 1 = frs.dropLast.length by rw [List.length_dropLast], List.take_length] at eF
        -- the last one's free names
        refine ⟨_, rfl, p, C, dx, _, _, rfl, s2 _ _ hp, TC.cl, TC.nw, hw, _, rfl, _, rfl, ?_⟩
        refine no_part ?_
        refine sl_end (.inl (.inl (s2 _ _ htw))) fun b2 H3 s3 hb3 => ⟨b2, rfl, ⟨_, hb3⟩, for_it (walk_tup (xs := (qs.map V.ref).drop ((qs.map V.ref).length - 1)))
          (fun i σ H' => Same H H' ∧ SqT K H' b2 ((qs.map V.ref).drop ((qs.map V.ref).length - 1)) ∧ ∃ x2 x3, σ = [some (.ref p), some (.ref aF), x2, x3] ∧
            H' aF = some (.lst ((frs.dropLast.flatten ++ (((frs.drop (frs.length - 1)).take i).flatten.filter fun y => !decide (V.str y = small))).map V.str)))
          ⟨s2.trans s3, hb3, _, _, rfl, by rw [s3 _ _ eF]; simp⟩ (fun i σ H' _ h => h.2.1) ?_ ?_⟩
        · rintro i x σ H4 H5 hi ⟨s4, hb4, y2, y3, rfl, eF4⟩ ⟨rfl, hx⟩
          rw [List.length_drop, List.length_map] at hi
          have hi0 : i = 0 := by omega
          subst hi0
          have hr2 : frs[frs.length - 1]? = some (frs[frs.length - 1]'(by omega)) := List.getElem?_eq_getElem (by omega)
          obtain ⟨qi, e1, dq, fq, tf, g1, g2, g3⟩ := Paired.at_ pf hr2
          have ex : x = .ref qi := by
            rw [List.getElem?_drop, List.getElem?_map, List.length_map, Nat.add_zero, plen, e1] at hx
            exact (Option.some.inj hx).symm
          subst ex
          have hd : (frs.drop (frs.length - 1)).take 1 = [frs[frs.length - 1]'(by omega)] := by
            rw [List.take_one, List.head?_drop, hr2]
            rfl
          have hd2 : frs.drop (frs.length - 1) = [frs[frs.length - 1]'(by omega)] := by
            rw [← hd, List.take_of_length_le (by rw [List.length_drop]; omega)]
          rw [hd2] at fl
          generalize frs[frs.length - 1]'(by omega) = fr at g3 hd fl
          simp only [List.flatten_cons, List.flatten_nil, List.append_nil] at fl
          have eF5 : H5 aF = some (.lst (frs.dropLast.flatten.map V.str)) := by
            rw [eF4]
            simp
          refine ⟨_, rfl, .inl ⟨rfl, _, .inl (.inl eF5)⟩, _, rfl, qi, C, dq, _, _, rfl, s4 _ _ g1, TC.cl, TC.nf, g2, tf, rfl, ⟨_, .inl (.inl (s4 _ _ g3))⟩, fun D hD => lc_it (walk_tup (xs := fr.map V.str))
            (fun j H' => Same H5 H' ∧ H' D = some (.lst (((fr.take j).filter fun y => !decide (V.str y = small)).map V.str))) ⟨same_new hD, upd_same⟩ (fun j H' _ h => .inl (.inl (h.1 _ _ (s4 _ _ g3)))) ?_ ?_⟩
          · rintro j x H6 H7 hj ⟨s6, d6⟩ ⟨rfl, hx⟩
            rw [List.length_map] at hj
            have hy : x = .str fr[j] := by
              rw [List.getElem?_map, List.getElem?_eq_getElem hj] at hx
              exact (Option.some.inj hx).symm
            subst hy
            have sc : scal (V.str fr[j]) small = true := by
              rcases hs2 with h | ⟨z, h⟩ <;> rw [h] <;> rfl
            refine ⟨rfl, _, rfl, _, rfl, p, C, dx, _, _, rfl, s6 _ _ (s4 _ _ hp), TC.cl, TC.ns, hs, sc, _, rfl, ?_⟩
            have tk : (fr.take (j + 1)).filter (fun y => !decide (V.str y = small)) = (fr.take j).filter (fun y => !decide (V.str y = small)) ++ (if !decide (V.str fr[j] = small) then [fr[j]] else []) := by
              rw [List.take_add_one, List.getElem?_eq_getElem hj, List.filter_append]
              simp [List.filter_cons]
            by_cases hc : V.str fr[j] = small
            · rw [decide_eq_true hc] at tk ⊢
              refine iteF ⟨s6, ?_⟩
              rw [tk, d6]
              simp
            · rw [decide_eq_false hc] at tk ⊢
              refine iteT ⟨_, rfl, _, d6, ?_, fun b o e => ?_, ?_⟩
              · have := ((List.take_sublist j fr).filter fun y => !decide (V.str y = small)).length_le
                rw [List.length_map]
                exact small1000 (by omega)
              · rw [upd_ne (ne_of_none e hD)]
                exact s6 _ _ e
              · rw [upd_same, tk]
                simp
          · rintro H6 ⟨s6, d6⟩
            rw [List.length_map, List.take_length] at d6
            refine ⟨aF, D, _, _, rfl, rfl, s6 _ _ eF5, d6, ?_, ?_⟩
            · rw [List.length_map, List.length_map]
              exact sizeLine_ge (by omega)
            · refine ⟨upd_new hF (s4.trans s6), SqT.updL (s6 _ _ eF5) (Same.seqT s6 hb4), _, _, rfl, ?_⟩
              rw [upd_same, hd]
              simp
        · rintro σ H4 ⟨s4, hb4, y2, y3, rfl, eF4⟩
          rw [List.take_of_length_le (by rw [List.length_drop, List.length_drop, List.length_map]; omega)] at eF4
          -- tuple(sorted(set(found)))
          refine ⟨_, rfl, aF, found frs small, rfl, .inl (.inl eF4), ?_, fun a1 l s1' ll h1 => ⟨a1, l, rfl, upd_same, ?_, fun ys a2 pm so h2 => ⟨a2, ys.map V.str, rfl, .inl ⟨.inl (.inl upd_same), fun a3 h3 => ?_⟩⟩⟩⟩
          · exact Nat.lt_of_le_of_lt (Nat.add_le_add_right hlen 1) (by decide)
          · exact Nat.lt_of_le_of_lt (nodup_sub l N s1'.1 fun x hx => hN2 x ((s1'.2 x).mp hx)) hN
          · refine q a3 _ ys (s4.trans ((same_new h1).trans ((same_new h2).trans (same_new h3)))) upd_same (fun z => absurd z h) fun _ => ⟨pm.nodup_iff.mpr s1'.1, so, fun x => by rw [pm.mem_iff, s1'.2]⟩
end
end K


set_option Elab.async false
set_option linter.all false
set_option maxRecDepth 100000
set_option maxHeartbeats 4000000
namespace K
open PySem PySem.Spec PyProof.Rows L2 U
/-- a tree's attributes, in the order in which they are set -/
def treeF (t k s w f c : V) : List (Str × V) := putF "code" c (putF "free" f (putF "within" w (putF "small" s (putF "kind" k (putF "text" t [])))))
theorem ne_tk : ¬ (("text" : Str) = "kind") := by decide +kernel
theorem ne_ts : ¬ (("text" : Str) = "small") := by decide +kernel
theorem ne_tw : ¬ (("text" : Str) = "within") := by decide +kernel
theorem ne_tf : ¬ (("text" : Str) = "free") := by decide +kernel
theorem ne_tc : ¬ (("text" : Str) = "code") := by decide +kernel
theorem ne_kc : ¬ (("kind" : Str) = "code") := by decide +kernel
theorem ne_sc : ¬ (("small" : Str) = "code") := by decide +kernel
theorem ne_wc : ¬ (("within" : Str) = "code") := by decide +kernel
theorem ne_fc : ¬ (("free" : Str) = "code") := by decide +kernel
theorem ne_ks : ¬ (("kind" : Str) = "small") := by decide +kernel
theorem ne_kw : ¬ (("kind" : Str) = "within") := by decide +kernel
theorem ne_kf : ¬ (("kind" : Str) = "free") := by decide +kernel
theorem ne_sw : ¬ (("small" : Str) = "within") := by decide +kernel
theorem ne_sf : ¬ (("small" : Str) = "free") := by decide +kernel
theorem ne_wf : ¬ (("within" : Str) = "free") := by decide +kernel
section
variable (t k s w f c : V)
theorem tF_text : (treeF t k s w f c).lookup ("text" : Str) = some t := by
  unfold treeF
  rw [lookup_putF, if_neg ne_tc, lookup_putF, if_neg ne_tf, lookup_putF, if_neg ne_tw, lookup_putF, if_neg ne_ts, lookup_putF, if_neg ne_tk, lookup_putF, if_pos rfl]
theorem tF_kind : (treeF t k s w f c).lookup ("kind" : Str) = some k := by
  unfold treeF
  rw [lookup_putF, if_neg ne_kc, lookup_putF, if_neg ne_kf, lookup_putF, if_neg ne_kw, lookup_putF, if_neg ne_ks, lookup_putF, if_pos rfl]
theorem tF_small : (treeF t k s w f c).lookup ("small" : Str) = some s := by
  unfold treeF
  rw [lookup_putF, if_neg ne_sc, lookup_putF, if_neg ne_sf, lookup_putF, if_neg ne_sw, lookup_putF, if_pos rfl]
theorem tF_within : (treeF t k s w f c).lookup ("within" : Str) = some w := by
  unfold treeF
  rw [lookup_putF, if_neg ne_wc, lookup_putF, if_neg ne_wf, lookup_putF, if_pos rfl]
theorem tF_free : (treeF t k s w f c).lookup ("free" : Str) = some f := by
  unfold treeF
  rw [lookup_putF, if_neg ne_fc, lookup_putF, if_pos rfl]
theorem tF_code : (treeF t k s w f c).lookup ("code" : Str) = some c := by
  unfold treeF
  rw [lookup_putF, if_pos rfl]
end
def spTreeInit (C : Addr) : Sp := fun vs H Q _ => ∃ (p dx l : Addr) (text kind : List Nat) (small : V) (qs : List Addr) (frs : List (List Str)), vs = [.ref p, .str (tx text), .str (tx kind), small, .ref l] ∧ H p = some (.ins C dx []) ∧
  (small = .non ∨ ∃ z, small = .str z) ∧ H l = some (.lst (qs.map V.ref)) ∧ Paired (FreeAt C H) qs frs ∧ (found frs small).length ≤ 1000 ∧ (∃ N : List Str, N.length < 64 ∧ ∀ x ∈ found frs small, x ∈ N) ∧
  ∀ H' tw tf ys, But p H H' → H' p = some (.ins C dx (treeF (.str (tx text)) (.str (tx kind)) small (.ref tw) (.ref tf) .non)) → H' tw = some (.tup (qs.map V.ref)) → H' tf = some (.tup (ys.map V.str)) →
    (kind = Kd.name.cs → ys = [tx text]) → (kind ≠ Kd.name.cs → ys.Nodup ∧ sortedS ys = true ∧ ∀ x, x ∈ ys ↔ x ∈ found frs small) → Q .non H'
theorem FreeAt.but {C : Addr} {H H' : Hp} {p dx : Addr} {fs : List (Str × V)} {q : Addr} {fr : List Str} (h : FreeAt C H q fr) (hp : H p = some (.ins C dx fs)) (hf : fs.lookup ("free" : Str) = none) (b : But p H H') : FreeAt C H' q fr := by
  obtain ⟨dq, fq, tf, h1, h2, h3⟩ := h
  have n1 : q ≠ p := fun e => by
    rw [e, hp] at h1
    have e2 := Option.some.inj h1
    injection e2 with _ _ e3
    rw [← e3, hf] at h2
    cases h2
  have n2 : tf ≠ p := ne_of h3 hp (by intro z; cases z)
  exact ⟨dq, fq, tf, b _ _ h1 n1, h2, b _ _ h3 n2⟩
section
variable {P : Program} {w : World} {K : PySem.W.Frag} {mg : Str → Option Value} {base : Heap} {dW dB : Addr} {esW : Array DictEntry} {nW : Nat} (T : Txt K mg w dW dB esW nW)
include T
theorem ok_Tree_init {f f1 C : Addr} {fd fd1 : FuncData} (F : Fun K "__init__" "Tree.__init__" s_Tree___init__ f fd) (TC : TreeC K C) (h_free_in : Has P w K mg base "free_in" 1 ["tree"] (spFreeIn C) f1 fd1) : FnOk P w K mg base CX0 2 f fd ["self", "text", "kind", "small", "within"] (spTreeInit C) := by
  refine F.ok sc_Tree___init__ (fun vs H Q E h => ?_) (fun cdv A outer s H vs Q E hr h => ?_)
  · obtain ⟨p, dx, l, text, kind, small, qs, frs, rfl, _⟩ := h
    rfl
  · obtain ⟨p, dx, l, text, kind, small, qs, frs, rfl, hp, hs2, hl, pf, hlen, hN, q⟩ := h
    refine ⟨_, (pss_cons (ps_fld (pv 0) (pv 1) rfl)
      (pss_cons (ps_fld (pv 0) (pv 2) rfl)
      (pss_cons (ps_fld (pv 0) (pv 3) rfl)
      (pss_cons (ps_fld (pv 0) (pe_callTy call_tuple_of (by rfl) T.z_tuple (by decide +kernel) (pa_cons (pv 4) pa_nil)) rfl)
      (pss_cons (ps_fld (pv 0) (pe_callH h_free_in (hr.mono (by first | decide | omega)) (by rfl) (pa_cons (pv 0) pa_nil)) rfl)
      (pss_one (ps_fld (pv 0) pe_non rfl))))))), ?_⟩
    have npl : l ≠ p := ne_of hl hp (by intro z; cases z)
    refine ⟨_, rfl, _, rfl, p, C, dx, _, rfl, hp, TC.cl, TC.nt, by show 0 < 1000; decide, ?_⟩
    refine ⟨_, rfl, _, rfl, p, C, dx, _, rfl, upd_same, TC.cl, TC.nk, by show 1 < 1000; decide, ?_⟩
    refine ⟨_, rfl, _, rfl, p, C, dx, _, rfl, upd_same, TC.cl, TC.ns, by show 2 < 1000; decide, ?_⟩
    refine ⟨_, rfl, l, _, rfl, .inl ⟨.inl (.inl (by rw [upd_ne npl, upd_ne npl, upd_ne npl]; exact hl)), fun tw htw => ?_⟩⟩
    rw [upd_upd, upd_upd] at htw ⊢
    have ntw : p ≠ tw := ne_of_none upd_same htw
    have b1 : But p H (upd H p (.ins C dx (putF "small" small (putF "kind" (.str (tx kind)) (putF "text" (.str (tx text)) []))))) := But.upd
    refine ⟨_, rfl, p, C, dx, _, rfl, (by rw [upd_ne ntw]; exact upd_same), TC.cl, TC.nw, by show 3 < 1000; decide, ?_⟩
    have b2 := (b1.trans (But.of_same (same_new (o := .tup (qs.map V.ref)) htw))).trans (But.upd (o := .ins C dx (putF "within" (.ref tw) (putF "small" small (putF "kind" (.str (tx kind)) (putF "text" (.str (tx text)) []))))))
    have w2 : ∀ o, (upd (upd (upd H p (.ins C dx (putF "small" small (putF "kind" (.str (tx kind)) (putF "text" (.str (tx text)) []))))) tw (.tup (qs.map V.ref))) p o) tw = some (.tup (qs.map V.ref)) := fun o => by
      rw [upd_ne ntw.symm, upd_same]
    have pf2 : Paired (FreeAt C (upd (upd (upd H p (.ins C dx (putF "small" small (putF "kind" (.str (tx kind)) (putF "text" (.str (tx text)) []))))) tw (.tup (qs.map V.ref))) p (.ins C dx (putF "within" (.ref tw) (putF "small" small (putF "kind" (.str (tx kind)) (putF "text" (.str (tx text)) []))))))) qs frs :=
      Paired.mapP pf fun q fr h => h.but hp rfl b2
    refine ⟨_, rfl, p, dx, tw, _, text, kind, small, qs, frs, rfl, upd_same, ?_, ?_, ?_, hs2, ?_, w2 _, pf2, hlen, hN, fun r H' ys s1 hr hy1 hy2 => ?_⟩
    · rw [lookup_putF, if_neg ne_kw, lookup_putF, if_neg ne_ks, lookup_putF, if_pos rfl]
    · rw [lookup_putF, if_neg ne_tw, lookup_putF, if_neg ne_ts, lookup_putF, if_neg ne_tk, lookup_putF, if_pos rfl]
    · rw [lookup_putF, if_neg ne_sw, lookup_putF, if_pos rfl]
    · rw [lookup_putF, if_pos rfl]
    · have nrp : r ≠ p := ne_of hr (s1 _ _ upd_same) (by intro z; cases z)
      refine ⟨_, rfl, p, C, dx, _, rfl, s1 _ _ upd_same, TC.cl, TC.nf, by show 4 < 1000; decide, ?_⟩
      refine ⟨_, rfl, p, C, dx, _, rfl, upd_same, TC.cl, TC.nc, by show 5 < 1000; decide, ?_⟩
      rw [upd_upd]
      refine q _ tw r ys (b2.trans ((But.of_same s1).trans But.upd)) upd_same ?_ ?_ hy1 hy2
      · rw [upd_ne ntw.symm]
        exact s1 _ _ (w2 _)
      · rw [upd_ne nrp]
        exact hr
end
end K


set_option Elab.async false
set_option linter.all false
set_option maxRecDepth 100000
set_option maxHeartbeats 4000000
namespace K
open PySem PySem.Spec PyProof.Rows L2 U
/-- these are just the free names of a term -/
def FreeIs (t : U.Tm) (ys : List Str) : Prop := ys.Nodup ∧ sortedS ys = true ∧ ∀ x, x ∈ ys ↔ ∃ l, x = tx l ∧ t.Free l
theorem small_ne (w : Wd) (b : List Nat) (x : Str) : (!decide (V.str x = smV (sm w b))) = true ↔ ∀ l, x = tx l → (w.bd = true → l ≠ b) := by
  unfold sm
  cases hb : w.bd with
  | false => simp [smV]
  | true =>
    simp only [if_true, smV, Bool.not_eq_true', decide_eq_false_iff_not]
    constructor
    · intro h l hl _ e
      exact h (by rw [hl, e])
    · intro h e
      exact h b (V.str.inj e) trivial rfl
theorem found_free {t : U.Tm} {w : Wd} {b : List Nat} {ks : List U.Tm} (v : View t w b ks) {frs : List (List Str)} (h : Paired (fun fr k => FreeIs k fr) frs ks) (x : Str) : x ∈ found frs (smV (sm w b)) ↔ ∃ l, x = tx l ∧ t.Free l := by
  have hk := v.kids
  have hw : ∀ {w' : Wd} {b' : List Nat}, t.kind = w'.cs → t.small = sm w' b' → w' = w ∧ sm w' b' = sm w b := by
    intro w' b' h1 h2
    have e := cs_inj w' w (by rw [← h1, v.kind])
    exact ⟨e, by rw [← h2, v.small]⟩
  unfold found
  cases t with
  | atom k l =>
    have := v.some_kid
    obtain ⟨k1, ks', e⟩ := this
    rw [← hk] at e
    simp [U.Tm.kids] at e
  | n1 w' b' y =>
    obtain ⟨e1, e2⟩ := hw (w' := w') (b' := b') rfl rfl
    subst e1
    rw [← e2]
    rw [← hk] at h
    cases h with
    | cons h1 h =>
      cases h
      simp only [List.dropLast_singleton, List.flatten_nil, List.nil_append, List.length_singleton, Nat.sub_self, List.drop_zero, List.flatten_cons, List.append_nil, List.mem_filter]
      rw [h1.2.2, small_ne]
      exact ⟨fun ⟨⟨l, e, f⟩, g⟩ => ⟨l, e, f, g l e⟩, fun ⟨l, e, f, g⟩ => ⟨⟨l, e, f⟩, fun l' e' => tx_inj (e.symm.trans e') ▸ g⟩⟩
  | n2 w' b' y z =>
    obtain ⟨e1, e2⟩ := hw (w' := w') (b' := b') rfl rfl
    subst e1
    rw [← e2]
    rw [← hk] at h
    cases h with
    | cons h1 h =>
      cases h with
      | cons h2 h =>
        cases h
        simp only [List.dropLast, List.flatten_nil, List.length_cons, List.length_nil, List.flatten_cons, List.append_nil, List.mem_append, List.mem_filter, List.drop_succ_cons, List.drop_zero, Nat.add_sub_cancel, Nat.zero_add]
        rw [h1.2.2, h2.2.2, small_ne]
        constructor
        · rintro (⟨l, e, f⟩ | ⟨⟨l, e, f⟩, g⟩)
          · exact ⟨l, e, .inl f⟩
          · exact ⟨l, e, .inr ⟨f, g l e⟩⟩
        · rintro ⟨l, e, f | ⟨f, g⟩⟩
          · exact .inl ⟨l, e, f⟩
          · exact .inr ⟨⟨l, e, f⟩, fun l' e' => tx_inj (e.symm.trans e') ▸ g⟩
  | n3 w' b' y z u =>
    obtain ⟨e1, e2⟩ := hw (w' := w') (b' := b') rfl rfl
    subst e1
    rw [← e2]
    rw [← hk] at h
    cases h with
    | cons h1 h =>
      cases h with
      | cons h2 h =>
        cases h with
        | cons h3 h =>
          cases h
          simp only [List.dropLast, List.flatten_nil, List.length_cons, List.length_nil, List.flatten_cons, List.append_nil, List.mem_append, List.mem_filter, List.drop_succ_cons, List.drop_zero, Nat.add_sub_cancel, Nat.zero_add]
          rw [h1.2.2, h2.2.2, h3.2.2, small_ne]
          constructor
          · rintro ((⟨l, e, f⟩ | ⟨l, e, f⟩) | ⟨⟨l, e, f⟩, g⟩)
            · exact ⟨l, e, .inl f⟩
            · exact ⟨l, e, .inr (.inl f)⟩
            · exact ⟨l, e, .inr (.inr ⟨f, g l e⟩)⟩
          · rintro ⟨l, e, f | f | ⟨f, g⟩⟩
            · exact .inl (.inl ⟨l, e, f⟩)
            · exact .inl (.inr ⟨l, e, f⟩)
            · exact .inr ⟨⟨l, e, f⟩, fun l' e' => tx_inj (e.symm.trans e') ▸ g⟩
/-- a Tree at p, of these trees within, with these free names -/
def NodeAt (C : Addr) (H : Hp) (t : U.Tm) (qs : List Addr) (p : Addr) (ys : List Str) : Prop := ∃ dx tw tf cd, H p = some (.ins C dx (treeF (.str (tx t.pr)) (.str (tx t.kind)) (smV t.small) (.ref tw) (.ref tf) cd)) ∧ H tw = some (.tup (qs.map V.ref)) ∧ H tf = some (.tup (ys.map V.str)) ∧ FreeIs t ys ∧ cd = .non
/-- the tree of a term at p -/
def TreeAt (C : Addr) (H : Hp) : U.Tm → Addr → Prop
  | .atom k l, p => ∃ ys, NodeAt C H (.atom k l) [] p ys
  | .n1 w b x, p => ∃ q ys, NodeAt C H (.n1 w b x) [q] p ys ∧ TreeAt C H x q
  | .n2 w b x y, p => ∃ q1 q2 ys, NodeAt C H (.n2 w b x y) [q1, q2] p ys ∧ TreeAt C H x q1 ∧ TreeAt C H y q2
  | .n3 w b x y z, p => ∃ q1 q2 q3 ys, NodeAt C H (.n3 w b x y z) [q1, q2, q3] p ys ∧ TreeAt C H x q1 ∧ TreeAt C H y q2 ∧ TreeAt C H z q3
/-- what is no list is as it was -/
def Keep (H H' : Hp) : Prop := ∀ p o, H p = some o → (∀ l, o ≠ .lst l) → H' p = some o
theorem Keep.of {H H' : Hp} (h : Same H H') : Keep H H' := fun p o e _ => h p o e
theorem Keep.trans {H H1 H2 : Hp} (a : Keep H H1) (b : Keep H1 H2) : Keep H H2 := fun p o e n => b p o (a p o e n) n
theorem Keep.upd {H : Hp} {a : Addr} {l : List V} {o : HO} (e : H a = some (.lst l)) : Keep H (upd H a o) := fun p u h n => by
  rw [upd_ne fun z => ?_]
  · exact h
  · rw [z, e] at h
    exact n l (Option.some.inj h).symm
theorem NodeAt.keep {C : Addr} {H H' : Hp} {t : U.Tm} {qs : List Addr} {p : Addr} {ys : List Str} (h : NodeAt C H t qs p ys) (k : Keep H H') : NodeAt C H' t qs p ys := by
  obtain ⟨dx, tw, tf, cd, h1, h2, h3, h4⟩ := h
  exact ⟨dx, tw, tf, cd, k _ _ h1 (by intro l z; cases z), k _ _ h2 (by intro l z; cases z), k _ _ h3 (by intro l z; cases z), h4⟩
theorem TreeAt.keep {C : Addr} {H H' : Hp} (k : Keep H H') : ∀ {t : U.Tm} {p : Addr}, TreeAt C H t p → TreeAt C H' t p
  | .atom _ _, _, ⟨ys, h⟩ => ⟨ys, h.keep k⟩
  | .n1 _ _ _, _, ⟨q, ys, h, h1⟩ => ⟨q, ys, h.keep k, h1.keep k⟩
  | .n2 _ _ _ _, _, ⟨q1, q2, ys, h, h1, h2⟩ => ⟨q1, q2, ys, h.keep k, h1.keep k, h2.keep k⟩
  | .n3 _ _ _ _ _, _, ⟨q1, q2, q3, ys, h, h1, h2, h3⟩ => ⟨q1, q2, q3, ys, h.keep k, h1.keep k, h2.keep k, h3.keep k⟩
theorem TreeAt.node {C : Addr} {H : Hp} {t : U.Tm} {p : Addr} (h : TreeAt C H t p) : ∃ qs ys, NodeAt C H t qs p ys ∧ Paired (fun q k => TreeAt C H k q) qs t.kids := by
  cases t with
  | atom k l =>
    obtain ⟨ys, h⟩ := h
    exact ⟨[], ys, h, .nil⟩
  | n1 w b x =>
    obtain ⟨q, ys, h, h1⟩ := h
    exact ⟨[q], ys, h, .cons h1 .nil⟩
  | n2 w b x y =>
    obtain ⟨q1, q2, ys, h, h1, h2⟩ := h
    exact ⟨_, ys, h, .cons h1 (.cons h2 .nil)⟩
  | n3 w b x y z =>
    obtain ⟨q1, q2, q3, ys, h, h1, h2, h3⟩ := h
    exact ⟨_, ys, h, .cons h1 (.cons h2 (.cons h3 .nil))⟩
theorem TreeAt.mk {C : Addr} {H : Hp} {t : U.Tm} {p : Addr} {qs : List Addr} {ys : List Str} (h : NodeAt C H t qs p ys) (hk : Paired (fun q k => TreeAt C H k q) qs t.kids) : TreeAt C H t p := by
  cases t with
  | atom k l =>
    cases hk
    exact ⟨ys, h⟩
  | n1 w b x =>
    cases hk with
    | cons h1 hk =>
      cases hk
      exact ⟨_, ys, h, h1⟩
  | n2 w b x y =>
    cases hk with
    | cons h1 hk =>
      cases hk with
      | cons h2 hk =>
        cases hk
        exact ⟨_, _, ys, h, h1, h2⟩
  | n3 w b x y z =>
    cases hk with
    | cons h1 hk =>
      cases hk with
      | cons h2 hk =>
        cases hk with
        | cons h3 hk =>
          cases hk
          exact ⟨_, _, _, ys, h, h1, h2, h3⟩
theorem TreeAt.free {C : Addr} {H : Hp} {t : U.Tm} {p : Addr} (h : TreeAt C H t p) : ∃ ys, FreeAt C H p ys ∧ FreeIs t ys := by
  obtain ⟨qs, ys, ⟨dx, tw, tf, cd, h1, h2, h3, h4⟩, _⟩ := h.node
  exact ⟨ys, ⟨dx, _, tf, h1, tF_free _ _ _ _ _ _, h3⟩, h4.1⟩
end K


set_option Elab.async false
set_option linter.all false
set_option maxRecDepth 100000
set_option maxHeartbeats 4000000
namespace K
open PySem PySem.Spec PyProof.Rows L2 U
def RowAt (C : Addr) (H : Hp) (r : Addr) (ds : List U.Tm) : Prop := ∃ qs, H r = some (.lst (qs.map V.ref)) ∧ Paired (fun q k => TreeAt C H k q) qs ds
/-- the brackets that are open and the rows of trees that are done, as built holds them (ops, rws: the innermost first) -/
structure BHeap (C : Addr) (H0 H : Hp) (aO aR r0 : Addr) (ops rws : List Addr) (fs : List Fr) (bot : List U.Tm) : Prop where
  eO : H aO = some (.lst (ops.reverse.map V.ref))
  eR : H aR = some (.lst ((r0 :: rws.reverse).map V.ref))
  pO : Paired (fun p f => H p = some (.tup (pcV (op f.at_ f.w f.b)))) ops fs
  pR : Paired (fun r f => RowAt C H r f.dn) rws fs
  b0 : RowAt C H r0 bot
  nd : (aO :: aR :: r0 :: rws).Nodup
  nw : ∀ b ∈ aO :: aR :: r0 :: rws, H0 b = none
  sm : Same H0 H
/-- all but lists, and these lists, are as they were -/
structure Stay (H H' : Hp) (ls : List Addr) : Prop where
  kp : Keep H H'
  at_ : ∀ r ∈ ls, H' r = H r
theorem RowAt.stay {C : Addr} {H H' : Hp} {r : Addr} {ds : List U.Tm} (h : RowAt C H r ds) (k : Keep H H') (e : H' r = H r) : RowAt C H' r ds := by
  obtain ⟨qs, h1, h2⟩ := h
  exact ⟨qs, e.trans h1, Paired.mapP h2 fun q t h => h.keep k⟩
theorem rows_stay {C : Addr} {H H' : Hp} (k : Keep H H') : ∀ {rws : List Addr} {fs : List Fr}, Paired (fun r f => RowAt C H r f.dn) rws fs → (∀ r ∈ rws, H' r = H r) → Paired (fun r f => RowAt C H' r f.dn) rws fs
  | _, _, .nil, _ => .nil
  | _, _, .cons r t, e => .cons (r.stay k (e _ List.mem_cons_self)) (rows_stay k t fun x hx => e x (List.mem_cons_of_mem _ hx))
theorem ops_stay {H H' : Hp} (k : Keep H H') {ops : List Addr} {fs : List Fr} (h : Paired (fun p f => H p = some (.tup (pcV (op f.at_ f.w f.b)))) ops fs) : Paired (fun p f => H' p = some (.tup (pcV (op f.at_ f.w f.b)))) ops fs :=
  Paired.mapP h fun p f e => k _ _ e (by intro l z; cases z)
def nameOk (N : List Str) (l : List Nat) : Prop := tx l ∈ N
def spBuilt (C : Addr) : Sp := fun vs H Q _ => ∃ (aP : Addr) (ps : List Addr) (k : U.Tm) (N : List Str), vs = [.str (tx k.pr), .ref aP] ∧ k.pr.length ≤ sizeLine ∧ k.Ok ∧ k.size ≤ 1000 ∧ H aP = some (.lst (ps.map V.ref)) ∧ PcsAt H ps (k.pc 0) ∧ N.length < 64 ∧ k.Names (nameOk N) ∧
  ∀ q H', Same H H' → TreeAt C H' k q → Q (.ref q) H'
/-- what an inner Tree leaves behind of a term whose trees within stand -/
theorem tree_made {C : Addr} {H H' : Hp} {p dx tw tf l : Addr} {t : U.Tm} {qs : List Addr} {frs : List (List Str)} {ys : List Str} (hk : Paired (fun q k => TreeAt C H k q) qs t.kids) (k : Keep H H')
    (hp : H' p = some (.ins C dx (treeF (.str (tx t.pr)) (.str (tx t.kind)) (smV t.small) (.ref tw) (.ref tf) .non))) (hw : H' tw = some (.tup (qs.map V.ref))) (hf : H' tf = some (.tup (ys.map V.str))) (fr : FreeIs t ys) : TreeAt C H' t p :=
  TreeAt.mk ⟨dx, tw, tf, _, hp, hw, hf, fr, rfl⟩ (Paired.mapP hk fun q t h => h.keep k)
/-- the free names of trees within, few enough -/
theorem frees {C : Addr} {H : Hp} {N : List Str} : ∀ {qs : List Addr} {ks : List U.Tm}, Paired (fun q k => TreeAt C H k q) qs ks → (∀ k ∈ ks, k.Names (nameOk N)) →
    ∃ frs, Paired (FreeAt C H) qs frs ∧ Paired (fun fr k => FreeIs k fr) frs ks ∧ ∀ fr ∈ frs, fr.length ≤ N.length ∧ ∀ x ∈ fr, x ∈ N
  | [], [], .nil, _ => ⟨[], .nil, .nil, fun _ h => by simp at h⟩
  | q :: qs, k :: ks, .cons h t, nm => by
    obtain ⟨ys, f1, f2⟩ := h.free
    obtain ⟨frs, g1, g2, g3⟩ := frees t fun x hx => nm x (List.mem_cons_of_mem _ hx)
    refine ⟨ys :: frs, .cons f1 g1, .cons f2 g2, fun fr hfr => ?_⟩
    rcases List.mem_cons.mp hfr with rfl | hfr
    · have sub : ∀ x ∈ fr, x ∈ N := fun x hx => by
        obtain ⟨l, e, hl⟩ := (f2.2.2 x).mp hx
        rw [e]
        exact hl.in_names (nm k List.mem_cons_self)
      exact ⟨nodup_sub fr N f2.1 sub, sub⟩
    · exact g3 fr hfr
theorem flat_bound {N : List Str} : ∀ frs : List (List Str), (∀ fr ∈ frs, fr.length ≤ N.length ∧ ∀ x ∈ fr, x ∈ N) → frs.flatten.length ≤ frs.length * N.length ∧ ∀ x ∈ frs.flatten, x ∈ N
  | [], _ => ⟨by simp, by simp⟩
  | f :: r, h => by
    obtain ⟨h1, h2⟩ := flat_bound r fun fr hfr => h fr (List.mem_cons_of_mem _ hfr)
    obtain ⟨g1, g2⟩ := h f List.mem_cons_self
    refine ⟨?_, fun x hx => ?_⟩
    · rw [List.flatten_cons, List.length_append, List.length_cons, Nat.succ_mul]
      omega
    · rw [List.flatten_cons, List.mem_append] at hx
      exact hx.elim (g2 x) (h2 x)
theorem found_bound {N : List Str} {frs : List (List Str)} {small : V} (hl : frs.length ≤ 3) (hN : N.length < 64) (h : ∀ fr ∈ frs, fr.length ≤ N.length ∧ ∀ x ∈ fr, x ∈ N) : (found frs small).length ≤ 1000 ∧ ∀ x ∈ found frs small, x ∈ N := by
  have b1 := flat_bound frs.dropLast fun fr hfr => h fr ((List.dropLast_sublist frs).subset hfr)
  have b2 := flat_bound (frs.drop (frs.length - 1)) fun fr hfr => h fr (List.mem_of_mem_drop hfr)
  unfold found
  refine ⟨?_, fun x hx => ?_⟩
  · have l1 : frs.dropLast.length ≤ 2 := by rw [List.length_dropLast]; omega
    have l2 : (frs.drop (frs.length - 1)).length ≤ 1 := by rw [List.length_drop]; omega
    have m1 : frs.dropLast.length * N.length ≤ 2 * 63 := Nat.mul_le_mul l1 (by omega)
    have m2 : (frs.drop (frs.length - 1)).length * N.length ≤ 1 * 63 := Nat.mul_le_mul l2 (by omega)
    have m3 := (List.filter_sublist (p := fun y => !decide (V.str y = small)) (l := (frs.drop (frs.length - 1)).flatten)).length_le
    rw [List.length_append]
    omega
  · rcases List.mem_append.mp hx with hx | hx
    · exact b1.2 x hx
    · exact b2.2 x (List.mem_filter.mp hx).1
theorem BHeap.stay {C : Addr} {H0 H H' : Hp} {aO aR r0 : Addr} {ops rws : List Addr} {fs : List Fr} {bot : List U.Tm} (h : BHeap C H0 H aO aR r0 ops rws fs bot) (k : Keep H H') (e : ∀ b ∈ aO :: aR :: r0 :: rws, H' b = H b) (s : Same H0 H') : BHeap C H0 H' aO aR r0 ops rws fs bot :=
  ⟨(e _ (by simp)).trans h.eO, (e _ (by simp)).trans h.eR, ops_stay k h.pO, rows_stay k h.pR fun r hr => e r (by simp [hr]), h.b0.stay k (e _ (by simp)), h.nd, h.nw, s⟩
/-- where all that was is still there -/
theorem BHeap.same {C : Addr} {H0 H H' : Hp} {aO aR r0 : Addr} {ops rws : List Addr} {fs : List Fr} {bot : List U.Tm} (h : BHeap C H0 H aO aR r0 ops rws fs bot) (s : Same H H') : BHeap C H0 H' aO aR r0 ops rws fs bot := by
  have lst : ∀ b ∈ aO :: aR :: r0 :: rws, ∃ o, H b = some o := by
    intro b hb
    simp only [List.mem_cons] at hb
    rcases hb with rfl | rfl | rfl | hb
    · exact ⟨_, h.eO⟩
    · exact ⟨_, h.eR⟩
    · obtain ⟨qs, e, _⟩ := h.b0
      exact ⟨_, e⟩
    · have g : ∀ {rws : List Addr} {fs : List Fr}, Paired (fun r f => RowAt C H r f.dn) rws fs → ∀ b ∈ rws, ∃ o, H b = some o := by
        intro rws fs p
        induction p with
        | nil =>
          intro b hb
          simp at hb
        | cons r t ih =>
          intro b hb
          rcases List.mem_cons.mp hb with rfl | hb
          · obtain ⟨qs, e, _⟩ := r
            exact ⟨_, e⟩
          · exact ih b hb
      exact g h.pR b hb
  exact h.stay (Keep.of s) (fun b hb => by
    obtain ⟨o, e⟩ := lst b hb
    rw [e]
    exact s _ _ e) (h.sm.trans s)
theorem RowAt.put {C : Addr} {H : Hp} {r q : Addr} {ds : List U.Tm} {k : U.Tm} {qs : List Addr} (e : H r = some (.lst (qs.map V.ref))) (p : Paired (fun q k => TreeAt C H k q) qs ds) (t : TreeAt C H k q) : RowAt C (upd H r (.lst (qs.map V.ref ++ [V.ref q]))) r (ds ++ [k]) := by
  refine ⟨qs ++ [q], ?_, Paired.app (Paired.mapP p fun q t h => h.keep (Keep.upd e)) (.cons (t.keep (Keep.upd e)) .nil)⟩
  rw [upd_same, List.map_append]
  rfl
/-- a tree is put into the innermost row -/
theorem BHeap.put {C : Addr} {H0 H : Hp} {aO aR r0 : Addr} {ops rws : List Addr} {fs : List Fr} {k : U.Tm} {q : Addr} (h : BHeap C H0 H aO aR r0 ops rws fs []) (t : TreeAt C H k q) (hd : ∀ f g, fs = f :: g → f.dn.length ≤ 3) :
    ∃ (r : Addr) (qs : List Addr), (∃ L, (r0 :: rws.reverse).map V.ref = L ++ [V.ref r]) ∧ H r = some (.lst (qs.map V.ref)) ∧ qs.length ≤ 3 ∧ r ≠ aO ∧ r ≠ aR ∧ BHeap C H0 (upd H r (.lst (qs.map V.ref ++ [V.ref q]))) aO aR r0 ops rws (putDn fs k) (putBot fs k) := by
  have nd := h.nd
  simp only [List.nodup_cons, List.mem_cons, not_or] at nd
  obtain ⟨⟨n1, n2, n3⟩, ⟨n4, n5⟩, n6, n7⟩ := nd
  cases fs with
  | nil =>
    have hr : rws = [] := by
      have := h.pR
      cases this
      rfl
    have ho : ops = [] := by
      have := h.pO
      cases this
      rfl
    subst hr ho
    obtain ⟨qs, e, p⟩ := h.b0
    have pl := p.length
    refine ⟨r0, qs, ⟨[], rfl⟩, e, by simp at pl; simp [pl], Ne.symm n2, Ne.symm n4, (upd_ne n2).trans h.eO, (upd_ne n4).trans h.eR, .nil, .nil, RowAt.put e p t, h.nd, h.nw, upd_new (h.nw r0 (by simp)) h.sm⟩
  | cons f g =>
    have ⟨hp, hpe⟩ : ∃ x, x = h.pR := ⟨_, rfl⟩
    clear hpe
    cases hp with
    | @cons r _ rws' _ rr p2 =>
      obtain ⟨qs, e, p⟩ := rr
      simp only [List.mem_cons, not_or, List.nodup_cons] at n3 n5 n6 n7
      have kp : Keep H (upd H r (.lst (qs.map V.ref ++ [V.ref q]))) := Keep.upd e
      have pl := p.length
      have hl := hd f g rfl
      refine ⟨r, qs, ⟨(r0 :: rws'.reverse).map V.ref, by simp⟩, e, by omega, Ne.symm n3.1, Ne.symm n5.1, (upd_ne n3.1).trans h.eO, (upd_ne n5.1).trans h.eR, ops_stay kp ?_, .cons (RowAt.put e p t) (rows_stay kp p2 fun x hx => upd_ne fun z => n7.1 (z ▸ hx)), h.b0.stay kp (upd_ne n6.1), h.nd, h.nw, upd_new (h.nw r (by simp)) h.sm⟩
      have := h.pO
      cases this with
      | cons a b => exact .cons a b
/-- a bracket and a row are opened -/
theorem BHeap.push {C : Addr} {H0 H : Hp} {aO aR r0 pc aN : Addr} {ops rws : List Addr} {fs : List Fr} {f : Fr} (h : BHeap C H0 H aO aR r0 ops rws fs []) (e : H pc = some (.tup (pcV (op f.at_ f.w f.b)))) (hd : f.dn = [])
    (hN : (upd H aO (.lst (ops.reverse.map V.ref ++ [V.ref pc]))) aN = none) :
    BHeap C H0 (upd (upd (upd H aO (.lst (ops.reverse.map V.ref ++ [V.ref pc]))) aN (.lst [])) aR (.lst ((r0 :: rws.reverse).map V.ref ++ [V.ref aN]))) aO aR r0 (pc :: ops) (aN :: rws) (f :: fs) [] := by
  have nd := h.nd
  simp only [List.nodup_cons, List.mem_cons, not_or] at nd
  obtain ⟨⟨n1, n2, n3⟩, ⟨n4, n5⟩, n6, n7⟩ := nd
  have mO : aO ≠ aN := ne_of_none upd_same hN
  have hN' : H aN = none := by rw [upd_ne mO.symm] at hN; exact hN
  have mR : aR ≠ aN := ne_of_none h.eR hN'
  have m0 : r0 ≠ aN := by
    obtain ⟨qs, e, _⟩ := h.b0
    exact ne_of_none e hN'
  have mr : aN ∉ rws := by
    intro hm
    have g : ∀ {rws : List Addr} {fs : List Fr}, Paired (fun r f => RowAt C H r f.dn) rws fs → ∀ b ∈ rws, ∃ o, H b = some o := by
      intro rws fs p
      induction p with
      | nil =>
        intro b hb
        simp at hb
      | cons r t ih =>
        intro b hb
        rcases List.mem_cons.mp hb with rfl | hb
        · obtain ⟨qs, e, _⟩ := r
          exact ⟨_, e⟩
        · exact ih b hb
    obtain ⟨o, e⟩ := g h.pR aN hm
    rw [hN'] at e
    cases e
  have k1 : Keep H (upd H aO (.lst (ops.reverse.map V.ref ++ [V.ref pc]))) := Keep.upd h.eO
  have k2 := k1.trans (Keep.of (same_new (o := .lst []) hN))
  have eR2 : (upd (upd H aO (.lst (ops.reverse.map V.ref ++ [V.ref pc]))) aN (.lst [])) aR = some (.lst ((r0 :: rws.reverse).map V.ref)) := by
    rw [upd_ne mR, upd_ne (Ne.symm n1)]
    exact h.eR
  have kp := k2.trans (Keep.upd (o := .lst ((r0 :: rws.reverse).map V.ref ++ [V.ref aN])) eR2)
  have oth : ∀ b, b ≠ aO → b ≠ aR → b ≠ aN → (upd (upd (upd H aO (.lst (ops.reverse.map V.ref ++ [V.ref pc]))) aN (.lst [])) aR (.lst ((r0 :: rws.reverse).map V.ref ++ [V.ref aN]))) b = H b := fun b h1 h2 h3 => by rw [upd_ne h2, upd_ne h3, upd_ne h1]
  have nN0 : H0 aN = none := by
    cases hz : H0 aN with
    | none => rfl
    | some o =>
      have := h.sm _ _ hz
      rw [hN'] at this
      cases this
  refine ⟨?_, ?_, .cons (kp _ _ e (by intro l z; cases z)) (ops_stay kp h.pO), .cons ⟨[], ?_, ?_⟩ (rows_stay kp h.pR fun x hx => oth x (fun z => n3 (z ▸ hx)) (fun z => n5 (z ▸ hx)) (fun z => mr (z ▸ hx))), h.b0.stay kp (oth _ (Ne.symm n2) (Ne.symm n4) m0), ?_, ?_, ?_⟩
  · rw [upd_ne n1, upd_ne mO, upd_same]
    simp
  · rw [upd_same]
    simp
  · rw [upd_ne mR.symm, upd_same]
    rfl
  · rw [hd]
    exact .nil
  · simp only [List.nodup_cons, List.mem_cons, not_or]
    exact ⟨⟨n1, n2, mO, n3⟩, ⟨n4, mR, n5⟩, ⟨m0, n6⟩, mr, n7⟩
  · intro b hb
    simp only [List.mem_cons] at hb
    rcases hb with rfl | rfl | rfl | rfl | hb
    · exact h.nw _ (by simp)
    · exact h.nw _ (by simp)
    · exact h.nw _ (by simp)
    · exact nN0
    · exact h.nw _ (by simp [hb])
  · refine upd_new (h.nw aR (by simp)) ?_
    exact (upd_new (h.nw aO (by simp)) h.sm).trans (same_new hN)
/-- both are closed -/
theorem BHeap.pop {C : Addr} {H0 H : Hp} {aO aR r0 pc r : Addr} {ops rws : List Addr} {fs : List Fr} {f : Fr} (h : BHeap C H0 H aO aR r0 (pc :: ops) (r :: rws) (f :: fs) []) :
    H aO = some (.lst (ops.reverse.map V.ref ++ [V.ref pc])) ∧ H aR = some (.lst ((r0 :: rws.reverse).map V.ref ++ [V.ref r])) ∧ H pc = some (.tup (pcV (op f.at_ f.w f.b))) ∧ RowAt C H r f.dn ∧
    BHeap C H0 (upd (upd H aO (.lst (ops.reverse.map V.ref))) aR (.lst ((r0 :: rws.reverse).map V.ref))) aO aR r0 ops rws fs [] := by
  have ePc : ∃ t, h.pO = t := ⟨_, rfl⟩
  cases h.pO with
  | cons e1 p1 =>
    cases h.pR with
    | cons e2 p2 =>
      have eO : H aO = some (.lst (ops.reverse.map V.ref ++ [V.ref pc])) := by
        rw [h.eO]
        simp
      have eR : H aR = some (.lst ((r0 :: rws.reverse).map V.ref ++ [V.ref r])) := by
        rw [h.eR]
        simp
      have nd := h.nd
      simp only [List.nodup_cons, List.mem_cons, not_or] at nd
      obtain ⟨⟨n1, n2, n3, n4⟩, ⟨n5, n6, n7⟩, ⟨n8, n9⟩, n10, n11⟩ := nd
      have eR2 : ∀ o, (upd H aO o) aR = some (.lst ((r0 :: rws.reverse).map V.ref ++ [V.ref r])) := fun o => by rw [upd_ne (Ne.symm n1)]; exact eR
      have kp : Keep H (upd (upd H aO (.lst (ops.reverse.map V.ref))) aR (.lst ((r0 :: rws.reverse).map V.ref))) := (Keep.upd eO).trans (Keep.upd (eR2 _))
      have oth : ∀ b, b ≠ aO → b ≠ aR → (upd (upd H aO (.lst (ops.reverse.map V.ref))) aR (.lst ((r0 :: rws.reverse).map V.ref))) b = H b := fun b h1 h2 => by rw [upd_ne h2, upd_ne h1]
      refine ⟨eO, eR, e1, e2, ?_, upd_same, ops_stay kp p1, rows_stay kp p2 fun x hx => oth x (fun e => n4 (e ▸ hx)) (fun e => n7 (e ▸ hx)), h.b0.stay kp (oth _ (Ne.symm n2) (Ne.symm n5)), ?_, ?_, ?_⟩
      · rw [upd_ne n1, upd_same]
      · simp only [List.nodup_cons, List.mem_cons, not_or]
        exact ⟨⟨n1, n2, n4⟩, ⟨n5, n7⟩, n9, n11⟩
      · intro b hb
        refine h.nw b ?_
        simp only [List.mem_cons] at hb ⊢
        rcases hb with h | h | h | h
        · exact .inl h
        · exact .inr (.inl h)
        · exact .inr (.inr (.inl h))
        · exact .inr (.inr (.inr (.inr h)))
      · exact upd_new (h.nw aR (by simp)) (upd_new (h.nw aO (by simp)) h.sm)
end K


set_option Elab.async false
set_option linter.all false
set_option maxRecDepth 100000
set_option maxHeartbeats 4000000
namespace K
open PySem PySem.Spec PyProof.Rows L2 U
theorem But.sameN {p : Addr} {H0 H H' : Hp} (h : But p H H') (s : Same H0 H) (n : H0 p = none) : Same H0 H' := fun b o e => h b o (s b o e) (ne_of_none e n)
theorem ar_le (w : Wd) : w.ar ≤ 3 := by cases w <;> decide
theorem smV_is (o : Option (List Nat)) : smV o = .non ∨ ∃ z, smV o = .str z := by
  cases o with
  | none => exact .inl rfl
  | some b => exact .inr ⟨_, rfl⟩
theorem kids_few (k : U.Tm) : k.kids.length ≤ 3 := by cases k <;> simp [U.Tm.kids]
/-- what Tree.__init__ leaves as free names are those of the term -/
theorem free_is {k : U.Tm} {frs : List (List Str)} {ys : List Str} (ok : (∃ kd l, k = .atom kd l) ∨ ∃ w b ks, View k w b ks) (h : Paired (fun fr k => FreeIs k fr) frs k.kids) (y1 : k.kind = Kd.name.cs → ys = [tx k.pr]) (y2 : k.kind ≠ Kd.name.cs → ys.Nodup ∧ sortedS ys = true ∧ ∀ x, x ∈ ys ↔ x ∈ found frs (smV k.small)) : FreeIs k ys := by
  rcases ok with ⟨kd, l, rfl⟩ | ⟨wd, b, ks, v⟩
  · have hf : frs = [] := by
      cases h
      rfl
    subst hf
    by_cases e : kd = .name
    · subst e
      rw [y1 rfl]
      refine ⟨by simp, by rfl, fun x => ?_⟩
      rw [List.mem_singleton]
      exact ⟨fun z => ⟨l, z, rfl, rfl⟩, fun ⟨l', e1, _, e2⟩ => by rw [e1, e2]; rfl⟩
    · obtain ⟨a1, a2, a3⟩ := y2 fun z => e (by cases kd <;> first | rfl | exact absurd z (by simp only [U.Tm.kind]; decide))
      refine ⟨a1, a2, fun x => ?_⟩
      rw [a3]
      constructor
      · intro z
        simp [found] at z
      · rintro ⟨l', e1, e2, e3⟩
        exact absurd e2 e
  · have ne : k.kind ≠ Kd.name.cs := by
      rw [v.kind]
      cases wd <;> decide
    obtain ⟨a1, a2, a3⟩ := y2 ne
    rw [v.small] at a3
    rw [v.kids] at h
    exact ⟨a1, a2, fun x => (a3 x).trans (found_free v h x)⟩
/-- the innermost row -/
theorem BHeap.last {C : Addr} {H0 H : Hp} {aO aR r0 : Addr} {ops rws : List Addr} {fs : List Fr} {bot : List U.Tm} (h : BHeap C H0 H aO aR r0 ops rws fs bot) : ∃ (L : List V) (r : Addr) (zs : List V), (r0 :: rws.reverse).map V.ref = L ++ [V.ref r] ∧ H r = some (.lst zs) := by
  have hp := h.pR
  cases hp with
  | nil =>
    obtain ⟨qs, e, _⟩ := h.b0
    exact ⟨[], r0, _, rfl, e⟩
  | @cons r _ rws' _ rr p2 =>
    obtain ⟨qs, e, _⟩ := rr
    exact ⟨(r0 :: rws'.reverse).map V.ref, r, _, by simp, e⟩
section
variable {P : Program} {w : World} {K : PySem.W.Frag} {mg : Str → Option Value} {base : Heap} {dW dB : Addr} {esW : Array DictEntry} {nW : Nat} (T : Txt K mg w dW dB esW nW)
include T
theorem ok_built {f f1 C : Addr} {fd fd1 : FuncData} (F : Fun K "built" "built" s_built f fd) (TC : TreeC K C) (m_Tree : HasC P w K mg base "Tree" C 2 ["self", "text", "kind", "small", "within"] (spTreeInit C) f1 fd1) : FnOk P w K mg base CX0 4 f fd ["text", "pieces"] (spBuilt C) := by
  refine F.ok sc_built (fun vs H Q E h => ?_) (fun cdv A outer s H vs Q E hr h => ?_)
  · obtain ⟨aP, ps, k, N, rfl, _⟩ := h
    rfl
  · obtain ⟨aP, ps, k0, N, rfl, hl, hok, hsz, eP, pcs, hN, nm, q⟩ := h
    refine ⟨_, (pss_cons (ps_set (i := 2) sc_built.nd rfl (.inl rfl) (pe_lst pa_nil))
      (pss_cons (ps_set (i := 3) sc_built.nd rfl (.inl rfl) (pe_lst (pa_cons (pe_lst pa_nil) pa_nil)))
      (pss_cons (ps_for PassesOwn.never rfl (pi_list (pv 1)) (pg_name (i := 4) sc_built.nd rfl (.inl rfl)) 
        (pss_cons (ps_asg (pv 4) (pg_tup rfl (pgs_cons (pg_name (i := 5) sc_built.nd rfl (.inl rfl)) (pgs_cons (pg_name (i := 6) sc_built.nd rfl (.inl rfl)) (pgs_cons (pg_name (i := 7) sc_built.nd rfl (.inl rfl)) (pgs_cons (pg_name (i := 8) sc_built.nd rfl (.inl rfl)) pgs_nil))))))
        (pss_cons (ps_if (pt_cmpR (op_in_tab T.W) (pv 5) (pe_globR (by rfl) T.gW) (by rfl)) 
          (pss_cons (ps_expr (pe_bm PySem.F.plainAttrs_list PySem.F.slot_list_append PySem.F.type_list_append mt_append (pv 2) (pa_cons (pv 4) pa_nil)))
          (pss_cons (ps_expr (pe_bm PySem.F.plainAttrs_list PySem.F.slot_list_append PySem.F.type_list_append mt_append (pv 3) (pa_cons (pe_lst pa_nil) pa_nil)))
          (pss_one (ps_continue)))) pss_nil)
        (pss_cons (ps_set (i := 9) sc_built.nd rfl (.inl rfl) (pe_lst pa_nil))
        (Evl.pss_cut (ps_if (pt_cmpR op_eq (pv 5) (pe_globS (by rfl) T.g_CLOSE) (nomark _)) 
          (pss_cons (ps_asg (pe_bm0 PySem.F.plainAttrs_list PySem.F.slot_list_pop PySem.F.type_list_pop mt_pop (pv 2)) (pg_tup rfl (pgs_cons (pg_name (i := 5) sc_built.nd rfl (.inl rfl)) (pgs_cons (pg_name (i := 6) sc_built.nd rfl (.inl rfl)) (pgs_cons (pg_name (i := 10) sc_built.nd rfl (.inl rfl)) (pgs_cons (pg_name (i := 8) sc_built.nd rfl (.inl rfl)) pgs_nil))))))
          (pss_one (ps_set (i := 9) sc_built.nd rfl (.inl rfl) (pe_bm0 PySem.F.plainAttrs_list PySem.F.slot_list_pop PySem.F.type_list_pop mt_pop (pv 3))))) pss_nil)
        (pss_one (ps_expr (pe_bm PySem.F.plainAttrs_list PySem.F.slot_list_append PySem.F.type_list_append mt_append (pe_ix ix_list (pv 3) (pe_un un_neg pe_int) (fun _ _ => rfl)) (pa_cons (pe_makeH m_Tree (hr.mono (by first | decide | omega)) (by rfl) (pa_cons (pe_slice sl_str (pv 0) (po_some (pv 6)) (po_some (pv 7))) (pa_cons (pv 5) (pa_cons (pv 8) (pa_cons (pv 9) pa_nil))))) pa_nil)))))))))
      (pss_one (ps_ret (pe_ix ix_list (pe_ix ix_list (pv 3) pe_int (fun _ _ => rfl)) pe_int (fun _ _ => rfl))))))), ?_⟩
    have cl41 : Str.ofString ")" = tx [41] := by decide +kernel
    have plen := pcs.length
    have pcl := pc_len k0 0
    -- opened, rows
    refine ⟨Nat.zero_le _, fun aO hO => ⟨Nat.zero_le _, fun r0 h0 => ⟨sizeLine_ge (by show 1 ≤ 10000; decide), fun aR hR => ?_⟩⟩⟩
    have nO0 : aO ≠ r0 := ne_of_none upd_same h0
    have n0R : r0 ≠ aR := ne_of_none upd_same hR
    have nOR : aO ≠ aR := ne_of_none (show (upd (upd H aO (.lst [])) r0 (.lst [])) aO = some (.lst []) by rw [upd_ne nO0, upd_same]) hR
    have h0' : H r0 = none := by rw [upd_ne nO0.symm] at h0; exact h0
    have hR' : H aR = none := by rw [upd_ne n0R.symm, upd_ne nOR.symm] at hR; exact hR
    have B0 : BHeap C H (upd (upd (upd H aO (.lst [])) r0 (.lst [])) aR (.lst [V.ref r0])) aO aR r0 [] [] [] [] := by
      refine ⟨?_, upd_same, .nil, .nil, ⟨[], ?_, .nil⟩, by simp [nO0, n0R.symm, nOR], ?_, (same_new hO).trans ((same_new h0).trans (same_new hR))⟩
      · rw [upd_ne nOR, upd_ne nO0, upd_same]
        rfl
      · rw [upd_ne n0R, upd_same]
        rfl
      · intro b hb
        simp only [List.mem_cons, List.not_mem_nil, or_false] at hb
        rcases hb with rfl | rfl | rfl
        · exact hO
        · exact hR'
        · exact h0'
    refine ⟨_, rfl, aP, rfl, ⟨_, .inl (.inl (B0.sm _ _ eP))⟩, for_it (walk_list (xs := ps.map V.ref)) (fun i σ H' => ∃ (ops rws : List Addr) (fs : List Fr) (bot : List U.Tm) (x4 x5 x6 x7 x8 x9 x10 : Option V), σ = [some (.str (tx k0.pr)), some (.ref aP), some (.ref aO), some (.ref aR), x4, x5, x6, x7, x8, x9, x10] ∧
        BHeap C H H' aO aR r0 ops rws fs bot ∧ Bst (nameOk N) k0 ((k0.pc 0).drop i) fs bot ∧ ∀ f ∈ fs, f.t.Names (nameOk N))
      ⟨[], [], [], [], _, _, _, _, _, _, _, rfl, B0, .ahead k0 0 ⟨rfl, rfl⟩ hok nm (fun f hf => by simp at hf) (by simp [rests, rP]), fun f hf => by simp at hf⟩ ?_ ?_ ?_⟩
    · rintro i σ H' _ ⟨ops, rws, fs, bot, x4, x5, x6, x7, x8, x9, x10, rfl, bh, _⟩
      exact .inl (.inl (bh.sm _ _ eP))
    · rintro i x σ H1 H2 hi ⟨ops, rws, fs, bot, x4, x5, x6, x7, x8, x9, x10, rfl, bh, bst, fnm⟩ ⟨rfl, hx⟩
      rw [List.length_map] at hi
      have hc : (k0.pc 0)[i]? = some ((k0.pc 0)[i]'(by omega)) := List.getElem?_eq_getElem (by omega)
      have hdr : (k0.pc 0).drop i = (k0.pc 0)[i]'(by omega) :: (k0.pc 0).drop (i + 1) := List.drop_eq_getElem_cons (by omega)
      obtain ⟨pi, hpi, tp0⟩ := Paired.at_ pcs hc
      have ex : x = .ref pi := by
        rw [List.getElem?_map, hpi] at hx
        exact (Option.some.inj hx).symm
      subst ex
      rw [hdr] at bst
      generalize (k0.pc 0)[i]'(by omega) = c at tp0 bst hc hdr
      generalize (k0.pc 0).drop (i + 1) = rem at bst hdr
      have tp := bh.sm _ _ tp0
      refine ⟨_, rfl, pi, _, rfl, .inl (.inl tp), rfl, ?_⟩
      refine ⟨_, _, rfl, _, _, rfl, _, _, rfl, _, _, rfl, rfl, ?_⟩
      refine ⟨_, rfl, tx c.kind, rfl, rfl, _, rfl, ite2 (fun hw => ?_) (fun hw => ?_)⟩
      · -- a bracket opens
        have hw := (in_keys _).mp (of_decide_eq_true hw)
        have eOp : ∃ (k : U.Tm) (a : Nat) (w : Wd) (b : List Nat) (ks : List U.Tm), View k w b ks ∧ Ctx k0 fs k a ∧ k.Names (nameOk N) ∧ restsOk (nameOk N) fs ∧ c :: rem = k.pc a ++ rP (a + k.pr.length) (rests fs) ∧ bot = [] := by
          cases bst with
          | over e => cases e
          | ahead k a ctx ok nm' ro e =>
            rcases view ok with ⟨kd, l, rfl, hk⟩ | ⟨wd, b, ks, v⟩
            · have e1 := (List.cons.inj e).1
              subst e1
              exact absurd hw (kd_wd kd)
            · exact ⟨k, a, wd, b, ks, v, ctx, nm', ro, e, rfl⟩
          | close v ctx nm' ro e =>
            have e1 := (List.cons.inj e).1
            subst e1
            exact absurd hw cl_wd
        obtain ⟨k, a, wd, b, ks, v, ctx, nm', ro, e, rfl⟩ := eOp
        have eR := bh.eR
        have eO := bh.eO
        have ec : c = op a wd b := by
          rw [v.pc] at e
          exact (List.cons.inj e).1
        subst ec
        obtain ⟨k1, ks', rfl⟩ := v.some_kid
        have lO := bh.pO.length
        have lR := bh.pR.length
        have nOR := bh.nd
        simp only [List.nodup_cons, List.mem_cons, not_or] at nOR
        have nOR := nOR.1.1
        have few : fs.length + 1 < k0.pr.length := by
          have h0 : 1 ≤ (hd wd b).length := by simp [hd]
          have h1 := congrArg List.length ctx.text
          rw [List.length_drop, List.length_append, v.pr, List.length_append, List.length_append] at h1
          have h3 := rT_len (rests fs)
          rw [show (rests fs).length = fs.length from List.length_map ..] at h3
          simp at h1
          omega
        refine ⟨_, rfl, .inl ⟨rfl, _, .inl (.inl eO)⟩, _, rfl, aO, _, _, rfl, rfl, eO, ?_, ?_⟩
        · rw [List.length_map, List.length_reverse]
          omega
        have eR2 : ∀ o, (upd H2 aO o) aR = some (.lst ((r0 :: rws.reverse).map V.ref)) := fun o => by
          rw [upd_ne (Ne.symm nOR)]
          exact eR
        refine ⟨_, rfl, .inl ⟨rfl, _, .inl (.inl (eR2 _))⟩, Nat.zero_le _, fun aN hN2 => ?_⟩
        have nRN : aR ≠ aN := ne_of_none (eR2 _) hN2
        refine ⟨aR, _, _, rfl, rfl, (by rw [upd_ne nRN]; exact eR2 _), ?_, ?_⟩
        · rw [List.length_map, List.length_cons, List.length_reverse]
          omega
        exact ⟨pi :: ops, aN :: rws, ⟨k, wd, b, a, [], ks'⟩ :: fs, [], _, _, _, _, _, _, _, rfl, BHeap.push (f := ⟨k, wd, b, a, [], ks'⟩) bh tp rfl hN2, Bst.open v ctx nm' ro e, fun f hf => by
          rcases List.mem_cons.mp hf with rfl | hf
          · exact nm'
          · exact fnm f hf⟩
      · -- a tree is made
        have hw : ¬ isWd c.kind := fun h => hw (decide_eq_true ((in_keys _).mpr h))
        refine ⟨Nat.zero_le _, fun aW hW => ?_⟩
        have bh2 := bh.same (same_new (o := .lst []) hW)
        generalize hH3 : upd H2 aW (.lst []) = H3 at bh2
        have eW : H3 aW = some (.lst []) := by
          rw [← hH3]
          exact upd_same
        refine ⟨fun σ H' => ∃ (k : U.Tm) (a : Nat) (fs : List Fr) (ops rws qs : List Addr) (l : Addr) (y10 : Option V), σ = [some (.str (tx k0.pr)), some (.ref aP), some (.ref aO), some (.ref aR), some (.ref pi), some (.str (tx k.kind)), some (.int a), some (.int ((a + k.pr.length : Nat) : Int)), some (smV k.small), some (.ref l), y10] ∧
          BHeap C H H' aO aR r0 ops rws fs [] ∧ ((∃ kd l, k = .atom kd l) ∨ ∃ w b ks, View k w b ks) ∧ Ctx k0 fs k a ∧ k.Names (nameOk N) ∧ (∀ f ∈ fs, f.t.Names (nameOk N)) ∧ restsOk (nameOk N) fs ∧ rem = rP (a + k.pr.length) (rests fs) ∧ H' l = some (.lst (qs.map V.ref)) ∧ Paired (fun q k => TreeAt C H' k q) qs k.kids, ?_, ?_⟩
        · cases bst with
          | over e => cases e
          | ahead k a ctx ok nm' ro e =>
            rcases view ok with ⟨kd, l, rfl, hk⟩ | ⟨wd, b, ks, v⟩
            · obtain ⟨e1, e2⟩ := List.cons.inj e
              subst e1
              refine ⟨_, rfl, rfl, _, rfl, ?_⟩
              rw [cl41, str_eq, decide_eq_false (kd_not kd)]
              exact iteF ⟨.atom kd l, a, fs, ops, rws, [], aW, _, rfl, bh2, .inl ⟨kd, l, rfl⟩, ctx, nm', fnm, ro, e2, eW, .nil⟩
            · rw [v.pc] at e
              have e1 := (List.cons.inj e).1
              subst e1
              exact absurd (wd_is wd) hw
          | @close f fs' v ctx nm' ro e =>
            obtain ⟨e1, e2⟩ := List.cons.inj e
            subst e1
            refine ⟨_, rfl, rfl, _, rfl, ?_⟩
            rw [cl41, str_eq, decide_eq_true (show (cl (f.at_ + (hd f.w f.b).length + (kT f.dn).length)).kind = [41] from rfl)]
            have lO := bh2.pO.length
            have lR := bh2.pR.length
            cases ops with
            | nil => simp at lO
            | cons pc ops' =>
              cases rws with
              | nil => simp at lR
              | cons r rws' =>
                obtain ⟨eO, eR, ePc, ⟨qs, er, pq⟩, bh3⟩ := bh2.pop
                have nd := bh2.nd
                simp only [List.nodup_cons, List.mem_cons, not_or] at nd
                obtain ⟨⟨n1, n2, n3, n4⟩, ⟨n5, n6, n7⟩, ⟨n8, n9⟩, n10, n11⟩ := nd
                have npc : pc ≠ aO := ne_of ePc eO (by intro z; cases z)
                have k1 : Keep H3 (upd H3 aO (.lst (ops'.reverse.map V.ref))) := Keep.upd eO
                have eR2 : ∀ o, (upd H3 aO o) aR = some (.lst ((r0 :: rws'.reverse).map V.ref ++ [V.ref r])) := fun o => by
                  rw [upd_ne (Ne.symm n1)]
                  exact eR
                refine iteT ⟨_, rfl, .inl ⟨rfl, _, .inl (.inl eO)⟩, aO, _, .ref pc, rfl, rfl, eO, by simp, ?_⟩
                rw [List.dropLast_concat]
                refine ⟨pc, _, rfl, .inl (.inl (k1 _ _ ePc (by intro l z; cases z))), rfl, _, _, rfl, _, _, rfl, _, _, rfl, _, _, rfl, rfl, ?_⟩
                refine ⟨_, rfl, .inl ⟨rfl, _, .inl (.inl (eR2 _))⟩, aR, _, .ref r, rfl, rfl, eR2 _, by simp, ?_⟩
                rw [List.dropLast_concat]
                have kp := k1.trans (Keep.upd (o := .lst ((r0 :: rws'.reverse).map V.ref)) (eR2 _))
                have epr : f.at_ + (hd f.w f.b).length + (kT f.dn).length + 1 = f.at_ + f.t.pr.length := by
                  rw [v.pr]
                  simp
                  omega
                refine ⟨f.t, f.at_, fs', ops', rws', qs, r, some (.int (op f.at_ f.w f.b).e), ?_, bh3, .inr ⟨_, _, _, v⟩, ctx, nm', fun g hg => fnm g (List.mem_cons_of_mem _ hg), ro, e2, ?_, ?_⟩
                · rw [v.kind, v.small, ← epr]
                  rfl
                · rw [upd_ne (Ne.symm n6), upd_ne (Ne.symm n3)]
                  exact er
                · rw [v.kids]
                  exact Paired.mapP pq fun q t h => h.keep kp
        · rintro σ H4 ⟨k, a, fs, ops, rws, qs, l, y10, rfl, bh4, vw, ctx, nm', fnm', ro, erem, el, pq⟩
          have eR := bh4.eR
          obtain ⟨L, r, zs, eL, eRow⟩ := bh4.last
          rw [eL] at eR
          refine ⟨_, rfl, _, rfl, aR, _, _, _, rfl, rfl, .inl (.inl eR), atI_end _ _, .inl ⟨rfl, _, .inl (.inl eRow)⟩, ?_⟩
          -- Tree(text[begin:end], kind, small, within)
          have cut : cutS (tx k0.pr) (some (a : Int)) (some ((a + k.pr.length : Nat) : Int)) = tx k.pr := cut_at ctx.text rfl rfl
          refine ⟨_, rfl, _, rfl, _, rfl, _, rfl, _, rfl, _, rfl, by rw [tx_len]; exact hl, _, rfl, _, rfl, _, rfl, fun p dx hp hdx nxp => ?_⟩
          rw [cut]
          obtain ⟨frs, pf, pi2, hfr⟩ := frees pq (N := N) (by
            rcases vw with ⟨kd, l, rfl⟩ | ⟨w, b, ks, v⟩
            · exact fun k hk => by simp [U.Tm.kids] at hk
            · rw [v.kids]
              exact v.names nm')
          have flen := pf.length
          have plen2 := pq.length
          have kf := kids_few k
          have fb := found_bound (small := smV k.small) (by omega) hN hfr
          have s5 : Same H4 (upd (upd H4 dx (.own p)) p (.ins C dx [])) := (same_new hdx).trans (same_new (by rw [upd_ne (Ne.symm nxp)]; exact hp))
          have npl : l ≠ p := ne_of_none el hp
          refine ⟨p, dx, l, k.pr, k.kind, smV k.small, qs, frs, rfl, upd_same, smV_is _, s5 _ _ el, Paired.mapP pf fun q fr h => h.same s5, fb.1, ⟨N, hN, fb.2⟩, fun H' tw tf ys b1 e1 e2 e3 y1 y2 => ⟨rfl, ?_⟩⟩
          have s6 : Same H4 H' := But.sameN b1 s5 hp
          have fi := free_is vw pi2 y1 y2
          have tr : TreeAt C H' k p := TreeAt.mk ⟨dx, tw, tf, _, e1, e2, e3, fi, rfl⟩ (Paired.mapP pq fun q t h => h.keep (Keep.of s6))
          have bh6 := bh4.same s6
          have few : ∀ f g, fs = f :: g → f.dn.length ≤ 3 := by
            rintro f g rfl
            have h1 := ctx.1.ar
            have h2 := ar_le f.w
            rw [List.length_append] at h1
            omega
          obtain ⟨r', qs', ⟨L', eL'⟩, er', l3, _, _, bh7⟩ := bh6.put tr few
          have er : r' = r := by
            have h := (List.append_inj' (eL'.symm.trans eL) rfl).2
            injection h with h _
            injection h
          subst er
          refine ⟨r', _, _, rfl, rfl, er', ?_, ?_⟩
          · rw [List.length_map]
            exact sizeLine_ge (by omega)
          exact ⟨ops, rws, putDn fs k, putBot fs k, _, _, _, _, _, _, _, rfl, bh7, Bst.fin ctx nm fnm' ro erem, fun f hf => by
            cases fs with
            | nil => simp [putDn] at hf
            | cons g fs' =>
              rcases List.mem_cons.mp hf with rfl | hf
              · exact fnm' g List.mem_cons_self
              · exact fnm' f (List.mem_cons_of_mem _ hf)⟩
    · rintro σ H1 ⟨ops, rws, fs, bot, x4, x5, x6, x7, x8, x9, x10, rfl, bh, bst, fnm⟩
      rw [List.length_map, plen, List.drop_length] at bst
      cases bst with
      | ahead k a ctx ok nm' ro e => cases k <;> simp [U.Tm.pc] at e
      | close v ctx nm' ro e => cases e
      | over e =>
        have hr : rws = [] := by
          have := bh.pR
          cases this
          rfl
        subst hr
        obtain ⟨qs, er, pq⟩ := bh.b0
        cases pq with
        | @cons q0 _ qs' _ t0 p2 =>
          cases p2
          exact ⟨_, rfl, aR, _, _, _, rfl, rfl, .inl (.inl bh.eR), rfl, r0, _, _, _, rfl, rfl, .inl (.inl er), rfl, q q0 H1 bh.sm t0⟩
end
end K


set_option Elab.async false
set_option linter.all false
set_option maxRecDepth 100000
set_option maxHeartbeats 4000000
/-! a call of a def with nothing handed in; a field put anew -/
namespace U
open PySem PySem.Spec PyProof.Rows L2
theorem putF_putF (f : Str) (c v : V) : ∀ fs : List (Str × V), putF f v (putF f c fs) = putF f v fs
  | [] => by
    unfold putF
    exact if_pos rfl
  | (g, x) :: r => by
    by_cases h : g = f
    · simp [putF, h]
    · simp [putF, h, putF_putF f c v r]
section
variable {X : Cx} {k : Nat} {f : Addr} {fd : FuncData} {sp : Sp} {x : Str} {p pos : Pos}
theorem pe_callH0 (h : Has X.prog X.w X.K X.mg X.base x k [] sp f fd) (hr : Room k X.A) (hg : Gl X x) (hdb : (x == ("__debug__" : Str)) = false := by decide) : PE X (.Call (.Name x p) [] [] pos) (tCall sp [] E0 tNil) :=
  pe_call0 h.ok hr hg h.at_ h.kp h.bi .nil pass0 hdb
end
end U

set_option Elab.async false
set_option linter.all false
set_option maxRecDepth 100000
set_option maxHeartbeats 4000000
/-! a dict by names beside the rows that it stands for -/
namespace U
open PySem PySem.Spec PyProof.Rows L2
variable {α : Type}
/-- in its place, or at the end -/
def putR (rows : List (List Nat × α)) (n : List Nat) (k : α) : List (List Nat × α) := if rows.any (fun r => decide (r.1 = n)) = true then rows.map (fun r => if r.1 = n then (r.1, k) else r) else rows ++ [(n, k)]
def dropR (rows : List (List Nat × α)) (n : List Nat) : List (List Nat × α) := rows.filter fun r => decide (r.1 ≠ n)
def getR (rows : List (List Nat × α)) (n : List Nat) : Option α := (rows.find? fun r => decide (r.1 = n)).map (·.2)
def PairK (R : V → α → Prop) (kvs : List (Key × V)) (rows : List (List Nat × α)) : Prop := Paired (fun (kv : Key × V) (r : List Nat × α) => kv.1 = .inr (tx r.1) ∧ R kv.2 r.2) kvs rows
theorem key_eq {kv : Key × V} {l n : List Nat} (h : kv.1 = .inr (tx l)) : kv.1 = .inr (tx n) ↔ l = n := by
  rw [h]
  constructor
  · intro e
    exact tx_inj (Sum.inr.inj e)
  · intro e
    rw [e]
theorem PairK.mono {R S : V → α → Prop} {kvs : List (Key × V)} {rows : List (List Nat × α)} (h : PairK R kvs rows) (m : ∀ v k, R v k → S v k) : PairK S kvs rows := Paired.mapP h fun _ _ h => ⟨h.1, m _ _ h.2⟩
theorem PairK.any {R : V → α → Prop} {kvs : List (Key × V)} {rows : List (List Nat × α)} (h : PairK R kvs rows) (n : List Nat) : (kvs.any fun kv => decide (kv.1 = .inr (tx n))) = rows.any fun r => decide (r.1 = n) := by
  induction h with
  | nil => rfl
  | cons h _ ih =>
    rw [List.any_cons, List.any_cons, ih]
    exact congrArg (· || _) (decide_eq_decide.mpr (key_eq h.1))
theorem PairK.app {R : V → α → Prop} {kvs : List (Key × V)} {rows : List (List Nat × α)} (h : PairK R kvs rows) {n : List Nat} {v : V} {k : α} (r : R v k) : PairK R (kvs ++ [(.inr (tx n), v)]) (rows ++ [(n, k)]) := Paired.app h (.cons ⟨rfl, r⟩ .nil)
theorem PairK.put {R : V → α → Prop} {kvs : List (Key × V)} {rows : List (List Nat × α)} (h : PairK R kvs rows) {n : List Nat} {v : V} {k : α} (r : R v k) : PairK R (putK kvs (.inr (tx n)) v) (putR rows n k) := by
  unfold putK putR
  rw [h.any n]
  by_cases e : (rows.any fun r => decide (r.1 = n)) = true
  · rw [if_pos e, if_pos e]
    clear e
    induction h with
    | nil => exact .nil
    | @cons kv row _ _ h _ ih =>
      rw [List.map_cons, List.map_cons]
      refine .cons ?_ ih
      by_cases e : row.1 = n
      · rw [if_pos ((key_eq h.1).mpr e), if_pos e]
        exact ⟨h.1, r⟩
      · rw [if_neg fun z => e ((key_eq h.1).mp z), if_neg e]
        exact h
  · rw [if_neg e, if_neg e]
    exact h.app r
theorem PairK.drop {R : V → α → Prop} {kvs : List (Key × V)} {rows : List (List Nat × α)} (h : PairK R kvs rows) (n : List Nat) : PairK R (dropK kvs (.inr (tx n))) (dropR rows n) := by
  unfold dropK dropR
  induction h with
  | nil => exact .nil
  | @cons kv row _ _ h _ ih =>
    by_cases e : row.1 = n
    · have e1 := (key_eq (n := n) h.1).mpr e
      rw [List.filter_cons_of_neg (by simp [e1]), List.filter_cons_of_neg (by simp [e])]
      exact ih
    · have e1 : ¬ kv.1 = .inr (tx n) := fun z => e ((key_eq h.1).mp z)
      rw [List.filter_cons_of_pos (by simp [e1]), List.filter_cons_of_pos (by simp [e])]
      exact .cons h ih
theorem PairK.get {R : V → α → Prop} {kvs : List (Key × V)} {rows : List (List Nat × α)} (h : PairK R kvs rows) (n : List Nat) : (getR rows n = none ∧ valV kvs (.inr (tx n)) = none) ∨ ∃ k v, getR rows n = some k ∧ valV kvs (.inr (tx n)) = some v ∧ R v k := by
  unfold getR
  induction h with
  | nil => exact .inl ⟨rfl, rfl⟩
  | @cons kv row _ _ h _ ih =>
    by_cases e : row.1 = n
    · refine .inr ⟨row.2, kv.2, ?_, valV_pos ((key_eq h.1).mpr e), h.2⟩
      rw [List.find?_cons_of_pos (by simp [e])]
      rfl
    · rw [valV_neg fun z => e ((key_eq h.1).mp z), List.find?_cons_of_neg (by simp [e])]
      exact ih
theorem PairK.keys {R : V → α → Prop} {kvs : List (Key × V)} {rows : List (List Nat × α)} (h : PairK R kvs rows) : kvs.map (·.1) = (rows.map fun r => tx r.1).map Sum.inr := by
  induction h with
  | nil => rfl
  | cons h _ ih =>
    rw [List.map_cons, List.map_cons, List.map_cons, ih, h.1]
/-- rows put one behind the other -/
def putAll (rows more : List (List Nat × α)) : List (List Nat × α) := more.foldl (fun acc r => putR acc r.1 r.2) rows
theorem putAll_add (rows more : List (List Nat × α)) (r : List Nat × α) : putAll rows (more ++ [r]) = putR (putAll rows more) r.1 r.2 := by
  unfold putAll
  rw [List.foldl_append]
  rfl
theorem putR_len (rows : List (List Nat × α)) (n : List Nat) (k : α) : (putR rows n k).length ≤ rows.length + 1 := by
  unfold putR
  split
  · rw [List.length_map]
    omega
  · rw [List.length_append]
    exact Nat.le_refl _
theorem dropR_len (rows : List (List Nat × α)) (n : List Nat) : (dropR rows n).length ≤ rows.length := List.length_filter_le _ _
theorem putAll_len (rows more : List (List Nat × α)) : (putAll rows more).length ≤ rows.length + more.length := by
  induction more generalizing rows with
  | nil => exact Nat.le_refl _
  | cons r more ih =>
    have h1 := ih (putR rows r.1 r.2)
    have h2 := putR_len rows r.1 r.2
    show (putAll (putR rows r.1 r.2) more).length ≤ _
    rw [List.length_cons]
    omega
theorem putR_mem {rows : List (List Nat × α)} {n : List Nat} {k : α} {r : List Nat × α} (h : r ∈ putR rows n k) : r ∈ rows ∨ r = (n, k) := by
  unfold putR at h
  split at h
  · obtain ⟨x, hx, rfl⟩ := List.mem_map.mp h
    by_cases e : x.1 = n
    · rw [if_pos e, e]
      exact .inr rfl
    · rw [if_neg e]
      exact .inl hx
  · rcases List.mem_append.mp h with h | h
    · exact .inl h
    · exact .inr (List.mem_singleton.mp h)
theorem dropR_mem {rows : List (List Nat × α)} {n : List Nat} {r : List Nat × α} (h : r ∈ dropR rows n) : r ∈ rows ∧ r.1 ≠ n := by
  obtain ⟨h1, h2⟩ := List.mem_filter.mp h
  exact ⟨h1, of_decide_eq_true h2⟩
/-- no name twice -/
def NodR (rows : List (List Nat × α)) : Prop := (rows.map (·.1)).Nodup
theorem NodR.put {rows : List (List Nat × α)} (h : NodR rows) (n : List Nat) (k : α) : NodR (putR rows n k) := by
  unfold NodR putR at *
  by_cases e : (rows.any fun r => decide (r.1 = n)) = true
  · rw [if_pos e]
    have : (rows.map fun r => if r.1 = n then (r.1, k) else r).map (·.1) = rows.map (·.1) := by
      rw [List.map_map]
      refine List.map_congr_left fun r _ => ?_
      show (if r.1 = n then (r.1, k) else r).1 = r.1
      split <;> rfl
    rw [this]
    exact h
  · rw [if_neg e, List.map_append]
    refine List.nodup_append.mpr ⟨h, by simp, fun a ha b hb z => ?_⟩
    obtain ⟨r, hr, rfl⟩ := List.mem_map.mp ha
    have hb : b = n := by simpa using hb
    refine e (List.any_eq_true.mpr ⟨r, hr, decide_eq_true ?_⟩)
    rw [z, hb]
theorem NodR.drop {rows : List (List Nat × α)} (h : NodR rows) (n : List Nat) : NodR (dropR rows n) := by
  unfold NodR at *
  exact (List.Sublist.map _ List.filter_sublist).nodup h
theorem NodR.all {more : List (List Nat × α)} : ∀ {rows : List (List Nat × α)}, NodR rows → NodR (putAll rows more) := by
  induction more with
  | nil => intro rows h; exact h
  | cons r more ih => intro rows h; exact ih (h.put r.1 r.2)
end U

set_option Elab.async false
set_option linter.all false
set_option maxRecDepth 100000
set_option maxHeartbeats 4000000
/-! walks without the program: heads, codes, the machine that goes over them -/
namespace U
/-- a name, a knot: its signs -/
abbrev Nm := List Nat
/-- what small names stand for -/
abbrev En := List (Nm × Nm)
inductive Hd where
  | num (v : Int)
  | pair (a b : Nm)
  | dfn (x : Nm) (t : Tm) (ns : En)
  | fault (w k : Nm)
  | ring (ks : List Nm)
  | waits (p : Nm)
  deriving DecidableEq
inductive Cd where
  | endd
  | head (m : Nat) (v : Int) (nx : Cd)
  | need (m : Nat) (x : Nm) (nx : Cd)
  | form (m : Nat) (t : Tm) (nx : Cd)
  | iff (a b : Cd)
  | left (nx : Cd)
  | right (w : Wd) (nx : Cd)
  | call (t : Tm) (nx : Cd)
  | half (snd : Bool) (nx : Cd)
  deriving DecidableEq
def numVal (l : List Nat) : Int := (PySem.intText? (tx l)).getD 0
def coded : Tm → Nat → Cd → Cd
  | .atom .num l, m, nx => .head m (numVal l) nx
  | .atom .name l, m, nx => .need m l nx
  | .atom .part l, m, nx => .need m l nx
  | .n1 .deff b x, m, nx => .form m (.n1 .deff b x) nx
  | .n1 .second _ x, m, nx => coded x (m + 1) (.half true nx)
  | .n1 _ _ x, m, nx => coded x (m + 1) (.half false nx)
  | .n2 .pair b x y, m, nx => .form m (.n2 .pair b x y) nx
  | .n2 .lett b x y, m, nx => .form m (.n2 .lett b x y) nx
  | .n2 .call _ x y, m, nx => coded x (m + 1) (.call y nx)
  | .n2 w _ x y, m, nx => coded x (m + 1) (.left (coded y 1 (.right w nx)))
  | .n3 _ _ x y z, m, nx => coded x (m + 1) (.iff (coded y 1 nx) (coded z 1 nx))
inductive Wt where
  | nil
  | num (v : Int) (r : Wt)
  | cont (c : Cd) (e : En) (r : Wt)
  deriving DecidableEq
/-- what waits for a term that has names of its own -/
def behindW (c : Cd) (e : En) (r : Wt) : Wt := if c = .endd then r else .cont c e r
structure St where
  code : Cd
  env : En
  wait : Wt
  head : Option Hd
  steps : Nat
  made : List (Tm × En)
  deriving DecidableEq
/-- the name of the knot made as this one -/
def madeNm (kn : Nm) (n : Nat) : Nm := kn ++ (46 :: (PySem.Str.ofString (toString (n : Int))).cps.toList)
def reck (w : Wd) (a b : Int) : Int := match w with
  | .sum => a + b
  | .less => a - b
  | .times => a * b
  | _ => if a < b then 1 else 0
def great : Nm := [103, 114, 101, 97, 116]
def inB (n : Int) : Bool := decide (-1000000000000 ≤ n) && decide (n ≤ 1000000000000)
def reckH (kn : Nm) (w : Wd) (a b : Int) : Hd := if inB (reck w a b) = true then .num (reck w a b) else .fault great kn
def numberW : Nm := Kd.num.cs
def pairW : Nm := Wd.pair.cs
def defW : Nm := Wd.deff.cs
/-- a head that is none, or none of the kind asked for -/
def unfitH (kn must : Nm) : Hd → Hd
  | .num _ => .fault must kn
  | .pair _ _ => .fault must kn
  | .dfn _ _ _ => .fault must kn
  | h => h
def unfitS (kn must : Nm) (h : Hd) (s : St) : St := { s with code := .endd, wait := .nil, head := some (unfitH kn must h) }
/-- free names of a tree in order, with what they stand for: the law's rows -/
def rowsOf (fr : List Nm) (e : En) : En := fr.map fun x => (x, (getR e x).getD x)
inductive Out where
  | go (s : St)
  | fin (s : St)
  | need (s : St) (k : Nm)
  | out (s : St)
  | bad
  deriving DecidableEq
/-- a step that begins a term: so many are begun, unless the steps end here -/
def begins (lim m : Nat) (s : St) (c : Nat → Cd) (f : St → Out) : Out :=
  if s.steps + m > lim then .out { s with code := c (s.steps + m - lim), steps := lim } else f { s with steps := s.steps + m }
/-- a knot asked for: known, or the walk needs it -/
def asks (known : Nm → Option Hd) (s : St) (k : Nm) : Out := match known k with
  | none => .need s k
  | some h => .go { s with head := some h }
variable (fr : Tm → List Nm) (kn : Nm) (known : Nm → Option Hd) (lim : Nat)
def formS (t : Tm) (nx : Cd) (s : St) : Out := match t with
  | .n2 .pair _ x y => .go { s with code := nx, made := s.made ++ [(x, s.env), (y, s.env)], head := some (.pair (madeNm kn (s.made.length + 1)) (madeNm kn (s.made.length + 2))) }
  | .n1 _ b x => .go { s with code := nx, head := some (.dfn b x (rowsOf (fr t) s.env)) }
  | .n2 _ b x y => .go { s with code := coded y 1 .endd, env := putR s.env b (madeNm kn (s.made.length + 1)), wait := behindW nx s.env s.wait, made := s.made ++ [(x, s.env)], head := none }
  | _ => .bad
def step (s : St) : Out := match s.code with
  | .endd => match s.wait with
    | .nil => .fin s
    | .cont c e r => .go { s with code := c, env := e, wait := r }
    | .num _ _ => .bad
  | .head m v nx => begins lim m s (fun m => .head m v nx) fun s => .go { s with code := nx, head := some (.num v) }
  | .need m x nx => begins lim m s (fun m => .need m x nx) fun s => asks known { s with code := nx } ((getR s.env x).getD x)
  | .form m t nx => begins lim m s (fun m => .form m t nx) fun s => formS fr kn t nx s
  | .iff a b => match s.head with
    | some (.num v) => .go { s with code := if v ≠ 0 then a else b }
    | some h => .go (unfitS kn numberW h s)
    | none => .bad
  | .left nx => match s.head with
    | some (.num v) => .go { s with code := nx, wait := .num v s.wait }
    | some h => .go (unfitS kn numberW h s)
    | none => .bad
  | .right w nx => match s.head with
    | some (.num v) => match s.wait with
      | .num u r => .go { s with code := nx, wait := r, head := some (reckH kn w u v) }
      | _ => .bad
    | some h => .go (unfitS kn numberW h s)
    | none => .bad
  | .call t nx => match s.head with
    | some (.dfn x b ns) => .go { s with code := coded b 1 .endd, env := putR (putAll [] ns) x (madeNm kn (s.made.length + 1)), wait := behindW nx s.env s.wait, made := s.made ++ [(t, s.env)] }
    | some h => .go (unfitS kn defW h s)
    | none => .bad
  | .half i nx => match s.head with
    | some (.pair a b) => asks known { s with code := nx } (if i then b else a)
    | some h => .go (unfitS kn pairW h s)
    | none => .bad
/-- the steps up to where they end, with so much fuel -/
def runM : Nat → St → Option Out
  | 0, _ => none
  | n + 1, s => match step fr kn known lim s with
    | .go s' => runM n s'
    | o => some o
/-- so many steps lead from here to there -/
inductive Goes : Nat → St → St → Prop where
  | nil {s} : Goes 0 s s
  | cons {n s s1 s2} : step fr kn known lim s = .go s1 → Goes n s1 s2 → Goes (n + 1) s s2
variable {fr kn known lim}
theorem Goes.trans {n m : Nat} {a b c : St} (h : Goes fr kn known lim n a b) (g : Goes fr kn known lim m b c) : Goes fr kn known lim (n + m) a c := by
  induction h with
  | nil => rwa [Nat.zero_add]
  | cons e _ ih => rw [Nat.add_right_comm]; exact .cons e (ih g)
theorem Goes.one {a b : St} (e : step fr kn known lim a = .go b) : Goes fr kn known lim 1 a b := .cons e .nil
theorem Goes.run {n : Nat} {a b : St} (h : Goes fr kn known lim n a b) (k : Nat) : runM fr kn known lim (n + k) a = runM fr kn known lim k b := by
  induction h with
  | nil => rw [Nat.zero_add]
  | cons e _ ih => rw [Nat.add_right_comm, runM, e]; exact ih
/-- terms of numbers alone -/
def Tm.Nums : Tm → Prop
  | .atom k l => k = .num
  | .n1 _ _ _ => False
  | .n2 w _ x y => (w = .sum ∨ w = .less ∨ w = .times ∨ w = .below) ∧ x.Nums ∧ y.Nums
  | .n3 _ _ x y z => x.Nums ∧ y.Nums ∧ z.Nums
/-- what such a term comes to, none where it is beyond the greatest; how many terms are begun -/
def Tm.val : Tm → Option Int × Nat
  | .atom _ l => (some (numVal l), 1)
  | .n1 _ _ _ => (none, 0)
  | .n2 w _ x y => match x.val with
    | (none, a) => (none, a + 1)
    | (some u, a) => match y.val with
      | (none, b) => (none, a + b + 1)
      | (some v, b) => (if inB (reck w u v) = true then some (reck w u v) else none, a + b + 1)
  | .n3 _ _ x y z => match x.val with
    | (none, a) => (none, a + 1)
    | (some u, a) => ((if u ≠ 0 then y.val else z.val).1, a + (if u ≠ 0 then y.val else z.val).2 + 1)
/-- where a term's steps lead: to its number and the code behind it, or to the fault -/
def Leads (fr : Tm → List Nm) (kn : Nm) (known : Nm → Option Hd) (lim : Nat) (t : Tm) (m : Nat) (nx : Cd) (s : St) : Prop :=
  s.steps + m + t.val.2 ≤ lim + 1 → match t.val with
  | (some v, n) => ∃ k, Goes fr kn known lim k { s with code := coded t m nx } { s with code := nx, head := some (.num v), steps := s.steps + m + n - 1 }
  | (none, n) => ∃ k c w, Goes fr kn known lim k { s with code := coded t m nx } { s with code := c, wait := w, head := some (.fault great kn), steps := s.steps + m + n - 1 } ∧ (c = nx ∧ w = s.wait ∨ c = .endd ∧ w = .nil)
theorem val_pos {t : Tm} (h : t.Nums) : 1 ≤ t.val.2 := by
  cases t with
  | atom k l => exact Nat.le_refl _
  | n1 w b x => exact h.elim
  | n2 w b x y =>
    simp only [Tm.val]
    split
    · exact Nat.le_add_left _ _
    · split
      · exact Nat.le_add_left _ _
      · exact Nat.le_add_left _ _
  | n3 w b x y z =>
    simp only [Tm.val]
    split <;> exact Nat.le_add_left _ _
end U

set_option Elab.async false
set_option linter.all false
set_option maxRecDepth 100000
set_option maxHeartbeats 4000000
/-! codes, heads, waits, environments in the heap -/
namespace K
open PySem PySem.Spec PyProof.Rows L2 U
/-- all tuples stay -/
def TupS (H H' : Hp) : Prop := ∀ p l, H p = some (.tup l) → H' p = some (.tup l)
theorem TupS.of {H H' : Hp} (h : Same H H') : TupS H H' := fun p l e => h p _ e
theorem TupS.trans {H H1 H2 : Hp} (a : TupS H H1) (b : TupS H1 H2) : TupS H H2 := fun p l e => b p l (a p l e)
/-- a code -/
def CodeV (Reg : Addr → U.Tm → Prop) (H : Hp) : U.Cd → V → Prop
  | .endd, v => ∃ a, v = .ref a ∧ H a = some (.tup [.int 3, .int 0, .non, .non])
  | .head m n nx, v => ∃ a h u, v = .ref a ∧ H a = some (.tup [.int 0, .int m, .ref h, u]) ∧ H h = some (.tup [.str (tx numberW), .int n]) ∧ n.natAbs ≤ 2 ^ 60 ∧ CodeV Reg H nx u
  | .need m x nx, v => ∃ a u, v = .ref a ∧ H a = some (.tup [.int 1, .int m, .str (tx x), u]) ∧ CodeV Reg H nx u
  | .form m t nx, v => ∃ a p u, v = .ref a ∧ H a = some (.tup [.int 2, .int m, .ref p, u]) ∧ Reg p t ∧ CodeV Reg H nx u
  | .iff c d, v => ∃ a u1 u2, v = .ref a ∧ H a = some (.tup [.int 4, .str (tx numberW), u1, u2]) ∧ CodeV Reg H c u1 ∧ CodeV Reg H d u2
  | .left nx, v => ∃ a u, v = .ref a ∧ H a = some (.tup [.int 5, .str (tx numberW), .non, u]) ∧ CodeV Reg H nx u
  | .right w nx, v => ∃ a u, v = .ref a ∧ H a = some (.tup [.int 6, .str (tx numberW), .str (tx w.cs), u]) ∧ CodeV Reg H nx u
  | .call t nx, v => ∃ a p u, v = .ref a ∧ H a = some (.tup [.int 7, .str (tx defW), .ref p, u]) ∧ Reg p t ∧ CodeV Reg H nx u
  | .half i nx, v => ∃ a u, v = .ref a ∧ H a = some (.tup [.int 8, .str (tx pairW), .int (if i then 2 else 1), u]) ∧ CodeV Reg H nx u
theorem CodeV.keep {Reg Reg' : Addr → U.Tm → Prop} {H H' : Hp} (k : TupS H H') (hr : ∀ p t, Reg p t → Reg' p t) : ∀ {c : U.Cd} {v : V}, CodeV Reg H c v → CodeV Reg' H' c v
  | .endd, _, ⟨a, e, h⟩ => ⟨a, e, k _ _ h⟩
  | .head _ _ _, _, ⟨a, h, u, e, h1, h2, b, c⟩ => ⟨a, h, u, e, k _ _ h1, k _ _ h2, b, c.keep k hr⟩
  | .need _ _ _, _, ⟨a, u, e, h1, c⟩ => ⟨a, u, e, k _ _ h1, c.keep k hr⟩
  | .form _ _ _, _, ⟨a, p, u, e, h1, r, c⟩ => ⟨a, p, u, e, k _ _ h1, hr _ _ r, c.keep k hr⟩
  | .iff _ _, _, ⟨a, u1, u2, e, h1, c1, c2⟩ => ⟨a, u1, u2, e, k _ _ h1, c1.keep k hr, c2.keep k hr⟩
  | .left _, _, ⟨a, u, e, h1, c⟩ => ⟨a, u, e, k _ _ h1, c.keep k hr⟩
  | .right _ _, _, ⟨a, u, e, h1, c⟩ => ⟨a, u, e, k _ _ h1, c.keep k hr⟩
  | .call _ _, _, ⟨a, p, u, e, h1, r, c⟩ => ⟨a, p, u, e, k _ _ h1, hr _ _ r, c.keep k hr⟩
  | .half _ _, _, ⟨a, u, e, h1, c⟩ => ⟨a, u, e, k _ _ h1, c.keep k hr⟩
theorem CodeV.ref {Reg : Addr → U.Tm → Prop} {H : Hp} {c : U.Cd} {v : V} (h : CodeV Reg H c v) : ∃ a, v = .ref a := by
  cases c with
  | endd => obtain ⟨a, e, _⟩ := h; exact ⟨a, e⟩
  | head m n nx => obtain ⟨a, _, _, e, _⟩ := h; exact ⟨a, e⟩
  | need m x nx => obtain ⟨a, _, e, _⟩ := h; exact ⟨a, e⟩
  | form m t nx => obtain ⟨a, _, _, e, _⟩ := h; exact ⟨a, e⟩
  | iff c d => obtain ⟨a, _, _, e, _⟩ := h; exact ⟨a, e⟩
  | left nx => obtain ⟨a, _, e, _⟩ := h; exact ⟨a, e⟩
  | right w nx => obtain ⟨a, _, e, _⟩ := h; exact ⟨a, e⟩
  | call t nx => obtain ⟨a, _, _, e, _⟩ := h; exact ⟨a, e⟩
  | half i nx => obtain ⟨a, _, e, _⟩ := h; exact ⟨a, e⟩
/-- rows as a tuple of tuples -/
def RowsT (H : Hp) (e : U.En) (a : Addr) : Prop := ∃ qs, H a = some (.tup (qs.map V.ref)) ∧ Paired (fun q (r : U.Nm × U.Nm) => H q = some (.tup [.str (tx r.1), .str (tx r.2)])) qs e
theorem RowsT.keep {H H' : Hp} (k : TupS H H') {e : U.En} {a : Addr} (h : RowsT H e a) : RowsT H' e a := by
  obtain ⟨qs, h1, h2⟩ := h
  exact ⟨qs, k _ _ h1, Paired.mapP h2 fun _ _ h => k _ _ h⟩
def faultW : U.Nm := [102, 97, 117, 108, 116]
def ringW : U.Nm := [114, 105, 110, 103]
def waitsW : U.Nm := [119, 97, 105, 116, 115]
/-- a head, or what stands for one -/
def HdV (H : Hp) : U.Hd → V → Prop
  | .num n, v => ∃ a, v = .ref a ∧ H a = some (.tup [.str (tx numberW), .int n]) ∧ n.natAbs ≤ 2 ^ 60
  | .pair x y, v => ∃ a, v = .ref a ∧ H a = some (.tup [.str (tx pairW), .str (tx x), .str (tx y)])
  | .dfn x t ns, v => ∃ a r, v = .ref a ∧ H a = some (.tup [.str (tx defW), .str (tx x), .str (tx t.pr), .ref r]) ∧ RowsT H ns r
  | .fault w k, v => ∃ a, v = .ref a ∧ H a = some (.tup [.str (tx faultW), .str (tx w), .str (tx k)])
  | .ring ks, v => ∃ a r, v = .ref a ∧ H a = some (.tup [.str (tx ringW), .ref r]) ∧ H r = some (.tup (ks.map fun k => V.str (tx k)))
  | .waits p, v => ∃ a, v = .ref a ∧ H a = some (.tup [.str (tx waitsW), .str (tx p)])
theorem HdV.keep {H H' : Hp} (k : TupS H H') {h : U.Hd} {v : V} (hv : HdV H h v) : HdV H' h v := by
  cases h with
  | num n => obtain ⟨a, e, h, b⟩ := hv; exact ⟨a, e, k _ _ h, b⟩
  | pair x y => obtain ⟨a, e, h⟩ := hv; exact ⟨a, e, k _ _ h⟩
  | dfn x t ns => obtain ⟨a, r, e, h, g⟩ := hv; exact ⟨a, r, e, k _ _ h, g.keep k⟩
  | fault w q => obtain ⟨a, e, h⟩ := hv; exact ⟨a, e, k _ _ h⟩
  | ring ks => obtain ⟨a, r, e, h, g⟩ := hv; exact ⟨a, r, e, k _ _ h, k _ _ g⟩
  | waits p => obtain ⟨a, e, h⟩ := hv; exact ⟨a, e, k _ _ h⟩
/-- what small names stand for: a dict -/
def EnvV (H : Hp) (e : U.En) (v : V) : Prop := ∃ a kvs, v = .ref a ∧ H a = some (.dK kvs) ∧ PairK (fun v (k : U.Nm) => v = .str (tx k)) kvs e
/-- what waits: each dict among these -/
def WtV (Reg : Addr → U.Tm → Prop) (Env : V → U.En → Prop) (H : Hp) : U.Wt → V → Prop
  | .nil, v => v = .non
  | .num n r, v => ∃ a u, v = .ref a ∧ H a = some (.tup [.int n, u]) ∧ n.natAbs ≤ 2 ^ 60 ∧ WtV Reg Env H r u
  | .cont c e r, v => ∃ a x y u, v = .ref a ∧ H a = some (.tup [x, y, u]) ∧ CodeV Reg H c x ∧ Env y e ∧ WtV Reg Env H r u
theorem WtV.keep {Reg Reg' : Addr → U.Tm → Prop} {Env Env' : V → U.En → Prop} {H H' : Hp} (k : TupS H H') (hr : ∀ p t, Reg p t → Reg' p t) (he : ∀ v e, Env v e → Env' v e) : ∀ {w : U.Wt} {v : V}, WtV Reg Env H w v → WtV Reg' Env' H' w v
  | .nil, _, e => e
  | .num _ _, _, ⟨a, u, e, h, b, r⟩ => ⟨a, u, e, k _ _ h, b, r.keep k hr he⟩
  | .cont _ _ _, _, ⟨a, x, y, u, e, h, c, n, r⟩ => ⟨a, x, y, u, e, k _ _ h, c.keep k hr, he _ _ n, r.keep k hr he⟩
/-- a registered tree: its fields, the trees within registered, its code none or the one that is made of it -/
structure RegAt (C : Addr) (Reg : Addr → U.Tm → Prop) (H : Hp) (p : Addr) (t : U.Tm) (dx tw tf : Addr) (cd : V) (qs : List Addr) (ys : List Str) : Prop where
  hp : H p = some (.ins C dx (treeF (.str (tx t.pr)) (.str (tx t.kind)) (smV t.small) (.ref tw) (.ref tf) cd))
  hw : H tw = some (.tup (qs.map V.ref))
  hf : H tf = some (.tup (ys.map V.str))
  fr : FreeIs t ys
  kids : Paired Reg qs t.kids
  code : cd = .non ∨ CodeV Reg H (U.coded t 1 .endd) cd
  ok : t.Ok
structure Trees (C : Addr) (Reg : Addr → U.Tm → Prop) (H : Hp) : Prop where
  uniq : ∀ p t t', Reg p t → Reg p t' → t = t'
  node : ∀ p t, Reg p t → ∃ dx tw tf cd qs ys, RegAt C Reg H p t dx tw tf cd qs ys
theorem Trees.same {C : Addr} {Reg : Addr → U.Tm → Prop} {H H' : Hp} (h : Trees C Reg H) (s : Same H H') : Trees C Reg H' := ⟨h.uniq, fun p t r => by
  obtain ⟨dx, tw, tf, cd, qs, ys, g⟩ := h.node p t r
  exact ⟨dx, tw, tf, cd, qs, ys, s _ _ g.hp, s _ _ g.hw, s _ _ g.hf, g.fr, g.kids, g.code.imp id fun c => c.keep (TupS.of s) fun _ _ h => h, g.ok⟩⟩
end K

set_option Elab.async false
set_option linter.all false
set_option maxRecDepth 100000
set_option maxHeartbeats 4000000
set_option pp.maxSteps 900
namespace K
open PySem PySem.Spec PyProof.Rows L2 U
/-- the deeds' numbers as the top has them -/
structure Deeds (mg : Str → Option Value) : Prop where
  head : ∃ t, mg "HEAD" = some (.int 0 t)
  need : ∃ t, mg "NEED" = some (.int 1 t)
  form : ∃ t, mg "FORM" = some (.int 2 t)
  end_ : ∃ t, mg "END" = some (.int 3 t)
  iff : ∃ t, mg "IF" = some (.int 4 t)
  left : ∃ t, mg "LEFT" = some (.int 5 t)
  right : ∃ t, mg "RIGHT" = some (.int 6 t)
  call : ∃ t, mg "CALL" = some (.int 7 t)
  half : ∃ t, mg "HALF" = some (.int 8 t)
theorem figs_dig {l : List Nat} (h : ∀ c ∈ l, c ∈ figs) : PySem.NumText.AllDigits l := fun c hc => by
  have h := h c hc
  simp only [figs, List.mem_map, List.mem_range] at h
  obtain ⟨a, ha, rfl⟩ := h
  omega
theorem num_reads {l : List Nat} (h : NumOk l) : PySem.intText? (tx l) = some (numVal l) := by
  have aux : ∀ z, PySem.intText? (tx l) = some z → PySem.intText? (tx l) = some (numVal l) := fun z e => by
    unfold numVal
    rw [e]
    rfl
  rcases h with rfl | ⟨d, ds, e, hd, hl, hs⟩
  · exact aux _ (PySem.intText_digits (fun c hc => by simp at hc; omega) (by simp) (by rw [tx_len]; decide))
  · have hg : ∀ c ∈ d :: ds, c ∈ figs := fun c hc => by
      rcases List.mem_cons.mp hc with rfl | hc
      · simp only [figs, figs1, List.mem_map, List.mem_range] at hd ⊢
        obtain ⟨a, ha, rfl⟩ := hd
        exact ⟨a + 1, by omega, by omega⟩
      · exact hs c hc
    rcases e with rfl | rfl
    · exact aux _ (PySem.intText_digits (figs_dig hg) (by simp) (by rw [tx_len, List.length_cons]; omega))
    · exact aux _ (PySem.intText_neg (cs := d :: ds) rfl (figs_dig hg) (by simp) (by rw [tx_len, List.length_cons, List.length_cons]; omega))
theorem digits_bound : ∀ (ds : List Nat) (a : Nat), PySem.NumText.AllDigits ds → ds.foldl (fun acc c => acc * 10 + (c - 48)) a < (a + 1) * 10 ^ ds.length
  | [], a, _ => by simp
  | d :: ds, a, h => by
    have hd := h d List.mem_cons_self
    have ih := digits_bound ds (a * 10 + (d - 48)) h.tail
    rw [List.foldl_cons, List.length_cons, Nat.pow_succ]
    refine Nat.lt_of_lt_of_le ih ?_
    rw [Nat.mul_comm (10 ^ ds.length) 10, ← Nat.mul_assoc]
    exact Nat.mul_le_mul_right _ (by omega)
theorem digitsVal_bound {ds : List Nat} (h : PySem.NumText.AllDigits ds) (l : ds.length ≤ 12) : PySem.NumText.digitsVal ds ≤ 2 ^ 60 := by
  have h1 := digits_bound ds 0 h
  have h2 : 10 ^ ds.length ≤ 10 ^ 12 := Nat.pow_le_pow_right (by decide) l
  have e : (10 : Nat) ^ 12 ≤ 2 ^ 60 := by decide
  unfold PySem.NumText.digitsVal
  omega
theorem num_bound {l : List Nat} (h : NumOk l) : (numVal l).natAbs ≤ 2 ^ 60 := by
  have aux : ∀ z : Int, PySem.intText? (tx l) = some z → z.natAbs ≤ 2 ^ 60 → (numVal l).natAbs ≤ 2 ^ 60 := fun z e b => by
    unfold numVal
    rw [e]
    exact b
  rcases h with rfl | ⟨d, ds, e, hd, hl, hs⟩
  · exact aux 0 (by decide +kernel) (by decide)
  · have hg : ∀ c ∈ d :: ds, c ∈ figs := fun c hc => by
      rcases List.mem_cons.mp hc with rfl | hc
      · simp only [figs, figs1, List.mem_map, List.mem_range] at hd ⊢
        obtain ⟨a, ha, rfl⟩ := hd
        exact ⟨a + 1, by omega, by omega⟩
      · exact hs c hc
    have b := digitsVal_bound (figs_dig hg) (by rw [List.length_cons]; omega)
    rcases e with rfl | rfl
    · exact aux _ (PySem.intText_digits (figs_dig hg) (by simp) (by rw [tx_len, List.length_cons]; omega)) (by rw [Int.natAbs_natCast]; exact b)
    · exact aux _ (PySem.intText_neg (cs := d :: ds) rfl (figs_dig hg) (by simp) (by rw [tx_len, List.length_cons, List.length_cons]; omega)) (by rw [Int.natAbs_neg, Int.natAbs_natCast]; exact b)
theorem num_len13 {l : List Nat} (h : NumOk l) : l.length ≤ 13 := by
  rcases h with rfl | ⟨d, ds, h, _, hl, _⟩
  · decide
  · rcases h with rfl | rfl <;> simp <;> omega
theorem kid1 {Reg : Addr → U.Tm → Prop} {qs : List Addr} {x : U.Tm} (h : Paired Reg qs [x]) : ∃ q, qs = [q] ∧ Reg q x := by
  cases h with
  | cons h1 h => cases h; exact ⟨_, rfl, h1⟩
theorem kid2 {Reg : Addr → U.Tm → Prop} {qs : List Addr} {x y : U.Tm} (h : Paired Reg qs [x, y]) : ∃ q1 q2, qs = [q1, q2] ∧ Reg q1 x ∧ Reg q2 y := by
  cases h with
  | cons h1 h => obtain ⟨q, rfl, h2⟩ := kid1 h; exact ⟨_, _, rfl, h1, h2⟩
theorem kid3 {Reg : Addr → U.Tm → Prop} {qs : List Addr} {x y z : U.Tm} (h : Paired Reg qs [x, y, z]) : ∃ q1 q2 q3, qs = [q1, q2, q3] ∧ Reg q1 x ∧ Reg q2 y ∧ Reg q3 z := by
  cases h with
  | cons h1 h => obtain ⟨q, q', rfl, h2, h3⟩ := kid2 h; exact ⟨_, _, _, rfl, h1, h2, h3⟩
def spLastCode : Sp := fun vs H Q _ => vs = [] ∧ ∀ r, H r = none → Q (.ref r) (upd H r (.tup [.int 3, .int 0, .non, .non]))
def spCoded (C : Addr) (d : Nat) : Sp := fun vs H Q _ => ∃ (Reg : Addr → U.Tm → Prop) (p : Addr) (m : Nat) (t : U.Tm) (v : V) (c : U.Cd), vs = [.ref p, .int m, v] ∧ Trees C Reg H ∧ Reg p t ∧ t.depth ≤ d ∧ CodeV Reg H c v ∧
  ∀ r H', Same H H' → CodeV Reg H' (U.coded t m c) (.ref r) → Q (.ref r) H'
def spCodedB (C : Addr) : Nat → Sp
  | 0 => fun _ _ _ _ => False
  | d + 1 => spCoded C d
section
variable {P : Program} {w : World} {K : PySem.W.Frag} {mg : Str → Option Value} {base : Heap} {dW dB : Addr} {esW : Array DictEntry} {nW : Nat} (T : Txt K mg w dW dB esW nW) (N : Deeds mg)
include T N
theorem ok_last_code {f : Addr} {fd : FuncData} (F : Fun K "last_code" "last_code" s_last_code f fd) : FnOk P w K mg base CX0 1 f fd [] spLastCode := by
  refine F.ok sc_last_code (fun vs H Q E h => ?_) (fun cdv A outer s H vs Q E hr h => ?_)
  · obtain ⟨rfl, _⟩ := h
    rfl
  · obtain ⟨rfl, q⟩ := h
    refine ⟨_, (pss_one (ps_ret (pe_tup (pa_cons (pe_globI (by rfl) N.end_) (pa_cons pe_int (pa_cons pe_non (pa_cons pe_non pa_nil))))))), ?_⟩
    exact ⟨sizeLine_ge (by show 4 ≤ 10000; decide), fun r hr => q r hr⟩
theorem ok_coded_step (d : Nat) (hd : d ≤ 1000) {f f1 C : Addr} {fd fd1 : FuncData} (F : Fun K "coded" "coded" s_coded f fd) (TC : TreeC K C) (h_coded : Has P w K mg base "coded" (d + 1) ["tree", "begun", "then"] (spCodedB C d) f1 fd1) :
    FnOk P w K mg base CX0 (d + 2) f fd ["tree", "begun", "then"] (spCoded C d) := by
  refine F.ok sc_coded (fun vs H Q E h => ?_) (fun cdv A outer s H vs Q E hr h => ?_)
  · obtain ⟨Reg, p, m, t, v, c, rfl, _⟩ := h
    rfl
  · obtain ⟨Reg, p, m, t, v, c, rfl, TR, rp, td, hc, q⟩ := h
    refine ⟨_, (pss_cons (ps_par (i := 3) (j := 4) (by rfl) sc_coded.nd rfl rfl (by decide) rfl rfl (pa_cons (pe_fld (pv 0) (by rfl)) (pa_cons (pe_fld (pv 0) (by rfl)) pa_nil)) (by rfl))
      (pss_cons (ps_if (pt_cmpR op_eq (pv 3) pe_str (nomark _)) 
        (pss_one (ps_ret (pe_tup (pa_cons (pe_globI (by rfl) N.head) (pa_cons (pv 1) (pa_cons (pe_tup (pa_cons pe_str (pa_cons (pe_callTy call_int_str (by rfl) T.z_int (by decide +kernel) (pa_cons (pe_fld (pv 0) (by rfl)) pa_nil)) pa_nil))) (pa_cons (pv 2) pa_nil))))))) pss_nil)
      (pss_cons (ps_if (PW.pt (pw_or (pt_cmpR op_eq (pv 3) pe_str (nomark _)) (pw_or1 (pt_cmpR op_eq (pv 3) pe_str (nomark _))))) 
        (pss_one (ps_ret (pe_tup (pa_cons (pe_globI (by rfl) N.need) (pa_cons (pv 1) (pa_cons (pe_fld (pv 0) (by rfl)) (pa_cons (pv 2) pa_nil))))))) pss_nil)
      (pss_cons (ps_if (PW.pt (pw_or (pt_cmpR op_eq (pv 3) pe_str (nomark _)) (pw_or (pt_cmpR op_eq (pv 3) pe_str (nomark _)) (pw_or1 (pt_cmpR op_eq (pv 3) pe_str (nomark _)))))) 
        (pss_one (ps_ret (pe_tup (pa_cons (pe_globI (by rfl) N.form) (pa_cons (pv 1) (pa_cons (pv 0) (pa_cons (pv 2) pa_nil))))))) pss_nil)
      (pss_cons (ps_if (pt_cmpR op_eq (pv 3) pe_str (nomark _)) 
        (pss_one (ps_set (i := 5) sc_coded.nd rfl (.inl rfl) (pe_tup (pa_cons (pe_globI (by rfl) N.iff) (pa_cons pe_str (pa_cons (pe_callH h_coded (hr.mono (by first | decide | omega)) (by rfl) (pa_cons (pe_ix ix_tup (pv 4) pe_int (fun _ _ => rfl)) (pa_cons pe_int (pa_cons (pv 2) pa_nil)))) (pa_cons (pe_callH h_coded (hr.mono (by first | decide | omega)) (by rfl) (pa_cons (pe_ix ix_tup (pv 4) pe_int (fun _ _ => rfl)) (pa_cons pe_int (pa_cons (pv 2) pa_nil)))) pa_nil))))))) 
        (pss_one (ps_if (pt_cmpR op_eq (pv 3) pe_str (nomark _)) 
          (pss_one (ps_set (i := 5) sc_coded.nd rfl (.inl rfl) (pe_tup (pa_cons (pe_globI (by rfl) N.half) (pa_cons pe_str (pa_cons pe_int (pa_cons (pv 2) pa_nil))))))) 
          (pss_one (ps_if (pt_cmpR op_eq (pv 3) pe_str (nomark _)) 
            (pss_one (ps_set (i := 5) sc_coded.nd rfl (.inl rfl) (pe_tup (pa_cons (pe_globI (by rfl) N.half) (pa_cons pe_str (pa_cons pe_int (pa_cons (pv 2) pa_nil))))))) 
            (pss_one (ps_if (pt_cmpR op_eq (pv 3) pe_str (nomark _)) 
              (pss_one (ps_set (i := 5) sc_coded.nd rfl (.inl rfl) (pe_tup (pa_cons (pe_globI (by rfl) N.call) (pa_cons pe_str (pa_cons (pe_ix ix_tup (pv 4) pe_int (fun _ _ => rfl)) (pa_cons (pv 2) pa_nil))))))) 
              (pss_one (ps_set (i := 5) sc_coded.nd rfl (.inl rfl) (pe_tup (pa_cons (pe_globI (by rfl) N.left) (pa_cons pe_str (pa_cons pe_non (pa_cons (pe_callH h_coded (hr.mono (by first | decide | omega)) (by rfl) (pa_cons (pe_ix ix_tup (pv 4) pe_int (fun _ _ => rfl)) (pa_cons pe_int (pa_cons (pe_tup (pa_cons (pe_globI (by rfl) N.right) (pa_cons pe_str (pa_cons (pv 3) (pa_cons (pv 2) pa_nil))))) pa_nil)))) pa_nil))))))))))))))
      (pss_one (ps_ret (pe_callH h_coded (hr.mono (by first | decide | omega)) (by rfl) (pa_cons (pe_ix ix_tup (pv 4) pe_int (fun _ _ => rfl)) (pa_cons (pe_op op_add (pv 1) pe_int) (pa_cons (pv 5) pa_nil))))))))))), ?_⟩
    obtain ⟨dx, tw, tf, cd, qs, ys, R⟩ := TR.node p t rp
    have hp := R.hp
    have hw := R.hw
    have kd := R.kids
    have ok := R.ok
    have e0 : ∀ (l : List Nat), tx l = tx l := fun _ => rfl
    cases t with
    | atom k l =>
      cases k with
      | num =>
        have hk : (treeF (.str (tx (U.Tm.atom Kd.num l).pr)) (.str (tx (U.Tm.atom Kd.num l).kind)) (smV (U.Tm.atom Kd.num l).small) (.ref tw) (.ref tf) cd).lookup ("kind" : Str) = some (.str (tx Kd.num.cs)) := tF_kind _ _ _ _ _ _
        refine ⟨_, rfl, p, C, dx, _, _, rfl, hp, TC.cl, TC.nk, hk, _, rfl, p, C, dx, _, _, rfl, hp, TC.cl, TC.nw, tF_within _ _ _ _ _ _, _, _, rfl, ?_⟩
        refine ⟨_, rfl, rfl, _, rfl, ite2 (fun _ => ?_) (fun h => absurd (by decide +kernel) h)⟩
        refine ⟨_, rfl, _, rfl, p, C, dx, _, _, rfl, hp, TC.cl, TC.nt, tF_text _ _ _ _ _ _, _, numVal l, rfl, num_reads ok, by rw [tx_len]; exact Nat.le_trans (num_len13 ok) (by decide), sizeLine_ge (by show 2 ≤ 10000; decide), fun a ha => ⟨_, rfl, sizeLine_ge (by show 4 ≤ 10000; decide), fun r hr => ?_⟩⟩
        have nar : a ≠ r := ne_of_none upd_same hr
        exact q r _ ((same_new ha).trans (same_new hr)) ⟨r, a, v, rfl, upd_same, by rw [upd_ne nar]; exact upd_same, num_bound ok, hc.keep (TupS.of ((same_new ha).trans (same_new hr))) fun _ _ h => h⟩
      | name =>
        have hk : (treeF (.str (tx (U.Tm.atom Kd.name l).pr)) (.str (tx (U.Tm.atom Kd.name l).kind)) (smV (U.Tm.atom Kd.name l).small) (.ref tw) (.ref tf) cd).lookup ("kind" : Str) = some (.str (tx Kd.name.cs)) := tF_kind _ _ _ _ _ _
        refine ⟨_, rfl, p, C, dx, _, _, rfl, hp, TC.cl, TC.nk, hk, _, rfl, p, C, dx, _, _, rfl, hp, TC.cl, TC.nw, tF_within _ _ _ _ _ _, _, _, rfl, ?_⟩
        refine ⟨_, rfl, rfl, _, rfl, ite2 (fun h => absurd h (by decide +kernel)) (fun _ => ?_)⟩
        refine ⟨_, rfl, rfl, _, rfl, ite2 (fun _ => iteT ?_) (fun h => absurd (by decide +kernel) h)⟩
        exact ⟨_, rfl, _, rfl, p, C, dx, _, _, rfl, hp, TC.cl, TC.nt, tF_text _ _ _ _ _ _, _, rfl, sizeLine_ge (by show 4 ≤ 10000; decide), fun r hr => q r _ (same_new hr) ⟨r, v, rfl, upd_same, hc.keep (TupS.of (same_new hr)) fun _ _ h => h⟩⟩
      | part =>
        have hk : (treeF (.str (tx (U.Tm.atom Kd.part l).pr)) (.str (tx (U.Tm.atom Kd.part l).kind)) (smV (U.Tm.atom Kd.part l).small) (.ref tw) (.ref tf) cd).lookup ("kind" : Str) = some (.str (tx Kd.part.cs)) := tF_kind _ _ _ _ _ _
        refine ⟨_, rfl, p, C, dx, _, _, rfl, hp, TC.cl, TC.nk, hk, _, rfl, p, C, dx, _, _, rfl, hp, TC.cl, TC.nw, tF_within _ _ _ _ _ _, _, _, rfl, ?_⟩
        refine ⟨_, rfl, rfl, _, rfl, ite2 (fun h => absurd h (by decide +kernel)) (fun _ => ?_)⟩
        refine ⟨_, rfl, rfl, _, rfl, ite2 (fun h => absurd h (by decide +kernel)) (fun _ => ?_)⟩
        refine ⟨_, rfl, rfl, _, rfl, ite2 (fun _ => ?_) (fun h => absurd (by decide +kernel) h)⟩
        exact ⟨_, rfl, _, rfl, p, C, dx, _, _, rfl, hp, TC.cl, TC.nt, tF_text _ _ _ _ _ _, _, rfl, sizeLine_ge (by show 4 ≤ 10000; decide), fun r hr => q r _ (same_new hr) ⟨r, v, rfl, upd_same, hc.keep (TupS.of (same_new hr)) fun _ _ h => h⟩⟩
    | n1 w b x =>
      obtain ⟨q1, rfl, k1⟩ := kid1 kd
      have d1 : x.depth + 1 ≤ d := by have : 1 + x.depth ≤ d := td; omega
      obtain ⟨d, rfl⟩ : ∃ e, d = e + 1 := ⟨d - 1, by omega⟩
      cases w with
      | sum => exact absurd ok.1 (by decide)
      | less => exact absurd ok.1 (by decide)
      | times => exact absurd ok.1 (by decide)
      | below => exact absurd ok.1 (by decide)
      | iff => exact absurd ok.1 (by decide)
      | pair => exact absurd ok.1 (by decide)
      | first =>
        have hk : (treeF (.str (tx (U.Tm.n1 Wd.first b x).pr)) (.str (tx (U.Tm.n1 Wd.first b x).kind)) (smV (U.Tm.n1 Wd.first b x).small) (.ref tw) (.ref tf) cd).lookup ("kind" : Str) = some (.str (tx Wd.first.cs)) := tF_kind _ _ _ _ _ _
        refine ⟨_, rfl, p, C, dx, _, _, rfl, hp, TC.cl, TC.nk, hk, _, rfl, p, C, dx, _, _, rfl, hp, TC.cl, TC.nw, tF_within _ _ _ _ _ _, _, _, rfl, ?_⟩
        refine ⟨_, rfl, rfl, _, rfl, ite2 (fun h => absurd h (by decide +kernel)) (fun _ => ?_)⟩
        refine ⟨_, rfl, rfl, _, rfl, ite2 (fun h => absurd h (by decide +kernel)) (fun _ => ?_)⟩
        refine ⟨_, rfl, rfl, _, rfl, ite2 (fun h => absurd h (by decide +kernel)) (fun _ => ?_)⟩
        refine ⟨_, rfl, rfl, _, rfl, ite2 (fun h => absurd h (by decide +kernel)) (fun _ => ?_)⟩
        refine ⟨_, rfl, rfl, _, rfl, ite2 (fun h => absurd h (by decide +kernel)) (fun _ => ?_)⟩
        refine ⟨_, rfl, rfl, _, rfl, ite2 (fun h => absurd h (by decide +kernel)) (fun _ => ?_)⟩
        refine ⟨_, rfl, rfl, _, rfl, ite2 (fun h => absurd h (by decide +kernel)) (fun _ => ?_)⟩
        refine ⟨_, rfl, rfl, _, rfl, ite2 (fun _ => ?_) (fun h => absurd (by decide +kernel) h)⟩
        refine ⟨_, rfl, sizeLine_ge (by show 4 ≤ 10000; decide), fun r hr => ?_⟩
        have s1 : Same H _ := same_new (o := .tup [.int 8, .str (tx pairW), .int (if false then 2 else 1), v]) hr
        exact ⟨_, rfl, tw, _, _, _, rfl, rfl, .inl (.inl (s1 _ _ hw)), rfl, _, rfl, _, _, rfl, rfl, _, rfl, Reg, q1, m + 1, x, .ref r, .half false c, rfl, TR.same s1, k1, by omega, ⟨r, v, rfl, upd_same, hc.keep (TupS.of s1) fun _ _ h => h⟩, fun r' H' s' c' => q r' H' ((s1).trans s') c'⟩
      | second =>
        have hk : (treeF (.str (tx (U.Tm.n1 Wd.second b x).pr)) (.str (tx (U.Tm.n1 Wd.second b x).kind)) (smV (U.Tm.n1 Wd.second b x).small) (.ref tw) (.ref tf) cd).lookup ("kind" : Str) = some (.str (tx Wd.second.cs)) := tF_kind _ _ _ _ _ _
        refine ⟨_, rfl, p, C, dx, _, _, rfl, hp, TC.cl, TC.nk, hk, _, rfl, p, C, dx, _, _, rfl, hp, TC.cl, TC.nw, tF_within _ _ _ _ _ _, _, _, rfl, ?_⟩
        refine ⟨_, rfl, rfl, _, rfl, ite2 (fun h => absurd h (by decide +kernel)) (fun _ => ?_)⟩
        refine ⟨_, rfl, rfl, _, rfl, ite2 (fun h => absurd h (by decide +kernel)) (fun _ => ?_)⟩
        refine ⟨_, rfl, rfl, _, rfl, ite2 (fun h => absurd h (by decide +kernel)) (fun _ => ?_)⟩
        refine ⟨_, rfl, rfl, _, rfl, ite2 (fun h => absurd h (by decide +kernel)) (fun _ => ?_)⟩
        refine ⟨_, rfl, rfl, _, rfl, ite2 (fun h => absurd h (by decide +kernel)) (fun _ => ?_)⟩
        refine ⟨_, rfl, rfl, _, rfl, ite2 (fun h => absurd h (by decide +kernel)) (fun _ => ?_)⟩
        refine ⟨_, rfl, rfl, _, rfl, ite2 (fun h => absurd h (by decide +kernel)) (fun _ => ?_)⟩
        refine ⟨_, rfl, rfl, _, rfl, ite2 (fun h => absurd h (by decide +kernel)) (fun _ => ?_)⟩
        refine ⟨_, rfl, rfl, _, rfl, ite2 (fun _ => ?_) (fun h => absurd (by decide +kernel) h)⟩
        refine ⟨_, rfl, sizeLine_ge (by show 4 ≤ 10000; decide), fun r hr => ?_⟩
        have s1 : Same H _ := same_new (o := .tup [.int 8, .str (tx pairW), .int (if true then 2 else 1), v]) hr
        exact ⟨_, rfl, tw, _, _, _, rfl, rfl, .inl (.inl (s1 _ _ hw)), rfl, _, rfl, _, _, rfl, rfl, _, rfl, Reg, q1, m + 1, x, .ref r, .half true c, rfl, TR.same s1, k1, by omega, ⟨r, v, rfl, upd_same, hc.keep (TupS.of s1) fun _ _ h => h⟩, fun r' H' s' c' => q r' H' ((s1).trans s') c'⟩
      | lett => exact absurd ok.1 (by decide)
      | deff =>
        have hk : (treeF (.str (tx (U.Tm.n1 Wd.deff b x).pr)) (.str (tx (U.Tm.n1 Wd.deff b x).kind)) (smV (U.Tm.n1 Wd.deff b x).small) (.ref tw) (.ref tf) cd).lookup ("kind" : Str) = some (.str (tx Wd.deff.cs)) := tF_kind _ _ _ _ _ _
        refine ⟨_, rfl, p, C, dx, _, _, rfl, hp, TC.cl, TC.nk, hk, _, rfl, p, C, dx, _, _, rfl, hp, TC.cl, TC.nw, tF_within _ _ _ _ _ _, _, _, rfl, ?_⟩
        refine ⟨_, rfl, rfl, _, rfl, ite2 (fun h => absurd h (by decide +kernel)) (fun _ => ?_)⟩
        refine ⟨_, rfl, rfl, _, rfl, ite2 (fun h => absurd h (by decide +kernel)) (fun _ => ?_)⟩
        refine ⟨_, rfl, rfl, _, rfl, ite2 (fun h => absurd h (by decide +kernel)) (fun _ => ?_)⟩
        refine ⟨_, rfl, rfl, _, rfl, ite2 (fun h => absurd h (by decide +kernel)) (fun _ => ?_)⟩
        refine ⟨_, rfl, rfl, _, rfl, ite2 (fun _ => iteT ?_) (fun h => absurd (by decide +kernel) h)⟩
        exact ⟨_, rfl, _, rfl, _, rfl, sizeLine_ge (by show 4 ≤ 10000; decide), fun r hr => q r _ (same_new hr) ⟨r, p, v, rfl, upd_same, rp, hc.keep (TupS.of (same_new hr)) fun _ _ h => h⟩⟩
      | call => exact absurd ok.1 (by decide)
    | n2 w b x y =>
      obtain ⟨q1, q2, rfl, k1, k2⟩ := kid2 kd
      have d1 : x.depth + 1 ≤ d ∧ y.depth + 1 ≤ d := by have : 1 + max x.depth y.depth ≤ d := td; omega
      obtain ⟨d, rfl⟩ : ∃ e, d = e + 1 := ⟨d - 1, by omega⟩
      cases w with
      | sum =>
        have hk : (treeF (.str (tx (U.Tm.n2 Wd.sum b x y).pr)) (.str (tx (U.Tm.n2 Wd.sum b x y).kind)) (smV (U.Tm.n2 Wd.sum b x y).small) (.ref tw) (.ref tf) cd).lookup ("kind" : Str) = some (.str (tx Wd.sum.cs)) := tF_kind _ _ _ _ _ _
        refine ⟨_, rfl, p, C, dx, _, _, rfl, hp, TC.cl, TC.nk, hk, _, rfl, p, C, dx, _, _, rfl, hp, TC.cl, TC.nw, tF_within _ _ _ _ _ _, _, _, rfl, ?_⟩
        refine ⟨_, rfl, rfl, _, rfl, ite2 (fun h => absurd h (by decide +kernel)) (fun _ => ?_)⟩
        refine ⟨_, rfl, rfl, _, rfl, ite2 (fun h => absurd h (by decide +kernel)) (fun _ => ?_)⟩
        refine ⟨_, rfl, rfl, _, rfl, ite2 (fun h => absurd h (by decide +kernel)) (fun _ => ?_)⟩
        refine ⟨_, rfl, rfl, _, rfl, ite2 (fun h => absurd h (by decide +kernel)) (fun _ => ?_)⟩
        refine ⟨_, rfl, rfl, _, rfl, ite2 (fun h => absurd h (by decide +kernel)) (fun _ => ?_)⟩
        refine ⟨_, rfl, rfl, _, rfl, ite2 (fun h => absurd h (by decide +kernel)) (fun _ => ?_)⟩
        refine ⟨_, rfl, rfl, _, rfl, ite2 (fun h => absurd h (by decide +kernel)) (fun _ => ?_)⟩
        refine ⟨_, rfl, rfl, _, rfl, ite2 (fun h => absurd h (by decide +kernel)) (fun _ => ?_)⟩
        refine ⟨_, rfl, rfl, _, rfl, ite2 (fun h => absurd h (by decide +kernel)) (fun _ => ?_)⟩
        refine ⟨_, rfl, rfl, _, rfl, ite2 (fun h => absurd h (by decide +kernel)) (fun _ => ?_)⟩
        refine ⟨_, rfl, tw, _, _, _, rfl, rfl, .inl (.inl (Same.refl H _ _ hw)), rfl, _, rfl, _, rfl, sizeLine_ge (by show 4 ≤ 10000; decide), fun a ha => ?_⟩
        have s1 : Same H _ := same_new (o := .tup [.int 6, .str (tx numberW), .str (tx Wd.sum.cs), v]) ha
        refine ⟨Reg, q2, 1, y, .ref a, .right .sum c, rfl, TR.same s1, k2, by omega, ⟨a, v, rfl, upd_same, hc.keep (TupS.of s1) fun _ _ h => h⟩, fun r2 H2 s2 c2 => ⟨sizeLine_ge (by show 4 ≤ 10000; decide), fun r hr => ?_⟩⟩
        have s3 : Same H2 _ := same_new (o := .tup [.int 5, .str (tx numberW), .non, .ref r2]) hr
        have s4 := s1.trans (s2.trans s3)
        exact ⟨_, rfl, tw, _, _, _, rfl, rfl, .inl (.inl (s4 _ _ hw)), rfl, _, rfl, _, _, rfl, rfl, _, rfl, Reg, q1, m + 1, x, .ref r, .left (U.coded y 1 (.right .sum c)), rfl, TR.same s4, k1, by omega, ⟨r, .ref r2, rfl, upd_same, c2.keep (TupS.of s3) (fun _ _ h => h)⟩, fun r' H' s' c' => q r' H' ((s4).trans s') c'⟩
      | less =>
        have hk : (treeF (.str (tx (U.Tm.n2 Wd.less b x y).pr)) (.str (tx (U.Tm.n2 Wd.less b x y).kind)) (smV (U.Tm.n2 Wd.less b x y).small) (.ref tw) (.ref tf) cd).lookup ("kind" : Str) = some (.str (tx Wd.less.cs)) := tF_kind _ _ _ _ _ _
        refine ⟨_, rfl, p, C, dx, _, _, rfl, hp, TC.cl, TC.nk, hk, _, rfl, p, C, dx, _, _, rfl, hp, TC.cl, TC.nw, tF_within _ _ _ _ _ _, _, _, rfl, ?_⟩
        refine ⟨_, rfl, rfl, _, rfl, ite2 (fun h => absurd h (by decide +kernel)) (fun _ => ?_)⟩
        refine ⟨_, rfl, rfl, _, rfl, ite2 (fun h => absurd h (by decide +kernel)) (fun _ => ?_)⟩
        refine ⟨_, rfl, rfl, _, rfl, ite2 (fun h => absurd h (by decide +kernel)) (fun _ => ?_)⟩
        refine ⟨_, rfl, rfl, _, rfl, ite2 (fun h => absurd h (by decide +kernel)) (fun _ => ?_)⟩
        refine ⟨_, rfl, rfl, _, rfl, ite2 (fun h => absurd h (by decide +kernel)) (fun _ => ?_)⟩
        refine ⟨_, rfl, rfl, _, rfl, ite2 (fun h => absurd h (by decide +kernel)) (fun _ => ?_)⟩
        refine ⟨_, rfl, rfl, _, rfl, ite2 (fun h => absurd h (by decide +kernel)) (fun _ => ?_)⟩
        refine ⟨_, rfl, rfl, _, rfl, ite2 (fun h => absurd h (by decide +kernel)) (fun _ => ?_)⟩
        refine ⟨_, rfl, rfl, _, rfl, ite2 (fun h => absurd h (by decide +kernel)) (fun _ => ?_)⟩
        refine ⟨_, rfl, rfl, _, rfl, ite2 (fun h => absurd h (by decide +kernel)) (fun _ => ?_)⟩
        refine ⟨_, rfl, tw, _, _, _, rfl, rfl, .inl (.inl (Same.refl H _ _ hw)), rfl, _, rfl, _, rfl, sizeLine_ge (by show 4 ≤ 10000; decide), fun a ha => ?_⟩
        have s1 : Same H _ := same_new (o := .tup [.int 6, .str (tx numberW), .str (tx Wd.less.cs), v]) ha
        refine ⟨Reg, q2, 1, y, .ref a, .right .less c, rfl, TR.same s1, k2, by omega, ⟨a, v, rfl, upd_same, hc.keep (TupS.of s1) fun _ _ h => h⟩, fun r2 H2 s2 c2 => ⟨sizeLine_ge (by show 4 ≤ 10000; decide), fun r hr => ?_⟩⟩
        have s3 : Same H2 _ := same_new (o := .tup [.int 5, .str (tx numberW), .non, .ref r2]) hr
        have s4 := s1.trans (s2.trans s3)
        exact ⟨_, rfl, tw, _, _, _, rfl, rfl, .inl (.inl (s4 _ _ hw)), rfl, _, rfl, _, _, rfl, rfl, _, rfl, Reg, q1, m + 1, x, .ref r, .left (U.coded y 1 (.right .less c)), rfl, TR.same s4, k1, by omega, ⟨r, .ref r2, rfl, upd_same, c2.keep (TupS.of s3) (fun _ _ h => h)⟩, fun r' H' s' c' => q r' H' ((s4).trans s') c'⟩
      | times =>
        have hk : (treeF (.str (tx (U.Tm.n2 Wd.times b x y).pr)) (.str (tx (U.Tm.n2 Wd.times b x y).kind)) (smV (U.Tm.n2 Wd.times b x y).small) (.ref tw) (.ref tf) cd).lookup ("kind" : Str) = some (.str (tx Wd.times.cs)) := tF_kind _ _ _ _ _ _
        refine ⟨_, rfl, p, C, dx, _, _, rfl, hp, TC.cl, TC.nk, hk, _, rfl, p, C, dx, _, _, rfl, hp, TC.cl, TC.nw, tF_within _ _ _ _ _ _, _, _, rfl, ?_⟩
        refine ⟨_, rfl, rfl, _, rfl, ite2 (fun h => absurd h (by decide +kernel)) (fun _ => ?_)⟩
        refine ⟨_, rfl, rfl, _, rfl, ite2 (fun h => absurd h (by decide +kernel)) (fun _ => ?_)⟩
        refine ⟨_, rfl, rfl, _, rfl, ite2 (fun h => absurd h (by decide +kernel)) (fun _ => ?_)⟩
        refine ⟨_, rfl, rfl, _, rfl, ite2 (fun h => absurd h (by decide +kernel)) (fun _ => ?_)⟩
        refine ⟨_, rfl, rfl, _, rfl, ite2 (fun h => absurd h (by decide +kernel)) (fun _ => ?_)⟩
        refine ⟨_, rfl, rfl, _, rfl, ite2 (fun h => absurd h (by decide +kernel)) (fun _ => ?_)⟩
        refine ⟨_, rfl, rfl, _, rfl, ite2 (fun h => absurd h (by decide +kernel)) (fun _ => ?_)⟩
        refine ⟨_, rfl, rfl, _, rfl, ite2 (fun h => absurd h (by decide +kernel)) (fun _ => ?_)⟩
        refine ⟨_, rfl, rfl, _, rfl, ite2 (fun h => absurd h (by decide +kernel)) (fun _ => ?_)⟩
        refine ⟨_, rfl, rfl, _, rfl, ite2 (fun h => absurd h (by decide +kernel)) (fun _ => ?_)⟩
        refine ⟨_, rfl, tw, _, _, _, rfl, rfl, .inl (.inl (Same.refl H _ _ hw)), rfl, _, rfl, _, rfl, sizeLine_ge (by show 4 ≤ 10000; decide), fun a ha => ?_⟩
        have s1 : Same H _ := same_new (o := .tup [.int 6, .str (tx numberW), .str (tx Wd.times.cs), v]) ha
        refine ⟨Reg, q2, 1, y, .ref a, .right .times c, rfl, TR.same s1, k2, by omega, ⟨a, v, rfl, upd_same, hc.keep (TupS.of s1) fun _ _ h => h⟩, fun r2 H2 s2 c2 => ⟨sizeLine_ge (by show 4 ≤ 10000; decide), fun r hr => ?_⟩⟩
        have s3 : Same H2 _ := same_new (o := .tup [.int 5, .str (tx numberW), .non, .ref r2]) hr
        have s4 := s1.trans (s2.trans s3)
        exact ⟨_, rfl, tw, _, _, _, rfl, rfl, .inl (.inl (s4 _ _ hw)), rfl, _, rfl, _, _, rfl, rfl, _, rfl, Reg, q1, m + 1, x, .ref r, .left (U.coded y 1 (.right .times c)), rfl, TR.same s4, k1, by omega, ⟨r, .ref r2, rfl, upd_same, c2.keep (TupS.of s3) (fun _ _ h => h)⟩, fun r' H' s' c' => q r' H' ((s4).trans s') c'⟩
      | below =>
        have hk : (treeF (.str (tx (U.Tm.n2 Wd.below b x y).pr)) (.str (tx (U.Tm.n2 Wd.below b x y).kind)) (smV (U.Tm.n2 Wd.below b x y).small) (.ref tw) (.ref tf) cd).lookup ("kind" : Str) = some (.str (tx Wd.below.cs)) := tF_kind _ _ _ _ _ _
        refine ⟨_, rfl, p, C, dx, _, _, rfl, hp, TC.cl, TC.nk, hk, _, rfl, p, C, dx, _, _, rfl, hp, TC.cl, TC.nw, tF_within _ _ _ _ _ _, _, _, rfl, ?_⟩
        refine ⟨_, rfl, rfl, _, rfl, ite2 (fun h => absurd h (by decide +kernel)) (fun _ => ?_)⟩
        refine ⟨_, rfl, rfl, _, rfl, ite2 (fun h => absurd h (by decide +kernel)) (fun _ => ?_)⟩
        refine ⟨_, rfl, rfl, _, rfl, ite2 (fun h => absurd h (by decide +kernel)) (fun _ => ?_)⟩
        refine ⟨_, rfl, rfl, _, rfl, ite2 (fun h => absurd h (by decide +kernel)) (fun _ => ?_)⟩
        refine ⟨_, rfl, rfl, _, rfl, ite2 (fun h => absurd h (by decide +kernel)) (fun _ => ?_)⟩
        refine ⟨_, rfl, rfl, _, rfl, ite2 (fun h => absurd h (by decide +kernel)) (fun _ => ?_)⟩
        refine ⟨_, rfl, rfl, _, rfl, ite2 (fun h => absurd h (by decide +kernel)) (fun _ => ?_)⟩
        refine ⟨_, rfl, rfl, _, rfl, ite2 (fun h => absurd h (by decide +kernel)) (fun _ => ?_)⟩
        refine ⟨_, rfl, rfl, _, rfl, ite2 (fun h => absurd h (by decide +kernel)) (fun _ => ?_)⟩
        refine ⟨_, rfl, rfl, _, rfl, ite2 (fun h => absurd h (by decide +kernel)) (fun _ => ?_)⟩
        refine ⟨_, rfl, tw, _, _, _, rfl, rfl, .inl (.inl (Same.refl H _ _ hw)), rfl, _, rfl, _, rfl, sizeLine_ge (by show 4 ≤ 10000; decide), fun a ha => ?_⟩
        have s1 : Same H _ := same_new (o := .tup [.int 6, .str (tx numberW), .str (tx Wd.below.cs), v]) ha
        refine ⟨Reg, q2, 1, y, .ref a, .right .below c, rfl, TR.same s1, k2, by omega, ⟨a, v, rfl, upd_same, hc.keep (TupS.of s1) fun _ _ h => h⟩, fun r2 H2 s2 c2 => ⟨sizeLine_ge (by show 4 ≤ 10000; decide), fun r hr => ?_⟩⟩
        have s3 : Same H2 _ := same_new (o := .tup [.int 5, .str (tx numberW), .non, .ref r2]) hr
        have s4 := s1.trans (s2.trans s3)
        exact ⟨_, rfl, tw, _, _, _, rfl, rfl, .inl (.inl (s4 _ _ hw)), rfl, _, rfl, _, _, rfl, rfl, _, rfl, Reg, q1, m + 1, x, .ref r, .left (U.coded y 1 (.right .below c)), rfl, TR.same s4, k1, by omega, ⟨r, .ref r2, rfl, upd_same, c2.keep (TupS.of s3) (fun _ _ h => h)⟩, fun r' H' s' c' => q r' H' ((s4).trans s') c'⟩
      | iff => exact absurd ok.1 (by decide)
      | pair =>
        have hk : (treeF (.str (tx (U.Tm.n2 Wd.pair b x y).pr)) (.str (tx (U.Tm.n2 Wd.pair b x y).kind)) (smV (U.Tm.n2 Wd.pair b x y).small) (.ref tw) (.ref tf) cd).lookup ("kind" : Str) = some (.str (tx Wd.pair.cs)) := tF_kind _ _ _ _ _ _
        refine ⟨_, rfl, p, C, dx, _, _, rfl, hp, TC.cl, TC.nk, hk, _, rfl, p, C, dx, _, _, rfl, hp, TC.cl, TC.nw, tF_within _ _ _ _ _ _, _, _, rfl, ?_⟩
        refine ⟨_, rfl, rfl, _, rfl, ite2 (fun h => absurd h (by decide +kernel)) (fun _ => ?_)⟩
        refine ⟨_, rfl, rfl, _, rfl, ite2 (fun h => absurd h (by decide +kernel)) (fun _ => ?_)⟩
        refine ⟨_, rfl, rfl, _, rfl, ite2 (fun h => absurd h (by decide +kernel)) (fun _ => ?_)⟩
        refine ⟨_, rfl, rfl, _, rfl, ite2 (fun _ => iteT ?_) (fun h => absurd (by decide +kernel) h)⟩
        exact ⟨_, rfl, _, rfl, _, rfl, sizeLine_ge (by show 4 ≤ 10000; decide), fun r hr => q r _ (same_new hr) ⟨r, p, v, rfl, upd_same, rp, hc.keep (TupS.of (same_new hr)) fun _ _ h => h⟩⟩
      | first => exact absurd ok.1 (by decide)
      | second => exact absurd ok.1 (by decide)
      | lett =>
        have hk : (treeF (.str (tx (U.Tm.n2 Wd.lett b x y).pr)) (.str (tx (U.Tm.n2 Wd.lett b x y).kind)) (smV (U.Tm.n2 Wd.lett b x y).small) (.ref tw) (.ref tf) cd).lookup ("kind" : Str) = some (.str (tx Wd.lett.cs)) := tF_kind _ _ _ _ _ _
        refine ⟨_, rfl, p, C, dx, _, _, rfl, hp, TC.cl, TC.nk, hk, _, rfl, p, C, dx, _, _, rfl, hp, TC.cl, TC.nw, tF_within _ _ _ _ _ _, _, _, rfl, ?_⟩
        refine ⟨_, rfl, rfl, _, rfl, ite2 (fun h => absurd h (by decide +kernel)) (fun _ => ?_)⟩
        refine ⟨_, rfl, rfl, _, rfl, ite2 (fun h => absurd h (by decide +kernel)) (fun _ => ?_)⟩
        refine ⟨_, rfl, rfl, _, rfl, ite2 (fun h => absurd h (by decide +kernel)) (fun _ => ?_)⟩
        refine ⟨_, rfl, rfl, _, rfl, ite2 (fun h => absurd h (by decide +kernel)) (fun _ => ?_)⟩
        refine ⟨_, rfl, rfl, _, rfl, ite2 (fun h => absurd h (by decide +kernel)) (fun _ => ?_)⟩
        refine ⟨_, rfl, rfl, _, rfl, ite2 (fun _ => ?_) (fun h => absurd (by decide +kernel) h)⟩
        exact ⟨_, rfl, _, rfl, _, rfl, sizeLine_ge (by show 4 ≤ 10000; decide), fun r hr => q r _ (same_new hr) ⟨r, p, v, rfl, upd_same, rp, hc.keep (TupS.of (same_new hr)) fun _ _ h => h⟩⟩
      | deff => exact absurd ok.1 (by decide)
      | call =>
        have hk : (treeF (.str (tx (U.Tm.n2 Wd.call b x y).pr)) (.str (tx (U.Tm.n2 Wd.call b x y).kind)) (smV (U.Tm.n2 Wd.call b x y).small) (.ref tw) (.ref tf) cd).lookup ("kind" : Str) = some (.str (tx Wd.call.cs)) := tF_kind _ _ _ _ _ _
        refine ⟨_, rfl, p, C, dx, _, _, rfl, hp, TC.cl, TC.nk, hk, _, rfl, p, C, dx, _, _, rfl, hp, TC.cl, TC.nw, tF_within _ _ _ _ _ _, _, _, rfl, ?_⟩
        refine ⟨_, rfl, rfl, _, rfl, ite2 (fun h => absurd h (by decide +kernel)) (fun _ => ?_)⟩
        refine ⟨_, rfl, rfl, _, rfl, ite2 (fun h => absurd h (by decide +kernel)) (fun _ => ?_)⟩
        refine ⟨_, rfl, rfl, _, rfl, ite2 (fun h => absurd h (by decide +kernel)) (fun _ => ?_)⟩
        refine ⟨_, rfl, rfl, _, rfl, ite2 (fun h => absurd h (by decide +kernel)) (fun _ => ?_)⟩
        refine ⟨_, rfl, rfl, _, rfl, ite2 (fun h => absurd h (by decide +kernel)) (fun _ => ?_)⟩
        refine ⟨_, rfl, rfl, _, rfl, ite2 (fun h => absurd h (by decide +kernel)) (fun _ => ?_)⟩
        refine ⟨_, rfl, rfl, _, rfl, ite2 (fun h => absurd h (by decide +kernel)) (fun _ => ?_)⟩
        refine ⟨_, rfl, rfl, _, rfl, ite2 (fun h => absurd h (by decide +kernel)) (fun _ => ?_)⟩
        refine ⟨_, rfl, rfl, _, rfl, ite2 (fun h => absurd h (by decide +kernel)) (fun _ => ?_)⟩
        refine ⟨_, rfl, rfl, _, rfl, ite2 (fun _ => ?_) (fun h => absurd (by decide +kernel) h)⟩
        refine ⟨_, rfl, tw, _, _, _, rfl, rfl, .inl (.inl (Same.refl H _ _ hw)), rfl, _, rfl, sizeLine_ge (by show 4 ≤ 10000; decide), fun r hr => ?_⟩
        have s1 : Same H _ := same_new (o := .tup [.int 7, .str (tx defW), .ref q2, v]) hr
        exact ⟨_, rfl, tw, _, _, _, rfl, rfl, .inl (.inl (s1 _ _ hw)), rfl, _, rfl, _, _, rfl, rfl, _, rfl, Reg, q1, m + 1, x, .ref r, .call y c, rfl, TR.same s1, k1, by omega, ⟨r, q2, v, rfl, upd_same, k2, hc.keep (TupS.of s1) fun _ _ h => h⟩, fun r' H' s' c' => q r' H' ((s1).trans s') c'⟩
    | n3 w b x y z =>
      obtain ⟨q1, q2, q3, rfl, k1, k2, k3⟩ := kid3 kd
      have d1 : x.depth + 1 ≤ d ∧ y.depth + 1 ≤ d ∧ z.depth + 1 ≤ d := by have : 1 + max (max x.depth y.depth) z.depth ≤ d := td; omega
      obtain ⟨d, rfl⟩ : ∃ e, d = e + 1 := ⟨d - 1, by omega⟩
      cases w with
      | sum => exact absurd ok.1 (by decide)
      | less => exact absurd ok.1 (by decide)
      | times => exact absurd ok.1 (by decide)
      | below => exact absurd ok.1 (by decide)
      | iff =>
        have hk : (treeF (.str (tx (U.Tm.n3 Wd.iff b x y z).pr)) (.str (tx (U.Tm.n3 Wd.iff b x y z).kind)) (smV (U.Tm.n3 Wd.iff b x y z).small) (.ref tw) (.ref tf) cd).lookup ("kind" : Str) = some (.str (tx Wd.iff.cs)) := tF_kind _ _ _ _ _ _
        refine ⟨_, rfl, p, C, dx, _, _, rfl, hp, TC.cl, TC.nk, hk, _, rfl, p, C, dx, _, _, rfl, hp, TC.cl, TC.nw, tF_within _ _ _ _ _ _, _, _, rfl, ?_⟩
        refine ⟨_, rfl, rfl, _, rfl, ite2 (fun h => absurd h (by decide +kernel)) (fun _ => ?_)⟩
        refine ⟨_, rfl, rfl, _, rfl, ite2 (fun h => absurd h (by decide +kernel)) (fun _ => ?_)⟩
        refine ⟨_, rfl, rfl, _, rfl, ite2 (fun h => absurd h (by decide +kernel)) (fun _ => ?_)⟩
        refine ⟨_, rfl, rfl, _, rfl, ite2 (fun h => absurd h (by decide +kernel)) (fun _ => ?_)⟩
        refine ⟨_, rfl, rfl, _, rfl, ite2 (fun h => absurd h (by decide +kernel)) (fun _ => ?_)⟩
        refine ⟨_, rfl, rfl, _, rfl, ite2 (fun h => absurd h (by decide +kernel)) (fun _ => ?_)⟩
        refine ⟨_, rfl, rfl, _, rfl, ite2 (fun _ => ?_) (fun h => absurd (by decide +kernel) h)⟩
        refine ⟨_, rfl, tw, _, _, _, rfl, rfl, .inl (.inl (Same.refl H _ _ hw)), rfl, _, rfl, Reg, q2, 1, y, v, c, rfl, TR, k2, by omega, hc, fun r1 H1 s1 c1 => ?_⟩
        refine ⟨_, rfl, tw, _, _, _, rfl, rfl, .inl (.inl (s1 _ _ hw)), rfl, _, rfl, Reg, q3, 1, z, v, c, rfl, TR.same s1, k3, by omega, hc.keep (TupS.of s1) (fun _ _ h => h), fun r2 H2 s2 c2 => ⟨sizeLine_ge (by show 4 ≤ 10000; decide), fun r hr => ?_⟩⟩
        have s3 : Same H2 _ := same_new (o := .tup [.int 4, .str (tx numberW), .ref r1, .ref r2]) hr
        have s4 := s1.trans (s2.trans s3)
        exact ⟨_, rfl, tw, _, _, _, rfl, rfl, .inl (.inl (s4 _ _ hw)), rfl, _, rfl, _, _, rfl, rfl, _, rfl, Reg, q1, m + 1, x, .ref r, .iff (U.coded y 1 c) (U.coded z 1 c), rfl, TR.same s4, k1, by omega, ⟨r, .ref r1, .ref r2, rfl, upd_same, c1.keep (TupS.of (s2.trans s3)) (fun _ _ h => h), c2.keep (TupS.of s3) (fun _ _ h => h)⟩, fun r' H' s' c' => q r' H' ((s4).trans s') c'⟩
      | pair => exact absurd ok.1 (by decide)
      | first => exact absurd ok.1 (by decide)
      | second => exact absurd ok.1 (by decide)
      | lett => exact absurd ok.1 (by decide)
      | deff => exact absurd ok.1 (by decide)
      | call => exact absurd ok.1 (by decide)
end
end K


set_option Elab.async false
set_option linter.all false
set_option maxRecDepth 100000
set_option maxHeartbeats 4000000
namespace K
open PySem PySem.Spec PyProof.Rows L2 U
/-- all but registered trees stays -/
def ButT (Reg : Addr → U.Tm → Prop) (H H' : Hp) : Prop := ∀ a o, H a = some o → (∀ t, ¬ Reg a t) → H' a = some o
def spCodeds (C : Addr) : Sp := spCoded C 30
def spCodeOf (C : Addr) : Sp := fun vs H Q _ => ∃ (Reg : Addr → U.Tm → Prop) (p : Addr) (t : U.Tm), vs = [.ref p] ∧ Trees C Reg H ∧ Reg p t ∧ t.depth ≤ 30 ∧
  ∀ v H', ButT Reg H H' → Trees C Reg H' → CodeV Reg H' (U.coded t 1 .endd) v → Q v H'
theorem treeF_code (t k s w f c v : V) : putF "code" v (treeF t k s w f c) = treeF t k s w f v := by
  unfold treeF
  exact putF_putF _ _ _ _
theorem putF_len (f : Str) (v : V) : ∀ fs : List (Str × V), (putF f v fs).length ≤ fs.length + 1
  | [] => Nat.le_refl _
  | (g, x) :: r => by
    unfold putF
    split
    · exact Nat.le_succ _
    · have := putF_len f v r
      simp only [List.length_cons]
      omega
theorem treeF_len (t k s w f c : V) : (treeF t k s w f c).length < 1000 := by
  unfold treeF
  have h1 := putF_len "text" t []
  have h2 := putF_len "kind" k (putF "text" t [])
  have h3 := putF_len "small" s (putF "kind" k (putF "text" t []))
  have h4 := putF_len "within" w (putF "small" s (putF "kind" k (putF "text" t [])))
  have h5 := putF_len "free" f (putF "within" w (putF "small" s (putF "kind" k (putF "text" t []))))
  have h6 := putF_len "code" c (putF "free" f (putF "within" w (putF "small" s (putF "kind" k (putF "text" t [])))))
  simp only [List.length_nil] at h1
  omega
theorem tupS_upd {H : Hp} {p C dx : Addr} {fs : List (Str × V)} {o : HO} (h : H p = some (.ins C dx fs)) : TupS H (upd H p o) := fun a l e => by
  rw [upd_ne (ne_of e h (by intro z; cases z))]
  exact e
theorem Trees.code {C : Addr} {Reg : Addr → U.Tm → Prop} {H : Hp} {p dx tw tf : Addr} {t : U.Tm} {cd v : V} {qs : List Addr} {ys : List Str} (h : Trees C Reg H) (rp : Reg p t) (R : RegAt C Reg H p t dx tw tf cd qs ys) (hv : CodeV Reg H (U.coded t 1 .endd) v) :
    Trees C Reg (upd H p (.ins C dx (treeF (.str (tx t.pr)) (.str (tx t.kind)) (smV t.small) (.ref tw) (.ref tf) v))) := ⟨h.uniq, fun p' t' r' => by
  have ts := tupS_upd (o := .ins C dx (treeF (.str (tx t.pr)) (.str (tx t.kind)) (smV t.small) (.ref tw) (.ref tf) v)) R.hp
  by_cases e : p' = p
  · subst e
    cases h.uniq _ _ _ rp r'
    exact ⟨dx, tw, tf, v, qs, ys, upd_same, ts _ _ R.hw, ts _ _ R.hf, R.fr, R.kids, .inr (hv.keep ts fun _ _ h => h), R.ok⟩
  · obtain ⟨dx', tw', tf', cd', qs', ys', g⟩ := h.node p' t' r'
    exact ⟨dx', tw', tf', cd', qs', ys', by rw [upd_ne e]; exact g.hp, ts _ _ g.hw, ts _ _ g.hf, g.fr, g.kids, g.code.imp id fun c => c.keep ts fun _ _ h => h, g.ok⟩⟩
section
variable {P : Program} {w : World} {K : PySem.W.Frag} {mg : Str → Option Value} {base : Heap} {dW dB : Addr} {esW : Array DictEntry} {nW : Nat} (T : Txt K mg w dW dB esW nW) (N : Deeds mg)
include T N
theorem ok_coded {f C : Addr} {fd : FuncData} (F : Fun K "coded" "coded" s_coded f fd) (TC : TreeC K C) (at_ : mg "coded" = some (.ref f)) (kp : PySem.W.keepIn K (.ref f) = true) (bi : Binds K fd ["tree", "begun", "then"] []) :
    FnOk P w K mg base CX0 32 f fd ["tree", "begun", "then"] (spCodeds C) := by
  have all : ∀ d, d ≤ 30 → FnOk P w K mg base CX0 (d + 2) f fd ["tree", "begun", "then"] (spCoded C d) := by
    intro d
    induction d with
    | zero =>
      intro hd
      exact ok_coded_step T N 0 (by decide) F TC ⟨at_, kp, bi, ⟨fun vs H Q E h => h.elim, fun A outer s H args us vs Q E hr e b v h => h.elim⟩⟩
    | succ d ih =>
      intro hd
      exact ok_coded_step T N (d + 1) (by omega) F TC ⟨at_, kp, bi, ih (by omega)⟩
  exact all 30 (by decide)
theorem ok_code_of {f f1 f2 C : Addr} {fd fd1 fd2 : FuncData} (F : Fun K "code_of" "code_of" s_code_of f fd) (TC : TreeC K C) (h_coded : Has P w K mg base "coded" 32 ["tree", "begun", "then"] (spCodeds C) f1 fd1)
    (h_last_code : Has P w K mg base "last_code" 1 [] spLastCode f2 fd2) : FnOk P w K mg base CX0 33 f fd ["tree"] (spCodeOf C) := by
  refine F.ok sc_code_of (fun vs H Q E h => ?_) (fun cdv A outer s H vs Q E hr h => ?_)
  · obtain ⟨Reg, p, t, rfl, _⟩ := h
    rfl
  · obtain ⟨Reg, p, t, rfl, TR, rp, td, q⟩ := h
    refine ⟨_, (pss_cons (ps_if (pt_cmpR op_isN (pe_fld (pv 0) (by rfl)) pe_non (nomark _)) 
        (pss_one (ps_fld (pv 0) (pe_callH h_coded (hr.mono (by first | decide | omega)) (by rfl) (pa_cons (pv 0) (pa_cons pe_int (pa_cons (pe_callH0 h_last_code (hr.mono (by first | decide | omega)) (by rfl)) pa_nil)))) rfl)) pss_nil)
      (pss_one (ps_ret (pe_fld (pv 0) (by rfl))))), ?_⟩
    obtain ⟨dx, tw, tf, cd, qs, ys, R⟩ := TR.node p t rp
    refine ⟨_, rfl, p, C, dx, _, _, rfl, R.hp, TC.cl, TC.nc, tF_code _ _ _ _ _ _, rfl, _, rfl, ?_⟩
    rcases R.code with rfl | hc
    · refine ite2 (fun _ => ?_) (fun h => absurd (decide_eq_true rfl) h)
      refine ⟨_, rfl, rfl, fun r hr => ?_⟩
      have s1 : Same H _ := same_new (o := .tup [.int 3, .int 0, .non, .non]) hr
      refine ⟨Reg, p, 1, t, .ref r, .endd, rfl, TR.same s1, rp, td, ⟨r, rfl, upd_same⟩, fun r' H' s' c' => ?_⟩
      have s2 := s1.trans s'
      have R2 : RegAt C Reg H' p t dx tw tf .non qs ys := ⟨s2 _ _ R.hp, s2 _ _ R.hw, s2 _ _ R.hf, R.fr, R.kids, .inl rfl, R.ok⟩
      refine ⟨_, rfl, p, C, dx, _, rfl, R2.hp, TC.cl, TC.nc, treeF_len _ _ _ _ _ _, ?_⟩
      rw [treeF_code]
      refine ⟨_, rfl, p, C, dx, _, _, rfl, upd_same, TC.cl, TC.nc, tF_code _ _ _ _ _ _, ?_⟩
      refine q _ _ (fun a o e n => ?_) ((TR.same s2).code rp R2 c') (c'.keep (tupS_upd R2.hp) fun _ _ h => h)
      have na : a ≠ p := fun z => n t (by rw [z]; exact rp)
      rw [upd_ne na]
      exact s2 _ _ e
    · obtain ⟨a, rfl⟩ := hc.ref
      refine ite2 (fun h => absurd (of_decide_eq_true h) (by intro z; cases z)) (fun _ => ?_)
      refine ⟨_, rfl, p, C, dx, _, _, rfl, R.hp, TC.cl, TC.nc, tF_code _ _ _ _ _ _, ?_⟩
      exact q _ _ (fun _ _ e _ => e) TR hc
end
end K


set_option Elab.async false
set_option linter.all false
set_option maxRecDepth 100000
set_option maxHeartbeats 4000000
namespace K
open PySem PySem.Spec PyProof.Rows L2 U
/-- what runs.py's defs find about them -/
structure Runs (K : PySem.W.Frag) (mg : Str → Option Value) (dN : Addr) : Prop extends Deeds mg where
  gN : mg "NO_HEADS" = some (.ref dN)
  noH : ∀ H, SqT K H dN [.str (Str.ofString "fault"), .str (Str.ofString "ring"), .str (Str.ofString "waits")]
  great : ∃ t, mg "GREATEST" = some (.int 1000000000000 t)
def wordH : U.Hd → U.Nm
  | .num _ => numberW
  | .pair _ _ => pairW
  | .dfn _ _ _ => defW
  | .fault _ _ => faultW
  | .ring _ => ringW
  | .waits _ => waitsW
theorem HdV.word {H : Hp} {h : U.Hd} {v : V} (g : HdV H h v) : ∃ a l, v = .ref a ∧ H a = some (.tup (.str (tx (wordH h)) :: l)) := by
  cases h with
  | num n => obtain ⟨a, e, h, _⟩ := g; exact ⟨a, _, e, h⟩
  | pair x y => obtain ⟨a, e, h⟩ := g; exact ⟨a, _, e, h⟩
  | dfn x t ns => obtain ⟨a, r, e, h, _⟩ := g; exact ⟨a, _, e, h⟩
  | fault w k => obtain ⟨a, e, h⟩ := g; exact ⟨a, _, e, h⟩
  | ring ks => obtain ⟨a, r, e, h, _⟩ := g; exact ⟨a, _, e, h⟩
  | waits p => obtain ⟨a, e, h⟩ := g; exact ⟨a, _, e, h⟩
theorem at0 (x : V) (l : List V) : atI (x :: l) 0 = some x := atI_nat (j := 0) (by rfl)
def deedOf : U.Cd → Int
  | .head _ _ _ => 0
  | .need _ _ _ => 1
  | .form _ _ _ => 2
  | .endd => 3
  | .iff _ _ => 4
  | .left _ => 5
  | .right _ _ => 6
  | .call _ _ => 7
  | .half _ _ => 8
theorem CodeV.deed {Reg : Addr → U.Tm → Prop} {H : Hp} {c : U.Cd} {v : V} (h : CodeV Reg H c v) : ∃ a l, v = .ref a ∧ H a = some (.tup (.int (deedOf c) :: l)) := by
  cases c with
  | endd => obtain ⟨a, e, h⟩ := h; exact ⟨a, _, e, h⟩
  | head m n nx => obtain ⟨a, _, _, e, h, _⟩ := h; exact ⟨a, _, e, h⟩
  | need m x nx => obtain ⟨a, _, e, h, _⟩ := h; exact ⟨a, _, e, h⟩
  | form m t nx => obtain ⟨a, _, _, e, h, _⟩ := h; exact ⟨a, _, e, h⟩
  | iff c d => obtain ⟨a, _, _, e, h, _⟩ := h; exact ⟨a, _, e, h⟩
  | left nx => obtain ⟨a, _, e, h, _⟩ := h; exact ⟨a, _, e, h⟩
  | right w nx => obtain ⟨a, _, e, h, _⟩ := h; exact ⟨a, _, e, h⟩
  | call t nx => obtain ⟨a, _, _, e, h, _⟩ := h; exact ⟨a, _, e, h⟩
  | half i nx => obtain ⟨a, _, e, h, _⟩ := h; exact ⟨a, _, e, h⟩
theorem in_bound {n : Int} (h1 : -1000000000000 ≤ n) (h2 : n ≤ 1000000000000) : n.natAbs ≤ 2 ^ 60 := by
  have e : (2 : Nat) ^ 60 = 1152921504606846976 := by decide
  omega
theorem reck_in {kn : U.Nm} {w : Wd} {a b n : Int} (e : U.reck w a b = n) (h1 : -1000000000000 ≤ n) (h2 : n ≤ 1000000000000) : U.reckH kn w a b = .num n := by
  unfold U.reckH
  rw [e, if_pos]
  unfold U.inB
  rw [decide_eq_true h1, decide_eq_true h2]
  rfl
theorem reck_out {kn : U.Nm} {w : Wd} {a b n : Int} (e : U.reck w a b = n) (h : ¬ (-1000000000000 ≤ n ∧ n ≤ 1000000000000)) : U.reckH kn w a b = .fault U.great kn := by
  unfold U.reckH
  rw [e, if_neg]
  unfold U.inB
  rw [Bool.and_eq_true, decide_eq_true_eq, decide_eq_true_eq]
  exact h
def spUnfit : Sp := fun vs H Q _ => ∃ (h : U.Hd) (hv : V) (must kn : U.Nm), vs = [hv, .str (tx must), .str (tx kn)] ∧ HdV H h hv ∧ ∀ v H', Same H H' → HdV H' (U.unfitH kn must h) v → Q v H'
def spReckoned : Sp := fun vs H Q _ => ∃ (w : Wd) (a b : Int) (kn : U.Nm), vs = [.str (tx w.cs), .int a, .int b, .str (tx kn)] ∧ (w = .sum ∨ w = .less ∨ w = .times ∨ w = .below) ∧ a.natAbs ≤ 2 ^ 60 ∧ b.natAbs ≤ 2 ^ 60 ∧ ∀ v H', Same H H' → HdV H' (U.reckH kn w a b) v → Q v H'
def spBehindR : Sp := fun vs H Q _ => ∃ (Reg : Addr → U.Tm → Prop) (Env : V → U.En → Prop) (c : U.Cd) (e : U.En) (w : U.Wt) (cv ev wv : V), vs = [cv, ev, wv] ∧ CodeV Reg H c cv ∧ Env ev e ∧ WtV Reg Env H w wv ∧ ∀ v H', Same H H' → WtV Reg Env H' (U.behindW c e w) v → Q v H'
section
variable {P : Program} {w : World} {K : PySem.W.Frag} {mg : Str → Option Value} {base : Heap} {dW dB dN : Addr} {esW : Array DictEntry} {nW : Nat} (T : Txt K mg w dW dB esW nW) (N : Runs K mg dN)
include T N
theorem ok_unfit {f : Addr} {fd : FuncData} (F : Fun K "unfit" "unfit" s_unfit f fd) : FnOk P w K mg base CX0 1 f fd ["head", "must", "knot"] spUnfit := by
  refine F.ok sc_unfit (fun vs H Q E h => ?_) (fun cdv A outer s H vs Q E hr h => ?_)
  · obtain ⟨h, hv, must, kn, rfl, _⟩ := h
    rfl
  · obtain ⟨h, hv, must, kn, rfl, hh, q⟩ := h
    refine ⟨_, (pss_one (ps_ret (pe_ifExp (pt_cmpR op_in_seq (pe_ix ix_tup (pv 0) pe_int (fun _ _ => rfl)) (pe_globR (by rfl) N.gN) (by rfl)) (pv 0) (pe_tup (pa_cons pe_str (pa_cons (pv 1) (pa_cons (pv 2) pa_nil))))))), ?_⟩
    obtain ⟨a, l, rfl, ha⟩ := hh.word
    refine ⟨_, rfl, a, _, 0, .str (tx (wordH h)), rfl, rfl, .inl (.inl ha), at0 _ _, dN, _, rfl, .inr (N.noH _), rfl, rfl, _, rfl, ?_⟩
    cases h with
    | num n => exact ite2 (fun z => absurd z (by first | (dsimp only [wordH]; done) | (dsimp only [wordH]; decide +kernel))) (fun _ => ⟨_, rfl, _, rfl, sizeLine_ge (by show 3 ≤ 10000; decide), fun r hr => q _ _ (same_new hr) ⟨r, rfl, upd_same⟩⟩)
    | pair x y => exact ite2 (fun z => absurd z (by first | (dsimp only [wordH]; done) | (dsimp only [wordH]; decide +kernel))) (fun _ => ⟨_, rfl, _, rfl, sizeLine_ge (by show 3 ≤ 10000; decide), fun r hr => q _ _ (same_new hr) ⟨r, rfl, upd_same⟩⟩)
    | dfn x t ns => exact ite2 (fun z => absurd z (by first | (dsimp only [wordH]; done) | (dsimp only [wordH]; decide +kernel))) (fun _ => ⟨_, rfl, _, rfl, sizeLine_ge (by show 3 ≤ 10000; decide), fun r hr => q _ _ (same_new hr) ⟨r, rfl, upd_same⟩⟩)
    | fault w k => exact ite2 (fun _ => ⟨_, rfl, q _ _ (Same.refl H) hh⟩) (fun z => absurd (by first | (dsimp only [wordH]; done) | (dsimp only [wordH]; decide +kernel)) z)
    | ring ks => exact ite2 (fun _ => ⟨_, rfl, q _ _ (Same.refl H) hh⟩) (fun z => absurd (by first | (dsimp only [wordH]; done) | (dsimp only [wordH]; decide +kernel)) z)
    | waits p => exact ite2 (fun _ => ⟨_, rfl, q _ _ (Same.refl H) hh⟩) (fun z => absurd (by first | (dsimp only [wordH]; done) | (dsimp only [wordH]; decide +kernel)) z)
theorem ok_reckoned {f : Addr} {fd : FuncData} (F : Fun K "reckoned" "reckoned" s_reckoned f fd) : FnOk P w K mg base CX0 1 f fd ["kind", "left", "right", "knot"] spReckoned := by
  refine F.ok sc_reckoned (fun vs H Q E h => ?_) (fun cdv A outer s H vs Q E hr h => ?_)
  · obtain ⟨w, a, b, kn, rfl, _⟩ := h
    rfl
  · obtain ⟨w, a, b, kn, rfl, hw, ha, hb, q⟩ := h
    refine ⟨_, (pss_cons (ps_if (pt_cmpR op_eq (pv 0) pe_str (nomark _)) 
        (pss_one (ps_set (i := 4) sc_reckoned.nd rfl (.inl rfl) (pe_op op_add (pv 1) (pv 2)))) 
        (pss_one (ps_if (pt_cmpR op_eq (pv 0) pe_str (nomark _)) 
          (pss_one (ps_set (i := 4) sc_reckoned.nd rfl (.inl rfl) (pe_op op_sub (pv 1) (pv 2)))) 
          (pss_one (ps_if (pt_cmpR op_eq (pv 0) pe_str (nomark _)) 
            (pss_one (ps_set (i := 4) sc_reckoned.nd rfl (.inl rfl) (pe_op op_mul (pv 1) (pv 2)))) 
            (pss_one (ps_set (i := 4) sc_reckoned.nd rfl (.inl rfl) (pe_ifExp (pt_cmpR op_lt (pv 1) (pv 2) (nomark _)) pe_int pe_int))))))))
      (pss_cons (ps_if (pt_chain op_le op_le (pe_un un_neg (pe_globI (by rfl) N.great)) (pv 4) (pe_globI (by rfl) N.great)) 
        (pss_one (ps_ret (pe_tup (pa_cons pe_str (pa_cons (pv 4) pa_nil))))) pss_nil)
      (pss_one (ps_ret (pe_tup (pa_cons pe_str (pa_cons pe_str (pa_cons (pv 3) pa_nil)))))))), ?_⟩
    rcases hw with rfl | rfl | rfl | rfl
    · skip
      refine ⟨_, rfl, rfl, _, rfl, ite2 (fun _ => ?_) (fun h => absurd (by decide +kernel) h)⟩
      refine ⟨_, rfl, _, rfl, _, _, rfl, rfl, ?_⟩
      refine ⟨_, rfl, _, rfl, _, _, rfl, rfl, _, rfl, ite2 (fun h1 => ⟨_, _, rfl, rfl, _, rfl, ite2 (fun h2 => ?_) (fun h2 => ?_)⟩) (fun h1 => ⟨_, rfl, iteF ?_⟩)⟩
      · have b1 := of_decide_eq_true h1
        have b2 := of_decide_eq_true h2
        refine ⟨_, rfl, sizeLine_ge (by show 2 ≤ 10000; decide), fun r hr => q _ _ (same_new hr) ?_⟩
        rw [reck_in (w := .sum) (n := a + b) rfl b1 b2]
        exact ⟨r, rfl, upd_same, in_bound b1 b2⟩
      · refine ⟨_, rfl, sizeLine_ge (by show 3 ≤ 10000; decide), fun r hr => q _ _ (same_new hr) ?_⟩
        rw [reck_out (w := .sum) (n := a + b) rfl (fun z => h2 (decide_eq_true z.2))]
        exact ⟨r, rfl, upd_same⟩
      · refine ⟨_, rfl, sizeLine_ge (by show 3 ≤ 10000; decide), fun r hr => q _ _ (same_new hr) ?_⟩
        rw [reck_out (w := .sum) (n := a + b) rfl (fun z => h1 (decide_eq_true z.1))]
        exact ⟨r, rfl, upd_same⟩
    · skip
      refine ⟨_, rfl, rfl, _, rfl, ite2 (fun h => absurd h (by decide +kernel)) (fun _ => ?_)⟩
      refine ⟨_, rfl, rfl, _, rfl, ite2 (fun _ => ?_) (fun h => absurd (by decide +kernel) h)⟩
      refine ⟨_, rfl, _, rfl, _, _, rfl, rfl, ?_⟩
      refine ⟨_, rfl, _, rfl, _, _, rfl, rfl, _, rfl, ite2 (fun h1 => ⟨_, _, rfl, rfl, _, rfl, ite2 (fun h2 => ?_) (fun h2 => ?_)⟩) (fun h1 => ⟨_, rfl, iteF ?_⟩)⟩
      · have b1 := of_decide_eq_true h1
        have b2 := of_decide_eq_true h2
        refine ⟨_, rfl, sizeLine_ge (by show 2 ≤ 10000; decide), fun r hr => q _ _ (same_new hr) ?_⟩
        rw [reck_in (w := .less) (n := a - b) rfl b1 b2]
        exact ⟨r, rfl, upd_same, in_bound b1 b2⟩
      · refine ⟨_, rfl, sizeLine_ge (by show 3 ≤ 10000; decide), fun r hr => q _ _ (same_new hr) ?_⟩
        rw [reck_out (w := .less) (n := a - b) rfl (fun z => h2 (decide_eq_true z.2))]
        exact ⟨r, rfl, upd_same⟩
      · refine ⟨_, rfl, sizeLine_ge (by show 3 ≤ 10000; decide), fun r hr => q _ _ (same_new hr) ?_⟩
        rw [reck_out (w := .less) (n := a - b) rfl (fun z => h1 (decide_eq_true z.1))]
        exact ⟨r, rfl, upd_same⟩
    · skip
      refine ⟨_, rfl, rfl, _, rfl, ite2 (fun h => absurd h (by decide +kernel)) (fun _ => ?_)⟩
      refine ⟨_, rfl, rfl, _, rfl, ite2 (fun h => absurd h (by decide +kernel)) (fun _ => ?_)⟩
      refine ⟨_, rfl, rfl, _, rfl, ite2 (fun _ => ?_) (fun h => absurd (by decide +kernel) h)⟩
      refine ⟨_, rfl, _, rfl, _, _, rfl, rfl, .inl (by omega), ?_⟩
      refine ⟨_, rfl, _, rfl, _, _, rfl, rfl, _, rfl, ite2 (fun h1 => ⟨_, _, rfl, rfl, _, rfl, ite2 (fun h2 => ?_) (fun h2 => ?_)⟩) (fun h1 => ⟨_, rfl, iteF ?_⟩)⟩
      · have b1 := of_decide_eq_true h1
        have b2 := of_decide_eq_true h2
        refine ⟨_, rfl, sizeLine_ge (by show 2 ≤ 10000; decide), fun r hr => q _ _ (same_new hr) ?_⟩
        rw [reck_in (w := .times) (n := a * b) rfl b1 b2]
        exact ⟨r, rfl, upd_same, in_bound b1 b2⟩
      · refine ⟨_, rfl, sizeLine_ge (by show 3 ≤ 10000; decide), fun r hr => q _ _ (same_new hr) ?_⟩
        rw [reck_out (w := .times) (n := a * b) rfl (fun z => h2 (decide_eq_true z.2))]
        exact ⟨r, rfl, upd_same⟩
      · refine ⟨_, rfl, sizeLine_ge (by show 3 ≤ 10000; decide), fun r hr => q _ _ (same_new hr) ?_⟩
        rw [reck_out (w := .times) (n := a * b) rfl (fun z => h1 (decide_eq_true z.1))]
        exact ⟨r, rfl, upd_same⟩
    · skip
      refine ⟨_, rfl, rfl, _, rfl, ite2 (fun h => absurd h (by decide +kernel)) (fun _ => ?_)⟩
      refine ⟨_, rfl, rfl, _, rfl, ite2 (fun h => absurd h (by decide +kernel)) (fun _ => ?_)⟩
      refine ⟨_, rfl, rfl, _, rfl, ite2 (fun h => absurd h (by decide +kernel)) (fun _ => ?_)⟩
      refine ⟨_, rfl, _, rfl, _, _, rfl, rfl, _, rfl, ite2 (fun h => ?_) (fun h => ?_)⟩
      · have e : (if a < b then (1 : Int) else 0) = 1 := if_pos (of_decide_eq_true h)
        refine ⟨_, rfl, _, rfl, _, _, rfl, rfl, _, rfl, ite2 (fun h1 => ⟨_, _, rfl, rfl, _, rfl, ite2 (fun h2 => ?_) (fun h2 => ?_)⟩) (fun h1 => ⟨_, rfl, iteF ?_⟩)⟩
        · have b1 := of_decide_eq_true h1
          have b2 := of_decide_eq_true h2
          refine ⟨_, rfl, sizeLine_ge (by show 2 ≤ 10000; decide), fun r hr => q _ _ (same_new hr) ?_⟩
          rw [reck_in (w := .below) (n := 1) e b1 b2]
          exact ⟨r, rfl, upd_same, in_bound b1 b2⟩
        · refine ⟨_, rfl, sizeLine_ge (by show 3 ≤ 10000; decide), fun r hr => q _ _ (same_new hr) ?_⟩
          rw [reck_out (w := .below) (n := 1) e (fun z => h2 (decide_eq_true z.2))]
          exact ⟨r, rfl, upd_same⟩
        · refine ⟨_, rfl, sizeLine_ge (by show 3 ≤ 10000; decide), fun r hr => q _ _ (same_new hr) ?_⟩
          rw [reck_out (w := .below) (n := 1) e (fun z => h1 (decide_eq_true z.1))]
          exact ⟨r, rfl, upd_same⟩
      · have e : (if a < b then (1 : Int) else 0) = 0 := if_neg fun z => h (decide_eq_true z)
        refine ⟨_, rfl, _, rfl, _, _, rfl, rfl, _, rfl, ite2 (fun h1 => ⟨_, _, rfl, rfl, _, rfl, ite2 (fun h2 => ?_) (fun h2 => ?_)⟩) (fun h1 => ⟨_, rfl, iteF ?_⟩)⟩
        · have b1 := of_decide_eq_true h1
          have b2 := of_decide_eq_true h2
          refine ⟨_, rfl, sizeLine_ge (by show 2 ≤ 10000; decide), fun r hr => q _ _ (same_new hr) ?_⟩
          rw [reck_in (w := .below) (n := 0) e b1 b2]
          exact ⟨r, rfl, upd_same, in_bound b1 b2⟩
        · refine ⟨_, rfl, sizeLine_ge (by show 3 ≤ 10000; decide), fun r hr => q _ _ (same_new hr) ?_⟩
          rw [reck_out (w := .below) (n := 0) e (fun z => h2 (decide_eq_true z.2))]
          exact ⟨r, rfl, upd_same⟩
        · refine ⟨_, rfl, sizeLine_ge (by show 3 ≤ 10000; decide), fun r hr => q _ _ (same_new hr) ?_⟩
          rw [reck_out (w := .below) (n := 0) e (fun z => h1 (decide_eq_true z.1))]
          exact ⟨r, rfl, upd_same⟩
theorem ok_behind_runs {f : Addr} {fd : FuncData} (F : Fun K "behind" "behind" s_behind_runs f fd) : FnOk P w K mg base CX0 1 f fd ["code", "names", "waiting"] spBehindR := by
  refine F.ok sc_behind_runs (fun vs H Q E h => ?_) (fun cdv A outer s H vs Q E hr h => ?_)
  · obtain ⟨Reg, Env, c, e, w, cv, ev, wv, rfl, _⟩ := h
    rfl
  · obtain ⟨Reg, Env, c, e, w, cv, ev, wv, rfl, hc, he, hw, q⟩ := h
    refine ⟨_, (pss_one (ps_ret (pe_ifExp (pt_cmpR op_eq (pe_ix ix_tup (pv 0) pe_int (fun _ _ => rfl)) (pe_globI (by rfl) N.end_) (nomark _)) (pv 2) (pe_tup (pa_cons (pv 0) (pa_cons (pv 1) (pa_cons (pv 2) pa_nil))))))), ?_⟩
    obtain ⟨a, l, rfl, ha⟩ := hc.deed
    refine ⟨_, rfl, a, _, 0, .int (deedOf c), rfl, rfl, .inl (.inl ha), at0 _ _, rfl, _, rfl, ?_⟩
    cases c with
    | endd => exact ite2 (fun _ => ⟨_, rfl, q _ _ (Same.refl H) hw⟩) (fun z => absurd (by first | (dsimp only [deedOf]; done) | (dsimp only [deedOf]; decide +kernel)) z)
    | _ => exact ite2 (fun z => absurd (V.int.inj (of_decide_eq_true z)) (by dsimp only [deedOf]; decide)) (fun _ => ⟨_, rfl, _, rfl, _, rfl, sizeLine_ge (by show 3 ≤ 10000; decide), fun r hr => q _ _ (same_new hr) ⟨r, _, _, _, rfl, upd_same, hc.keep (TupS.of (same_new hr)) (fun _ _ h => h), he, hw.keep (TupS.of (same_new hr)) (fun _ _ h => h) fun _ _ h => h⟩⟩)
end
end K


set_option Elab.async false
set_option linter.all false
set_option maxRecDepth 100000
set_option maxHeartbeats 4000000
namespace K
open PySem PySem.Spec PyProof.Rows L2 U
def spNamesFor (C : Addr) : Sp := fun vs H Q _ => ∃ (p dx tf : Addr) (fs : List (Str × V)) (ys : List U.Nm) (e : U.En) (ev : V), vs = [.ref p, ev] ∧ H p = some (.ins C dx fs) ∧ fs.lookup ("free" : Str) = some (.ref tf) ∧ H tf = some (.tup (ys.map fun y => V.str (tx y))) ∧ ys.length ≤ 1000 ∧ EnvV H e ev ∧ (∀ y ∈ ys, ∃ k, getR e y = some k) ∧
  ∀ r H', Same H H' → RowsT H' (U.rowsOf ys e) r → Q (.ref r) H'
section
variable {P : Program} {w : World} {K : PySem.W.Frag} {mg : Str → Option Value} {base : Heap} {dW dB dN : Addr} {esW : Array DictEntry} {nW : Nat} (T : Txt K mg w dW dB esW nW) (N : Runs K mg dN)
include T N
theorem ok_names_for {f C : Addr} {fd : FuncData} (F : Fun K "names_for" "names_for" s_names_for f fd) (TC : TreeC K C) : FnOk P w K mg base CX0 1 f fd ["tree", "names"] (spNamesFor C) := by
  refine F.ok sc_names_for (fun vs H Q E h => ?_) (fun cdv A outer s H vs Q E hr h => ?_)
  · obtain ⟨p, dx, tf, fs, ys, e, ev, rfl, _⟩ := h
    rfl
  · obtain ⟨p, dx, tf, fs, ys, e, ev, rfl, hp, hf, htf, yl, ⟨aE, kvs, rfl, hk, pk⟩, hy, q⟩ := h
    have hu := hu_of hr
    refine ⟨_, (pss_one (ps_ret (pe_callTy call_tuple_of (by rfl) T.z_tuple (by decide +kernel) (pa_cons (pe_lc (own := [("small", 2)]) (g := gName 2) (tt := tYes) (te := (tTup (tCons (tVar 2) (tCons (tDGet (tVar 1) (tVar 2)) tNil)))) rfl sc_names_for.nd (pi_tup (pe_fld (pv 0) (by rfl))) (blkOk_by (N := nm_names_for) (sc := defScope s_names_for) (by decide +kernel)) (fun _ _ _ _ _ => pg_name (i := 2) sc_names_for.nd rfl (.inl rfl)) (fun _ _ _ _ _ => pts_nil) (fun _ _ _ _ _ => (pe_tup (pa_cons (pv 2) (pa_cons (pe_dget (by exact hu) (pv 1) (pv 2) (fun _ _ => rfl)) pa_nil))))) pa_nil)))), ?_⟩
    refine ⟨_, rfl, p, C, dx, _, _, rfl, hp, TC.cl, TC.nf, hf, ?_⟩
    refine ⟨tf, rfl, ⟨_, .inl (.inl htf)⟩, fun D hD => lc_do (walk_tup (xs := ys.map fun y => V.str (tx y))) (fun i H' => Same H H' ∧ ∃ as : List Addr, H' D = some (.lst (as.map V.ref)) ∧ Paired (fun q (r : U.Nm × U.Nm) => H' q = some (.tup [.str (tx r.1), .str (tx r.2)])) as (U.rowsOf (ys.take i) e)) (fun _ => rfl) ⟨same_new hD, [], upd_same, .nil⟩ (fun _ H' _ h => .inl (.inl (h.1 _ _ htf))) ?_ ?_⟩
    · rintro i x Hi H' hi ⟨s2, as, ha, pa⟩ ⟨rfl, hx⟩
      rw [List.getElem?_map] at hx
      obtain ⟨y, hy1, hy2⟩ : ∃ y, ys[i]? = some y ∧ V.str (tx y) = x := by
        cases e : ys[i]? with
        | none => rw [e] at hx; cases hx
        | some y => rw [e] at hx; exact ⟨y, rfl, Option.some.inj hx⟩
      subst hy2
      obtain ⟨k, hk1⟩ := hy y (List.mem_of_getElem? hy1)
      have al : as.length ≤ 1000 := by
        have h4 := pa.length
        unfold U.rowsOf at h4
        rw [List.length_map, List.length_take] at h4
        omega
      rcases pk.get y with ⟨h1, _⟩ | ⟨k', v, h1, h2, h3⟩
      · rw [hk1] at h1
        cases h1
      · cases Option.some.inj (hk1.symm.trans h1)
        have h3 : v = .str (tx k) := h3
        subst h3
        refine ⟨_, rfl, _, rfl, _, rfl, aE, .str (tx k), rfl, .inl ⟨kvs, .inr (tx y), .inl (s2 _ _ hk), rfl, h2.symm⟩, sizeLine_ge (by show 2 ≤ 10000; decide), fun u hu0 => ?_⟩
        have su := same_new (o := .tup [V.str (tx y), .str (tx k)]) hu0
        have nu : u ≠ D := Ne.symm (ne_of_none ha hu0)
        refine ⟨_, su _ _ ha, by rw [List.length_map]; exact sizeLine_ge (by show as.length + 1 ≤ 10000; omega), fun a o e => ?_, as ++ [u], by rw [upd_same, List.map_append]; rfl, ?_⟩
        · rw [upd_ne (ne_of_none e hD)]
          exact su _ _ (s2 _ _ e)
        · have e1 : U.rowsOf (ys.take (i + 1)) e = U.rowsOf (ys.take i) e ++ [(y, k)] := by
            unfold U.rowsOf
            rw [List.take_succ, hy1, List.map_append]
            show _ ++ [(y, (getR e y).getD y)] = _
            rw [hk1]
            rfl
          rw [e1]
          refine Paired.app (Paired.mapP pa fun a r' h => ?_) (.cons ?_ .nil)
          · rw [upd_ne (ne_of h ha (by intro z; cases z))]
            · exact su _ _ h
          · rw [upd_ne nu]
            exact upd_same
    · rintro Hi ⟨s2, as, ha, pa⟩
      rw [List.length_map, List.take_length] at pa
      refine ⟨D, _, rfl, .inl ⟨.inl (.inl ha), fun r hr => ?_⟩⟩
      have su := same_new (o := .tup (as.map V.ref)) hr
      exact q r _ (s2.trans su) ⟨as, upd_same, Paired.mapP pa fun a r' h => su _ _ h⟩
end
end K


set_option Elab.async false
set_option linter.all false
set_option maxRecDepth 100000
set_option maxHeartbeats 4000000
namespace U
open PySem PySem.Spec PyProof.Rows L2
theorem dig_in {c : Char} (h : c.isDigit = true) : c.toNat ∈ figs := by
  have h2 : 48 ≤ c.toNat ∧ c.toNat ≤ 57 := by
    simp only [Char.isDigit, Bool.and_eq_true, decide_eq_true_eq] at h
    exact h
  unfold figs
  refine List.mem_map.mpr ⟨c.toNat - 48, List.mem_range.mpr (by omega), by omega⟩
theorem dig_first : ∀ n : Nat, 0 < n → ∃ d ds, Nat.toDigits 10 n = d :: ds ∧ d.toNat ∈ figs1 := by
  intro n
  induction n using Nat.strongRecOn with
  | ind n ih =>
    intro hn
    rw [Nat.toDigits_eq_if (by decide)]
    by_cases h : n < 10
    · rw [if_pos h]
      refine ⟨_, [], rfl, ?_⟩
      have : n = 1 ∨ n = 2 ∨ n = 3 ∨ n = 4 ∨ n = 5 ∨ n = 6 ∨ n = 7 ∨ n = 8 ∨ n = 9 := by omega
      rcases this with rfl | rfl | rfl | rfl | rfl | rfl | rfl | rfl | rfl <;> decide
    · rw [if_neg h]
      obtain ⟨d, ds, e, hd⟩ := ih (n / 10) (by omega) (by omega)
      exact ⟨d, ds ++ [_], by rw [e]; rfl, hd⟩
theorem nat_text {n : Nat} (h : n < 10 ^ 12) : n = 0 ∧ (Nat.repr n).toList.map Char.toNat = [48] ∨ ∃ d ds, (Nat.repr n).toList.map Char.toNat = d :: ds ∧ d ∈ figs1 ∧ ds.length ≤ 11 ∧ ∀ c ∈ ds, c ∈ figs := by
  rw [Nat.toList_repr]
  by_cases h0 : n = 0
  · subst h0
    exact .inl ⟨rfl, by decide⟩
  · obtain ⟨d, ds, e, hd⟩ := dig_first n (by omega)
    have hl := (Nat.length_toDigits_le_iff (b := 10) (n := n) (k := 12) (by decide) (by decide)).mpr h
    have hm : ∀ c ∈ Nat.toDigits 10 n, c.toNat ∈ figs := fun c hc => dig_in (Nat.isDigit_of_mem_toDigits (by decide) (by decide) hc)
    rw [e] at hl hm
    refine .inr ⟨d.toNat, ds.map Char.toNat, by rw [e]; rfl, hd, by simp at hl ⊢; omega, fun c hc => ?_⟩
    obtain ⟨x, hx, rfl⟩ := List.mem_map.mp hc
    exact hm x (List.mem_cons_of_mem _ hx)
theorem num_text {i : Int} (h : i.natAbs < 10 ^ 12) : ∃ l, Str.ofString (toString i) = tx l ∧ NumOk l := by
  cases i with
  | ofNat n =>
    refine ⟨(Nat.repr n).toList.map Char.toNat, PySem.Str.ofString_eq_toList _, ?_⟩
    rcases nat_text (n := n) h with ⟨_, e⟩ | ⟨d, ds, e, h1, h2, h3⟩
    · exact .inl e
    · exact .inr ⟨d, ds, .inl e, h1, h2, h3⟩
  | negSucc n =>
    refine ⟨45 :: (Nat.repr (n + 1)).toList.map Char.toNat, ?_, ?_⟩
    · show Str.ofString ("-" ++ Nat.repr (n + 1)) = _
      rw [PySem.Str.ofString_eq_toList]
      simp
    · rcases nat_text (n := n + 1) h with ⟨z, e⟩ | ⟨d, ds, e, h1, h2, h3⟩
      · omega
      · exact .inr ⟨d, ds, .inr (by rw [e]), h1, h2, h3⟩
end U

set_option Elab.async false
set_option linter.all false
set_option maxRecDepth 100000
set_option maxHeartbeats 4000000
namespace K
open PySem PySem.Spec PyProof.Rows L2 U
/-- the class Walking as the top has made it -/
structure WalkC (K : PySem.W.Frag) (C : Addr) : Prop where
  cl : Cls K C
  nknot : NoAttr K C "knot"
  nsenses : NoAttr K C "senses"
  nplace : NoAttr K C "place"
  nhead : NoAttr K C "head"
  nneed : NoAttr K C "need"
  nsteps : NoAttr K C "steps"
  nmade : NoAttr K C "made"
  nend : NoAttr K C "end"
/-- a walk's fields -/
structure WalkF (fs : List (Str × V)) (knot senses place head need steps made end_ : V) : Prop where
  knot : fs.lookup ("knot" : Str) = some knot
  senses : fs.lookup ("senses" : Str) = some senses
  place : fs.lookup ("place" : Str) = some place
  head : fs.lookup ("head" : Str) = some head
  need : fs.lookup ("need" : Str) = some need
  steps : fs.lookup ("steps" : Str) = some steps
  made : fs.lookup ("made" : Str) = some made
  end_ : fs.lookup ("end" : Str) = some end_
  len : fs.length < 1000
theorem putF_len_at (f : Str) (v : V) : ∀ (fs : List (Str × V)) (x : V), fs.lookup f = some x → (putF f v fs).length = fs.length
  | [], _, h => by cases h
  | (g, y) :: r, x, h => by
    unfold putF
    by_cases e : g = f
    · rw [if_pos e]
      rfl
    · rw [if_neg e, List.length_cons, List.length_cons, putF_len_at f v r x (by
        rw [List.lookup_cons] at h
        have : (f == g) = false := beq_false_of_ne fun z => e z.symm
        rw [this] at h
        exact h)]
section
variable {fs : List (Str × V)} {knot senses place head need steps made end_ : V}
theorem WalkF.setPlace (h : WalkF fs knot senses place head need steps made end_) (v : V) : WalkF (putF "place" v fs) knot senses v head need steps made end_ := by
  refine ⟨?_, ?_, ?_, ?_, ?_, ?_, ?_, ?_, by rw [putF_len_at _ _ _ _ h.place]; exact h.len⟩ <;> rw [lookup_putF] <;> first | exact if_pos rfl | rw [if_neg (by decide +kernel)]
  · exact h.knot
  · exact h.senses
  · exact h.head
  · exact h.need
  · exact h.steps
  · exact h.made
  · exact h.end_
theorem WalkF.setHead (h : WalkF fs knot senses place head need steps made end_) (v : V) : WalkF (putF "head" v fs) knot senses place v need steps made end_ := by
  refine ⟨?_, ?_, ?_, ?_, ?_, ?_, ?_, ?_, by rw [putF_len_at _ _ _ _ h.head]; exact h.len⟩ <;> rw [lookup_putF] <;> first | exact if_pos rfl | rw [if_neg (by decide +kernel)]
  · exact h.knot
  · exact h.senses
  · exact h.place
  · exact h.need
  · exact h.steps
  · exact h.made
  · exact h.end_
theorem WalkF.setNeed (h : WalkF fs knot senses place head need steps made end_) (v : V) : WalkF (putF "need" v fs) knot senses place head v steps made end_ := by
  refine ⟨?_, ?_, ?_, ?_, ?_, ?_, ?_, ?_, by rw [putF_len_at _ _ _ _ h.need]; exact h.len⟩ <;> rw [lookup_putF] <;> first | exact if_pos rfl | rw [if_neg (by decide +kernel)]
  · exact h.knot
  · exact h.senses
  · exact h.place
  · exact h.head
  · exact h.steps
  · exact h.made
  · exact h.end_
theorem WalkF.setSteps (h : WalkF fs knot senses place head need steps made end_) (v : V) : WalkF (putF "steps" v fs) knot senses place head need v made end_ := by
  refine ⟨?_, ?_, ?_, ?_, ?_, ?_, ?_, ?_, by rw [putF_len_at _ _ _ _ h.steps]; exact h.len⟩ <;> rw [lookup_putF] <;> first | exact if_pos rfl | rw [if_neg (by decide +kernel)]
  · exact h.knot
  · exact h.senses
  · exact h.place
  · exact h.head
  · exact h.need
  · exact h.made
  · exact h.end_
theorem WalkF.setMade (h : WalkF fs knot senses place head need steps made end_) (v : V) : WalkF (putF "made" v fs) knot senses place head need steps v end_ := by
  refine ⟨?_, ?_, ?_, ?_, ?_, ?_, ?_, ?_, by rw [putF_len_at _ _ _ _ h.made]; exact h.len⟩ <;> rw [lookup_putF] <;> first | exact if_pos rfl | rw [if_neg (by decide +kernel)]
  · exact h.knot
  · exact h.senses
  · exact h.place
  · exact h.head
  · exact h.need
  · exact h.steps
  · exact h.end_
theorem WalkF.setEnd (h : WalkF fs knot senses place head need steps made end_) (v : V) : WalkF (putF "end" v fs) knot senses place head need steps made v := by
  refine ⟨?_, ?_, ?_, ?_, ?_, ?_, ?_, ?_, by rw [putF_len_at _ _ _ _ h.end_]; exact h.len⟩ <;> rw [lookup_putF] <;> first | exact if_pos rfl | rw [if_neg (by decide +kernel)]
  · exact h.knot
  · exact h.senses
  · exact h.place
  · exact h.head
  · exact h.need
  · exact h.steps
  · exact h.made
end
def spTakeW (CW : Addr) : Sp := fun vs H Q _ => ∃ (p dx : Addr) (fs : List (Str × V)) (knot senses place head need steps made end_ got : V), vs = [.ref p, got] ∧ H p = some (.ins CW dx fs) ∧ WalkF fs knot senses place head need steps made end_ ∧
  ∀ fs', WalkF fs' knot senses place got .non steps made end_ → Q .non (upd H p (.ins CW dx fs'))
def spMake (CW : Addr) : Sp := fun vs H Q _ => ∃ (p dx aS : Addr) (fs : List (Str × V)) (kvs : List (Key × V)) (kn : U.Nm) (place head need steps end_ tv ev : V) (n : Nat), vs = [.ref p, tv, ev] ∧ H p = some (.ins CW dx fs) ∧ WalkF fs (.str (tx kn)) (.ref aS) place head need steps (.int n) end_ ∧ H aS = some (.dK kvs) ∧ kvs.length ≤ 100000 ∧
  kn.length ≤ 9000 ∧ n ≤ 100000 ∧
  ∀ q H' fs', fs' = putF "made" (.int ((n + 1 : Nat) : Int)) fs → H q = none → (∀ a o, H a = some o → a ≠ p → a ≠ aS → H' a = some o) → H' p = some (.ins CW dx fs') → WalkF fs' (.str (tx kn)) (.ref aS) place head need steps (.int ((n + 1 : Nat) : Int)) end_ → H' q = some (.tup [tv, ev]) → H' aS = some (.dK (putK kvs (.inr (tx (U.madeNm kn (n + 1)))) (.ref q))) → Q (.str (tx (U.madeNm kn (n + 1)))) H'
section
variable {P : Program} {w : World} {K : PySem.W.Frag} {mg : Str → Option Value} {base : Heap} {dW dB dN : Addr} {esW : Array DictEntry} {nW : Nat} (T : Txt K mg w dW dB esW nW) (N : Runs K mg dN)
include T N
theorem ok_Walking_take {f CW : Addr} {fd : FuncData} (F : Fun K "take" "Walking.take" s_Walking_take f fd) (WC : WalkC K CW) : FnOk P w K mg base CX0 1 f fd ["self", "got"] (spTakeW CW) := by
  refine F.ok sc_Walking_take (fun vs H Q E h => ?_) (fun cdv A outer s H vs Q E hr h => ?_)
  · obtain ⟨p, dx, fs, knot, senses, place, head, need, steps, made, end_, got, rfl, _⟩ := h
    rfl
  · obtain ⟨p, dx, fs, knot, senses, place, head, need, steps, made, end_, got, rfl, hp, hf, q⟩ := h
    refine ⟨_, (pss_cons (ps_fld (pv 0) (pv 1) rfl)
      (pss_one (ps_fld (pv 0) pe_non rfl))), ?_⟩
    refine ⟨_, rfl, _, rfl, p, CW, dx, _, rfl, hp, WC.cl, WC.nhead, hf.len, ?_⟩
    refine ⟨_, rfl, p, CW, dx, _, rfl, upd_same, WC.cl, WC.nneed, (hf.setHead got).len, ?_⟩
    rw [upd_upd]
    exact q _ ((hf.setHead got).setNeed .non)
theorem ok_Walking_make {f CW : Addr} {fd : FuncData} (F : Fun K "make" "Walking.make" s_Walking_make f fd) (WC : WalkC K CW) : FnOk P w K mg base CX0 1 f fd ["self", "tree", "names"] (spMake CW) := by
  refine F.ok sc_Walking_make (fun vs H Q E h => ?_) (fun cdv A outer s H vs Q E hr h => ?_)
  · obtain ⟨p, dx, aS, fs, kvs, kn, place, head, need, steps, end_, tv, ev, n, rfl, _⟩ := h
    rfl
  · obtain ⟨p, dx, aS, fs, kvs, kn, place, head, need, steps, end_, tv, ev, n, rfl, hp, hf, hk, hl, hkn, hn, q⟩ := h
    have hu := hu_of hr
    refine ⟨_, (pss_cons (ps_fldaug (pv 0) pe_int in_add)
      (pss_cons (ps_set (i := 3) sc_Walking_make.nd rfl (.inl rfl) (pe_joined (.cons (pe_fmt (pe_fld (pv 0) (by rfl))) (.cons pe_str (.cons (pe_fmt (pe_fld (pv 0) (by rfl))) .nil)))))
      (pss_cons (ps_dput hu (pe_fld (pv 0) (by rfl)) (pv 3) (pe_tup (pa_cons (pv 1) (pa_cons (pv 2) pa_nil))) rfl)
      (pss_one (ps_ret (pv 3)))))), ?_⟩
    have nas : aS ≠ p := ne_of hk hp (by intro z; cases z)
    refine ⟨_, rfl, p, CW, dx, _, _, rfl, hp, WC.cl, WC.nmade, hf.made, _, _, rfl, rfl, dx, fs, hp, hf.len, ?_⟩
    have f1 := hf.setMade (.int ((n : Int) + 1))
    have b1 : ∀ a o, H a = some o → a ≠ p → (upd H p (.ins CW dx (putF "made" (.int ((n : Int) + 1)) fs))) a = some o := fun a o e z => by rw [upd_ne z]; exact e
    have h1 : (upd H p (.ins CW dx (putF "made" (.int ((n : Int) + 1)) fs))) p = some (.ins CW dx (putF "made" (.int ((n : Int) + 1)) fs)) := upd_same
    have n1 : ∀ q, (upd H p (.ins CW dx (putF "made" (.int ((n : Int) + 1)) fs))) q = none → H q = none := fun q e => by
      by_cases z : q = p
      · rw [z, upd_same] at e
        cases e
      · rw [upd_ne z] at e
        exact e
    have h2 := b1 _ _ hk nas
    generalize hfs1 : putF "made" (.int ((n : Int) + 1)) fs = fs1 at f1 b1 h1 n1 h2 ⊢
    generalize upd H p (.ins CW dx fs1) = H1 at b1 h1 n1 h2 ⊢
    have ed : (Str.ofString ".") = tx [46] := by decide +kernel
    have ee : (Str.empty : Str) = tx [] := by decide +kernel
    obtain ⟨z, hz1, hz2⟩ : ∃ l, Str.ofString (toString ((n : Int) + 1)) = tx l ∧ l.length ≤ 13 := by
      obtain ⟨l, h1, h2⟩ := num_text (i := (n : Int) + 1) (by omega)
      exact ⟨l, h1, num_len13 h2⟩
    have em : Str.empty ++ tx kn ++ Str.ofString "." ++ Str.ofString (toString ((n : Int) + 1)) = tx (U.madeNm kn (n + 1)) := by
      rw [ee, ed, hz1, tx_app, tx_app, tx_app]
      unfold U.madeNm
      rw [show ((n + 1 : Nat) : Int) = (n : Int) + 1 from rfl, hz1]
      simp
    have e30 : (2 : Nat) ^ 30 = 1073741824 := by decide
    have lg : ((n : Int) + 1).natAbs.log2 < 1920 := Nat.lt_trans (PySem.Flt.log2_lt_of (k := 30) (by decide) (by omega)) (by decide)
    have l1 : (Str.empty ++ tx kn : Str).length ≤ sizeLine := by
      rw [ee, tx_app, tx_len]
      exact sizeLine_ge (by simp; omega)
    have l2 : (Str.empty ++ tx kn ++ Str.ofString "." : Str).length ≤ sizeLine := by
      rw [ee, ed, tx_app, tx_app, tx_len]
      exact sizeLine_ge (by simp; omega)
    have l3 : (Str.empty ++ tx kn ++ Str.ofString "." ++ Str.ofString (toString ((n : Int) + 1)) : Str).length ≤ sizeLine := by
      rw [ee, ed, hz1, tx_app, tx_app, tx_app, tx_len]
      exact sizeLine_ge (by simp; omega)
    refine ⟨_, rfl, p, CW, dx, _, _, rfl, h1, WC.cl, WC.nknot, f1.knot, .inl ⟨tx kn, rfl, by rw [tx_len]; exact sizeLine_ge (by omega), _, rfl, l1, _, rfl, l2, _, rfl, p, CW, dx, _, _, rfl, h1, WC.cl, WC.nmade, f1.made, .inr ⟨_, rfl, lg, _, rfl, l3, ?_⟩⟩⟩
    refine ⟨_, rfl, _, rfl, sizeLine_ge (by show 2 ≤ 10000; decide), fun r hr => ?_⟩
    have s2 : Same H1 _ := same_new (o := .tup [tv, ev]) hr
    have nr : r ≠ aS := Ne.symm (ne_of_none h2 hr)
    refine ⟨_, rfl, p, CW, dx, _, _, rfl, s2 _ _ h1, WC.cl, WC.nsenses, f1.senses, _, rfl, aS, _, rfl, DPut.k (k := .inr _) (s2 _ _ h2) (Nat.lt_of_lt_of_le (show kvs.length < 100001 by omega) (by decide)), ?_⟩
    refine ⟨_, rfl, ?_⟩
    erw [em]
    refine q r _ fs1 hfs1.symm (n1 _ hr) (fun a o e na1 na2 => ?_) ?_ f1 ?_ upd_same
    · rw [upd_ne na2]
      exact s2 _ _ (b1 _ _ e na1)
    · rw [upd_ne (Ne.symm nas)]
      exact s2 _ _ h1
    · rw [upd_ne nr]
      exact upd_same
end
end K


set_option Elab.async false
set_option linter.all false
set_option maxRecDepth 100000
set_option maxHeartbeats 4000000
set_option pp.maxSteps 500
namespace K
open PySem PySem.Spec PyProof.Rows L2 U
theorem walkF_mk (knot senses place head need steps made end_ : V) : WalkF (putF "end" end_ (putF "made" made (putF "steps" steps (putF "need" need (putF "head" head (putF "place" place (putF "senses" senses (putF "knot" knot [])))))))) knot senses place head need steps made end_ := by
  refine ⟨?_, ?_, ?_, ?_, ?_, ?_, ?_, ?_, ?_⟩
  iterate 8 (repeat (first | (rw [lookup_putF]; exact if_pos rfl) | rw [lookup_putF, if_neg (by decide +kernel)]))
  have h1 := putF_len "knot" knot []
  have h2 := putF_len "senses" senses (putF "knot" knot [])
  have h3 := putF_len "place" place (putF "senses" senses (putF "knot" knot []))
  have h4 := putF_len "head" head (putF "place" place (putF "senses" senses (putF "knot" knot [])))
  have h5 := putF_len "need" need (putF "head" head (putF "place" place (putF "senses" senses (putF "knot" knot []))))
  have h6 := putF_len "steps" steps (putF "need" need (putF "head" head (putF "place" place (putF "senses" senses (putF "knot" knot [])))))
  have h7 := putF_len "made" made (putF "steps" steps (putF "need" need (putF "head" head (putF "place" place (putF "senses" senses (putF "knot" knot []))))))
  have h8 := putF_len "end" end_ (putF "made" made (putF "steps" steps (putF "need" need (putF "head" head (putF "place" place (putF "senses" senses (putF "knot" knot [])))))))
  simp only [List.length_nil] at h1
  omega
/-- all but this place and registered trees stays -/
def ButP (Reg : Addr → U.Tm → Prop) (p : Addr) (H H' : Hp) : Prop := ∀ a o, H a = some o → a ≠ p → (∀ t, ¬ Reg a t) → H' a = some o
def spWalkInit (C CW : Addr) : Sp := fun vs H Q _ => ∃ (Reg : Addr → U.Tm → Prop) (p dx s pt : Addr) (t : U.Tm) (kv sv ev : V), vs = [.ref p, kv, .ref s, sv] ∧ H p = some (.ins CW dx []) ∧ H s = some (.tup [.ref pt, ev]) ∧ Trees C Reg H ∧ Reg pt t ∧ t.depth ≤ 30 ∧ (∀ t, ¬ Reg p t) ∧
  ∀ H' fs q cv, ButP Reg p H H' → H' p = some (.ins CW dx fs) → WalkF fs kv sv (.ref q) .non .non (.int 0) (.int 0) .non → H' q = some (.tup [cv, ev, .non]) → CodeV Reg H' (U.coded t 1 .endd) cv → Trees C Reg H' → Q .non H'
section
variable {P : Program} {w : World} {K : PySem.W.Frag} {mg : Str → Option Value} {base : Heap} {dW dB dN : Addr} {esW : Array DictEntry} {nW : Nat} (T : Txt K mg w dW dB esW nW) (N : Runs K mg dN)
include T N
theorem ok_Walking_init {f f1 C CW : Addr} {fd fd1 : FuncData} (F : Fun K "__init__" "Walking.__init__" s_Walking___init__ f fd) (WC : WalkC K CW) (h_code_of : Has P w K mg base "code_of" 33 ["tree"] (spCodeOf C) f1 fd1) : FnOk P w K mg base CX0 34 f fd ["self", "knot", "sense", "senses"] (spWalkInit C CW) := by
  refine F.ok sc_Walking___init__ (fun vs H Q E h => ?_) (fun cdv A outer s H vs Q E hr h => ?_)
  · obtain ⟨Reg, p, dx, s, pt, t, kv, sv, ev, rfl, _⟩ := h
    rfl
  · obtain ⟨Reg, p, dx, se, pt, t, kv, sv, ev, rfl, hp, hse, TR, rt, td, np, q⟩ := h
    refine ⟨_, (pss_cons (ps_asg (pv 2) (pg_tup rfl (pgs_cons (pg_name (i := 4) sc_Walking___init__.nd rfl (.inl rfl)) (pgs_cons (pg_name (i := 5) sc_Walking___init__.nd rfl (.inl rfl)) pgs_nil))))
      (pss_cons (ps_fld (pv 0) (pv 1) rfl)
      (pss_cons (ps_fld (pv 0) (pv 3) rfl)
      (pss_cons (ps_fld (pv 0) (pe_tup (pa_cons (pe_callH h_code_of (hr.mono (by first | decide | omega)) (by rfl) (pa_cons (pv 4) pa_nil)) (pa_cons (pv 5) (pa_cons pe_non pa_nil)))) rfl)
      (pss_cons (ps_fld (pv 0) pe_non rfl)
      (pss_cons (ps_fld (pv 0) pe_non rfl)
      (pss_cons (ps_fld (pv 0) pe_int rfl)
      (pss_cons (ps_fld (pv 0) pe_int rfl)
      (pss_one (ps_fld (pv 0) pe_non rfl)))))))))), ?_⟩
    refine ⟨_, rfl, se, _, rfl, .inl (.inl hse), rfl, _, _, rfl, _, _, rfl, rfl, ?_⟩
    have nps : se ≠ p := ne_of hse hp (by intro z; cases z)
    refine ⟨_, rfl, _, rfl, p, CW, dx, _, rfl, hp, WC.cl, WC.nknot, by show 0 < 1000; decide, ?_⟩
    refine ⟨_, rfl, _, rfl, p, CW, dx, _, rfl, upd_same, WC.cl, WC.nsenses, by show 1 < 1000; decide, ?_⟩
    rw [upd_upd]
    have ts : ∀ o, (∀ l, o ≠ HO.tup l) → TupS H (upd H p o) := fun o _ => tupS_upd hp
    have TR1 : Trees C Reg (upd H p (.ins CW dx (putF "senses" sv (putF "knot" kv [])))) := ⟨TR.uniq, fun p' t' r' => by
      obtain ⟨dx', tw, tf, cd, qs, ys, g⟩ := TR.node p' t' r'
      have k := ts (.ins CW dx (putF "senses" sv (putF "knot" kv []))) (by intro l z; cases z)
      have npp : p' ≠ p := fun z => np t' (by rw [← z]; exact r')
      exact ⟨dx', tw, tf, cd, qs, ys, by rw [upd_ne npp]; exact g.hp, k _ _ g.hw, k _ _ g.hf, g.fr, g.kids, g.code.imp id fun c => c.keep k fun _ _ h => h, g.ok⟩⟩
    have hp1 : (upd H p (.ins CW dx (putF "senses" sv (putF "knot" kv [])))) p = some (.ins CW dx (putF "senses" sv (putF "knot" kv []))) := upd_same
    have b1 : ∀ a o, H a = some o → a ≠ p → (upd H p (.ins CW dx (putF "senses" sv (putF "knot" kv [])))) a = some o := fun a o e z => by rw [upd_ne z]; exact e
    generalize upd H p (.ins CW dx (putF "senses" sv (putF "knot" kv []))) = H1 at TR1 hp1 b1 ⊢
    refine ⟨_, rfl, Reg, pt, t, rfl, TR1, rt, td, fun cv H2 bt TR2 hc => ?_⟩
    have hp2 := bt _ _ hp1 np
    refine ⟨_, rfl, sizeLine_ge (by show 3 ≤ 10000; decide), fun r hr => ?_⟩
    have s3 : Same H2 _ := same_new (o := .tup [cv, ev, .non]) hr
    have nrp : r ≠ p := Ne.symm (ne_of_none hp2 hr)
    have e3 : (upd H2 r (.tup [cv, ev, .non])) r = some (.tup [cv, ev, .non]) := upd_same
    generalize upd H2 r (.tup [cv, ev, .non]) = H3 at s3 e3 ⊢
    have hp3 := s3 _ _ hp2
    refine ⟨_, rfl, p, CW, dx, _, rfl, hp3, WC.cl, WC.nplace, by show 2 < 1000; decide, ?_⟩
    refine ⟨_, rfl, p, CW, dx, _, rfl, upd_same, WC.cl, WC.nhead, by show 3 < 1000; decide, ?_⟩
    refine ⟨_, rfl, p, CW, dx, _, rfl, upd_same, WC.cl, WC.nneed, by show 4 < 1000; decide, ?_⟩
    refine ⟨_, rfl, p, CW, dx, _, rfl, upd_same, WC.cl, WC.nsteps, by show 5 < 1000; decide, ?_⟩
    refine ⟨_, rfl, p, CW, dx, _, rfl, upd_same, WC.cl, WC.nmade, by show 6 < 1000; decide, ?_⟩
    refine ⟨_, rfl, p, CW, dx, _, rfl, upd_same, WC.cl, WC.nend, by show 7 < 1000; decide, ?_⟩
    rw [upd_upd, upd_upd, upd_upd, upd_upd, upd_upd]
    have TR3 := TR2.same s3
    have c3 := hc.keep (TupS.of s3) (fun _ _ h => h)
    have k3 : ∀ o, TupS H3 (upd H3 p o) := fun o => tupS_upd hp3
    refine q _ _ r cv (fun a o e z1 z2 => ?_) upd_same (walkF_mk _ _ _ _ _ _ _ _) ?_ (c3.keep (k3 _) fun _ _ h => h) ⟨TR3.uniq, fun p' t' r' => ?_⟩
    · rw [upd_ne z1]
      exact s3 _ _ (bt _ _ (b1 _ _ e z1) z2)
    · rw [upd_ne nrp]
      exact e3
    · obtain ⟨dx', tw, tf, cd, qs, ys, g⟩ := TR3.node p' t' r'
      have npp : p' ≠ p := fun z => np t' (by rw [← z]; exact r')
      exact ⟨dx', tw, tf, cd, qs, ys, by rw [upd_ne npp]; exact g.hp, k3 _ _ _ g.hw, k3 _ _ _ g.hf, g.fr, g.kids, g.code.imp id fun c => c.keep (k3 _) fun _ _ h => h, g.ok⟩
end
end K


set_option Elab.async false
set_option linter.all false
set_option maxRecDepth 100000
set_option maxHeartbeats 4000000
namespace K
open PySem PySem.Spec PyProof.Rows L2 U
/-- a class of runs as the top has made it -/
structure RunC (K : PySem.W.Frag) (C : Addr) : Prop where
  cl : Cls K C
  nmost : NoAttr K C "most"
  nknown : NoAttr K C "known"
  nbodies : NoAttr K C "bodies"
  nsteps : NoAttr K C "steps"
/-- a run's fields -/
structure RunF (fs : List (Str × V)) (most known bodies steps : V) : Prop where
  most : fs.lookup ("most" : Str) = some most
  known : fs.lookup ("known" : Str) = some known
  bodies : fs.lookup ("bodies" : Str) = some bodies
  steps : fs.lookup ("steps" : Str) = some steps
  len : fs.length < 100
def runF0 (most known bodies : V) : List (Str × V) := putF "steps" (.int 0) (putF "bodies" bodies (putF "known" known (putF "most" most [])))
theorem runF_mk (most known bodies : V) : RunF (runF0 most known bodies) most known bodies (.int 0) := by
  unfold runF0
  refine ⟨?_, ?_, ?_, ?_, ?_⟩
  iterate 4 (repeat (first | (rw [lookup_putF]; exact if_pos rfl) | rw [lookup_putF, if_neg (by decide +kernel)]))
  have h1 := putF_len "most" most []
  have h2 := putF_len "known" known (putF "most" most [])
  have h3 := putF_len "bodies" bodies (putF "known" known (putF "most" most []))
  have h4 := putF_len "steps" (.int 0) (putF "bodies" bodies (putF "known" known (putF "most" most [])))
  simp only [List.length_nil] at h1
  omega
theorem RunF.setSteps {fs : List (Str × V)} {most known bodies steps : V} (h : RunF fs most known bodies steps) (v : V) : RunF (putF "steps" v fs) most known bodies v := by
  refine ⟨?_, ?_, ?_, ?_, by rw [putF_len_at _ _ _ _ h.steps]; exact h.len⟩ <;> rw [lookup_putF] <;> first | exact if_pos rfl | rw [if_neg (by decide +kernel)]
  · exact h.most
  · exact h.known
  · exact h.bodies
/-- another field of a class that stands on it -/
theorem RunF.other {fs : List (Str × V)} {most known bodies steps : V} (h : RunF fs most known bodies steps) (n : Str) (v : V) (hn : n ∉ (["most", "known", "bodies", "steps"] : List Str)) (hl : fs.length < 90) : RunF (putF n v fs) most known bodies steps := by
  have g : ∀ m ∈ (["most", "known", "bodies", "steps"] : List Str), ∀ x, fs.lookup m = some x → (putF n v fs).lookup m = some x := fun m hm x e => by
    rw [lookup_putF, if_neg fun z => hn (by first | exact z ▸ hm | exact z.symm ▸ hm)]
    exact e
  have hl2 := putF_len n v fs
  exact ⟨g _ (by simp) _ h.most, g _ (by simp) _ h.known, g _ (by simp) _ h.bodies, g _ (by simp) _ h.steps, by omega⟩
def spRunInit (K : PySem.W.Frag) : Sp := fun vs H Q _ => ∃ (C p dx : Addr) (most known bodies : V), vs = [.ref p, most, known, bodies] ∧ RunC K C ∧ H p = some (.ins C dx []) ∧ Q .non (upd H p (.ins C dx (runF0 most known bodies)))
section
variable {P : Program} {w : World} {K : PySem.W.Frag} {mg : Str → Option Value} {base : Heap} {dW dB dN : Addr} {esW : Array DictEntry} {nW : Nat} (T : Txt K mg w dW dB esW nW) (N : Runs K mg dN)
include T N
theorem ok_Run_init {f : Addr} {fd : FuncData} (F : Fun K "__init__" "Run.__init__" s_Run___init__ f fd) : FnOk P w K mg base CX0 1 f fd ["self", "most", "known", "bodies"] (spRunInit K) := by
  refine F.ok sc_Run___init__ (fun vs H Q E h => ?_) (fun cdv A outer s H vs Q E hr h => ?_)
  · obtain ⟨C, p, dx, most, known, bodies, rfl, _⟩ := h
    rfl
  · obtain ⟨C, p, dx, most, known, bodies, rfl, RC, hp, q⟩ := h
    refine ⟨_, (pss_cons (ps_fld (pv 0) (pv 1) rfl)
      (pss_cons (ps_fld (pv 0) (pv 2) rfl)
      (pss_cons (ps_fld (pv 0) (pv 3) rfl)
      (pss_one (ps_fld (pv 0) pe_int rfl))))), ?_⟩
    refine ⟨_, rfl, _, rfl, p, C, dx, _, rfl, hp, RC.cl, RC.nmost, by show 0 < 1000; decide, ?_⟩
    refine ⟨_, rfl, _, rfl, p, C, dx, _, rfl, upd_same, RC.cl, RC.nknown, by show 1 < 1000; decide, ?_⟩
    refine ⟨_, rfl, _, rfl, p, C, dx, _, rfl, upd_same, RC.cl, RC.nbodies, by show 2 < 1000; decide, ?_⟩
    refine ⟨_, rfl, p, C, dx, _, rfl, upd_same, RC.cl, RC.nsteps, by show 3 < 1000; decide, ?_⟩
    rw [upd_upd, upd_upd, upd_upd]
    exact q
end
end K


set_option Elab.async false
set_option linter.all false
set_option maxRecDepth 100000
set_option maxHeartbeats 4000000
namespace K
open PySem PySem.Spec PyProof.Rows L2 U
/-- the class Walk as the top has made it -/
structure SeenC (K : PySem.W.Frag) (C : Addr) : Prop where
  cl : Cls K C
  nneeds : NoAttr K C "needs"
  nsteps : NoAttr K C "steps"
  nmade : NoAttr K C "made"
  nend : NoAttr K C "end"
def seenF (needs steps made end_ : V) : List (Str × V) := putF "end" end_ (putF "made" made (putF "steps" steps (putF "needs" needs [])))
def spSeenInit (C : Addr) : Sp := fun vs H Q _ => ∃ (p dx aN aM : Addr) (xs ys : List V) (n : Int) (e : V), vs = [.ref p, .ref aN, .int n, .ref aM, e] ∧ H p = some (.ins C dx []) ∧ H aN = some (.lst xs) ∧ H aM = some (.lst ys) ∧ xs.length ≤ 100000 ∧ ys.length ≤ 100000 ∧
  ∀ l1 l2 H', (∀ a o, H a = some o → a ≠ p → H' a = some o) → H' p = some (.ins C dx (seenF (.ref l1) (.int n) (.ref l2) e)) → H' l1 = some (.lst xs) → H' l2 = some (.lst ys) → H l1 = none → H l2 = none → Q .non H'
section
variable {P : Program} {w : World} {K : PySem.W.Frag} {mg : Str → Option Value} {base : Heap} {dW dB dN : Addr} {esW : Array DictEntry} {nW : Nat} (T : Txt K mg w dW dB esW nW) (N : Runs K mg dN)
include T N
theorem ok_Walk_init {f C : Addr} {fd : FuncData} (F : Fun K "__init__" "Walk.__init__" s_Walk___init__ f fd) (SC : SeenC K C) : FnOk P w K mg base CX0 1 f fd ["self", "needs", "steps", "made", "end"] (spSeenInit C) := by
  refine F.ok sc_Walk___init__ (fun vs H Q E h => ?_) (fun cdv A outer s H vs Q E hr h => ?_)
  · obtain ⟨p, dx, aN, aM, xs, ys, n, e, rfl, _⟩ := h
    rfl
  · obtain ⟨p, dx, aN, aM, xs, ys, n, e, rfl, hp, hN, hM, lx, ly, q⟩ := h
    refine ⟨_, (pss_cons (ps_fld (pv 0) (pe_callTy call_list_of (by rfl) T.z_list (by decide +kernel) (pa_cons (pv 1) pa_nil)) rfl)
      (pss_cons (ps_fld (pv 0) (pv 2) rfl)
      (pss_cons (ps_fld (pv 0) (pe_callTy call_list_of (by rfl) T.z_list (by decide +kernel) (pa_cons (pv 3) pa_nil)) rfl)
      (pss_one (ps_fld (pv 0) (pv 4) rfl))))), ?_⟩
    have zN : aN ≠ p := ne_of hN hp (by intro z; cases z)
    have zM : aM ≠ p := ne_of hM hp (by intro z; cases z)
    refine ⟨_, rfl, aN, xs, rfl, .inl (.inl (.inl hN)), fun l1 h1 => ?_⟩
    have s1 : Same H _ := same_new (o := .lst xs) h1
    have e1 : (upd H l1 (.lst xs)) l1 = some (.lst xs) := upd_same
    have z1 : l1 ≠ p := Ne.symm (ne_of_none hp h1)
    have n1 : ∀ q, (upd H l1 (.lst xs)) q = none → H q = none := fun q e => by
      cases h : H q with
      | none => rfl
      | some o => rw [s1 _ _ h] at e; cases e
    generalize upd H l1 (.lst xs) = H1 at s1 e1 n1 ⊢
    have hp1 := s1 _ _ hp
    refine ⟨_, rfl, p, C, dx, _, rfl, hp1, SC.cl, SC.nneeds, by show 0 < 1000; decide, ?_⟩
    refine ⟨_, rfl, _, rfl, p, C, dx, _, rfl, upd_same, SC.cl, SC.nsteps, by show 1 < 1000; decide, ?_⟩
    rw [upd_upd]
    refine ⟨_, rfl, aM, ys, rfl, .inl (.inl (.inl (by rw [upd_ne zM]; exact s1 _ _ hM))), fun l2 h2 => ?_⟩
    have z2 : l2 ≠ p := Ne.symm (ne_of_none upd_same h2)
    rw [upd_ne z2] at h2
    have z12 : l1 ≠ l2 := ne_of_none e1 h2
    refine ⟨_, rfl, p, C, dx, _, rfl, by rw [upd_ne z2.symm]; exact upd_same, SC.cl, SC.nmade, by show 2 < 1000; decide, ?_⟩
    refine ⟨_, rfl, _, rfl, p, C, dx, _, rfl, upd_same, SC.cl, SC.nend, by show 3 < 1000; decide, ?_⟩
    rw [upd_upd]
    refine q l1 l2 _ (fun a o e z => ?_) upd_same ?_ ?_ h1 (n1 _ h2)
    · rw [upd_ne z, upd_ne (ne_of_none (s1 _ _ e) h2), upd_ne z]
      exact s1 _ _ e
    · rw [upd_ne z1, upd_ne z12, upd_ne z1]
      exact e1
    · rw [upd_ne z2]
      exact upd_same
end
end K


set_option Elab.async false
set_option linter.all false
set_option maxRecDepth 100000
set_option maxHeartbeats 4000000
namespace K
open PySem PySem.Spec PyProof.Rows L2 U
/-- a method that stands at a class -/
structure HasW (P : Program) (w : World) (K : PySem.W.Frag) (mg : Str → Option Value) (base : Heap) (C : Addr) (m : Str) (k : Nat) (ps : List Str) (sp : Sp) (f : Addr) (fd : FuncData) : Prop where
  me : Meth K C m f
  bi : Binds K fd ps []
  ok : FnOk P w K mg base CX0 k f fd ps sp
end K

set_option Elab.async false
set_option linter.all false
set_option maxRecDepth 100000
set_option maxHeartbeats 4000000
namespace U
variable {fr : Tm → List Nm} {kn : Nm} {known : Nm → Option Hd} {lim : Nat}
theorem Goes.to {k : Nat} {a b b' : St} (h : Goes fr kn known lim k a b) (e : b = b') : Goes fr kn known lim k a b' := e ▸ h
theorem coded_n2 {w : Wd} (h : w = .sum ∨ w = .less ∨ w = .times ∨ w = .below) (b : List Nat) (x y : Tm) (m : Nat) (nx : Cd) : coded (.n2 w b x y) m nx = coded x (m + 1) (.left (coded y 1 (.right w nx))) := by
  rcases h with rfl | rfl | rfl | rfl <;> rfl
theorem Leads.some {t : Tm} {m n : Nat} {nx : Cd} {s : St} {v : Int} (h : Leads fr kn known lim t m nx s) (e : t.val = (.some v, n)) (b : s.steps + m + n ≤ lim + 1) :
    ∃ k, Goes fr kn known lim k { s with code := coded t m nx } { s with code := nx, head := .some (.num v), steps := s.steps + m + n - 1 } := by
  unfold Leads at h
  rw [e] at h
  exact h b
theorem Leads.none {t : Tm} {m n : Nat} {nx : Cd} {s : St} (h : Leads fr kn known lim t m nx s) (e : t.val = (.none, n)) (b : s.steps + m + n ≤ lim + 1) :
    ∃ k c w, Goes fr kn known lim k { s with code := coded t m nx } { s with code := c, wait := w, head := .some (.fault great kn), steps := s.steps + m + n - 1 } ∧ (c = nx ∧ w = s.wait ∨ c = .endd ∧ w = .nil) := by
  unfold Leads at h
  rw [e] at h
  exact h b
theorem leads : ∀ (t : Tm), t.Nums → ∀ (m : Nat) (nx : Cd) (s : St), Leads fr kn known lim t m nx s
  | .atom k l, h, m, nx, s => by
    cases (show k = .num from h)
    intro hb
    simp only [Tm.val] at hb ⊢
    refine ⟨1, Goes.one ?_⟩
    simp only [coded, step, begins]
    rw [if_neg (by omega)]
    rfl
  | .n1 _ _ _, h, _, _, _ => h.elim
  | .n2 w b x y, ⟨hw, hx, hy⟩, m, nx, s => by
    intro hb
    rw [coded_n2 hw]
    rcases ex : x.val with ⟨_ | u, a⟩
    · have ev : (Tm.n2 w b x y).val = (Option.none, a + 1) := by simp only [Tm.val, ex]
      rw [ev] at hb ⊢
      obtain ⟨k, c, w', g, hc⟩ := (leads x hx (m + 1) (.left (coded y 1 (.right w nx))) s).none ex (by simp only at hb; omega)
      rcases hc with ⟨rfl, rfl⟩ | ⟨rfl, rfl⟩
      · refine ⟨_, _, _, (g.trans (Goes.one (by rfl))).to ?_, .inr ⟨rfl, rfl⟩⟩
        simp only [unfitS, unfitH, St.mk.injEq, true_and, and_true]
        omega
      · refine ⟨_, _, _, g.to ?_, .inr ⟨rfl, rfl⟩⟩
        simp only [St.mk.injEq, true_and, and_true]
        omega
    · have g1 := (leads x hx (m + 1) (.left (coded y 1 (.right w nx))) s).some ex
      have px := val_pos hx
      rw [ex] at px
      rcases ey : y.val with ⟨_ | v, n⟩
      · have ev : (Tm.n2 w b x y).val = (Option.none, a + n + 1) := by simp only [Tm.val, ex, ey]
        rw [ev] at hb ⊢
        obtain ⟨k, g⟩ := g1 (by simp only at hb; omega)
        obtain ⟨k', c, w', g', hc⟩ := (leads y hy 1 (.right w nx) { s with head := .some (.num u), wait := .num u s.wait, steps := s.steps + (m + 1) + a - 1 }).none ey (by simp only at hb px ⊢; omega)
        have gg := (g.trans (Goes.one (by rfl))).trans g'
        rcases hc with ⟨rfl, rfl⟩ | ⟨rfl, rfl⟩
        · refine ⟨_, _, _, (gg.trans (Goes.one (by rfl))).to ?_, .inr ⟨rfl, rfl⟩⟩
          simp only [unfitS, unfitH, St.mk.injEq, true_and, and_true]
          simp only at px
          omega
        · refine ⟨_, _, _, gg.to ?_, .inr ⟨rfl, rfl⟩⟩
          simp only [St.mk.injEq, true_and, and_true]
          simp only at px
          omega
      · have ev : (Tm.n2 w b x y).val = (if inB (reck w u v) = true then .some (reck w u v) else .none, a + n + 1) := by simp only [Tm.val, ex, ey]
        rw [ev] at hb ⊢
        obtain ⟨k, g⟩ := g1 (by simp only at hb; omega)
        obtain ⟨k', g'⟩ := (leads y hy 1 (.right w nx) { s with head := .some (.num u), wait := .num u s.wait, steps := s.steps + (m + 1) + a - 1 }).some ey (by simp only at hb px ⊢; omega)
        have gg := ((g.trans (Goes.one (by rfl))).trans g').trans (Goes.one (by rfl))
        by_cases hi : inB (reck w u v) = true
        · simp only [if_pos hi]
          refine ⟨_, gg.to ?_⟩
          simp only [reckH, if_pos hi, St.mk.injEq, true_and, and_true]
          simp only at px
          omega
        · simp only [if_neg hi]
          refine ⟨_, _, _, gg.to ?_, .inl ⟨rfl, rfl⟩⟩
          simp only [reckH, if_neg hi, St.mk.injEq, true_and, and_true]
          simp only at px
          omega
  | .n3 w b x y z, ⟨hx, hy, hz⟩, m, nx, s => by
    intro hb
    rw [show coded (.n3 w b x y z) m nx = coded x (m + 1) (.iff (coded y 1 nx) (coded z 1 nx)) from rfl]
    rcases ex : x.val with ⟨_ | u, a⟩
    · have ev : (Tm.n3 w b x y z).val = (Option.none, a + 1) := by simp only [Tm.val, ex]
      rw [ev] at hb ⊢
      obtain ⟨k, c, w', g, hc⟩ := (leads x hx (m + 1) (.iff (coded y 1 nx) (coded z 1 nx)) s).none ex (by simp only at hb; omega)
      rcases hc with ⟨rfl, rfl⟩ | ⟨rfl, rfl⟩
      · refine ⟨_, _, _, (g.trans (Goes.one (by rfl))).to ?_, .inr ⟨rfl, rfl⟩⟩
        simp only [unfitS, unfitH, St.mk.injEq, true_and, and_true]
        omega
      · refine ⟨_, _, _, g.to ?_, .inr ⟨rfl, rfl⟩⟩
        simp only [St.mk.injEq, true_and, and_true]
        omega
    · have g1 := (leads x hx (m + 1) (.iff (coded y 1 nx) (coded z 1 nx)) s).some ex
      have px := val_pos hx
      rw [ex] at px
      simp only at px
      have ht : ∃ t : Tm, t.Nums ∧ t = (if u ≠ 0 then y else z) ∧ Leads fr kn known lim t 1 nx { s with head := .some (.num u), steps := s.steps + (m + 1) + a - 1 } := by
        by_cases hu : u ≠ 0
        · exact ⟨y, hy, by rw [if_pos hu], leads y hy 1 nx _⟩
        · exact ⟨z, hz, by rw [if_neg hu], leads z hz 1 nx _⟩
      obtain ⟨t, hn, et, hl⟩ := ht
      have eI : (if u ≠ 0 then y.val else z.val) = t.val := by rw [et]; split <;> rfl
      have eC : (if u ≠ 0 then coded y 1 nx else coded z 1 nx) = coded t 1 nx := by rw [et]; split <;> rfl
      have ev : (Tm.n3 w b x y z).val = (t.val.1, a + t.val.2 + 1) := by simp only [Tm.val, ex, eI]
      rw [ev] at hb ⊢
      obtain ⟨k, g⟩ := g1 (by simp only at hb; omega)
      have st : step fr kn known lim { s with code := .iff (coded y 1 nx) (coded z 1 nx), head := .some (.num u), steps := s.steps + (m + 1) + a - 1 } = .go { s with code := coded t 1 nx, head := .some (.num u), steps := s.steps + (m + 1) + a - 1 } := by
        rw [← eC]
        rfl
      rcases e : t.val with ⟨_ | v, n⟩
      · rw [e] at hb
        obtain ⟨k', c, w', g', hc⟩ := hl.none e (by simp only at hb px ⊢; omega)
        refine ⟨_, c, w', ((g.trans (Goes.one st)).trans g').to ?_, hc⟩
        simp only [St.mk.injEq, true_and, and_true]
        omega
      · rw [e] at hb
        obtain ⟨k', g'⟩ := hl.some e (by simp only at hb px ⊢; omega)
        refine ⟨_, ((g.trans (Goes.one st)).trans g').to ?_⟩
        simp only [St.mk.injEq, true_and, and_true]
        omega
end U

set_option Elab.async false
set_option linter.all false
set_option maxRecDepth 100000
set_option maxHeartbeats 4000000
namespace K
open PySem PySem.Spec PyProof.Rows L2 U
def spTreeOf (C : Addr) : Sp := fun vs H Q _ => ∃ (k : U.Tm) (N : List Str), vs = [.str (tx k.pr)] ∧ k.pr.length ≤ sizeLine ∧ k.Ok ∧ k.size ≤ 200 ∧ k.depth ≤ 30 ∧ N.length < 64 ∧ k.Names (nameOk N) ∧
  ∀ q H', Same H H' → TreeAt C H' k q → Q (.ref q) H'
def spAll (C : Addr) : Sp := fun vs H Q _ => ∃ (k : U.Tm) (p : Addr), vs = [.ref p] ∧ TreeAt C H k p ∧ k.size ≤ 1000 ∧
  ∀ r H' qs zs, Same H H' → H r = none → H' r = some (.lst (qs.map V.ref)) → Paired (fun q k => TreeAt C H' k q) qs zs → zs = k :: zs.flatMap U.Tm.kids → zs.length = k.size → Q (.ref r) H'
def sizes (zs : List U.Tm) : Nat := (zs.map U.Tm.size).sum
theorem size_kids (k : U.Tm) : k.size = 1 + sizes k.kids := by
  cases k <;> simp [U.Tm.size, U.Tm.kids, sizes] <;> omega
theorem sizes_app (a b : List U.Tm) : sizes (a ++ b) = sizes a + sizes b := by simp [sizes]
theorem sizes_len : ∀ zs : List U.Tm, zs.length ≤ sizes zs
  | [] => Nat.le_refl _
  | z :: zs => by
    have := sizes_len zs
    have h := size_kids z
    simp only [sizes, List.map_cons, List.sum_cons, List.length_cons] at this ⊢
    omega
section
variable {P : Program} {w : World} {K : PySem.W.Frag} {mg : Str → Option Value} {base : Heap} {dW dB : Addr} {esW : Array DictEntry} {nW : Nat} (T : Txt K mg w dW dB esW nW)
include T
theorem ok_tree_of {f f1 f2 f3 C : Addr} {fd fd1 fd2 fd3 : FuncData} (F : Fun K "tree_of" "tree_of" s_tree_of f fd) (h_pieces_of : Has P w K mg base "pieces_of" 5 ["text"] spPieces f1 fd1) (h_check_size : Has P w K mg base "check_size" 1 ["pieces"] spCheck f2 fd2)
    (h_built : Has P w K mg base "built" 4 ["text", "pieces"] (spBuilt C) f3 fd3) : FnOk P w K mg base CX0 6 f fd ["text"] (spTreeOf C) := by
  refine F.ok sc_tree_of (fun vs H Q E h => ?_) (fun cdv A outer s H vs Q E hr h => ?_)
  · obtain ⟨k, N, rfl, _⟩ := h
    rfl
  · obtain ⟨k, N, rfl, hl, hok, hsz, hdp, hN, nm, q⟩ := h
    refine ⟨_, (pss_cons (ps_if (pt_not (pt_val (pe_callB call_isi (by rfl) T.z_isinstance (by decide +kernel) (pa_cons (pv 0) (pa_cons (pe_bltn (v := .ty "str") (u := .type "str") (by rfl) T.z_str (by decide +kernel) rfl) pa_nil))))) 
        (pss_one (ps_never)) pss_nil)
      (pss_cons (ps_set (i := 1) sc_tree_of.nd rfl (.inl rfl) (pe_callH h_pieces_of (hr.mono (by first | decide | omega)) (by rfl) (pa_cons (pv 0) pa_nil)))
      (pss_cons (ps_expr (pe_callH h_check_size (hr.mono (by first | decide | omega)) (by rfl) (pa_cons (pv 1) pa_nil)))
      (pss_one (ps_ret (pe_callH h_built (hr.mono (by first | decide | omega)) (by rfl) (pa_cons (pv 0) (pa_cons (pv 1) pa_nil)))))))), ?_⟩
    refine ⟨_, rfl, _, _, .type "str", _, true, rfl, .ty "str", .base (.str _), kit_ty rfl, ?_⟩
    refine ⟨true, rfl, iteF ?_⟩
    refine ⟨_, rfl, k, rfl, hl, hok, by omega, fun p H1 ps s1 e1 pcs => ?_⟩
    have sz := sz_term k 0 ⟨0, 0, 0⟩ (Int.le_refl _)
    refine ⟨_, rfl, p, ps, k.pc 0, rfl, e1, pcs, ?_, ?_, ?_⟩
    · rw [sz]
      show max (0 : Int) (0 + (k.depth : Int)) ≤ 30
      omega
    · rw [sz]
      show (0 : Int) + (k.size : Int) ≤ 200
      omega
    refine ⟨_, rfl, _, rfl, p, ps, k, N, rfl, hl, hok, by omega, e1, pcs, hN, nm, fun q0 H2 s2 t => q q0 H2 (s1.trans s2) t⟩
theorem ok_all_trees {f C : Addr} {fd : FuncData} (F : Fun K "all_trees" "all_trees" s_all_trees f fd) (TC : TreeC K C) : FnOk P w K mg base CX0 1 f fd ["tree"] (spAll C) := by
  refine F.ok sc_all_trees (fun vs H Q E h => ?_) (fun cdv A outer s H vs Q E hr h => ?_)
  · obtain ⟨k, p, rfl, _⟩ := h
    rfl
  · obtain ⟨k, p, rfl, ht, hsz, q⟩ := h
    refine ⟨_, (pss_cons (ps_set (i := 1) sc_all_trees.nd rfl (.inl rfl) (pe_lst (pa_cons (pv 0) pa_nil)))
      (pss_cons (ps_set (i := 2) sc_all_trees.nd rfl (.inl rfl) pe_int)
      (pss_cons (ps_while PassesOwn.never (pt_cmpR op_lt (pv 2) (pe_callB call_len_seq (by rfl) T.z_len (by decide +kernel) (pa_cons (pv 1) pa_nil)) (nomark _)) 
        (pss_cons (ps_set (i := 3) sc_all_trees.nd rfl (.inl rfl) (pe_fld (pe_ix ix_list (pv 1) (pv 2) (fun _ _ => rfl)) (by rfl)))
        (pss_cons (ps_expr (pe_bm PySem.F.plainAttrs_list PySem.F.slot_list_extend PySem.F.type_list_extend mt_extendT (pv 1) (pa_cons (pv 3) pa_nil)))
        (pss_one (ps_aug (i := 2) sc_all_trees.nd rfl (.inl rfl) pe_int ip_add)))))
      (pss_one (ps_ret (pv 1)))))), ?_⟩
    refine ⟨_, rfl, sizeLine_ge (by show 1 ≤ 10000; decide), fun aF hF => ?_⟩
    have s0 : Same H (upd H aF (.lst [.ref p])) := same_new hF
    refine ⟨fun m σ H' => Same H H' ∧ ∃ (qs : List Addr) (zs : List U.Tm) (i : Nat) (x3 : Option V), σ = [some (.ref p), some (.ref aF), some (.int i), x3] ∧ H' aF = some (.lst (qs.map V.ref)) ∧ Paired (fun q k => TreeAt C H' k q) qs zs ∧
      zs = k :: (zs.take i).flatMap U.Tm.kids ∧ i ≤ zs.length ∧ i + sizes (zs.drop i) = k.size ∧ m = sizes (zs.drop i), ⟨_, s0, [p], [k], 0, _, rfl, upd_same, .cons (ht.keep (Keep.of s0)) .nil, rfl, by simp, by simp [sizes], rfl⟩, ?_⟩
    rintro m σ H1 ⟨s1, qs, zs, i, x3, rfl, eF, pq, ez, hi, hs, rfl⟩
    have pl := pq.length
    refine ⟨_, rfl, _, rfl, aF, _, rfl, .inl (.inl (.inl eF)), _, _, rfl, rfl, _, rfl, ?_⟩
    rw [List.length_map, pl]
    refine ite2 (fun h => ?_) (fun h => ?_)
    · have h := of_decide_eq_true h
      have hi2 : i < zs.length := by omega
      have hz : zs[i]? = some zs[i] := List.getElem?_eq_getElem hi2
      obtain ⟨qi, e1, ti⟩ := Paired.at_ pq hz
      have dz : zs.drop i = zs[i] :: zs.drop (i + 1) := List.drop_eq_getElem_cons hi2
      generalize hzi : zs[i] = z at ti dz hz
      obtain ⟨ks, ys, ⟨dx, tw, tf, cd, n1, n2, n3, n4⟩, pk⟩ := ti.node
      rw [dz] at hs
      have hsz2 := size_kids z
      simp only [sizes, List.map_cons, List.sum_cons] at hs hsz2
      have zl := sizes_len zs
      have kk := sizes_len z.kids
      have pkl := pk.length
      have dl : sizes (zs.drop (i + 1)) = ((zs.drop (i + 1)).map U.Tm.size).sum := rfl
      have dl1 := sizes_len (zs.drop (i + 1))
      have dl2 : (zs.drop (i + 1)).length = zs.length - (i + 1) := List.length_drop ..
      rw [dl] at dl1
      have hk2 : sizes z.kids = (z.kids.map U.Tm.size).sum := rfl
      refine ⟨fun σ' H' => ∃ m', m' < sizes (zs.drop i) ∧ _, fun σ' H' h => h, ?_⟩
      refine ⟨_, rfl, _, rfl, aF, _, _, _, rfl, rfl, .inl (.inl eF), atI_nat (by rw [List.getElem?_map, e1]; rfl), qi, C, dx, _, _, rfl, n1, TC.cl, TC.nw, tF_within _ _ _ _ _ _, ?_⟩
      refine ⟨_, rfl, .inl ⟨rfl, _, .inl (.inl eF)⟩, _, rfl, aF, tw, _, _, rfl, rfl, eF, .inl (.inl n2), ?_, ?_⟩
      · rw [List.length_map, List.length_map]
        exact sizeLine_ge (by omega)
      have kp : Keep H1 (upd H1 aF (.lst (qs.map V.ref ++ ks.map V.ref))) := Keep.upd eF
      have tk : (zs ++ z.kids).take (i + 1) = zs.take i ++ [z] := by
        rw [List.take_append_of_le_length (by omega), List.take_add_one, hz]
        rfl
      have dr : (zs ++ z.kids).drop (i + 1) = zs.drop (i + 1) ++ z.kids := List.drop_append_of_le_length (by omega)
      refine ⟨_, rfl, _, _, rfl, rfl, sizes ((zs ++ z.kids).drop (i + 1)), ?_, upd_new hF s1, qs ++ ks, zs ++ z.kids, i + 1, _, rfl, ?_, Paired.app (Paired.mapP pq fun q t h => h.keep kp) (Paired.mapP pk fun q t h => h.keep kp), ?_, ?_, ?_, rfl⟩
      · rw [dr, dz, sizes_app]
        simp only [sizes, List.map_cons, List.sum_cons]
        omega
      · rw [upd_same, List.map_append]
      · rw [tk, List.flatMap_append, List.flatMap_singleton, ← List.cons_append, ← ez]
      · rw [List.length_append]
        omega
      · rw [dr, sizes_app]
        simp only [sizes]
        omega
    · have h : ¬ ((i : Int) < (zs.length : Int)) := fun e => h (decide_eq_true e)
      have hi2 : i = zs.length := by omega
      rw [hi2, List.take_length] at ez
      rw [hi2, List.drop_length] at hs
      exact ⟨_, rfl, q aF H1 qs zs s1 hF eF pq ez (by simpa [sizes] using hs)⟩
end
end K


set_option Elab.async false
set_option linter.all false
set_option maxRecDepth 100000
set_option maxHeartbeats 4000000
namespace K
open PySem PySem.Spec PyProof.Rows L2 U SkE
def termF (t s r : V) : List (Str × V) := putF "_trees" r (putF "_text" s (putF "_tree" t []))
theorem ne_ut_us : ¬ (("_tree" : Str) = "_text") := by decide +kernel
theorem ne_ut_ur : ¬ (("_tree" : Str) = "_trees") := by decide +kernel
theorem ne_us_ur : ¬ (("_text" : Str) = "_trees") := by decide +kernel
section
variable (t s r : V)
theorem mF_tree : (termF t s r).lookup ("_tree" : Str) = some t := by
  unfold termF
  rw [lookup_putF, if_neg ne_ut_ur, lookup_putF, if_neg ne_ut_us, lookup_putF, if_pos rfl]
theorem mF_text : (termF t s r).lookup ("_text" : Str) = some s := by
  unfold termF
  rw [lookup_putF, if_neg ne_us_ur, lookup_putF, if_pos rfl]
theorem mF_trees : (termF t s r).lookup ("_trees" : Str) = some r := by
  unfold termF
  rw [lookup_putF, if_pos rfl]
end
/-- the class Term as the top has made it -/
structure TermC (K : PySem.W.Frag) (C : Addr) : Prop where
  cl : Cls K C
  nt : NoAttr K C "_tree"
  ns : NoAttr K C "_text"
  nr : NoAttr K C "_trees"
/-- the Term of a term at p -/
def TermAt (CT C : Addr) (H : Hp) (k : U.Tm) (p : Addr) : Prop := ∃ dx q r qs zs, H p = some (.ins CT dx (termF (.ref q) (.str (tx k.pr)) (.ref r))) ∧ TreeAt C H k q ∧ H r = some (.lst (qs.map V.ref)) ∧ Paired (fun q k => TreeAt C H k q) qs zs ∧ zs = k :: zs.flatMap U.Tm.kids ∧ zs.length = k.size
theorem TermAt.same {CT C : Addr} {H H' : Hp} {k : U.Tm} {p : Addr} (h : TermAt CT C H k p) (s : Same H H') : TermAt CT C H' k p := by
  obtain ⟨dx, q, r, qs, zs, h1, h2, h3, h4, h5, h6⟩ := h
  exact ⟨dx, q, r, qs, zs, s _ _ h1, h2.keep (Keep.of s), s _ _ h3, Paired.mapP h4 fun q t h => h.keep (Keep.of s), h5, h6⟩
/-- the same, the place of its list of trees told -/
def TermG (G : Addr → Prop) (CT C : Addr) (H : Hp) (k : U.Tm) (p : Addr) : Prop := ∃ dx q r qs zs, G r ∧ H p = some (.ins CT dx (termF (.ref q) (.str (tx k.pr)) (.ref r))) ∧ TreeAt C H k q ∧ H r = some (.lst (qs.map V.ref)) ∧ Paired (fun q k => TreeAt C H k q) qs zs ∧ zs = k :: zs.flatMap U.Tm.kids ∧ zs.length = k.size
theorem TermG.at_ {G : Addr → Prop} {CT C : Addr} {H : Hp} {k : U.Tm} {p : Addr} (h : TermG G CT C H k p) : TermAt CT C H k p := by
  obtain ⟨dx, q, r, qs, zs, _, h⟩ := h
  exact ⟨dx, q, r, qs, zs, h⟩
/-- trees are as they were -/
def KeepT (H H' : Hp) : Prop := ∀ p o, H p = some o → (∀ l, o ≠ .lst l) → (∀ C dx fs, o = .ins C dx fs → fs.lookup ("text" : Str) ≠ none) → H' p = some o
theorem NodeAt.keepT {C : Addr} {H H' : Hp} {t : U.Tm} {qs : List Addr} {p : Addr} {ys : List Str} (h : NodeAt C H t qs p ys) (k : KeepT H H') : NodeAt C H' t qs p ys := by
  obtain ⟨dx, tw, tf, cd, h1, h2, h3, h4⟩ := h
  refine ⟨dx, tw, tf, cd, k _ _ h1 (by intro l z; cases z) ?_, k _ _ h2 (by intro l z; cases z) (by intro _ _ _ z; cases z), k _ _ h3 (by intro l z; cases z) (by intro _ _ _ z; cases z), h4⟩
  intro C' dx' fs z
  injection z with _ _ z
  rw [← z, tF_text]
  simp
theorem TreeAt.keepT {C : Addr} {H H' : Hp} (k : KeepT H H') : ∀ {t : U.Tm} {p : Addr}, TreeAt C H t p → TreeAt C H' t p
  | .atom _ _, _, ⟨ys, h⟩ => ⟨ys, h.keepT k⟩
  | .n1 _ _ _, _, ⟨q, ys, h, h1⟩ => ⟨q, ys, h.keepT k, h1.keepT k⟩
  | .n2 _ _ _ _, _, ⟨q1, q2, ys, h, h1, h2⟩ => ⟨q1, q2, ys, h.keepT k, h1.keepT k, h2.keepT k⟩
  | .n3 _ _ _ _ _, _, ⟨q1, q2, q3, ys, h, h1, h2, h3⟩ => ⟨q1, q2, q3, ys, h.keepT k, h1.keepT k, h2.keepT k, h3.keepT k⟩
theorem KeepT.upd {H : Hp} {p C dx : Addr} {fs : List (Str × V)} {o : HO} (e : H p = some (.ins C dx fs)) (h : fs.lookup ("text" : Str) = none) : KeepT H (upd H p o) := fun a u h1 _ h3 => by
  rw [upd_ne fun z => ?_]
  · exact h1
  · rw [z, e] at h1
    exact h3 C dx fs (Option.some.inj h1).symm h
theorem KeepT.trans {H H1 H2 : Hp} (a : KeepT H H1) (b : KeepT H1 H2) : KeepT H H2 := fun p o e n m => b p o (a p o e n m) n m
theorem ne_x_ut : ¬ (("text" : Str) = "_tree") := by decide +kernel
theorem ne_x_us : ¬ (("text" : Str) = "_text") := by decide +kernel
/-- a term that Term takes -/
structure Fit (k : U.Tm) (N : List Str) : Prop where
  len : k.pr.length ≤ sizeLine
  ok : k.Ok
  size : k.size ≤ 200
  depth : k.depth ≤ 30
  few : N.length < 64
  names : k.Names (nameOk N)
def spTermInit (CT C : Addr) : Sp := fun vs H Q _ => ∃ (k : U.Tm) (N : List Str) (p dx : Addr), vs = [.ref p, .str (tx k.pr)] ∧ Fit k N ∧ H p = some (.ins CT dx []) ∧ ∀ H', But p H H' → TermG (fun a => H a = none) CT C H' k p → Q .non H'
def spTermEq (K : PySem.W.Frag) (CT C : Addr) : Sp := fun vs H Q _ => ∃ (k : U.Tm) (p : Addr) (y : V), vs = [.ref p, y] ∧ TermAt CT C H k p ∧
  ((∃ t, TyX K H y t ∧ PySem.W.kitOne K t (.ref CT) = some false ∧ Q (.bl false) H) ∨ ∃ k2 p2, y = .ref p2 ∧ TermAt CT C H k2 p2 ∧ TyX K H y (.ref CT) ∧ PySem.W.kitOne K (.ref CT) (.ref CT) = some true ∧ Q (.bl (decide (k.pr = k2.pr))) H)
def spTermLen (CT C : Addr) : Sp := fun vs H Q _ => ∃ (k : U.Tm) (p : Addr), vs = [.ref p] ∧ TermAt CT C H k p ∧ k.size ≤ 1000 ∧ Q (.int k.size) H
def spTermStr (CT C : Addr) : Sp := fun vs H Q _ => ∃ (k : U.Tm) (p : Addr), vs = [.ref p] ∧ TermAt CT C H k p ∧ Q (.str (tx k.pr)) H
def reprOf (k : U.Tm) : Str := Str.empty ++ Str.ofString "Term('" ++ tx k.pr ++ Str.ofString "')"
def spTermRepr (CT C : Addr) : Sp := fun vs H Q _ => ∃ (k : U.Tm) (p : Addr), vs = [.ref p] ∧ TermAt CT C H k p ∧ k.pr.length ≤ 9000 ∧ Q (.str (reprOf k)) H
section
variable {P : Program} {w : World} {K : PySem.W.Frag} {mg : Str → Option Value} {base : Heap} {dW dB : Addr} {esW : Array DictEntry} {nW : Nat} (T : Txt K mg w dW dB esW nW)
include T
theorem ok_Term_init {f f1 f2 C CT : Addr} {fd fd1 fd2 : FuncData} (F : Fun K "__init__" "Term.__init__" s_Term___init__ f fd) (MC : TermC K CT) (h_tree_of : Has P w K mg base "tree_of" 6 ["text"] (spTreeOf C) f1 fd1) (h_all_trees : Has P w K mg base "all_trees" 1 ["tree"] (spAll C) f2 fd2) :
    FnOk P w K mg base CX0 7 f fd ["self", "text"] (spTermInit CT C) := by
  refine F.ok sc_Term___init__ (fun vs H Q E h => ?_) (fun cdv A outer s H vs Q E hr h => ?_)
  · obtain ⟨k, N, p, dx, rfl, _⟩ := h
    rfl
  · obtain ⟨k, N, p, dx, rfl, fit, hp, q⟩ := h
    refine ⟨_, (pss_cons (ps_fld (pv 0) (pe_callH h_tree_of (hr.mono (by first | decide | omega)) (by rfl) (pa_cons (pv 1) pa_nil)) rfl)
      (pss_cons (ps_fld (pv 0) (pv 1) rfl)
      (pss_one (ps_fld (pv 0) (pe_callH h_all_trees (hr.mono (by first | decide | omega)) (by rfl) (pa_cons (pe_fld (pv 0) (by rfl)) pa_nil)) rfl)))), ?_⟩
    refine ⟨_, rfl, k, N, rfl, fit.len, fit.ok, fit.size, fit.depth, fit.few, fit.names, fun q0 H1 s1 t1 => ?_⟩
    refine ⟨_, rfl, p, CT, dx, _, rfl, s1 _ _ hp, MC.cl, MC.nt, by show 0 < 1000; decide, ?_⟩
    refine ⟨_, rfl, _, rfl, p, CT, dx, _, rfl, upd_same, MC.cl, MC.ns, by show 1 < 1000; decide, ?_⟩
    have k2 : KeepT H1 (upd (upd H1 p (.ins CT dx (putF "_tree" (.ref q0) []))) p (.ins CT dx (putF "_text" (.str (tx k.pr)) (putF "_tree" (.ref q0) [])))) := by
      rw [upd_upd]
      exact KeepT.upd (s1 _ _ hp) rfl
    have b2 : But p H (upd (upd H1 p (.ins CT dx (putF "_tree" (.ref q0) []))) p (.ins CT dx (putF "_text" (.str (tx k.pr)) (putF "_tree" (.ref q0) [])))) := by
      rw [upd_upd]
      exact (But.of_same s1).trans But.upd
    have fsz := fit.size
    refine ⟨_, rfl, p, CT, dx, _, _, rfl, upd_same, MC.cl, MC.nt, (by rw [lookup_putF, if_neg ne_ut_us, lookup_putF, if_pos rfl]), k, q0, rfl, t1.keepT k2, by omega, fun r H' qs zs s2 nr e2 pq ez el => ?_⟩
    have e3 := s2 _ _ (upd_same (H := upd H1 p (.ins CT dx (putF "_tree" (.ref q0) []))) (o := .ins CT dx (putF "_text" (.str (tx k.pr)) (putF "_tree" (.ref q0) []))))
    refine ⟨_, rfl, p, CT, dx, _, rfl, e3, MC.cl, MC.nr, by show 2 < 1000; decide, ?_⟩
    have k3 : KeepT H' (upd H' p (.ins CT dx (termF (.ref q0) (.str (tx k.pr)) (.ref r)))) := KeepT.upd e3 (by rw [lookup_putF, if_neg ne_x_us, lookup_putF, if_neg ne_x_ut]; rfl)
    have nr0 : H r = none := by
      rw [upd_upd] at nr
      have nrp : r ≠ p := fun z => by rw [z, upd_same] at nr; cases nr
      rw [upd_ne nrp] at nr
      cases h : H r with
      | none => rfl
      | some o => rw [s1 _ _ h] at nr; cases nr
    refine q _ ((b2.trans (But.of_same s2)).trans But.upd) ⟨dx, q0, r, qs, zs, nr0, upd_same, ((t1.keepT k2).keep (Keep.of s2)).keepT k3, ?_, Paired.mapP pq fun q t h => h.keepT k3, ez, el⟩
    rw [upd_ne (ne_of e2 e3 (by intro z; cases z))]
    exact e2
theorem ok_Term_len {f C CT : Addr} {fd : FuncData} (F : Fun K "__len__" "Term.__len__" s_Term___len__ f fd) (MC : TermC K CT) : FnOk P w K mg base CX0 1 f fd ["self"] (spTermLen CT C) := by
  refine F.ok sc_Term___len__ (fun vs H Q E h => ?_) (fun cdv A outer s H vs Q E hr h => ?_)
  · obtain ⟨k, p, rfl, _⟩ := h
    rfl
  · obtain ⟨k, p, rfl, ⟨dx, q0, r, qs, zs, h1, h2, h3, h4, h5, h6⟩, hs, q⟩ := h
    refine ⟨_, (pss_one (ps_ret (pe_callB call_len_seq (by rfl) T.z_len (by decide +kernel) (pa_cons (pe_fld (pv 0) (by rfl)) pa_nil)))), ?_⟩
    have e : (qs.map V.ref).length = k.size := by rw [List.length_map, h4.length, h6]
    rw [← e] at q
    exact ⟨_, rfl, p, CT, dx, _, _, rfl, h1, MC.cl, MC.nr, mF_trees _ _ _, r, _, rfl, .inl (.inl (.inl h3)), q⟩
theorem ok_Term_str {f C CT : Addr} {fd : FuncData} (F : Fun K "__str__" "Term.__str__" s_Term___str__ f fd) (MC : TermC K CT) : FnOk P w K mg base CX0 1 f fd ["self"] (spTermStr CT C) := by
  refine F.ok sc_Term___str__ (fun vs H Q E h => ?_) (fun cdv A outer s H vs Q E hr h => ?_)
  · obtain ⟨k, p, rfl, _⟩ := h
    rfl
  · obtain ⟨k, p, rfl, ⟨dx, q0, r, qs, zs, h1, h2, h3, h4, h5, h6⟩, q⟩ := h
    refine ⟨_, (pss_one (ps_ret (pe_callTy call_str_str (by rfl) T.z_str (by decide +kernel) (pa_cons (pe_fld (pv 0) (by rfl)) pa_nil)))), ?_⟩
    exact ⟨_, rfl, p, CT, dx, _, _, rfl, h1, MC.cl, MC.ns, mF_text _ _ _, _, rfl, q⟩
theorem ok_Term_repr {f C CT : Addr} {fd : FuncData} (F : Fun K "__repr__" "Term.__repr__" s_Term___repr__ f fd) (MC : TermC K CT) : FnOk P w K mg base CX0 1 f fd ["self"] (spTermRepr CT C) := by
  refine F.ok sc_Term___repr__ (fun vs H Q E h => ?_) (fun cdv A outer s H vs Q E hr h => ?_)
  · obtain ⟨k, p, rfl, _⟩ := h
    rfl
  · obtain ⟨k, p, rfl, ⟨dx, q0, r, qs, zs, h1, h2, h3, h4, h5, h6⟩, hl, q⟩ := h
    refine ⟨_, (pss_one (ps_ret (pe_joined (.cons pe_str (.cons (pe_fmt (pe_fld (pv 0) (by rfl))) (.cons pe_str .nil)))))), ?_⟩
    have z1 : (Str.empty ++ Str.ofString "Term('").length = 6 := by decide +kernel
    have z2 : (Str.ofString "')").length = 2 := by decide +kernel
    have app : ∀ a b : Str, (a ++ b).length = a.length + b.length := fun a b => by
      show (a.cps ++ b.cps).size = _
      simp [Str.length]
    refine ⟨_, rfl, sizeLine_ge (by rw [z1]; decide), _, rfl, p, CT, dx, _, _, rfl, h1, MC.cl, MC.ns, mF_text _ _ _, .inl ⟨_, rfl, ?_, _, rfl, ?_, _, rfl, ?_, q⟩⟩
    · rw [tx_len]
      exact sizeLine_ge (by omega)
    · rw [app, z1, tx_len]
      exact sizeLine_ge (by omega)
    · rw [app, app, z1, z2, tx_len]
      exact sizeLine_ge (by omega)
theorem ok_Term_eq {f C CT : Addr} {fd : FuncData} (F : Fun K "__eq__" "Term.__eq__" s_Term___eq__ f fd) (MC : TermC K CT) (hT : mg "Term" = some (.ref CT)) : FnOk P w K mg base CX0 1 f fd ["self", "other"] (spTermEq K CT C) := by
  refine F.ok sc_Term___eq__ (fun vs H Q E h => ?_) (fun cdv A outer s H vs Q E hr h => ?_)
  · obtain ⟨k, p, y, rfl, _⟩ := h
    rfl
  · obtain ⟨k, p, y, rfl, ⟨dx, q0, r, qs, zs, h1, h2, h3, h4, h5, h6⟩, q⟩ := h
    refine ⟨_, (pss_one (ps_ret (pe_and (pe_callB call_isi (by rfl) T.z_isinstance (by decide +kernel) (pa_cons (pv 1) (pa_cons (pe_globR (by rfl) hT) pa_nil))) (pe_one (pe_cmpR op_eq (pe_fld (pv 0) (by rfl)) (pe_fld (pv 1) (by rfl)) (nomark _)))))), ?_⟩
    rcases q with ⟨t, ty, kt, q⟩ | ⟨k2, p2, rfl, ⟨dx2, q2, r2, qs2, zs2, g1, g2, g3, g4, g5, g6⟩, ty, kt, q⟩
    · refine ⟨_, rfl, _, _, t, _, false, rfl, .own CT, ty, kt, false, rfl, iteF q⟩
    · refine ⟨_, rfl, _, _, _, _, true, rfl, .own CT, ty, kt, true, rfl, iteT ⟨_, rfl, p, CT, dx, _, _, rfl, h1, MC.cl, MC.ns, mF_text _ _ _, _, rfl, p2, CT, dx2, _, _, rfl, g1, MC.cl, MC.ns, mF_text _ _ _, rfl, ?_⟩⟩
      rw [str_eq]
      exact q
end
end K


set_option Elab.async false
set_option linter.all false
set_option maxRecDepth 100000
set_option maxHeartbeats 4000000
/-! sorted(xs), texts, any number of them, in a list or a tuple -/
namespace U
open PySem PySem.Spec PyProof.Rows L2
section
variable {prog : Program} {w : World} {A : Around} {E : Value → Shared → Prop} {s : Shared}
theorem collect_tup {l : Addr} {vs : List Value} {o : Obj} {n : Nat} {Q : List Value → Shared → Prop} (ho : s.heap.get? l = some o) (hc : o.cls = .type "tuple") (hd : o.data = .seq vs.toArray n)
    (h : Q vs { s with heap := (s.heap.push (seqObj "list" #[] 0)).update s.heap.objs.size (Obj.mapSeq (· ++ vs.toArray)) }) (hsz : vs.length ≤ sizeLine) :
    wpAny (model prog w) A (collect (.ref l)) Q E s := by
  unfold collect
  refine wpAny_bind (wpAny_runValue (codeAny_builtin entry_proto_collect' ?_))
  show wpAny _ _ (do again (.builtin "list.__iadd__" ⟨[← newList [], .ref l], []⟩)) _ _ s
  refine wpAny_bind (wpAny_newList (wpAny_pure ⟨Code.quiet_builtin _ (by decide +kernel), codeAny_builtin entry_list_iadd' ?_⟩))
  show wpAny _ _ (Builtin.List.listExtendWith (.ref s.heap.objs.size) (.ref l) (.ref s.heap.objs.size)) _ _ { s with heap := s.heap.push (seqObj "list" #[] 0) }
  unfold Builtin.List.listExtendWith
  have ho' : (s.heap.push (seqObj "list" #[] 0)).get? l = some o := Heap.get?_push_of_some _ ho
  refine wpAny_bind (wpAny_typeOf (T := "tuple") ⟨o, ho', hc⟩ ?_)
  have ht : (Value.type "tuple" == Value.type "tuple") = true := by rfl
  rw [if_pos (by rw [ht]; simp)]
  refine wpAny_bind (listItems_at ho' hd ?_)
  refine wpAny_bind (listItems_at (xs := #[]) (n := 0) (Heap.get?_push_size _ rfl) rfl ?_)
  rw [if_neg (by simp)]
  refine wpAny_bind (listUpdate_at (xs := #[]) (n := 0) (Heap.get?_push_size _ rfl) rfl ?_ (Nat.zero_le _) (by show (#[] ++ vs.toArray).size ≤ sizeLine + 1; simp only [Array.size_append, List.size_toArray, List.length_nil]; omega))
  refine wpAny_pure ?_
  show wpAny (model prog w) A (do
      let o ← load s.heap.objs.size
      match o.data with
      | .seq xs _ => pure xs.toList
      | _ => unsupported "internal:collect") Q E { s with heap := (s.heap.push (seqObj "list" #[] 0)).update s.heap.objs.size (Obj.mapSeq (· ++ vs.toArray)) }
  refine wpAny_bind (wpAny_load (get?_update_seq (Heap.get?_push_size _ rfl) _) ?_)
  show wpAny _ _ (pure ((#[] : Array Value) ++ vs.toArray).toList) Q E _
  rw [show ((#[] : Array Value) ++ vs.toArray).toList = vs by simp]
  exact wpAny_pure h
theorem sorted_tup {l : Addr} {vs : List Value} {ss : List Str} {o : Obj} {n : Nat} {Q : Value → Shared → Prop} (ho : s.heap.get? l = some o) (hc : o.cls = .type "tuple") (hd : o.data = .seq vs.toArray n) (hS : StrsAre vs ss) (hL : vs.length ≤ sizeLine)
    (h : ∀ (out : Array Value) (ss' : List Str), StrsAre out.toList ss' → ss'.Perm ss → sortedS ss' = true → Q (.ref (s.heap.objs.size + 1)) { s with heap := sortedAll s.heap vs out }) :
    wpAny (model prog w) A (call (.builtin "sorted") [.ref l]) Q E s := by
  refine Calls.call_function_entry kind_sorted plain_sorted entry_sorted (args_sorted1 _) ?_
  unfold Builtin.«sorted»
  refine wpAny_bind (m := checkCount "sorted" 1 1 _) (wpAny_pure ?_)
  refine wpAny_bind (collect_tup ho hc hd ?_ hL)
  refine wpAny_bind (wpAny_newList ?_ hL)
  have hsz : ((s.heap.push (seqObj "list" #[] 0)).update s.heap.objs.size (Obj.mapSeq (· ++ vs.toArray))).objs.size = s.heap.objs.size + 1 := by
    rw [Heap.size_update, size_push']
  have hoL : (((s.heap.push (seqObj "list" #[] 0)).update s.heap.objs.size (Obj.mapSeq (· ++ vs.toArray))).push (seqObj "list" vs.toArray 0)).get? (s.heap.objs.size + 1) = some (seqObj "list" vs.toArray 0) := by
    rw [← hsz]; exact Heap.get?_push_size _ rfl
  show wpAny _ _ _ _ _ { s with heap := ((s.heap.push (seqObj "list" #[] 0)).update s.heap.objs.size (Obj.mapSeq (· ++ vs.toArray))).push (seqObj "list" vs.toArray 0) }
  rw [hsz]
  refine wpAny_bind (wpAny_holding (wpAny_call_entry slot_list_sort ⟨_, hoL, rfl⟩ entry_list_sort (list_sort_treeKAny strKind_oneLt hoL hS.keysOf (fun v₁ v₂ rest e => keyKind_strs (by rw [← e]; exact hS)) hL fun st' hp hs => ⟨_, rfl, ?_⟩) (args_list_sort _)))
  obtain ⟨ss', h1, h2, h3⟩ := sorted_out_str hS hp hs
  exact wpAny_pure ⟨_, rfl, h _ ss' h1 h2 h3⟩
end
section
variable {X : Cx}
def rSortedA (K : PySem.W.Frag) : List V → Hp → VK → Prop := fun vs H Q => ∃ (a : Addr) (xs : List Str), vs = [V.ref a] ∧ (SqL K H a (xs.map V.str) ∨ SqT K H a (xs.map V.str)) ∧
  ∀ (ys : List Str) (p : Addr), ys.Perm xs → sortedS ys = true → H p = none → Q (.ref p) (upd H p (.lst (ys.map V.str)))
theorem cr_sortedA : CallR X (.builtin "sorted") (rSortedA X.K) := by
  intro pins s σ H vs us Q I r h
  obtain ⟨a, xs, rfl, hs, q⟩ := h
  rw [Vals.ref1 r]
  rcases hs with hs | hs
  · obtain ⟨its, rv, hl, hz⟩ := I.list hs
    have hlen0 := rv.length
    rw [List.length_map] at hlen0 hz
    refine PyProof.Rows.sorted_strsAny hl.isList rv.strs (by rw [← hlen0]; exact hz) fun out ys h1 h2 h3 => ?_
    obtain ⟨ep, he'⟩ := PyProof.Rows.sortedAll_at s.heap its out
    have hlen : (ys.map V.str).length ≤ sizeLine := by rw [List.length_map, h2.length_eq]; exact hz
    exact ⟨.ref _, upd H (s.heap.objs.size + 1) (.lst (ys.map V.str)), I.laid (t' := s.toks) (fun _ _ => PyProof.Rows.sortedAll_old) (Nat.le_succ _) ⟨hlen, out.toList, ep, vals_of_strs h1, he'⟩, rfl, q ys _ h2 h3 (I.hok.fresh (Nat.le_succ _))⟩
  · obtain ⟨its, rv, ⟨⟨c2, dd, d2, sl⟩, g2, k2, n2, k3⟩, hz⟩ := I.tuple hs
    have hlen0 := rv.length
    rw [List.length_map] at hlen0 hz
    refine sorted_tup g2 k2 k3 rv.strs (by rw [← hlen0]; exact hz) fun out ys h1 h2 h3 => ?_
    obtain ⟨ep, he'⟩ := PyProof.Rows.sortedAll_at s.heap its out
    have hlen : (ys.map V.str).length ≤ sizeLine := by rw [List.length_map, h2.length_eq]; exact hz
    exact ⟨.ref _, upd H (s.heap.objs.size + 1) (.lst (ys.map V.str)), I.laid (t' := s.toks) (fun _ _ => PyProof.Rows.sortedAll_old) (Nat.le_succ _) ⟨hlen, out.toList, ep, vals_of_strs h1, he'⟩, rfl, q ys _ h2 h3 (I.hok.fresh (Nat.le_succ _))⟩
end
end U

set_option Elab.async false
set_option linter.all false
set_option maxRecDepth 100000
set_option maxHeartbeats 4000000
namespace U
open PySem PySem.Spec PyProof.Rows L2
theorem rising_le : ∀ (l : List Str) (p : Str), risingS p l = true → (∀ y ∈ l, p.cps.toList ≤ y.cps.toList) ∧ sortedS l = true
  | [], _, _ => ⟨fun y hy => by simp at hy, rfl⟩
  | x :: r, p, h => by
    have h' : (!ltCps x.cps.toList p.cps.toList && risingS x r) = true := h
    rw [Bool.and_eq_true] at h'
    obtain ⟨h1, h2⟩ := h'
    rw [ltCps_eq] at h1
    have px : p.cps.toList ≤ x.cps.toList := by
      refine List.not_lt.mp ?_
      simpa using h1
    obtain ⟨h3, _⟩ := rising_le r x h2
    refine ⟨fun y hy => ?_, h2⟩
    rcases List.mem_cons.mp hy with rfl | hy
    · exact px
    · exact List.le_trans px (h3 y hy)
theorem sorted_cons {x : Str} {r : List Str} (h : sortedS (x :: r) = true) : (∀ y ∈ r, x.cps.toList ≤ y.cps.toList) ∧ sortedS r = true := rising_le r x h
theorem sorted_unique : ∀ {a b : List (List Nat)}, a.Perm b → sortedS (a.map tx) = true → sortedS (b.map tx) = true → a = b
  | [], b, p, _, _ => (List.nil_perm.mp p).symm
  | x :: a, [], p, _, _ => absurd p.length_eq (by simp)
  | x :: a, y :: b, p, ha, hb => by
    obtain ⟨a1, a2⟩ := sorted_cons ha
    obtain ⟨b1, b2⟩ := sorted_cons hb
    have le1 : x ≤ y := by
      have : y ∈ x :: a := p.mem_iff.mpr List.mem_cons_self
      rcases List.mem_cons.mp this with e | h
      · rw [e]
        exact List.le_refl _
      · have := a1 (tx y) (List.mem_map.mpr ⟨y, h, rfl⟩)
        simpa using this
    have le2 : y ≤ x := by
      have : x ∈ y :: b := p.mem_iff.mp List.mem_cons_self
      rcases List.mem_cons.mp this with e | h
      · rw [e]
        exact List.le_refl _
      · have := b1 (tx x) (List.mem_map.mpr ⟨x, h, rfl⟩)
        simpa using this
    have e : x = y := List.le_antisymm le1 le2
    subst e
    rw [sorted_unique (p.cons_inv) a2 b2]
end U

set_option Elab.async false
set_option linter.all false
set_option maxRecDepth 100000
set_option maxHeartbeats 4000000
/-! a term's free names, in order: the one list that a tree may hold -/
namespace U
open PySem PySem.Spec PyProof.Rows L2
def insN (x : List Nat) : List (List Nat) → List (List Nat)
  | [] => [x]
  | y :: r => if x = y then y :: r else if x < y then x :: y :: r else y :: insN x r
def mrg (a b : List (List Nat)) : List (List Nat) := a.foldr insN b
def frs : Tm → List (List Nat)
  | .atom k l => if k = .name then [l] else []
  | .n1 w b x => if w.bd = true then (frs x).filter (fun y => decide (y ≠ b)) else frs x
  | .n2 w b x y => mrg (frs x) (if w.bd = true then (frs y).filter (fun y => decide (y ≠ b)) else frs y)
  | .n3 w b x y z => mrg (frs x) (mrg (frs y) (if w.bd = true then (frs z).filter (fun y => decide (y ≠ b)) else frs z))
theorem insN_mem {x y : List Nat} : ∀ {l : List (List Nat)}, y ∈ insN x l ↔ y = x ∨ y ∈ l
  | [] => by simp [insN]
  | z :: r => by
    unfold insN
    split
    · rename_i e
      subst e
      simp only [List.mem_cons]
      constructor
      · exact .inr
      · rintro (h | h)
        · exact .inl h
        · exact h
    · split
      · simp only [List.mem_cons]
      · simp only [List.mem_cons, insN_mem (l := r)]
        constructor
        · rintro (h | h | h)
          · exact .inr (.inl h)
          · exact .inl h
          · exact .inr (.inr h)
        · rintro (h | h | h)
          · exact .inr (.inl h)
          · exact .inl h
          · exact .inr (.inr h)
def Inc (l : List (List Nat)) : Prop := l.Pairwise (· < ·)
theorem gt_of {x y : List Nat} (h1 : x ≠ y) (h2 : ¬ x < y) : y < x := by
  by_cases h : y < x
  · exact h
  · exact absurd (List.le_antisymm (List.not_lt.mp h) (List.not_lt.mp h2)) h1
theorem insN_inc {x : List Nat} : ∀ {l : List (List Nat)}, Inc l → Inc (insN x l)
  | [], _ => List.pairwise_singleton _ _
  | z :: r, h => by
    obtain ⟨h1, h2⟩ := List.pairwise_cons.mp h
    unfold insN
    split
    · exact h
    · rename_i n1
      split
      · rename_i lt
        refine List.pairwise_cons.mpr ⟨fun y hy => ?_, h⟩
        rcases List.mem_cons.mp hy with rfl | hy
        · exact lt
        · exact List.lt_trans lt (h1 y hy)
      · rename_i nlt
        refine List.pairwise_cons.mpr ⟨fun y hy => ?_, insN_inc h2⟩
        rcases insN_mem.mp hy with rfl | hy
        · exact gt_of n1 nlt
        · exact h1 y hy
theorem mrg_mem {y : List Nat} : ∀ {a b : List (List Nat)}, y ∈ mrg a b ↔ y ∈ a ∨ y ∈ b
  | [], b => by simp [mrg]
  | x :: a, b => by
    show y ∈ insN x (mrg a b) ↔ _
    rw [insN_mem, mrg_mem (a := a), List.mem_cons]
    constructor
    · rintro (h | h | h)
      · exact .inl (.inl h)
      · exact .inl (.inr h)
      · exact .inr h
    · rintro ((h | h) | h)
      · exact .inl h
      · exact .inr (.inl h)
      · exact .inr (.inr h)
theorem mrg_inc : ∀ {a b : List (List Nat)}, Inc b → Inc (mrg a b)
  | [], _, h => h
  | _ :: a, _, h => insN_inc (mrg_inc (a := a) h)
theorem fil_inc {w : Wd} {b : List Nat} {l : List (List Nat)} (h : Inc l) : Inc (if w.bd = true then l.filter (fun y => decide (y ≠ b)) else l) := by
  split
  · exact List.Pairwise.filter _ h
  · exact h
theorem fil_mem {w : Wd} {b y : List Nat} {l : List (List Nat)} : y ∈ (if w.bd = true then l.filter (fun y => decide (y ≠ b)) else l) ↔ y ∈ l ∧ (w.bd = true → y ≠ b) := by
  split
  · rename_i h
    rw [List.mem_filter, decide_eq_true_eq]
    exact ⟨fun ⟨a, c⟩ => ⟨a, fun _ => c⟩, fun ⟨a, c⟩ => ⟨a, c h⟩⟩
  · rename_i h
    exact ⟨fun a => ⟨a, fun z => absurd z h⟩, fun a => a.1⟩
theorem frs_inc : ∀ t : Tm, Inc (frs t)
  | .atom k l => by
    unfold frs
    split
    · exact List.pairwise_singleton _ _
    · exact List.Pairwise.nil
  | .n1 w b x => fil_inc (frs_inc x)
  | .n2 w b x y => mrg_inc (fil_inc (frs_inc y))
  | .n3 w b x y z => mrg_inc (mrg_inc (fil_inc (frs_inc z)))
theorem frs_mem : ∀ (t : Tm) (y : List Nat), y ∈ frs t ↔ t.Free y
  | .atom k l, y => by
    unfold frs Tm.Free
    split
    · rename_i h
      simp [h]
    · rename_i h
      simp [h]
  | .n1 w b x, y => by
    show y ∈ (if w.bd = true then (frs x).filter (fun y => decide (y ≠ b)) else frs x) ↔ _
    rw [fil_mem, frs_mem x]
    rfl
  | .n2 w b x z, y => by
    show y ∈ mrg (frs x) (if w.bd = true then (frs z).filter (fun y => decide (y ≠ b)) else frs z) ↔ _
    rw [mrg_mem, fil_mem, frs_mem x, frs_mem z]
    rfl
  | .n3 w b x z v, y => by
    show y ∈ mrg (frs x) (mrg (frs z) (if w.bd = true then (frs v).filter (fun y => decide (y ≠ b)) else frs v)) ↔ _
    rw [mrg_mem, mrg_mem, fil_mem, frs_mem x, frs_mem z, frs_mem v]
    rfl
theorem inc_rising : ∀ {l : List (List Nat)} {p : List Nat}, Inc (p :: l) → risingS (tx p) (l.map tx) = true
  | [], _, _ => rfl
  | x :: r, p, h => by
    obtain ⟨h1, h2⟩ := List.pairwise_cons.mp h
    show (!ltCps (tx x).cps.toList (tx p).cps.toList && risingS (tx x) (r.map tx)) = true
    rw [tx_cps, tx_cps, ltCps_eq, inc_rising h2, decide_eq_false (List.not_lt.mpr (List.le_of_lt (h1 x List.mem_cons_self)))]
    rfl
theorem inc_sorted : ∀ {l : List (List Nat)}, Inc l → sortedS (l.map tx) = true
  | [], _ => rfl
  | _ :: _, h => inc_rising h
theorem inc_nodup {l : List (List Nat)} (h : Inc l) : l.Nodup := by
  unfold List.Nodup
  refine List.Pairwise.imp ?_ h
  intro a b lt e
  subst e
  exact List.lt_irrefl a lt
end U
namespace K
open PySem PySem.Spec PyProof.Rows L2 U
theorem free_one {t : U.Tm} {ys : List Str} (h : FreeIs t ys) : ys = (U.frs t).map tx := by
  obtain ⟨nd, so, me⟩ := h
  obtain ⟨zs, rfl⟩ : ∃ zs : List (List Nat), ys = zs.map tx := ⟨ys.map fun y => y.cps.toList, by
    rw [List.map_map]
    conv => lhs; rw [← List.map_id ys]
    exact List.map_congr_left fun y _ => tx_of y⟩
  have nz : zs.Nodup := by
    unfold List.Nodup at nd
    rw [List.pairwise_map] at nd
    exact List.Pairwise.imp (fun h e => h (by rw [e])) nd
  have p : zs.Perm (U.frs t) := (List.perm_ext_iff_of_nodup nz (inc_nodup (frs_inc t))).mpr fun a => by
    rw [frs_mem]
    constructor
    · intro ha
      obtain ⟨l, e, hl⟩ := (me (tx a)).mp (List.mem_map.mpr ⟨a, ha, rfl⟩)
      exact tx_inj e ▸ hl
    · intro ha
      obtain ⟨l, hl, e⟩ := List.mem_map.mp ((me (tx a)).mpr ⟨a, rfl, ha⟩)
      exact tx_inj e ▸ hl
  rw [sorted_unique p so (inc_sorted (frs_inc t))]
end K

set_option Elab.async false
set_option linter.all false
set_option maxRecDepth 100000
set_option maxHeartbeats 4000000
/-! what stays so from step to step: names are bound, heads are of terms that fit, nothing grows too large -/
namespace K
open PySem PySem.Spec PyProof.Rows L2 U
/-- the free names of a term are bound -/
def ScT (t : U.Tm) (e : U.En) : Prop := ∀ l, t.Free l → ∃ k, getR e l = some k
/-- a head: its term fits, its names are bound -/
def HdOk : U.Hd → Prop
  | .dfn x b ns => (∃ N, Fit b N) ∧ ns.length ≤ 1000 ∧ ∀ l, b.Free l → l ≠ x → ∃ k, getR ns l = some k
  | _ => True
/-- a pair, a def, a let -/
def FormT : U.Tm → Prop
  | .n1 .deff _ _ => True
  | .n2 .pair _ _ _ => True
  | .n2 .lett _ _ _ => True
  | _ => False
def ScC (e : U.En) : U.Cd → Prop
  | .endd => True
  | .head _ _ nx => ScC e nx
  | .need _ _ nx => ScC e nx
  | .form _ t nx => ScT t e ∧ (∃ N, Fit t N) ∧ FormT t ∧ ScC e nx
  | .iff a b => ScC e a ∧ ScC e b
  | .left nx => ScC e nx
  | .right w nx => (w = .sum ∨ w = .less ∨ w = .times ∨ w = .below) ∧ ScC e nx
  | .call t nx => ScT t e ∧ (∃ N, Fit t N) ∧ ScC e nx
  | .half _ nx => ScC e nx
/-- an environment: no name twice, not too many -/
def EnOk (m : Nat) (e : U.En) : Prop := NodR e ∧ e.length + m ≤ 1000000
def ScW (m : Nat) : U.Wt → Prop
  | .nil => True
  | .num _ r => ScW m r
  | .cont c e r => ScC e c ∧ EnOk m e ∧ ScW m r
structure Good (m : Nat) (s : U.St) : Prop where
  c : ScC s.env s.code
  e : EnOk m s.env
  w : ScW m s.wait
  h : ∀ h, s.head = some h → HdOk h
  md : ∀ te ∈ s.made, ScT te.1 te.2 ∧ (∃ N, Fit te.1 N) ∧ EnOk m te.2
  ml : s.made.length + 2 * m ≤ 100000
theorem EnOk.less {m n : Nat} {e : U.En} (h : EnOk m e) (l : n ≤ m) : EnOk n e := ⟨h.1, by have := h.2; omega⟩
theorem ScW.less {m n : Nat} (l : n ≤ m) : ∀ {w : U.Wt}, ScW m w → ScW n w
  | .nil, _ => trivial
  | .num _ r, h => ScW.less l (w := r) h
  | .cont c e r, ⟨a, b, d⟩ => ⟨a, b.less l, d.less l⟩
theorem fit_kid {t k : U.Tm} (hk : k ∈ t.kids) (h : ∃ N, Fit t N) : ∃ N, Fit k N := by
  obtain ⟨N, l, ok, sz, dp, few, nm⟩ := h
  have hs : k.size ≤ t.size ∧ k.depth ≤ t.depth ∧ k.pr.length ≤ t.pr.length ∧ k.Ok ∧ k.Names (nameOk N) := by
    cases t with
    | atom kd l => cases hk
    | n1 w b x =>
      simp only [U.Tm.kids, List.mem_cons, List.not_mem_nil, or_false] at hk
      subst hk
      exact ⟨by simp only [U.Tm.size]; omega, by simp only [U.Tm.depth]; omega, by simp only [U.Tm.pr, List.length_append, List.length_cons]; omega, ok.2.2, nm⟩
    | n2 w b x y =>
      simp only [U.Tm.kids, List.mem_cons, List.not_mem_nil, or_false] at hk
      rcases hk with rfl | rfl
      · exact ⟨by simp only [U.Tm.size]; omega, by simp only [U.Tm.depth]; omega, by simp only [U.Tm.pr, List.length_append, List.length_cons]; omega, ok.2.2.1, nm.1⟩
      · exact ⟨by simp only [U.Tm.size]; omega, by simp only [U.Tm.depth]; omega, by simp only [U.Tm.pr, List.length_append, List.length_cons]; omega, ok.2.2.2, nm.2⟩
    | n3 w b x y z =>
      simp only [U.Tm.kids, List.mem_cons, List.not_mem_nil, or_false] at hk
      rcases hk with rfl | rfl | rfl
      · exact ⟨by simp only [U.Tm.size]; omega, by simp only [U.Tm.depth]; omega, by simp only [U.Tm.pr, List.length_append, List.length_cons]; omega, ok.2.2.1, nm.1⟩
      · exact ⟨by simp only [U.Tm.size]; omega, by simp only [U.Tm.depth]; omega, by simp only [U.Tm.pr, List.length_append, List.length_cons]; omega, ok.2.2.2.1, nm.2.1⟩
      · exact ⟨by simp only [U.Tm.size]; omega, by simp only [U.Tm.depth]; omega, by simp only [U.Tm.pr, List.length_append, List.length_cons]; omega, ok.2.2.2.2, nm.2.2⟩
  exact ⟨N, Nat.le_trans hs.2.2.1 l, hs.2.2.2.1, by omega, by omega, few, hs.2.2.2.2⟩
theorem getR_put {rows : U.En} {n l : U.Nm} {k : U.Nm} (h : l = n ∨ ∃ v, getR rows l = some v) : ∃ v, getR (putR rows n k) l = some v := by
  have key : ∀ {rs : U.En}, (∃ v, getR rs l = some v) ↔ ∃ r ∈ rs, r.1 = l := fun {rs} => by
    unfold getR
    rw [← Option.isSome_iff_exists, Option.isSome_map, List.find?_isSome]
    simp
  rw [key]
  unfold putR
  split
  · rename_i ha
    obtain ⟨r0, hr0, e0⟩ := List.any_eq_true.mp ha
    have e0 : r0.1 = n := of_decide_eq_true e0
    rcases h with rfl | h
    · exact ⟨_, List.mem_map.mpr ⟨r0, hr0, rfl⟩, by rw [if_pos e0]; exact e0⟩
    · obtain ⟨r, hr, e⟩ := key.mp h
      refine ⟨_, List.mem_map.mpr ⟨r, hr, rfl⟩, ?_⟩
      split
      · exact e
      · exact e
  · rcases h with rfl | h
    · exact ⟨_, List.mem_append.mpr (.inr (List.mem_singleton.mpr rfl)), rfl⟩
    · obtain ⟨r, hr, e⟩ := key.mp h
      exact ⟨r, List.mem_append.mpr (.inl hr), e⟩
theorem getR_all : ∀ {more rows : U.En} {l : U.Nm}, (∃ v, getR rows l = some v) ∨ (∃ v, getR more l = some v) → ∃ v, getR (putAll rows more) l = some v
  | [], rows, l, h => by
    rcases h with h | ⟨v, h⟩
    · exact h
    · cases h
  | r :: more, rows, l, h => by
    show ∃ v, getR (putAll (putR rows r.1 r.2) more) l = some v
    refine getR_all ?_
    by_cases e : l = r.1
    · exact .inl (getR_put (.inl e))
    · rcases h with h | ⟨v, h⟩
      · exact .inl (getR_put (.inr h))
      · refine .inr ⟨v, ?_⟩
        unfold getR at h ⊢
        rw [List.find?_cons_of_neg (by simpa using fun z => e z.symm)] at h
        exact h
theorem nod_all : ∀ {more rows : U.En}, NodR rows → NodR (putAll rows more)
  | [], _, h => h
  | r :: more, rows, h => nod_all (more := more) (h.put r.1 r.2)
theorem ScT.kid {t k : U.Tm} {e : U.En} (hk : k ∈ t.kids) (h : ∀ l, k.Free l → t.Free l) (s : ScT t e) : ScT k e := fun l hl => s l (h l hl)
/-- the code of a term that is bound and fits -/
theorem coded_ok {e : U.En} : ∀ (t : U.Tm), ScT t e → (∃ N, Fit t N) → ∀ (m : Nat) (nx : U.Cd), ScC e nx → ScC e (U.coded t m nx)
  | .atom .num l, _, _, _, _, h => h
  | .atom .name l, _, _, _, _, h => h
  | .atom .part l, _, _, _, _, h => h
  | .n1 w b x, s, f, m, nx, h => by
    have fx := fit_kid (k := x) (by simp [U.Tm.kids]) f
    obtain ⟨N, ft⟩ := f
    have ok := ft.ok
    cases w with
    | deff => exact ⟨s, ⟨N, ft⟩, trivial, h⟩
    | first => exact coded_ok x (fun l hl => s l ⟨hl, by intro z; cases z⟩) fx _ _ h
    | second => exact coded_ok x (fun l hl => s l ⟨hl, by intro z; cases z⟩) fx _ _ h
    | _ => exact absurd ok.1 (by decide)
  | .n2 w b x y, s, f, m, nx, h => by
    have fx := fit_kid (k := x) (by simp [U.Tm.kids]) f
    have fy := fit_kid (k := y) (by simp [U.Tm.kids]) f
    obtain ⟨N, ft⟩ := f
    have ok := ft.ok
    have sx : ScT x e := fun l hl => s l (.inl hl)
    cases w with
    | pair => exact ⟨s, ⟨N, ft⟩, trivial, h⟩
    | lett => exact ⟨s, ⟨N, ft⟩, trivial, h⟩
    | call => exact coded_ok x sx fx _ _ ⟨fun l hl => s l (.inr ⟨hl, by intro z; cases z⟩), fy, h⟩
    | sum => exact coded_ok x sx fx _ _ (coded_ok y (fun l hl => s l (.inr ⟨hl, by intro z; cases z⟩)) fy _ _ ⟨.inl rfl, h⟩)
    | less => exact coded_ok x sx fx _ _ (coded_ok y (fun l hl => s l (.inr ⟨hl, by intro z; cases z⟩)) fy _ _ ⟨.inr (.inl rfl), h⟩)
    | times => exact coded_ok x sx fx _ _ (coded_ok y (fun l hl => s l (.inr ⟨hl, by intro z; cases z⟩)) fy _ _ ⟨.inr (.inr (.inl rfl)), h⟩)
    | below => exact coded_ok x sx fx _ _ (coded_ok y (fun l hl => s l (.inr ⟨hl, by intro z; cases z⟩)) fy _ _ ⟨.inr (.inr (.inr rfl)), h⟩)
    | _ => exact absurd ok.1 (by decide)
  | .n3 w b x y z, s, f, m, nx, h => by
    have fx := fit_kid (k := x) (by simp [U.Tm.kids]) f
    have fy := fit_kid (k := y) (by simp [U.Tm.kids]) f
    have fz := fit_kid (k := z) (by simp [U.Tm.kids]) f
    obtain ⟨N, ft⟩ := f
    have ok := ft.ok
    have hb : w.bd = false := by
      have a := ok.1
      cases w <;> first | rfl | exact absurd a (by decide)
    exact coded_ok x (fun l hl => s l (.inl hl)) fx _ _ ⟨coded_ok y (fun l hl => s l (.inr (.inl hl))) fy _ _ h, coded_ok z (fun l hl => s l (.inr (.inr ⟨hl, by rw [hb]; intro z; cases z⟩))) fz _ _ h⟩
theorem behind_ok {m : Nat} {c : U.Cd} {e : U.En} {w : U.Wt} (hc : ScC e c) (he : EnOk m e) (hw : ScW m w) : ScW m (U.behindW c e w) := by
  unfold U.behindW
  split
  · exact hw
  · exact ⟨hc, he, hw⟩
theorem unfit_ok (kn must : U.Nm) {h : U.Hd} (g : HdOk h) : HdOk (U.unfitH kn must h) := by
  cases h <;> first | trivial | exact g
theorem reck_ok (kn : U.Nm) (w : Wd) (a b : Int) : HdOk (U.reckH kn w a b) := by
  unfold U.reckH
  split <;> trivial
theorem frs_few {t : U.Tm} (f : ∃ N, Fit t N) : (U.frs t).length ≤ 63 := by
  obtain ⟨N, ft⟩ := f
  have h : ((U.frs t).map tx).Nodup := by
    unfold List.Nodup
    rw [List.pairwise_map]
    exact List.Pairwise.imp (fun h e => h (tx_inj e)) (inc_nodup (frs_inc t))
  have l := nodup_sub ((U.frs t).map tx) N h fun x hx => by
    obtain ⟨y, hy, rfl⟩ := List.mem_map.mp hx
    exact ((frs_mem t y).mp hy).in_names ft.names
  rw [List.length_map] at l
  have := ft.few
  omega
theorem rows_get {ys : List U.Nm} {e : U.En} {l : U.Nm} (h : l ∈ ys) : ∃ k, getR (U.rowsOf ys e) l = some k := by
  unfold getR
  rw [← Option.isSome_iff_exists, Option.isSome_map, List.find?_isSome]
  exact ⟨_, List.mem_map.mpr ⟨l, h, rfl⟩, by simp⟩
/-- what a step leaves -/
def OutOk (m : Nat) : U.Out → Prop
  | .go s => Good m s
  | .fin s => Good m s
  | .need s _ => Good m s
  | .out s => Good m s
  | .bad => True
theorem Good.less {m n : Nat} {s : U.St} (g : Good m s) (l : n ≤ m) : Good n s := ⟨g.c, g.e.less l, g.w.less l, g.h, fun te h => ⟨(g.md te h).1, (g.md te h).2.1, (g.md te h).2.2.less l⟩, by have := g.ml; omega⟩
theorem asks_good {known : U.Nm → Option U.Hd} (hk : ∀ k h, known k = some h → HdOk h) {m : Nat} {s : U.St} (g : Good m s) (k : U.Nm) : OutOk m (U.asks known s k) := by
  unfold U.asks
  cases h : known k with
  | none => exact g
  | some hd => exact ⟨g.c, g.e, g.w, fun h' e => by
      cases e
      exact hk k hd h, g.md, g.ml⟩
theorem unfit_good {kn must : U.Nm} {m : Nat} {s : U.St} {h : U.Hd} (g : Good m s) (e : s.head = some h) : Good m (U.unfitS kn must h s) :=
  ⟨trivial, g.e, trivial, fun h' e' => by
    cases e'
    exact unfit_ok kn must (g.h h e), g.md, g.ml⟩
theorem begins_good {lim n m : Nat} {s : U.St} {c : Nat → U.Cd} {f : U.St → U.Out} (g : Good m s) (hc : ∀ k, ScC s.env (c k)) (hf : OutOk m (f { s with steps := s.steps + n })) : OutOk m (U.begins lim n s c f) := by
  unfold U.begins
  split
  · exact ⟨hc _, g.e, g.w, g.h, g.md, g.ml⟩
  · exact hf
theorem form_good {kn : U.Nm} {m : Nat} {s : U.St} {t : U.Tm} {nx : U.Cd} (g : Good (m + 1) s) (ht : ScT t s.env) (ft : ∃ N, Fit t N) (hn : ScC s.env nx) : OutOk m (U.formS U.frs kn t nx s) := by
  have g1 := g.less (Nat.le_succ m)
  have ml := g.ml
  cases t with
  | atom k l => trivial
  | n3 w b x y z => trivial
  | n1 w b x =>
    have fx := fit_kid (k := x) (by simp [U.Tm.kids]) ft
    have few := frs_few ft
    refine ⟨hn, g1.e, g1.w, fun h e => ?_, g1.md, g1.ml⟩
    cases e
    refine ⟨fx, by unfold U.rowsOf; rw [List.length_map]; omega, fun l hl ne => rows_get ((frs_mem _ l).mpr ⟨hl, fun _ => ne⟩)⟩
  | n2 w b x y =>
    have fx := fit_kid (k := x) (by simp [U.Tm.kids]) ft
    have fy := fit_kid (k := y) (by simp [U.Tm.kids]) ft
    have sx : ScT x s.env := fun l hl => ht l (.inl hl)
    have lett : OutOk m (.go { s with code := U.coded y 1 .endd, env := putR s.env b (U.madeNm kn (s.made.length + 1)), wait := U.behindW nx s.env s.wait, made := s.made ++ [(x, s.env)], head := none }) := by
      refine ⟨coded_ok y (fun l hl => getR_put ?_) fy _ _ trivial, ⟨g.e.1.put _ _, ?_⟩, behind_ok hn g1.e g1.w, fun h e => (by cases e), fun te h => ?_, ?_⟩
      · by_cases e : l = b
        · exact .inl e
        · exact .inr (ht l (.inr ⟨hl, fun _ => e⟩))
      · have := putR_len s.env b (U.madeNm kn (s.made.length + 1))
        have := g.e.2
        simp only at *
        omega
      · rcases List.mem_append.mp h with h | h
        · exact g1.md te h
        · rw [List.mem_singleton.mp h]
          exact ⟨sx, fx, g1.e⟩
      · simp only [List.length_append, List.length_singleton]
        omega
    cases w with
    | pair =>
      refine ⟨hn, g1.e, g1.w, fun h e => (by cases e; trivial), fun te h => ?_, ?_⟩
      · rcases List.mem_append.mp h with h | h
        · exact g1.md te h
        · simp only [List.mem_cons, List.not_mem_nil, or_false] at h
          rcases h with rfl | rfl
          · exact ⟨sx, fx, g1.e⟩
          · exact ⟨fun l hl => ht l (.inr ⟨hl, by intro z; cases z⟩), fy, g1.e⟩
      · simp only [List.length_append, List.length_cons, List.length_nil]
        omega
    | _ => exact lett
theorem step_good {kn : U.Nm} {known : U.Nm → Option U.Hd} {lim m : Nat} (hk : ∀ k h, known k = some h → HdOk h) {s : U.St} (g : Good (m + 1) s) : OutOk m (U.step U.frs kn known lim s) := by
  have g1 := g.less (Nat.le_succ m)
  have ml := g.ml
  obtain ⟨code, env, wait, head, steps, made⟩ := s
  cases code with
  | endd =>
    cases wait with
    | nil => exact g1
    | num v r => trivial
    | cont c e r =>
      obtain ⟨h1, h2, h3⟩ := g1.w
      exact ⟨h1, h2, h3, g1.h, g1.md, g1.ml⟩
  | head n v nx =>
    show OutOk m (U.begins lim n ⟨.head n v nx, env, wait, head, steps, made⟩ (fun m => .head m v nx) fun s => .go { s with code := nx, head := some (.num v) })
    exact begins_good g1 (fun k => g1.c) ⟨g1.c, g1.e, g1.w, fun h e => (by cases e; trivial), g1.md, g1.ml⟩
  | need n x nx =>
    show OutOk m (U.begins lim n ⟨.need n x nx, env, wait, head, steps, made⟩ (fun m => .need m x nx) fun s => U.asks known { s with code := nx } ((getR s.env x).getD x))
    exact begins_good g1 (fun k => g1.c) (asks_good (s := ⟨nx, env, wait, head, steps + n, made⟩) hk ⟨g1.c, g1.e, g1.w, g1.h, g1.md, g1.ml⟩ _)
  | form n t nx =>
    show OutOk m (U.begins lim n ⟨.form n t nx, env, wait, head, steps, made⟩ (fun m => .form m t nx) fun s => U.formS U.frs kn t nx s)
    exact begins_good g1 (fun k => g1.c) (form_good (s := ⟨.form n t nx, env, wait, head, steps + n, made⟩) ⟨g.c, g.e, g.w, g.h, g.md, g.ml⟩ g1.c.1 g1.c.2.1 g1.c.2.2.2)
  | iff a b =>
    cases head with
    | none => trivial
    | some h =>
      cases h with
      | num v =>
        refine ⟨?_, g1.e, g1.w, g1.h, g1.md, g1.ml⟩
        show ScC env (if v ≠ 0 then a else b)
        split
        · exact g1.c.1
        · exact g1.c.2
      | _ => exact unfit_good g1 rfl
  | left nx =>
    cases head with
    | none => trivial
    | some h =>
      cases h with
      | num v => exact ⟨g1.c, g1.e, g1.w, g1.h, g1.md, g1.ml⟩
      | _ => exact unfit_good g1 rfl
  | right w nx =>
    cases head with
    | none => trivial
    | some h =>
      cases h with
      | num v =>
        cases wait with
        | num u r => exact ⟨g1.c.2, g1.e, g1.w, fun h e => (by cases e; exact reck_ok kn w u v), g1.md, g1.ml⟩
        | nil => trivial
        | cont c e r => trivial
      | _ => exact unfit_good g1 rfl
  | call t nx =>
    cases head with
    | none => trivial
    | some h =>
      cases h with
      | dfn x b ns =>
        obtain ⟨fb, nl, nb⟩ := g1.h _ rfl
        have al := putAll_len ([] : U.En) ns
        have pl := putR_len (putAll [] ns) x (U.madeNm kn (made.length + 1))
        simp only [List.length_nil] at al
        simp only at ml
        refine ⟨coded_ok b (fun l hl => getR_put ?_) fb _ _ trivial, ⟨(nod_all (more := ns) (rows := []) List.nodup_nil).put _ _, ?_⟩, behind_ok g1.c.2.2 g1.e g1.w, g1.h, fun te h => ?_, ?_⟩
        · by_cases e : l = x
          · exact .inl e
          · exact .inr (getR_all (.inr (nb l hl e)))
        · simp only
          omega
        · rcases List.mem_append.mp h with h | h
          · exact g1.md te h
          · rw [List.mem_singleton.mp h]
            exact ⟨g1.c.1, g1.c.2.1, g1.e⟩
        · simp only [List.length_append, List.length_singleton]
          omega
      | _ => exact unfit_good g1 rfl
  | half i nx =>
    cases head with
    | none => trivial
    | some h =>
      cases h with
      | pair a b =>
        show OutOk m (U.asks known ⟨nx, env, wait, some (.pair a b), steps, made⟩ (if i then b else a))
        exact asks_good (s := ⟨nx, env, wait, some (.pair a b), steps, made⟩) hk ⟨g1.c, g1.e, g1.w, g1.h, g1.md, g1.ml⟩ _
      | _ => exact unfit_good g1 rfl
end K

set_option Elab.async false
set_option linter.all false
set_option maxRecDepth 100000
set_option maxHeartbeats 4000000
/-! the trees of a Term just made, as registered trees -/
namespace K
open PySem PySem.Spec PyProof.Rows L2 U
theorem kw_ne (k : Kd) (w : Wd) : k.cs ≠ w.cs := by cases k <;> cases w <;> decide
theorem kk_inj (k k' : Kd) (h : k.cs = k'.cs) : k = k' := by cases k <;> cases k' <;> first | rfl | exact absurd h (by decide)
theorem refs_inj : ∀ {a b : List Addr}, a.map V.ref = b.map V.ref → a = b
  | [], [], _ => rfl
  | [], _ :: _, h => by cases h
  | _ :: _, [], h => by cases h
  | x :: xs, y :: ys, h => by
    injection h with h1 h2
    injection h1 with h1
    rw [h1, refs_inj h2]
theorem node_eq {C : Addr} {H : Hp} {t t' : U.Tm} {p : Addr} {qs qs' : List Addr} {ys ys' : List Str} (h : NodeAt C H t qs p ys) (h' : NodeAt C H t' qs' p ys') : t.pr = t'.pr ∧ t.kind = t'.kind ∧ smV t.small = smV t'.small ∧ qs = qs' := by
  obtain ⟨dx, tw, tf, cd, h1, h2, _⟩ := h
  obtain ⟨dx', tw', tf', cd', h1', h2', _⟩ := h'
  rw [h1] at h1'
  injection h1' with e
  injection e with _ _ e
  have e1 := tF_text (.str (tx t.pr)) (.str (tx t.kind)) (smV t.small) (.ref tw) (.ref tf) cd
  have e2 := tF_kind (.str (tx t.pr)) (.str (tx t.kind)) (smV t.small) (.ref tw) (.ref tf) cd
  have e3 := tF_small (.str (tx t.pr)) (.str (tx t.kind)) (smV t.small) (.ref tw) (.ref tf) cd
  have e4 := tF_within (.str (tx t.pr)) (.str (tx t.kind)) (smV t.small) (.ref tw) (.ref tf) cd
  rw [e, tF_text] at e1
  rw [e, tF_kind] at e2
  rw [e, tF_small] at e3
  rw [e, tF_within] at e4
  refine ⟨?_, ?_, ?_, ?_⟩
  · injection e1 with e1
    injection e1 with e1
    exact (tx_inj e1).symm
  · injection e2 with e2
    injection e2 with e2
    exact (tx_inj e2).symm
  · injection e3 with e3
    exact e3.symm
  · injection e4 with e4
    injection e4 with e4
    subst e4
    rw [h2] at h2'
    injection h2' with e
    injection e with e
    exact refs_inj e
theorem bnd_eq {w : Wd} {b b' : List Nat} (h : BndOk w b) (h' : BndOk w b') (e : smV (sm w b) = smV (sm w b')) : b = b' := by
  unfold BndOk at h h'
  unfold sm at e
  by_cases hb : w.bd = true
  · rw [if_pos hb, if_pos hb] at e
    injection e with e
    exact tx_inj e
  · rw [if_neg hb] at h h'
    rw [h, h']
theorem TreeAt.uniq {C : Addr} {H : Hp} : ∀ (t t' : U.Tm) {p : Addr}, TreeAt C H t p → TreeAt C H t' p → t.Ok → t'.Ok → t = t' := by
  intro t
  induction t with
  | atom k l =>
    intro t' p h h' o o'
    obtain ⟨qs, ys, n, _⟩ := h.node
    obtain ⟨qs', ys', n', _⟩ := h'.node
    obtain ⟨e1, e2, e3, e4⟩ := node_eq n n'
    cases t' with
    | atom k' l' =>
      cases kk_inj _ _ e2
      cases (show l = l' from e1)
      rfl
    | n1 w b x => exact absurd e2 (kw_ne _ _)
    | n2 w b x y => exact absurd e2 (kw_ne _ _)
    | n3 w b x y z => exact absurd e2 (kw_ne _ _)
  | n1 w b x ih =>
    intro t' p h h' o o'
    obtain ⟨qs, ys, n, c⟩ := h.node
    obtain ⟨qs', ys', n', c'⟩ := h'.node
    obtain ⟨e1, e2, e3, e4⟩ := node_eq n n'
    subst e4
    cases t' with
    | atom k' l' => exact absurd e2.symm (kw_ne _ _)
    | n1 w' b' x' =>
      cases cs_inj _ _ e2
      cases bnd_eq o.2.1 o'.2.1 e3
      cases c with
      | cons a _ =>
        cases c' with
        | cons a' _ => rw [ih x' a a' o.2.2 o'.2.2]
    | n2 w' b' x' y' =>
      have l1 := c.length
      have l2 := c'.length
      rw [l1] at l2
      cases l2
    | n3 w' b' x' y' z' =>
      have l1 := c.length
      have l2 := c'.length
      rw [l1] at l2
      cases l2
  | n2 w b x y ihx ihy =>
    intro t' p h h' o o'
    obtain ⟨qs, ys, n, c⟩ := h.node
    obtain ⟨qs', ys', n', c'⟩ := h'.node
    obtain ⟨e1, e2, e3, e4⟩ := node_eq n n'
    subst e4
    cases t' with
    | atom k' l' => exact absurd e2.symm (kw_ne _ _)
    | n2 w' b' x' y' =>
      cases cs_inj _ _ e2
      cases bnd_eq o.2.1 o'.2.1 e3
      cases c with
      | cons a c =>
        cases c with
        | cons d c =>
          cases c' with
          | cons a' c' =>
            cases c' with
            | cons d' c' => rw [ihx x' a a' o.2.2.1 o'.2.2.1, ihy y' d d' o.2.2.2 o'.2.2.2]
    | n1 w' b' x' =>
      have l1 := c.length
      have l2 := c'.length
      rw [l1] at l2
      cases l2
    | n3 w' b' x' y' z' =>
      have l1 := c.length
      have l2 := c'.length
      rw [l1] at l2
      cases l2
  | n3 w b x y z ihx ihy ihz =>
    intro t' p h h' o o'
    obtain ⟨qs, ys, n, c⟩ := h.node
    obtain ⟨qs', ys', n', c'⟩ := h'.node
    obtain ⟨e1, e2, e3, e4⟩ := node_eq n n'
    subst e4
    cases t' with
    | atom k' l' => exact absurd e2.symm (kw_ne _ _)
    | n3 w' b' x' y' z' =>
      cases cs_inj _ _ e2
      cases bnd_eq o.2.1 o'.2.1 e3
      cases c with
      | cons a c =>
        cases c with
        | cons d c =>
          cases c with
          | cons g c =>
            cases c' with
            | cons a' c' =>
              cases c' with
              | cons d' c' =>
                cases c' with
                | cons g' c' => rw [ihx x' a a' o.2.2.1 o'.2.2.1, ihy y' d d' o.2.2.2.1 o'.2.2.2.1, ihz z' g g' o.2.2.2.2 o'.2.2.2.2]
    | n1 w' b' x' =>
      have l1 := c.length
      have l2 := c'.length
      rw [l1] at l2
      cases l2
    | n2 w' b' x' y' =>
      have l1 := c.length
      have l2 := c'.length
      rw [l1] at l2
      cases l2
/-- the trees that stand so in this heap -/
def RegOf (C : Addr) (H : Hp) : Addr → U.Tm → Prop := fun p t => TreeAt C H t p ∧ t.Ok
theorem ok_kids {t : U.Tm} (h : t.Ok) : ∀ k ∈ t.kids, k.Ok := by
  cases t with
  | atom k l => intro k hk; cases hk
  | n1 w b x =>
    intro k hk
    simp only [Tm.kids, List.mem_cons, List.not_mem_nil, or_false] at hk
    subst hk
    exact h.2.2
  | n2 w b x y =>
    intro k hk
    simp only [Tm.kids, List.mem_cons, List.not_mem_nil, or_false] at hk
    rcases hk with rfl | rfl
    · exact h.2.2.1
    · exact h.2.2.2
  | n3 w b x y z =>
    intro k hk
    simp only [Tm.kids, List.mem_cons, List.not_mem_nil, or_false] at hk
    rcases hk with rfl | rfl | rfl
    · exact h.2.2.1
    · exact h.2.2.2.1
    · exact h.2.2.2.2
theorem regs_kids {C : Addr} {H : Hp} : ∀ {qs : List Addr} {ks : List U.Tm}, Paired (fun q k => TreeAt C H k q) qs ks → (∀ k ∈ ks, k.Ok) → Paired (RegOf C H) qs ks
  | _, _, .nil, _ => .nil
  | _, _, .cons a c, h => .cons ⟨a, h _ List.mem_cons_self⟩ (regs_kids c fun k hk => h k (List.mem_cons_of_mem _ hk))
theorem trees_of (C : Addr) (H : Hp) : Trees C (RegOf C H) H := by
  refine ⟨fun p t t' r r' => TreeAt.uniq t t' r.1 r'.1 r.2 r'.2, fun p t r => ?_⟩
  obtain ⟨qs, ys, ⟨dx, tw, tf, cd, h1, h2, h3, h4, h5⟩, c⟩ := r.1.node
  exact ⟨dx, tw, tf, cd, qs, ys, h1, h2, h3, h4, regs_kids c (ok_kids r.2), .inl h5, r.2⟩
theorem RegOf.some {C : Addr} {H : Hp} {p : Addr} {t : U.Tm} (r : RegOf C H p t) : ∃ dx fs, H p = some (.ins C dx fs) := by
  obtain ⟨qs, ys, ⟨dx, tw, tf, cd, h1, _⟩, _⟩ := r.1.node
  exact ⟨dx, _, h1⟩
end K

set_option Elab.async false
set_option linter.all false
set_option maxRecDepth 100000
set_option maxHeartbeats 4000000
/-! a term's text tells the term -/
namespace K
open PySem PySem.Spec PyProof.Rows L2 U
/-- what may stand behind a term: nothing, a blank, a bracket that closes -/
def Stop (r : List Nat) : Prop := r = [] ∨ ∃ c s, r = c :: s ∧ (c = 32 ∨ c = 41)
/-- no blank, no bracket -/
def Plain (l : List Nat) : Prop := ∀ c ∈ l, c ≠ 32 ∧ c ≠ 41 ∧ c ≠ 40
theorem split_at : ∀ {l l' r r' : List Nat}, Plain l → Plain l' → Stop r → Stop r' → l ++ r = l' ++ r' → l = l' ∧ r = r'
  | [], [], _, _, _, _, _, _, h => ⟨rfl, h⟩
  | [], c :: l', r, r', _, p, s, _, h => by
    rcases s with rfl | ⟨d, t, rfl, hd⟩
    · cases h
    · have h2 := h
      simp only [List.nil_append, List.cons_append, List.cons.injEq] at h2
      have := p c List.mem_cons_self
      obtain ⟨e, _⟩ := h2
      subst e
      rcases hd with hd | hd
      · exact absurd hd this.1
      · exact absurd hd this.2.1
  | c :: l, [], r, r', p, _, _, s, h => by
    rcases s with rfl | ⟨d, t, rfl, hd⟩
    · cases h
    · have h2 := h
      simp only [List.nil_append, List.cons_append, List.cons.injEq] at h2
      have := p c List.mem_cons_self
      obtain ⟨e, _⟩ := h2
      subst e
      rcases hd with hd | hd
      · exact absurd hd this.1
      · exact absurd hd this.2.1
  | c :: l, d :: l', r, r', p, p', s, s', h => by
    simp only [List.cons_append, List.cons.injEq] at h
    obtain ⟨e, h⟩ := h
    obtain ⟨h1, h2⟩ := split_at (fun x hx => p x (List.mem_cons_of_mem _ hx)) (fun x hx => p' x (List.mem_cons_of_mem _ hx)) s s' h
    rw [e, h1]
    exact ⟨rfl, h2⟩
theorem small_plain {c : Nat} (h : c ∈ smalls) : 97 ≤ c ∧ c ≤ 122 := by
  simp only [smalls, List.mem_map, List.mem_range] at h
  obtain ⟨a, ha, rfl⟩ := h
  omega
theorem great_plain {c : Nat} (h : c ∈ greats) : 65 ≤ c ∧ c ≤ 90 := by
  simp only [greats, List.mem_map, List.mem_range] at h
  obtain ⟨a, ha, rfl⟩ := h
  omega
theorem fig_plain {c : Nat} (h : c ∈ figs) : 48 ≤ c ∧ c ≤ 57 := by
  simp only [figs, List.mem_map, List.mem_range] at h
  obtain ⟨a, ha, rfl⟩ := h
  omega
theorem fig1_plain {c : Nat} (h : c ∈ figs1) : 48 ≤ c ∧ c ≤ 57 := by
  simp only [figs1, List.mem_map, List.mem_range] at h
  obtain ⟨a, ha, rfl⟩ := h
  omega
/-- a number's first sign, a name's, a part's -/
theorem atom_first {k : Kd} {l : List Nat} (h : AtomOk k l) : ∃ c s, l = c :: s ∧ Plain l ∧ (match k with | .num => c < 58 | .name => 97 ≤ c | .part => 58 ≤ c ∧ c < 97) := by
  cases k with
  | num =>
    rcases h with rfl | ⟨d, ds, e, hd, _, hs⟩
    · exact ⟨48, [], rfl, by intro c hc; simp at hc; omega, by decide⟩
    · have h1 := fig1_plain hd
      rcases e with rfl | rfl
      · refine ⟨d, ds, rfl, fun c hc => ?_, by show d < 58; omega⟩
        rcases List.mem_cons.mp hc with rfl | hc
        · omega
        · have := fig_plain (hs c hc)
          omega
      · refine ⟨45, d :: ds, rfl, fun c hc => ?_, by show 45 < 58; decide⟩
        rcases List.mem_cons.mp hc with rfl | hc
        · omega
        · rcases List.mem_cons.mp hc with rfl | hc
          · omega
          · have := fig_plain (hs c hc)
            omega
  | name =>
    obtain ⟨h1, h2, h3⟩ := (show SmallOk l from h)
    cases l with
    | nil => simp at h1
    | cons c s =>
      have := small_plain (h3 c List.mem_cons_self)
      refine ⟨c, s, rfl, fun x hx => ?_, by show 97 ≤ c; omega⟩
      have := small_plain (h3 x hx)
      omega
  | part =>
    obtain ⟨h1, h2, h3⟩ := (show GreatOk l from h)
    cases l with
    | nil => simp at h1
    | cons c s =>
      have := great_plain (h3 c List.mem_cons_self)
      refine ⟨c, s, rfl, fun x hx => ?_, by show 58 ≤ c ∧ c < 97; omega⟩
      have := great_plain (h3 x hx)
      omega
theorem word_plain (w : Wd) : Plain w.cs := by cases w <;> (unfold Plain; decide)
theorem bnd_plain {w : Wd} {b : List Nat} (h : BndOk w b) : Plain b := by
  unfold BndOk at h
  split at h
  · intro c hc
    have := small_plain (h.2.2 c hc)
    omega
  · rw [h]
    intro c hc
    cases hc
theorem stop_kT {ks : List U.Tm} {r : List Nat} : Stop (kT ks ++ 41 :: r) := by
  cases ks with
  | nil => exact .inr ⟨41, r, rfl, .inr rfl⟩
  | cons k ks => exact .inr ⟨32, _, rfl, .inl rfl⟩
theorem view_inj {t t' : U.Tm} {w : Wd} {b : List Nat} {ks : List U.Tm} (v : View t w b ks) (v' : View t' w b ks) (o : t.Ok) (o' : t'.Ok) : t = t' := by
  have k1 := v.kids.trans v'.kids.symm
  have k2 := v.kind.trans v'.kind.symm
  have k3 := v.small.trans v'.small.symm
  cases t with
  | atom k l => exact absurd v.kind (kw_ne _ _)
  | n1 w1 b1 x =>
    cases t' with
    | n1 w2 b2 x' =>
      cases cs_inj _ _ k2
      cases bnd_eq o.2.1 o'.2.1 (congrArg smV k3)
      simp only [U.Tm.kids, List.cons.injEq, and_true] at k1
      rw [k1]
    | atom k l => exact absurd v'.kind (kw_ne _ _)
    | n2 w2 b2 x' y' => simp [U.Tm.kids] at k1
    | n3 w2 b2 x' y' z' => simp [U.Tm.kids] at k1
  | n2 w1 b1 x y =>
    cases t' with
    | n2 w2 b2 x' y' =>
      cases cs_inj _ _ k2
      cases bnd_eq o.2.1 o'.2.1 (congrArg smV k3)
      simp only [U.Tm.kids, List.cons.injEq, and_true] at k1
      rw [k1.1, k1.2]
    | atom k l => exact absurd v'.kind (kw_ne _ _)
    | n1 w2 b2 x' => simp [U.Tm.kids] at k1
    | n3 w2 b2 x' y' z' => simp [U.Tm.kids] at k1
  | n3 w1 b1 x y z =>
    cases t' with
    | n3 w2 b2 x' y' z' =>
      cases cs_inj _ _ k2
      cases bnd_eq o.2.1 o'.2.1 (congrArg smV k3)
      simp only [U.Tm.kids, List.cons.injEq, and_true] at k1
      rw [k1.1, k1.2.1, k1.2.2]
    | atom k l => exact absurd v'.kind (kw_ne _ _)
    | n1 w2 b2 x' => simp [U.Tm.kids] at k1
    | n2 w2 b2 x' y' => simp [U.Tm.kids] at k1
theorem kT_inj {n : Nat} (ih : ∀ t t' : U.Tm, t.size ≤ n → t.Ok → t'.Ok → ∀ r r', Stop r → Stop r' → t.pr ++ r = t'.pr ++ r' → t = t' ∧ r = r') : ∀ {ks ks' : List U.Tm} {r r' : List Nat}, (∀ k ∈ ks, k.size ≤ n ∧ k.Ok) → (∀ k ∈ ks', k.Ok) → ks.length = ks'.length →
    kT ks ++ 41 :: r = kT ks' ++ 41 :: r' → ks = ks' ∧ r = r'
  | [], [], r, r', _, _, _, h => by
    simp only [kT, List.nil_append, List.cons.injEq, true_and] at h
    exact ⟨rfl, h⟩
  | [], _ :: _, _, _, _, _, l, _ => by cases l
  | _ :: _, [], _, _, _, _, l, _ => by cases l
  | k :: ks, k' :: ks', r, r', h1, h2, l, h => by
    simp only [kT, List.cons_append, List.append_assoc, List.cons.injEq, true_and] at h
    obtain ⟨e1, e2⟩ := ih k k' (h1 k List.mem_cons_self).1 (h1 k List.mem_cons_self).2 (h2 k' List.mem_cons_self) _ _ stop_kT stop_kT h
    obtain ⟨e3, e4⟩ := kT_inj ih (fun x hx => h1 x (List.mem_cons_of_mem _ hx)) (fun x hx => h2 x (List.mem_cons_of_mem _ hx)) (by simpa using l) e2
    rw [e1, e3]
    exact ⟨rfl, e4⟩
theorem le_sum {k : U.Tm} : ∀ {ks : List U.Tm}, k ∈ ks → k.size ≤ (ks.map U.Tm.size).sum
  | x :: ks, h => by
    rw [List.map_cons, List.sum_cons]
    rcases List.mem_cons.mp h with rfl | h
    · omega
    · have := le_sum h
      omega
theorem pr_pre : ∀ (n : Nat) (t t' : U.Tm), t.size ≤ n → t.Ok → t'.Ok → ∀ r r', Stop r → Stop r' → t.pr ++ r = t'.pr ++ r' → t = t' ∧ r = r'
  | 0, t, _, h, _, _, _, _, _, _, _ => by
    have := size_kids t
    omega
  | n + 1, t, t', hs, o, o', r, r', s, s', h => by
    rcases view o with ⟨k, l, rfl, a⟩ | ⟨w, b, ks, v⟩
    · obtain ⟨c, q, el, pl, hc⟩ := atom_first a
      rcases view o' with ⟨k', l', rfl, a'⟩ | ⟨w', b', ks', v'⟩
      · obtain ⟨c', q', el', pl', hc'⟩ := atom_first a'
        obtain ⟨e1, e2⟩ := split_at pl pl' s s' (show l ++ r = l' ++ r' from h)
        subst e1
        have ec : c = c' := by
          rw [el] at el'
          exact (List.cons.inj el').1
        subst ec
        have ek : k = k' := by cases k <;> cases k' <;> first | rfl | (simp only at hc hc'; omega)
        rw [ek]
        exact ⟨rfl, e2⟩
      · rw [v'.pr] at h
        have h3 : c :: (q ++ r) = 40 :: _ := (by rw [← List.cons_append, ← el]; exact h)
        have := (pl c (by rw [el]; exact List.mem_cons_self)).2.2
        exact absurd (List.cons.inj h3).1 this
    · rcases view o' with ⟨k', l', rfl, a'⟩ | ⟨w', b', ks', v'⟩
      · obtain ⟨c', q', el', pl', hc'⟩ := atom_first a'
        rw [v.pr] at h
        rw [show (U.Tm.atom k' l').pr = c' :: q' from el'] at h
        have := (pl' c' (by rw [el']; exact List.mem_cons_self)).2.2
        exact absurd (List.cons.inj (show 40 :: _ = c' :: (q' ++ r') from h)).1.symm this
      · have ex : ∀ (u : U.Tm) (w : Wd) (b : List Nat) (ks : List U.Tm) (r : List Nat), View u w b ks → u.pr ++ r = 40 :: (w.cs ++ ((if w.bd = true then 32 :: b else []) ++ (kT ks ++ 41 :: r))) := fun u w b ks r v => by
          rw [v.pr]
          simp [hd]
        rw [ex t w b ks r v, ex t' w' b' ks' r' v'] at h
        have h := (List.cons.inj h).2
        have st : ∀ (w : Wd) (b : List Nat) (ks : List U.Tm) (r : List Nat), Stop ((if w.bd = true then 32 :: b else []) ++ (kT ks ++ 41 :: r)) := fun w b ks r => by
          split
          · exact .inr ⟨32, _, rfl, .inl rfl⟩
          · exact stop_kT
        obtain ⟨e1, e2⟩ := split_at (word_plain w) (word_plain w') (st _ _ _ _) (st _ _ _ _) h
        cases cs_inj _ _ e1
        have eb : b = b' ∧ kT ks ++ 41 :: r = kT ks' ++ 41 :: r' := by
          by_cases hb : w.bd = true
          · rw [if_pos hb, if_pos hb] at e2
            exact split_at (bnd_plain v.bn) (bnd_plain v'.bn) stop_kT stop_kT (List.cons.inj e2).2
          · have b1 := v.bn
            have b2 := v'.bn
            unfold BndOk at b1 b2
            rw [if_neg hb] at b1 b2 e2
            rw [if_neg hb] at e2
            rw [b1, b2]
            exact ⟨rfl, e2⟩
        obtain ⟨rfl, e3⟩ := eb
        have szs : ∀ k ∈ ks, k.size ≤ n := fun k hk => by
          have h1 := v.size
          have : k.size ≤ (ks.map U.Tm.size).sum := le_sum hk
          omega
        obtain ⟨rfl, e4⟩ := kT_inj (n := n) (fun t t' h => pr_pre n t t' h) (fun k hk => ⟨szs k hk, v.oks k hk⟩) v'.oks (v.ar.trans v'.ar.symm) e3
        exact ⟨view_inj v v' o o', e4⟩
theorem pr_inj {t t' : U.Tm} (o : t.Ok) (o' : t'.Ok) (h : t.pr = t'.pr) : t = t' := (pr_pre t.size t t' (Nat.le_refl _) o o' [] [] (.inl rfl) (.inl rfl) (by rw [h])).1
end K

set_option Elab.async false
set_option linter.all false
set_option maxRecDepth 100000
set_option maxHeartbeats 4000000
/-! numbers' texts read back; the law's number trees -/
namespace K
open PySem PySem.Spec PyProof.Rows L2 U
theorem all_dig (n : Nat) : PySem.NumText.AllDigits ((Nat.toDigits 10 n).map Char.toNat) := by
  intro c hc
  obtain ⟨ch, hch, e⟩ := List.mem_map.mp hc
  have r := PyProof.Rows.digit_range (Nat.isDigit_of_mem_toDigits (by decide) (by decide) hch)
  rw [← e]
  exact r
theorem digs_ne (n : Nat) : (Nat.toDigits 10 n).map Char.toNat ≠ [] := by
  intro e
  have z := List.map_eq_nil_iff.mp e
  rw [Nat.toDigits_eq_if (by decide)] at z
  split at z <;> simp at z
theorem num_back {i : Int} (h : i.natAbs < 10 ^ 12) : ∃ l, Str.ofString (toString i) = tx l ∧ NumOk l ∧ U.numVal l = i := by
  obtain ⟨l, e, ok⟩ := num_text h
  refine ⟨l, e, ok, ?_⟩
  have hl := num_len13 ok
  unfold U.numVal
  cases i with
  | ofNat n =>
    have e2 : Str.ofString (toString (Int.ofNat n)) = tx ((Nat.toDigits 10 n).map Char.toNat) := by
      rw [← Nat.toList_repr]
      exact PySem.Str.ofString_eq_toList _
    have e3 := tx_inj (e.symm.trans e2)
    rw [e3] at hl ⊢
    rw [PySem.intText_digits (x := tx _) (all_dig n) (digs_ne n) (by rw [tx_len]; omega)]
    show ((PySem.NumText.digitsVal ((Nat.toDigits 10 n).map Char.toNat) : Nat) : Int) = _
    rw [PySem.W.KIN.val_back]
    rfl
  | negSucc n =>
    have e2 : Str.ofString (toString (Int.negSucc n)) = tx (45 :: (Nat.toDigits 10 (n + 1)).map Char.toNat) := by
      rw [← Nat.toList_repr]
      show Str.ofString ("-" ++ Nat.repr (n + 1)) = _
      rw [PySem.Str.ofString_eq_toList]
      simp
    have e3 := tx_inj (e.symm.trans e2)
    rw [e3] at hl ⊢
    rw [PySem.intText_neg (x := tx _) (cs := (Nat.toDigits 10 (n + 1)).map Char.toNat) rfl (all_dig (n + 1)) (digs_ne (n + 1)) (by rw [tx_len]; omega)]
    show -((PySem.NumText.digitsVal ((Nat.toDigits 10 (n + 1)).map Char.toNat) : Nat) : Int) = _
    rw [PySem.W.KIN.val_back]
    rfl
/-- a tree of the law: a number with its number, a form with its trees -/
def NumT (H : Hp) : U.Tm → V → Prop
  | .atom k l, v => ∃ a, v = .ref a ∧ H a = some (.tup [.str (tx numberW), .int (U.numVal l)]) ∧ k = .num ∧ NumOk l ∧ Str.ofString (toString (U.numVal l)) = tx l ∧ (U.numVal l).natAbs < 10 ^ 12
  | .n1 _ _ _, _ => False
  | .n2 w b x y, v => ∃ a u1 u2, v = .ref a ∧ H a = some (.tup [.str (tx w.cs), u1, u2]) ∧ (w = .sum ∨ w = .less ∨ w = .times ∨ w = .below) ∧ b = [] ∧ NumT H x u1 ∧ NumT H y u2
  | .n3 w b x y z, v => ∃ a u1 u2 u3, v = .ref a ∧ H a = some (.tup [.str (tx w.cs), u1, u2, u3]) ∧ w = .iff ∧ b = [] ∧ NumT H x u1 ∧ NumT H y u2 ∧ NumT H z u3
theorem NumT.keep {H H' : Hp} (k : TupS H H') : ∀ {t : U.Tm} {v : V}, NumT H t v → NumT H' t v
  | .atom _ _, _, ⟨a, e, h, r⟩ => ⟨a, e, k _ _ h, r⟩
  | .n1 _ _ _, _, h => h.elim
  | .n2 _ _ _ _, _, ⟨a, u1, u2, e, h, hw, hb, h1, h2⟩ => ⟨a, u1, u2, e, k _ _ h, hw, hb, h1.keep k, h2.keep k⟩
  | .n3 _ _ _ _ _, _, ⟨a, u1, u2, u3, e, h, hw, hb, h1, h2, h3⟩ => ⟨a, u1, u2, u3, e, k _ _ h, hw, hb, h1.keep k, h2.keep k, h3.keep k⟩
theorem NumT.ok {H : Hp} : ∀ {t : U.Tm} {v : V}, NumT H t v → t.Ok ∧ t.Nums
  | .atom _ _, _, ⟨a, e, h, rfl, ok, _⟩ => ⟨ok, rfl⟩
  | .n1 _ _ _, _, h => h.elim
  | .n2 _ _ _ _, _, ⟨a, u1, u2, e, h, hw, rfl, h1, h2⟩ => by
    refine ⟨⟨?_, ?_, h1.ok.1, h2.ok.1⟩, hw, h1.ok.2, h2.ok.2⟩
    · rcases hw with rfl | rfl | rfl | rfl <;> rfl
    · rcases hw with rfl | rfl | rfl | rfl <;> rfl
  | .n3 _ _ _ _ _, _, ⟨a, u1, u2, u3, e, h, rfl, rfl, h1, h2, h3⟩ => ⟨⟨rfl, rfl, h1.ok.1, h2.ok.1, h3.ok.1⟩, h1.ok.2, h2.ok.2, h3.ok.2⟩
theorem NumT.names {H : Hp} : ∀ {t : U.Tm} {v : V}, NumT H t v → ∀ N, t.Names N
  | .atom _ _, _, ⟨a, e, h, rfl, ok, _⟩, N => (by intro z; cases z)
  | .n1 _ _ _, _, h, N => h.elim
  | .n2 _ _ _ _, _, ⟨a, u1, u2, e, h, hw, rfl, h1, h2⟩, N => ⟨h1.names N, h2.names N⟩
  | .n3 _ _ _ _ _, _, ⟨a, u1, u2, u3, e, h, rfl, rfl, h1, h2, h3⟩, N => ⟨h1.names N, h2.names N, h3.names N⟩
/-- what a term comes to lies within the bounds -/
theorem NumT.bound {H : Hp} : ∀ {t : U.Tm} {v : V}, NumT H t v → ∀ x n, t.val = (some x, n) → x.natAbs ≤ 10 ^ 12
  | .atom _ _, _, ⟨a, e, h, rfl, ok, _, b⟩, x, n, ev => by
    simp only [U.Tm.val, Prod.mk.injEq, Option.some.injEq] at ev
    rw [← ev.1]
    omega
  | .n1 _ _ _, _, h, _, _, _ => h.elim
  | .n2 w _ x y, _, ⟨a, u1, u2, e, h, hw, rfl, h1, h2⟩, v, n, ev => by
    simp only [U.Tm.val] at ev
    split at ev
    · cases ev
    · split at ev
      · cases ev
      · split at ev
        · rename_i hb
          unfold U.inB at hb
          rw [Bool.and_eq_true, decide_eq_true_eq, decide_eq_true_eq] at hb
          simp only [Prod.mk.injEq, Option.some.injEq] at ev
          have e12 : (10 : Nat) ^ 12 = 1000000000000 := by decide
          rw [← ev.1]
          omega
        · cases ev
  | .n3 _ _ x y z, _, ⟨a, u1, u2, u3, e, h, rfl, rfl, h1, h2, h3⟩, v, n, ev => by
    simp only [U.Tm.val] at ev
    split at ev
    · cases ev
    · rename_i u m eu
      by_cases hu : u ≠ 0
      · simp only [if_pos hu, Prod.mk.injEq] at ev
        exact h2.bound v y.val.2 (by rw [← ev.1])
      · simp only [if_neg hu, Prod.mk.injEq] at ev
        exact h3.bound v z.val.2 (by rw [← ev.1])
/-- how large such a tree may be -/
def sB : Nat → Nat
  | 0 => 1
  | d + 1 => 4 * sB d + 2
def lB : Nat → Nat
  | 0 => 13
  | d + 1 => 4 * lB d + 20
structure SmallN (t : U.Tm) (d : Nat) : Prop where
  size : t.size ≤ sB d
  depth : t.depth ≤ 2 * d
  len : t.pr.length ≤ lB d
theorem val_size : ∀ t : U.Tm, t.val.2 ≤ t.size
  | .atom _ _ => Nat.le_refl _
  | .n1 _ _ _ => Nat.zero_le _
  | .n2 w b x y => by
    have hx := val_size x
    have hy := val_size y
    simp only [U.Tm.val, U.Tm.size]
    split
    · rename_i e
      rw [e] at hx
      simp only at hx ⊢
      omega
    · rename_i e
      rw [e] at hx
      split
      · rename_i e2
        rw [e2] at hy
        simp only at hx hy ⊢
        omega
      · rename_i e2
        rw [e2] at hy
        simp only at hx hy ⊢
        omega
  | .n3 w b x y z => by
    have hx := val_size x
    have hy := val_size y
    have hz := val_size z
    simp only [U.Tm.val, U.Tm.size]
    split
    · rename_i e
      rw [e] at hx
      simp only at hx ⊢
      omega
    · rename_i e
      rw [e] at hx
      simp only at hx ⊢
      split <;> omega
end K

set_option Elab.async false
set_option linter.all false
set_option maxRecDepth 100000
set_option maxHeartbeats 4000000
/-! the whole of a walk's machine in the heap -/
namespace K
open PySem PySem.Spec PyProof.Rows L2 U
theorem FnOk.weak {P : Program} {w : World} {K : PySem.W.Frag} {mg : Str → Option Value} {base : Heap} {CX : CXT} {k : Nat} {f : Addr} {fd : FuncData} {ps : List Str} {sp sp' : Sp} (F : FnOk P w K mg base CX k f fd ps sp) (h : ∀ vs H Q E, sp' vs H Q E → sp vs H Q E) : FnOk P w K mg base CX k f fd ps sp' :=
  ⟨fun vs H Q E g => F.len vs H Q E (h _ _ _ _ g), fun A outer s H args us vs Q E hr e b v g => F.run A outer s H args us vs Q E hr e b v (h _ _ _ _ g)⟩
/-- registered trees, each of a term that fits -/
structure Regs (C : Addr) (Reg : Addr → U.Tm → Prop) (H : Hp) : Prop extends Trees C Reg H where
  fit : ∀ p t, Reg p t → ∃ N, Fit t N
/-- names: a dict among these -/
def EnvA (G : Addr → Prop) (H : Hp) (e : U.En) (v : V) : Prop := ∃ a kvs, v = .ref a ∧ G a ∧ H a = some (.dK kvs) ∧ PairK (fun v (k : U.Nm) => v = .str (tx k)) kvs e
theorem EnvA.v {G : Addr → Prop} {H : Hp} {e : U.En} {v : V} (h : EnvA G H e v) : EnvV H e v := by
  obtain ⟨a, kvs, e1, _, e2, e3⟩ := h
  exact ⟨a, kvs, e1, e2, e3⟩
def MadeV (Reg : Addr → U.Tm → Prop) (G : Addr → Prop) (H : Hp) (kvs : List (Key × V)) (kn : U.Nm) (made : List (U.Tm × U.En)) : Prop := ∀ i te, made[i]? = some te → ∃ q pt ev, valV kvs (.inr (tx (U.madeNm kn (i + 1)))) = some (.ref q) ∧ H q = some (.tup [.ref pt, ev]) ∧ Reg pt te.1 ∧ EnvA G H te.2 ev
def BodV (Reg : Addr → U.Tm → Prop) (kvb : List (Key × V)) : Prop := ∀ z v, valV kvb (.inr z) = some v → ∃ pt t, v = .ref pt ∧ z = tx t.pr ∧ Reg pt t
/-- a walk's fixed fields -/
structure WF where
  place : V
  head : V
  need : V
  steps : V
  en : V
structure Mach (C CW : Addr) (kn : U.Nm) (p aS aB : Addr) (f : WF) (Reg : Addr → U.Tm → Prop) (G : Addr → Prop) (H : Hp) (made : List (U.Tm × U.En)) (M : Nat) : Prop where
  tr : Regs C Reg H
  wk : ∃ dx fs, H p = some (.ins CW dx fs) ∧ WalkF fs (.str (tx kn)) (.ref aS) f.place f.head f.need f.steps (.int made.length) f.en ∧ fs.lookup ("make" : Str) = none ∧ fs.lookup ("take" : Str) = none
  se : ∃ kvs, H aS = some (.dK kvs) ∧ MadeV Reg G H kvs kn made ∧ kvs.length + M ≤ 100000
  bo : ∃ kvb, H aB = some (.dK kvb) ∧ BodV Reg kvb ∧ kvb.length + M ≤ 100000
  ne : aS ≠ aB
  kl : kn.length ≤ 9000
  ml : made.length + M ≤ 100000
  cw : CW ≠ C
  gS : ¬ G aS
  gB : ¬ G aB
  gh : ∀ a, G a → ∃ kvs, H a = some (.dK kvs)
/-- all but trees, the walk, the senses, the bodies stays -/
def Chg (C p aS aB : Addr) (H H' : Hp) : Prop := ∀ a o, H a = some o → a ≠ p → a ≠ aS → a ≠ aB → (∀ dx fs, o ≠ .ins C dx fs) → H' a = some o
theorem Chg.trans {C p aS aB : Addr} {H H1 H2 : Hp} (a : Chg C p aS aB H H1) (b : Chg C p aS aB H1 H2) : Chg C p aS aB H H2 := fun x o e n1 n2 n3 m => b x o (a x o e n1 n2 n3 m) n1 n2 n3 m
theorem Chg.of_same {C p aS aB : Addr} {H H1 : Hp} (s : Same H H1) : Chg C p aS aB H H1 := fun x o e _ _ _ _ => s x o e
section
variable {C CW : Addr} {kn : U.Nm} {p aS aB : Addr} {f : WF} {Reg Reg' : Addr → U.Tm → Prop} {G : Addr → Prop} {H H' : Hp} {made : List (U.Tm × U.En)} {M : Nat}
theorem Mach.nS (h : Mach C CW kn p aS aB f Reg G H made M) : aS ≠ p := by
  obtain ⟨dx, fs, e, _⟩ := h.wk
  obtain ⟨kvs, e2, _⟩ := h.se
  exact ne_of e2 e (by intro z; cases z)
theorem Mach.nB (h : Mach C CW kn p aS aB f Reg G H made M) : aB ≠ p := by
  obtain ⟨dx, fs, e, _⟩ := h.wk
  obtain ⟨kvs, e2, _⟩ := h.bo
  exact ne_of e2 e (by intro z; cases z)
theorem Mach.tup (h : Mach C CW kn p aS aB f Reg G H made M) (c : Chg C p aS aB H H') : TupS H H' := fun a l e => by
  obtain ⟨dx, fs, e1, _⟩ := h.wk
  obtain ⟨kvs, e2, _⟩ := h.se
  obtain ⟨kvb, e3, _⟩ := h.bo
  exact c a _ e (ne_of e e1 (by intro z; cases z)) (ne_of e e2 (by intro z; cases z)) (ne_of e e3 (by intro z; cases z)) (by intro _ _ z; cases z)
theorem Mach.env (h : Mach C CW kn p aS aB f Reg G H made M) (c : Chg C p aS aB H H') {e : U.En} {v : V} (g : EnvA G H e v) : EnvA G H' e v := by
  obtain ⟨dx, fs, e1, _⟩ := h.wk
  obtain ⟨a, kvs, rfl, ga, e2, pk⟩ := g
  exact ⟨a, kvs, rfl, ga, c a _ e2 (ne_of e2 e1 (by intro z; cases z)) (fun z => h.gS (z ▸ ga)) (fun z => h.gB (z ▸ ga)) (by intro _ _ z; cases z), pk⟩
theorem Mach.gk (h : Mach C CW kn p aS aB f Reg G H made M) (c : Chg C p aS aB H H') : ∀ a, G a → ∃ kvs, H' a = some (.dK kvs) := fun a ga => by
  obtain ⟨dx, fs, e1, _⟩ := h.wk
  obtain ⟨kvs, e2⟩ := h.gh a ga
  exact ⟨kvs, c a _ e2 (ne_of e2 e1 (by intro z; cases z)) (fun z => h.gS (z ▸ ga)) (fun z => h.gB (z ▸ ga)) (by intro _ _ z; cases z)⟩
theorem MadeV.keep {kvs : List (Key × V)} (g : MadeV Reg G H kvs kn made) (k : TupS H H') (hr : ∀ p t, Reg p t → Reg' p t) (he : ∀ e v, EnvA G H e v → EnvA G H' e v) : MadeV Reg' G H' kvs kn made := fun i te ht => by
  obtain ⟨q, pt, ev, h1, h2, h3, h4⟩ := g i te ht
  exact ⟨q, pt, ev, h1, k _ _ h2, hr _ _ h3, he _ _ h4⟩
theorem BodV.mono {kvb : List (Key × V)} (g : BodV Reg kvb) (hr : ∀ p t, Reg p t → Reg' p t) : BodV Reg' kvb := fun z v h => by
  obtain ⟨pt, t, h1, h2, h3⟩ := g z v h
  exact ⟨pt, t, h1, h2, hr _ _ h3⟩
theorem Regs.not {a : Addr} {o : HO} (h : Regs C Reg H) (e : H a = some o) (n : ∀ dx fs, o ≠ .ins C dx fs) : ∀ t, ¬ Reg a t := fun t r => by
  obtain ⟨dx, tw, tf, cd, qs, ys, g⟩ := h.node a t r
  have e2 := g.hp
  rw [e] at e2
  injection e2 with e2
  exact n _ _ e2
theorem Mach.np (h : Mach C CW kn p aS aB f Reg G H made M) : ∀ t, ¬ Reg p t := by
  obtain ⟨dx, fs, e1, _⟩ := h.wk
  exact h.tr.not e1 (by intro _ _ z; injection z with z; exact h.cw z)
/-- new objects change nothing -/
theorem Mach.same (h : Mach C CW kn p aS aB f Reg G H made M) (s : Same H H') : Mach C CW kn p aS aB f Reg G H' made M := by
  have he : ∀ e v, EnvA G H e v → EnvA G H' e v := fun e v g => h.env (Chg.of_same s) g
  obtain ⟨dx, fs, e1, w⟩ := h.wk
  obtain ⟨kvs, e2, m, l⟩ := h.se
  obtain ⟨kvb, e3, b⟩ := h.bo
  exact ⟨⟨h.tr.toTrees.same s, h.tr.fit⟩, ⟨dx, fs, s _ _ e1, w⟩, ⟨kvs, s _ _ e2, m.keep (TupS.of s) (fun _ _ h => h) he, l⟩, ⟨kvb, s _ _ e3, b⟩, h.ne, h.kl, h.ml, h.cw, h.gS, h.gB, h.gk (Chg.of_same s)⟩
theorem Mach.less (h : Mach C CW kn p aS aB f Reg G H made M) {M' : Nat} (l : M' ≤ M) : Mach C CW kn p aS aB f Reg G H made M' := by
  obtain ⟨kvs, e2, m, l2⟩ := h.se
  obtain ⟨kvb, e3, b, l3⟩ := h.bo
  exact ⟨h.tr, h.wk, ⟨kvs, e2, m, by omega⟩, ⟨kvb, e3, b, by omega⟩, h.ne, h.kl, (by have := h.ml; omega), h.cw, h.gS, h.gB, h.gh⟩
/-- trees change their codes, and no more -/
theorem Mach.butT (h : Mach C CW kn p aS aB f Reg G H made M) (b : ButT Reg H H') (t : Trees C Reg H') : Mach C CW kn p aS aB f Reg G H' made M ∧ Chg C p aS aB H H' := by
  have c : Chg C p aS aB H H' := fun a o e _ _ _ n => b a o e (h.tr.not e n)
  have he : ∀ e v, EnvA G H e v → EnvA G H' e v := fun e v g => h.env c g
  have k := h.tup c
  obtain ⟨dx, fs, e1, w⟩ := h.wk
  obtain ⟨kvs, e2, m, l⟩ := h.se
  obtain ⟨kvb, e3, bb⟩ := h.bo
  exact ⟨⟨⟨t, h.tr.fit⟩, ⟨dx, fs, b _ _ e1 h.np, w⟩, ⟨kvs, b _ _ e2 (h.tr.not e2 (by intro _ _ z; cases z)), m.keep k (fun _ _ h => h) he, l⟩, ⟨kvb, b _ _ e3 (h.tr.not e3 (by intro _ _ z; cases z)), bb⟩, h.ne, h.kl, h.ml, h.cw, h.gS, h.gB, h.gk c⟩, c⟩
/-- new trees are registered -/
def RegX (C : Addr) (Reg : Addr → U.Tm → Prop) (H : Hp) : Addr → U.Tm → Prop := fun a t => Reg a t ∨ RegOf C H a t ∧ ∃ N, Fit t N
theorem regs_fit {qs : List Addr} {ks : List U.Tm} (h : Paired (RegOf C H) qs ks) (g : ∀ k ∈ ks, ∃ N, Fit k N) : Paired (RegX C Reg H) qs ks := by
  induction h with
  | nil => exact .nil
  | cons a _ ih => exact .cons (.inr ⟨a, g _ List.mem_cons_self⟩) (ih fun k hk => g k (List.mem_cons_of_mem _ hk))
theorem Regs.ext (h : Regs C Reg H) : Regs C (RegX C Reg H) H := by
  have tx_text : ∀ {p dx tw tf tw' tf' dx' : Addr} {cd cd' : V} {t t' : U.Tm}, H p = some (.ins C dx (treeF (.str (tx t.pr)) (.str (tx t.kind)) (smV t.small) (.ref tw) (.ref tf) cd)) → H p = some (.ins C dx' (treeF (.str (tx t'.pr)) (.str (tx t'.kind)) (smV t'.small) (.ref tw') (.ref tf') cd')) → t.pr = t'.pr := by
    intro p dx tw tf tw' tf' dx' cd cd' t t' h1 h2
    rw [h1] at h2
    injection h2 with e
    injection e with _ _ e
    have e1 := tF_text (.str (tx t.pr)) (.str (tx t.kind)) (smV t.small) (.ref tw) (.ref tf) cd
    rw [e, tF_text] at e1
    injection e1 with e1
    injection e1 with e1
    exact (tx_inj e1).symm
  have T0 := trees_of C H
  refine ⟨⟨fun p t t' r r' => ?_, fun p t r => ?_⟩, fun p t r => r.elim (h.fit p t) fun g => g.2⟩
  · have tell : ∀ t, RegX C Reg H p t → t.Ok ∧ ∃ dx tw tf cd, H p = some (.ins C dx (treeF (.str (tx t.pr)) (.str (tx t.kind)) (smV t.small) (.ref tw) (.ref tf) cd)) := fun t r => by
      rcases r with r | ⟨r, _⟩
      · obtain ⟨dx, tw, tf, cd, qs, ys, g⟩ := h.node p t r
        exact ⟨g.ok, _, _, _, _, g.hp⟩
      · obtain ⟨dx, tw, tf, cd, qs, ys, g⟩ := T0.node p t r
        exact ⟨g.ok, _, _, _, _, g.hp⟩
    obtain ⟨o, _, _, _, _, e⟩ := tell t r
    obtain ⟨o', _, _, _, _, e'⟩ := tell t' r'
    exact pr_inj o o' (tx_text e e')
  · rcases r with r | ⟨r, ft⟩
    · obtain ⟨dx, tw, tf, cd, qs, ys, g⟩ := h.node p t r
      exact ⟨dx, tw, tf, cd, qs, ys, g.hp, g.hw, g.hf, g.fr, Paired.mapP g.kids fun _ _ h => .inl h, g.code.imp id fun c => c.keep (TupS.of (Same.refl H)) fun _ _ h => .inl h, g.ok⟩
    · obtain ⟨qs, ys, ⟨dx, tw, tf, cd, h1, h2, h3, h4, h5⟩, c⟩ := r.1.node
      exact ⟨dx, tw, tf, cd, qs, ys, h1, h2, h3, h4, regs_fit (regs_kids c (ok_kids r.2)) (fun k hk => fit_kid hk ft), .inl h5, r.2⟩
theorem Mach.ext (h : Mach C CW kn p aS aB f Reg G H made M) : Mach C CW kn p aS aB f (RegX C Reg H) G H made M := by
  obtain ⟨kvs, e2, m, l2⟩ := h.se
  obtain ⟨kvb, e3, b, l3⟩ := h.bo
  exact ⟨h.tr.ext, h.wk, ⟨kvs, e2, m.keep (TupS.of (Same.refl H)) (fun _ _ h => .inl h) (fun _ _ h => h), l2⟩, ⟨kvb, e3, b.mono fun _ _ h => .inl h, l3⟩, h.ne, h.kl, h.ml, h.cw, h.gS, h.gB, h.gh⟩
end
section
variable {C CW : Addr} {kn : U.Nm} {p aS aB : Addr} {f : WF} {Reg : Addr → U.Tm → Prop} {G G' : Addr → Prop} {H H' : Hp} {made : List (U.Tm × U.En)} {M : Nat}
/-- a body is put -/
theorem Mach.body (h : Mach C CW kn p aS aB f Reg G H made (M + 1)) {kvb : List (Key × V)} {q : Addr} {x : U.Tm} (hb : H aB = some (.dK kvb)) (rx : Reg q x) : Mach C CW kn p aS aB f Reg G (upd H aB (.dK (putK kvb (.inr (tx x.pr)) (.ref q)))) made M ∧ Chg C p aS aB H (upd H aB (.dK (putK kvb (.inr (tx x.pr)) (.ref q)))) := by
  have c : Chg C p aS aB H (upd H aB (.dK (putK kvb (.inr (tx x.pr)) (.ref q)))) := fun a o e _ _ n _ => by
    rw [upd_ne n]
    exact e
  have k := h.tup c
  obtain ⟨dx, fs, e1, w⟩ := h.wk
  obtain ⟨kvs, e2, m, l⟩ := h.se
  obtain ⟨kvb', e3, b, l3⟩ := h.bo
  rw [hb] at e3
  cases e3
  have nR : ∀ a t, Reg a t → a ≠ aB := fun a t g z => h.tr.not hb (by intro _ _ z; cases z) t (z ▸ g)
  refine ⟨⟨⟨⟨h.tr.uniq, fun a t g => ?_⟩, h.tr.fit⟩, ⟨dx, fs, by rw [upd_ne (Ne.symm h.nB)]; exact e1, w⟩, ⟨kvs, by rw [upd_ne h.ne]; exact e2, m.keep k (fun _ _ h => h) fun e v g => h.env c g, by omega⟩, ⟨_, upd_same, fun z v hv => ?_, ?_⟩, h.ne, h.kl, (by have := h.ml; omega), h.cw, h.gS, h.gB, h.gk c⟩, c⟩
  · obtain ⟨dx, tw, tf, cd, qs, ys, R⟩ := h.tr.node a t g
    exact ⟨dx, tw, tf, cd, qs, ys, by rw [upd_ne (nR _ _ g)]; exact R.hp, k _ _ R.hw, k _ _ R.hf, R.fr, R.kids, R.code.imp id fun c => c.keep k fun _ _ h => h, R.ok⟩
  · rw [valV_put] at hv
    split at hv
    · rename_i e
      exact ⟨q, x, (Option.some.inj hv).symm, Sum.inr.inj e, rx⟩
    · exact b z v hv
  · have := length_putK kvb (.inr (tx x.pr)) (.ref q)
    omega
theorem EnvA.more (h : ∀ a, G a → G' a) {e : U.En} {v : V} (g : EnvA G H e v) : EnvA G' H e v := by
  obtain ⟨a, kvs, e1, ga, e2, e3⟩ := g
  exact ⟨a, kvs, e1, h a ga, e2, e3⟩
/-- objects that no part of it stands on are changed; more dicts are names -/
theorem Mach.off (h : Mach C CW kn p aS aB f Reg G H made M) (G' : Addr → Prop) (hG : ∀ a, G a → G' a) (nS : ¬ G' aS) (nB : ¬ G' aB) (gh : ∀ a, G' a → ∃ kvs, H' a = some (.dK kvs)) (keep : ∀ a o, H a = some o → (G a ∨ (∀ kvs, o ≠ .dK kvs) ∨ a = aS ∨ a = aB) → H' a = some o) : Mach C CW kn p aS aB f Reg G' H' made M := by
  obtain ⟨dx, fs, e1, w⟩ := h.wk
  obtain ⟨kvs, e2, m, l⟩ := h.se
  obtain ⟨kvb, e3, b, l3⟩ := h.bo
  have k : TupS H H' := fun a l e => keep a _ e (.inr (.inl (by intro _ z; cases z)))
  have he : ∀ e v, EnvA G H e v → EnvA G' H' e v := fun e v ⟨a, kvs, e1, ga, e2, e3⟩ => ⟨a, kvs, e1, hG a ga, keep a _ e2 (.inl ga), e3⟩
  refine ⟨⟨⟨h.tr.uniq, fun a t g => ?_⟩, h.tr.fit⟩, ⟨dx, fs, keep _ _ e1 (.inr (.inl (by intro _ z; cases z))), w⟩, ⟨kvs, keep _ _ e2 (.inr (.inr (.inl rfl))), fun i te hi => ?_, l⟩, ⟨kvb, keep _ _ e3 (.inr (.inr (.inr rfl))), b, l3⟩, h.ne, h.kl, h.ml, h.cw, nS, nB, gh⟩
  · obtain ⟨dx, tw, tf, cd, qs, ys, R⟩ := h.tr.node a t g
    exact ⟨dx, tw, tf, cd, qs, ys, keep _ _ R.hp (.inr (.inl (by intro _ z; cases z))), k _ _ R.hw, k _ _ R.hf, R.fr, R.kids, R.code.imp id fun c => c.keep k fun _ _ h => h, R.ok⟩
  · obtain ⟨q, pt, ev, h1, h2, h3, h4⟩ := m i te hi
    exact ⟨q, pt, ev, h1, k _ _ h2, h3, he _ _ h4⟩
end
/-- the names of made knots are unlike -/
theorem made_inj {kn : U.Nm} {a b : Nat} (h : U.madeNm kn a = U.madeNm kn b) : a = b := by
  unfold U.madeNm at h
  have h2 := (List.cons.inj (List.append_cancel_left h)).2
  have e : ∀ n : Nat, (PySem.Str.ofString (toString (n : Int))).cps.toList = (Nat.toDigits 10 n).map Char.toNat := fun n => by
    show (PySem.Str.ofString (Nat.repr n)).cps.toList = _
    rw [PySem.Str.ofString_eq_toList, tx_cps, Nat.toList_repr]
  rw [e, e] at h2
  have := congrArg PySem.NumText.digitsVal h2
  rw [PySem.W.KIN.val_back, PySem.W.KIN.val_back] at this
  exact this
theorem made_ne {kn : U.Nm} {a : Nat} : U.madeNm kn a ≠ kn := fun h => by
  have := congrArg List.length h
  unfold U.madeNm at this
  simp at this
end K

set_option Elab.async false
set_option linter.all false
set_option maxRecDepth 100000
set_option maxHeartbeats 4000000
/-! {**d, k: v}: a copy of a dict, with one more -/
namespace U
open PySem PySem.Spec PyProof.Rows L2
section
variable {prog : Program} {w : World} {A : Around} {E : Value → Shared → Prop} {s : Shared} {K : Type} [DecidableEq K] {knd : KeyKind prog w K}
theorem put_pairs {d : Addr} {kvs : List (K × Value)} {k : K} {key v : Value} {Q : Unit → Shared → Prop} (hkey : knd.is k key = true) (hm : s.heap.DictOf knd d kvs)
    (hQ : ∀ h', h'.DictOf knd d (stored kvs k v) → Heap.SameBut d s.heap h' → Q () { s with heap := h' }) (hsz : kvs.length ≤ sizeLine) : wpAny (model prog w) A (dictPut d (knd.hash k) key v) Q E s := by
  obtain ⟨o, es, ep, g1, g2, g3, g4, g5, g6⟩ := hm
  have lz : es.size ≤ sizeLine := by
    have l1 := g5.length
    rw [Array.length_toList] at l1
    omega
  unfold dictPut
  refine wpAny_bind (wpAny_dictFind_of hkey g1 g3 g4 ?_)
  have ix : (es.findIdx? fun e => knd.is k e.key) = kvs.findIdx? fun kv => decide (kv.1 = k) := by
    rw [← g5.findIdx k]
    obtain ⟨l⟩ := es
    simp
  cases q : es.findIdx? fun e => knd.is k e.key with
  | some i =>
    have st : stored kvs k v = kvs.map fun kv => if kv.1 = k then (kv.1, v) else kv := by
      rw [stored, if_pos (any_of_findIdx_some (ix ▸ q))]
    have lq : (es.toList.findIdx? fun e => knd.is k e.key) = some i := by
      rw [← q]
      obtain ⟨l⟩ := es
      simp
    have mo := g5.modify g6 lq v
    refine wpAny_updateDict g1 g3 (hQ _ ⟨_, _, ep, Heap.get?_update_self _ g1 (Obj.isFreed_of_dict (Obj.data_mapDict g3 _)), g2.mapDict _, Obj.data_mapDict g3 _, g4.modify _ _, ?_, ?_⟩ (Heap.SameBut.update ..))
    · rw [stored, if_pos (any_of_findIdx_some (ix ▸ q))]
      obtain ⟨l⟩ := es
      simpa using mo
    · rw [stored, if_pos (any_of_findIdx_some (ix ▸ q)), keys_map_store]
      exact g6
  | none =>
    have nm : k ∉ kvs.map (·.1) := not_mem_of_findIdx_none (ix ▸ q)
    have na : ¬ (kvs.any fun kv => decide (kv.1 = k)) = true := fun z => by
      obtain ⟨kv, m1, m2⟩ := List.any_eq_true.mp z
      exact nm (List.mem_map.mpr ⟨kv, m1, of_decide_eq_true m2⟩)
    have ap := g5.append hkey (knd.hash k) v
    refine wpAny_updateDictKeys (hz := lz) g1 g3 (hQ _ ⟨_, _, ep + 1, Heap.get?_update_self _ g1 (Obj.isFreed_of_dict (Obj.data_mapDictKeys g3 _)), g2.mapDictKeys _, Obj.data_mapDictKeys g3 _, g4.push hkey _, ?_, ?_⟩ (Heap.SameBut.update ..))
    · rw [stored, if_neg na]
      obtain ⟨l⟩ := es
      simpa using ap
    · rw [stored, if_neg na, List.map_append, List.nodup_append]
      refine ⟨g6, by simp, fun a ha b hb e => ?_⟩
      rw [List.map_cons, List.map_nil, List.mem_singleton] at hb
      have hb2 : b = k := hb
      exact nm (hb2 ▸ e ▸ ha)
theorem merge_into {d o : Addr} {kvs more : List (K × Value)} {Q : Unit → Shared → Prop} (ne : d ≠ o) (lo : (o == sysModules) = false) (hd : s.heap.DictOf knd d kvs) (ho : s.heap.DictOf knd o more) (hz : kvs.length + more.length ≤ sizeLine)
    (byval : ∀ es ep oo, s.heap.get? o = some oo → oo.data = .dict es ep → ∀ e ∈ es.toList, ∀ a, e.key ≠ .ref a)
    (hQ : ∀ h', h'.DictOf knd d (merged kvs more) → Heap.SameBut d s.heap h' → Q () { s with heap := h' }) : wpAny (model prog w) A (mergeMapping d (.ref o) false) Q E s := by
  obtain ⟨od, esd, epd, d1, d2, d3, d4, d5, d6⟩ := id hd
  obtain ⟨oo, eso, epo, o1, o2, o3, o4, o5, o6⟩ := id ho
  have ln : more.length = eso.size := by rw [← o5.length, Array.length_toList]
  unfold mergeMapping
  refine wpAny_bind (wpAny_isInstance ho.typeIs PySem.F.sub_dict_dict ?_)
  rw [if_pos rfl]
  refine wpAny_bind (wpAny_specialOf ho.typeIs PySem.F.slot_dict_iter.lookup (wpAny_bind (wpAny_pure ?_)))
  have eq1 : (some (Value.builtin "dict.__iter__") == some (Value.builtin "dict.__iter__")) = true := by simp
  rw [eq1]
  have turn : ∀ (s1 : Shared) (h1 : Heap), s1 = { s with heap := h1 } → h1 = s.heap → wpAny (model prog w) A (do
      let epoch ← dictEpoch o
      forIn (List.range eso.size) PUnit.unit fun i (_ : PUnit) => (do
        let es ← dictEntries o
        match es[i]? with
        | some e => do
          holding [e.key, e.val] (dictPut d e.hash e.key e.val)
          let ep ← dictEpoch o
          if (ep != epoch) = true then do
            (unsupported "dict.changed-during-merge" : Sem PUnit)
            pure (ForInStep.yield PUnit.unit)
          else pure (ForInStep.yield PUnit.unit)
        | _ => do
          (unsupported "dict.changed-during-merge" : Sem PUnit)
          pure (ForInStep.yield PUnit.unit) : Sem (ForInStep PUnit))
      pure ()) Q E s1 := by
    rintro s1 h1 rfl rfl
    refine wpAny_bind (wpAny_dictEpoch o1 o3 (wpAny_bind ?_))
    rw [List.range_eq_range']
    refine wpAny_forIn_list _ (fun rest _ s' => ∃ h' i, s' = { s with heap := h' } ∧ rest = List.range' i (eso.size - i) ∧ i ≤ eso.size ∧ h'.DictOf knd d (merged kvs (more.take i)) ∧ h'.get? o = some oo ∧ Heap.SameBut d s.heap h') _ ?_ ?_ _ _ ⟨s.heap, 0, rfl, by simp, Nat.zero_le _, by simpa [merged] using hd, o1, Heap.SameBut.refl _ _⟩
    · rintro x rest b s' ⟨h', i, rfl, hr, hi, hd', hoo', hs'⟩
      have lt : i < eso.size := by
        rcases Nat.lt_or_ge i eso.size with h | h
        · exact h
        · rw [Nat.sub_eq_zero_of_le h] at hr
          cases hr
      have e0 : eso.size - i = (eso.size - (i + 1)) + 1 := by omega
      rw [e0, List.range'_succ] at hr
      injection hr with hx hrest
      subst hx
      refine wpAny_bind (wpAny_dictEntries hoo' o3 ?_)
      rw [Array.getElem?_eq_getElem lt]
      have lm : x < more.length := by omega
      have hm1 : more[x]? = some more[x] := List.getElem?_eq_getElem lm
      obtain ⟨hk1, hv1⟩ := o5.get? (e := eso[x]) (by simp [lt]) hm1
      obtain ⟨k', hk2, hh⟩ := o4 eso[x] (Array.getElem_mem lt)
      have ek : k' = more[x].1 := knd.inj _ _ _ hk2 hk1
      dsimp only
      rw [hh, ek, hv1]
      have lz : (merged kvs (more.take x)).length ≤ sizeLine := by
        have e1 := merged_length_le kvs (more.take x)
        rw [List.length_take] at e1
        omega
      refine wpAny_bind (wpAny_holding (put_pairs hk1 hd' (fun h'' hd'' hs'' => ?_) lz))
      have ho2 : h''.get? o = some oo := (hs''.2 o (Ne.symm ne)).trans hoo'
      refine wpAny_bind (wpAny_dictEpoch ho2 o3 ?_)
      rw [if_neg (by simp)]
      exact wpAny_pure ⟨h'', x + 1, rfl, hrest, lt, by rw [merged_take_succ kvs more x more[x] hm1]; exact hd'', ho2, hs'.trans hs''⟩
    · rintro b s' ⟨h', i, rfl, hr, hi, hd', hoo', hs'⟩
      have ei : i = eso.size := by
        rcases Nat.lt_or_ge i eso.size with h | h
        · rw [show eso.size - i = (eso.size - (i + 1)) + 1 by omega, List.range'_succ] at hr
          cases hr
        · exact Nat.le_antisymm hi h
      rw [ei, ← ln, List.take_length] at hd'
      exact wpAny_pure (hQ h' hd' hs')
  show wpAny (model prog w) A (ite ((o == sysModules) = true) _ _) Q E s
  rw [if_neg (by rw [lo]; decide)]
  refine wpAny_bind (wpAny_dictEntries d1 d3 ?_)
  show wpAny (model prog w) A (ite (esd.isEmpty = true) _ _) Q E s
  split
  · refine wpAny_bind (wpAny_dictEntries o1 o3 ?_)
    refine wpAny_bind ?_
    rw [← Array.forIn_toList]
    refine wpAny_forIn_list _ (fun rest _ s' => s' = s ∧ ∀ e ∈ rest, e ∈ eso.toList) _ ?_ ?_ _ _ ⟨rfl, fun e h => h⟩
    · rintro x rest b s' ⟨rfl, hm⟩
      have nk := byval _ _ _ o1 o3 x (hm x List.mem_cons_self)
      split
      · rename_i a q
        exact absurd q (nk a)
      · exact wpAny_pure ⟨rfl, fun e h => hm e (List.mem_cons_of_mem _ h)⟩
    · rintro b s' ⟨rfl, _⟩
      exact wpAny_bind (wpAny_dictEntries o1 o3 (turn _ _ rfl rfl))
  · exact wpAny_bind (wpAny_dictEntries o1 o3 (turn _ _ rfl rfl))
end
theorem no_ref {prog : Program} {w : World} {h : Heap} {a : Addr} {vs1 : List (Key × Value)} (dd1 : Heap.DictOf (mixKind prog w) h a vs1) : ∀ es ep oo, h.get? a = some oo → oo.data = .dict es ep → ∀ e ∈ es.toList, ∀ b, e.key ≠ .ref b := by
  intro es ep' oo g1 g2 e he a' q'
  obtain ⟨o', es', ep2, h1, _, h3, h4, _⟩ := dd1
  rw [g1] at h1
  cases h1
  rw [g2] at h3
  injection h3 with h3
  subst h3
  obtain ⟨k', hk', _⟩ := h4 e (by simpa using he)
  rw [q'] at hk'
  rcases keyIs_shape hk' with ⟨i, t, _, e1⟩ | ⟨x, t, _, e1⟩ <;> cases e1
/-- {**d, k: v}: the new dict at p, a further one for k at q -/
def tDStar (td tk tv : TE) : TE := fun σ H Q => ∀ p, H p = none → td σ (upd H p (.dK [])) fun x H1 => ∃ (a : Addr) (kvs : List (Key × V)), x = .ref a ∧ H1 a = some (.dK kvs) ∧ a ≠ p ∧ H1 p = some (.dK []) ∧ kvs.length ≤ 1000000 ∧
  ∀ q, (upd H1 p (.dK (mergeK [] kvs))) q = none → tk σ (upd (upd H1 p (.dK (mergeK [] kvs))) q (.dK [])) fun y H3 => tv σ H3 fun z H4 => ∃ (kk : Key) (kvp : List (Key × V)), y = kV kk ∧ H4 q = some (.dK []) ∧ H4 p = some (.dK kvp) ∧ q ≠ p ∧ kvp.length ≤ 1000000 ∧
    Q (.ref p) (upd (upd H4 q (.dK [(kk, z)])) p (.dK (mergeK kvp [(kk, z)])))
section
variable {X : Cx} {d k v : Expr} {td tk tv : TE} {pos : Pos}
theorem pe_dstar (hd : PE X d td) (hk : PE X k tk) (hv : PE X v tv) : PE X (.Dict [none, some k] [d, v] pos) (tDStar td tk tv) := by
  refine ⟨fun pins s σ H Q I h => ?_⟩
  have he : eval (.Dict [none, some k] [d, v] pos) X.env = (do
      standAt pos
      dictDisplay [(none, do let x ← eval d X.env; standAt pos; pure x), (some (eval k X.env), do let x ← eval v X.env; standAt pos; pure x)]) := by
    rw [arm_eval_Dict]
    rfl
  rw [he]
  refine wpAny_bind (wpAny_standAt ?_)
  unfold dictDisplay
  simp only [List.forIn_cons, List.forIn_nil]
  refine wpAny_bind (wpAny_bind (wpAny_bind (wpAny_pure ?_)))
  have hn := I.hok.fresh (Nat.le_refl s.heap.objs.size)
  have I1 := I.laid (a := s.heap.objs.size) (o := .dK []) (h' := s.heap.push { cls := .type "dict", data := .dict #[] }) (t' := s.toks) (fun _ _ q => Heap.get?_push_of_some _ q) (Nat.le_refl _) (dk_empty s.heap I.big)
  refine wpAny_bind (wpAny_alloc ?_)
  refine wpAny_bind (wpAny_holding (wpAny_bind (thn (hd.run pins _ σ _ _ I1 (h _ hn)) fun u s1 ⟨x, H1, I2, rx, a, kvs, ex, ea, nap, ep, lk, q⟩ => wpAny_bind (wpAny_standAt (wpAny_pure ?_)))))
  subst ex
  obtain rfl : u = Value.ref a := rx
  obtain ⟨z1, lo1, vs1, r1, dd1⟩ := dk_of I2.hok ea
  obtain ⟨z2, lo2, vs2, r2, dd2⟩ := dk_of I2.hok ep
  cases r2
  refine wpAny_bind (wpAny_onRaise (wpAny_tryCatch (wpAny_onRaise (wpAny_holding (merge_into (knd := mixKind X.prog X.w) (Ne.symm nap) lo1 dd2 dd1 ?_ ?_ fun h' dd' hs' => ?_)))))
  · rw [List.length_nil, Nat.zero_add, ← r1.length]
    rw [sizeLine_eq]
    omega
  · exact no_ref dd1
  have lm : (mergeK [] kvs).length ≤ sizeLine := by
    have h1 := length_mergeK kvs []
    rw [List.length_nil] at h1
    rw [sizeLine_eq]
    omega
  have I3 := d_write (t' := s1.toks) I2 (by rw [ep]; exact True.intro) hs' (let ⟨q, _, _, hq, _⟩ := dd'; ⟨q, hq⟩) (dk_new (H' := upd H1 s.heap.objs.size (.dK (mergeK [] kvs))) lm lo2 (r1.merge .nil) dd')
  refine wpAny_pure (wpAny_pure ?_)
  refine wpAny_bind ?_
  show wpAny _ _ (ite (_ = true) _ _) _ _ _
  rw [if_neg (by simp)]
  have hq := I3.hok.fresh (Nat.le_refl h'.objs.size)
  have I4 := I3.laid (a := h'.objs.size) (o := .dK []) (h' := h'.push { cls := .type "dict", data := .dict #[] }) (t' := s1.toks) (fun _ _ q => Heap.get?_push_of_some _ q) (Nat.le_refl _) (dk_empty h' I3.big)
  refine wpAny_bind (wpAny_holding (wpAny_subDict (knd := mixKind X.prog X.w) (by simp) ?_))
  refine wpAny_bind (thn (hk.run pins _ σ _ _ I4 (q _ hq)) fun u1 s4 ⟨y, H4, I5, ry, q5⟩ => ?_)
  refine wpAny_bind (wpAny_holding (wpAny_bind (thn (hv.run pins _ σ _ _ I5 q5) fun u2 s5 ⟨z, H5, I6, rz, kk, kvp, ey, eq0, ep0, nqp, lp, q6⟩ => wpAny_bind (wpAny_standAt (wpAny_pure ?_)))))
  refine wpAny_bind (wpAny_holding (wpAny_pure (wpAny_pure ?_)))
  subst ey
  obtain ⟨rs, c1, rk⟩ := carries_of (P := X.prog) (w := X.w) (kvs := [(kk, z)]) (ws := [(u1, u2)]) (.cons ⟨ry, rz⟩ .nil)
  obtain ⟨_, loq, vsq, rq, ddq⟩ := dk_of I6.hok eq0
  cases rq
  refine ⟨rs, c1, ddq, fun h6 dd6 hs6 => ?_⟩
  have I7 := d_write (t' := s5.toks + 1) I6 (by rw [eq0]; exact True.intro) hs6 (let ⟨q, _, _, hq, _⟩ := dd6; ⟨q, hq⟩) (dk_new (H' := upd H5 h'.objs.size (.dK (mergeK [] [(kk, z)]))) (sizeLine_ge (by show 1 ≤ 10000; decide)) loq (rk.merge .nil) dd6)
  have ep7 : upd H5 h'.objs.size (.dK (mergeK [] [(kk, z)])) s.heap.objs.size = some (.dK kvp) := by
    rw [upd_ne (Ne.symm nqp)]
    exact ep0
  obtain ⟨_, lop, vsp, rp, ddp⟩ := dk_of I7.hok ep7
  refine wpAny_bind (wpAny_onRaise (wpAny_holding (merge_into (knd := mixKind X.prog X.w) (Ne.symm nqp) loq ddp dd6 ?_ (no_ref dd6) fun h8 dd8 hs8 => ?_)))
  · rw [← rp.length, ← (rk.merge (kvs := []) .nil).length]
    rw [sizeLine_eq]
    show kvp.length + 1 ≤ 16777216
    omega
  have lm8 : (mergeK kvp [(kk, z)]).length ≤ sizeLine := by
    have h1 := length_mergeK [(kk, z)] kvp
    rw [sizeLine_eq]
    simp at h1
    omega
  have I8 := d_write (t' := s5.toks + 1) I7 (by rw [ep7]; exact True.intro) hs8 (let ⟨q, _, _, hq, _⟩ := dd8; ⟨q, hq⟩) (dk_new (H' := upd (upd H5 h'.objs.size (.dK (mergeK [] [(kk, z)]))) s.heap.objs.size (.dK (mergeK kvp [(kk, z)]))) lm8 lop ((rk.merge .nil).merge rp) dd8)
  exact wpAny_pure (wpAny_pure ⟨.ref s.heap.objs.size, _, I8, rfl, q6⟩)
end
end U

set_option Elab.async false
set_option linter.all false
set_option maxRecDepth 100000
set_option maxHeartbeats 4000000
set_option pp.maxSteps 3000
namespace K
open PySem PySem.Spec PyProof.Rows L2 U
theorem pair_merge {α : Type} {R : V → α → Prop} : ∀ {more : List (Key × V)} {rows2 : List (List Nat × α)} {kvs : List (Key × V)} {rows : List (List Nat × α)}, PairK R kvs rows → PairK R more rows2 → PairK R (mergeK kvs more) (putAll rows rows2)
  | _, _, _, _, h, .nil => h
  | _, _, _, _, h, .cons (a := a) (b := b) r t => by
    have e : a.1 = .inr (tx b.1) := r.1
    show PairK R (mergeK (putK _ a.1 a.2) _) (putAll (putR _ b.1 b.2) _)
    rw [e]
    exact pair_merge (h.put r.2) t
theorem putAll_nod {α : Type} : ∀ {e a : List (List Nat × α)}, NodR (a ++ e) → putAll a e = a ++ e
  | [], a, _ => (List.append_nil a).symm
  | r :: e, a, h => by
    have hn : r.1 ∉ a.map (·.1) := by
      unfold NodR at h
      rw [List.map_append, List.map_cons, List.nodup_append] at h
      intro z
      exact h.2.2 r.1 z r.1 List.mem_cons_self rfl
    have ep : putR a r.1 r.2 = a ++ [r] := by
      unfold putR
      rw [if_neg]
      intro z
      obtain ⟨x, hx, e⟩ := List.any_eq_true.mp z
      exact hn (List.mem_map.mpr ⟨x, hx, of_decide_eq_true e⟩)
    show putAll (putR a r.1 r.2) e = _
    rw [ep, putAll_nod (by rw [List.append_assoc]; exact h), List.append_assoc]
    rfl
theorem merge_self {e : U.En} {kvs : List (Key × V)} {R : V → U.Nm → Prop} (h : PairK R kvs e) (n : NodR e) : PairK R (mergeK [] kvs) e := by
  have := pair_merge (kvs := []) (rows := []) .nil h
  rw [putAll_nod (a := []) n] at this
  exact this
theorem mergeK_len (kvs more : List (Key × V)) : (mergeK kvs more).length ≤ kvs.length + more.length := length_mergeK more kvs
/-- a knot is made -/
def spMakeM (C CW : Addr) : Sp := fun vs H Q _ => ∃ (kn : U.Nm) (p aS aB : Addr) (f : WF) (Reg : Addr → U.Tm → Prop) (G : Addr → Prop) (made : List (U.Tm × U.En)) (M : Nat) (pt : Addr) (t : U.Tm) (e : U.En) (ev : V), vs = [.ref p, .ref pt, ev] ∧ Mach C CW kn p aS aB f Reg G H made (M + 1) ∧ Reg pt t ∧ EnvA G H e ev ∧
  ∀ H', Chg C p aS aB H H' → Mach C CW kn p aS aB f Reg G H' (made ++ [(t, e)]) M → Q (.str (tx (U.madeNm kn (made.length + 1)))) H'
theorem Regs.but {C : Addr} {Reg : Addr → U.Tm → Prop} {H H' : Hp} (h : Regs C Reg H) (k : TupS H H') (r : ∀ a t, Reg a t → ∀ o, H a = some o → H' a = some o) : Regs C Reg H' := ⟨⟨h.uniq, fun p t g => by
  obtain ⟨dx, tw, tf, cd, qs, ys, R⟩ := h.node p t g
  exact ⟨dx, tw, tf, cd, qs, ys, r _ _ g _ R.hp, k _ _ R.hw, k _ _ R.hf, R.fr, R.kids, R.code.imp id fun c => c.keep k fun _ _ h => h, R.ok⟩⟩, h.fit⟩
section
variable {P : Program} {w : World} {K : PySem.W.Frag} {mg : Str → Option Value} {base : Heap} {dW dB dN : Addr} {esW : Array DictEntry} {nW : Nat} (T : Txt K mg w dW dB esW nW) (N : Runs K mg dN)
include T N
theorem ok_make_M {f C CW : Addr} {fd : FuncData} (F : Fun K "make" "Walking.make" s_Walking_make f fd) (WC : WalkC K CW) : FnOk P w K mg base CX0 1 f fd ["self", "tree", "names"] (spMakeM C CW) := by
  refine FnOk.weak (ok_Walking_make T N F WC) fun vs H Q E h => ?_
  obtain ⟨kn, p, aS, aB, f, Reg, G, made, M, pt, t, e, ev, rfl, mc, rt, he, fin⟩ := h
  obtain ⟨dx, fs, hp, wf, m1, m2⟩ := mc.wk
  obtain ⟨kvs, hk, mv, kl⟩ := mc.se
  obtain ⟨kvb, hb, bv, bl⟩ := mc.bo
  have ml := mc.ml
  refine ⟨p, dx, aS, fs, kvs, kn, f.place, f.head, f.need, f.steps, f.en, .ref pt, ev, made.length, rfl, hp, wf, hk, by omega, mc.kl, by omega, fun q H' fs' efs nq keep hp' wf' hq hk' => ?_⟩
  have c : Chg C p aS aB H H' := fun a o e n1 n2 _ _ => keep a o e n1 n2
  have k := mc.tup c
  have nB := mc.nB
  have en : (made ++ [(t, e)]).length = made.length + 1 := by simp
  refine fin H' c ⟨mc.tr.but k fun a t' g o ea => keep a o ea (fun z => mc.np t' (z ▸ g)) (fun z => mc.tr.not hk (by intro _ _ z; cases z) t' (z ▸ g)), ⟨dx, fs', hp', by rw [en]; exact wf', ?_, ?_⟩, ⟨_, hk', fun i te hi => ?_, ?_⟩, ⟨kvb, keep _ _ hb nB (Ne.symm mc.ne), bv, by omega⟩, mc.ne, mc.kl, (by rw [en]; omega), mc.cw, mc.gS, mc.gB, mc.gk c⟩
  · rw [efs, lookup_putF, if_neg (by decide +kernel)]
    exact m1
  · rw [efs, lookup_putF, if_neg (by decide +kernel)]
    exact m2
  · by_cases hl : i < made.length
    · rw [List.getElem?_append_left hl] at hi
      obtain ⟨q', pt', ev', h1, h2, h3, h4⟩ := mv i te hi
      refine ⟨q', pt', ev', ?_, k _ _ h2, h3, mc.env c h4⟩
      rw [valV_put, if_neg fun z => ?_]
      · exact h1
      · have := made_inj (tx_inj (Sum.inr.inj z))
        omega
    · rw [List.getElem?_append_right (by omega)] at hi
      have hi0 : i - made.length = 0 := by
        by_cases h0 : i - made.length = 0
        · exact h0
        · rw [List.getElem?_eq_none (by simp; omega)] at hi
          cases hi
      rw [hi0] at hi
      have ete : te = (t, e) := (Option.some.inj hi).symm
      have ei : i = made.length := by omega
      subst ete
      refine ⟨q, pt, ev, ?_, hq, rt, mc.env c he⟩
      rw [valV_put, ei, if_pos rfl]
  · have := length_putK kvs (.inr (tx (U.madeNm kn (made.length + 1)))) (.ref q)
    omega
end
end K


set_option Elab.async false
set_option linter.all false
set_option maxRecDepth 100000
set_option maxHeartbeats 4000000
/-! walks of number terms alone -/
namespace U
def CdN : Cd → Prop
  | .endd => True
  | .head _ _ nx => CdN nx
  | .iff a b => CdN a ∧ CdN b
  | .left nx => CdN nx
  | .right w nx => (w = .sum ∨ w = .less ∨ w = .times ∨ w = .below) ∧ CdN nx
  | _ => False
def WtN : Wt → Prop
  | .nil => True
  | .num _ r => WtN r
  | .cont _ _ _ => False
structure StN (s : St) : Prop where
  c : CdN s.code
  w : WtN s.wait
theorem coded_N : ∀ (t : Tm), t.Nums → ∀ (m : Nat) (nx : Cd), CdN nx → CdN (coded t m nx)
  | .atom k l, h, m, nx, hn => by
    cases (show k = .num from h)
    exact hn
  | .n1 _ _ _, h, _, _, _ => h.elim
  | .n2 w b x y, ⟨hw, hx, hy⟩, m, nx, hn => by
    rw [coded_n2 hw]
    exact coded_N x hx _ _ (coded_N y hy _ _ ⟨hw, hn⟩)
  | .n3 w b x y z, ⟨hx, hy, hz⟩, m, nx, hn => coded_N x hx _ _ ⟨coded_N y hy _ _ hn, coded_N z hz _ _ hn⟩
/-- what a number term's walk ends with -/
def endOf (kn : Nm) (t : Tm) : Hd := match t.val.1 with
  | some v => .num v
  | none => .fault great kn
/-- the walk of a number term, from its beginning to its end -/
theorem runs_num (fr : Tm → List Nm) (kn : Nm) (known : Nm → Option Hd) (lim : Nat) (t : Tm) (h : t.Nums) (e : En) (hl : t.val.2 ≤ lim) :
    ∃ n s, runM fr kn known lim n { code := coded t 1 .endd, env := e, wait := .nil, head := none, steps := 0, made := [] } = some (.fin s) ∧ s.head = some (endOf kn t) ∧ s.steps = t.val.2 := by
  have l := leads (fr := fr) (kn := kn) (known := known) (lim := lim) t h 1 .endd { code := coded t 1 .endd, env := e, wait := .nil, head := none, steps := 0, made := [] }
  have p := val_pos h
  rcases ev : t.val with ⟨_ | v, n⟩
  · rw [ev] at p hl
    obtain ⟨k, c, w, g, hc⟩ := l.none ev (by simp only at hl ⊢; omega)
    have e2 : c = .endd ∧ w = .nil := hc.elim (fun z => z) fun z => z
    obtain ⟨rfl, rfl⟩ := e2
    refine ⟨k + 1, _, (g.run 1).trans (by rfl), ?_, ?_⟩
    · simp only [endOf, ev]
    · simp only
      omega
  · rw [ev] at p hl
    obtain ⟨k, g⟩ := l.some ev (by simp only at hl ⊢; omega)
    refine ⟨k + 1, _, (g.run 1).trans (by rfl), ?_, ?_⟩
    · simp only [endOf, ev]
    · simp only
      omega
end U

set_option Elab.async false
set_option linter.all false
set_option maxRecDepth 100000
set_option maxHeartbeats 4000000
/-! a field as a target among others -/
namespace U
open PySem PySem.Spec PyProof.Rows L2
def gFld (K : PySem.W.Frag) (to : TE) (f : Str) : TG := fun v σ H Q => to σ H fun x H2 => ∃ a C dx fs, x = .ref a ∧ H2 a = some (.ins C dx fs) ∧ Cls K C ∧ NoAttr K C f ∧ fs.length < 1000 ∧ Q σ (upd H2 a (.ins C dx (putF f v fs)))
section
variable {X : Cx} {o : Expr} {f : Str} {pos : Pos} {to : TE}
theorem pg_fld (ho : PE X o to) : PG X (.Attribute o f pos) (gFld X.K to f) := by
  refine ⟨fun pins s σ H v u Q I r h => ?_⟩
  rw [PySem.assign_Attribute]
  refine wpAny_bind (wpAny_holding (thn (ho.run pins s σ H _ I h) fun ov s1 ⟨x, H1, I1, r1, a, C, dx, fs, ex, ea, c, n, l, q⟩ => ?_))
  subst ex
  obtain rfl : ov = Value.ref a := r1
  refine wpAny_bind (wpAny_standAt (wpAny_bind (wpAny_holding ?_)))
  exact setattr_ok I1 ea c n l r fun s3 I3 => wpAny_release ⟨σ, _, I3, q⟩
end
end U

set_option Elab.async false
set_option linter.all false
set_option maxRecDepth 100000
set_option maxHeartbeats 4000000
/-! a and b as a test that may name what it finds -/
namespace U
open PySem PySem.Spec PyProof.Rows L2
def wAnd (ta tb : TTw) : TTw := fun σ H Q => ta σ H fun c σ1 H1 => if c = true then tb σ1 H1 Q else Q false σ1 H1
section
variable {X : Cx} {a b : Expr} {ta tb : TTw} {pos : Pos}
theorem ptw_and (ha : PTw X a ta) (hb : PTw X b tb) : PTw X (.BoolOp .And [a, b] pos) (wAnd ta tb) := by
  refine ⟨fun pins s σ H Q I h => ?_⟩
  refine isTrue_and (thn (ha.run pins s σ H _ I h) fun c s1 ⟨σ1, H1, I1, q1⟩ => ?_)
  cases c with
  | true =>
    refine isTrue_and (thn (hb.run pins s1 σ1 H1 _ I1 q1) fun c s2 e => ?_)
    cases c with
    | true => exact isTrue_and_nil e
    | false => exact e
  | false => exact ⟨σ1, H1, I1, q1⟩
end
end U

set_option Elab.async false
set_option linter.all false
set_option maxRecDepth 100000
set_option maxHeartbeats 4000000
set_option pp.maxSteps 3000
namespace K
open PySem PySem.Spec PyProof.Rows L2 U
/-- a head, or none yet -/
def OHdV (H : Hp) : Option U.Hd → V → Prop
  | none, v => v = .non
  | some h, v => HdV H h v
theorem OHdV.keep {H H' : Hp} (k : TupS H H') {h : Option U.Hd} {v : V} (g : OHdV H h v) : OHdV H' h v := by
  cases h with
  | none => exact g
  | some h => exact HdV.keep k g
/-- a walk's state in the heap -/
structure Turn (Reg : Addr → U.Tm → Prop) (Env : V → U.En → Prop) (H : Hp) (s : U.St) (cv wv hv : V) : Prop where
  c : CodeV Reg H s.code cv
  w : WtV Reg Env H s.wait wv
  h : OHdV H s.head hv
theorem Turn.keep {Reg : Addr → U.Tm → Prop} {Env : V → U.En → Prop} {H H' : Hp} (k : TupS H H') {s : U.St} {cv wv hv : V} (g : Turn Reg Env H s cv wv hv) : Turn Reg Env H' s cv wv hv :=
  ⟨g.c.keep k fun _ _ h => h, g.w.keep k (fun _ _ h => h) fun _ _ h => h, g.h.keep k⟩
/-- up to its end, of numbers alone -/
def spDoN (CW CR : Addr) : Sp := fun vs H Q _ => ∃ (Reg : Addr → U.Tm → Prop) (Env : V → U.En → Prop) (fr : U.Tm → List U.Nm) (kn : U.Nm) (known : U.Nm → Option U.Hd) (lim : Nat) (s s' : U.St) (n : Nat) (p r q dxp dxr : Addr) (fs gs : List (Str × V)) (cv ev wv hv senses nd made en kd bodies : V) (m0 : Int),
  vs = [.ref r, .ref p] ∧ p ≠ r ∧ H p = some (.ins CW dxp fs) ∧ H r = some (.ins CR dxr gs) ∧ WalkF fs (.str (tx kn)) senses (.ref q) hv nd (.int m0) made en ∧ RunF gs (.int lim) kd bodies (.int s.steps) ∧ H q = some (.tup [cv, ev, wv]) ∧ Turn Reg Env H s cv wv hv ∧ StN s ∧
  U.runM fr kn known lim n s = some (.fin s') ∧ lim ≤ 10 ^ 17 ∧
  ∀ H' hv', (∀ a o, H a = some o → a ≠ p → a ≠ r → H' a = some o) → H' p = some (.ins CW dxp (putF "steps" (.int (s'.steps - (s.steps - m0))) (putF "end" hv' fs))) → H' r = some (.ins CR dxr (putF "steps" (.int s'.steps) gs)) → OHdV H' s'.head hv' → Q .non H'
theorem at1 (x y : V) (l : List V) : atI (x :: y :: l) 1 = some y := atI_nat (j := 1) (by rfl)
theorem word_num {hd : U.Hd} (h : ∀ v, hd ≠ .num v) : wordH hd ≠ numberW := by
  cases hd with
  | num v => exact absurd rfl (h v)
  | _ => dsimp only [wordH]; decide +kernel
theorem len_end {fs : List (Str × V)} {knot senses place head need steps made end_ : V} (v : V) (h : WalkF fs knot senses place head need steps made end_) : (putF "end" v fs).length < 1000 := (h.setEnd v).len
/-- between two turns -/
def DoW (Reg : Addr → U.Tm → Prop) (Env : V → U.En → Prop) (fr : U.Tm → List U.Nm) (kn : U.Nm) (known : U.Nm → Option U.Hd) (lim : Nat) (s' : U.St) (H0 : Hp) (p r : Addr) (ev kd : V) (ah : Int) : Nat → L2.St → Hp → Prop := fun m σ H1 =>
  ∃ (s1 : U.St) (cv1 wv1 hv1 : V) (d1 d2 d3 d4 : Option V), σ = [some (.ref r), some (.ref p), some cv1, some ev, some wv1, some hv1, some (.int s1.steps), some kd, some (.int lim), some (.int ah), d1, d2, d3, d4] ∧ Same H0 H1 ∧ Turn Reg Env H1 s1 cv1 wv1 hv1 ∧ StN s1 ∧ U.runM fr kn known lim m s1 = some (.fin s')
section
variable {P : Program} {w : World} {K : PySem.W.Frag} {mg : Str → Option Value} {base : Heap} {dW dB dN : Addr} {esW : Array DictEntry} {nW : Nat} (T : Txt K mg w dW dB esW nW) (N : Runs K mg dN)
include T N
theorem ok_Run_doN {f f1 f2 f3 f4 f5 CW CR : Addr} {fd fd1 fd2 fd3 fd4 fd5 : FuncData} (F : Fun K "_do" "Run._do" s_Run__do f fd) (WC : WalkC K CW) (RC : RunC K CR) (spF spC : Sp)
    (hFm : HasW P w K mg base CR "_form" 34 ["self", "walk", "tree", "code", "names", "waiting"] spF f1 fd1) (hCa : HasW P w K mg base CR "_call" 34 ["self", "walk", "tree", "head", "code", "names", "waiting"] spC f2 fd2)
    (h_last_code : Has P w K mg base "last_code" 1 [] spLastCode f3 fd3) (h_unfit : Has P w K mg base "unfit" 1 ["head", "must", "knot"] spUnfit f4 fd4)
    (h_reckoned : Has P w K mg base "reckoned" 1 ["kind", "left", "right", "knot"] spReckoned f5 fd5) : FnOk P w K mg base CX0 35 f fd ["self", "walk"] (spDoN CW CR) := by
  refine F.ok sc_Run__do (fun vs H Q E h => ?_) (fun cdv A outer s H vs Q E hr h => ?_)
  · obtain ⟨Reg, Env, fr, kn, known, lim, s, s', n, p, r, q, dxp, dxr, fs, gs, cv, ev, wv, hv, senses, nd, made, en, kd, bodies, m0, rfl, _⟩ := h
    rfl
  · have hu := hu_of hr
    obtain ⟨Reg, Env, fr, kn, known, lim, s, s', n, p, r, q, dxp, dxr, fs, gs, cv, ev, wv, hv, senses, nd, made, en, kd, bodies, m0, rfl, npr, hp, hr0, WF, RF, hq, tn, sn, hrun, hlim, fin⟩ := h
    refine ⟨_, (pss_cons (ps_asg (pe_tup (pa_cons (pe_fld (pv 1) (by rfl)) (pa_cons (pe_fld (pv 1) (by rfl)) (pa_cons (pe_fld (pv 0) (by rfl)) pa_nil)))) (pg_tup rfl (pgs_cons (pg_tup rfl (pgs_cons (pg_name (i := 2) sc_Run__do.nd rfl (.inl rfl)) (pgs_cons (pg_name (i := 3) sc_Run__do.nd rfl (.inl rfl)) (pgs_cons (pg_name (i := 4) sc_Run__do.nd rfl (.inl rfl)) pgs_nil)))) (pgs_cons (pg_name (i := 5) sc_Run__do.nd rfl (.inl rfl)) (pgs_cons (pg_name (i := 6) sc_Run__do.nd rfl (.inl rfl)) pgs_nil)))))
      (pss_cons (ps_par3 (i := 7) (j := 8) (l := 9) (by rfl) sc_Run__do.nd rfl rfl rfl (by decide) (by decide) (by decide) rfl rfl rfl (pa_cons (pe_fld (pv 0) (by rfl)) (pa_cons (pe_fld (pv 0) (by rfl)) (pa_cons (pe_op op_sub (pv 6) (pe_fld (pv 1) (by rfl))) pa_nil))) (by rfl))
      (pss_cons (ps_while PassesOwn.never (pt_val pe_bl) 
        (pss_cons (ps_asg (pe_tup (pa_cons (pv 2) (pa_cons pe_non pa_nil))) (pg_tup rfl (pgs_cons (pg_tup rfl (pgs_cons (pg_name (i := 10) sc_Run__do.nd rfl (.inl rfl)) (pgs_cons (pg_name (i := 11) sc_Run__do.nd rfl (.inl rfl)) (pgs_cons (pg_name (i := 12) sc_Run__do.nd rfl (.inl rfl)) (pgs_cons (pg_name (i := 2) sc_Run__do.nd rfl (.inl rfl)) pgs_nil))))) (pgs_cons (pg_name (i := 13) sc_Run__do.nd rfl (.inl rfl)) pgs_nil))))
        (pss_cons (ps_if (pt_cmpR op_le (pv 10) (pe_globI (by rfl) N.form) (nomark _)) 
          (pss_cons (ps_aug (i := 6) sc_Run__do.nd rfl (.inl rfl) (pv 11) ip_add)
          (pss_cons (ps_if (pt_cmpR op_gt (pv 6) (pv 8) (nomark _)) 
            (pss_cons (ps_asg (pe_tup (pa_cons (pe_tup (pa_cons (pe_tup (pa_cons (pv 10) (pa_cons (pe_op op_sub (pv 6) (pv 8)) (pa_cons (pv 12) (pa_cons (pv 2) pa_nil))))) (pa_cons (pv 3) (pa_cons (pv 4) pa_nil)))) (pa_cons (pv 8) pa_nil))) (pg_tup rfl (pgs_cons (pg_fld (pv 1)) (pgs_cons (pg_name (i := 6) sc_Run__do.nd rfl (.inl rfl)) pgs_nil))))
            (pss_one (ps_break))) pss_nil)
          (pss_one (ps_if (pt_cmpR op_eq (pv 10) (pe_globI (by rfl) N.head) (nomark _)) 
            (pss_one (ps_set (i := 5) sc_Run__do.nd rfl (.inl rfl) (pv 12))) 
            (pss_one (ps_if (pt_cmpR op_eq (pv 10) (pe_globI (by rfl) N.need) (nomark _)) 
              (pss_one (ps_set (i := 13) sc_Run__do.nd rfl (.inl rfl) (pe_dget2 hu (pv 3) (pv 12) (pv 12) ⟨by rfl, by rfl, by rfl, by rfl⟩))) 
              (pss_one (ps_asg (pe_meth (pv 0) RC.cl hFm.me hFm.ok (hr.mono (by first | decide | omega)) hFm.bi .nil pass0 (pa_cons (pv 1) (pa_cons (pv 12) (pa_cons (pv 2) (pa_cons (pv 3) (pa_cons (pv 4) pa_nil)))))) (pg_tup rfl (pgs_cons (pg_name (i := 5) sc_Run__do.nd rfl (.inl rfl)) (pgs_cons (pg_name (i := 2) sc_Run__do.nd rfl (.inl rfl)) (pgs_cons (pg_name (i := 3) sc_Run__do.nd rfl (.inl rfl)) (pgs_cons (pg_name (i := 4) sc_Run__do.nd rfl (.inl rfl)) pgs_nil))))))))))))) 
          (pss_one (ps_if (pt_cmpR op_eq (pv 10) (pe_globI (by rfl) N.end_) (nomark _)) 
            (pss_cons (ps_if (pt_cmpR op_isN (pv 4) pe_non (nomark _)) 
              (pss_cons (ps_fld (pv 1) (pv 5) rfl)
              (pss_one (ps_break))) pss_nil)
            (pss_one (ps_asg (pv 4) (pg_tup rfl (pgs_cons (pg_name (i := 2) sc_Run__do.nd rfl (.inl rfl)) (pgs_cons (pg_name (i := 3) sc_Run__do.nd rfl (.inl rfl)) (pgs_cons (pg_name (i := 4) sc_Run__do.nd rfl (.inl rfl)) pgs_nil))))))) 
            (pss_one (ps_if (pt_cmpR op_ne (pe_ix ix_tup (pv 5) pe_int (fun _ _ => rfl)) (pv 11) (nomark _)) 
              (pss_one (ps_par3 (i := 5) (j := 2) (l := 4) (by rfl) sc_Run__do.nd rfl rfl rfl (by decide) (by decide) (by decide) rfl rfl rfl (pa_cons (pe_callH h_unfit (hr.mono (by first | decide | omega)) (by rfl) (pa_cons (pv 5) (pa_cons (pv 11) (pa_cons (pe_fld (pv 1) (by rfl)) pa_nil)))) (pa_cons (pe_callH0 h_last_code (hr.mono (by first | decide | omega)) (by rfl)) (pa_cons pe_non pa_nil))) (by rfl))) 
              (pss_one (ps_if (pt_cmpR op_eq (pv 10) (pe_globI (by rfl) N.left) (nomark _)) 
                (pss_one (ps_set (i := 4) sc_Run__do.nd rfl (.inl rfl) (pe_tup (pa_cons (pe_ix ix_tup (pv 5) pe_int (fun _ _ => rfl)) (pa_cons (pv 4) pa_nil))))) 
                (pss_one (ps_if (pt_cmpR op_eq (pv 10) (pe_globI (by rfl) N.right) (nomark _)) 
                  (pss_one (ps_par (i := 5) (j := 4) (by rfl) sc_Run__do.nd rfl rfl (by decide) rfl rfl (pa_cons (pe_callH h_reckoned (hr.mono (by first | decide | omega)) (by rfl) (pa_cons (pv 12) (pa_cons (pe_ix ix_tup (pv 4) pe_int (fun _ _ => rfl)) (pa_cons (pe_ix ix_tup (pv 5) pe_int (fun _ _ => rfl)) (pa_cons (pe_fld (pv 1) (by rfl)) pa_nil))))) (pa_cons (pe_ix ix_tup (pv 4) pe_int (fun _ _ => rfl)) pa_nil)) (by rfl))) 
                  (pss_one (ps_if (pt_cmpR op_eq (pv 10) (pe_globI (by rfl) N.iff) (nomark _)) 
                    (pss_one (ps_set (i := 2) sc_Run__do.nd rfl (.inl rfl) (pe_ifExp (pt_truth (pe_ix ix_tup (pv 5) pe_int (fun _ _ => rfl)) (by intro _; rfl)) (pv 12) (pv 2)))) 
                    (pss_one (ps_if (pt_cmpR op_eq (pv 10) (pe_globI (by rfl) N.call) (nomark _)) 
                      (pss_one (ps_asg (pe_meth (pv 0) RC.cl hCa.me hCa.ok (hr.mono (by first | decide | omega)) hCa.bi .nil pass0 (pa_cons (pv 1) (pa_cons (pv 12) (pa_cons (pv 5) (pa_cons (pv 2) (pa_cons (pv 3) (pa_cons (pv 4) pa_nil))))))) (pg_tup rfl (pgs_cons (pg_name (i := 2) sc_Run__do.nd rfl (.inl rfl)) (pgs_cons (pg_name (i := 3) sc_Run__do.nd rfl (.inl rfl)) (pgs_cons (pg_name (i := 4) sc_Run__do.nd rfl (.inl rfl)) pgs_nil)))))) 
                      (pss_one (ps_set (i := 13) sc_Run__do.nd rfl (.inl rfl) (pe_ix ix_tup (pv 5) (pv 12) (fun _ _ => rfl)))))))))))))))))
        (pss_one (ps_ifW (ptw_and (ptw_of (pt_cmpR op_notN (pv 13) pe_non (nomark _))) (ptw_cmp op_isN (pew_named (i := 5) sc_Run__do.nd rfl (.inl rfl) (pew_of (pe_dget1 hu (pv 7) (pv 13) ⟨by rfl, by rfl, by rfl, by rfl⟩))) pe_non (nomark _))) 
          (pss_cons (ps_asg (pe_tup (pa_cons (pe_tup (pa_cons (pv 2) (pa_cons (pv 3) (pa_cons (pv 4) pa_nil)))) (pa_cons (pv 13) pa_nil))) (pg_tup rfl (pgs_cons (pg_fld (pv 1)) (pgs_cons (pg_fld (pv 1)) pgs_nil))))
          (pss_one (ps_break))) pss_nil)))))
      (pss_one (ps_asg (pe_tup (pa_cons (pv 6) (pa_cons (pe_op op_sub (pv 6) (pv 9)) pa_nil))) (pg_tup rfl (pgs_cons (pg_fld (pv 0)) (pgs_cons (pg_fld (pv 1)) pgs_nil)))))))), ?_⟩
    refine ⟨_, rfl, p, CW, dxp, _, _, rfl, hp, WC.cl, WC.nplace, WF.place, _, rfl, p, CW, dxp, _, _, rfl, hp, WC.cl, WC.nhead, WF.head, _, rfl, r, CR, dxr, _, _, rfl, hr0, RC.cl, RC.nsteps, RF.steps, sizeLine_ge (by show 3 ≤ 10000; decide), fun q1 h1 => ?_⟩
    have S1 : Same H _ := same_new (o := .tup [.ref q, hv, .int s.steps]) h1
    refine ⟨q1, _, rfl, .inl (.inl upd_same), rfl, _, _, rfl, q, _, rfl, .inl (.inl (S1 _ _ hq)), rfl, _, _, rfl, _, _, rfl, _, _, rfl, rfl, _, _, rfl, _, _, rfl, rfl, ?_⟩
    have hr1 := S1 _ _ hr0
    have hp1 := S1 _ _ hp
    refine ⟨_, rfl, r, CR, dxr, _, _, rfl, hr1, RC.cl, RC.nknown, RF.known, _, rfl, r, CR, dxr, _, _, rfl, hr1, RC.cl, RC.nmost, RF.most, _, rfl, _, rfl, p, CW, dxp, _, _, rfl, hp1, WC.cl, WC.nsteps, WF.steps, _, _, rfl, rfl, _, _, _, rfl, ?_⟩
    refine ⟨DoW Reg Env fr kn known lim s' H p r ev kd (s.steps - m0), ⟨n, s, cv, wv, hv, none, none, none, none, rfl, S1, tn.keep (TupS.of S1), sn, hrun⟩, ?_⟩
    rintro m σ1 H1 ⟨⟨code, env, wait, head, steps, mk⟩, cv1, wv1, hv1, d1, d2, d3, d4, rfl, SS, tn1, sn1, hrun1⟩
    clear hq h1 S1 hr1 hp1 tn sn hrun
    refine ⟨true, rfl, iteT ?_⟩
    cases m with
    | zero => cases hrun1
    | succ m =>
    refine ⟨DoW Reg Env fr kn known lim s' H p r ev kd (s.steps - m0) m, fun σ' H' h => ⟨m, Nat.lt_succ_self m, h⟩, ?_⟩
    rw [U.runM] at hrun1
    cases code with
    | need m x nx => exact sn1.c.elim
    | form m t nx => exact sn1.c.elim
    | call t nx => exact sn1.c.elim
    | half i nx => exact sn1.c.elim
    | endd =>
      obtain ⟨a, rfl, ha⟩ := tn1.c
      refine ⟨_, rfl, sizeLine_ge (by show 2 ≤ 10000; decide), fun q2 h2 => ?_⟩
      have S2 : Same H1 _ := same_new (o := .tup [V.ref a, .non]) h2
      refine ⟨q2, _, rfl, .inl (.inl upd_same), rfl, _, _, rfl, a, _, rfl, .inl (.inl (S2 _ _ ha)), rfl, _, _, rfl, _, _, rfl, _, _, rfl, _, _, rfl, rfl, _, _, rfl, rfl, ?_⟩
      have SS2 := SS.trans S2
      have tn2 := tn1.keep (TupS.of S2)
      generalize upd H1 q2 (.tup [V.ref a, .non]) = H2 at S2 SS2 tn2 ⊢
      have hp2 := SS2 _ _ hp
      have hr2 := SS2 _ _ hr0
      refine ⟨_, rfl, _, _, rfl, rfl, _, rfl, ite2 (fun z => absurd z (by decide +kernel)) (fun _ => ?_)⟩
      refine ⟨_, rfl, rfl, _, rfl, ite2 (fun _ => ?_) (fun z => absurd (by decide +kernel) z)⟩
      cases wait with
      | cont c e r => exact sn1.w.elim
      | num v r => cases hrun1
      | nil =>
        have ew : wv1 = .non := tn1.w
        subst ew
        cases hrun1
        refine ⟨_, rfl, rfl, _, rfl, ite2 (fun _ => ?_) (fun z => absurd (by decide +kernel) z)⟩
        refine ⟨_, rfl, _, rfl, p, CW, dxp, _, rfl, hp2, WC.cl, WC.nend, Nat.lt_of_lt_of_le WF.len (by decide), ?_⟩
        refine ⟨_, rfl, _, rfl, _, rfl, _, _, rfl, rfl, sizeLine_ge (by show 2 ≤ 10000; decide), fun q3 h3 => ?_⟩
        have hp3 : (upd H2 p (.ins CW dxp (putF "end" hv1 fs))) p = some (.ins CW dxp (putF "end" hv1 fs)) := upd_same
        have hr3 : (upd H2 p (.ins CW dxp (putF "end" hv1 fs))) r = some (.ins CR dxr gs) := by
          rw [upd_ne npr.symm]
          exact hr2
        have b3 : ∀ a o, H a = some o → a ≠ p → (upd H2 p (.ins CW dxp (putF "end" hv1 fs))) a = some o := fun a o e z => by
          rw [upd_ne z]
          exact SS2 _ _ e
        have h3v := OHdV.keep (tupS_upd (o := .ins CW dxp (putF "end" hv1 fs)) hp2) tn2.h
        generalize upd H2 p (.ins CW dxp (putF "end" hv1 fs)) = H3 at hp3 hr3 b3 h3v h3 ⊢
        have S4 : Same H3 _ := same_new (o := .tup [.int steps, .int (steps - (s.steps - m0))]) h3
        have h4v := h3v.keep (TupS.of S4)
        refine ⟨q3, _, rfl, .inl (.inl upd_same), rfl, _, _, rfl, _, rfl, r, CR, dxr, _, rfl, S4 _ _ hr3, RC.cl, RC.nsteps, Nat.lt_of_lt_of_le RF.len (by decide), _, _, rfl, _, rfl, p, CW, dxp, _, rfl, by rw [upd_ne npr]; exact S4 _ _ hp3, WC.cl, WC.nsteps, len_end hv1 WF, rfl, ?_⟩
        have hr4 := S4 _ _ hr3
        have hp4 := S4 _ _ hp3
        refine fin _ hv1 (fun a o e z1 z2 => ?_) upd_same ?_ ((h4v.keep (tupS_upd hr4)).keep (tupS_upd (by rw [upd_ne npr]; exact hp4)))
        · rw [upd_ne z1, upd_ne z2]
          exact S4 _ _ (b3 _ _ e z1)
        · rw [upd_ne npr.symm]
          exact upd_same
    | head mm v nx =>
      obtain ⟨a, hA, u, rfl, ha, hh, hb, cn⟩ := tn1.c
      refine ⟨_, rfl, sizeLine_ge (by show 2 ≤ 10000; decide), fun q2 h2 => ?_⟩
      have S2 : Same H1 _ := same_new (o := .tup [V.ref a, .non]) h2
      refine ⟨q2, _, rfl, .inl (.inl upd_same), rfl, _, _, rfl, a, _, rfl, .inl (.inl (S2 _ _ ha)), rfl, _, _, rfl, _, _, rfl, _, _, rfl, _, _, rfl, rfl, _, _, rfl, rfl, ?_⟩
      have SS2 := SS.trans S2
      have tn2 := tn1.keep (TupS.of S2)
      have hh2 := S2 _ _ hh
      have cn2 := cn.keep (TupS.of S2) fun _ _ h => h
      generalize upd H1 q2 (.tup [V.ref a, .non]) = H2 at S2 SS2 tn2 hh2 cn2 ⊢
      have hp2 := SS2 _ _ hp
      have hr2 := SS2 _ _ hr0
      refine ⟨_, rfl, _, _, rfl, rfl, _, rfl, ite2 (fun _ => ?_) (fun z => absurd (by decide +kernel) z)⟩
      refine ⟨_, rfl, _, rfl, _, _, rfl, rfl, ?_⟩
      refine ⟨_, rfl, _, rfl, _, _, rfl, rfl, _, rfl, ite2 (fun z => ?_) (fun z => ?_)⟩
      · exfalso
        have z2 : steps + mm > lim := by
          have z3 := of_decide_eq_true z
          simp only at z3
          omega
        simp only [U.step, U.begins, if_pos z2] at hrun1
        cases hrun1
      · have z2 : ¬ steps + mm > lim := fun y => z (decide_eq_true (by simp only; omega))
        simp only [U.step, U.begins, if_neg z2] at hrun1
        refine ⟨_, rfl, rfl, _, rfl, ite2 (fun _ => ?_) (fun z => absurd (by decide +kernel) z)⟩
        refine ⟨_, rfl, ?_⟩
        refine ⟨_, rfl, rfl, _, rfl, ite2 (fun z => absurd z (by decide +kernel)) (fun _ => ?_)⟩
        refine iteF ?_
        exact ⟨{ code := nx, env := env, wait := wait, head := some (.num v), steps := steps + mm, made := mk }, _, _, _, _, _, _, _, rfl, SS2, ⟨cn2, tn2.w, ⟨hA, rfl, hh2, hb⟩⟩, ⟨sn1.c, sn1.w⟩, hrun1⟩
    | iff c d =>
      obtain ⟨a, u1, u2, rfl, ha, cn⟩ := tn1.c
      refine ⟨_, rfl, sizeLine_ge (by show 2 ≤ 10000; decide), fun q2 h2 => ?_⟩
      have S2 : Same H1 _ := same_new (o := .tup [V.ref a, .non]) h2
      refine ⟨q2, _, rfl, .inl (.inl upd_same), rfl, _, _, rfl, a, _, rfl, .inl (.inl (S2 _ _ ha)), rfl, _, _, rfl, _, _, rfl, _, _, rfl, _, _, rfl, rfl, _, _, rfl, rfl, ?_⟩
      have SS2 := SS.trans S2
      have tn2 := tn1.keep (TupS.of S2)
      have cn2 := And.intro (cn.1.keep (TupS.of S2) fun _ _ h => h) (cn.2.keep (TupS.of S2) fun _ _ h => h)
      generalize upd H1 q2 (.tup [V.ref a, .non]) = H2 at S2 SS2 tn2 cn2 ⊢
      have hp2 := SS2 _ _ hp
      have hr2 := SS2 _ _ hr0
      refine ⟨_, rfl, _, _, rfl, rfl, _, rfl, ite2 (fun z => absurd z (by decide +kernel)) (fun _ => ?_)⟩
      refine ⟨_, rfl, rfl, _, rfl, ite2 (fun z => absurd z (by decide +kernel)) (fun _ => ?_)⟩
      cases head with
      | none => cases hrun1
      | some hd =>
      have hh2 : HdV H2 hd hv1 := tn2.h
      by_cases hn : ∃ v, hd = .num v
      · obtain ⟨v, rfl⟩ := hn
        obtain ⟨b, rfl, hb2, bv⟩ := hh2
        refine ⟨_, rfl, b, _, 0, _, rfl, rfl, .inl (.inl hb2), at0 _ _, _, rfl, rfl, _, rfl, ite2 (fun z => absurd z (by decide +kernel)) (fun _ => ?_)⟩
        refine ⟨_, rfl, rfl, _, rfl, ite2 (fun z => absurd z (by decide +kernel)) (fun _ => ?_)⟩
        refine ⟨_, rfl, rfl, _, rfl, ite2 (fun z => absurd z (by decide +kernel)) (fun _ => ?_)⟩
        refine ⟨_, rfl, rfl, _, rfl, ite2 (fun _ => ?_) (fun z => absurd (by decide +kernel) z)⟩
        refine ⟨_, rfl, b, _, 1, _, rfl, rfl, .inl (.inl hb2), at1 _ _ _, _, rfl, ite2 (fun z => ?_) (fun z => ?_)⟩
        · have z2 : v ≠ 0 := by simpa using z
          have e1 : U.step fr kn known lim { code := .iff c d, env := env, wait := wait, head := some (.num v), steps := steps, made := mk } = .go { code := c, env := env, wait := wait, head := some (.num v), steps := steps, made := mk } := by
            simp only [U.step, if_pos z2]
          rw [e1] at hrun1
          refine ⟨_, rfl, ?_⟩
          refine ⟨_, rfl, rfl, _, rfl, ite2 (fun z => absurd z (by decide +kernel)) (fun _ => ?_)⟩
          refine iteF ?_
          exact ⟨{ code := c, env := env, wait := wait, head := some (.num v), steps := steps, made := mk }, _, _, _, _, _, _, _, rfl, SS2, ⟨cn2.1, tn2.w, tn2.h⟩, ⟨sn1.c.1, sn1.w⟩, hrun1⟩
        · have z2 : ¬ v ≠ 0 := by simpa using z
          have e1 : U.step fr kn known lim { code := .iff c d, env := env, wait := wait, head := some (.num v), steps := steps, made := mk } = .go { code := d, env := env, wait := wait, head := some (.num v), steps := steps, made := mk } := by
            simp only [U.step, if_neg z2]
          rw [e1] at hrun1
          refine ⟨_, rfl, ?_⟩
          refine ⟨_, rfl, rfl, _, rfl, ite2 (fun z => absurd z (by decide +kernel)) (fun _ => ?_)⟩
          refine iteF ?_
          exact ⟨{ code := d, env := env, wait := wait, head := some (.num v), steps := steps, made := mk }, _, _, _, _, _, _, _, rfl, SS2, ⟨cn2.2, tn2.w, tn2.h⟩, ⟨sn1.c.2, sn1.w⟩, hrun1⟩
      · obtain ⟨b, l, eb, hb2⟩ := hh2.word
        have hn2 : ∀ v, hd ≠ .num v := fun v z => hn ⟨v, z⟩
        have hdec : (!decide (V.str (tx (wordH hd)) = V.str (tx numberW))) = true := by
          rw [decide_eq_false fun z => word_num hn2 (tx_inj (V.str.inj z))]
          rfl
        subst eb
        refine ⟨_, rfl, b, _, 0, .str (tx (wordH hd)), rfl, rfl, .inl (.inl hb2), at0 _ _, _, rfl, rfl, _, rfl, ite2 (fun _ => ?_) (fun z => absurd hdec z)⟩
        refine ⟨_, rfl, _, rfl, _, rfl, p, CW, dxp, _, _, rfl, hp2, WC.cl, WC.nknot, WF.knot, hd, _, _, kn, rfl, hh2, fun uv H3 S3 g3 => ?_⟩
        refine ⟨rfl, fun r1 h4 => ?_⟩
        have S4 : Same H3 _ := same_new (o := .tup [.int 3, .int 0, .non, .non]) h4
        refine ⟨_, _, _, rfl, ?_⟩
        refine ⟨_, rfl, rfl, _, rfl, ite2 (fun z => absurd z (by decide +kernel)) (fun _ => ?_)⟩
        refine iteF ?_
        have hst : U.step fr kn known lim { code := .iff c d, env := env, wait := wait, head := some hd, steps := steps, made := mk } = .go (U.unfitS kn numberW hd { code := .iff c d, env := env, wait := wait, head := some hd, steps := steps, made := mk }) := by
          cases hd <;> first | rfl | exact absurd rfl (hn2 _)
        rw [hst] at hrun1
        exact ⟨U.unfitS kn numberW hd { code := .iff c d, env := env, wait := wait, head := some hd, steps := steps, made := mk }, _, _, _, _, _, _, _, rfl, (SS2.trans S3).trans S4, ⟨⟨r1, rfl, upd_same⟩, rfl, g3.keep (TupS.of S4)⟩, ⟨trivial, trivial⟩, hrun1⟩
    | left nx =>
      obtain ⟨a, u, rfl, ha, cn⟩ := tn1.c
      refine ⟨_, rfl, sizeLine_ge (by show 2 ≤ 10000; decide), fun q2 h2 => ?_⟩
      have S2 : Same H1 _ := same_new (o := .tup [V.ref a, .non]) h2
      refine ⟨q2, _, rfl, .inl (.inl upd_same), rfl, _, _, rfl, a, _, rfl, .inl (.inl (S2 _ _ ha)), rfl, _, _, rfl, _, _, rfl, _, _, rfl, _, _, rfl, rfl, _, _, rfl, rfl, ?_⟩
      have SS2 := SS.trans S2
      have tn2 := tn1.keep (TupS.of S2)
      have cn2 := cn.keep (TupS.of S2) fun _ _ h => h
      generalize upd H1 q2 (.tup [V.ref a, .non]) = H2 at S2 SS2 tn2 cn2 ⊢
      have hp2 := SS2 _ _ hp
      have hr2 := SS2 _ _ hr0
      refine ⟨_, rfl, _, _, rfl, rfl, _, rfl, ite2 (fun z => absurd z (by decide +kernel)) (fun _ => ?_)⟩
      refine ⟨_, rfl, rfl, _, rfl, ite2 (fun z => absurd z (by decide +kernel)) (fun _ => ?_)⟩
      cases head with
      | none => cases hrun1
      | some hd =>
      have hh2 : HdV H2 hd hv1 := tn2.h
      by_cases hn : ∃ v, hd = .num v
      · obtain ⟨v, rfl⟩ := hn
        obtain ⟨b, rfl, hb2, bv⟩ := hh2
        refine ⟨_, rfl, b, _, 0, _, rfl, rfl, .inl (.inl hb2), at0 _ _, _, rfl, rfl, _, rfl, ite2 (fun z => absurd z (by decide +kernel)) (fun _ => ?_)⟩
        refine ⟨_, rfl, rfl, _, rfl, ite2 (fun _ => ?_) (fun z => absurd (by decide +kernel) z)⟩
        refine ⟨_, rfl, b, _, 1, _, rfl, rfl, .inl (.inl hb2), at1 _ _ _, _, rfl, sizeLine_ge (by show 2 ≤ 10000; decide), fun q3 h3 => ?_⟩
        have S3 : Same H2 _ := same_new (o := .tup [.int v, wv1]) h3
        refine ⟨_, rfl, rfl, _, rfl, ite2 (fun z => absurd z (by decide +kernel)) (fun _ => ?_)⟩
        refine iteF ?_
        exact ⟨{ code := nx, env := env, wait := .num v wait, head := some (.num v), steps := steps, made := mk }, _, _, _, _, _, _, _, rfl, SS2.trans S3, ⟨cn2.keep (TupS.of S3) fun _ _ h => h, ⟨q3, _, rfl, upd_same, bv, tn2.w.keep (TupS.of S3) (fun _ _ h => h) fun _ _ h => h⟩, ⟨b, rfl, S3 _ _ hb2, bv⟩⟩, ⟨sn1.c, sn1.w⟩, hrun1⟩
      · obtain ⟨b, l, eb, hb2⟩ := hh2.word
        have hn2 : ∀ v, hd ≠ .num v := fun v z => hn ⟨v, z⟩
        have hdec : (!decide (V.str (tx (wordH hd)) = V.str (tx numberW))) = true := by
          rw [decide_eq_false fun z => word_num hn2 (tx_inj (V.str.inj z))]
          rfl
        subst eb
        refine ⟨_, rfl, b, _, 0, .str (tx (wordH hd)), rfl, rfl, .inl (.inl hb2), at0 _ _, _, rfl, rfl, _, rfl, ite2 (fun _ => ?_) (fun z => absurd hdec z)⟩
        refine ⟨_, rfl, _, rfl, _, rfl, p, CW, dxp, _, _, rfl, hp2, WC.cl, WC.nknot, WF.knot, hd, _, _, kn, rfl, hh2, fun uv H3 S3 g3 => ?_⟩
        refine ⟨rfl, fun r1 h4 => ?_⟩
        have S4 : Same H3 _ := same_new (o := .tup [.int 3, .int 0, .non, .non]) h4
        refine ⟨_, _, _, rfl, ?_⟩
        refine ⟨_, rfl, rfl, _, rfl, ite2 (fun z => absurd z (by decide +kernel)) (fun _ => ?_)⟩
        refine iteF ?_
        have hst : U.step fr kn known lim { code := .left nx, env := env, wait := wait, head := some hd, steps := steps, made := mk } = .go (U.unfitS kn numberW hd { code := .left nx, env := env, wait := wait, head := some hd, steps := steps, made := mk }) := by
          cases hd <;> first | rfl | exact absurd rfl (hn2 _)
        rw [hst] at hrun1
        exact ⟨U.unfitS kn numberW hd { code := .left nx, env := env, wait := wait, head := some hd, steps := steps, made := mk }, _, _, _, _, _, _, _, rfl, (SS2.trans S3).trans S4, ⟨⟨r1, rfl, upd_same⟩, rfl, g3.keep (TupS.of S4)⟩, ⟨trivial, trivial⟩, hrun1⟩
    | right wd nx =>
      obtain ⟨a, u, rfl, ha, cn⟩ := tn1.c
      refine ⟨_, rfl, sizeLine_ge (by show 2 ≤ 10000; decide), fun q2 h2 => ?_⟩
      have S2 : Same H1 _ := same_new (o := .tup [V.ref a, .non]) h2
      refine ⟨q2, _, rfl, .inl (.inl upd_same), rfl, _, _, rfl, a, _, rfl, .inl (.inl (S2 _ _ ha)), rfl, _, _, rfl, _, _, rfl, _, _, rfl, _, _, rfl, rfl, _, _, rfl, rfl, ?_⟩
      have SS2 := SS.trans S2
      have tn2 := tn1.keep (TupS.of S2)
      have cn2 := cn.keep (TupS.of S2) fun _ _ h => h
      generalize upd H1 q2 (.tup [V.ref a, .non]) = H2 at S2 SS2 tn2 cn2 ⊢
      have hp2 := SS2 _ _ hp
      have hr2 := SS2 _ _ hr0
      refine ⟨_, rfl, _, _, rfl, rfl, _, rfl, ite2 (fun z => absurd z (by decide +kernel)) (fun _ => ?_)⟩
      refine ⟨_, rfl, rfl, _, rfl, ite2 (fun z => absurd z (by decide +kernel)) (fun _ => ?_)⟩
      cases head with
      | none => cases hrun1
      | some hd =>
      have hh2 : HdV H2 hd hv1 := tn2.h
      by_cases hn : ∃ v, hd = .num v
      · obtain ⟨v, rfl⟩ := hn
        obtain ⟨b, rfl, hb2, bv⟩ := hh2
        refine ⟨_, rfl, b, _, 0, _, rfl, rfl, .inl (.inl hb2), at0 _ _, _, rfl, rfl, _, rfl, ite2 (fun z => absurd z (by decide +kernel)) (fun _ => ?_)⟩
        cases wait with
        | nil => cases hrun1
        | cont c e r => exact sn1.w.elim
        | num u r =>
        obtain ⟨c, wv2, rfl, hc2, bu, wt2⟩ := tn2.w
        refine ⟨_, rfl, rfl, _, rfl, ite2 (fun z => absurd z (by decide +kernel)) (fun _ => ?_)⟩
        refine ⟨_, rfl, rfl, _, rfl, ite2 (fun _ => ?_) (fun z => absurd (by decide +kernel) z)⟩
        refine ⟨_, rfl, _, rfl, c, _, 0, _, rfl, rfl, .inl (.inl hc2), at0 _ _, _, rfl, b, _, 1, _, rfl, rfl, .inl (.inl hb2), at1 _ _ _, _, rfl, p, CW, dxp, _, _, rfl, hp2, WC.cl, WC.nknot, WF.knot, wd, u, v, kn, rfl, sn1.c.1, bu, bv, fun rv H3 S3 g3 => ?_⟩
        refine ⟨_, rfl, c, _, 1, _, rfl, rfl, .inl (.inl (S3 _ _ hc2)), at1 _ _ _, _, _, rfl, ?_⟩
        refine ⟨_, rfl, rfl, _, rfl, ite2 (fun z => absurd z (by decide +kernel)) (fun _ => ?_)⟩
        refine iteF ?_
        exact ⟨{ code := nx, env := env, wait := r, head := some (U.reckH kn wd u v), steps := steps, made := mk }, _, _, _, _, _, _, _, rfl, SS2.trans S3, ⟨cn2.keep (TupS.of S3) fun _ _ h => h, wt2.keep (TupS.of S3) (fun _ _ h => h) fun _ _ h => h, g3⟩, ⟨sn1.c.2, sn1.w⟩, hrun1⟩
      · obtain ⟨b, l, eb, hb2⟩ := hh2.word
        have hn2 : ∀ v, hd ≠ .num v := fun v z => hn ⟨v, z⟩
        have hdec : (!decide (V.str (tx (wordH hd)) = V.str (tx numberW))) = true := by
          rw [decide_eq_false fun z => word_num hn2 (tx_inj (V.str.inj z))]
          rfl
        subst eb
        refine ⟨_, rfl, b, _, 0, .str (tx (wordH hd)), rfl, rfl, .inl (.inl hb2), at0 _ _, _, rfl, rfl, _, rfl, ite2 (fun _ => ?_) (fun z => absurd hdec z)⟩
        refine ⟨_, rfl, _, rfl, _, rfl, p, CW, dxp, _, _, rfl, hp2, WC.cl, WC.nknot, WF.knot, hd, _, _, kn, rfl, hh2, fun uv H3 S3 g3 => ?_⟩
        refine ⟨rfl, fun r1 h4 => ?_⟩
        have S4 : Same H3 _ := same_new (o := .tup [.int 3, .int 0, .non, .non]) h4
        refine ⟨_, _, _, rfl, ?_⟩
        refine ⟨_, rfl, rfl, _, rfl, ite2 (fun z => absurd z (by decide +kernel)) (fun _ => ?_)⟩
        refine iteF ?_
        have hst : U.step fr kn known lim { code := .right wd nx, env := env, wait := wait, head := some hd, steps := steps, made := mk } = .go (U.unfitS kn numberW hd { code := .right wd nx, env := env, wait := wait, head := some hd, steps := steps, made := mk }) := by
          cases hd <;> first | rfl | exact absurd rfl (hn2 _)
        rw [hst] at hrun1
        exact ⟨U.unfitS kn numberW hd { code := .right wd nx, env := env, wait := wait, head := some hd, steps := steps, made := mk }, _, _, _, _, _, _, _, rfl, (SS2.trans S3).trans S4, ⟨⟨r1, rfl, upd_same⟩, rfl, g3.keep (TupS.of S4)⟩, ⟨trivial, trivial⟩, hrun1⟩
end
end K


set_option Elab.async false
set_option linter.all false
set_option maxRecDepth 100000
set_option maxHeartbeats 4000000
set_option pp.maxSteps 3000
namespace K
open PySem PySem.Spec PyProof.Rows L2 U
abbrev EnvF (G : Addr → Prop) (H : Hp) : V → U.En → Prop := fun v e => EnvA G H e v
/-- a state in the heap: its code, its names, what waits, its head -/
structure TurnG (Reg : Addr → U.Tm → Prop) (G : Addr → Prop) (H : Hp) (s : U.St) (cv ev wv hv : V) : Prop where
  c : CodeV Reg H s.code cv
  e : EnvA G H s.env ev
  w : WtV Reg (EnvF G H) H s.wait wv
  h : OHdV H s.head hv
/-- a pair, a def, a let is begun -/
def spFormG (C CW CR : Addr) : Sp := fun vs H Q _ => ∃ (kn : U.Nm) (p r aS aB dxr : Addr) (gs : List (Str × V)) (most kd steps : V) (f : WF) (Reg : Addr → U.Tm → Prop) (G : Addr → Prop) (s s' : U.St) (M : Nat) (pt : Addr) (t : U.Tm) (nx : U.Cd) (cv ev wv : V), vs = [.ref r, .ref p, .ref pt, cv, ev, wv] ∧ H r = some (.ins CR dxr gs) ∧ CR ≠ C ∧ r ≠ p ∧ RunF gs most kd (.ref aB) steps ∧
  Mach C CW kn p aS aB f Reg G H s.made (M + 2) ∧ Reg pt t ∧ FormT t ∧ ScT t s.env ∧ NodR s.env ∧ s.env.length ≤ 1000000 ∧ CodeV Reg H nx cv ∧ EnvA G H s.env ev ∧ WtV Reg (EnvF G H) H s.wait wv ∧ U.formS U.frs kn t nx s = .go s' ∧
  ∀ G' H' q hv cv' ev' wv', (∀ a, G a → G' a) → Chg C p aS aB H H' → Mach C CW kn p aS aB f Reg G' H' s'.made M → TurnG Reg G' H' s' cv' ev' wv' hv → H' q = some (.tup [hv, cv', ev', wv']) → Q (.ref q) H'
theorem free_tup {t : U.Tm} {ys : List Str} (h : FreeIs t ys) : ys.map V.str = (U.frs t).map fun y => V.str (tx y) := by
  rw [free_one h, List.map_map]
  rfl
theorem new_none {H : Hp} {a b : Addr} {o : HO} (h : (upd H a o) b = none) : H b = none := by
  by_cases z : b = a
  · rw [z, upd_same] at h
    cases h
  · rw [upd_ne z] at h
    exact h
section
variable {P : Program} {w : World} {K : PySem.W.Frag} {mg : Str → Option Value} {base : Heap} {dW dB dN : Addr} {esW : Array DictEntry} {nW : Nat} (T : Txt K mg w dW dB esW nW) (N : Runs K mg dN)
include T N
theorem ok_Run_formG {f f1 f2 f3 f4 C CW CR : Addr} {fd fd1 fd2 fd3 fd4 : FuncData} (F : Fun K "_form" "Run._form" s_Run__form f fd) (TC : TreeC K C) (WC : WalkC K CW) (RC : RunC K CR)
    (hMk : HasW P w K mg base CW "make" 1 ["self", "tree", "names"] (spMakeM C CW) f1 fd1) (h_code_of : Has P w K mg base "code_of" 33 ["tree"] (spCodeOf C) f2 fd2) (h_names_for : Has P w K mg base "names_for" 1 ["tree", "names"] (spNamesFor C) f3 fd3)
    (h_behind_runs : Has P w K mg base "behind_runs" 1 ["code", "names", "waiting"] spBehindR f4 fd4) : FnOk P w K mg base CX0 34 f fd ["self", "walk", "tree", "code", "names", "waiting"] (spFormG C CW CR) := by
  refine F.ok sc_Run__form (fun vs H Q E h => ?_) (fun cdv A outer s H vs Q E hr h => ?_)
  · obtain ⟨kn, p, r, aS, aB, dxr, gs, most, kd, steps, f, Reg, G, s, s', M, pt, t, nx, cv, ev, wv, rfl, _⟩ := h
    rfl
  · have hu := hu_of hr
    obtain ⟨kn, p, r, aS, aB, dxr, gs, most, kd, steps, f, Reg, G, s, s', M, pt, t, nx, cv, ev, wv, rfl, hr0, ncr, nrp, RF, mc, rt, ft, sct, nod, el, hc, he, hw, hs, fin⟩ := h
    refine ⟨_, (pss_cons (ps_set (i := 6) sc_Run__form.nd rfl (.inl rfl) (pe_fld (pv 2) (by rfl)))
      (pss_cons (ps_if (pt_cmpR op_eq (pe_fld (pv 2) (by rfl)) pe_str (nomark _)) 
        (pss_cons (ps_set (i := 7) sc_Run__form.nd rfl (.inl rfl) (pe_meth (pv 1) WC.cl hMk.me hMk.ok (hr.mono (by first | decide | omega)) hMk.bi .nil pass0 (pa_cons (pe_ix ix_tup (pv 6) pe_int (fun _ _ => rfl)) (pa_cons (pv 4) pa_nil))))
        (pss_one (ps_ret (pe_tup (pa_cons (pe_tup (pa_cons pe_str (pa_cons (pv 7) (pa_cons (pe_meth (pv 1) WC.cl hMk.me hMk.ok (hr.mono (by first | decide | omega)) hMk.bi .nil pass0 (pa_cons (pe_ix ix_tup (pv 6) pe_int (fun _ _ => rfl)) (pa_cons (pv 4) pa_nil))) pa_nil)))) (pa_cons (pv 3) (pa_cons (pv 4) (pa_cons (pv 5) pa_nil)))))))) pss_nil)
      (pss_cons (ps_if (pt_cmpR op_eq (pe_fld (pv 2) (by rfl)) pe_str (nomark _)) 
        (pss_cons (ps_set (i := 8) sc_Run__form.nd rfl (.inl rfl) (pe_fld (pe_ix ix_tup (pv 6) pe_int (fun _ _ => rfl)) (by rfl)))
        (pss_cons (ps_dput hu (pe_fld (pv 0) (by rfl)) (pv 8) (pe_ix ix_tup (pv 6) pe_int (fun _ _ => rfl)) rfl)
        (pss_one (ps_ret (pe_tup (pa_cons (pe_tup (pa_cons pe_str (pa_cons (pe_fld (pv 2) (by rfl)) (pa_cons (pv 8) (pa_cons (pe_callH h_names_for (hr.mono (by first | decide | omega)) (by rfl) (pa_cons (pv 2) (pa_cons (pv 4) pa_nil))) pa_nil))))) (pa_cons (pv 3) (pa_cons (pv 4) (pa_cons (pv 5) pa_nil))))))))) pss_nil)
      (pss_cons (ps_set (i := 9) sc_Run__form.nd rfl (.inl rfl) (pe_dstar (pv 4) (pe_fld (pv 2) (by rfl)) (pe_meth (pv 1) WC.cl hMk.me hMk.ok (hr.mono (by first | decide | omega)) hMk.bi .nil pass0 (pa_cons (pe_ix ix_tup (pv 6) pe_int (fun _ _ => rfl)) (pa_cons (pv 4) pa_nil)))))
      (pss_one (ps_ret (pe_tup (pa_cons pe_non (pa_cons (pe_callH h_code_of (hr.mono (by first | decide | omega)) (by rfl) (pa_cons (pe_ix ix_tup (pv 6) pe_int (fun _ _ => rfl)) pa_nil)) (pa_cons (pv 9) (pa_cons (pe_callH h_behind_runs (hr.mono (by first | decide | omega)) (by rfl) (pa_cons (pv 3) (pa_cons (pv 4) (pa_cons (pv 5) pa_nil)))) pa_nil))))))))))), ?_⟩
    obtain ⟨dx, tw, tf, cd, qs, ys, g⟩ := mc.tr.node pt t rt
    obtain ⟨dxp, fsp, hp, wf, m1, m2⟩ := mc.wk
    obtain ⟨kvb, hb, bv, bl⟩ := mc.bo
    obtain ⟨kvs, hS, mv, sl⟩ := mc.se
    have gp := g.hp
    have gw := g.hw
    have gf := g.hf
    have gfr := g.fr
    have gk := g.kids
    refine ⟨_, rfl, pt, C, dx, _, _, rfl, gp, TC.cl, TC.nw, tF_within _ _ _ _ _ _, ?_⟩
    cases t with
    | atom k l => exact ft.elim
    | n3 wd b x y z => exact ft.elim
    | n1 wd b x =>
      cases wd with
      | deff =>
        have hkd : (treeF (.str (tx (U.Tm.n1 .deff b x).pr)) (.str (tx (U.Tm.n1 .deff b x).kind)) (smV (U.Tm.n1 .deff b x).small) (.ref tw) (.ref tf) cd).lookup ("kind" : Str) = some (.str (tx Wd.deff.cs)) := tF_kind _ _ _ _ _ _
        have hsm : (treeF (.str (tx (U.Tm.n1 .deff b x).pr)) (.str (tx (U.Tm.n1 .deff b x).kind)) (smV (U.Tm.n1 .deff b x).small) (.ref tw) (.ref tf) cd).lookup ("small" : Str) = some (.str (tx b)) := tF_small _ _ _ _ _ _
        obtain ⟨qx, rfl, rx⟩ : ∃ qx, qs = [qx] ∧ Reg qx x := by
          cases gk with
          | cons a gk =>
            cases gk
            exact ⟨_, rfl, a⟩
        obtain ⟨dx2, tw2, tf2, cd2, qs2, ys2, g2⟩ := mc.tr.node qx x rx
        refine ⟨_, rfl, pt, C, dx, _, _, rfl, gp, TC.cl, TC.nk, hkd, rfl, _, rfl, ite2 (fun z => absurd z (by decide +kernel)) (fun _ => ?_)⟩
        refine ⟨_, rfl, pt, C, dx, _, _, rfl, gp, TC.cl, TC.nk, hkd, rfl, _, rfl, ite2 (fun _ => ?_) (fun z => absurd (by decide +kernel) z)⟩
        refine ⟨_, rfl, tw, _, 0, _, rfl, rfl, .inl (.inl gw), at0 _ _, qx, C, dx2, _, _, rfl, g2.hp, TC.cl, TC.nt, tF_text _ _ _ _ _ _, ?_⟩
        refine ⟨_, rfl, tw, _, 0, _, rfl, rfl, .inl (.inl gw), at0 _ _, _, rfl, r, CR, dxr, _, _, rfl, hr0, RC.cl, RC.nbodies, RF.bodies, _, rfl, aB, _, rfl, DPut.k (k := .inr _) hb (by rw [sizeLine_eq]; omega), ?_⟩
        obtain ⟨mc1, c1⟩ := mc.body (M := M + 1) hb rx
        have k1 := mc.tup c1
        have e1 := mc.env c1 he
        have gp1 : (upd H aB (.dK (putK kvb (.inr (tx x.pr)) (.ref qx)))) pt = some (.ins C dx (treeF (.str (tx (U.Tm.n1 .deff b x).pr)) (.str (tx (U.Tm.n1 .deff b x).kind)) (smV (U.Tm.n1 .deff b x).small) (.ref tw) (.ref tf) cd)) := by
          rw [upd_ne (ne_of gp hb (by intro z; cases z))]
          exact gp
        generalize upd H aB (.dK (putK kvb (.inr (tx x.pr)) (.ref qx))) = H1 at mc1 c1 k1 e1 gp1 ⊢
        refine ⟨_, rfl, pt, C, dx, _, _, rfl, gp1, TC.cl, TC.ns, hsm, _, rfl, _, rfl, _, rfl, pt, dx, tf, _, U.frs (U.Tm.n1 .deff b x), s.env, ev, rfl, gp1, tF_free _ _ _ _ _ _, by rw [← free_tup gfr]; exact k1 _ _ gf, Nat.le_trans (frs_few (mc.tr.fit pt _ rt)) (by decide), e1.v, fun y hy => sct y ((frs_mem _ y).mp hy), fun rr H2 S2 rt2 => ⟨sizeLine_ge (by show 4 ≤ 10000; decide), fun qh hqh => ?_⟩⟩
        have S3 : Same H2 _ := same_new (o := .tup [.str (Str.ofString "def"), .str (tx b), .str (tx x.pr), .ref rr]) hqh
        have e3 : (upd H2 qh (.tup [.str (Str.ofString "def"), .str (tx b), .str (tx x.pr), .ref rr])) qh = some (.tup [.str (Str.ofString "def"), .str (tx b), .str (tx x.pr), .ref rr]) := upd_same
        generalize upd H2 qh (.tup [.str (Str.ofString "def"), .str (tx b), .str (tx x.pr), .ref rr]) = H3 at S3 e3 ⊢
        refine ⟨_, rfl, _, rfl, _, rfl, sizeLine_ge (by show 4 ≤ 10000; decide), fun q hq => ?_⟩
        have S4 := (S2.trans S3).trans (same_new (o := .tup [.ref qh, cv, ev, wv]) hq)
        have c4 := c1.trans (Chg.of_same S4)
        have k4 := mc.tup c4
        have ed : Str.ofString "def" = tx defW := by decide +kernel
        rw [show U.formS U.frs kn (U.Tm.n1 .deff b x) nx s = .go { s with code := nx, head := some (.dfn b x (U.rowsOf (U.frs (U.Tm.n1 .deff b x)) s.env)) } from rfl] at hs
        cases hs
        refine fin G _ q _ _ _ _ (fun _ h => h) c4 ((mc1.same S4).less (by omega)) ⟨hc.keep k4 fun _ _ h => h, mc.env c4 he, hw.keep k4 (fun _ _ h => h) fun v e h => mc.env c4 h, ⟨qh, rr, rfl, ?_, rt2.keep (TupS.of (S3.trans (same_new hq)))⟩⟩ upd_same
        rw [← ed]
        exact same_new hq _ _ e3
      | _ => exact ft.elim
    | n2 wd b x y =>
      obtain ⟨qx, qy, rfl, rx, ry⟩ : ∃ qx qy, qs = [qx, qy] ∧ Reg qx x ∧ Reg qy y := by
        cases gk with
        | cons a gk =>
          cases gk with
          | cons c gk =>
            cases gk
            exact ⟨_, _, rfl, a, c⟩
      cases wd with
      | pair =>
        have hkd : (treeF (.str (tx (U.Tm.n2 .pair b x y).pr)) (.str (tx (U.Tm.n2 .pair b x y).kind)) (smV (U.Tm.n2 .pair b x y).small) (.ref tw) (.ref tf) cd).lookup ("kind" : Str) = some (.str (tx Wd.pair.cs)) := tF_kind _ _ _ _ _ _
        refine ⟨_, rfl, pt, C, dx, _, _, rfl, gp, TC.cl, TC.nk, hkd, rfl, _, rfl, ite2 (fun _ => ?_) (fun z => absurd (by decide +kernel) z)⟩
        refine ⟨_, rfl, p, dxp, fsp, rfl, hp, m1, _, rfl, tw, _, 0, _, rfl, rfl, .inl (.inl gw), at0 _ _, _, rfl, kn, p, aS, aB, f, Reg, G, s.made, M + 1, qx, x, s.env, ev, rfl, mc, rx, he, fun H1 c1 mc1 => ?_⟩
        obtain ⟨dxp1, fsp1, hp1, wf1, m11, m12⟩ := mc1.wk
        have k1 := mc.tup c1
        refine ⟨_, rfl, _, rfl, p, dxp1, fsp1, rfl, hp1, m11, _, rfl, tw, _, 1, _, rfl, rfl, .inl (.inl (k1 _ _ gw)), at1 _ _ _, _, rfl, kn, p, aS, aB, f, Reg, G, s.made ++ [(x, s.env)], M, qy, y, s.env, ev, rfl, mc1, ry, mc.env c1 he, fun H2 c2 mc2 => ⟨sizeLine_ge (by show 3 ≤ 10000; decide), fun qh hqh => ?_⟩⟩
        have en : (s.made ++ [(x, s.env)]).length + 1 = s.made.length + 2 := by simp
        rw [en]
        have S3 : Same H2 _ := same_new (o := .tup [.str (Str.ofString "pair"), .str (tx (U.madeNm kn (s.made.length + 1))), .str (tx (U.madeNm kn (s.made.length + 2)))]) hqh
        have e3 : (upd H2 qh (.tup [.str (Str.ofString "pair"), .str (tx (U.madeNm kn (s.made.length + 1))), .str (tx (U.madeNm kn (s.made.length + 2)))])) qh = some (.tup [.str (Str.ofString "pair"), .str (tx (U.madeNm kn (s.made.length + 1))), .str (tx (U.madeNm kn (s.made.length + 2)))]) := upd_same
        generalize upd H2 qh (.tup [.str (Str.ofString "pair"), .str (tx (U.madeNm kn (s.made.length + 1))), .str (tx (U.madeNm kn (s.made.length + 2)))]) = H3 at S3 e3 ⊢
        refine ⟨_, rfl, _, rfl, _, rfl, sizeLine_ge (by show 4 ≤ 10000; decide), fun q hq => ?_⟩
        have S4 := S3.trans (same_new (o := .tup [.ref qh, cv, ev, wv]) hq)
        have c4 := (c1.trans c2).trans (Chg.of_same S4)
        have k4 := mc.tup c4
        have ed : Str.ofString "pair" = tx pairW := by decide +kernel
        rw [show U.formS U.frs kn (U.Tm.n2 .pair b x y) nx s = .go { s with code := nx, made := s.made ++ [(x, s.env), (y, s.env)], head := some (.pair (U.madeNm kn (s.made.length + 1)) (U.madeNm kn (s.made.length + 2))) } from rfl] at hs
        cases hs
        have em : s.made ++ [(x, s.env)] ++ [(y, s.env)] = s.made ++ [(x, s.env), (y, s.env)] := by simp
        rw [em] at mc2
        refine fin G _ q _ _ _ _ (fun _ h => h) c4 (mc2.same S4) ⟨hc.keep k4 fun _ _ h => h, mc.env c4 he, hw.keep k4 (fun _ _ h => h) fun v e h => mc.env c4 h, ⟨qh, rfl, ?_⟩⟩ upd_same
        rw [← ed]
        exact same_new hq _ _ e3
      | lett =>
        have hkd : (treeF (.str (tx (U.Tm.n2 .lett b x y).pr)) (.str (tx (U.Tm.n2 .lett b x y).kind)) (smV (U.Tm.n2 .lett b x y).small) (.ref tw) (.ref tf) cd).lookup ("kind" : Str) = some (.str (tx Wd.lett.cs)) := tF_kind _ _ _ _ _ _
        have hsm : (treeF (.str (tx (U.Tm.n2 .lett b x y).pr)) (.str (tx (U.Tm.n2 .lett b x y).kind)) (smV (U.Tm.n2 .lett b x y).small) (.ref tw) (.ref tf) cd).lookup ("small" : Str) = some (.str (tx b)) := tF_small _ _ _ _ _ _
        refine ⟨_, rfl, pt, C, dx, _, _, rfl, gp, TC.cl, TC.nk, hkd, rfl, _, rfl, ite2 (fun z => absurd z (by decide +kernel)) (fun _ => ?_)⟩
        refine ⟨_, rfl, pt, C, dx, _, _, rfl, gp, TC.cl, TC.nk, hkd, rfl, _, rfl, ite2 (fun z => absurd z (by decide +kernel)) (fun _ => ?_)⟩
        obtain ⟨aE, kve, rfl, gE, hE, pk⟩ := id he
        intro nd hnd
        have nEd : aE ≠ nd := ne_of_none hE hnd
        have l1 : kve.length ≤ 1000000 := by rw [pk.length]; exact el
        refine ⟨_, rfl, aE, kve, rfl, same_new hnd _ _ hE, nEd, upd_same, l1, fun q0 hq0 => ?_⟩
        rw [upd_upd] at hq0 ⊢
        have hq0' : H q0 = none := new_none hq0
        have nqd : q0 ≠ nd := fun z => by rw [z, upd_same] at hq0; cases hq0
        have S1 : Same H (upd (upd H nd (.dK (mergeK [] kve))) q0 (.dK [])) := (same_new hnd).trans (same_new hq0)
        have a1 : (upd (upd H nd (.dK (mergeK [] kve))) q0 (.dK [])) q0 = some (.dK []) := upd_same
        have a2 : (upd (upd H nd (.dK (mergeK [] kve))) q0 (.dK [])) nd = some (.dK (mergeK [] kve)) := by
          rw [upd_ne (Ne.symm nqd)]
          exact upd_same
        generalize upd (upd H nd (.dK (mergeK [] kve))) q0 (.dK []) = H1 at S1 a1 a2 ⊢
        have mc1 := mc.same S1
        have gp1 := S1 _ _ gp
        have hp1 := S1 _ _ hp
        refine ⟨_, rfl, pt, C, dx, _, _, rfl, gp1, TC.cl, TC.ns, hsm, _, rfl, p, dxp, fsp, rfl, hp1, m1, _, rfl, tw, _, 0, _, rfl, rfl, .inl (.inl (S1 _ _ gw)), at0 _ _, _, rfl, kn, p, aS, aB, f, Reg, G, s.made, M + 1, qx, x, s.env, .ref aE, rfl, mc1, rx, mc.env (Chg.of_same S1) he, fun H2 c2 mc2 => ?_⟩
        have fr : ∀ a, H a = none → a ≠ p ∧ a ≠ aS ∧ a ≠ aB := fun a ha => ⟨Ne.symm (ne_of_none hp ha), Ne.symm (ne_of_none hS ha), Ne.symm (ne_of_none hb ha)⟩
        have b1 := c2 _ _ a1 (fr _ hq0').1 (fr _ hq0').2.1 (fr _ hq0').2.2 (by intro _ _ z; cases z)
        have b2 := c2 _ _ a2 (fr _ hnd).1 (fr _ hnd).2.1 (fr _ hnd).2.2 (by intro _ _ z; cases z)
        have l2 := mergeK_len [] kve
        refine ⟨.inr (tx b), mergeK [] kve, rfl, b1, b2, nqd, by simp only [List.length_nil] at l2; omega, ?_⟩
        have gfresh : ∀ a, H a = none → ¬ G a := fun a ha ga => by
          obtain ⟨kv, e⟩ := mc.gh a ga
          rw [ha] at e
          cases e
        have c12 := (Chg.of_same (C := C) (p := p) (aS := aS) (aB := aB) S1).trans c2
        have pk3 : PairK (fun v (k : U.Nm) => v = .str (tx k)) (mergeK (mergeK [] kve) [(.inr (tx b), .str (tx (U.madeNm kn (s.made.length + 1))))]) (putR s.env b (U.madeNm kn (s.made.length + 1))) := (merge_self pk nod).put rfl
        have e3 : (upd (upd H2 q0 (.dK [(.inr (tx b), .str (tx (U.madeNm kn (s.made.length + 1))))])) nd (.dK (mergeK (mergeK [] kve) [(.inr (tx b), .str (tx (U.madeNm kn (s.made.length + 1))))]))) nd = some (.dK (mergeK (mergeK [] kve) [(.inr (tx b), .str (tx (U.madeNm kn (s.made.length + 1))))])) := upd_same
        have kp3 : ∀ a, a ≠ nd → a ≠ q0 → (upd (upd H2 q0 (.dK [(.inr (tx b), .str (tx (U.madeNm kn (s.made.length + 1))))])) nd (.dK (mergeK (mergeK [] kve) [(.inr (tx b), .str (tx (U.madeNm kn (s.made.length + 1))))]))) a = H2 a := fun a n1 n2 => by rw [upd_ne n1, upd_ne n2]
        generalize upd (upd H2 q0 (.dK [(.inr (tx b), .str (tx (U.madeNm kn (s.made.length + 1))))])) nd (.dK (mergeK (mergeK [] kve) [(.inr (tx b), .str (tx (U.madeNm kn (s.made.length + 1))))])) = H3 at e3 kp3 ⊢
        have c3 : Chg C p aS aB H H3 := fun a o e n1 n2 n3 n4 => by
          rw [kp3 a (ne_of_none e hnd) (ne_of_none e hq0')]
          exact c12 a o e n1 n2 n3 n4
        have mc3 : Mach C CW kn p aS aB f Reg (fun a => G a ∨ a = nd) H3 (s.made ++ [(x, s.env)]) (M + 1) := by
          refine mc2.off _ (fun a h => .inl h) (fun z => z.elim mc.gS fun z => (fr _ hnd).2.1 z.symm) (fun z => z.elim mc.gB fun z => (fr _ hnd).2.2 z.symm) (fun a h => ?_) (fun a o e h => ?_)
          · rcases h with h | rfl
            · obtain ⟨kv, e⟩ := mc2.gh a h
              obtain ⟨kv0, e0⟩ := mc.gh a h
              exact ⟨kv, by rw [kp3 a (ne_of_none e0 hnd) (ne_of_none e0 hq0')]; exact e⟩
            · exact ⟨_, e3⟩
          · have n1 : a ≠ nd := by
              intro z
              rcases h with h | h | h | h
              · exact gfresh nd hnd (z ▸ h)
              · rw [z, b2] at e
                exact h _ (Option.some.inj e).symm
              · exact (fr _ hnd).2.1 (z ▸ h)
              · exact (fr _ hnd).2.2 (z ▸ h)
            have n2 : a ≠ q0 := by
              intro z
              rcases h with h | h | h | h
              · exact gfresh q0 hq0' (z ▸ h)
              · rw [z, b1] at e
                exact h _ (Option.some.inj e).symm
              · exact (fr _ hq0').2.1 (z ▸ h)
              · exact (fr _ hq0').2.2 (z ▸ h)
            rw [kp3 a n1 n2]
            exact e
        have k3 := mc.tup c3
        obtain ⟨N, fy⟩ := mc.tr.fit qy y ry
        refine ⟨_, rfl, tw, _, 1, _, rfl, rfl, .inl (.inl (k3 _ _ gw)), at1 _ _ _, Reg, qy, y, rfl, mc3.tr.toTrees, ry, fy.depth, fun cv' H4 b4 TR4 hc4 => ?_⟩
        obtain ⟨mc4, c4⟩ := mc3.butT b4 TR4
        have c04 := c3.trans c4
        have k4 := mc.tup c04
        have hm : ∀ {v : V} {e : U.En}, EnvA G H e v → EnvA (fun a => G a ∨ a = nd) H4 e v := fun h => (mc.env c04 h).more fun a h => .inl h
        refine ⟨_, rfl, _, rfl, _, rfl, _, rfl, Reg, EnvF (fun a => G a ∨ a = nd) H4, nx, s.env, s.wait, cv, .ref aE, wv, rfl, hc.keep k4 fun _ _ h => h, hm he, hw.keep k4 (fun _ _ h => h) fun v e h => hm h, fun wv' H5 S5 hw5 => ⟨sizeLine_ge (by show 4 ≤ 10000; decide), fun q hq => ?_⟩⟩
        have S6 := S5.trans (same_new (o := .tup [.non, cv', .ref nd, wv']) hq)
        have c6 := c04.trans (Chg.of_same S6)
        rw [show U.formS U.frs kn (U.Tm.n2 .lett b x y) nx s = .go { s with code := U.coded y 1 .endd, env := putR s.env b (U.madeNm kn (s.made.length + 1)), wait := U.behindW nx s.env s.wait, made := s.made ++ [(x, s.env)], head := none } from rfl] at hs
        cases hs
        have c46 := Chg.of_same (C := C) (p := p) (aS := aS) (aB := aB) S6
        have S56 := same_new (o := .tup [.non, cv', .ref nd, wv']) hq
        refine fin _ _ q _ _ _ _ (fun a h => .inl h) c6 ((mc4.same S6).less (by omega)) ⟨hc4.keep (TupS.of S6) fun _ _ h => h, ⟨nd, _, rfl, .inr rfl, S6 _ _ (c4 _ _ e3 (fr _ hnd).1 (fr _ hnd).2.1 (fr _ hnd).2.2 (by intro _ _ z; cases z)), pk3⟩, hw5.keep (TupS.of S56) (fun _ _ h => h) fun v e h => mc4.env c46 h, rfl⟩ upd_same
      | _ => exact ft.elim
end
end K


set_option Elab.async false
set_option linter.all false
set_option maxRecDepth 100000
set_option maxHeartbeats 4000000
/-! a dict's comprehension over whatever is walked -/
namespace U
open PySem PySem.Spec PyProof.Rows L2
/-- what one turn of it does, the heap behind it as N says -/
abbrev DcTurn (g : TG) (tt : TT) (tk tv : TE) (vs : List Nat) (σ : L2.St) (D : Addr) (N : Hp → Prop) (x : V) (H' : Hp) : Prop :=
  g x (wipe σ vs) H' fun σ2 H2 => wipe σ2 vs = wipe σ vs ∧ tt σ2 H2 fun b H3 =>
    if b = true then tk σ2 H3 fun y H4 => tv σ2 H4 fun z H5 => ∃ kvs k, y = kV k ∧ H5 D = some (.dK kvs) ∧ kvs.length < sizeLine ∧ N (upd H5 D (.dK (putK kvs k z))) else N H3
theorem dc_do {J : It} {n : Nat} {G : Hp → Prop} {Y : Nat → Hp → V → Hp → Prop} (wk : Walk J n G Y) {g : TG} {tt : TT} {tk tv : TE} {vs : List Nat} {σ : L2.St} {H1 : Hp} {D : Addr} {Qd : Hp → Prop} (Pv : Nat → Hp → Prop)
    (start : Pv 0 (upd H1 D (.dK []))) (stays : ∀ i Hi, i ≤ n → Pv i Hi → G Hi) (turn : ∀ i x Hi H', i < n → Pv i Hi → Y i Hi x H' → DcTurn g tt tk tv vs σ D (Pv (i + 1)) x H') (stop : ∀ Hi, Pv n Hi → Qd Hi) :
    ∃ W : Nat → Nat → Hp → Prop, (∃ m, W 0 m (upd H1 D (.dK []))) ∧ ∀ i m Hi, W i m Hi → (J.stop i Hi ∧ Qd Hi) ∨ (J.go i Hi ∧ ∃ Nx : Hp → Prop, (∀ H', Nx H' → ∃ m', m' < m ∧ W (i + 1) m' H') ∧ ∀ x H', J.yld i Hi x H' → DcTurn g tt tk tv vs σ D Nx x H') := by
  refine ⟨fun i m Hi => i + m = n ∧ Pv i Hi, ⟨n, Nat.zero_add n, start⟩, fun i m Hi hW => ?_⟩
  obtain ⟨him, hP⟩ := hW
  have hGi := stays i Hi (by omega) hP
  match m, him with
  | 0, him =>
    obtain rfl : i = n := by omega
    exact .inl ⟨wk.stops Hi hGi, stop Hi hP⟩
  | m + 1, him =>
    have hin : i < n := by omega
    exact .inr ⟨wk.goes i Hi hin hGi, Pv (i + 1), fun H' hN => ⟨m, by omega, by omega, hN⟩, fun x H' hy => turn i x Hi H' hin hP (wk.yields i Hi x H' hin hGi hy)⟩
end U

set_option Elab.async false
set_option linter.all false
set_option maxRecDepth 100000
set_option maxHeartbeats 4000000
/-! x = {k: v for ..}, x a plain local -/
namespace U
open PySem PySem.Spec PyProof.Rows L2
theorem sw_trueD {kx vx : Expr} {gs : List Comprehension} {scope : Scope} {pos py : Pos} {y : Str} {l : Nat} {env : Env} (hk : env.scope.kind = .function) (hy : env.scope.names.lookup y = some .local) (hl : (py.line == pos.line) = true)
    (ha : (scope.names.any fun (n, k) => n == y && (k == .local || k == .cell)) = false) : swapsWith (.DictComp kx vx gs scope pos) (some (.Name y py)) l env = pure true := by
  have ky : env.kindOf y = some .local := hy
  have hb : env.blockKind = .function := by unfold Env.blockKind; rw [hk]; rfl
  unfold swapsWith
  simp only [hb, ky, ha, Expr.pos, hl]
  rfl
section
variable {X : Cx}
theorem ps_setDc {i : Nat} {y : Str} {py : Pos} {kx vx tg iter : Expr} {ifs : List Expr} {scope : Scope} {own : List (Str × Nat)} {pos spos : Pos} {wi : TI} {g : TG} {tt : TT} {tk tv : TE} (hc : X.calm = true) (hN : X.N.Nodup) (hy : X.N[i]? = some y) (hyl : X.env.scope.names.lookup y = some .local)
    (hsw : swapsWith (.DictComp kx vx [⟨tg, iter, ifs, 0⟩] scope pos) (some (.Name y py)) spos.line X.env = pure true) (hi : PI X tg iter wi) (ok : BlkOk X.N X.env.scope scope own)
    (hg : ∀ (s : Shared) (H : Hp) (C : Addr) (cl : List (Str × Addr)) (fp : List Addr), PG (X.blk s H scope (compEnvC scope cl C X.env) fp) tg g) (ht : ∀ (s : Shared) (H : Hp) (C : Addr) (cl : List (Str × Addr)) (fp : List Addr), PTs (X.blk s H scope (compEnvC scope cl C X.env) fp) ifs tt)
    (hk : ∀ (s : Shared) (H : Hp) (C : Addr) (cl : List (Str × Addr)) (fp : List Addr), PE (X.blk s H scope (compEnvC scope cl C X.env) fp) kx tk)
    (he : ∀ (s : Shared) (H : Hp) (C : Addr) (cl : List (Str × Addr)) (fp : List Addr), PE (X.blk s H scope (compEnvC scope cl C X.env) fp) vx tv) (hs : ∀ x, foldedSetIterable iter X.env x = pure x := by intro _; rfl) :
    PS X (.Assign [.Name y py] (.DictComp kx vx [⟨tg, iter, ifs, 0⟩] scope pos) spos) (tAsg (tDc wi g tt tk tv (own.map (·.2))) (gName i)) := by
  refine ⟨fun pins s σ H D I h => ?_⟩
  rw [exec_Assign_Name_used _ _ _ _ hsw]
  refine wpAny_bind (wpAny_standAt (wpAny_bind ?_))
  show wpAny _ X.A (do let _ ← comprehension (.DictComp kx vx [⟨tg, iter, ifs, 0⟩] scope pos) scope X.env (firstIterPos [⟨tg, iter, ifs, 0⟩] pos) newDict false (eval iter X.env) (some (assign (.Name y py) X.env))) _ _ s
  have h : tDc wi g tt tk tv (own.map (·.2)) σ H (fun x H1 => gName i x σ H1 D.nx) := h
  refine wpAny_bind (thn (dc_core (Qf := fun _ s' => SP X pins D .next s') hc hN I hi ok hg ht hk he hs h fun L C s' m H' I' q hn f => ?_) fun _ s' hq => wpAny_pure (wpAny_pure hq))
  show wpAny _ _ (assign (.Name y py) X.env (.ref L)) _ _ _
  refine wpAny_assign_Name (store_ok2 (v := V.ref L) I' hN hy (.inl hyl) rfl (fun s2 I2 ⟨a, sb, ha⟩ => ?_) (.inr hyl))
  obtain ⟨f0, f1, f2, f3, f4, f5⟩ := f
  have haC : C ≠ a := by
    rcases ha with z | z
    · rw [z]; exact f1
    · exact fun e => f4 y a z e.symm
  refine ⟨m, hn.sameBut sb haC, fun h3 sb3 => ?_⟩
  exact ⟨_, H', I2.turned (t' := s2.toks) (fun b o hb e => (sb3.2 b hb).trans e) f0 f1 f3 f4 f5, q⟩
end
end U

set_option Elab.async false
set_option linter.all false
set_option maxRecDepth 100000
set_option maxHeartbeats 4000000
set_option pp.maxSteps 3000
namespace K
open PySem PySem.Spec PyProof.Rows L2 U
theorem Paired.at2 {α β : Type} {R : α → β → Prop} : ∀ {xs : List α} {ys : List β}, Paired R xs ys → ∀ {i : Nat} {x : α}, xs[i]? = some x → ∃ y, ys[i]? = some y ∧ R x y
  | _, _, .nil, i, x, h => by simp at h
  | _, _, .cons (a := a) (b := b) r t, 0, x, h => ⟨b, rfl, by
    have e : a = x := Option.some.inj h
    exact e ▸ r⟩
  | _, _, .cons r t, i + 1, x, h => by
    obtain ⟨y, h1, h2⟩ := Paired.at2 t (i := i) (x := x) (by simpa using h)
    exact ⟨y, by simpa using h1, h2⟩
/-- a def is called -/
def spCallG (C CW CR : Addr) : Sp := fun vs H Q _ => ∃ (kn : U.Nm) (p r aS aB dxr : Addr) (gs : List (Str × V)) (most kd steps : V) (f : WF) (Reg : Addr → U.Tm → Prop) (G : Addr → Prop) (s : U.St) (M : Nat) (pt : Addr) (t : U.Tm) (nx : U.Cd) (x : U.Nm) (b : U.Tm) (ns : U.En) (cv ev wv hv : V), vs = [.ref r, .ref p, .ref pt, hv, cv, ev, wv] ∧ H r = some (.ins CR dxr gs) ∧ CR ≠ C ∧ r ≠ p ∧ RunF gs most kd (.ref aB) steps ∧
  Mach C CW kn p aS aB f Reg G H s.made (M + 2) ∧ Reg pt t ∧ HdV H (.dfn x b ns) hv ∧ (∃ N, Fit b N) ∧ ns.length ≤ 1000 ∧ CodeV Reg H nx cv ∧ EnvA G H s.env ev ∧ WtV Reg (EnvF G H) H s.wait wv ∧
  ∀ Reg' G' H' q cv' ev' wv', (∀ p t, Reg p t → Reg' p t) → (∀ a, G a → G' a) → Chg C p aS aB H H' → Mach C CW kn p aS aB f Reg' G' H' (s.made ++ [(t, s.env)]) M → CodeV Reg' H' (U.coded b 1 .endd) cv' → EnvA G' H' (putR (putAll [] ns) x (U.madeNm kn (s.made.length + 1))) ev' → WtV Reg' (EnvF G' H') H' (U.behindW nx s.env s.wait) wv' → H' q = some (.tup [cv', ev', wv']) → Q (.ref q) H'
section
variable {P : Program} {w : World} {K : PySem.W.Frag} {mg : Str → Option Value} {base : Heap} {dW dB dN : Addr} {esW : Array DictEntry} {nW : Nat} (T : Txt K mg w dW dB esW nW) (N : Runs K mg dN)
include T N
theorem ok_Run_callG {f f1 f2 f3 f4 C CW CR : Addr} {fd fd1 fd2 fd3 fd4 : FuncData} (F : Fun K "_call" "Run._call" s_Run__call f fd) (TC : TreeC K C) (WC : WalkC K CW) (RC : RunC K CR)
    (hMk : HasW P w K mg base CW "make" 1 ["self", "tree", "names"] (spMakeM C CW) f1 fd1) (h_code_of : Has P w K mg base "code_of" 33 ["tree"] (spCodeOf C) f2 fd2) (h_tree_of : Has P w K mg base "tree_of" 6 ["text"] (spTreeOf C) f3 fd3)
    (h_behind_runs : Has P w K mg base "behind_runs" 1 ["code", "names", "waiting"] spBehindR f4 fd4) : FnOk P w K mg base CX0 34 f fd ["self", "walk", "tree", "head", "code", "names", "waiting"] (spCallG C CW CR) := by
  refine F.ok sc_Run__call (fun vs H Q E h => ?_) (fun cdv A outer s H vs Q E hr h => ?_)
  · obtain ⟨kn, p, r, aS, aB, dxr, gs, most, kd, steps, f, Reg, G, s, M, pt, t, nx, x, b, ns, cv, ev, wv, hv, rfl, _⟩ := h
    rfl
  · have hu := hu_of hr
    obtain ⟨kn, p, r, aS, aB, dxr, gs, most, kd, steps, f, Reg, G, s, M, pt, t, nx, x, b, ns, cv, ev, wv, hv, rfl, hr0, ncr, nrp, RF, mc, rt, hh, fb, nl, hc, he, hw, fin⟩ := h
    refine ⟨_, (pss_cons (ps_asg (pv 3) (pg_tup rfl (pgs_cons (pg_name (i := 7) sc_Run__call.nd rfl (.inl rfl)) (pgs_cons (pg_name (i := 8) sc_Run__call.nd rfl (.inl rfl)) (pgs_cons (pg_name (i := 9) sc_Run__call.nd rfl (.inl rfl)) (pgs_cons (pg_name (i := 10) sc_Run__call.nd rfl (.inl rfl)) pgs_nil))))))
      (pss_cons (ps_setDc (own := [("name", 13), ("knot", 14)]) (i := 11) (g := gTup K 2 (gCons (gName 13) (gCons (gName 14) gNil))) (tt := tYes) rfl sc_Run__call.nd rfl rfl (sw_trueD rfl rfl rfl rfl) (pi_tup (pv 10)) (blkOk_by (N := nm_Run__call) (sc := defScope s_Run__call) (by decide +kernel)) (fun _ _ _ _ _ => pg_tup rfl (pgs_cons (pg_name (i := 13) sc_Run__call.nd rfl (.inl rfl)) (pgs_cons (pg_name (i := 14) sc_Run__call.nd rfl (.inl rfl)) pgs_nil))) (fun _ _ _ _ _ => pts_nil) (fun _ _ _ _ _ => (pv 13)) (fun _ _ _ _ _ => (pv 14)))
      (pss_cons (ps_dput hu (pv 11) (pv 8) (pe_meth (pv 1) WC.cl hMk.me hMk.ok (hr.mono (by first | decide | omega)) hMk.bi .nil pass0 (pa_cons (pv 2) (pa_cons (pv 5) pa_nil))) rfl)
      (pss_cons (ps_set (i := 12) sc_Run__call.nd rfl (.inl rfl) (pe_dget1 hu (pe_fld (pv 0) (by rfl)) (pv 9) ⟨by rfl, by rfl, by rfl, by rfl⟩))
      (pss_cons (ps_if (pt_cmpR op_isN (pv 12) pe_non (nomark _)) 
        (pss_cons (ps_set (i := 12) sc_Run__call.nd rfl (.inl rfl) (pe_callH h_tree_of (hr.mono (by first | decide | omega)) (by rfl) (pa_cons (pv 9) pa_nil)))
        (pss_one (ps_dput hu (pe_fld (pv 0) (by rfl)) (pv 9) (pv 12) rfl))) pss_nil)
      (pss_one (ps_ret (pe_tup (pa_cons (pe_callH h_code_of (hr.mono (by first | decide | omega)) (by rfl) (pa_cons (pv 12) pa_nil)) (pa_cons (pv 11) (pa_cons (pe_callH h_behind_runs (hr.mono (by first | decide | omega)) (by rfl) (pa_cons (pv 4) (pa_cons (pv 5) (pa_cons (pv 6) pa_nil)))) pa_nil))))))))))), ?_⟩
    obtain ⟨dxp, fsp, hp, wf, m1, m2⟩ := mc.wk
    obtain ⟨kvb, hb, bv, bl⟩ := mc.bo
    obtain ⟨kvs, hS, mv, sl⟩ := mc.se
    obtain ⟨a, rr, rfl, ha, qs, hrr, hqs⟩ := hh
    refine ⟨_, rfl, a, _, rfl, .inl (.inl ha), rfl, _, _, rfl, _, _, rfl, _, _, rfl, _, _, rfl, rfl, ?_⟩
    refine ⟨_, rfl, rr, rfl, ⟨_, .inl (.inl hrr)⟩, fun D hD => dc_do (g := gTup K 2 (gCons (gName 13) (gCons (gName 14) gNil))) (tt := tYes) (tk := tVar 13) (tv := tVar 14) (vs := [13, 14]) (walk_tup (xs := qs.map V.ref)) (fun i H' => Same H H' ∧ ∃ kv, H' D = some (.dK kv) ∧ PairK (fun v (k : U.Nm) => v = .str (tx k)) kv (putAll [] (ns.take i))) ⟨same_new hD, [], upd_same, .nil⟩ (fun i Hi _ h => .inl (.inl (h.1 _ _ hrr))) ?_ ?_⟩
    · rintro i v Hi H' hi ⟨s1, kv, hk, pk⟩ ⟨rfl, hx⟩
      rw [List.getElem?_map] at hx
      obtain ⟨q0, hq0, rfl⟩ : ∃ q0, qs[i]? = some q0 ∧ V.ref q0 = v := by
        cases e : qs[i]? with
        | none => rw [e] at hx; cases hx
        | some y => rw [e] at hx; exact ⟨y, rfl, Option.some.inj hx⟩
      obtain ⟨row, hr1, hr2⟩ := Paired.at2 hqs hq0
      have kl : kv.length ≤ 1000 := by
        have h1 : kv.length = _ := Paired.length pk
        have h2 := putAll_len (α := U.Nm) [] (ns.take i)
        rw [List.length_take] at h2
        have : ([] : U.En).length = 0 := rfl
        omega
      refine ⟨q0, _, rfl, .inl (.inl (s1 _ _ hr2)), rfl, _, _, rfl, _, _, rfl, rfl, rfl, ?_⟩
      unfold tYes
      refine iteT ?_
      refine ⟨_, rfl, _, rfl, kv, .inr (tx row.1), rfl, hk, sizeLine_ge (by show kv.length + 1 ≤ 10000; omega), upd_new hD s1, _, upd_same, ?_⟩
      rw [List.take_succ, hr1]
      show PairK _ _ (putAll [] (ns.take i ++ [row]))
      rw [putAll_add]
      exact pk.put rfl
    · rintro H1 ⟨S1, kv, hk, pk⟩
      have hlen : (qs.map V.ref).length = ns.length := by rw [List.length_map, hqs.length]
      rw [hlen, List.take_length] at pk
      have al := putAll_len (α := U.Nm) [] ns
      have kl : kv.length ≤ 1000 := by
        have h1 : kv.length = _ := Paired.length pk
        have : ([] : U.En).length = 0 := rfl
        omega
      have mc1 := mc.same S1
      have hp1 := S1 _ _ hp
      have fr : D ≠ p ∧ D ≠ aS ∧ D ≠ aB := ⟨Ne.symm (ne_of_none hp hD), Ne.symm (ne_of_none hS hD), Ne.symm (ne_of_none hb hD)⟩
      have gD : ¬ G D := fun ga => by
        obtain ⟨kv, e⟩ := mc.gh D ga
        rw [hD] at e
        cases e
      refine ⟨_, rfl, p, dxp, fsp, rfl, hp1, m1, _, rfl, _, rfl, kn, p, aS, aB, f, Reg, G, s.made, M + 1, pt, t, s.env, ev, rfl, mc1, rt, mc.env (Chg.of_same S1) he, fun H2 c2 mc2 => ?_⟩
      have c02 := (Chg.of_same (C := C) (p := p) (aS := aS) (aB := aB) S1).trans c2
      have hD2 := c2 _ _ hk fr.1 fr.2.1 fr.2.2 (by intro _ _ z; cases z)
      refine ⟨_, rfl, _, rfl, D, _, rfl, DPut.k (k := .inr _) hD2 (by rw [sizeLine_eq]; omega), ?_⟩
      have e3 : (upd H2 D (.dK (putK kv (.inr (tx x)) (.str (tx (U.madeNm kn (s.made.length + 1))))))) D = some (.dK (putK kv (.inr (tx x)) (.str (tx (U.madeNm kn (s.made.length + 1)))))) := upd_same
      have kp3 : ∀ a, a ≠ D → (upd H2 D (.dK (putK kv (.inr (tx x)) (.str (tx (U.madeNm kn (s.made.length + 1))))))) a = H2 a := fun a n1 => upd_ne n1
      have pk3 : PairK (fun v (k : U.Nm) => v = .str (tx k)) (putK kv (.inr (tx x)) (.str (tx (U.madeNm kn (s.made.length + 1))))) (putR (putAll [] ns) x (U.madeNm kn (s.made.length + 1))) := pk.put rfl
      generalize upd H2 D (.dK (putK kv (.inr (tx x)) (.str (tx (U.madeNm kn (s.made.length + 1)))))) = H3 at e3 kp3 ⊢
      have c3 : Chg C p aS aB H H3 := fun a o e n1 n2 n3 n4 => by
        rw [kp3 a (ne_of_none e hD)]
        exact c02 a o e n1 n2 n3 n4
      have mc3 : Mach C CW kn p aS aB f Reg (fun a => G a ∨ a = D) H3 (s.made ++ [(t, s.env)]) (M + 1) := by
        refine mc2.off _ (fun a h => .inl h) (fun z => z.elim mc.gS fun z => fr.2.1 z.symm) (fun z => z.elim mc.gB fun z => fr.2.2 z.symm) (fun a h => ?_) (fun a o e h => ?_)
        · rcases h with h | rfl
          · obtain ⟨kv, e⟩ := mc2.gh a h
            obtain ⟨kv0, e0⟩ := mc.gh a h
            exact ⟨kv, by rw [kp3 a (ne_of_none e0 hD)]; exact e⟩
          · exact ⟨_, e3⟩
        · have n1 : a ≠ D := by
            intro z
            rcases h with h | h | h | h
            · exact gD (z ▸ h)
            · rw [z, hD2] at e
              exact h _ (Option.some.inj e).symm
            · exact fr.2.1 (z ▸ h)
            · exact fr.2.2 (z ▸ h)
          rw [kp3 a n1]
          exact e
      have eD : EnvA (fun a => G a ∨ a = D) H3 (putR (putAll [] ns) x (U.madeNm kn (s.made.length + 1))) (.ref D) := ⟨D, _, rfl, .inr rfl, e3, pk3⟩
      have nrS : r ≠ aS := fun z => by rw [z, hS] at hr0; cases hr0
      have nrB : r ≠ aB := fun z => by rw [z, hb] at hr0; cases hr0
      have nins : ∀ dx fs, HO.ins CR dxr gs ≠ .ins C dx fs := fun dx fs z => by
        injection z with z
        exact ncr z
      have hr3 := c3 _ _ hr0 nrp nrS nrB nins
      obtain ⟨kvb3, hb3, bv3, bl3⟩ := mc3.bo
      refine ⟨_, rfl, r, CR, dxr, _, _, rfl, hr3, RC.cl, RC.nbodies, RF.bodies, aB, rfl, .inl ⟨_, .inl hb3⟩, _, rfl, _, DGet.k (k := .inr (tx b.pr)) hb3, ?_⟩
      cases ov : valV kvb3 (.inr (tx b.pr)) with
      | some v =>
        obtain ⟨pb, tb, rfl, e, rb⟩ := bv3 _ _ ov
        obtain ⟨N1, ft1⟩ := mc3.tr.fit pb tb rb
        obtain ⟨N0, fb0⟩ := id fb
        cases pr_inj fb0.ok ft1.ok (tx_inj e)
        refine ⟨_, rfl, rfl, _, rfl, ite2 (fun z => absurd z (by simp)) (fun _ => ?_)⟩
        have mc5 := mc3.less (Nat.le_succ M)
        refine ⟨_, rfl, Reg, pb, b, rfl, mc5.tr.toTrees, rb, fb0.depth, fun cv' H6 b6 TR6 hc6 => ?_⟩
        obtain ⟨mc6, c6⟩ := mc5.butT b6 TR6
        have c06 := c3.trans c6
        have k6 := mc.tup c06
        have hm : ∀ {v : V} {e : U.En}, EnvA G H e v → EnvA (fun a => G a ∨ a = D) H6 e v := fun h => (mc.env c06 h).more fun a h => .inl h
        have hrg : ∀ p t, Reg p t → Reg p t := fun _ _ h => h
        refine ⟨_, rfl, _, rfl, _, rfl, _, rfl, Reg, EnvF (fun a => G a ∨ a = D) H6, nx, s.env, s.wait, cv, ev, wv, rfl, hc.keep k6 hrg, hm he, hw.keep k6 hrg fun v e h => hm h, fun wv' H7 S7 hw7 => ⟨sizeLine_ge (by show 3 ≤ 10000; decide), fun q hq => ?_⟩⟩
        have S78 := same_new (o := .tup [cv', .ref D, wv']) hq
        have S8 := S7.trans S78
        have c68 := Chg.of_same (C := C) (p := p) (aS := aS) (aB := aB) S8
        exact fin (Reg) _ _ q _ _ _ hrg (fun a h => .inl h) (c06.trans c68) (mc6.same S8) (hc6.keep (TupS.of S8) fun _ _ h => h) (mc6.env c68 (mc5.env c6 eD)) (hw7.keep (TupS.of S78) (fun _ _ h => h) fun v e h => mc6.env c68 h) upd_same
      | none =>
        refine ⟨_, rfl, rfl, _, rfl, ite2 (fun _ => ?_) (fun z => absurd (by simp) z)⟩
        obtain ⟨N0, fb0⟩ := id fb
        refine ⟨_, rfl, b, N0, rfl, fb0.len, fb0.ok, fb0.size, fb0.depth, fb0.few, fb0.names, fun pb H4 S4 tb => ?_⟩
        have hb4 := S4 _ _ hb3
        refine ⟨_, rfl, _, rfl, r, CR, dxr, _, _, rfl, S4 _ _ hr3, RC.cl, RC.nbodies, RF.bodies, _, rfl, aB, _, rfl, DPut.k (k := .inr _) hb4 (by rw [sizeLine_eq]; omega), ?_⟩
        have rb : RegX C Reg H4 pb b := .inr ⟨⟨tb, fb0.ok⟩, N0, fb0⟩
        obtain ⟨mc5, c5'⟩ := (mc3.same S4).ext.body hb4 rb
        have c5 := (c3.trans (Chg.of_same S4)).trans c5'
        have eD5 := (mc3.same S4).env c5' (mc3.env (Chg.of_same S4) eD)
        generalize upd H4 aB (.dK (putK kvb3 (.inr (tx b.pr)) (.ref pb))) = H5 at mc5 c5 c5' eD5 ⊢
        refine ⟨_, rfl, RegX C Reg H4, pb, b, rfl, mc5.tr.toTrees, rb, fb0.depth, fun cv' H6 b6 TR6 hc6 => ?_⟩
        obtain ⟨mc6, c6⟩ := mc5.butT b6 TR6
        have c06 := c5.trans c6
        have k6 := mc.tup c06
        have hm : ∀ {v : V} {e : U.En}, EnvA G H e v → EnvA (fun a => G a ∨ a = D) H6 e v := fun h => (mc.env c06 h).more fun a h => .inl h
        have hrg : ∀ p t, Reg p t → RegX C Reg H4 p t := fun _ _ h => .inl h
        refine ⟨_, rfl, _, rfl, _, rfl, _, rfl, RegX C Reg H4, EnvF (fun a => G a ∨ a = D) H6, nx, s.env, s.wait, cv, ev, wv, rfl, hc.keep k6 hrg, hm he, hw.keep k6 hrg fun v e h => hm h, fun wv' H7 S7 hw7 => ⟨sizeLine_ge (by show 3 ≤ 10000; decide), fun q hq => ?_⟩⟩
        have S78 := same_new (o := .tup [cv', .ref D, wv']) hq
        have S8 := S7.trans S78
        have c68 := Chg.of_same (C := C) (p := p) (aS := aS) (aB := aB) S8
        exact fin (RegX C Reg H4) _ _ q _ _ _ hrg (fun a h => .inl h) (c06.trans c68) (mc6.same S8) (hc6.keep (TupS.of S8) fun _ _ h => h) (mc6.env c68 (mc5.env c6 eD5)) (hw7.keep (TupS.of S78) (fun _ _ h => h) fun v e h => mc6.env c68 h) upd_same
end
end K


set_option Elab.async false
set_option linter.all false
set_option maxRecDepth 100000
set_option maxHeartbeats 4000000
set_option pp.maxSteps 3000
namespace K
open PySem PySem.Spec PyProof.Rows L2 U
theorem TurnG.keep {C CW : Addr} {kn : U.Nm} {p aS aB : Addr} {f : WF} {Reg : Addr → U.Tm → Prop} {G : Addr → Prop} {H H' : Hp} {made : List (U.Tm × U.En)} {M : Nat} {s : U.St} {cv ev wv hv : V} (t : TurnG Reg G H s cv ev wv hv) (mc : Mach C CW kn p aS aB f Reg G H made M) (c : Chg C p aS aB H H') : TurnG Reg G H' s cv ev wv hv :=
  ⟨t.c.keep (mc.tup c) fun _ _ h => h, mc.env c t.e, t.w.keep (mc.tup c) (fun _ _ h => h) fun v e h => mc.env c h, t.h.keep (mc.tup c)⟩
/-- what knots come to, as far as it is known -/
def KnownV (H : Hp) (kd : Addr) (known : U.Nm → Option U.Hd) : Prop := ∃ kvk, H kd = some (.dK kvk) ∧ ∀ k, match known k with
  | none => valV kvk (.inr (tx k)) = none
  | some h => ∃ v, valV kvk (.inr (tx k)) = some v ∧ HdV H h v
theorem KnownV.keep {C CW : Addr} {kn : U.Nm} {p aS aB kd : Addr} {f : WF} {Reg : Addr → U.Tm → Prop} {G : Addr → Prop} {H H' : Hp} {made : List (U.Tm × U.En)} {M : Nat} {known : U.Nm → Option U.Hd} (h : KnownV H kd known) (mc : Mach C CW kn p aS aB f Reg G H made M) (c : Chg C p aS aB H H') (nS : kd ≠ aS) (nB : kd ≠ aB) : KnownV H' kd known := by
  obtain ⟨kvk, h1, h2⟩ := h
  obtain ⟨dx, fs, e1, _⟩ := mc.wk
  refine ⟨kvk, c _ _ h1 (ne_of h1 e1 (by intro z; cases z)) nS nB (by intro _ _ z; cases z), fun k => ?_⟩
  have := h2 k
  split
  · rename_i e
    rw [e] at this
    exact this
  · rename_i hd e
    rw [e] at this
    obtain ⟨v, h3, h4⟩ := this
    exact ⟨v, h3, h4.keep (mc.tup c)⟩
/-- the walk's fields are set -/
theorem Mach.walk {C CW : Addr} {kn : U.Nm} {p aS aB dx : Addr} {f f' : WF} {Reg : Addr → U.Tm → Prop} {G : Addr → Prop} {H : Hp} {made : List (U.Tm × U.En)} {M : Nat} {fs fs' : List (Str × V)} (h : Mach C CW kn p aS aB f Reg G H made M) (hp : H p = some (.ins CW dx fs))
    (w : WalkF fs' (.str (tx kn)) (.ref aS) f'.place f'.head f'.need f'.steps (.int made.length) f'.en) (m1 : fs'.lookup ("make" : Str) = none) (m2 : fs'.lookup ("take" : Str) = none) : Mach C CW kn p aS aB f' Reg G (upd H p (.ins CW dx fs')) made M ∧ Chg C p aS aB H (upd H p (.ins CW dx fs')) := by
  have c : Chg C p aS aB H (upd H p (.ins CW dx fs')) := fun a o e n _ _ _ => by
    rw [upd_ne n]
    exact e
  obtain ⟨kvs, e2, m, l⟩ := h.se
  obtain ⟨kvb, e3, b⟩ := h.bo
  refine ⟨⟨h.tr.but (h.tup c) fun a t g o e => ?_, ⟨dx, fs', upd_same, w, m1, m2⟩, ⟨kvs, by rw [upd_ne h.nS]; exact e2, m.keep (h.tup c) (fun _ _ h => h) fun e v g => h.env c g, l⟩, ⟨kvb, by rw [upd_ne h.nB]; exact e3, b⟩, h.ne, h.kl, h.ml, h.cw, h.gS, h.gB, h.gk c⟩, c⟩
  have na : a ≠ p := fun z => h.np t (z ▸ g)
  rw [upd_ne na]
  exact e
/-- an instance of another class changes -/
theorem Mach.other {C CW CR : Addr} {kn : U.Nm} {p r aS aB dx : Addr} {f : WF} {Reg : Addr → U.Tm → Prop} {G : Addr → Prop} {H : Hp} {made : List (U.Tm × U.En)} {M : Nat} {gs : List (Str × V)} {o : HO} (h : Mach C CW kn p aS aB f Reg G H made M) (hr : H r = some (.ins CR dx gs)) (ncr : CR ≠ C) (nrp : r ≠ p) : Mach C CW kn p aS aB f Reg G (upd H r o) made M ∧ TupS H (upd H r o) ∧ ∀ e v, EnvA G H e v → EnvA G (upd H r o) e v := by
  have k : TupS H (upd H r o) := tupS_upd hr
  have he : ∀ e v, EnvA G H e v → EnvA G (upd H r o) e v := fun e v ⟨a, kvs, e1, ga, e2, e3⟩ => ⟨a, kvs, e1, ga, by rw [upd_ne (ne_of e2 hr (by intro z; cases z))]; exact e2, e3⟩
  obtain ⟨dxp, fs, e1, w⟩ := h.wk
  obtain ⟨kvs, e2, m, l⟩ := h.se
  obtain ⟨kvb, e3, b⟩ := h.bo
  refine ⟨⟨h.tr.but k fun a t g o e => ?_, ⟨dxp, fs, by rw [upd_ne (Ne.symm nrp)]; exact e1, w⟩, ⟨kvs, by rw [upd_ne (ne_of e2 hr (by intro z; cases z))]; exact e2, m.keep k (fun _ _ h => h) he, l⟩, ⟨kvb, by rw [upd_ne (ne_of e3 hr (by intro z; cases z))]; exact e3, b⟩, h.ne, h.kl, h.ml, h.cw, h.gS, h.gB, fun a ga => ?_⟩, k, he⟩
  · have na : a ≠ r := fun z => h.tr.not hr (fun dx fs z => by injection z with z; exact ncr z) t (z ▸ g)
    rw [upd_ne na]
    exact e
  · obtain ⟨kv, e⟩ := h.gh a ga
    exact ⟨kv, by rw [upd_ne (ne_of e hr (by intro z; cases z))]; exact e⟩
/-- all but trees, the walk, the run, the senses, the bodies stays -/
def Chg2 (C p r aS aB : Addr) (H H' : Hp) : Prop := ∀ a o, H a = some o → a ≠ p → a ≠ r → a ≠ aS → a ≠ aB → (∀ dx fs, o ≠ .ins C dx fs) → H' a = some o
/-- a place put down -/
def PlaceV (Reg : Addr → U.Tm → Prop) (G : Addr → Prop) (H : Hp) (s : U.St) (q : Addr) : Prop := ∃ cv ev wv, H q = some (.tup [cv, ev, wv]) ∧ CodeV Reg H s.code cv ∧ EnvA G H s.env ev ∧ WtV Reg (EnvF G H) H s.wait wv
/-- what the steps leave -/
def AfterDo (C CW : Addr) (kn : U.Nm) (p aS aB : Addr) (f : WF) (d : Int) (k : Nat) (Reg : Addr → U.Tm → Prop) (G : Addr → Prop) (H : Hp) : U.Out → Prop
  | .fin s => ∃ hv, Mach C CW kn p aS aB { f with steps := .int (s.steps - d), en := hv } Reg G H s.made (2 * k) ∧ OHdV H s.head hv
  | .need s x => ∃ q, Mach C CW kn p aS aB { f with place := .ref q, need := .str (tx x), steps := .int (s.steps - d) } Reg G H s.made (2 * k) ∧ PlaceV Reg G H s q
  | .out s => ∃ q, Mach C CW kn p aS aB { f with place := .ref q, steps := .int (s.steps - d) } Reg G H s.made (2 * k) ∧ PlaceV Reg G H s q
  | _ => False
def stepsOf : U.Out → Nat
  | .fin s => s.steps
  | .need s _ => s.steps
  | .out s => s.steps
  | _ => 0
def spDoG (C CW CR : Addr) : Sp := fun vs H Q _ => ∃ (kn : U.Nm) (known : U.Nm → Option U.Hd) (lim : Nat) (p r q aS aB kd dxr : Addr) (gs : List (Str × V)) (f : WF) (Reg : Addr → U.Tm → Prop) (G : Addr → Prop) (s : U.St) (o : U.Out) (n k : Nat) (cv ev wv : V) (m0 : Int), vs = [.ref r, .ref p] ∧ H r = some (.ins CR dxr gs) ∧ CR ≠ C ∧ r ≠ p ∧ RunF gs (.int lim) (.ref kd) (.ref aB) (.int s.steps) ∧ gs.lookup ("_form" : Str) = none ∧ gs.lookup ("_call" : Str) = none ∧
  f.place = .ref q ∧ f.steps = .int m0 ∧ Mach C CW kn p aS aB f Reg G H s.made (2 * (n + k)) ∧ H q = some (.tup [cv, ev, wv]) ∧ TurnG Reg G H s cv ev wv f.head ∧ Good (n + k) s ∧ (∀ x h, known x = some h → HdOk h) ∧ KnownV H kd known ∧ kd ≠ aS ∧ kd ≠ aB ∧ U.runM U.frs kn known lim n s = some o ∧ o ≠ .bad ∧ lim ≤ 10 ^ 17 ∧
  ∀ Reg' G' H', (∀ p t, Reg p t → Reg' p t) → (∀ a, G a → G' a) → Chg2 C p r aS aB H H' → H' r = some (.ins CR dxr (putF "steps" (.int (stepsOf o)) gs)) → AfterDo C CW kn p aS aB f (s.steps - m0) k Reg' G' H' o → Q .non H'
/-- between two turns -/
def DoG (C CW : Addr) (kn : U.Nm) (known : U.Nm → Option U.Hd) (lim : Nat) (o : U.Out) (H0 : Hp) (p r aS aB kd : Addr) (f : WF) (Reg : Addr → U.Tm → Prop) (G : Addr → Prop) (k : Nat) (ah : Int) : Nat → L2.St → Hp → Prop := fun m σ H1 =>
  ∃ (s1 : U.St) (Reg1 : Addr → U.Tm → Prop) (G1 : Addr → Prop) (cv1 ev1 wv1 hv1 : V) (d1 d2 d3 d4 : Option V), σ = [some (.ref r), some (.ref p), some cv1, some ev1, some wv1, some hv1, some (.int s1.steps), some (.ref kd), some (.int lim), some (.int ah), d1, d2, d3, d4] ∧ (∀ p t, Reg p t → Reg1 p t) ∧ (∀ a, G a → G1 a) ∧ Chg C p aS aB H0 H1 ∧
    Mach C CW kn p aS aB f Reg1 G1 H1 s1.made (2 * (m + k)) ∧ TurnG Reg1 G1 H1 s1 cv1 ev1 wv1 hv1 ∧ Good (m + k) s1 ∧ U.runM U.frs kn known lim m s1 = some o
section
variable {P : Program} {w : World} {K : PySem.W.Frag} {mg : Str → Option Value} {base : Heap} {dW dB dN : Addr} {esW : Array DictEntry} {nW : Nat}
/-- the steps are put down -/
theorem do_tail {C CW CR : Addr} (WC : WalkC K CW) (RC : RunC K CR) {kn : U.Nm} {p r aS aB dxr : Addr} {f : WF} {Reg : Addr → U.Tm → Prop} {G : Addr → Prop} {H : Hp} {made : List (U.Tm × U.En)} {M : Nat} {gs : List (Str × V)} {Q : VK} {st ah : Int} {x2 x3 x4 x5 x7 x8 x10 x11 x12 x13 : Option V} {most kd bodies steps : V}
    (mc : Mach C CW kn p aS aB f Reg G H made M) (hr : H r = some (.ins CR dxr gs)) (ncr : CR ≠ C) (nrp : r ≠ p) (RF : RunF gs most kd bodies steps)
    (fin : ∀ H', (∀ a o, H a = some o → a ≠ p → a ≠ r → H' a = some o) → H' r = some (.ins CR dxr (putF "steps" (.int st) gs)) → Mach C CW kn p aS aB { f with steps := .int (st - ah) } Reg G H' made M → TupS H H' → (∀ e v, EnvA G H e v → EnvA G H' e v) → Q .non H') :
    tAsg (tTup (tCons (tVar 6) (tCons (tOp (rI0 fun i j => V.int (i - j)) (tVar 6) (tVar 9)) tNil))) (gTup K 2 (gCons (gFld K (tVar 0) "steps") (gCons (gFld K (tVar 1) "steps") gNil))) { nx := fun x H' => Q V.non H', rt := Q }
      [some (.ref r), some (.ref p), x2, x3, x4, x5, some (.int st), x7, x8, some (.int ah), x10, x11, x12, x13] H := by
  refine ⟨_, rfl, _, rfl, _, rfl, _, _, rfl, rfl, sizeLine_ge (by show 2 ≤ 10000; decide), fun q3 h3 => ?_⟩
  have S4 : Same H _ := same_new (o := .tup [.int st, .int (st - ah)]) h3
  have mc4 := mc.same S4
  have hr4 := S4 _ _ hr
  have e4 : (upd H q3 (.tup [.int st, .int (st - ah)])) q3 = some (.tup [.int st, .int (st - ah)]) := upd_same
  have he4 : ∀ e v, EnvA G H e v → EnvA G _ e v := fun e v h => mc.env (Chg.of_same S4) h
  generalize upd H q3 (.tup [.int st, .int (st - ah)]) = H4 at S4 mc4 hr4 e4 he4 ⊢
  obtain ⟨mc5, k5, he5⟩ := mc4.other (o := .ins CR dxr (putF "steps" (.int st) gs)) hr4 ncr nrp
  have hr5 : (upd H4 r (.ins CR dxr (putF "steps" (.int st) gs))) r = some (.ins CR dxr (putF "steps" (.int st) gs)) := upd_same
  obtain ⟨dxp, fs, hp5, wf, m1, m2⟩ := mc5.wk
  refine ⟨q3, _, rfl, .inl (.inl e4), rfl, _, _, rfl, _, rfl, r, CR, dxr, _, rfl, hr4, RC.cl, RC.nsteps, Nat.lt_of_lt_of_le RF.len (by decide), _, _, rfl, _, rfl, p, CW, dxp, _, rfl, hp5, WC.cl, WC.nsteps, wf.len, rfl, ?_⟩
  obtain ⟨mc6, c6⟩ := mc5.walk (f' := { f with steps := .int (st - ah) }) hp5 (wf.setSteps _) (by rw [lookup_putF, if_neg (by decide +kernel)]; exact m1) (by rw [lookup_putF, if_neg (by decide +kernel)]; exact m2)
  refine fin _ (fun a o e n1 n2 => ?_) ?_ mc6 (((TupS.of S4).trans k5).trans (mc5.tup c6)) fun e v h => mc5.env c6 (he5 _ _ (he4 _ _ h))
  · rw [upd_ne n1, upd_ne n2]
    exact S4 _ _ e
  · rw [upd_ne nrp]
    exact hr5
variable (T : Txt K mg w dW dB esW nW) (N : Runs K mg dN)
include T N
omit T N in
theorem at2' (x y z : V) (l : List V) : atI (x :: y :: z :: l) 2 = some z := atI_nat (j := 2) (by rfl)
omit T N in
theorem word_dfn {hd : U.Hd} (h : ∀ x b ns, hd ≠ .dfn x b ns) : wordH hd ≠ defW := by
  cases hd with
  | dfn x b ns => exact absurd rfl (h x b ns)
  | _ => dsimp only [wordH]; decide +kernel
omit T N in
theorem word_pair {hd : U.Hd} (h : ∀ x y, hd ≠ .pair x y) : wordH hd ≠ pairW := by
  cases hd with
  | pair x y => exact absurd rfl (h x y)
  | _ => dsimp only [wordH]; decide +kernel
omit T N in
theorem form_steps {kn : U.Nm} {t : U.Tm} {nx : U.Cd} {s s' : U.St} (h : U.formS U.frs kn t nx s = .go s') : s'.steps = s.steps := by
  cases t with
  | atom k l => cases h
  | n3 w b x y z => cases h
  | n1 w b x =>
    cases h
    rfl
  | n2 w b x y => cases w <;> (cases h; rfl)
theorem ok_Run_doG {f f1 f2 f3 f4 f5 C CW CR : Addr} {fd fd1 fd2 fd3 fd4 fd5 : FuncData} (F : Fun K "_do" "Run._do" s_Run__do f fd) (WC : WalkC K CW) (RC : RunC K CR)
    (hFm : HasW P w K mg base CR "_form" 34 ["self", "walk", "tree", "code", "names", "waiting"] (spFormG C CW CR) f1 fd1) (hCa : HasW P w K mg base CR "_call" 34 ["self", "walk", "tree", "head", "code", "names", "waiting"] (spCallG C CW CR) f2 fd2)
    (h_last_code : Has P w K mg base "last_code" 1 [] spLastCode f3 fd3) (h_unfit : Has P w K mg base "unfit" 1 ["head", "must", "knot"] spUnfit f4 fd4)
    (h_reckoned : Has P w K mg base "reckoned" 1 ["kind", "left", "right", "knot"] spReckoned f5 fd5) : FnOk P w K mg base CX0 35 f fd ["self", "walk"] (spDoG C CW CR) := by
  refine F.ok sc_Run__do (fun vs H Q E h => ?_) (fun cdv A outer s H vs Q E hr h => ?_)
  · obtain ⟨kn, known, lim, p, r, q, aS, aB, kd, dxr, gs, f, Reg, G, s, o, n, k, cv, ev, wv, m0, rfl, _⟩ := h
    rfl
  · have hu := hu_of hr
    obtain ⟨kn, known, lim, p, r, q, aS, aB, kd, dxr, gs, f, Reg, G, s, o, n, k, cv, ev, wv, m0, rfl, hr0, ncr, nrp, RF, gfm, gca, fpl, fst, mc, hq, tn, gd, hko, kv, nkS, nkB, hrun, hob, hlim, fin⟩ := h
    refine ⟨_, (pss_cons (ps_asg (pe_tup (pa_cons (pe_fld (pv 1) (by rfl)) (pa_cons (pe_fld (pv 1) (by rfl)) (pa_cons (pe_fld (pv 0) (by rfl)) pa_nil)))) (pg_tup rfl (pgs_cons (pg_tup rfl (pgs_cons (pg_name (i := 2) sc_Run__do.nd rfl (.inl rfl)) (pgs_cons (pg_name (i := 3) sc_Run__do.nd rfl (.inl rfl)) (pgs_cons (pg_name (i := 4) sc_Run__do.nd rfl (.inl rfl)) pgs_nil)))) (pgs_cons (pg_name (i := 5) sc_Run__do.nd rfl (.inl rfl)) (pgs_cons (pg_name (i := 6) sc_Run__do.nd rfl (.inl rfl)) pgs_nil)))))
      (pss_cons (ps_par3 (i := 7) (j := 8) (l := 9) (by rfl) sc_Run__do.nd rfl rfl rfl (by decide) (by decide) (by decide) rfl rfl rfl (pa_cons (pe_fld (pv 0) (by rfl)) (pa_cons (pe_fld (pv 0) (by rfl)) (pa_cons (pe_op op_sub (pv 6) (pe_fld (pv 1) (by rfl))) pa_nil))) (by rfl))
      (pss_cons (ps_while PassesOwn.never (pt_val pe_bl) 
        (pss_cons (ps_asg (pe_tup (pa_cons (pv 2) (pa_cons pe_non pa_nil))) (pg_tup rfl (pgs_cons (pg_tup rfl (pgs_cons (pg_name (i := 10) sc_Run__do.nd rfl (.inl rfl)) (pgs_cons (pg_name (i := 11) sc_Run__do.nd rfl (.inl rfl)) (pgs_cons (pg_name (i := 12) sc_Run__do.nd rfl (.inl rfl)) (pgs_cons (pg_name (i := 2) sc_Run__do.nd rfl (.inl rfl)) pgs_nil))))) (pgs_cons (pg_name (i := 13) sc_Run__do.nd rfl (.inl rfl)) pgs_nil))))
        (pss_cons (ps_if (pt_cmpR op_le (pv 10) (pe_globI (by rfl) N.form) (nomark _)) 
          (pss_cons (ps_aug (i := 6) sc_Run__do.nd rfl (.inl rfl) (pv 11) ip_add)
          (pss_cons (ps_if (pt_cmpR op_gt (pv 6) (pv 8) (nomark _)) 
            (pss_cons (ps_asg (pe_tup (pa_cons (pe_tup (pa_cons (pe_tup (pa_cons (pv 10) (pa_cons (pe_op op_sub (pv 6) (pv 8)) (pa_cons (pv 12) (pa_cons (pv 2) pa_nil))))) (pa_cons (pv 3) (pa_cons (pv 4) pa_nil)))) (pa_cons (pv 8) pa_nil))) (pg_tup rfl (pgs_cons (pg_fld (pv 1)) (pgs_cons (pg_name (i := 6) sc_Run__do.nd rfl (.inl rfl)) pgs_nil))))
            (pss_one (ps_break))) pss_nil)
          (pss_one (ps_if (pt_cmpR op_eq (pv 10) (pe_globI (by rfl) N.head) (nomark _)) 
            (pss_one (ps_set (i := 5) sc_Run__do.nd rfl (.inl rfl) (pv 12))) 
            (pss_one (ps_if (pt_cmpR op_eq (pv 10) (pe_globI (by rfl) N.need) (nomark _)) 
              (pss_one (ps_set (i := 13) sc_Run__do.nd rfl (.inl rfl) (pe_dget2 hu (pv 3) (pv 12) (pv 12) ⟨by rfl, by rfl, by rfl, by rfl⟩))) 
              (pss_one (ps_asg (pe_meth (pv 0) RC.cl hFm.me hFm.ok (hr.mono (by first | decide | omega)) hFm.bi .nil pass0 (pa_cons (pv 1) (pa_cons (pv 12) (pa_cons (pv 2) (pa_cons (pv 3) (pa_cons (pv 4) pa_nil)))))) (pg_tup rfl (pgs_cons (pg_name (i := 5) sc_Run__do.nd rfl (.inl rfl)) (pgs_cons (pg_name (i := 2) sc_Run__do.nd rfl (.inl rfl)) (pgs_cons (pg_name (i := 3) sc_Run__do.nd rfl (.inl rfl)) (pgs_cons (pg_name (i := 4) sc_Run__do.nd rfl (.inl rfl)) pgs_nil))))))))))))) 
          (pss_one (ps_if (pt_cmpR op_eq (pv 10) (pe_globI (by rfl) N.end_) (nomark _)) 
            (pss_cons (ps_if (pt_cmpR op_isN (pv 4) pe_non (nomark _)) 
              (pss_cons (ps_fld (pv 1) (pv 5) rfl)
              (pss_one (ps_break))) pss_nil)
            (pss_one (ps_asg (pv 4) (pg_tup rfl (pgs_cons (pg_name (i := 2) sc_Run__do.nd rfl (.inl rfl)) (pgs_cons (pg_name (i := 3) sc_Run__do.nd rfl (.inl rfl)) (pgs_cons (pg_name (i := 4) sc_Run__do.nd rfl (.inl rfl)) pgs_nil))))))) 
            (pss_one (ps_if (pt_cmpR op_ne (pe_ix ix_tup (pv 5) pe_int (fun _ _ => rfl)) (pv 11) (nomark _)) 
              (pss_one (ps_par3 (i := 5) (j := 2) (l := 4) (by rfl) sc_Run__do.nd rfl rfl rfl (by decide) (by decide) (by decide) rfl rfl rfl (pa_cons (pe_callH h_unfit (hr.mono (by first | decide | omega)) (by rfl) (pa_cons (pv 5) (pa_cons (pv 11) (pa_cons (pe_fld (pv 1) (by rfl)) pa_nil)))) (pa_cons (pe_callH0 h_last_code (hr.mono (by first | decide | omega)) (by rfl)) (pa_cons pe_non pa_nil))) (by rfl))) 
              (pss_one (ps_if (pt_cmpR op_eq (pv 10) (pe_globI (by rfl) N.left) (nomark _)) 
                (pss_one (ps_set (i := 4) sc_Run__do.nd rfl (.inl rfl) (pe_tup (pa_cons (pe_ix ix_tup (pv 5) pe_int (fun _ _ => rfl)) (pa_cons (pv 4) pa_nil))))) 
                (pss_one (ps_if (pt_cmpR op_eq (pv 10) (pe_globI (by rfl) N.right) (nomark _)) 
                  (pss_one (ps_par (i := 5) (j := 4) (by rfl) sc_Run__do.nd rfl rfl (by decide) rfl rfl (pa_cons (pe_callH h_reckoned (hr.mono (by first | decide | omega)) (by rfl) (pa_cons (pv 12) (pa_cons (pe_ix ix_tup (pv 4) pe_int (fun _ _ => rfl)) (pa_cons (pe_ix ix_tup (pv 5) pe_int (fun _ _ => rfl)) (pa_cons (pe_fld (pv 1) (by rfl)) pa_nil))))) (pa_cons (pe_ix ix_tup (pv 4) pe_int (fun _ _ => rfl)) pa_nil)) (by rfl))) 
                  (pss_one (ps_if (pt_cmpR op_eq (pv 10) (pe_globI (by rfl) N.iff) (nomark _)) 
                    (pss_one (ps_set (i := 2) sc_Run__do.nd rfl (.inl rfl) (pe_ifExp (pt_truth (pe_ix ix_tup (pv 5) pe_int (fun _ _ => rfl)) (by intro _; rfl)) (pv 12) (pv 2)))) 
                    (pss_one (ps_if (pt_cmpR op_eq (pv 10) (pe_globI (by rfl) N.call) (nomark _)) 
                      (pss_one (ps_asg (pe_meth (pv 0) RC.cl hCa.me hCa.ok (hr.mono (by first | decide | omega)) hCa.bi .nil pass0 (pa_cons (pv 1) (pa_cons (pv 12) (pa_cons (pv 5) (pa_cons (pv 2) (pa_cons (pv 3) (pa_cons (pv 4) pa_nil))))))) (pg_tup rfl (pgs_cons (pg_name (i := 2) sc_Run__do.nd rfl (.inl rfl)) (pgs_cons (pg_name (i := 3) sc_Run__do.nd rfl (.inl rfl)) (pgs_cons (pg_name (i := 4) sc_Run__do.nd rfl (.inl rfl)) pgs_nil)))))) 
                      (pss_one (ps_set (i := 13) sc_Run__do.nd rfl (.inl rfl) (pe_ix ix_tup (pv 5) (pv 12) (fun _ _ => rfl)))))))))))))))))
        (pss_one (ps_ifW (ptw_and (ptw_of (pt_cmpR op_notN (pv 13) pe_non (nomark _))) (ptw_cmp op_isN (pew_named (i := 5) sc_Run__do.nd rfl (.inl rfl) (pew_of (pe_dget1 hu (pv 7) (pv 13) ⟨by rfl, by rfl, by rfl, by rfl⟩))) pe_non (nomark _))) 
          (pss_cons (ps_asg (pe_tup (pa_cons (pe_tup (pa_cons (pv 2) (pa_cons (pv 3) (pa_cons (pv 4) pa_nil)))) (pa_cons (pv 13) pa_nil))) (pg_tup rfl (pgs_cons (pg_fld (pv 1)) (pgs_cons (pg_fld (pv 1)) pgs_nil))))
          (pss_one (ps_break))) pss_nil)))))
      (pss_one (ps_asg (pe_tup (pa_cons (pv 6) (pa_cons (pe_op op_sub (pv 6) (pv 9)) pa_nil))) (pg_tup rfl (pgs_cons (pg_fld (pv 0)) (pgs_cons (pg_fld (pv 1)) pgs_nil)))))))), ?_⟩
    obtain ⟨dxp, fs, hp, WF, m1, m2⟩ := mc.wk
    have WFp := WF.place
    have WFs := WF.steps
    rw [fpl] at WFp
    rw [fst] at WFs
    obtain ⟨kvs0, hS0, _⟩ := mc.se
    obtain ⟨kvb0, hB0, _⟩ := mc.bo
    have nrS : r ≠ aS := fun z => by rw [z, hS0] at hr0; cases hr0
    have nrB : r ≠ aB := fun z => by rw [z, hB0] at hr0; cases hr0
    have nins : ∀ dx fs, HO.ins CR dxr gs ≠ .ins C dx fs := fun dx fs z => by
      injection z with z
      exact ncr z
    refine ⟨_, rfl, p, CW, dxp, _, _, rfl, hp, WC.cl, WC.nplace, WFp, _, rfl, p, CW, dxp, _, _, rfl, hp, WC.cl, WC.nhead, WF.head, _, rfl, r, CR, dxr, _, _, rfl, hr0, RC.cl, RC.nsteps, RF.steps, sizeLine_ge (by show 3 ≤ 10000; decide), fun q1 h1 => ?_⟩
    have S1 : Same H _ := same_new (o := .tup [.ref q, f.head, .int s.steps]) h1
    refine ⟨q1, _, rfl, .inl (.inl upd_same), rfl, _, _, rfl, q, _, rfl, .inl (.inl (S1 _ _ hq)), rfl, _, _, rfl, _, _, rfl, _, _, rfl, rfl, _, _, rfl, _, _, rfl, rfl, ?_⟩
    have hr1 := S1 _ _ hr0
    have hp1 := S1 _ _ hp
    refine ⟨_, rfl, r, CR, dxr, _, _, rfl, hr1, RC.cl, RC.nknown, RF.known, _, rfl, r, CR, dxr, _, _, rfl, hr1, RC.cl, RC.nmost, RF.most, _, rfl, _, rfl, p, CW, dxp, _, _, rfl, hp1, WC.cl, WC.nsteps, WFs, _, _, rfl, rfl, _, _, _, rfl, ?_⟩
    refine ⟨DoG C CW kn known lim o H p r aS aB kd f Reg G k (s.steps - m0), ⟨n, s, Reg, G, cv, ev, wv, f.head, none, none, none, none, rfl, fun _ _ h => h, fun _ h => h, Chg.of_same S1, mc.same S1, tn.keep mc (Chg.of_same S1), gd, hrun⟩, ?_⟩
    rintro m σ1 H1 ⟨⟨code, env, wait, head, steps, mk⟩, Reg1, G1, cv1, ev1, wv1, hv1, d1, d2, d3, d4, rfl, hR, hG, c1, mc1, tn1, g1, hrun1⟩
    clear hq h1 S1 hr1 hp1 tn gd hrun
    refine ⟨true, rfl, iteT ?_⟩
    cases m with
    | zero => cases hrun1
    | succ m =>
    refine ⟨DoG C CW kn known lim o H p r aS aB kd f Reg G k (s.steps - m0) m, fun σ' H' h => ⟨m, Nat.lt_succ_self m, h⟩, ?_⟩
    rw [U.runM] at hrun1
    have g1' : Good (m + k + 1) ⟨code, env, wait, head, steps, mk⟩ := by
      rw [show m + k + 1 = m + 1 + k by omega]
      exact g1
    have sg := step_good (kn := kn) (known := known) (lim := lim) hko g1'
    cases code with
    | endd =>
      obtain ⟨a, rfl, ha⟩ := tn1.c
      refine ⟨_, rfl, sizeLine_ge (by show 2 ≤ 10000; decide), fun q2 h2 => ?_⟩
      have S2 : Same H1 _ := same_new (o := .tup [V.ref a, .non]) h2
      refine ⟨q2, _, rfl, .inl (.inl upd_same), rfl, _, _, rfl, a, _, rfl, .inl (.inl (S2 _ _ ha)), rfl, _, _, rfl, _, _, rfl, _, _, rfl, _, _, rfl, rfl, _, _, rfl, rfl, ?_⟩
      have C2 := c1.trans (Chg.of_same (C := C) (p := p) (aS := aS) (aB := aB) S2)
      have mc2 := mc1.same S2
      have tn2 := tn1.keep mc1 (Chg.of_same S2)
      have u2 : ∀ {c : U.Cd} {v : V}, CodeV Reg1 H1 c v → CodeV Reg1 _ c v := fun h => h.keep (TupS.of S2) fun _ _ h => h
      generalize upd H1 q2 (.tup [V.ref a, .non]) = H2 at S2 C2 mc2 tn2 u2  ⊢
      have K2 := kv.keep mc C2 nkS nkB
      obtain ⟨dxp2, fs2, hp2, wf2, m12, m22⟩ := mc2.wk
      refine ⟨_, rfl, _, _, rfl, rfl, _, rfl, ite2 (fun z => absurd z (by decide +kernel)) (fun _ => ?_)⟩
      refine ⟨_, rfl, rfl, _, rfl, ite2 (fun _ => ?_) (fun z => absurd (by decide +kernel) z)⟩
      cases wait with
      | num v r => exact absurd (Option.some.inj hrun1).symm hob
      | cont c e w0 =>
        obtain ⟨aw, xv, yv, uv, rfl, hw, hxc, hye, hwu⟩ := tn2.w
        refine ⟨_, rfl, rfl, _, rfl, ite2 (fun z => absurd z (by simp)) (fun _ => ?_)⟩
        refine ⟨_, rfl, aw, _, rfl, .inl (.inl hw), rfl, _, _, rfl, _, _, rfl, _, _, rfl, rfl, ?_⟩
        refine ⟨_, rfl, rfl, _, rfl, ite2 (fun z => absurd z (by decide +kernel)) (fun _ => ?_)⟩
        refine iteF ?_
        have hst : U.step U.frs kn known lim { code := .endd, env := env, wait := .cont c e w0, head := head, steps := steps, made := mk } = .go { code := c, env := e, wait := w0, head := head, steps := steps, made := mk } := rfl
        rw [hst] at sg hrun1
        exact ⟨{ code := c, env := e, wait := w0, head := head, steps := steps, made := mk }, Reg1, G1, _, _, _, _, _, _, _, _, rfl, hR, hG, C2, (mc2.less (by omega)), ⟨hxc, hye, hwu, tn2.h⟩, sg, hrun1⟩
      | nil =>
        have ew : wv1 = .non := tn1.w
        subst ew
        have hst : U.step U.frs kn known lim { code := .endd, env := env, wait := .nil, head := head, steps := steps, made := mk } = .fin { code := .endd, env := env, wait := .nil, head := head, steps := steps, made := mk } := rfl
        rw [hst] at hrun1
        cases hrun1
        refine ⟨_, rfl, rfl, _, rfl, ite2 (fun _ => ?_) (fun z => absurd (by decide +kernel) z)⟩
        refine ⟨_, rfl, _, rfl, p, CW, dxp2, _, rfl, hp2, WC.cl, WC.nend, Nat.lt_of_lt_of_le wf2.len (by decide), ?_⟩
        obtain ⟨mc3, c3⟩ := mc2.walk (f' := { f with en := hv1 }) hp2 (wf2.setEnd hv1) (by rw [lookup_putF, if_neg (by decide +kernel)]; exact m12) (by rw [lookup_putF, if_neg (by decide +kernel)]; exact m22)
        have C3 := C2.trans c3
        refine do_tail WC RC (mc3.less (M' := 2 * k) (by omega)) (C3 _ _ hr0 nrp nrS nrB nins) ncr nrp RF fun H4 kp4 hr4 mc4 k4 he4 => ?_
        exact fin Reg1 G1 H4 hR hG (fun a o e n1 n2 n3 n4 n5 => kp4 _ _ (C3 _ _ e n1 n3 n4 n5) n1 n2) hr4 ⟨hv1, mc4, (tn2.h.keep (mc2.tup c3)).keep k4⟩
    | head mm v nx =>
      obtain ⟨a, hA, u, rfl, ha, hh, hb, cn⟩ := tn1.c
      refine ⟨_, rfl, sizeLine_ge (by show 2 ≤ 10000; decide), fun q2 h2 => ?_⟩
      have S2 : Same H1 _ := same_new (o := .tup [V.ref a, .non]) h2
      refine ⟨q2, _, rfl, .inl (.inl upd_same), rfl, _, _, rfl, a, _, rfl, .inl (.inl (S2 _ _ ha)), rfl, _, _, rfl, _, _, rfl, _, _, rfl, _, _, rfl, rfl, _, _, rfl, rfl, ?_⟩
      have C2 := c1.trans (Chg.of_same (C := C) (p := p) (aS := aS) (aB := aB) S2)
      have mc2 := mc1.same S2
      have tn2 := tn1.keep mc1 (Chg.of_same S2)
      have hh2 := S2 _ _ hh
      have u2 : ∀ {c : U.Cd} {v : V}, CodeV Reg1 H1 c v → CodeV Reg1 _ c v := fun h => h.keep (TupS.of S2) fun _ _ h => h
      generalize upd H1 q2 (.tup [V.ref a, .non]) = H2 at S2 C2 mc2 tn2 u2 hh2 ⊢
      have cn2 := u2 cn
      have K2 := kv.keep mc C2 nkS nkB
      obtain ⟨dxp2, fs2, hp2, wf2, m12, m22⟩ := mc2.wk
      refine ⟨_, rfl, _, _, rfl, rfl, _, rfl, ite2 (fun _ => ?_) (fun z => absurd (by decide +kernel) z)⟩
      refine ⟨_, rfl, _, rfl, _, _, rfl, rfl, ?_⟩
      refine ⟨_, rfl, _, rfl, _, _, rfl, rfl, _, rfl, ite2 (fun z => ?_) (fun z => ?_)⟩
      · skip
        have z3 := of_decide_eq_true z
        have z2 : steps + mm > lim := by
          simp only at z3
          omega
        have hst : U.step U.frs kn known lim { code := .head mm v nx, env := env, wait := wait, head := head, steps := steps, made := mk } = .out { code := .head (steps + mm - lim) v nx, env := env, wait := wait, head := head, steps := lim, made := mk } := by
          simp only [U.step, U.begins, if_pos z2]
        rw [hst] at hrun1
        cases hrun1
        refine ⟨_, rfl, _, rfl, _, rfl, _, _, rfl, rfl, _, rfl, _, rfl, sizeLine_ge (by show 4 ≤ 10000; decide), fun qc hqc => ?_⟩
        have en : (steps : Int) + mm - lim = ((steps + mm - lim : Nat) : Int) := by omega
        have e5 : (upd H2 qc (.tup [.int 0, .int ((steps : Int) + mm - lim), .ref hA, u])) qc = some (.tup [.int 0, .int ((steps : Int) + mm - lim), .ref hA, u]) := upd_same
        have S5 : Same H2 _ := same_new (o := .tup [.int 0, .int ((steps : Int) + mm - lim), .ref hA, u]) hqc
        generalize upd H2 qc (.tup [.int 0, .int ((steps : Int) + mm - lim), .ref hA, u]) = H5 at e5 S5 ⊢
        refine ⟨_, rfl, _, rfl, sizeLine_ge (by show 3 ≤ 10000; decide), fun qp hqp => ?_⟩
        have e6 : (upd H5 qp (.tup [.ref qc, ev1, wv1])) qp = some (.tup [.ref qc, ev1, wv1]) := upd_same
        have S6 := S5.trans (same_new (o := .tup [.ref qc, ev1, wv1]) hqp)
        have e56 := same_new (o := .tup [.ref qc, ev1, wv1]) hqp _ _ e5
        generalize upd H5 qp (.tup [.ref qc, ev1, wv1]) = H6 at e6 S6 e56 ⊢
        refine ⟨_, rfl, sizeLine_ge (by show 2 ≤ 10000; decide), fun qq hqq => ?_⟩
        have S7 := S6.trans (same_new (o := .tup [.ref qp, .int lim]) hqq)
        have e7 : (upd H6 qq (.tup [.ref qp, .int lim])) qq = some (.tup [.ref qp, .int lim]) := upd_same
        have e67 := same_new (o := .tup [.ref qp, .int lim]) hqq _ _ e6
        have e57 := same_new (o := .tup [.ref qp, .int lim]) hqq _ _ e56
        generalize upd H6 qq (.tup [.ref qp, .int lim]) = H7 at e7 S7 e67 e57 ⊢
        have mc7 := mc2.same S7
        have hp7 := S7 _ _ hp2
        obtain ⟨mc8, c8⟩ := mc7.walk (f' := { f with place := .ref qp }) hp7 (wf2.setPlace _) (by rw [lookup_putF, if_neg (by decide +kernel)]; exact m12) (by rw [lookup_putF, if_neg (by decide +kernel)]; exact m22)
        refine ⟨qq, _, rfl, .inl (.inl e7), rfl, _, _, rfl, _, rfl, p, CW, dxp2, _, rfl, hp7, WC.cl, WC.nplace, Nat.lt_of_lt_of_le wf2.len (by decide), _, _, rfl, rfl, ?_⟩
        have C8 := (C2.trans (Chg.of_same (C := C) (p := p) (aS := aS) (aB := aB) S7)).trans c8
        have k8 := mc7.tup c8
        have tn8 := (tn2.keep mc2 (Chg.of_same S7)).keep mc7 c8
        refine do_tail WC RC (mc8.less (M' := 2 * k) (by omega)) (C8 _ _ hr0 nrp nrS nrB nins) ncr nrp RF fun H9 kp9 hr9 mc9 k9 he9 => ?_
        refine fin Reg1 G1 H9 hR hG (fun a o e n1 n2 n3 n4 n5 => kp9 _ _ (C8 _ _ e n1 n3 n4 n5) n1 n2) hr9 ⟨qp, by rw [show (lim : Int) - (s.steps - m0) = _ from rfl] at mc9; exact mc9, .ref qc, ev1, wv1, k9 _ _ (k8 _ _ e67), ?_, he9 _ _ tn8.e, tn8.w.keep k9 (fun _ _ h => h) fun v e h => he9 _ _ h⟩
        have e8 := k9 _ _ (k8 _ _ e57)
        rw [en] at e8
        exact ⟨qc, hA, u, rfl, e8, k9 _ _ (k8 _ _ (S7 _ _ hh2)), hb, (cn2.keep ((TupS.of S7).trans k8) fun _ _ h => h).keep k9 fun _ _ h => h⟩
      · skip
        have z2 : ¬ steps + mm > lim := fun y => z (decide_eq_true (by simp only; omega))
        have hst : U.step U.frs kn known lim { code := .head mm v nx, env := env, wait := wait, head := head, steps := steps, made := mk } = .go { code := nx, env := env, wait := wait, head := some (.num v), steps := steps + mm, made := mk } := by
          simp only [U.step, U.begins, if_neg z2]
        refine ⟨_, rfl, rfl, _, rfl, ite2 (fun _ => ?_) (fun z => absurd (by decide +kernel) z)⟩
        refine ⟨_, rfl, ?_⟩
        refine ⟨_, rfl, rfl, _, rfl, ite2 (fun z => absurd z (by decide +kernel)) (fun _ => ?_)⟩
        refine iteF ?_
        rw [hst] at sg hrun1
        exact ⟨{ code := nx, env := env, wait := wait, head := some (.num v), steps := steps + mm, made := mk }, Reg1, G1, _, _, _, _, _, _, _, _, rfl, hR, hG, C2, (mc2.less (by omega)), ⟨cn2, tn2.e, tn2.w, ⟨hA, rfl, hh2, hb⟩⟩, sg, hrun1⟩
    | need mm x nx =>
      obtain ⟨a, u, rfl, ha, cn⟩ := tn1.c
      refine ⟨_, rfl, sizeLine_ge (by show 2 ≤ 10000; decide), fun q2 h2 => ?_⟩
      have S2 : Same H1 _ := same_new (o := .tup [V.ref a, .non]) h2
      refine ⟨q2, _, rfl, .inl (.inl upd_same), rfl, _, _, rfl, a, _, rfl, .inl (.inl (S2 _ _ ha)), rfl, _, _, rfl, _, _, rfl, _, _, rfl, _, _, rfl, rfl, _, _, rfl, rfl, ?_⟩
      have C2 := c1.trans (Chg.of_same (C := C) (p := p) (aS := aS) (aB := aB) S2)
      have mc2 := mc1.same S2
      have tn2 := tn1.keep mc1 (Chg.of_same S2)
      have u2 : ∀ {c : U.Cd} {v : V}, CodeV Reg1 H1 c v → CodeV Reg1 _ c v := fun h => h.keep (TupS.of S2) fun _ _ h => h
      generalize upd H1 q2 (.tup [V.ref a, .non]) = H2 at S2 C2 mc2 tn2 u2  ⊢
      have cn2 := u2 cn
      have K2 := kv.keep mc C2 nkS nkB
      obtain ⟨dxp2, fs2, hp2, wf2, m12, m22⟩ := mc2.wk
      refine ⟨_, rfl, _, _, rfl, rfl, _, rfl, ite2 (fun _ => ?_) (fun z => absurd (by decide +kernel) z)⟩
      refine ⟨_, rfl, _, rfl, _, _, rfl, rfl, ?_⟩
      refine ⟨_, rfl, _, rfl, _, _, rfl, rfl, _, rfl, ite2 (fun z => ?_) (fun z => ?_)⟩
      · skip
        have z3 := of_decide_eq_true z
        have z2 : steps + mm > lim := by
          simp only at z3
          omega
        have hst : U.step U.frs kn known lim { code := .need mm x nx, env := env, wait := wait, head := head, steps := steps, made := mk } = .out { code := .need (steps + mm - lim) x nx, env := env, wait := wait, head := head, steps := lim, made := mk } := by
          simp only [U.step, U.begins, if_pos z2]
        rw [hst] at hrun1
        cases hrun1
        refine ⟨_, rfl, _, rfl, _, rfl, _, _, rfl, rfl, _, rfl, _, rfl, sizeLine_ge (by show 4 ≤ 10000; decide), fun qc hqc => ?_⟩
        have en : (steps : Int) + mm - lim = ((steps + mm - lim : Nat) : Int) := by omega
        have e5 : (upd H2 qc (.tup [.int 1, .int ((steps : Int) + mm - lim), .str (tx x), u])) qc = some (.tup [.int 1, .int ((steps : Int) + mm - lim), .str (tx x), u]) := upd_same
        have S5 : Same H2 _ := same_new (o := .tup [.int 1, .int ((steps : Int) + mm - lim), .str (tx x), u]) hqc
        generalize upd H2 qc (.tup [.int 1, .int ((steps : Int) + mm - lim), .str (tx x), u]) = H5 at e5 S5 ⊢
        refine ⟨_, rfl, _, rfl, sizeLine_ge (by show 3 ≤ 10000; decide), fun qp hqp => ?_⟩
        have e6 : (upd H5 qp (.tup [.ref qc, ev1, wv1])) qp = some (.tup [.ref qc, ev1, wv1]) := upd_same
        have S6 := S5.trans (same_new (o := .tup [.ref qc, ev1, wv1]) hqp)
        have e56 := same_new (o := .tup [.ref qc, ev1, wv1]) hqp _ _ e5
        generalize upd H5 qp (.tup [.ref qc, ev1, wv1]) = H6 at e6 S6 e56 ⊢
        refine ⟨_, rfl, sizeLine_ge (by show 2 ≤ 10000; decide), fun qq hqq => ?_⟩
        have S7 := S6.trans (same_new (o := .tup [.ref qp, .int lim]) hqq)
        have e7 : (upd H6 qq (.tup [.ref qp, .int lim])) qq = some (.tup [.ref qp, .int lim]) := upd_same
        have e67 := same_new (o := .tup [.ref qp, .int lim]) hqq _ _ e6
        have e57 := same_new (o := .tup [.ref qp, .int lim]) hqq _ _ e56
        generalize upd H6 qq (.tup [.ref qp, .int lim]) = H7 at e7 S7 e67 e57 ⊢
        have mc7 := mc2.same S7
        have hp7 := S7 _ _ hp2
        obtain ⟨mc8, c8⟩ := mc7.walk (f' := { f with place := .ref qp }) hp7 (wf2.setPlace _) (by rw [lookup_putF, if_neg (by decide +kernel)]; exact m12) (by rw [lookup_putF, if_neg (by decide +kernel)]; exact m22)
        refine ⟨qq, _, rfl, .inl (.inl e7), rfl, _, _, rfl, _, rfl, p, CW, dxp2, _, rfl, hp7, WC.cl, WC.nplace, Nat.lt_of_lt_of_le wf2.len (by decide), _, _, rfl, rfl, ?_⟩
        have C8 := (C2.trans (Chg.of_same (C := C) (p := p) (aS := aS) (aB := aB) S7)).trans c8
        have k8 := mc7.tup c8
        have tn8 := (tn2.keep mc2 (Chg.of_same S7)).keep mc7 c8
        refine do_tail WC RC (mc8.less (M' := 2 * k) (by omega)) (C8 _ _ hr0 nrp nrS nrB nins) ncr nrp RF fun H9 kp9 hr9 mc9 k9 he9 => ?_
        refine fin Reg1 G1 H9 hR hG (fun a o e n1 n2 n3 n4 n5 => kp9 _ _ (C8 _ _ e n1 n3 n4 n5) n1 n2) hr9 ⟨qp, by rw [show (lim : Int) - (s.steps - m0) = _ from rfl] at mc9; exact mc9, .ref qc, ev1, wv1, k9 _ _ (k8 _ _ e67), ?_, he9 _ _ tn8.e, tn8.w.keep k9 (fun _ _ h => h) fun v e h => he9 _ _ h⟩
        have e8 := k9 _ _ (k8 _ _ e57)
        rw [en] at e8
        exact ⟨qc, u, rfl, e8, (cn2.keep ((TupS.of S7).trans k8) fun _ _ h => h).keep k9 fun _ _ h => h⟩
      · skip
        have z2 : ¬ steps + mm > lim := fun y => z (decide_eq_true (by simp only; omega))
        refine ⟨_, rfl, rfl, _, rfl, ite2 (fun z => absurd z (by decide +kernel)) (fun _ => ?_)⟩
        refine ⟨_, rfl, rfl, _, rfl, ite2 (fun _ => ?_) (fun z => absurd (by decide +kernel) z)⟩
        obtain ⟨aE, kve, eEv, gE, hE, pkE⟩ := id tn2.e
        have hdg : ∃ o, DGet H2 aE (.str (tx x)) o ∧ o.getD (.str (tx x)) = .str (tx ((getR env x).getD x)) := by
          refine ⟨_, DGet.k (k := .inr (tx x)) hE, ?_⟩
          rcases pkE.get x with ⟨h1, h2⟩ | ⟨k', v, h1, h2, h3⟩
          · rw [h1, h2]
            rfl
          · rw [h1, h2]
            exact h3
        obtain ⟨og, dg0, eg⟩ := hdg
        refine ⟨_, rfl, aE, eEv, .inl ⟨_, .inl hE⟩, _, rfl, _, rfl, og, dg0, ?_⟩
        rw [eg]
        refine ⟨_, rfl, rfl, _, rfl, ite2 (fun _ => ?_) (fun z => absurd (by simp) z)⟩
        obtain ⟨kvk, hkd, kvf⟩ := id K2
        have hv0 := kvf ((getR env x).getD x)
        cases hkn : known ((getR env x).getD x) with
        | none =>
          rw [hkn] at hv0
          have dg : DGet H2 kd (.str (tx ((getR env x).getD x))) none := by
            rw [← hv0]
            exact DGet.k (k := .inr _) hkd
          refine ⟨_, rfl, kd, rfl, .inl ⟨_, .inl hkd⟩, _, rfl, none, dg, rfl, _, rfl, ite2 (fun _ => ?_) (fun z => absurd (by simp) z)⟩
          have hst : U.step U.frs kn known lim { code := .need mm x nx, env := env, wait := wait, head := head, steps := steps, made := mk } = .need { code := nx, env := env, wait := wait, head := head, steps := steps + mm, made := mk } ((getR env x).getD x) := by
            simp only [U.step, U.begins, if_neg z2, U.asks, hkn]
          rw [hst] at hrun1
          cases hrun1
          refine ⟨_, rfl, _, rfl, _, rfl, sizeLine_ge (by show 3 ≤ 10000; decide), fun qp hqp => ?_⟩
          have e6 : (upd H2 qp (.tup [u, ev1, wv1])) qp = some (.tup [u, ev1, wv1]) := upd_same
          have S6 : Same H2 _ := same_new (o := .tup [u, ev1, wv1]) hqp
          generalize upd H2 qp (.tup [u, ev1, wv1]) = H6 at e6 S6 ⊢
          refine ⟨_, rfl, sizeLine_ge (by show 2 ≤ 10000; decide), fun qq hqq => ?_⟩
          have S7 := S6.trans (same_new (o := .tup [.ref qp, .str (tx ((getR env x).getD x))]) hqq)
          have e7 : (upd H6 qq (.tup [.ref qp, .str (tx ((getR env x).getD x))])) qq = some (.tup [.ref qp, .str (tx ((getR env x).getD x))]) := upd_same
          have e67 := same_new (o := .tup [.ref qp, .str (tx ((getR env x).getD x))]) hqq _ _ e6
          generalize upd H6 qq (.tup [.ref qp, .str (tx ((getR env x).getD x))]) = H7 at e7 S7 e67 ⊢
          have mc7 := mc2.same S7
          have hp7 := S7 _ _ hp2
          have wf8 := (wf2.setPlace (.ref qp)).setNeed (.str (tx ((getR env x).getD x)))
          obtain ⟨mc8, c8⟩ := mc7.walk (f' := { f with place := .ref qp, need := .str (tx ((getR env x).getD x)) }) hp7 wf8 (by rw [lookup_putF, if_neg (by decide +kernel), lookup_putF, if_neg (by decide +kernel)]; exact m12) (by rw [lookup_putF, if_neg (by decide +kernel), lookup_putF, if_neg (by decide +kernel)]; exact m22)
          refine ⟨qq, _, rfl, .inl (.inl e7), rfl, _, _, rfl, _, rfl, p, CW, dxp2, _, rfl, hp7, WC.cl, WC.nplace, Nat.lt_of_lt_of_le wf2.len (by decide), _, _, rfl, _, rfl, p, CW, dxp2, _, rfl, upd_same, WC.cl, WC.nneed, (wf2.setPlace (.ref qp)).len, rfl, ?_⟩
          rw [upd_upd]
          have C8 := (C2.trans (Chg.of_same (C := C) (p := p) (aS := aS) (aB := aB) S7)).trans c8
          have k8 := mc7.tup c8
          have tn8 := (tn2.keep mc2 (Chg.of_same S7)).keep mc7 c8
          refine do_tail WC RC (mc8.less (M' := 2 * k) (by omega)) (C8 _ _ hr0 nrp nrS nrB nins) ncr nrp RF fun H9 kp9 hr9 mc9 k9 he9 => ?_
          exact fin Reg1 G1 H9 hR hG (fun a o e n1 n2 n3 n4 n5 => kp9 _ _ (C8 _ _ e n1 n3 n4 n5) n1 n2) hr9 ⟨qp, mc9, u, ev1, wv1, k9 _ _ (k8 _ _ e67), (cn2.keep ((TupS.of S7).trans k8) fun _ _ h => h).keep k9 fun _ _ h => h, he9 _ _ tn8.e, tn8.w.keep k9 (fun _ _ h => h) fun v e h => he9 _ _ h⟩
        | some hd2 =>
          rw [hkn] at hv0
          obtain ⟨v2, hv1', hv2⟩ := hv0
          obtain ⟨a2, l2, ev2, _⟩ := hv2.word
          subst ev2
          have dg : DGet H2 kd (.str (tx ((getR env x).getD x))) (some (.ref a2)) := by
            rw [← hv1']
            exact DGet.k (k := .inr _) hkd
          refine ⟨_, rfl, kd, rfl, .inl ⟨_, .inl hkd⟩, _, rfl, some (.ref a2), dg, rfl, _, rfl, ite2 (fun z => absurd z (by simp)) (fun _ => ?_)⟩
          have hst : U.step U.frs kn known lim { code := .need mm x nx, env := env, wait := wait, head := head, steps := steps, made := mk } = .go { code := nx, env := env, wait := wait, head := some hd2, steps := steps + mm, made := mk } := by
            simp only [U.step, U.begins, if_neg z2, U.asks, hkn]
          rw [hst] at sg hrun1
          exact ⟨{ code := nx, env := env, wait := wait, head := some hd2, steps := steps + mm, made := mk }, Reg1, G1, _, _, _, _, _, _, _, _, rfl, hR, hG, C2, (mc2.less (by omega)), ⟨cn2, tn2.e, tn2.w, hv2⟩, sg, hrun1⟩
    | form mm t nx =>
      obtain ⟨a, pt, u, rfl, ha, rt, cn⟩ := tn1.c
      refine ⟨_, rfl, sizeLine_ge (by show 2 ≤ 10000; decide), fun q2 h2 => ?_⟩
      have S2 : Same H1 _ := same_new (o := .tup [V.ref a, .non]) h2
      refine ⟨q2, _, rfl, .inl (.inl upd_same), rfl, _, _, rfl, a, _, rfl, .inl (.inl (S2 _ _ ha)), rfl, _, _, rfl, _, _, rfl, _, _, rfl, _, _, rfl, rfl, _, _, rfl, rfl, ?_⟩
      have C2 := c1.trans (Chg.of_same (C := C) (p := p) (aS := aS) (aB := aB) S2)
      have mc2 := mc1.same S2
      have tn2 := tn1.keep mc1 (Chg.of_same S2)
      have u2 : ∀ {c : U.Cd} {v : V}, CodeV Reg1 H1 c v → CodeV Reg1 _ c v := fun h => h.keep (TupS.of S2) fun _ _ h => h
      generalize upd H1 q2 (.tup [V.ref a, .non]) = H2 at S2 C2 mc2 tn2 u2  ⊢
      have cn2 := u2 cn
      have K2 := kv.keep mc C2 nkS nkB
      obtain ⟨dxp2, fs2, hp2, wf2, m12, m22⟩ := mc2.wk
      refine ⟨_, rfl, _, _, rfl, rfl, _, rfl, ite2 (fun _ => ?_) (fun z => absurd (by decide +kernel) z)⟩
      refine ⟨_, rfl, _, rfl, _, _, rfl, rfl, ?_⟩
      refine ⟨_, rfl, _, rfl, _, _, rfl, rfl, _, rfl, ite2 (fun z => ?_) (fun z => ?_)⟩
      · skip
        have z3 := of_decide_eq_true z
        have z2 : steps + mm > lim := by
          simp only at z3
          omega
        have hst : U.step U.frs kn known lim { code := .form mm t nx, env := env, wait := wait, head := head, steps := steps, made := mk } = .out { code := .form (steps + mm - lim) t nx, env := env, wait := wait, head := head, steps := lim, made := mk } := by
          simp only [U.step, U.begins, if_pos z2]
        rw [hst] at hrun1
        cases hrun1
        refine ⟨_, rfl, _, rfl, _, rfl, _, _, rfl, rfl, _, rfl, _, rfl, sizeLine_ge (by show 4 ≤ 10000; decide), fun qc hqc => ?_⟩
        have en : (steps : Int) + mm - lim = ((steps + mm - lim : Nat) : Int) := by omega
        have e5 : (upd H2 qc (.tup [.int 2, .int ((steps : Int) + mm - lim), .ref pt, u])) qc = some (.tup [.int 2, .int ((steps : Int) + mm - lim), .ref pt, u]) := upd_same
        have S5 : Same H2 _ := same_new (o := .tup [.int 2, .int ((steps : Int) + mm - lim), .ref pt, u]) hqc
        generalize upd H2 qc (.tup [.int 2, .int ((steps : Int) + mm - lim), .ref pt, u]) = H5 at e5 S5 ⊢
        refine ⟨_, rfl, _, rfl, sizeLine_ge (by show 3 ≤ 10000; decide), fun qp hqp => ?_⟩
        have e6 : (upd H5 qp (.tup [.ref qc, ev1, wv1])) qp = some (.tup [.ref qc, ev1, wv1]) := upd_same
        have S6 := S5.trans (same_new (o := .tup [.ref qc, ev1, wv1]) hqp)
        have e56 := same_new (o := .tup [.ref qc, ev1, wv1]) hqp _ _ e5
        generalize upd H5 qp (.tup [.ref qc, ev1, wv1]) = H6 at e6 S6 e56 ⊢
        refine ⟨_, rfl, sizeLine_ge (by show 2 ≤ 10000; decide), fun qq hqq => ?_⟩
        have S7 := S6.trans (same_new (o := .tup [.ref qp, .int lim]) hqq)
        have e7 : (upd H6 qq (.tup [.ref qp, .int lim])) qq = some (.tup [.ref qp, .int lim]) := upd_same
        have e67 := same_new (o := .tup [.ref qp, .int lim]) hqq _ _ e6
        have e57 := same_new (o := .tup [.ref qp, .int lim]) hqq _ _ e56
        generalize upd H6 qq (.tup [.ref qp, .int lim]) = H7 at e7 S7 e67 e57 ⊢
        have mc7 := mc2.same S7
        have hp7 := S7 _ _ hp2
        obtain ⟨mc8, c8⟩ := mc7.walk (f' := { f with place := .ref qp }) hp7 (wf2.setPlace _) (by rw [lookup_putF, if_neg (by decide +kernel)]; exact m12) (by rw [lookup_putF, if_neg (by decide +kernel)]; exact m22)
        refine ⟨qq, _, rfl, .inl (.inl e7), rfl, _, _, rfl, _, rfl, p, CW, dxp2, _, rfl, hp7, WC.cl, WC.nplace, Nat.lt_of_lt_of_le wf2.len (by decide), _, _, rfl, rfl, ?_⟩
        have C8 := (C2.trans (Chg.of_same (C := C) (p := p) (aS := aS) (aB := aB) S7)).trans c8
        have k8 := mc7.tup c8
        have tn8 := (tn2.keep mc2 (Chg.of_same S7)).keep mc7 c8
        refine do_tail WC RC (mc8.less (M' := 2 * k) (by omega)) (C8 _ _ hr0 nrp nrS nrB nins) ncr nrp RF fun H9 kp9 hr9 mc9 k9 he9 => ?_
        refine fin Reg1 G1 H9 hR hG (fun a o e n1 n2 n3 n4 n5 => kp9 _ _ (C8 _ _ e n1 n3 n4 n5) n1 n2) hr9 ⟨qp, by rw [show (lim : Int) - (s.steps - m0) = _ from rfl] at mc9; exact mc9, .ref qc, ev1, wv1, k9 _ _ (k8 _ _ e67), ?_, he9 _ _ tn8.e, tn8.w.keep k9 (fun _ _ h => h) fun v e h => he9 _ _ h⟩
        have e8 := k9 _ _ (k8 _ _ e57)
        rw [en] at e8
        exact ⟨qc, pt, u, rfl, e8, rt, (cn2.keep ((TupS.of S7).trans k8) fun _ _ h => h).keep k9 fun _ _ h => h⟩
      · skip
        have z2 : ¬ steps + mm > lim := fun y => z (decide_eq_true (by simp only; omega))
        refine ⟨_, rfl, rfl, _, rfl, ite2 (fun z => absurd z (by decide +kernel)) (fun _ => ?_)⟩
        refine ⟨_, rfl, rfl, _, rfl, ite2 (fun z => absurd z (by decide +kernel)) (fun _ => ?_)⟩
        obtain ⟨sct, fit, ft, _⟩ := g1'.c
        obtain ⟨s', hs'⟩ : ∃ s', U.formS U.frs kn t nx { code := .form mm t nx, env := env, wait := wait, head := head, steps := steps + mm, made := mk } = .go s' := by
          cases t with
          | atom k l => exact ft.elim
          | n3 wd b x y z => exact ft.elim
          | n1 wd b x => exact ⟨_, rfl⟩
          | n2 wd b x y =>
            cases wd with
            | pair => exact ⟨_, rfl⟩
            | lett => exact ⟨_, rfl⟩
            | _ => exact ft.elim
        have hst : U.step U.frs kn known lim { code := .form mm t nx, env := env, wait := wait, head := head, steps := steps, made := mk } = .go s' := by
          simp only [U.step, U.begins, if_neg z2]
          exact hs'
        have eo := g1'.e.2
        have hr2 := C2 _ _ hr0 nrp nrS nrB nins
        have mc2' : Mach C CW kn p aS aB f Reg1 G1 H2 mk (2 * (m + k) + 2) := by
          rw [show 2 * (m + k) + 2 = 2 * (m + 1 + k) by omega]
          exact mc2
        refine ⟨_, rfl, r, dxr, gs, rfl, hr2, gfm, _, rfl, _, rfl, _, rfl, _, rfl, _, rfl, kn, p, r, aS, aB, dxr, gs, _, _, _, f, Reg1, G1, { code := .form mm t nx, env := env, wait := wait, head := head, steps := steps + mm, made := mk }, s', 2 * (m + k), pt, t, nx, u, ev1, wv1, rfl, hr2, ncr, nrp, RF, mc2', rt, ft, sct, g1'.e.1, by simp only at eo ⊢; omega, cn2, tn2.e, tn2.w, hs', fun G3 H3 q3 hv3 cv3 ev3 wv3 hG3 c3 mc3 tn3 hq3 => ?_⟩
        refine ⟨q3, _, rfl, .inl (.inl hq3), rfl, _, _, rfl, _, _, rfl, _, _, rfl, _, _, rfl, rfl, ?_⟩
        refine ⟨_, rfl, rfl, _, rfl, ite2 (fun z => absurd z (by decide +kernel)) (fun _ => ?_)⟩
        refine iteF ?_
        rw [hst] at sg hrun1
        have es : s'.steps = steps + mm := form_steps hs'
        refine ⟨s', Reg1, G3, cv3, ev3, wv3, hv3, some (.int 2), some (.int mm), some (.ref pt), some .non, ?_, hR, fun a h => hG3 _ (hG _ h), C2.trans c3, mc3, tn3, sg, hrun1⟩
        rw [es]
        rfl
    | iff c d =>
      obtain ⟨a, u1, u2', rfl, ha, cn⟩ := tn1.c
      refine ⟨_, rfl, sizeLine_ge (by show 2 ≤ 10000; decide), fun q2 h2 => ?_⟩
      have S2 : Same H1 _ := same_new (o := .tup [V.ref a, .non]) h2
      refine ⟨q2, _, rfl, .inl (.inl upd_same), rfl, _, _, rfl, a, _, rfl, .inl (.inl (S2 _ _ ha)), rfl, _, _, rfl, _, _, rfl, _, _, rfl, _, _, rfl, rfl, _, _, rfl, rfl, ?_⟩
      have C2 := c1.trans (Chg.of_same (C := C) (p := p) (aS := aS) (aB := aB) S2)
      have mc2 := mc1.same S2
      have tn2 := tn1.keep mc1 (Chg.of_same S2)
      have u2 : ∀ {c : U.Cd} {v : V}, CodeV Reg1 H1 c v → CodeV Reg1 _ c v := fun h => h.keep (TupS.of S2) fun _ _ h => h
      generalize upd H1 q2 (.tup [V.ref a, .non]) = H2 at S2 C2 mc2 tn2 u2  ⊢
      have K2 := kv.keep mc C2 nkS nkB
      obtain ⟨dxp2, fs2, hp2, wf2, m12, m22⟩ := mc2.wk
      have cnA := u2 cn.1
      have cnB := u2 cn.2
      refine ⟨_, rfl, _, _, rfl, rfl, _, rfl, ite2 (fun z => absurd z (by decide +kernel)) (fun _ => ?_)⟩
      refine ⟨_, rfl, rfl, _, rfl, ite2 (fun z => absurd z (by decide +kernel)) (fun _ => ?_)⟩
      cases head with
      | none => exact absurd (Option.some.inj hrun1).symm hob
      | some hd =>
      have hh2 : HdV H2 hd hv1 := tn2.h
      by_cases hn : ∃ v, hd = .num v
      · obtain ⟨v, rfl⟩ := hn
        obtain ⟨b, rfl, hb2, bv⟩ := hh2
        refine ⟨_, rfl, b, _, 0, _, rfl, rfl, .inl (.inl hb2), at0 _ _, _, rfl, rfl, _, rfl, ite2 (fun z => absurd z (by decide +kernel)) (fun _ => ?_)⟩
        refine ⟨_, rfl, rfl, _, rfl, ite2 (fun z => absurd z (by decide +kernel)) (fun _ => ?_)⟩
        refine ⟨_, rfl, rfl, _, rfl, ite2 (fun z => absurd z (by decide +kernel)) (fun _ => ?_)⟩
        refine ⟨_, rfl, rfl, _, rfl, ite2 (fun _ => ?_) (fun z => absurd (by decide +kernel) z)⟩
        refine ⟨_, rfl, b, _, 1, _, rfl, rfl, .inl (.inl hb2), at1 _ _ _, _, rfl, ite2 (fun z => ?_) (fun z => ?_)⟩
        · have z2 : v ≠ 0 := by simpa using z
          have hst : U.step U.frs kn known lim { code := .iff c d, env := env, wait := wait, head := some (.num v), steps := steps, made := mk } = .go { code := c, env := env, wait := wait, head := some (.num v), steps := steps, made := mk } := by
            simp only [U.step, if_pos z2]
          refine ⟨_, rfl, ?_⟩
          refine ⟨_, rfl, rfl, _, rfl, ite2 (fun z => absurd z (by decide +kernel)) (fun _ => ?_)⟩
          refine iteF ?_
          rw [hst] at sg hrun1
          exact ⟨{ code := c, env := env, wait := wait, head := some (.num v), steps := steps, made := mk }, Reg1, G1, _, _, _, _, _, _, _, _, rfl, hR, hG, C2, (mc2.less (by omega)), ⟨cnA, tn2.e, tn2.w, tn2.h⟩, sg, hrun1⟩
        · have z2 : ¬ v ≠ 0 := by simpa using z
          have hst : U.step U.frs kn known lim { code := .iff c d, env := env, wait := wait, head := some (.num v), steps := steps, made := mk } = .go { code := d, env := env, wait := wait, head := some (.num v), steps := steps, made := mk } := by
            simp only [U.step, if_neg z2]
          refine ⟨_, rfl, ?_⟩
          refine ⟨_, rfl, rfl, _, rfl, ite2 (fun z => absurd z (by decide +kernel)) (fun _ => ?_)⟩
          refine iteF ?_
          rw [hst] at sg hrun1
          exact ⟨{ code := d, env := env, wait := wait, head := some (.num v), steps := steps, made := mk }, Reg1, G1, _, _, _, _, _, _, _, _, rfl, hR, hG, C2, (mc2.less (by omega)), ⟨cnB, tn2.e, tn2.w, tn2.h⟩, sg, hrun1⟩
      · obtain ⟨b, l, eb, hb2⟩ := hh2.word
        have hdec : (!decide (V.str (tx (wordH hd)) = V.str (tx numberW))) = true := by
          rw [decide_eq_false fun z => word_num (fun v z => hn ⟨v, z⟩) (tx_inj (V.str.inj z))]
          rfl
        subst eb
        refine ⟨_, rfl, b, _, 0, .str (tx (wordH hd)), rfl, rfl, .inl (.inl hb2), at0 _ _, _, rfl, rfl, _, rfl, ite2 (fun _ => ?_) (fun z => absurd hdec z)⟩
        refine ⟨_, rfl, _, rfl, _, rfl, p, CW, dxp2, _, _, rfl, hp2, WC.cl, WC.nknot, wf2.knot, hd, _, _, kn, rfl, hh2, fun uv H3 S3 g3 => ?_⟩
        refine ⟨rfl, fun r1 h4 => ?_⟩
        have S4 : Same H3 _ := same_new (o := .tup [.int 3, .int 0, .non, .non]) h4
        refine ⟨_, _, _, rfl, ?_⟩
        refine ⟨_, rfl, rfl, _, rfl, ite2 (fun z => absurd z (by decide +kernel)) (fun _ => ?_)⟩
        refine iteF ?_
        have hst : U.step U.frs kn known lim { code := .iff c d, env := env, wait := wait, head := some hd, steps := steps, made := mk } = .go (U.unfitS kn numberW hd { code := .iff c d, env := env, wait := wait, head := some hd, steps := steps, made := mk }) := by
          cases hd <;> first | rfl | exact absurd ⟨_, rfl⟩ hn
        rw [hst] at sg hrun1
        have S24 := S3.trans S4
        exact ⟨U.unfitS kn numberW hd { code := .iff c d, env := env, wait := wait, head := some hd, steps := steps, made := mk }, Reg1, G1, _, _, _, _, _, _, _, _, rfl, hR, hG, C2.trans (Chg.of_same S24), (mc2.same S24).less (by omega), ⟨⟨r1, rfl, upd_same⟩, mc2.env (Chg.of_same S24) tn2.e, rfl, g3.keep (TupS.of S4)⟩, sg, hrun1⟩
    | left nx =>
      obtain ⟨a, u, rfl, ha, cn⟩ := tn1.c
      refine ⟨_, rfl, sizeLine_ge (by show 2 ≤ 10000; decide), fun q2 h2 => ?_⟩
      have S2 : Same H1 _ := same_new (o := .tup [V.ref a, .non]) h2
      refine ⟨q2, _, rfl, .inl (.inl upd_same), rfl, _, _, rfl, a, _, rfl, .inl (.inl (S2 _ _ ha)), rfl, _, _, rfl, _, _, rfl, _, _, rfl, _, _, rfl, rfl, _, _, rfl, rfl, ?_⟩
      have C2 := c1.trans (Chg.of_same (C := C) (p := p) (aS := aS) (aB := aB) S2)
      have mc2 := mc1.same S2
      have tn2 := tn1.keep mc1 (Chg.of_same S2)
      have u2 : ∀ {c : U.Cd} {v : V}, CodeV Reg1 H1 c v → CodeV Reg1 _ c v := fun h => h.keep (TupS.of S2) fun _ _ h => h
      generalize upd H1 q2 (.tup [V.ref a, .non]) = H2 at S2 C2 mc2 tn2 u2  ⊢
      have K2 := kv.keep mc C2 nkS nkB
      obtain ⟨dxp2, fs2, hp2, wf2, m12, m22⟩ := mc2.wk
      have cn2 := u2 cn
      refine ⟨_, rfl, _, _, rfl, rfl, _, rfl, ite2 (fun z => absurd z (by decide +kernel)) (fun _ => ?_)⟩
      refine ⟨_, rfl, rfl, _, rfl, ite2 (fun z => absurd z (by decide +kernel)) (fun _ => ?_)⟩
      cases head with
      | none => exact absurd (Option.some.inj hrun1).symm hob
      | some hd =>
      have hh2 : HdV H2 hd hv1 := tn2.h
      by_cases hn : ∃ v, hd = .num v
      · obtain ⟨v, rfl⟩ := hn
        obtain ⟨b, rfl, hb2, bv⟩ := hh2
        refine ⟨_, rfl, b, _, 0, _, rfl, rfl, .inl (.inl hb2), at0 _ _, _, rfl, rfl, _, rfl, ite2 (fun z => absurd z (by decide +kernel)) (fun _ => ?_)⟩
        refine ⟨_, rfl, rfl, _, rfl, ite2 (fun _ => ?_) (fun z => absurd (by decide +kernel) z)⟩
        refine ⟨_, rfl, b, _, 1, _, rfl, rfl, .inl (.inl hb2), at1 _ _ _, _, rfl, sizeLine_ge (by show 2 ≤ 10000; decide), fun q3 h3 => ?_⟩
        have S3 : Same H2 _ := same_new (o := .tup [.int v, wv1]) h3
        refine ⟨_, rfl, rfl, _, rfl, ite2 (fun z => absurd z (by decide +kernel)) (fun _ => ?_)⟩
        refine iteF ?_
        have hst : U.step U.frs kn known lim { code := .left nx, env := env, wait := wait, head := some (.num v), steps := steps, made := mk } = .go { code := nx, env := env, wait := .num v wait, head := some (.num v), steps := steps, made := mk } := rfl
        rw [hst] at sg hrun1
        exact ⟨{ code := nx, env := env, wait := .num v wait, head := some (.num v), steps := steps, made := mk }, Reg1, G1, _, _, _, _, _, _, _, _, rfl, hR, hG, C2.trans (Chg.of_same S3), ((mc2.same S3).less (by omega)), ⟨cn2.keep (TupS.of S3) fun _ _ h => h, mc2.env (Chg.of_same S3) tn2.e, ⟨q3, _, rfl, upd_same, bv, tn2.w.keep (TupS.of S3) (fun _ _ h => h) fun v e h => mc2.env (Chg.of_same S3) h⟩, ⟨b, rfl, S3 _ _ hb2, bv⟩⟩, sg, hrun1⟩
      · obtain ⟨b, l, eb, hb2⟩ := hh2.word
        have hdec : (!decide (V.str (tx (wordH hd)) = V.str (tx numberW))) = true := by
          rw [decide_eq_false fun z => word_num (fun v z => hn ⟨v, z⟩) (tx_inj (V.str.inj z))]
          rfl
        subst eb
        refine ⟨_, rfl, b, _, 0, .str (tx (wordH hd)), rfl, rfl, .inl (.inl hb2), at0 _ _, _, rfl, rfl, _, rfl, ite2 (fun _ => ?_) (fun z => absurd hdec z)⟩
        refine ⟨_, rfl, _, rfl, _, rfl, p, CW, dxp2, _, _, rfl, hp2, WC.cl, WC.nknot, wf2.knot, hd, _, _, kn, rfl, hh2, fun uv H3 S3 g3 => ?_⟩
        refine ⟨rfl, fun r1 h4 => ?_⟩
        have S4 : Same H3 _ := same_new (o := .tup [.int 3, .int 0, .non, .non]) h4
        refine ⟨_, _, _, rfl, ?_⟩
        refine ⟨_, rfl, rfl, _, rfl, ite2 (fun z => absurd z (by decide +kernel)) (fun _ => ?_)⟩
        refine iteF ?_
        have hst : U.step U.frs kn known lim { code := .left nx, env := env, wait := wait, head := some hd, steps := steps, made := mk } = .go (U.unfitS kn numberW hd { code := .left nx, env := env, wait := wait, head := some hd, steps := steps, made := mk }) := by
          cases hd <;> first | rfl | exact absurd ⟨_, rfl⟩ hn
        rw [hst] at sg hrun1
        have S24 := S3.trans S4
        exact ⟨U.unfitS kn numberW hd { code := .left nx, env := env, wait := wait, head := some hd, steps := steps, made := mk }, Reg1, G1, _, _, _, _, _, _, _, _, rfl, hR, hG, C2.trans (Chg.of_same S24), (mc2.same S24).less (by omega), ⟨⟨r1, rfl, upd_same⟩, mc2.env (Chg.of_same S24) tn2.e, rfl, g3.keep (TupS.of S4)⟩, sg, hrun1⟩
    | right wd nx =>
      obtain ⟨a, u, rfl, ha, cn⟩ := tn1.c
      refine ⟨_, rfl, sizeLine_ge (by show 2 ≤ 10000; decide), fun q2 h2 => ?_⟩
      have S2 : Same H1 _ := same_new (o := .tup [V.ref a, .non]) h2
      refine ⟨q2, _, rfl, .inl (.inl upd_same), rfl, _, _, rfl, a, _, rfl, .inl (.inl (S2 _ _ ha)), rfl, _, _, rfl, _, _, rfl, _, _, rfl, _, _, rfl, rfl, _, _, rfl, rfl, ?_⟩
      have C2 := c1.trans (Chg.of_same (C := C) (p := p) (aS := aS) (aB := aB) S2)
      have mc2 := mc1.same S2
      have tn2 := tn1.keep mc1 (Chg.of_same S2)
      have u2 : ∀ {c : U.Cd} {v : V}, CodeV Reg1 H1 c v → CodeV Reg1 _ c v := fun h => h.keep (TupS.of S2) fun _ _ h => h
      generalize upd H1 q2 (.tup [V.ref a, .non]) = H2 at S2 C2 mc2 tn2 u2  ⊢
      have K2 := kv.keep mc C2 nkS nkB
      obtain ⟨dxp2, fs2, hp2, wf2, m12, m22⟩ := mc2.wk
      have cn2 := u2 cn
      refine ⟨_, rfl, _, _, rfl, rfl, _, rfl, ite2 (fun z => absurd z (by decide +kernel)) (fun _ => ?_)⟩
      refine ⟨_, rfl, rfl, _, rfl, ite2 (fun z => absurd z (by decide +kernel)) (fun _ => ?_)⟩
      cases head with
      | none => exact absurd (Option.some.inj hrun1).symm hob
      | some hd =>
      have hh2 : HdV H2 hd hv1 := tn2.h
      by_cases hn : ∃ v, hd = .num v
      · obtain ⟨v, rfl⟩ := hn
        obtain ⟨b, rfl, hb2, bv⟩ := hh2
        refine ⟨_, rfl, b, _, 0, _, rfl, rfl, .inl (.inl hb2), at0 _ _, _, rfl, rfl, _, rfl, ite2 (fun z => absurd z (by decide +kernel)) (fun _ => ?_)⟩
        cases wait with
        | nil => exact absurd (Option.some.inj hrun1).symm hob
        | cont c e r => exact absurd (Option.some.inj hrun1).symm hob
        | num u0 w0 =>
        obtain ⟨c, wv2, rfl, hc2, bu, wt2⟩ := tn2.w
        refine ⟨_, rfl, rfl, _, rfl, ite2 (fun z => absurd z (by decide +kernel)) (fun _ => ?_)⟩
        refine ⟨_, rfl, rfl, _, rfl, ite2 (fun _ => ?_) (fun z => absurd (by decide +kernel) z)⟩
        refine ⟨_, rfl, _, rfl, c, _, 0, _, rfl, rfl, .inl (.inl hc2), at0 _ _, _, rfl, b, _, 1, _, rfl, rfl, .inl (.inl hb2), at1 _ _ _, _, rfl, p, CW, dxp2, _, _, rfl, hp2, WC.cl, WC.nknot, wf2.knot, wd, u0, v, kn, rfl, g1'.c.1, bu, bv, fun rv H3 S3 g3 => ?_⟩
        refine ⟨_, rfl, c, _, 1, _, rfl, rfl, .inl (.inl (S3 _ _ hc2)), at1 _ _ _, _, _, rfl, ?_⟩
        refine ⟨_, rfl, rfl, _, rfl, ite2 (fun z => absurd z (by decide +kernel)) (fun _ => ?_)⟩
        refine iteF ?_
        have hst : U.step U.frs kn known lim { code := .right wd nx, env := env, wait := .num u0 w0, head := some (.num v), steps := steps, made := mk } = .go { code := nx, env := env, wait := w0, head := some (U.reckH kn wd u0 v), steps := steps, made := mk } := rfl
        rw [hst] at sg hrun1
        exact ⟨{ code := nx, env := env, wait := w0, head := some (U.reckH kn wd u0 v), steps := steps, made := mk }, Reg1, G1, _, _, _, _, _, _, _, _, rfl, hR, hG, C2.trans (Chg.of_same S3), ((mc2.same S3).less (by omega)), ⟨cn2.keep (TupS.of S3) fun _ _ h => h, mc2.env (Chg.of_same S3) tn2.e, wt2.keep (TupS.of S3) (fun _ _ h => h) fun v e h => mc2.env (Chg.of_same S3) h, g3⟩, sg, hrun1⟩
      · obtain ⟨b, l, eb, hb2⟩ := hh2.word
        have hdec : (!decide (V.str (tx (wordH hd)) = V.str (tx numberW))) = true := by
          rw [decide_eq_false fun z => word_num (fun v z => hn ⟨v, z⟩) (tx_inj (V.str.inj z))]
          rfl
        subst eb
        refine ⟨_, rfl, b, _, 0, .str (tx (wordH hd)), rfl, rfl, .inl (.inl hb2), at0 _ _, _, rfl, rfl, _, rfl, ite2 (fun _ => ?_) (fun z => absurd hdec z)⟩
        refine ⟨_, rfl, _, rfl, _, rfl, p, CW, dxp2, _, _, rfl, hp2, WC.cl, WC.nknot, wf2.knot, hd, _, _, kn, rfl, hh2, fun uv H3 S3 g3 => ?_⟩
        refine ⟨rfl, fun r1 h4 => ?_⟩
        have S4 : Same H3 _ := same_new (o := .tup [.int 3, .int 0, .non, .non]) h4
        refine ⟨_, _, _, rfl, ?_⟩
        refine ⟨_, rfl, rfl, _, rfl, ite2 (fun z => absurd z (by decide +kernel)) (fun _ => ?_)⟩
        refine iteF ?_
        have hst : U.step U.frs kn known lim { code := .right wd nx, env := env, wait := wait, head := some hd, steps := steps, made := mk } = .go (U.unfitS kn numberW hd { code := .right wd nx, env := env, wait := wait, head := some hd, steps := steps, made := mk }) := by
          cases hd <;> first | rfl | exact absurd ⟨_, rfl⟩ hn
        rw [hst] at sg hrun1
        have S24 := S3.trans S4
        exact ⟨U.unfitS kn numberW hd { code := .right wd nx, env := env, wait := wait, head := some hd, steps := steps, made := mk }, Reg1, G1, _, _, _, _, _, _, _, _, rfl, hR, hG, C2.trans (Chg.of_same S24), (mc2.same S24).less (by omega), ⟨⟨r1, rfl, upd_same⟩, mc2.env (Chg.of_same S24) tn2.e, rfl, g3.keep (TupS.of S4)⟩, sg, hrun1⟩
    | call t nx =>
      obtain ⟨a, pt, u, rfl, ha, rt, cn⟩ := tn1.c
      refine ⟨_, rfl, sizeLine_ge (by show 2 ≤ 10000; decide), fun q2 h2 => ?_⟩
      have S2 : Same H1 _ := same_new (o := .tup [V.ref a, .non]) h2
      refine ⟨q2, _, rfl, .inl (.inl upd_same), rfl, _, _, rfl, a, _, rfl, .inl (.inl (S2 _ _ ha)), rfl, _, _, rfl, _, _, rfl, _, _, rfl, _, _, rfl, rfl, _, _, rfl, rfl, ?_⟩
      have C2 := c1.trans (Chg.of_same (C := C) (p := p) (aS := aS) (aB := aB) S2)
      have mc2 := mc1.same S2
      have tn2 := tn1.keep mc1 (Chg.of_same S2)
      have u2 : ∀ {c : U.Cd} {v : V}, CodeV Reg1 H1 c v → CodeV Reg1 _ c v := fun h => h.keep (TupS.of S2) fun _ _ h => h
      generalize upd H1 q2 (.tup [V.ref a, .non]) = H2 at S2 C2 mc2 tn2 u2  ⊢
      have K2 := kv.keep mc C2 nkS nkB
      obtain ⟨dxp2, fs2, hp2, wf2, m12, m22⟩ := mc2.wk
      have cn2 := u2 cn
      refine ⟨_, rfl, _, _, rfl, rfl, _, rfl, ite2 (fun z => absurd z (by decide +kernel)) (fun _ => ?_)⟩
      refine ⟨_, rfl, rfl, _, rfl, ite2 (fun z => absurd z (by decide +kernel)) (fun _ => ?_)⟩
      cases head with
      | none => exact absurd (Option.some.inj hrun1).symm hob
      | some hd =>
      have hh2 : HdV H2 hd hv1 := tn2.h
      by_cases hn : ∃ x b ns, hd = .dfn x b ns
      · obtain ⟨x0, b0, ns, rfl⟩ := hn
        obtain ⟨b, r1, rfl, hb2, hrows⟩ := id hh2
        refine ⟨_, rfl, b, _, 0, _, rfl, rfl, .inl (.inl hb2), at0 _ _, _, rfl, rfl, _, rfl, ite2 (fun z => absurd z (by decide +kernel)) (fun _ => ?_)⟩
        refine ⟨_, rfl, rfl, _, rfl, ite2 (fun z => absurd z (by decide +kernel)) (fun _ => ?_)⟩
        refine ⟨_, rfl, rfl, _, rfl, ite2 (fun z => absurd z (by decide +kernel)) (fun _ => ?_)⟩
        refine ⟨_, rfl, rfl, _, rfl, ite2 (fun z => absurd z (by decide +kernel)) (fun _ => ?_)⟩
        refine ⟨_, rfl, rfl, _, rfl, ite2 (fun _ => ?_) (fun z => absurd (by decide +kernel) z)⟩
        obtain ⟨fb, nl, _⟩ := g1'.h _ rfl
        have hr2 := C2 _ _ hr0 nrp nrS nrB nins
        have mc2' : Mach C CW kn p aS aB f Reg1 G1 H2 mk (2 * (m + k) + 2) := by
          rw [show 2 * (m + k) + 2 = 2 * (m + 1 + k) by omega]
          exact mc2
        refine ⟨_, rfl, r, dxr, gs, rfl, hr2, gca, _, rfl, _, rfl, _, rfl, _, rfl, _, rfl, _, rfl, kn, p, r, aS, aB, dxr, gs, _, _, _, f, Reg1, G1, { code := .call t nx, env := env, wait := wait, head := some (.dfn x0 b0 ns), steps := steps, made := mk }, 2 * (m + k), pt, t, nx, x0, b0, ns, u, ev1, wv1, _, rfl, hr2, ncr, nrp, RF, mc2', rt, hh2, fb, nl, cn2, tn2.e, tn2.w, fun Reg3 G3 H3 q3 cv3 ev3 wv3 hR3 hG3 c3 mc3 hc3 he3 hw3 hq3 => ?_⟩
        refine ⟨q3, _, rfl, .inl (.inl hq3), rfl, _, _, rfl, _, _, rfl, _, _, rfl, rfl, ?_⟩
        refine ⟨_, rfl, rfl, _, rfl, ite2 (fun z => absurd z (by decide +kernel)) (fun _ => ?_)⟩
        refine iteF ?_
        have hst : U.step U.frs kn known lim { code := .call t nx, env := env, wait := wait, head := some (.dfn x0 b0 ns), steps := steps, made := mk } = .go { code := U.coded b0 1 .endd, env := putR (putAll [] ns) x0 (U.madeNm kn (mk.length + 1)), wait := U.behindW nx env wait, head := some (.dfn x0 b0 ns), steps := steps, made := mk ++ [(t, env)] } := rfl
        rw [hst] at sg hrun1
        exact ⟨{ code := U.coded b0 1 .endd, env := putR (putAll [] ns) x0 (U.madeNm kn (mk.length + 1)), wait := U.behindW nx env wait, head := some (.dfn x0 b0 ns), steps := steps, made := mk ++ [(t, env)] }, Reg3, G3, cv3, ev3, wv3, _, _, _, _, _, rfl, fun p t h => hR3 _ _ (hR _ _ h), fun a h => hG3 _ (hG _ h), C2.trans c3, mc3, ⟨hc3, he3, hw3, hh2.keep (mc2.tup c3)⟩, sg, hrun1⟩
      · obtain ⟨b, l, eb, hb2⟩ := hh2.word
        have hdec : (!decide (V.str (tx (wordH hd)) = V.str (tx defW))) = true := by
          rw [decide_eq_false fun z => word_dfn (fun x b ns z => hn ⟨x, b, ns, z⟩) (tx_inj (V.str.inj z))]
          rfl
        subst eb
        refine ⟨_, rfl, b, _, 0, .str (tx (wordH hd)), rfl, rfl, .inl (.inl hb2), at0 _ _, _, rfl, rfl, _, rfl, ite2 (fun _ => ?_) (fun z => absurd hdec z)⟩
        refine ⟨_, rfl, _, rfl, _, rfl, p, CW, dxp2, _, _, rfl, hp2, WC.cl, WC.nknot, wf2.knot, hd, _, _, kn, rfl, hh2, fun uv H3 S3 g3 => ?_⟩
        refine ⟨rfl, fun r1 h4 => ?_⟩
        have S4 : Same H3 _ := same_new (o := .tup [.int 3, .int 0, .non, .non]) h4
        refine ⟨_, _, _, rfl, ?_⟩
        refine ⟨_, rfl, rfl, _, rfl, ite2 (fun z => absurd z (by decide +kernel)) (fun _ => ?_)⟩
        refine iteF ?_
        have hst : U.step U.frs kn known lim { code := .call t nx, env := env, wait := wait, head := some hd, steps := steps, made := mk } = .go (U.unfitS kn defW hd { code := .call t nx, env := env, wait := wait, head := some hd, steps := steps, made := mk }) := by
          cases hd <;> first | rfl | exact absurd ⟨_, _, _, rfl⟩ hn
        rw [hst] at sg hrun1
        have S24 := S3.trans S4
        exact ⟨U.unfitS kn defW hd { code := .call t nx, env := env, wait := wait, head := some hd, steps := steps, made := mk }, Reg1, G1, _, _, _, _, _, _, _, _, rfl, hR, hG, C2.trans (Chg.of_same S24), (mc2.same S24).less (by omega), ⟨⟨r1, rfl, upd_same⟩, mc2.env (Chg.of_same S24) tn2.e, rfl, g3.keep (TupS.of S4)⟩, sg, hrun1⟩
    | half i nx =>
      obtain ⟨a, u, rfl, ha, cn⟩ := tn1.c
      refine ⟨_, rfl, sizeLine_ge (by show 2 ≤ 10000; decide), fun q2 h2 => ?_⟩
      have S2 : Same H1 _ := same_new (o := .tup [V.ref a, .non]) h2
      refine ⟨q2, _, rfl, .inl (.inl upd_same), rfl, _, _, rfl, a, _, rfl, .inl (.inl (S2 _ _ ha)), rfl, _, _, rfl, _, _, rfl, _, _, rfl, _, _, rfl, rfl, _, _, rfl, rfl, ?_⟩
      have C2 := c1.trans (Chg.of_same (C := C) (p := p) (aS := aS) (aB := aB) S2)
      have mc2 := mc1.same S2
      have tn2 := tn1.keep mc1 (Chg.of_same S2)
      have u2 : ∀ {c : U.Cd} {v : V}, CodeV Reg1 H1 c v → CodeV Reg1 _ c v := fun h => h.keep (TupS.of S2) fun _ _ h => h
      generalize upd H1 q2 (.tup [V.ref a, .non]) = H2 at S2 C2 mc2 tn2 u2  ⊢
      have K2 := kv.keep mc C2 nkS nkB
      obtain ⟨dxp2, fs2, hp2, wf2, m12, m22⟩ := mc2.wk
      have cn2 := u2 cn
      refine ⟨_, rfl, _, _, rfl, rfl, _, rfl, ite2 (fun z => absurd z (by decide +kernel)) (fun _ => ?_)⟩
      refine ⟨_, rfl, rfl, _, rfl, ite2 (fun z => absurd z (by decide +kernel)) (fun _ => ?_)⟩
      cases head with
      | none => exact absurd (Option.some.inj hrun1).symm hob
      | some hd =>
      have hh2 : HdV H2 hd hv1 := tn2.h
      by_cases hn : ∃ x y, hd = .pair x y
      · obtain ⟨x0, y0, rfl⟩ := hn
        obtain ⟨b, rfl, hb2⟩ := id hh2
        refine ⟨_, rfl, b, _, 0, _, rfl, rfl, .inl (.inl hb2), at0 _ _, _, rfl, rfl, _, rfl, ite2 (fun z => absurd z (by decide +kernel)) (fun _ => ?_)⟩
        refine ⟨_, rfl, rfl, _, rfl, ite2 (fun z => absurd z (by decide +kernel)) (fun _ => ?_)⟩
        refine ⟨_, rfl, rfl, _, rfl, ite2 (fun z => absurd z (by decide +kernel)) (fun _ => ?_)⟩
        refine ⟨_, rfl, rfl, _, rfl, ite2 (fun z => absurd z (by decide +kernel)) (fun _ => ?_)⟩
        refine ⟨_, rfl, rfl, _, rfl, ite2 (fun z => absurd z (by decide +kernel)) (fun _ => ?_)⟩
        refine ⟨_, rfl, _, rfl, b, _, _, .str (tx (if i then y0 else x0)), rfl, rfl, .inl (.inl hb2), ?_, ?_⟩
        · cases i with
          | true => exact at2' _ _ _ _
          | false => exact at1 _ _ _
        refine ⟨_, rfl, rfl, _, rfl, ite2 (fun _ => ?_) (fun z => absurd (by simp) z)⟩
        obtain ⟨kvk, hkd, kvf⟩ := id K2
        have hv0 := kvf (if i then y0 else x0)
        cases hkn : known (if i then y0 else x0) with
        | none =>
          rw [hkn] at hv0
          have dg : DGet H2 kd (.str (tx (if i then y0 else x0))) none := by
            rw [← hv0]
            exact DGet.k (k := .inr _) hkd
          refine ⟨_, rfl, kd, rfl, .inl ⟨_, .inl hkd⟩, _, rfl, none, dg, rfl, _, rfl, ite2 (fun _ => ?_) (fun z => absurd (by simp) z)⟩
          have hst : U.step U.frs kn known lim { code := .half i nx, env := env, wait := wait, head := some (.pair x0 y0), steps := steps, made := mk } = .need { code := nx, env := env, wait := wait, head := some (.pair x0 y0), steps := steps, made := mk } (if i then y0 else x0) := by
            simp only [U.step, U.asks, hkn]
          rw [hst] at hrun1
          cases hrun1
          refine ⟨_, rfl, _, rfl, _, rfl, sizeLine_ge (by show 3 ≤ 10000; decide), fun qp hqp => ?_⟩
          have e6 : (upd H2 qp (.tup [u, ev1, wv1])) qp = some (.tup [u, ev1, wv1]) := upd_same
          have S6 : Same H2 _ := same_new (o := .tup [u, ev1, wv1]) hqp
          generalize upd H2 qp (.tup [u, ev1, wv1]) = H6 at e6 S6 ⊢
          refine ⟨_, rfl, sizeLine_ge (by show 2 ≤ 10000; decide), fun qq hqq => ?_⟩
          have S7 := S6.trans (same_new (o := .tup [.ref qp, .str (tx (if i then y0 else x0))]) hqq)
          have e7 : (upd H6 qq (.tup [.ref qp, .str (tx (if i then y0 else x0))])) qq = some (.tup [.ref qp, .str (tx (if i then y0 else x0))]) := upd_same
          have e67 := same_new (o := .tup [.ref qp, .str (tx (if i then y0 else x0))]) hqq _ _ e6
          generalize upd H6 qq (.tup [.ref qp, .str (tx (if i then y0 else x0))]) = H7 at e7 S7 e67 ⊢
          have mc7 := mc2.same S7
          have hp7 := S7 _ _ hp2
          have wf8 := (wf2.setPlace (.ref qp)).setNeed (.str (tx (if i then y0 else x0)))
          obtain ⟨mc8, c8⟩ := mc7.walk (f' := { f with place := .ref qp, need := .str (tx (if i then y0 else x0)) }) hp7 wf8 (by rw [lookup_putF, if_neg (by decide +kernel), lookup_putF, if_neg (by decide +kernel)]; exact m12) (by rw [lookup_putF, if_neg (by decide +kernel), lookup_putF, if_neg (by decide +kernel)]; exact m22)
          refine ⟨qq, _, rfl, .inl (.inl e7), rfl, _, _, rfl, _, rfl, p, CW, dxp2, _, rfl, hp7, WC.cl, WC.nplace, Nat.lt_of_lt_of_le wf2.len (by decide), _, _, rfl, _, rfl, p, CW, dxp2, _, rfl, upd_same, WC.cl, WC.nneed, (wf2.setPlace (.ref qp)).len, rfl, ?_⟩
          rw [upd_upd]
          have C8 := (C2.trans (Chg.of_same (C := C) (p := p) (aS := aS) (aB := aB) S7)).trans c8
          have k8 := mc7.tup c8
          have tn8 := (tn2.keep mc2 (Chg.of_same S7)).keep mc7 c8
          refine do_tail WC RC (mc8.less (M' := 2 * k) (by omega)) (C8 _ _ hr0 nrp nrS nrB nins) ncr nrp RF fun H9 kp9 hr9 mc9 k9 he9 => ?_
          exact fin Reg1 G1 H9 hR hG (fun a o e n1 n2 n3 n4 n5 => kp9 _ _ (C8 _ _ e n1 n3 n4 n5) n1 n2) hr9 ⟨qp, mc9, u, ev1, wv1, k9 _ _ (k8 _ _ e67), (cn2.keep ((TupS.of S7).trans k8) fun _ _ h => h).keep k9 fun _ _ h => h, he9 _ _ tn8.e, tn8.w.keep k9 (fun _ _ h => h) fun v e h => he9 _ _ h⟩
        | some hd2 =>
          rw [hkn] at hv0
          obtain ⟨v2, hv1', hv2⟩ := hv0
          obtain ⟨a2, l2, ev2, _⟩ := hv2.word
          subst ev2
          have dg : DGet H2 kd (.str (tx (if i then y0 else x0))) (some (.ref a2)) := by
            rw [← hv1']
            exact DGet.k (k := .inr _) hkd
          refine ⟨_, rfl, kd, rfl, .inl ⟨_, .inl hkd⟩, _, rfl, some (.ref a2), dg, rfl, _, rfl, ite2 (fun z => absurd z (by simp)) (fun _ => ?_)⟩
          have hst : U.step U.frs kn known lim { code := .half i nx, env := env, wait := wait, head := some (.pair x0 y0), steps := steps, made := mk } = .go { code := nx, env := env, wait := wait, head := some hd2, steps := steps, made := mk } := by
            simp only [U.step, U.asks, hkn]
          rw [hst] at sg hrun1
          exact ⟨{ code := nx, env := env, wait := wait, head := some hd2, steps := steps, made := mk }, Reg1, G1, _, _, _, _, _, _, _, _, rfl, hR, hG, C2, (mc2.less (by omega)), ⟨cn2, tn2.e, tn2.w, hv2⟩, sg, hrun1⟩
      · obtain ⟨b, l, eb, hb2⟩ := hh2.word
        have hdec : (!decide (V.str (tx (wordH hd)) = V.str (tx pairW))) = true := by
          rw [decide_eq_false fun z => word_pair (fun x y z => hn ⟨x, y, z⟩) (tx_inj (V.str.inj z))]
          rfl
        subst eb
        refine ⟨_, rfl, b, _, 0, .str (tx (wordH hd)), rfl, rfl, .inl (.inl hb2), at0 _ _, _, rfl, rfl, _, rfl, ite2 (fun _ => ?_) (fun z => absurd hdec z)⟩
        refine ⟨_, rfl, _, rfl, _, rfl, p, CW, dxp2, _, _, rfl, hp2, WC.cl, WC.nknot, wf2.knot, hd, _, _, kn, rfl, hh2, fun uv H3 S3 g3 => ?_⟩
        refine ⟨rfl, fun r1 h4 => ?_⟩
        have S4 : Same H3 _ := same_new (o := .tup [.int 3, .int 0, .non, .non]) h4
        refine ⟨_, _, _, rfl, ?_⟩
        refine ⟨_, rfl, rfl, _, rfl, ite2 (fun z => absurd z (by decide +kernel)) (fun _ => ?_)⟩
        refine iteF ?_
        have hst : U.step U.frs kn known lim { code := .half i nx, env := env, wait := wait, head := some hd, steps := steps, made := mk } = .go (U.unfitS kn pairW hd { code := .half i nx, env := env, wait := wait, head := some hd, steps := steps, made := mk }) := by
          cases hd <;> first | rfl | exact absurd ⟨_, _, rfl⟩ hn
        rw [hst] at sg hrun1
        have S24 := S3.trans S4
        exact ⟨U.unfitS kn pairW hd { code := .half i nx, env := env, wait := wait, head := some hd, steps := steps, made := mk }, Reg1, G1, _, _, _, _, _, _, _, _, rfl, hR, hG, C2.trans (Chg.of_same S24), (mc2.same S24).less (by omega), ⟨⟨r1, rfl, upd_same⟩, mc2.env (Chg.of_same S24) tn2.e, rfl, g3.keep (TupS.of S4)⟩, sg, hrun1⟩
end
end K


set_option Elab.async false
set_option linter.all false
set_option maxRecDepth 100000
set_option maxHeartbeats 4000000
/-! a written tuple told by its object; dict() of a tuple of pairs -/
namespace U
open PySem PySem.Spec PyProof.Rows L2
def PlT (o : Obj) : Prop := o.cls = .type "tuple" ∧ o.dict = none ∧ ∃ is n, o.data = .seq is n
def tTupF (t : TA) : TE := fun σ H Q => t σ H fun xs H1 => xs.length ≤ sizeLine ∧ ∀ p o, H1 p = none → PlT o → Q (.ref p) (upd H1 p (.frz o (.tup xs)))
section
variable {X : Cx} {es : List Expr} {t : TA} {pos : Pos}
theorem pe_tupF {x1} (h : PA X es t) : PE X (.Tuple es x1 pos) (tTupF t) := by
  refine ⟨fun pins s σ H Q I hq => ?_⟩
  refine wpAny_Tuple_spliced (thn (h.run pos pins s σ H _ I hq) fun us s1 ⟨xs, H1, I1, r, z, q⟩ => ⟨by rw [← r.length]; exact z, ?_⟩)
  have hf : H1 s1.heap.objs.size = none := I1.hok.fresh (Nat.le_refl _)
  refine ⟨.ref s1.heap.objs.size, upd H1 s1.heap.objs.size (.frz { cls := .type "tuple", data := .seq us.toArray } (.tup xs)), I1.laid (t' := s1.toks) (fun b u e => Heap.get?_push_of_some _ e) (Nat.le_refl _) ?_, rfl, q _ _ hf ⟨rfl, rfl, _, _, rfl⟩⟩
  exact ⟨Heap.get?_push_size _ rfl, z, us, r, ⟨_, Heap.get?_push_size _ rfl, rfl, _, rfl⟩⟩
theorem pairs_ofV {pins : List (Addr × Obj)} {σ : L2.St} {H : Hp} {s : Shared} (I : L2.Inv X pins σ H s) : ∀ {ps : List Addr} {kvs : List (Key × V)}, Paired (fun p kv => SqT X.K H p [kV kv.1, kv.2]) ps kvs →
    ∃ (prs : List (Key × Value)) (pv : List (Value × Value)), KV kvs prs ∧ prs.length = ps.length ∧ pv.length = ps.length ∧ ∀ (j : Nat) (k v : Value), pv[j]? = some (k, v) → ∃ (b : Addr) (kk : Key), ps[j]? = some b ∧ IsTup s.heap b #[k, v] ∧ prs[j]? = some (kk, v) ∧ (mixKind X.prog X.w).is kk k = true
  | _, _, .nil => ⟨[], [], .nil, rfl, rfl, fun j k v e => by simp at e⟩
  | _, _, .cons (a := p) (b := kv) h t => by
    obtain ⟨prs, pv, r, hl, hl2, hp⟩ := pairs_ofV I t
    obtain ⟨its, rv, ht, _⟩ := I.tuple h
    obtain ⟨u, y, ei, ru, ry⟩ := vals2 rv
    subst ei
    refine ⟨(kv.1, y) :: prs, (u, y) :: pv, .cons ⟨rfl, ry⟩ r, by rw [List.length_cons, List.length_cons, hl], by rw [List.length_cons, List.length_cons, hl2], fun j k v e => ?_⟩
    cases j with
    | zero =>
      have e' : (u, y) = (k, v) := Option.some.inj e
      cases e'
      exact ⟨p, kv.1, rfl, ht, rfl, kV_is (P := X.prog) (w := X.w) ru⟩
    | succ j =>
      obtain ⟨b, kk, e1, e2, e3, e4⟩ := hp j k v (by simpa using e)
      exact ⟨b, kk, by simpa using e1, e2, by simpa using e3, e4⟩
theorem call_dictT (hcalm : X.calm = true) : CallR X (.type "dict") (fun xs H Q => ∃ (a : Addr) (o : Obj) (ps : List Addr) (kvs : List (Key × V)), xs = [.ref a] ∧ H a = some (.frz o (.tup (ps.map V.ref))) ∧ PlT o ∧ Paired (fun p kv => SqT X.K H p [kV kv.1, kv.2]) ps kvs ∧
    ∀ p, H p = none → Q (.ref p) (upd H p (.dK (mergeK [] kvs)))) := by
  intro pins s σ H xs us Q I r q
  obtain ⟨a, o, ps, kvs, ex, hq, ⟨pc, pd, is, n, pdat⟩, hp, q⟩ := q
  subst ex
  obtain ⟨u, eu, rx⟩ := vals1 r
  subst eu
  cases rx
  obtain ⟨ho, z, its, rv, o', ho', _, n', hd'⟩ := I.hok _ _ hq
  rw [ho] at ho'
  cases ho'
  have ei := refs_at rv
  subst ei
  rw [List.length_map] at z
  obtain ⟨prs, pv, rel, hl, hl2, hpr⟩ := pairs_ofV I hp
  have hm : (s.heap.objs.size == sysModules) = false := beq_eq_false_iff_ne.mpr (Nat.ne_of_gt I.big)
  refine PySem.call_dict_pairs (knd := mixKind X.prog X.w) (kvs := prs) (PairArg.tuple a (ps.map Value.ref).toArray (fun j => ps.getD j 0) pv) (I.ok.hd hcalm) ⟨⟨o, n', ho, pc, pd, hd'⟩, by simp [hl2], fun j k v e => ?_⟩ ⟨by rw [hl, hl2], fun i k v e => ?_⟩ (by rw [hl2]; exact z) fun h' tk hd'' k => ?_
  · obtain ⟨b, kk, e1, e2, _⟩ := hpr j k v e
    refine ⟨by simp [e1], .inl ?_⟩
    show s.heap.IsTuple (ps.getD j 0) #[k, v]
    have : ps.getD j 0 = b := by simp [e1]
    rw [this]
    exact e2
  · obtain ⟨b, kk, e1, e2, e3, e4⟩ := hpr i k v e
    exact ⟨kk, e3, e4⟩
  · have hlen : (mergeK [] kvs).length ≤ sizeLine := by
      refine Nat.le_trans (length_mergeK kvs []) ?_
      rw [List.length_nil, Nat.zero_add, rel.length, hl]
      exact z
    exact ⟨.ref s.heap.objs.size, upd H s.heap.objs.size (.dK (mergeK [] kvs)), I.laid (t' := tk) (fun b o e => k b o (by simp) e) (Nat.le_refl _) (show ObjOk X.prog X.w _ _ _ (.dK (mergeK [] kvs)) from ⟨hlen, hm, merged [] prs, KV.merge rel .nil, hd''⟩), rfl, q _ (I.hok.fresh (Nat.le_refl _))⟩
end
end U

set_option Elab.async false
set_option linter.all false
set_option maxRecDepth 100000
set_option maxHeartbeats 4000000
/-! B.m(e, ..): a def read off an own class and called, as an __init__ calls that of the class above -/
namespace U
open PySem PySem.Spec PyProof.Rows L2
/-- B.m is the def at f -/
structure SupI (K : PySem.W.Frag) (C : Addr) (m : Str) (f : Addr) : Prop where
  rd : PySem.W.readsIn K C (.type "type") = true
  ga : PySem.W.specialIn K (.ref C) "__getattribute__" = some (some (.builtin "type.__getattribute__"))
  at_ : PySem.W.findCls K (.ref C) (.type "type") m = some (.val (.ref f))
  kp : PySem.W.keepIn K (.ref f) = true
section
variable {X : Cx} {CX : CXT} {k : Nat} {f C : Addr} {fd : FuncData} {ps : List Str} {ds : List Value} {dvs : List V} {sp : Sp} {E : XK} {m : Str} {o e : Expr} {es : List Expr} {apos pos : Pos} {ta : TE} {t : TA}
def tSup (C : Addr) (sp : Sp) (dvs : List V) (E : XK) (ta : TE) (t : TA) : TE := fun σ H Q => ta σ H fun x H1 => x = .ref C ∧ t σ H1 fun vs H2 => sp (vs ++ dvs) H2 Q E
theorem pe_sup {pl : Sem Bool} (he : PE X o ta) (S : SupI X.K C m f) (F : FnOk X.prog X.w X.K X.mg X.base CX k f fd ps sp) (hr : Room k X.A) (hb : Binds X.K fd ps ds) (hd : Vals dvs ds) (hx : Passes CX X E) (ha : PA X (e :: es) t)
    (hst : starEach (e :: es) X.env = (false, eval e X.env) :: starEach es X.env := by rfl) (hpl : (backTo pos (starEach es X.env)).any (·.1) = false := by rfl)
    (ht : eval (.Call (.Attribute o m apos) (e :: es) [] pos) X.env = (do
      let ov ← eval o X.env
      standAt apos.atName
      let (f, first) ← holding [ov] (getMethod ov m pl)
      callWith pos f first (backTo pos (starEach (e :: es) X.env)) (backToKw pos (keywordEach [] X.env))) := by rfl) :
    PE X (.Call (.Attribute o m apos) (e :: es) [] pos) (tSup C sp dvs E ta t) := by
  refine ⟨fun pins s σ H Q I h => ?_⟩
  refine PySem.W.methodCall_KW (pl := pl) (thn (he.run pins s σ H _ I h) fun u s1 ⟨x, H1, I1, rx, ex, q⟩ => ?_) ht
  subst ex
  obtain rfl : u = Value.ref C := rx
  refine PySem.W.method_cls I1.kIn S.ga (ClX.getcval_ok I1 (mc := .type "type") ⟨S.rd, S.ga⟩ (v := .ref f) ⟨S.at_, rfl⟩ fun s2 I2 => ?_)
  refine PySem.W.callWith_K (first := []) (h₀ := X.base) I2.ok.mod.kin S.kp (thn (ha.run pos pins s2 σ H1 _ I2 q) fun us s3 ⟨vs, H2, I3, r, q2⟩ => ⟨I3.kIn, ?_⟩) hst hpl
  exact run_fn (us := us) (vs := vs) F hr hb hd hx I3 r q2
end
end U

set_option Elab.async false
set_option linter.all false
set_option maxRecDepth 100000
set_option maxHeartbeats 4000000
set_option pp.maxSteps 3000
namespace K
open PySem PySem.Spec PyProof.Rows L2 U
/-- up to its end, of numbers alone, and then none to go on with -/
def spGoN (CW CR : Addr) : Sp := fun vs H Q _ => ∃ (Reg : Addr → U.Tm → Prop) (Env : V → U.En → Prop) (fr : U.Tm → List U.Nm) (kn : U.Nm) (known : U.Nm → Option U.Hd) (lim : Nat) (s s' : U.St) (n : Nat) (p r q dxp dxr : Addr) (fs gs : List (Str × V)) (cv ev wv hv senses nd made en kd bodies : V) (m0 : Int),
  vs = [.ref r, .ref p] ∧ p ≠ r ∧ H p = some (.ins CW dxp fs) ∧ H r = some (.ins CR dxr gs) ∧ WalkF fs (.str (tx kn)) senses (.ref q) hv nd (.int m0) made en ∧ RunF gs (.int lim) kd bodies (.int s.steps) ∧ H q = some (.tup [cv, ev, wv]) ∧ Turn Reg Env H s cv wv hv ∧ StN s ∧
  U.runM fr kn known lim n s = some (.fin s') ∧ lim ≤ 10 ^ 17 ∧ s'.head ≠ none ∧ gs.lookup ("_do" : Str) = none ∧ gs.lookup ("follow" : Str) = none ∧
  ∀ H' hv', (∀ a o, H a = some o → a ≠ p → a ≠ r → H' a = some o) → H' p = some (.ins CW dxp (putF "steps" (.int (s'.steps - (s.steps - m0))) (putF "end" hv' fs))) → H' r = some (.ins CR dxr (putF "steps" (.int s'.steps) gs)) → OHdV H' s'.head hv' → Q .non H'
/-- a walk at its end -/
def spFollowN (CW CR : Addr) : Sp := fun vs H Q _ => ∃ (p r dxp dxr : Addr) (fs gs : List (Str × V)) (v : V), vs = [.ref r, .ref p] ∧ H p = some (.ins CW dxp fs) ∧ H r = some (.ins CR dxr gs) ∧ fs.lookup ("end" : Str) = some v ∧ v ≠ .non ∧ Q .non H
/-- the class Told as the top has made it -/
structure ToldC (K : PySem.W.Frag) (C : Addr) : Prop extends RunC K C where
  nneeds : NoAttr K C "needs"
  ngots : NoAttr K C "_gots"
  nwalk : NoAttr K C "walk"
def spToldInitN (C CR CW : Addr) : Sp := fun vs H Q _ => ∃ (Reg : Addr → U.Tm → Prop) (r dx aS q pt : Addr) (t : U.Tm) (kn : U.Nm) (gv bv ev : V) (kvs : List (Key × V)), vs = [.ref r, .str (tx kn), .ref aS, gv, bv] ∧ H r = some (.ins CR dx []) ∧ H aS = some (.dK kvs) ∧ valV kvs (.inr (tx kn)) = some (.ref q) ∧ H q = some (.tup [.ref pt, ev]) ∧
  Trees C Reg H ∧ Reg pt t ∧ t.depth ≤ 30 ∧ t.Nums ∧ t.val.2 ≤ 10 ^ 14 ∧ (∀ t, ¬ Reg r t) ∧ (∀ a, H a = none → ∀ t, ¬ Reg a t) ∧
  ∀ H' gs fs p dxp aN ev', ButP Reg r H H' → H' r = some (.ins CR dx gs) → gs.lookup ("needs" : Str) = some (.ref aN) → gs.lookup ("walk" : Str) = some (.ref p) → H' aN = some (.lst []) → H' p = some (.ins CW dxp fs) → fs.lookup ("made" : Str) = some (.int 0) → fs.lookup ("steps" : Str) = some (.int (t.val.2 : Nat)) → fs.lookup ("end" : Str) = some ev' → HdV H' (U.endOf kn t) ev' → Q .non H'
theorem Trees.but {C r CR dx : Addr} {Reg : Addr → U.Tm → Prop} {H H' : Hp} {gs : List (Str × V)} (h : Trees C Reg H) (b : But r H H') (nr : ∀ t, ¬ Reg r t) (hr : H r = some (.ins CR dx gs)) : Trees C Reg H' := ⟨h.uniq, fun p t g => by
  obtain ⟨dx', tw, tf, cd, qs, ys, R⟩ := h.node p t g
  have k : TupS H H' := fun a l e => b a _ e (ne_of e hr (by intro z; cases z))
  have npr : p ≠ r := fun z => nr t (by rw [← z]; exact g)
  exact ⟨dx', tw, tf, cd, qs, ys, b _ _ R.hp npr, k _ _ R.hw, k _ _ R.hf, R.fr, R.kids, R.code.imp id fun c => c.keep k fun _ _ h => h, R.ok⟩⟩
section
variable {P : Program} {w : World} {K : PySem.W.Frag} {mg : Str → Option Value} {base : Heap} {dW dB dN : Addr} {esW : Array DictEntry} {nW : Nat} (T : Txt K mg w dW dB esW nW) (N : Runs K mg dN)
include T N
theorem ok_Run_goN {f f1 f2 CW CR : Addr} {fd fd1 fd2 : FuncData} (F : Fun K "go" "Run.go" s_Run_go f fd) (WC : WalkC K CW) (RC : RunC K CR)
    (hDo : HasW P w K mg base CR "_do" 35 ["self", "walk"] (spDoN CW CR) f1 fd1) (hFo : HasW P w K mg base CR "follow" 2 ["self", "walk"] (spFollowN CW CR) f2 fd2) : FnOk P w K mg base CX0 36 f fd ["self", "walk"] (spGoN CW CR) := by
  refine F.ok sc_Run_go (fun vs H Q E h => ?_) (fun cdv A outer s H vs Q E hr h => ?_)
  · obtain ⟨Reg, Env, fr, kn, known, lim, s, s', n, p, r, q, dxp, dxr, fs, gs, cv, ev, wv, hv, senses, nd, made, en, kd, bodies, m0, rfl, _⟩ := h
    rfl
  · obtain ⟨Reg, Env, fr, kn, known, lim, s, s', n, p, r, q, dxp, dxr, fs, gs, cv, ev, wv, hv, senses, nd, made, en, kd, bodies, m0, rfl, npr, hp, hr0, WF, RF, hq, tn, sn, hrun, hlim, hh, g1, g2, fin⟩ := h
    refine ⟨_, (pss_one (ps_while PassesOwn.never (pt_cmpR op_notN (pv 1) pe_non (nomark _)) 
        (pss_cons (ps_expr (pe_meth (pv 0) RC.cl hDo.me hDo.ok (hr.mono (by first | decide | omega)) hDo.bi .nil pass0 (pa_cons (pv 1) pa_nil)))
        (pss_one (ps_set (i := 1) sc_Run_go.nd rfl (.inl rfl) (pe_meth (pv 0) RC.cl hFo.me hFo.ok (hr.mono (by first | decide | omega)) hFo.bi .nil pass0 (pa_cons (pv 1) pa_nil))))))), ?_⟩
    refine ⟨fun m σ H1 => (m = 1 ∧ σ = [some (.ref r), some (.ref p)] ∧ H1 = H) ∨ (m = 0 ∧ σ = [some (.ref r), some .non] ∧ Q .non H1), ⟨1, .inl ⟨rfl, rfl, rfl⟩⟩, ?_⟩
    rintro m σ H1 (⟨em, es, eh⟩ | ⟨em, es, qq⟩)
    · subst em
      subst es
      rw [eh]
      refine ⟨_, rfl, rfl, _, rfl, ite2 (fun _ => ?_) (fun z => absurd (by simp) z)⟩
      refine ⟨fun σ' H' => σ' = [some (.ref r), some .non] ∧ Q .non H', fun σ' H' h => ⟨0, by decide, .inr ⟨rfl, h.1, h.2⟩⟩, ?_⟩
      refine ⟨_, rfl, r, dxr, gs, rfl, hr0, g1, _, rfl, Reg, Env, fr, kn, known, lim, s, s', n, p, r, q, dxp, dxr, fs, gs, cv, ev, wv, hv, senses, nd, made, en, kd, bodies, m0, rfl, npr, hp, hr0, WF, RF, hq, tn, sn, hrun, hlim, fun H2 hv2 b2 hp2 hr2 hh2 => ?_⟩
      have g2' : (putF "steps" (.int s'.steps) gs).lookup ("follow" : Str) = none := by
        rw [lookup_putF, if_neg (by decide +kernel)]
        exact g2
      have e2' : (putF "steps" (.int (s'.steps - (s.steps - m0))) (putF "end" hv2 fs)).lookup ("end" : Str) = some hv2 := by
        rw [lookup_putF, if_neg (by decide +kernel), lookup_putF, if_pos rfl]
      have nv2 : hv2 ≠ .non := by
        cases hd : s'.head with
        | none => exact absurd hd hh
        | some h =>
          rw [hd] at hh2
          obtain ⟨a, l, e, _⟩ := HdV.word hh2
          rw [e]
          intro z
          cases z
      exact ⟨_, rfl, r, dxr, _, rfl, hr2, g2', _, rfl, p, r, dxp, dxr, _, _, hv2, rfl, hp2, hr2, e2', nv2, rfl, fin H2 hv2 b2 hp2 hr2 hh2⟩
    · subst em
      subst es
      exact ⟨_, rfl, rfl, _, rfl, ite2 (fun z => absurd z (by decide +kernel)) (fun _ => qq)⟩
theorem ok_Told_followN {f f1 CW CR : Addr} {fd fd1 : FuncData} (F : Fun K "follow" "Told.follow" s_Told_follow f fd) (WC : WalkC K CW) (TC : ToldC K CR) (hTk : HasW P w K mg base CW "take" 1 ["self", "got"] (spTakeW CW) f1 fd1) : FnOk P w K mg base CX0 2 f fd ["self", "walk"] (spFollowN CW CR) := by
  refine F.ok sc_Told_follow (fun vs H Q E h => ?_) (fun cdv A outer s H vs Q E hr h => ?_)
  · obtain ⟨p, r, dxp, dxr, fs, gs, v, rfl, _⟩ := h
    rfl
  · obtain ⟨p, r, dxp, dxr, fs, gs, v, rfl, hp, hr0, hv, nv, q⟩ := h
    refine ⟨_, (pss_cons (ps_if (pt_cmpR op_notN (pe_fld (pv 1) (by rfl)) pe_non (nomark _)) 
        (pss_one (ps_ret pe_non)) pss_nil)
      (pss_cons (ps_expr (pe_bm PySem.F.plainAttrs_list PySem.F.slot_list_append PySem.F.type_list_append mt_append (pe_fld (pv 0) (by rfl)) (pa_cons (pe_fld (pv 1) (by rfl)) pa_nil)))
      (pss_cons (ps_if (pt_cmpR op_gt (pe_callB call_len_seq (by rfl) T.z_len (by decide +kernel) (pa_cons (pe_fld (pv 0) (by rfl)) pa_nil)) (pe_callB call_len_seq (by rfl) T.z_len (by decide +kernel) (pa_cons (pe_fld (pv 0) (by rfl)) pa_nil)) (nomark _)) 
        (pss_one (ps_ret pe_non)) pss_nil)
      (pss_cons (ps_expr (pe_meth (pv 1) WC.cl hTk.me hTk.ok (hr.mono (by first | decide | omega)) hTk.bi .nil pass0 (pa_cons (pe_ix ix_list (pe_fld (pv 0) (by rfl)) (pe_op op_sub (pe_callB call_len_seq (by rfl) T.z_len (by decide +kernel) (pa_cons (pe_fld (pv 0) (by rfl)) pa_nil)) pe_int) (fun _ _ => rfl)) pa_nil)))
      (pss_one (ps_ret (pv 1))))))), ?_⟩
    refine ⟨_, rfl, p, CW, dxp, _, _, rfl, hp, WC.cl, WC.nend, hv, rfl, _, rfl, ite2 (fun _ => q) (fun z => absurd ?_ z)⟩
    rw [decide_eq_false nv]
    rfl
theorem ok_Told_initN {f f1 f2 f3 C CW CB CR : Addr} {fd fd1 fd2 fd3 : FuncData} (F : Fun K "__init__" "Told.__init__" s_Told___init__ f fd) (WC : WalkC K CW) (TC : ToldC K CR) (hRun : mg "Run" = some (.ref CB)) (SS : SupI K CB "__init__" f1)
    (okR : FnOk P w K mg base CX0 1 f1 fd1 ["self", "most", "known", "bodies"] (spRunInit K)) (bR : Binds K fd1 ["self", "most", "known", "bodies"] []) (m_Walking : HasC P w K mg base "Walking" CW 34 ["self", "knot", "sense", "senses"] (spWalkInit C CW) f2 fd2)
    (hGo : HasW P w K mg base CR "go" 36 ["self", "walk"] (spGoN CW CR) f3 fd3) : FnOk P w K mg base CX0 37 f fd ["self", "knot", "senses", "gots", "bodies"] (spToldInitN C CR CW) := by
  have RC : RunC K CR := TC.toRunC
  refine F.ok sc_Told___init__ (fun vs H Q E h => ?_) (fun cdv A outer s H vs Q E hr h => ?_)
  · obtain ⟨Reg, r, dx, aS, q, pt, t, kn, gv, bv, ev, kvs, rfl, _⟩ := h
    rfl
  · have hu := hu_of hr
    obtain ⟨Reg, r, dx, aS, q, pt, t, kn, gv, bv, ev, kvs, rfl, hr0, hS, hk, hq, TR, rt, td, tnm, tv, nr, nn, fin⟩ := h
    refine ⟨_, (pss_cons (ps_expr (pe_sup (pe_globR (by rfl) hRun) SS okR (hr.mono (by first | decide | omega)) bR .nil pass0 (pa_cons (pv 0) (pa_cons (pe_globI (by rfl) T.g_NO_MOST) (pa_cons pe_dnewK (pa_cons (pv 4) pa_nil))))))
      (pss_cons (ps_fld (pv 0) (pe_lst pa_nil) rfl)
      (pss_cons (ps_fld (pv 0) (pv 3) rfl)
      (pss_cons (ps_fld (pv 0) (pe_makeH m_Walking (hr.mono (by first | decide | omega)) (by rfl) (pa_cons (pv 1) (pa_cons (pe_dget hu (pv 2) (pv 1) (fun _ _ => rfl)) (pa_cons (pv 2) pa_nil)))) rfl)
      (pss_one (ps_expr (pe_meth (pv 0) RC.cl hGo.me hGo.ok (hr.mono (by first | decide | omega)) hGo.bi .nil pass0 (pa_cons (pe_fld (pv 0) (by rfl)) pa_nil)))))))), ?_⟩
    have h10 : (10 : Nat) ^ 15 = 1000000000000000 := by decide
    refine ⟨rfl, _, rfl, fun d1 hd1 => ⟨_, rfl, CR, r, dx, _, _, _, rfl, RC, same_new hd1 _ _ hr0, ?_⟩⟩
    have b1 : But r H (upd (upd H d1 (.dK [])) r (.ins CR dx (runF0 (.int 1000000000000000) (.ref d1) bv))) := (But.of_same (same_new hd1)).trans But.upd
    have e1 : (upd (upd H d1 (.dK [])) r (.ins CR dx (runF0 (.int 1000000000000000) (.ref d1) bv))) r = some (.ins CR dx (runF0 (.int 1000000000000000) (.ref d1) bv)) := upd_same
    generalize upd (upd H d1 (.dK [])) r (.ins CR dx (runF0 (.int 1000000000000000) (.ref d1) bv)) = H1 at b1 e1 ⊢
    have RF0 := runF_mk (.int 1000000000000000) (.ref d1) bv
    have l0 : (runF0 (.int 1000000000000000) (.ref d1) bv).length ≤ 4 := by
      unfold runF0
      have h1 := putF_len "most" (.int 1000000000000000) []
      have h2 := putF_len "known" (.ref d1) (putF "most" (.int 1000000000000000) [])
      have h3 := putF_len "bodies" bv (putF "known" (.ref d1) (putF "most" (.int 1000000000000000) []))
      have h4 := putF_len "steps" (.int 0) (putF "bodies" bv (putF "known" (.ref d1) (putF "most" (.int 1000000000000000) [])))
      simp only [List.length_nil] at h1
      omega
    have x0 : ∀ f : Str, f ∉ (["most", "known", "bodies", "steps"] : List Str) → (runF0 (.int 1000000000000000) (.ref d1) bv).lookup f = none := fun f hf => by
      simp only [List.mem_cons, List.not_mem_nil, or_false, not_or] at hf
      unfold runF0
      rw [lookup_putF, if_neg (by first | exact hf.2.2.2 | exact Ne.symm hf.2.2.2), lookup_putF, if_neg (by first | exact hf.2.2.1 | exact Ne.symm hf.2.2.1), lookup_putF, if_neg (by first | exact hf.2.1 | exact Ne.symm hf.2.1), lookup_putF, if_neg (by first | exact hf.1 | exact Ne.symm hf.1)]
      rfl
    generalize runF0 (.int 1000000000000000) (.ref d1) bv = g0 at e1 RF0 l0 x0 ⊢
    refine ⟨sizeLine_ge (by show 0 ≤ 10000; decide), fun l1 hl1 => ⟨_, rfl, r, CR, dx, g0, rfl, same_new hl1 _ _ e1, RC.cl, TC.nneeds, by omega, ?_⟩⟩
    have nl1 : l1 ≠ r := Ne.symm (ne_of_none e1 hl1)
    refine ⟨_, rfl, _, rfl, r, CR, dx, _, rfl, upd_same, RC.cl, TC.ngots, Nat.lt_of_le_of_lt (putF_len _ _ _) (by omega), ?_⟩
    rw [upd_upd]
    have b2 : But r H (upd (upd H1 l1 (.lst [])) r (.ins CR dx (putF "_gots" gv (putF "needs" (.ref l1) g0)))) := (b1.trans (But.of_same (same_new hl1))).trans But.upd
    have e2 : (upd (upd H1 l1 (.lst [])) r (.ins CR dx (putF "_gots" gv (putF "needs" (.ref l1) g0)))) r = some (.ins CR dx (putF "_gots" gv (putF "needs" (.ref l1) g0))) := upd_same
    have f2 : (upd (upd H1 l1 (.lst [])) r (.ins CR dx (putF "_gots" gv (putF "needs" (.ref l1) g0)))) l1 = some (.lst []) := by
      rw [upd_ne nl1]
      exact upd_same
    generalize upd (upd H1 l1 (.lst [])) r (.ins CR dx (putF "_gots" gv (putF "needs" (.ref l1) g0))) = H2 at b2 e2 f2 ⊢
    have nSr : aS ≠ r := ne_of hS hr0 (by intro z; cases z)
    have nqr : q ≠ r := ne_of hq hr0 (by intro z; cases z)
    refine ⟨_, rfl, _, rfl, _, rfl, aS, .ref q, rfl, by rw [← hk]; exact DGet.k (k := .inr (tx kn)) (b2 _ _ hS nSr), _, rfl, fun p dxp hp hdp npd => ?_⟩
    have none_of : ∀ a, H2 a = none → H a = none := fun a ha => by
      by_cases z : a = r
      · rw [z, e2] at ha
        cases ha
      · cases h : H a with
        | none => rfl
        | some o =>
          rw [b2 _ _ h z] at ha
          cases ha
    have S3 : Same H2 (upd (upd H2 dxp (.own p)) p (.ins CW dxp [])) := (same_new hdp).trans (same_new (by rw [upd_ne (Ne.symm npd)]; exact hp))
    have e3 : (upd (upd H2 dxp (.own p)) p (.ins CW dxp [])) p = some (.ins CW dxp []) := upd_same
    generalize upd (upd H2 dxp (.own p)) p (.ins CW dxp []) = H3 at S3 e3 ⊢
    have hp0 := none_of _ hp
    have npr : p ≠ r := fun z => by rw [z, hr0] at hp0; cases hp0
    refine ⟨Reg, p, dxp, q, pt, t, _, _, ev, rfl, e3, S3 _ _ (b2 _ _ hq nqr), (TR.but b2 nr hr0).same S3, rt, td, nn _ hp0, fun H4 fs q4 cv bp hp4 WF hq4 hc4 TR4 => ⟨rfl, ?_⟩⟩
    have hr4 : H4 r = some (.ins CR dx (putF "_gots" gv (putF "needs" (.ref l1) g0))) := bp _ _ (S3 _ _ e2) (Ne.symm npr) nr
    have l2 := putF_len "needs" (.ref l1) g0
    have l3 := putF_len "_gots" gv (putF "needs" (.ref l1) g0)
    refine ⟨_, rfl, r, CR, dx, _, rfl, hr4, RC.cl, TC.nwalk, by omega, ?_⟩
    obtain ⟨n, s', hrun, hhd, hst⟩ := U.runs_num (fun _ => []) kn (fun _ => none) 1000000000000000 t tnm [] (by omega)
    have RF1 : RunF (putF "walk" (.ref p) (putF "_gots" gv (putF "needs" (.ref l1) g0))) (.int 1000000000000000) (.ref d1) bv (.int 0) :=
      ((RF0.other "needs" _ (by decide +kernel) (by omega)).other "_gots" _ (by decide +kernel) (by omega)).other "walk" _ (by decide +kernel) (by omega)
    have gdo : ∀ f : Str, f ∉ (["most", "known", "bodies", "steps", "walk", "_gots", "needs"] : List Str) → (putF "walk" (.ref p) (putF "_gots" gv (putF "needs" (.ref l1) g0))).lookup f = none := fun f hf => by
      simp only [List.mem_cons, List.not_mem_nil, or_false, not_or] at hf
      rw [lookup_putF, if_neg (by first | exact hf.2.2.2.2.1 | exact Ne.symm hf.2.2.2.2.1), lookup_putF, if_neg (by first | exact hf.2.2.2.2.2.1 | exact Ne.symm hf.2.2.2.2.2.1), lookup_putF, if_neg (by first | exact hf.2.2.2.2.2.2 | exact Ne.symm hf.2.2.2.2.2.2)]
      exact x0 f (by simp only [List.mem_cons, List.not_mem_nil, or_false, not_or]; exact ⟨hf.1, hf.2.1, hf.2.2.1, hf.2.2.2.1⟩)
    have gwalk : (putF "walk" (.ref p) (putF "_gots" gv (putF "needs" (.ref l1) g0))).lookup ("walk" : Str) = some (.ref p) := by rw [lookup_putF, if_pos rfl]
    have gneeds : (putF "walk" (.ref p) (putF "_gots" gv (putF "needs" (.ref l1) g0))).lookup ("needs" : Str) = some (.ref l1) := by rw [lookup_putF, if_neg (by decide +kernel), lookup_putF, if_neg (by decide +kernel), lookup_putF, if_pos rfl]
    generalize putF "walk" (.ref p) (putF "_gots" gv (putF "needs" (.ref l1) g0)) = g5 at RF1 gdo gwalk gneeds ⊢
    have k5 : TupS H4 (upd H4 r (.ins CR dx g5)) := tupS_upd hr4
    refine ⟨_, rfl, r, dx, _, rfl, upd_same, gdo _ (by decide +kernel), _, rfl, r, CR, dx, _, _, rfl, upd_same, RC.cl, TC.nwalk, gwalk, Reg, fun _ _ => True, fun _ => [], kn, fun _ => none, 1000000000000000, { code := U.coded t 1 .endd, env := [], wait := .nil, head := none, steps := 0, made := [] }, s', n, p, r, q4, dxp, dx, fs, g5, cv, ev, .non, .non, _, _, _, _, _, _, 0, rfl, npr, by rw [upd_ne npr]; exact hp4, upd_same, WF, RF1, k5 _ _ hq4, ⟨hc4.keep k5 fun _ _ h => h, rfl, rfl⟩, ⟨U.coded_N t tnm 1 .endd trivial, trivial⟩, hrun, by decide, (by rw [hhd]; intro z; cases z), gdo _ (by decide +kernel), gdo _ (by decide +kernel), fun H6 hv6 b6 hp6 hr6 hh6 => ?_⟩
    have hl0 : H l1 = none := by
      by_cases z : l1 = r
      · exact absurd z nl1
      · cases h : H l1 with
        | none => rfl
        | some o =>
          rw [b1 _ _ h z] at hl1
          cases hl1
    have nl1p : l1 ≠ p := ne_of_none f2 hp
    refine fin H6 _ _ p dxp l1 hv6 (fun a o e za zr => ?_) hr6 ?_ ?_ ?_ hp6 ?_ ?_ ?_ ?_
    · have zp : a ≠ p := ne_of_none e hp0
      refine b6 _ _ ?_ zp za
      rw [upd_ne za]
      exact bp _ _ (S3 _ _ (b2 _ _ e za)) zp zr
    · rw [lookup_putF, if_neg (by decide +kernel)]
      exact gneeds
    · rw [lookup_putF, if_neg (by decide +kernel)]
      exact gwalk
    · refine b6 _ _ ?_ nl1p nl1
      rw [upd_ne nl1]
      exact bp _ _ (S3 _ _ f2) nl1p (nn _ hl0)
    · rw [lookup_putF, if_neg (by decide +kernel), lookup_putF, if_neg (by decide +kernel)]
      exact WF.made
    · rw [lookup_putF, if_pos rfl, hst]
      simp
    · rw [lookup_putF, if_neg (by decide +kernel), lookup_putF, if_pos rfl]
    · rw [hhd] at hh6
      exact hh6
end
end K


set_option Elab.async false
set_option linter.all false
set_option maxRecDepth 100000
set_option maxHeartbeats 4000000
set_option pp.maxSteps 3000
/-! a walk that is told: what it leads to -/
namespace U
/-- the knots needed, the steps, what is made, the end -/
structure Tale where
  needs : List Nm
  steps : Nat
  made : List (Tm × En)
  end_ : Option Hd
  deriving DecidableEq
def taleM (fr : Tm → List Nm) (kn : Nm) (lim : Nat) : Nat → St → List Hd → List Nm → Option Tale
  | 0, _, _, _ => none
  | n + 1, s, gots, needs => match step fr kn (fun _ => none) lim s with
    | .go s' => taleM fr kn lim n s' gots needs
    | .fin s' => if s'.head = none then none else some ⟨needs, s'.steps, s'.made, s'.head⟩
    | .need s' k => match gots with
      | [] => some ⟨needs ++ [k], s'.steps, s'.made, none⟩
      | g :: r => taleM fr kn lim n { s' with head := some g } r (needs ++ [k])
    | _ => none
/-- up to its end, or to where it needs a knot -/
theorem tale_split {fr : Tm → List Nm} {kn : Nm} {lim : Nat} {T : Tale} : ∀ (n : Nat) {s : St} {gots : List Hd} {needs : List Nm}, taleM fr kn lim n s gots needs = some T →
    ∃ m o, m ≤ n ∧ 1 ≤ m ∧ runM fr kn (fun _ => none) lim m s = some o ∧ match o with
      | .fin s' => s'.head ≠ none ∧ T = ⟨needs, s'.steps, s'.made, s'.head⟩
      | .need s' k => match gots with
        | [] => T = ⟨needs ++ [k], s'.steps, s'.made, none⟩
        | g :: r => taleM fr kn lim (n - m) { s' with head := some g } r (needs ++ [k]) = some T
      | _ => False
  | 0, s, gots, needs, h => by cases h
  | n + 1, s, gots, needs, h => by
    unfold taleM at h
    cases e : step fr kn (fun _ => none) lim s with
    | go s' =>
      rw [e] at h
      obtain ⟨m, o, h1, h2, h3, h4⟩ := tale_split n h
      refine ⟨m + 1, o, by omega, by omega, by rw [runM, e]; exact h3, ?_⟩
      rw [show n + 1 - (m + 1) = n - m by omega]
      exact h4
    | fin s' =>
      rw [e] at h
      simp only at h
      split at h
      · cases h
      · rename_i z
        refine ⟨1, .fin s', by omega, by omega, by rw [runM, e], z, (Option.some.inj h).symm⟩
    | need s' k =>
      rw [e] at h
      refine ⟨1, .need s' k, by omega, by omega, by rw [runM, e], ?_⟩
      cases gots with
      | nil => exact (Option.some.inj h).symm
      | cons g r => exact h
    | out s' => rw [e] at h; cases h
    | bad => rw [e] at h; cases h
end U
namespace K
open PySem PySem.Spec PyProof.Rows L2 U
theorem run_good {kn : U.Nm} {known : U.Nm → Option U.Hd} {lim k : Nat} (hk : ∀ x h, known x = some h → HdOk h) : ∀ (m : Nat) {s : U.St} {o : U.Out}, Good (m + k) s → U.runM U.frs kn known lim m s = some o → OutOk k o
  | 0, s, o, g, h => by cases h
  | m + 1, s, o, g, h => by
    have g1 := step_good (kn := kn) (known := known) (lim := lim) (m := m + k) hk (s := s) (by rw [show m + k + 1 = m + 1 + k by omega]; exact g)
    unfold U.runM at h
    cases e : U.step U.frs kn known lim s with
    | go s' =>
      rw [e] at h g1
      exact run_good hk m g1 h
    | fin s' => rw [e] at h g1; cases h; exact Good.less g1 (by omega)
    | need s' k => rw [e] at h g1; cases h; exact Good.less g1 (by omega)
    | out s' => rw [e] at h g1; cases h; exact Good.less g1 (by omega)
    | bad => rw [e] at h g1; cases h; trivial
/-- an object that no part of it stands on changes -/
theorem Mach.at_ {C CW : Addr} {kn : U.Nm} {p aS aB : Addr} {f : WF} {Reg : Addr → U.Tm → Prop} {G : Addr → Prop} {H : Hp} {made : List (U.Tm × U.En)} {M : Nat} {a0 : Addr} {o0 o : HO} (h : Mach C CW kn p aS aB f Reg G H made M) (h0 : H a0 = some o0) (n1 : ∀ dx fs, o0 ≠ .ins C dx fs) (n2 : a0 ≠ p) (n3 : ∀ kvs, o0 ≠ .dK kvs) (n4 : ∀ l, o0 ≠ .tup l) :
    Mach C CW kn p aS aB f Reg G (upd H a0 o) made M ∧ TupS H (upd H a0 o) ∧ ∀ e v, EnvA G H e v → EnvA G (upd H a0 o) e v := by
  have k : TupS H (upd H a0 o) := fun a l e => by
    rw [upd_ne (ne_of e h0 (Ne.symm (n4 l)))]
    exact e
  have he : ∀ e v, EnvA G H e v → EnvA G (upd H a0 o) e v := fun e v ⟨a, kvs, e1, ga, e2, e3⟩ => ⟨a, kvs, e1, ga, by rw [upd_ne (ne_of e2 h0 (Ne.symm (n3 _)))]; exact e2, e3⟩
  obtain ⟨dxp, fs, e1, w⟩ := h.wk
  obtain ⟨kvs, e2, m, l⟩ := h.se
  obtain ⟨kvb, e3, b⟩ := h.bo
  refine ⟨⟨h.tr.but k fun a t g o e => ?_, ⟨dxp, fs, by rw [upd_ne (Ne.symm n2)]; exact e1, w⟩, ⟨kvs, by rw [upd_ne (ne_of e2 h0 (Ne.symm (n3 _)))]; exact e2, m.keep k (fun _ _ h => h) he, l⟩, ⟨kvb, by rw [upd_ne (ne_of e3 h0 (Ne.symm (n3 _)))]; exact e3, b⟩, h.ne, h.kl, h.ml, h.cw, h.gS, h.gB, fun a ga => ?_⟩, k, he⟩
  · have na : a ≠ a0 := fun z => h.tr.not h0 n1 t (z ▸ g)
    rw [upd_ne na]
    exact e
  · obtain ⟨kv, e⟩ := h.gh a ga
    exact ⟨kv, by rw [upd_ne (ne_of e h0 (Ne.symm (n3 _)))]; exact e⟩
def spTakeG (CW : Addr) : Sp := fun vs H Q _ => ∃ (p dx : Addr) (fs : List (Str × V)) (knot senses place head need steps made end_ got : V), vs = [.ref p, got] ∧ H p = some (.ins CW dx fs) ∧ WalkF fs knot senses place head need steps made end_ ∧ Q .non (upd H p (.ins CW dx (putF "need" .non (putF "head" got fs))))
/-- what needed knots come to, told one behind the other -/
def spFollowG (CW CR : Addr) : Sp := fun vs H Q _ => ∃ (p r dxp dxr aN aG : Addr) (fs gs : List (Str × V)) (knot senses place head need steps made end_ : V) (l gvs : List V), vs = [.ref r, .ref p] ∧ H p = some (.ins CW dxp fs) ∧ H r = some (.ins CR dxr gs) ∧ WalkF fs knot senses place head need steps made end_ ∧ fs.lookup ("take" : Str) = none ∧ gs.lookup ("needs" : Str) = some (.ref aN) ∧ gs.lookup ("_gots" : Str) = some (.ref aG) ∧ H aN = some (.lst l) ∧ H aG = some (.lst gvs) ∧ aG ≠ aN ∧ l.length ≤ 100000 ∧ gvs.length ≤ 100000 ∧
  (end_ ≠ .non ∧ Q .non H ∨ end_ = .non ∧ gvs.length < l.length + 1 ∧ Q .non (upd H aN (.lst (l ++ [need]))) ∨ end_ = .non ∧ ∃ v, gvs[l.length]? = some v ∧ Q (.ref p) (upd (upd H aN (.lst (l ++ [need]))) p (.ins CW dxp (putF "need" .non (putF "head" v fs)))))
/-- all but trees, the walk, the run, the senses, the bodies, one more stays -/
def Chg3 (C p r aS aB aN : Addr) (H H' : Hp) : Prop := ∀ a o, H a = some o → a ≠ p → a ≠ r → a ≠ aS → a ≠ aB → a ≠ aN → (∀ dx fs, o ≠ .ins C dx fs) → H' a = some o
theorem Chg3.trans {C p r aS aB aN : Addr} {H H1 H2 : Hp} (a : Chg3 C p r aS aB aN H H1) (b : Chg3 C p r aS aB aN H1 H2) : Chg3 C p r aS aB aN H H2 := fun x o e n1 n2 n3 n4 n5 m => b x o (a x o e n1 n2 n3 n4 n5 m) n1 n2 n3 n4 n5 m
theorem Chg2.tup {C CW CR : Addr} {kn : U.Nm} {p r aS aB dxr : Addr} {f : WF} {Reg : Addr → U.Tm → Prop} {G : Addr → Prop} {H H' : Hp} {made : List (U.Tm × U.En)} {M : Nat} {gs : List (Str × V)} (c : Chg2 C p r aS aB H H') (h : Mach C CW kn p aS aB f Reg G H made M) (hr : H r = some (.ins CR dxr gs)) : TupS H H' := fun a l e => by
  obtain ⟨dx, fs, e1, _⟩ := h.wk
  obtain ⟨kvs, e2, _⟩ := h.se
  obtain ⟨kvb, e3, _⟩ := h.bo
  exact c a _ e (ne_of e e1 (by intro z; cases z)) (ne_of e hr (by intro z; cases z)) (ne_of e e2 (by intro z; cases z)) (ne_of e e3 (by intro z; cases z)) (by intro _ _ z; cases z)
/-- the fields of a Told -/
structure ToldF (gs : List (Str × V)) (aN aG kd aB : Addr) (lim : Nat) (steps : V) : Prop where
  rf : RunF gs (.int lim) (.ref kd) (.ref aB) steps
  needs : gs.lookup ("needs" : Str) = some (.ref aN)
  gots : gs.lookup ("_gots" : Str) = some (.ref aG)
  ndo : gs.lookup ("_do" : Str) = none
  nfo : gs.lookup ("follow" : Str) = none
  nfm : gs.lookup ("_form" : Str) = none
  nca : gs.lookup ("_call" : Str) = none
theorem ToldF.setSteps {gs : List (Str × V)} {aN aG kd aB : Addr} {lim : Nat} {steps : V} (h : ToldF gs aN aG kd aB lim steps) (v : V) : ToldF (putF "steps" v gs) aN aG kd aB lim v := by
  refine ⟨h.rf.setSteps v, ?_, ?_, ?_, ?_, ?_, ?_⟩ <;> rw [lookup_putF, if_neg (by decide +kernel)]
  · exact h.needs
  · exact h.gots
  · exact h.ndo
  · exact h.nfo
  · exact h.nfm
  · exact h.nca
def GotsV (H : Hp) (gvs : List V) (gots : List U.Hd) : Prop := gvs.length = gots.length ∧ ∀ (i : Nat) (g : U.Hd), gots[i]? = some g → ∃ v : V, gvs[i]? = some v ∧ HdV H g v
theorem GotsV.keep {H H' : Hp} {gvs : List V} {gots : List U.Hd} (k : TupS H H') (h : GotsV H gvs gots) : GotsV H' gvs gots := ⟨h.1, fun i g e => by
  obtain ⟨v, h1, h2⟩ := h.2 i g e
  exact ⟨v, h1, h2.keep k⟩⟩
def strsV (l : List U.Nm) : List V := l.map fun x => V.str (tx x)
/-- from a walk's place on, told what needed knots come to -/
def spGoG (C CW CR : Addr) : Sp := fun vs H Q _ => ∃ (kn : U.Nm) (lim : Nat) (p r q aS aB kd aN aG dxr : Addr) (gs : List (Str × V)) (f : WF) (Reg : Addr → U.Tm → Prop) (G : Addr → Prop) (s : U.St) (n : Nat) (cv ev wv : V) (gvs : List V) (gots : List U.Hd) (Y : U.Tale), vs = [.ref r, .ref p] ∧ H r = some (.ins CR dxr gs) ∧ CR ≠ C ∧ r ≠ p ∧ ToldF gs aN aG kd aB lim (.int s.steps) ∧
  f.place = .ref q ∧ f.steps = .int s.steps ∧ f.en = .non ∧ Mach C CW kn p aS aB f Reg G H s.made (2 * n) ∧ H q = some (.tup [cv, ev, wv]) ∧ TurnG Reg G H s cv ev wv f.head ∧ Good n s ∧ (∀ g ∈ gots, HdOk g) ∧ H kd = some (.dK []) ∧ kd ≠ aS ∧ kd ≠ aB ∧ lim ≤ 10 ^ 17 ∧
  H aN = some (.lst []) ∧ H aG = some (.lst gvs) ∧ aG ≠ aN ∧ GotsV H gvs gots ∧ gots.length ≤ 100000 ∧ U.taleM U.frs kn lim n s gots [] = some Y ∧
  ∀ Reg' G' H' f', (∀ p t, Reg p t → Reg' p t) → (∀ a, G a → G' a) → Chg3 C p r aS aB aN H H' → H' r = some (.ins CR dxr (putF "steps" (.int Y.steps) gs)) → H' aN = some (.lst (strsV Y.needs)) → Mach C CW kn p aS aB f' Reg' G' H' Y.made 0 → f'.steps = .int Y.steps → OHdV H' Y.end_ f'.en → Q .non H'
/-- at the head of the loop -/
def GoG (C CW CR : Addr) (kn : U.Nm) (lim : Nat) (Y : U.Tale) (H0 : Hp) (p r aS aB kd aN aG dxr : Addr) (gs : List (Str × V)) (Reg : Addr → U.Tm → Prop) (G : Addr → Prop) (gvs : List V) (gots : List U.Hd) (n : Nat) (H1 : Hp) : Prop :=
  ∃ (s1 : U.St) (l1 : List U.Nm) (gs1 : List (Str × V)) (f1 : WF) (Reg1 : Addr → U.Tm → Prop) (G1 : Addr → Prop) (q1 : Addr) (cv1 ev1 wv1 : V), (∀ p t, Reg p t → Reg1 p t) ∧ (∀ a, G a → G1 a) ∧ Chg3 C p r aS aB aN H0 H1 ∧ H1 r = some (.ins CR dxr gs1) ∧ (∀ v, putF "steps" v gs1 = putF "steps" v gs) ∧ ToldF gs1 aN aG kd aB lim (.int s1.steps) ∧
  f1.place = .ref q1 ∧ f1.steps = .int s1.steps ∧ f1.en = .non ∧ Mach C CW kn p aS aB f1 Reg1 G1 H1 s1.made (2 * n) ∧ H1 q1 = some (.tup [cv1, ev1, wv1]) ∧ TurnG Reg1 G1 H1 s1 cv1 ev1 wv1 f1.head ∧ Good n s1 ∧ H1 kd = some (.dK []) ∧ H1 aN = some (.lst (strsV l1)) ∧ H1 aG = some (.lst gvs) ∧ GotsV H1 gvs gots ∧ l1.length ≤ gots.length ∧ U.taleM U.frs kn lim n s1 (gots.drop l1.length) l1 = some Y
section
variable {P : Program} {w : World} {K : PySem.W.Frag} {mg : Str → Option Value} {base : Heap} {dW dB dN : Addr} {esW : Array DictEntry} {nW : Nat} (T : Txt K mg w dW dB esW nW) (N : Runs K mg dN)
include T N
theorem ok_Walking_takeG {f CW : Addr} {fd : FuncData} (F : Fun K "take" "Walking.take" s_Walking_take f fd) (WC : WalkC K CW) : FnOk P w K mg base CX0 1 f fd ["self", "got"] (spTakeG CW) := by
  refine F.ok sc_Walking_take (fun vs H Q E h => ?_) (fun cdv A outer s H vs Q E hr h => ?_)
  · obtain ⟨p, dx, fs, knot, senses, place, head, need, steps, made, end_, got, rfl, _⟩ := h
    rfl
  · obtain ⟨p, dx, fs, knot, senses, place, head, need, steps, made, end_, got, rfl, hp, hf, q⟩ := h
    refine ⟨_, (pss_cons (ps_fld (pv 0) (pv 1) rfl)
      (pss_one (ps_fld (pv 0) pe_non rfl))), ?_⟩
    refine ⟨_, rfl, _, rfl, p, CW, dx, _, rfl, hp, WC.cl, WC.nhead, hf.len, ?_⟩
    refine ⟨_, rfl, p, CW, dx, _, rfl, upd_same, WC.cl, WC.nneed, (hf.setHead got).len, ?_⟩
    rw [upd_upd]
    exact q
theorem ok_Told_followG {f f1 CW CR : Addr} {fd fd1 : FuncData} (F : Fun K "follow" "Told.follow" s_Told_follow f fd) (WC : WalkC K CW) (TC : ToldC K CR) (hTk : HasW P w K mg base CW "take" 1 ["self", "got"] (spTakeG CW) f1 fd1) : FnOk P w K mg base CX0 2 f fd ["self", "walk"] (spFollowG CW CR) := by
  refine F.ok sc_Told_follow (fun vs H Q E h => ?_) (fun cdv A outer s H vs Q E hr h => ?_)
  · obtain ⟨p, r, dxp, dxr, aN, aG, fs, gs, knot, senses, place, head, need, steps, made, end_, l, gvs, rfl, _⟩ := h
    rfl
  · have hu := hu_of hr
    obtain ⟨p, r, dxp, dxr, aN, aG, fs, gs, knot, senses, place, head, need, steps, made, end_, l, gvs, rfl, hp, hr0, WF, ht, gN, gG, hN, hG, nNG, ll, lg, q⟩ := h
    refine ⟨_, (pss_cons (ps_if (pt_cmpR op_notN (pe_fld (pv 1) (by rfl)) pe_non (nomark _)) 
        (pss_one (ps_ret pe_non)) pss_nil)
      (pss_cons (ps_expr (pe_bm PySem.F.plainAttrs_list PySem.F.slot_list_append PySem.F.type_list_append mt_append (pe_fld (pv 0) (by rfl)) (pa_cons (pe_fld (pv 1) (by rfl)) pa_nil)))
      (pss_cons (ps_if (pt_cmpR op_gt (pe_callB call_len_seq (by rfl) T.z_len (by decide +kernel) (pa_cons (pe_fld (pv 0) (by rfl)) pa_nil)) (pe_callB call_len_seq (by rfl) T.z_len (by decide +kernel) (pa_cons (pe_fld (pv 0) (by rfl)) pa_nil)) (nomark _)) 
        (pss_one (ps_ret pe_non)) pss_nil)
      (pss_cons (ps_expr (pe_meth (pv 1) WC.cl hTk.me hTk.ok (hr.mono (by first | decide | omega)) hTk.bi .nil pass0 (pa_cons (pe_ix ix_list (pe_fld (pv 0) (by rfl)) (pe_op op_sub (pe_callB call_len_seq (by rfl) T.z_len (by decide +kernel) (pa_cons (pe_fld (pv 0) (by rfl)) pa_nil)) pe_int) (fun _ _ => rfl)) pa_nil)))
      (pss_one (ps_ret (pv 1))))))), ?_⟩
    refine ⟨_, rfl, p, CW, dxp, _, _, rfl, hp, WC.cl, WC.nend, WF.end_, rfl, _, rfl, ?_⟩
    have nNp : aN ≠ p := ne_of hN hp (by intro z; cases z)
    have nNr : aN ≠ r := ne_of hN hr0 (by intro z; cases z)
    rcases q with ⟨nv, q⟩ | ⟨rfl, lt, q⟩ | ⟨rfl, v, hv, q⟩
    · refine ite2 (fun _ => q) (fun z => absurd ?_ z)
      rw [decide_eq_false nv]
      rfl
    · refine ite2 (fun z => absurd z (by decide +kernel)) (fun _ => ?_)
      refine ⟨_, rfl, r, CR, dxr, _, _, rfl, hr0, TC.cl, TC.nneeds, gN, .inl ⟨rfl, _, .inl (.inl hN)⟩, _, rfl, p, CW, dxp, _, _, rfl, hp, WC.cl, WC.nneed, WF.need, aN, l, _, rfl, rfl, hN, by rw [sizeLine_eq]; omega, ?_⟩
      have e1 : (upd H aN (.lst (l ++ [need]))) aN = some (.lst (l ++ [need])) := upd_same
      have hr1 : (upd H aN (.lst (l ++ [need]))) r = _ := (upd_ne (Ne.symm nNr)).trans hr0
      have hG1 : (upd H aN (.lst (l ++ [need]))) aG = _ := (upd_ne nNG).trans hG
      generalize upd H aN (.lst (l ++ [need])) = H1 at e1 hr1 hG1 q ⊢
      refine ⟨_, rfl, r, CR, dxr, _, _, rfl, hr1, TC.cl, TC.nneeds, gN, aN, _, rfl, .inl (.inl (.inl e1)), _, rfl, r, CR, dxr, _, _, rfl, hr1, TC.cl, TC.ngots, gG, aG, _, rfl, .inl (.inl (.inl hG1)), _, _, rfl, rfl, _, rfl, ite2 (fun _ => q) (fun z => absurd ?_ z)⟩
      simp only [List.length_append, List.length_singleton, decide_eq_true_eq]
      omega
    · refine ite2 (fun z => absurd z (by decide +kernel)) (fun _ => ?_)
      refine ⟨_, rfl, r, CR, dxr, _, _, rfl, hr0, TC.cl, TC.nneeds, gN, .inl ⟨rfl, _, .inl (.inl hN)⟩, _, rfl, p, CW, dxp, _, _, rfl, hp, WC.cl, WC.nneed, WF.need, aN, l, _, rfl, rfl, hN, by rw [sizeLine_eq]; omega, ?_⟩
      have e1 : (upd H aN (.lst (l ++ [need]))) aN = some (.lst (l ++ [need])) := upd_same
      have hr1 : (upd H aN (.lst (l ++ [need]))) r = _ := (upd_ne (Ne.symm nNr)).trans hr0
      have hp1 : (upd H aN (.lst (l ++ [need]))) p = _ := (upd_ne (Ne.symm nNp)).trans hp
      have hG1 : (upd H aN (.lst (l ++ [need]))) aG = _ := (upd_ne nNG).trans hG
      generalize upd H aN (.lst (l ++ [need])) = H1 at e1 hr1 hp1 hG1 q ⊢
      have hv2 := (List.getElem?_eq_some_iff.mp hv).1
      refine ⟨_, rfl, r, CR, dxr, _, _, rfl, hr1, TC.cl, TC.nneeds, gN, aN, _, rfl, .inl (.inl (.inl e1)), _, rfl, r, CR, dxr, _, _, rfl, hr1, TC.cl, TC.ngots, gG, aG, _, rfl, .inl (.inl (.inl hG1)), _, _, rfl, rfl, _, rfl, ite2 (fun z => absurd z ?_) (fun _ => ?_)⟩
      · simp only [List.length_append, List.length_singleton, decide_eq_true_eq]
        omega
      · refine ⟨_, rfl, p, dxp, fs, rfl, hp1, ht, _, rfl, r, CR, dxr, _, _, rfl, hr1, TC.cl, TC.ngots, gG, _, rfl, r, CR, dxr, _, _, rfl, hr1, TC.cl, TC.nneeds, gN, aN, _, rfl, .inl (.inl (.inl e1)), _, _, rfl, rfl, aG, _, _, v, rfl, rfl, .inl (.inl hG1), ?_, p, dxp, fs, _, _, _, _, _, _, _, _, _, rfl, hp1, WF, _, rfl, q⟩
        have el : (((l ++ [need]).length : Int) - 1) = ((l.length : Nat) : Int) := by
          simp only [List.length_append, List.length_singleton]
          omega
        rw [el]
        exact atI_nat hv
theorem ok_Run_goG {f f1 f2 C CW CR : Addr} {fd fd1 fd2 : FuncData} (F : Fun K "go" "Run.go" s_Run_go f fd) (WC : WalkC K CW) (RC : RunC K CR)
    (hDo : HasW P w K mg base CR "_do" 35 ["self", "walk"] (spDoG C CW CR) f1 fd1) (hFo : HasW P w K mg base CR "follow" 2 ["self", "walk"] (spFollowG CW CR) f2 fd2) : FnOk P w K mg base CX0 36 f fd ["self", "walk"] (spGoG C CW CR) := by
  refine F.ok sc_Run_go (fun vs H Q E h => ?_) (fun cdv A outer s H vs Q E hr h => ?_)
  · obtain ⟨kn, lim, p, r, q, aS, aB, kd, aN, aG, dxr, gs, f, Reg, G, s, n, cv, ev, wv, gvs, gots, Y, rfl, _⟩ := h
    rfl
  · obtain ⟨kn, lim, p, r, q, aS, aB, kd, aN, aG, dxr, gs, f, Reg, G, s, n, cv, ev, wv, gvs, gots, Y, rfl, hr0, ncr, nrp, TF, fp, fst, fe, mc, hq, tn, gd, gok, hkd, nkS, nkB, hlim, hN, hG, nGN, gv, gl, tale, fin⟩ := h
    refine ⟨_, (pss_one (ps_while PassesOwn.never (pt_cmpR op_notN (pv 1) pe_non (nomark _)) 
        (pss_cons (ps_expr (pe_meth (pv 0) RC.cl hDo.me hDo.ok (hr.mono (by first | decide | omega)) hDo.bi .nil pass0 (pa_cons (pv 1) pa_nil)))
        (pss_one (ps_set (i := 1) sc_Run_go.nd rfl (.inl rfl) (pe_meth (pv 0) RC.cl hFo.me hFo.ok (hr.mono (by first | decide | omega)) hFo.bi .nil pass0 (pa_cons (pv 1) pa_nil))))))), ?_⟩
    have nNr : aN ≠ r := ne_of hN hr0 (by intro z; cases z)
    have nGr : aG ≠ r := ne_of hG hr0 (by intro z; cases z)
    have nkr : kd ≠ r := ne_of hkd hr0 (by intro z; cases z)
    obtain ⟨dxp0, fs0, hp0, _, _, _⟩ := mc.wk
    obtain ⟨kvs0, hS0, _, _⟩ := mc.se
    obtain ⟨kvb0, hB0, _, _⟩ := mc.bo
    have nNp : aN ≠ p := ne_of hN hp0 (by intro z; cases z)
    have nGp : aG ≠ p := ne_of hG hp0 (by intro z; cases z)
    have nkp : kd ≠ p := ne_of hkd hp0 (by intro z; cases z)
    have nNS : aN ≠ aS := ne_of hN hS0 (by intro z; cases z)
    have nGS : aG ≠ aS := ne_of hG hS0 (by intro z; cases z)
    have nNB : aN ≠ aB := ne_of hN hB0 (by intro z; cases z)
    have nGB : aG ≠ aB := ne_of hG hB0 (by intro z; cases z)
    have nkN : kd ≠ aN := ne_of hkd hN (by intro z; cases z)
    refine ⟨fun m σ H1 => (∃ n1, m = n1 + 1 ∧ σ = [some (.ref r), some (.ref p)] ∧ GoG C CW CR kn lim Y H p r aS aB kd aN aG dxr gs Reg G gvs gots n1 H1) ∨ (m = 0 ∧ σ = [some (.ref r), some .non] ∧ Q .non H1), ⟨n + 1, .inl ⟨n, rfl, rfl, s, [], gs, f, Reg, G, q, cv, ev, wv, fun _ _ h => h, fun _ h => h, fun _ _ e _ _ _ _ _ _ => e, hr0, fun _ => rfl, TF, fp, fst, fe, mc, hq, tn, gd, hkd, hN, hG, gv, Nat.zero_le _, tale⟩⟩, ?_⟩
    rintro m σ H1 (⟨n1, em, es, s1, l1, gs1, f1, Reg1, G1, q1, cv1, ev1, wv1, hR1, hG1, c01, hr1, ep1, TF1, fp1, fst1, fe1, mc1, hq1, tn1, gd1, hkd1, hN1, hGG1, gv1, ll1, tale1⟩ | ⟨em, es, qq⟩)
    · subst em
      subst es
      obtain ⟨mm, o, hmn, hm1, hrun, ho⟩ := U.tale_split n1 tale1
      have esp : mm + (n1 - mm) = n1 := by omega
      have ob : o ≠ .bad := by
        rintro rfl
        exact ho
      have og := run_good (k := n1 - mm) (fun _ _ h => by cases h) mm (by rw [esp]; exact gd1) hrun
      refine ⟨_, rfl, rfl, _, rfl, ite2 (fun _ => ?_) (fun z => absurd (by simp) z)⟩
      refine ⟨fun σ' H' => (∃ n2, n2 < n1 ∧ σ' = [some (.ref r), some (.ref p)] ∧ GoG C CW CR kn lim Y H p r aS aB kd aN aG dxr gs Reg G gvs gots n2 H') ∨ (σ' = [some (.ref r), some .non] ∧ Q .non H'), fun σ' H' h => ?_, ?_⟩
      · rcases h with ⟨n2, h1, h2, h3⟩ | ⟨h2, h3⟩
        · exact ⟨n2 + 1, by omega, .inl ⟨n2, rfl, h2, h3⟩⟩
        · exact ⟨0, by omega, .inr ⟨rfl, h2, h3⟩⟩
      · refine ⟨_, rfl, r, dxr, gs1, rfl, hr1, TF1.ndo, _, rfl, kn, fun _ => none, lim, p, r, q1, aS, aB, kd, dxr, gs1, f1, Reg1, G1, s1, o, mm, n1 - mm, cv1, ev1, wv1, s1.steps, rfl, hr1, ncr, nrp, TF1.rf, TF1.nfm, TF1.nca, fp1, fst1, by rw [esp]; exact mc1, hq1, tn1, by rw [esp]; exact gd1, fun _ _ h => (by cases h), ⟨[], hkd1, fun _ => rfl⟩, nkS, nkB, hrun, ob, hlim, fun Reg2 G2 H2 hR2 hG2 c12 hr2 ad => ?_⟩
        have k12 := c12.tup mc1 hr1
        have nl : ∀ dx fs, HO.lst (strsV l1) ≠ .ins C dx fs := by intro _ _ z; cases z
        have nlg : ∀ dx fs, HO.lst gvs ≠ .ins C dx fs := by intro _ _ z; cases z
        have nld : ∀ dx fs, HO.dK [] ≠ .ins C dx fs := by intro _ _ z; cases z
        have hN2 := c12 _ _ hN1 nNp nNr nNS nNB nl
        have hGG2 := c12 _ _ hGG1 nGp nGr nGS nGB nlg
        have hkd2 := c12 _ _ hkd1 nkp nkr nkS nkB nld
        have TF2 := TF1.setSteps (.int (stepsOf o))
        have c02 : Chg3 C p r aS aB aN H H2 := c01.trans fun a o e n1 n2 n3 n4 _ n6 => c12 a o e n1 n2 n3 n4 n6
        have z0 : ∀ i : Nat, (i : Int) - ((s1.steps : Int) - (s1.steps : Int)) = i := fun i => by omega
        have gv2 := gv1.keep k12
        refine ⟨_, rfl, r, dxr, _, rfl, hr2, TF2.nfo, _, rfl, ?_⟩
        cases o with
        | go s' => exact ho.elim
        | out s' => exact ho.elim
        | bad => exact ho.elim
        | fin s' =>
          obtain ⟨hd, eY⟩ := ho
          obtain ⟨hv, mc2, ohv⟩ := ad
          rw [z0] at mc2
          obtain ⟨dxp, fs, hp2, WF2, mk2, tk2⟩ := mc2.wk
          have nv : hv ≠ .non := by
            cases e : s'.head with
            | none => exact absurd e hd
            | some h =>
              rw [e] at ohv
              obtain ⟨a, l, e, _⟩ := HdV.word ohv
              rw [e]
              intro z
              cases z
          refine ⟨p, r, dxp, dxr, aN, aG, fs, _, _, _, _, _, _, _, _, _, _, gvs, rfl, hp2, hr2, WF2, tk2, TF2.needs, TF2.gots, hN2, hGG2, nGN, by rw [strsV, List.length_map]; omega, by rw [gv.1]; omega, .inl ⟨nv, .inr ⟨rfl, ?_⟩⟩⟩
          subst eY
          exact fin Reg2 G2 H2 _ (fun _ _ h => hR2 _ _ (hR1 _ _ h)) (fun _ h => hG2 _ (hG1 _ h)) c02 (by rw [hr2, ep1]; rfl) hN2 (mc2.less (Nat.zero_le _)) rfl ohv
        | need s' x =>
          obtain ⟨q2, mc2, cv2, ev2, wv2, hq2, pc2, pe2, pw2⟩ := ad
          rw [z0] at mc2
          obtain ⟨dxp, fs, hp2, WF2, mk2, tk2⟩ := mc2.wk
          have lN : ∀ fs', Chg3 C p r aS aB aN H2 (upd (upd H2 aN (.lst (strsV l1 ++ [.str (tx x)]))) p (.ins CW dxp fs')) := fun fs' a o e n1 n2 n3 n4 n5 n6 => by
            rw [upd_ne n1, upd_ne n5]
            exact e
          obtain ⟨mc3, k3, he3⟩ := mc2.at_ (o := .lst (strsV l1 ++ [.str (tx x)])) hN2 nl nNp (by intro _ z; cases z) (by intro _ z; cases z)
          have sl : strsV (l1 ++ [x]) = strsV l1 ++ [.str (tx x)] := by rw [strsV, List.map_append]; rfl
          cases gd' : gots.drop l1.length with
          | nil =>
            rw [gd'] at ho
            have ll : gots.length ≤ l1.length := List.drop_eq_nil_iff.mp gd'
            refine ⟨p, r, dxp, dxr, aN, aG, fs, _, _, _, _, _, _, _, _, _, _, gvs, rfl, hp2, hr2, WF2, tk2, TF2.needs, TF2.gots, hN2, hGG2, nGN, by rw [strsV, List.length_map]; omega, by rw [gv.1]; omega, .inr (.inl ⟨fe1, by rw [strsV, List.length_map, gv.1]; omega, .inr ⟨rfl, ?_⟩⟩)⟩
            subst ho
            refine fin Reg2 G2 _ _ (fun _ _ h => hR2 _ _ (hR1 _ _ h)) (fun _ h => hG2 _ (hG1 _ h)) (c02.trans fun a o e n1 n2 n3 n4 n5 n6 => ?_) ?_ ?_ (mc3.less (Nat.zero_le _)) rfl fe1
            · rw [upd_ne n5]
              exact e
            · rw [upd_ne (Ne.symm nNr), hr2, ep1]
              rfl
            · rw [upd_same, sl]
          | cons g gr =>
            rw [gd'] at ho
            have lt : l1.length < gots.length := by
              have h1 := congrArg List.length gd'
              rw [List.length_drop, List.length_cons] at h1
              omega
            have hg : gots[l1.length]? = some g := by
              have h1 := congrArg (fun l => l[0]?) gd'
              simp only [List.getElem?_drop, List.getElem?_cons_zero, Nat.add_zero] at h1
              exact h1
            obtain ⟨v, hv1, hv2⟩ := gv2.2 _ _ hg
            have dl : gots.drop (l1 ++ [x]).length = gr := by
              rw [List.length_append, List.length_singleton, ← List.drop_drop, gd']
              rfl
            have hp3 : (upd H2 aN (.lst (strsV l1 ++ [.str (tx x)]))) p = some (.ins CW dxp fs) := (upd_ne (Ne.symm nNp)).trans hp2
            obtain ⟨mc4, c4⟩ := mc3.walk (f' := { f1 with place := .ref q2, head := v, need := .non, steps := .int s'.steps }) hp3 ((WF2.setHead v).setNeed .non) (by rw [lookup_putF, if_neg (by decide +kernel), lookup_putF, if_neg (by decide +kernel)]; exact mk2) (by rw [lookup_putF, if_neg (by decide +kernel), lookup_putF, if_neg (by decide +kernel)]; exact tk2)
            have k4 := mc3.tup c4
            have kk := k3.trans k4
            have he4 : ∀ e v, EnvA G2 H2 e v → EnvA G2 _ e v := fun e v h => mc3.env c4 (he3 e v h)
            refine ⟨p, r, dxp, dxr, aN, aG, fs, _, _, _, _, _, _, _, _, _, _, gvs, rfl, hp2, hr2, WF2, tk2, TF2.needs, TF2.gots, hN2, hGG2, nGN, by rw [strsV, List.length_map]; omega, by rw [gv.1]; omega, .inr (.inr ⟨fe1, v, by rw [strsV, List.length_map]; exact hv1, .inl ⟨n1 - mm, by omega, rfl, { s' with head := some g }, l1 ++ [x], _, { f1 with place := .ref q2, head := v, need := .non, steps := .int s'.steps }, Reg2, G2, q2, cv2, ev2, wv2, fun _ _ h => hR2 _ _ (hR1 _ _ h), fun _ h => hG2 _ (hG1 _ h), c02.trans (lN _), ?_, ?_, TF2, rfl, rfl, fe1, mc4, kk _ _ hq2, ⟨pc2.keep kk fun _ _ h => h, he4 _ _ pe2, pw2.keep kk (fun _ _ h => h) fun v e h => he4 e v h, hv2.keep kk⟩, ⟨og.c, og.e, og.w, fun h' e' => ?_, og.md, og.ml⟩, ?_, ?_, ?_, gv2.keep kk, ?_, ?_⟩⟩)⟩
            · rw [upd_ne nrp, upd_ne (Ne.symm nNr), hr2]
            · intro v
              rw [putF_putF, ep1]
            · cases e'
              exact gok g (List.mem_of_getElem? hg)
            · rw [upd_ne nkp, upd_ne nkN]
              exact hkd2
            · rw [upd_ne nNp, upd_same, sl]
            · rw [upd_ne nGp, upd_ne nGN]
              exact hGG2
            · rw [List.length_append, List.length_singleton]
              omega
            · rw [dl]
              exact ho
    · subst em
      subst es
      exact ⟨_, rfl, rfl, _, rfl, ite2 (fun z => absurd z (by decide +kernel)) (fun _ => qq)⟩
end
end K


set_option Elab.async false
set_option linter.all false
set_option maxRecDepth 100000
set_option maxHeartbeats 4000000
set_option pp.maxSteps 3000
namespace K
open PySem PySem.Spec PyProof.Rows L2 U
def spWalkInitG (C CW : Addr) : Sp := fun vs H Q _ => ∃ (Reg : Addr → U.Tm → Prop) (p dx s pt : Addr) (t : U.Tm) (kv sv ev : V), vs = [.ref p, kv, .ref s, sv] ∧ H p = some (.ins CW dx []) ∧ H s = some (.tup [.ref pt, ev]) ∧ Trees C Reg H ∧ Reg pt t ∧ t.depth ≤ 30 ∧ (∀ t, ¬ Reg p t) ∧
  ∀ H' fs q cv, ButP Reg p H H' → H' p = some (.ins CW dx fs) → WalkF fs kv sv (.ref q) .non .non (.int 0) (.int 0) .non → fs.lookup ("make" : Str) = none → fs.lookup ("take" : Str) = none → H' q = some (.tup [cv, ev, .non]) → CodeV Reg H' (U.coded t 1 .endd) cv → Trees C Reg H' → Q .non H'
/-- the state that a walk begins in -/
def begin_ (t : U.Tm) (e : U.En) : U.St := { code := U.coded t 1 .endd, env := e, wait := .nil, head := none, steps := 0, made := [] }
theorem begin_good {t : U.Tm} {e : U.En} {n : Nat} (sc : ScT t e) (ft : ∃ N, Fit t N) (nd : NodR e) (le : e.length ≤ 1000) (ln : n ≤ 40000) : Good n (begin_ t e) :=
  ⟨coded_ok t sc ft _ _ trivial, ⟨nd, by show e.length + n ≤ 1000000; omega⟩, trivial, fun h z => (by cases z), fun te h => (by cases h), by show 0 + 2 * n ≤ 100000; omega⟩
def spToldInitG (C CR CW : Addr) : Sp := fun vs H Q _ => ∃ (Reg : Addr → U.Tm → Prop) (r dx aS aG aB aE q pt : Addr) (t : U.Tm) (kn : U.Nm) (kvs kve : List (Key × V)) (e : U.En) (gvs : List V) (gots : List U.Hd) (n : Nat) (Y : U.Tale), vs = [.ref r, .str (tx kn), .ref aS, .ref aG, .ref aB] ∧ H r = some (.ins CR dx []) ∧ CR ≠ C ∧ CW ≠ C ∧ H aS = some (.dK kvs) ∧ kvs.length ≤ 10 ∧ valV kvs (.inr (tx kn)) = some (.ref q) ∧ H q = some (.tup [.ref pt, .ref aE]) ∧ H aE = some (.dK kve) ∧ PairK (fun v (k : U.Nm) => v = .str (tx k)) kve e ∧ H aB = some (.dK []) ∧ aS ≠ aB ∧ aE ≠ aS ∧ aE ≠ aB ∧
  Regs C Reg H ∧ Reg pt t ∧ (∀ t, ¬ Reg r t) ∧ (∀ a, H a = none → ∀ t, ¬ Reg a t) ∧ kn.length ≤ 9000 ∧ ScT t e ∧ NodR e ∧ e.length ≤ 1000 ∧ H aG = some (.lst gvs) ∧ GotsV H gvs gots ∧ (∀ g ∈ gots, HdOk g) ∧ gots.length ≤ 100000 ∧ n ≤ 40000 ∧ U.taleM U.frs kn 1000000000000000 n (begin_ t e) gots [] = some Y ∧
  ∀ Reg' G' H' gs' f' p aN, (∀ p t, Reg p t → Reg' p t) → (∀ a o, H a = some o → a ≠ r → a ≠ aS → a ≠ aB → (∀ dx fs, o ≠ .ins C dx fs) → H' a = some o) → H' r = some (.ins CR dx gs') → gs'.lookup ("needs" : Str) = some (.ref aN) → gs'.lookup ("walk" : Str) = some (.ref p) → H' aN = some (.lst (strsV Y.needs)) → Mach C CW kn p aS aB f' Reg' G' H' Y.made 0 → f'.steps = .int Y.steps → OHdV H' Y.end_ f'.en → Q .non H'
section
variable {P : Program} {w : World} {K : PySem.W.Frag} {mg : Str → Option Value} {base : Heap} {dW dB dN : Addr} {esW : Array DictEntry} {nW : Nat} (T : Txt K mg w dW dB esW nW) (N : Runs K mg dN)
include T N
theorem ok_Walking_initG {f f1 C CW : Addr} {fd fd1 : FuncData} (F : Fun K "__init__" "Walking.__init__" s_Walking___init__ f fd) (WC : WalkC K CW) (h_code_of : Has P w K mg base "code_of" 33 ["tree"] (spCodeOf C) f1 fd1) : FnOk P w K mg base CX0 34 f fd ["self", "knot", "sense", "senses"] (spWalkInitG C CW) := by
  refine F.ok sc_Walking___init__ (fun vs H Q E h => ?_) (fun cdv A outer s H vs Q E hr h => ?_)
  · obtain ⟨Reg, p, dx, s, pt, t, kv, sv, ev, rfl, _⟩ := h
    rfl
  · obtain ⟨Reg, p, dx, se, pt, t, kv, sv, ev, rfl, hp, hse, TR, rt, td, np, q⟩ := h
    refine ⟨_, (pss_cons (ps_asg (pv 2) (pg_tup rfl (pgs_cons (pg_name (i := 4) sc_Walking___init__.nd rfl (.inl rfl)) (pgs_cons (pg_name (i := 5) sc_Walking___init__.nd rfl (.inl rfl)) pgs_nil))))
      (pss_cons (ps_fld (pv 0) (pv 1) rfl)
      (pss_cons (ps_fld (pv 0) (pv 3) rfl)
      (pss_cons (ps_fld (pv 0) (pe_tup (pa_cons (pe_callH h_code_of (hr.mono (by first | decide | omega)) (by rfl) (pa_cons (pv 4) pa_nil)) (pa_cons (pv 5) (pa_cons pe_non pa_nil)))) rfl)
      (pss_cons (ps_fld (pv 0) pe_non rfl)
      (pss_cons (ps_fld (pv 0) pe_non rfl)
      (pss_cons (ps_fld (pv 0) pe_int rfl)
      (pss_cons (ps_fld (pv 0) pe_int rfl)
      (pss_one (ps_fld (pv 0) pe_non rfl)))))))))), ?_⟩
    refine ⟨_, rfl, se, _, rfl, .inl (.inl hse), rfl, _, _, rfl, _, _, rfl, rfl, ?_⟩
    have nps : se ≠ p := ne_of hse hp (by intro z; cases z)
    refine ⟨_, rfl, _, rfl, p, CW, dx, _, rfl, hp, WC.cl, WC.nknot, by show 0 < 1000; decide, ?_⟩
    refine ⟨_, rfl, _, rfl, p, CW, dx, _, rfl, upd_same, WC.cl, WC.nsenses, by show 1 < 1000; decide, ?_⟩
    rw [upd_upd]
    have ts : ∀ o, (∀ l, o ≠ HO.tup l) → TupS H (upd H p o) := fun o _ => tupS_upd hp
    have TR1 : Trees C Reg (upd H p (.ins CW dx (putF "senses" sv (putF "knot" kv [])))) := ⟨TR.uniq, fun p' t' r' => by
      obtain ⟨dx', tw, tf, cd, qs, ys, g⟩ := TR.node p' t' r'
      have k := ts (.ins CW dx (putF "senses" sv (putF "knot" kv []))) (by intro l z; cases z)
      have npp : p' ≠ p := fun z => np t' (by rw [← z]; exact r')
      exact ⟨dx', tw, tf, cd, qs, ys, by rw [upd_ne npp]; exact g.hp, k _ _ g.hw, k _ _ g.hf, g.fr, g.kids, g.code.imp id fun c => c.keep k fun _ _ h => h, g.ok⟩⟩
    have hp1 : (upd H p (.ins CW dx (putF "senses" sv (putF "knot" kv [])))) p = some (.ins CW dx (putF "senses" sv (putF "knot" kv []))) := upd_same
    have b1 : ∀ a o, H a = some o → a ≠ p → (upd H p (.ins CW dx (putF "senses" sv (putF "knot" kv [])))) a = some o := fun a o e z => by rw [upd_ne z]; exact e
    generalize upd H p (.ins CW dx (putF "senses" sv (putF "knot" kv []))) = H1 at TR1 hp1 b1 ⊢
    refine ⟨_, rfl, Reg, pt, t, rfl, TR1, rt, td, fun cv H2 bt TR2 hc => ?_⟩
    have hp2 := bt _ _ hp1 np
    refine ⟨_, rfl, sizeLine_ge (by show 3 ≤ 10000; decide), fun r hr => ?_⟩
    have s3 : Same H2 _ := same_new (o := .tup [cv, ev, .non]) hr
    have nrp : r ≠ p := Ne.symm (ne_of_none hp2 hr)
    have e3 : (upd H2 r (.tup [cv, ev, .non])) r = some (.tup [cv, ev, .non]) := upd_same
    generalize upd H2 r (.tup [cv, ev, .non]) = H3 at s3 e3 ⊢
    have hp3 := s3 _ _ hp2
    refine ⟨_, rfl, p, CW, dx, _, rfl, hp3, WC.cl, WC.nplace, by show 2 < 1000; decide, ?_⟩
    refine ⟨_, rfl, p, CW, dx, _, rfl, upd_same, WC.cl, WC.nhead, by show 3 < 1000; decide, ?_⟩
    refine ⟨_, rfl, p, CW, dx, _, rfl, upd_same, WC.cl, WC.nneed, by show 4 < 1000; decide, ?_⟩
    refine ⟨_, rfl, p, CW, dx, _, rfl, upd_same, WC.cl, WC.nsteps, by show 5 < 1000; decide, ?_⟩
    refine ⟨_, rfl, p, CW, dx, _, rfl, upd_same, WC.cl, WC.nmade, by show 6 < 1000; decide, ?_⟩
    refine ⟨_, rfl, p, CW, dx, _, rfl, upd_same, WC.cl, WC.nend, by show 7 < 1000; decide, ?_⟩
    rw [upd_upd, upd_upd, upd_upd, upd_upd, upd_upd]
    have TR3 := TR2.same s3
    have c3 := hc.keep (TupS.of s3) (fun _ _ h => h)
    have k3 : ∀ o, TupS H3 (upd H3 p o) := fun o => tupS_upd hp3
    refine q _ _ r cv (fun a o e z1 z2 => ?_) upd_same (walkF_mk _ _ _ _ _ _ _ _) (by (iterate 8 rw [lookup_putF, if_neg (by decide +kernel)]); rfl) (by (iterate 8 rw [lookup_putF, if_neg (by decide +kernel)]); rfl) ?_ (c3.keep (k3 _) fun _ _ h => h) ⟨TR3.uniq, fun p' t' r' => ?_⟩
    · rw [upd_ne z1]
      exact s3 _ _ (bt _ _ (b1 _ _ e z1) z2)
    · rw [upd_ne nrp]
      exact e3
    · obtain ⟨dx', tw, tf, cd, qs, ys, g⟩ := TR3.node p' t' r'
      have npp : p' ≠ p := fun z => np t' (by rw [← z]; exact r')
      exact ⟨dx', tw, tf, cd, qs, ys, by rw [upd_ne npp]; exact g.hp, k3 _ _ _ g.hw, k3 _ _ _ g.hf, g.fr, g.kids, g.code.imp id fun c => c.keep (k3 _) fun _ _ h => h, g.ok⟩
theorem ok_Told_initG {f f1 f2 f3 C CW CB CR : Addr} {fd fd1 fd2 fd3 : FuncData} (F : Fun K "__init__" "Told.__init__" s_Told___init__ f fd) (WC : WalkC K CW) (TC : ToldC K CR) (hRun : mg "Run" = some (.ref CB)) (SS : SupI K CB "__init__" f1)
    (okR : FnOk P w K mg base CX0 1 f1 fd1 ["self", "most", "known", "bodies"] (spRunInit K)) (bR : Binds K fd1 ["self", "most", "known", "bodies"] []) (m_Walking : HasC P w K mg base "Walking" CW 34 ["self", "knot", "sense", "senses"] (spWalkInitG C CW) f2 fd2)
    (hGo : HasW P w K mg base CR "go" 36 ["self", "walk"] (spGoG C CW CR) f3 fd3) : FnOk P w K mg base CX0 37 f fd ["self", "knot", "senses", "gots", "bodies"] (spToldInitG C CR CW) := by
  have RC : RunC K CR := TC.toRunC
  refine F.ok sc_Told___init__ (fun vs H Q E h => ?_) (fun cdv A outer s H vs Q E hr h => ?_)
  · obtain ⟨Reg, r, dx, aS, aG, aB, aE, q, pt, t, kn, kvs, kve, e, gvs, gots, n, Y, rfl, _⟩ := h
    rfl
  · have hu := hu_of hr
    obtain ⟨Reg, r, dx, aS, aG, aB, aE, q, pt, t, kn, kvs, kve, e, gvs, gots, n, Y, rfl, hr0, ncr, ncw, hS, lS, hk, hq, hE, pkE, hB, nSB, nES, nEB, TR, rt, nr, nn, lkn, sct, nod, le, hG, gv, gok, gl, ln, tale, fin⟩ := h
    refine ⟨_, (pss_cons (ps_expr (pe_sup (pe_globR (by rfl) hRun) SS okR (hr.mono (by first | decide | omega)) bR .nil pass0 (pa_cons (pv 0) (pa_cons (pe_globI (by rfl) T.g_NO_MOST) (pa_cons pe_dnewK (pa_cons (pv 4) pa_nil))))))
      (pss_cons (ps_fld (pv 0) (pe_lst pa_nil) rfl)
      (pss_cons (ps_fld (pv 0) (pv 3) rfl)
      (pss_cons (ps_fld (pv 0) (pe_makeH m_Walking (hr.mono (by first | decide | omega)) (by rfl) (pa_cons (pv 1) (pa_cons (pe_dget hu (pv 2) (pv 1) (fun _ _ => rfl)) (pa_cons (pv 2) pa_nil)))) rfl)
      (pss_one (ps_expr (pe_meth (pv 0) RC.cl hGo.me hGo.ok (hr.mono (by first | decide | omega)) hGo.bi .nil pass0 (pa_cons (pe_fld (pv 0) (by rfl)) pa_nil)))))))), ?_⟩
    have h10 : (10 : Nat) ^ 15 = 1000000000000000 := by decide
    refine ⟨rfl, _, rfl, fun d1 hd1 => ⟨_, rfl, CR, r, dx, _, _, _, rfl, RC, same_new hd1 _ _ hr0, ?_⟩⟩
    have nd1 : d1 ≠ r := Ne.symm (ne_of_none hr0 hd1)
    have b1 : But r H (upd (upd H d1 (.dK [])) r (.ins CR dx (runF0 (.int 1000000000000000) (.ref d1) (.ref aB)))) := (But.of_same (same_new hd1)).trans But.upd
    have e1 : (upd (upd H d1 (.dK [])) r (.ins CR dx (runF0 (.int 1000000000000000) (.ref d1) (.ref aB)))) r = some (.ins CR dx (runF0 (.int 1000000000000000) (.ref d1) (.ref aB))) := upd_same
    have kd1 : (upd (upd H d1 (.dK [])) r (.ins CR dx (runF0 (.int 1000000000000000) (.ref d1) (.ref aB)))) d1 = some (.dK []) := by
      rw [upd_ne nd1]
      exact upd_same
    generalize upd (upd H d1 (.dK [])) r (.ins CR dx (runF0 (.int 1000000000000000) (.ref d1) (.ref aB))) = H1 at b1 e1 kd1 ⊢
    have RF0 := runF_mk (.int 1000000000000000) (.ref d1) (.ref aB)
    have l0 : (runF0 (.int 1000000000000000) (.ref d1) (.ref aB)).length ≤ 4 := by
      unfold runF0
      have h1 := putF_len "most" (.int 1000000000000000) []
      have h2 := putF_len "known" (.ref d1) (putF "most" (.int 1000000000000000) [])
      have h3 := putF_len "bodies" (.ref aB) (putF "known" (.ref d1) (putF "most" (.int 1000000000000000) []))
      have h4 := putF_len "steps" (.int 0) (putF "bodies" (.ref aB) (putF "known" (.ref d1) (putF "most" (.int 1000000000000000) [])))
      simp only [List.length_nil] at h1
      omega
    have x0 : ∀ f : Str, f ∉ (["most", "known", "bodies", "steps"] : List Str) → (runF0 (.int 1000000000000000) (.ref d1) (.ref aB)).lookup f = none := fun f hf => by
      simp only [List.mem_cons, List.not_mem_nil, or_false, not_or] at hf
      unfold runF0
      rw [lookup_putF, if_neg (by first | exact hf.2.2.2 | exact Ne.symm hf.2.2.2), lookup_putF, if_neg (by first | exact hf.2.2.1 | exact Ne.symm hf.2.2.1), lookup_putF, if_neg (by first | exact hf.2.1 | exact Ne.symm hf.2.1), lookup_putF, if_neg (by first | exact hf.1 | exact Ne.symm hf.1)]
      rfl
    generalize runF0 (.int 1000000000000000) (.ref d1) (.ref aB) = g0 at e1 RF0 l0 x0 ⊢
    refine ⟨sizeLine_ge (by show 0 ≤ 10000; decide), fun l1 hl1 => ⟨_, rfl, r, CR, dx, g0, rfl, same_new hl1 _ _ e1, RC.cl, TC.nneeds, by omega, ?_⟩⟩
    have nl1 : l1 ≠ r := Ne.symm (ne_of_none e1 hl1)
    refine ⟨_, rfl, _, rfl, r, CR, dx, _, rfl, upd_same, RC.cl, TC.ngots, Nat.lt_of_le_of_lt (putF_len _ _ _) (by omega), ?_⟩
    rw [upd_upd]
    have b2 : But r H (upd (upd H1 l1 (.lst [])) r (.ins CR dx (putF "_gots" (.ref aG) (putF "needs" (.ref l1) g0)))) := (b1.trans (But.of_same (same_new hl1))).trans But.upd
    have e2 : (upd (upd H1 l1 (.lst [])) r (.ins CR dx (putF "_gots" (.ref aG) (putF "needs" (.ref l1) g0)))) r = some (.ins CR dx (putF "_gots" (.ref aG) (putF "needs" (.ref l1) g0))) := upd_same
    have f2 : (upd (upd H1 l1 (.lst [])) r (.ins CR dx (putF "_gots" (.ref aG) (putF "needs" (.ref l1) g0)))) l1 = some (.lst []) := by
      rw [upd_ne nl1]
      exact upd_same
    have kd2 : (upd (upd H1 l1 (.lst [])) r (.ins CR dx (putF "_gots" (.ref aG) (putF "needs" (.ref l1) g0)))) d1 = some (.dK []) := by
      rw [upd_ne nd1]
      exact same_new hl1 _ _ kd1
    have hd10 : H d1 = none := hd1
    have hl10 : H l1 = none := by
      cases h : H l1 with
      | none => rfl
      | some o =>
        rw [b1 _ _ h nl1] at hl1
        cases hl1
    generalize upd (upd H1 l1 (.lst [])) r (.ins CR dx (putF "_gots" (.ref aG) (putF "needs" (.ref l1) g0))) = H2 at b2 e2 f2 kd2 ⊢
    have nSr : aS ≠ r := ne_of hS hr0 (by intro z; cases z)
    have nqr : q ≠ r := ne_of hq hr0 (by intro z; cases z)
    have nEr : aE ≠ r := ne_of hE hr0 (by intro z; cases z)
    have nBr : aB ≠ r := ne_of hB hr0 (by intro z; cases z)
    have nGr : aG ≠ r := ne_of hG hr0 (by intro z; cases z)
    have none_of : ∀ a, H2 a = none → H a = none := fun a ha => by
      by_cases z : a = r
      · rw [z, e2] at ha
        cases ha
      · cases h : H a with
        | none => rfl
        | some o =>
          rw [b2 _ _ h z] at ha
          cases ha
    refine ⟨_, rfl, _, rfl, _, rfl, aS, .ref q, rfl, by rw [← hk]; exact DGet.k (k := .inr (tx kn)) (b2 _ _ hS nSr), _, rfl, fun p dxp hp hdp npd => ?_⟩
    have S3 : Same H2 (upd (upd H2 dxp (.own p)) p (.ins CW dxp [])) := (same_new hdp).trans (same_new (by rw [upd_ne (Ne.symm npd)]; exact hp))
    have e3 : (upd (upd H2 dxp (.own p)) p (.ins CW dxp [])) p = some (.ins CW dxp []) := upd_same
    generalize upd (upd H2 dxp (.own p)) p (.ins CW dxp []) = H3 at S3 e3 ⊢
    have hp0 := none_of _ hp
    have npr : p ≠ r := fun z => by rw [z, hr0] at hp0; cases hp0
    obtain ⟨N0, ft⟩ := TR.fit _ _ rt
    refine ⟨Reg, p, dxp, q, pt, t, _, _, .ref aE, rfl, e3, S3 _ _ (b2 _ _ hq nqr), (TR.toTrees.but b2 nr hr0).same S3, rt, ft.depth, nn _ hp0, fun H4 fs q4 cv bp hp4 WF mk4 tk4 hq4 hc4 TR4 => ⟨rfl, ?_⟩⟩
    have hr4 : H4 r = some (.ins CR dx (putF "_gots" (.ref aG) (putF "needs" (.ref l1) g0))) := bp _ _ (S3 _ _ e2) (Ne.symm npr) nr
    have l2 := putF_len "needs" (.ref l1) g0
    have l3 := putF_len "_gots" (.ref aG) (putF "needs" (.ref l1) g0)
    refine ⟨_, rfl, r, CR, dx, _, rfl, hr4, RC.cl, TC.nwalk, by omega, ?_⟩
    have RF1 : RunF (putF "walk" (.ref p) (putF "_gots" (.ref aG) (putF "needs" (.ref l1) g0))) (.int 1000000000000000) (.ref d1) (.ref aB) (.int 0) :=
      ((RF0.other "needs" _ (by decide +kernel) (by omega)).other "_gots" _ (by decide +kernel) (by omega)).other "walk" _ (by decide +kernel) (by omega)
    have gdo : ∀ f : Str, f ∉ (["most", "known", "bodies", "steps", "walk", "_gots", "needs"] : List Str) → (putF "walk" (.ref p) (putF "_gots" (.ref aG) (putF "needs" (.ref l1) g0))).lookup f = none := fun f hf => by
      simp only [List.mem_cons, List.not_mem_nil, or_false, not_or] at hf
      rw [lookup_putF, if_neg (by first | exact hf.2.2.2.2.1 | exact Ne.symm hf.2.2.2.2.1), lookup_putF, if_neg (by first | exact hf.2.2.2.2.2.1 | exact Ne.symm hf.2.2.2.2.2.1), lookup_putF, if_neg (by first | exact hf.2.2.2.2.2.2 | exact Ne.symm hf.2.2.2.2.2.2)]
      exact x0 f (by simp only [List.mem_cons, List.not_mem_nil, or_false, not_or]; exact ⟨hf.1, hf.2.1, hf.2.2.1, hf.2.2.2.1⟩)
    have gwalk : (putF "walk" (.ref p) (putF "_gots" (.ref aG) (putF "needs" (.ref l1) g0))).lookup ("walk" : Str) = some (.ref p) := by rw [lookup_putF, if_pos rfl]
    have ggots : (putF "walk" (.ref p) (putF "_gots" (.ref aG) (putF "needs" (.ref l1) g0))).lookup ("_gots" : Str) = some (.ref aG) := by rw [lookup_putF, if_neg (by decide +kernel), lookup_putF, if_pos rfl]
    have gneeds : (putF "walk" (.ref p) (putF "_gots" (.ref aG) (putF "needs" (.ref l1) g0))).lookup ("needs" : Str) = some (.ref l1) := by rw [lookup_putF, if_neg (by decide +kernel), lookup_putF, if_neg (by decide +kernel), lookup_putF, if_pos rfl]
    generalize putF "walk" (.ref p) (putF "_gots" (.ref aG) (putF "needs" (.ref l1) g0)) = g5 at RF1 gdo gwalk ggots gneeds ⊢
    have k5 : TupS H4 (upd H4 r (.ins CR dx g5)) := tupS_upd hr4
    have keep5 : ∀ a o, H2 a = some o → (∀ t, ¬ Reg a t) → a ≠ r → (upd H4 r (.ins CR dx g5)) a = some o := fun a o e nR n1 => by
      rw [upd_ne n1]
      exact bp _ _ (S3 _ _ e) (fun z => by rw [z, hp] at e; cases e) nR
    have hp5 : (upd H4 r (.ins CR dx g5)) p = some (.ins CW dxp fs) := (upd_ne npr).trans hp4
    have hr5 : (upd H4 r (.ins CR dx g5)) r = some (.ins CR dx g5) := upd_same
    have TR5 : Regs C Reg (upd H4 r (.ins CR dx g5)) := Regs.but ⟨TR4, TR.fit⟩ k5 fun a t g o e => by
      have na : a ≠ r := fun z => nr t (z ▸ g)
      rw [upd_ne na]
      exact e
    have hq5 := k5 _ _ hq4
    have hc5 := hc4.keep k5 fun _ _ h => h
    have nRd : ∀ {a : Addr} {kv : List (Key × V)}, H a = some (.dK kv) → ∀ t, ¬ Reg a t := fun e => TR.not e (by intro _ _ z; cases z)
    have hS5 := keep5 _ _ (b2 _ _ hS nSr) (nRd hS) nSr
    have hB5 := keep5 _ _ (b2 _ _ hB nBr) (nRd hB) nBr
    have hE5 := keep5 _ _ (b2 _ _ hE nEr) (nRd hE) nEr
    have hG5 := keep5 _ _ (b2 _ _ hG nGr) (TR.not hG (by intro _ _ z; cases z)) nGr
    have hd5 := keep5 _ _ kd2 (nn _ hd10) nd1
    have hl5 := keep5 _ _ f2 (nn _ hl10) nl1
    have k05 : TupS H (upd H4 r (.ins CR dx g5)) := fun a l e => keep5 _ _ (b2 _ _ e (ne_of e hr0 (by intro z; cases z))) (TR.not e (by intro _ _ z; cases z)) (ne_of e hr0 (by intro z; cases z))
    have k05r : ∀ a o, H a = some o → a ≠ r → (∀ dx fs, o ≠ .ins C dx fs) → (upd H4 r (.ins CR dx g5)) a = some o := fun a o e n1 n2 => keep5 _ _ (b2 _ _ e n1) (TR.not e n2) n1
    have gv5 := gv.keep k05
    generalize upd H4 r (.ins CR dx g5) = H5 at hp5 hr5 TR5 hq5 hc5 hS5 hB5 hE5 hG5 hd5 hl5 k05 k05r gv5 ⊢
    have nSd : d1 ≠ aS := fun z => by rw [z, hS] at hd10; cases hd10
    have nBd : d1 ≠ aB := fun z => by rw [z, hB] at hd10; cases hd10
    have nGl : aG ≠ l1 := fun z => by rw [← z, hG] at hl10; cases hl10
    have mc : Mach C CW kn p aS aB ⟨.ref q4, .non, .non, .int 0, .non⟩ Reg (fun a => a = aE) H5 [] (2 * n) := by
      refine ⟨TR5, ⟨dxp, fs, hp5, WF, mk4, tk4⟩, ⟨kvs, hS5, (fun i te h => by simp at h), (by omega)⟩, ⟨[], hB5, (fun z v h => by cases h), (by show 0 + 2 * n ≤ 100000; omega)⟩, nSB, lkn, (by show 0 + 2 * n ≤ 100000; omega), ncw, fun z => nES z.symm, fun z => nEB z.symm, fun a z => ?_⟩
      subst z
      exact ⟨kve, hE5⟩
    refine ⟨_, rfl, r, dx, _, rfl, hr5, gdo _ (by decide +kernel), _, rfl, r, CR, dx, _, _, rfl, hr5, RC.cl, TC.nwalk, gwalk, kn, 1000000000000000, p, r, q4, aS, aB, d1, l1, aG, dx, g5, _, Reg, _, begin_ t e, n, cv, .ref aE, .non, gvs, gots, Y, rfl, hr5, ncr, Ne.symm npr, ⟨RF1, gneeds, ggots, gdo _ (by decide +kernel), gdo _ (by decide +kernel), gdo _ (by decide +kernel), gdo _ (by decide +kernel)⟩, rfl, rfl, rfl, mc, hq5, ⟨hc5, ⟨aE, kve, rfl, rfl, hE5, pkE⟩, rfl, rfl⟩, begin_good sct ⟨N0, ft⟩ nod le ln, gok, hd5, nSd, nBd, by decide, hl5, hG5, nGl, gv5, gl, tale, fun Reg' G' H' f' hR' hG' c3 hr' hN' mc' fst' he' => ?_⟩
    refine fin Reg' G' H' _ f' p l1 hR' (fun a o e n1 n2 n3 n4 => ?_) hr' ?_ ?_ hN' mc' fst' he'
    · exact c3 _ _ (k05r _ _ e n1 n4) (fun z => by rw [z, hp0] at e; cases e) n1 n2 n3 (fun z => by rw [z, hl10] at e; cases e) n4
    · rw [lookup_putF, if_neg (by decide +kernel)]
      exact gneeds
    · rw [lookup_putF, if_neg (by decide +kernel)]
      exact gwalk
end
end K


set_option Elab.async false
set_option linter.all false
set_option maxRecDepth 100000
set_option maxHeartbeats 4000000
set_option pp.maxSteps 3000
namespace K
open PySem PySem.Spec PyProof.Rows L2 U
def spTermTree (CT : Addr) : Sp := fun vs H Q _ => ∃ (p dx q : Addr) (fs : List (Str × V)), vs = [.ref p] ∧ H p = some (.ins CT dx fs) ∧ fs.lookup ("_tree" : Str) = some (.ref q) ∧ Q (.ref q) H
theorem termF_tree (a b c : V) : (termF a b c).lookup ("_tree" : Str) = some a := by
  unfold termF
  rw [lookup_putF, if_neg (by decide +kernel), lookup_putF, if_neg (by decide +kernel), lookup_putF, if_pos rfl]
theorem termF_none (a b c : V) : (termF a b c).lookup ("tree" : Str) = none := by
  unfold termF
  rw [lookup_putF, if_neg (by decide +kernel), lookup_putF, if_neg (by decide +kernel), lookup_putF, if_neg (by decide +kernel)]
  rfl
/-- a Walk of numbers alone -/
def spWalkedN (C CT CS : Addr) : Sp := fun vs H Q _ => ∃ (t : U.Tm) (kn : U.Nm) (pT aN : Addr) (o : Obj) (gv : V), vs = [.str (tx kn), .ref pT, .ref aN, gv] ∧ TermAt CT C H t pT ∧ t.Ok ∧ t.depth ≤ 30 ∧ t.Nums ∧ t.val.2 ≤ 10 ^ 14 ∧ H aN = some (.frz o (.tup [])) ∧ PlT o ∧
  ∀ H' p dx l1 l2 e, (∀ a o, H a = some o → (∀ dx fs, o ≠ .ins C dx fs) → H' a = some o) → H' p = some (.ins CS dx (seenF (.ref l1) (.int (t.val.2 : Nat)) (.ref l2) e)) → H' l1 = some (.lst []) → H' l2 = some (.lst []) → HdV H' (U.endOf kn t) e → Q (.ref p) H'
section
variable {P : Program} {w : World} {K : PySem.W.Frag} {mg : Str → Option Value} {base : Heap} {dW dB dN : Addr} {esW : Array DictEntry} {nW : Nat} (T : Txt K mg w dW dB esW nW) (N : Runs K mg dN)
include T N
theorem ok_Term_tree {f CT : Addr} {fd : FuncData} (F : Fun K "tree" "Term.tree" s_Term_tree f fd) (MC : TermC K CT) : FnOk P w K mg base CX0 1 f fd ["self"] (spTermTree CT) := by
  refine F.ok sc_Term_tree (fun vs H Q E h => ?_) (fun cdv A outer s H vs Q E hr h => ?_)
  · obtain ⟨p, dx, q, fs, rfl, _⟩ := h
    rfl
  · obtain ⟨p, dx, q, fs, rfl, h1, h2, fin⟩ := h
    refine ⟨_, (pss_one (ps_ret (pe_fld (pv 0) (by rfl)))), ?_⟩
    exact ⟨_, rfl, p, CT, dx, _, _, rfl, h1, MC.cl, MC.nt, h2, fin⟩
theorem ok_walkedN {f f1 f2 f3 f4 C CT CS CW CR : Addr} {fd fd1 fd2 fd3 fd4 : FuncData} (F : Fun K "walked" "walked" s_walked f fd) (TC : TreeC K C) (MC : TermC K CT) (WC : WalkC K CW) (TD : ToldC K CR) (hTr : HasW P w K mg base CT "tree" 1 ["self"] (spTermTree CT) f1 fd1)
    (m_Told : HasC P w K mg base "Told" CR 37 ["self", "knot", "senses", "gots", "bodies"] (spToldInitN C CR CW) f2 fd2) (m_Walk : HasC P w K mg base "Walk" CS 1 ["self", "needs", "steps", "made", "end"] (spSeenInit CS) f3 fd3)
    (h_names_for : Has P w K mg base "names_for" 1 ["tree", "names"] (spNamesFor C) f4 fd4) : FnOk P w K mg base CX0 39 f fd ["knot", "term", "names", "gots"] (spWalkedN C CT CS) := by
  refine F.ok sc_walked (fun vs H Q E h => ?_) (fun cdv A outer s H vs Q E hr h => ?_)
  · obtain ⟨t, kn, pT, aN, o, gv, rfl, _⟩ := h
    rfl
  · have hu := hu_of hr
    obtain ⟨t, kn, pT, aN, o, gv, rfl, hT, tok, td, tnm, tv, hN, po, fin⟩ := h
    refine ⟨_, (pss_cons (ps_set (i := 4) sc_walked.nd rfl (.inl rfl) (pe_disp (pps_cons (pv 0) (pe_tup (pa_cons (pe_meth0 (pv 1) MC.cl hTr.me hTr.ok (hr.mono (by first | decide | omega)) hTr.bi .nil pass0) (pa_cons (pe_callTy (call_dictT rfl) (by rfl) T.z_dict (by decide +kernel) (pa_cons (pv 2) pa_nil)) pa_nil))) pps_nil) rfl rfl (by simp) (Nat.le_of_ble_eq_true rfl)))
      (pss_cons (ps_set (i := 5) sc_walked.nd rfl (.inl rfl) (pe_makeH m_Told (hr.mono (by first | decide | omega)) (by rfl) (pa_cons (pv 0) (pa_cons (pv 4) (pa_cons (pv 3) (pa_cons pe_dnewK pa_nil))))))
      (pss_cons (ps_set (i := 6) sc_walked.nd rfl (.inl rfl) (pe_lst pa_nil))
      (pss_cons (ps_for PassesOwn.never rfl (pi_range2 (by rfl) T.z_range (pa_cons pe_int (pa_cons (pe_op op_add (pe_fld (pe_fld (pv 5) (by rfl)) (by rfl)) pe_int) pa_nil))) (pg_name (i := 7) sc_walked.nd rfl (.inl rfl)) 
        (pss_cons (ps_set (i := 8) sc_walked.nd rfl (.inl rfl) (pe_joined (.cons (pe_fmt (pv 0)) (.cons pe_str (.cons (pe_fmt (pv 7)) .nil)))))
        (pss_cons (ps_asg (pe_dget hu (pv 4) (pv 8) (fun _ _ => rfl)) (pg_tup rfl (pgs_cons (pg_name (i := 9) sc_walked.nd rfl (.inl rfl)) (pgs_cons (pg_name (i := 10) sc_walked.nd rfl (.inl rfl)) pgs_nil))))
        (pss_one (ps_expr (pe_bm PySem.F.plainAttrs_list PySem.F.slot_list_append PySem.F.type_list_append mt_append (pv 6) (pa_cons (pe_tup (pa_cons (pv 8) (pa_cons (pe_fld (pv 9) (by rfl)) (pa_cons (pe_callH h_names_for (hr.mono (by first | decide | omega)) (by rfl) (pa_cons (pv 9) (pa_cons (pv 10) pa_nil))) pa_nil)))) pa_nil)))))))
      (pss_one (ps_ret (pe_makeH m_Walk (hr.mono (by first | decide | omega)) (by rfl) (pa_cons (pe_fld (pv 5) (by rfl)) (pa_cons (pe_fld (pe_fld (pv 5) (by rfl)) (by rfl)) (pa_cons (pv 6) (pa_cons (pe_fld (pe_fld (pv 5) (by rfl)) (by rfl)) pa_nil))))))))))), ?_⟩
    obtain ⟨dT, qT, rT, qsT, zsT, hT1, hT2, _⟩ := hT
    intro p1 hp1
    have S1 : Same H _ := same_new (o := .dK []) hp1
    have e1 : (upd H p1 (.dK [])) p1 = some (.dK []) := upd_same
    generalize upd H p1 (.dK []) = H1 at S1 e1 ⊢
    refine ⟨_, rfl, _, rfl, pT, dT, _, rfl, S1 _ _ hT1, termF_none _ _ _, pT, dT, qT, _, rfl, S1 _ _ hT1, termF_tree _ _ _, ?_⟩
    refine ⟨_, rfl, aN, o, [], [], rfl, S1 _ _ hN, po, .nil, fun p2 hp2 => ?_⟩
    have S2 : Same H1 _ := same_new (o := .dK (mergeK [] [])) hp2
    generalize upd H1 p2 (.dK (mergeK [] [])) = H2 at S2 ⊢
    refine ⟨sizeLine_ge (by show 2 ≤ 10000; decide), fun p3 hp3 => ?_⟩
    have S3 : Same H2 _ := same_new (o := .tup [.ref qT, .ref p2]) hp3
    have e3 : (upd H2 p3 (.tup [.ref qT, .ref p2])) p3 = some (.tup [.ref qT, .ref p2]) := upd_same
    generalize upd H2 p3 (.tup [.ref qT, .ref p2]) = H3 at S3 e3 ⊢
    have e13 : H3 p1 = some (.dK []) := S3 _ _ (S2 _ _ e1)
    refine ⟨e13, [(.inr (tx kn), .ref p3)], rfl, by show 1 ≤ 15; decide, ?_⟩
    have n31 : p3 ≠ p1 := ne_of e3 e13 (by intro z; cases z)
    have S4 : Same H (upd H3 p1 (.dK [(.inr (tx kn), .ref p3)])) := fun a o e => by
      rw [upd_ne (ne_of_none e hp1)]
      exact S3 _ _ (S2 _ _ (S1 _ _ e))
    have e4 : (upd H3 p1 (.dK [(.inr (tx kn), .ref p3)])) p1 = some (.dK [(.inr (tx kn), .ref p3)]) := upd_same
    have e43 : (upd H3 p1 (.dK [(.inr (tx kn), .ref p3)])) p3 = some (.tup [.ref qT, .ref p2]) := by
      rw [upd_ne n31]
      exact e3
    show tSeq _ _ _ _ (upd H3 p1 (.dK [(.inr (tx kn), .ref p3)]))
    generalize upd H3 p1 (.dK [(.inr (tx kn), .ref p3)]) = H4 at S4 e4 e43 ⊢
    refine ⟨_, rfl, _, rfl, _, rfl, fun d hd r dxr hr0 hdr ner => ?_⟩
    have S5 : Same H4 _ := same_new (o := .dK []) hd
    generalize upd H4 d (.dK []) = H5 at S5 hr0 hdr ⊢
    have S6 : Same H5 (upd (upd H5 dxr (.own r)) r (.ins CR dxr [])) := (same_new hdr).trans (same_new (by rw [upd_ne (Ne.symm ner)]; exact hr0))
    have e6 : (upd (upd H5 dxr (.own r)) r (.ins CR dxr [])) r = some (.ins CR dxr []) := upd_same
    generalize upd (upd H5 dxr (.own r)) r (.ins CR dxr []) = H6 at S6 e6 ⊢
    have S46 := S5.trans S6
    have S06 := S4.trans S46
    have nreg : ∀ a, H a = none → ∀ t, ¬ RegOf C H a t := fun a ha t g => by
      obtain ⟨dx, fs, e⟩ := g.some
      rw [ha] at e
      cases e
    have hr00 : H r = none := by
      cases h : H r with
      | none => rfl
      | some o =>
        rw [S5 _ _ (S4 _ _ h)] at hr0
        cases hr0
    refine ⟨RegOf C H, r, dxr, p1, p3, qT, t, kn, gv, .ref d, .ref p2, [(.inr (tx kn), .ref p3)], rfl, e6, S46 _ _ e4, (by first | exact valV_pos rfl | rfl), S46 _ _ e43, (trees_of C H).same S06, ⟨hT2, tok⟩, td, tnm, tv, nreg _ hr00, fun a ha => nreg a (by
      cases h : H a with
      | none => rfl
      | some o =>
        rw [S06 _ _ h] at ha
        cases ha), fun H7 gs fs p dxp aL ev' bp hr7 gneeds gwalk hl hp7 fmade fsteps fend hev => ⟨rfl, ?_⟩⟩
    refine ⟨sizeLine_ge (by show 0 ≤ 10000; decide), fun m hm => ?_⟩
    have S8 : Same H7 _ := same_new (o := .lst []) hm
    have e8 : (upd H7 m (.lst [])) m = some (.lst []) := upd_same
    generalize upd H7 m (.lst []) = H8 at S8 e8 ⊢
    have hr8 := S8 _ _ hr7
    have hp8 := S8 _ _ hp7
    have hl8 := S8 _ _ hl
    refine ⟨_, rfl, r, CR, dxr, gs, _, rfl, hr8, TD.cl, TD.nwalk, gwalk, p, CW, dxp, fs, _, rfl, hp8, WC.cl, WC.nmade, fmade, _, _, rfl, rfl, 1, 0 + 1, rfl, ⟨by decide, by decide, by decide, by decide⟩, for_range (fun _ σ H' => σ = [some (.str (tx kn)), some (.ref pT), some (.ref aN), some gv, some (.ref p1), some (.ref r), some (.ref m), none, none, none, none] ∧ H' = H8) ⟨rfl, rfl⟩ (fun i σ H' hi _ => absurd hi (Nat.not_lt_zero i)) (fun σ H' h => ?_)⟩
    obtain ⟨rfl, rfl⟩ := h
    refine ⟨_, rfl, r, CR, dxr, gs, _, rfl, hr8, TD.cl, TD.nneeds, gneeds, _, rfl, r, CR, dxr, gs, _, rfl, hr8, TD.cl, TD.nwalk, gwalk, p, CW, dxp, fs, _, rfl, hp8, WC.cl, WC.nsteps, fsteps, _, rfl, _, rfl, r, CR, dxr, gs, _, rfl, hr8, TD.cl, TD.nwalk, gwalk, p, CW, dxp, fs, _, rfl, hp8, WC.cl, WC.nend, fend, fun x dx hx hdx ne => ?_⟩
    have S9 : Same H' (upd (upd H' dx (.own x)) x (.ins CS dx [])) := (same_new hdx).trans (same_new (by rw [upd_ne (Ne.symm ne)]; exact hx))
    have e9 : (upd (upd H' dx (.own x)) x (.ins CS dx [])) x = some (.ins CS dx []) := upd_same
    generalize upd (upd H' dx (.own x)) x (.ins CS dx []) = H9 at S9 e9 ⊢
    refine ⟨x, dx, aL, m, [], [], _, ev', rfl, e9, S9 _ _ hl8, S9 _ _ e8, by simp, by simp, fun l1 l2 H10 b10 hx10 h1 h2 n1 n2 => ⟨rfl, ?_⟩⟩
    have k10 : TupS H9 H10 := fun a l e => b10 a _ e (ne_of e e9 (by intro z; cases z))
    refine fin H10 x dx l1 l2 ev' (fun a o e nt => ?_) hx10 h1 h2 (((hev.keep (TupS.of S8)).keep (TupS.of S9)).keep k10)
    have g7 := bp a o (S06 _ _ e) (ne_of_none e hr00) fun t g => by
      obtain ⟨dx, fs, z⟩ := g.some
      rw [e] at z
      injection z with z
      exact nt _ _ z
    exact b10 _ _ (S9 _ _ (S8 _ _ g7)) (ne_of_none (S8 _ _ g7) hx)
end
end K


set_option Elab.async false
set_option linter.all false
set_option maxRecDepth 100000
set_option maxHeartbeats 4000000
set_option pp.maxSteps 4000
namespace K
open PySem PySem.Spec PyProof.Rows L2 U
/-- all made is of terms that fit, in names that are bound -/
theorem tale_good {kn : U.Nm} {lim : Nat} {Y : U.Tale} : ∀ (n : Nat) {s : U.St} {gots : List U.Hd} {needs : List U.Nm}, Good n s → (∀ g ∈ gots, HdOk g) → U.taleM U.frs kn lim n s gots needs = some Y → ∀ te ∈ Y.made, ScT te.1 te.2 ∧ (∃ N, Fit te.1 N)
  | 0, s, gots, needs, g, gk, h => by cases h
  | n + 1, s, gots, needs, g, gk, h => by
    have g1 := step_good (kn := kn) (known := fun _ => none) (lim := lim) (m := n) (fun _ _ h => by cases h) g
    have md : ∀ {m : Nat} {s : U.St}, Good m s → ∀ te ∈ s.made, ScT te.1 te.2 ∧ (∃ N, Fit te.1 N) := fun g te h => ⟨(g.md te h).1, (g.md te h).2.1⟩
    unfold U.taleM at h
    cases e : U.step U.frs kn (fun _ => none) lim s with
    | go s' =>
      rw [e] at h g1
      exact tale_good n g1 gk h
    | fin s' =>
      rw [e] at h g1
      simp only at h
      split at h
      · cases h
      · cases Option.some.inj h
        exact md g1
    | need s' k =>
      rw [e] at h g1
      cases gots with
      | nil =>
        cases Option.some.inj h
        exact md g1
      | cons g r => exact tale_good n (s := { s' with head := some g }) ⟨g1.c, g1.e, g1.w, fun h' e' => by cases e'; exact gk _ List.mem_cons_self, g1.md, g1.ml⟩ (fun x hx => gk _ (List.mem_cons_of_mem _ hx)) h
    | out s' => rw [e] at h; cases h
    | bad => rw [e] at h; cases h
/-- the row of a knot that is made: its name, its term's text, what its free names stand for -/
def madeRow (kn : U.Nm) (i : Nat) (te : U.Tm × U.En) : U.Nm × U.Nm × U.En := (U.madeNm kn (i + 1), te.1.pr, U.rowsOf (U.frs te.1) te.2)
def madeRows (kn : U.Nm) (made : List (U.Tm × U.En)) : List (U.Nm × U.Nm × U.En) := made.mapIdx (madeRow kn)
def MadeRowV (H : Hp) (q : Addr) (r : U.Nm × U.Nm × U.En) : Prop := ∃ a, H q = some (.tup [.str (tx r.1), .str (tx r.2.1), .ref a]) ∧ RowsT H r.2.2 a
theorem MadeRowV.keep {H H' : Hp} (k : TupS H H') {q : Addr} {r : U.Nm × U.Nm × U.En} (h : MadeRowV H q r) : MadeRowV H' q r := by
  obtain ⟨a, h1, h2⟩ := h
  exact ⟨a, k _ _ h1, h2.keep k⟩
theorem PairK.merge {R : V → U.Nm → Prop} : ∀ {more : List (Key × V)} {e : U.En} {kvs : List (Key × V)} {a : U.En}, PairK R more e → PairK R kvs a → PairK R (mergeK kvs more) (putAll a e)
  | _, _, _, _, .nil, h => h
  | _, _, kvs, a, .cons (a := kv) (b := r) x t, h => by
    obtain ⟨k, v⟩ := kv
    obtain ⟨hk, hr⟩ := x
    simp only at hk hr
    subst hk
    show PairK R (mergeK (putK kvs (.inr (tx r.1)) v) _) (putAll (putR a r.1 r.2) _)
    exact PairK.merge t (h.put hr)
def namesK (e : U.En) : List (Key × V) := e.map fun r => (.inr (tx r.1), .str (tx r.2))
theorem namesK_pair : ∀ e : U.En, PairK (fun v (k : U.Nm) => v = .str (tx k)) (namesK e) e
  | [] => .nil
  | r :: e => .cons ⟨rfl, rfl⟩ (namesK_pair e)
/-- a Walk: what was seen -/
structure SeenV (kn : U.Nm) (CS : Addr) (H : Hp) (p : Addr) (Y : U.Tale) : Prop where
  ok : ∃ dx l1 l2 ev as, H p = some (.ins CS dx (seenF (.ref l1) (.int Y.steps) (.ref l2) ev)) ∧ H l1 = some (.lst (strsV Y.needs)) ∧ H l2 = some (.lst (as.map V.ref)) ∧ Paired (MadeRowV H) as (madeRows kn Y.made) ∧ OHdV H Y.end_ ev
/-- a Term whose tree is registered -/
def TermR (Reg : Addr → U.Tm → Prop) (CT : Addr) (H : Hp) (t : U.Tm) (p : Addr) : Prop := ∃ dx q r, H p = some (.ins CT dx (termF (.ref q) (.str (tx t.pr)) (.ref r))) ∧ Reg q t
/-- what is seen of a walk that is told, its Term's tree being registered -/
def spWalkedR (C CT CS : Addr) : Sp := fun vs H Q _ => ∃ (Reg : Addr → U.Tm → Prop) (t : U.Tm) (kn : U.Nm) (pT aN aG : Addr) (o : Obj) (ps : List Addr) (e : U.En) (gvs : List V) (gots : List U.Hd) (n : Nat) (Y : U.Tale), vs = [.str (tx kn), .ref pT, .ref aN, .ref aG] ∧ Regs C Reg H ∧ (∀ a, H a = none → ∀ t, ¬ Reg a t) ∧ TermR Reg CT H t pT ∧ kn.length ≤ 9000 ∧ H aN = some (.frz o (.tup (ps.map V.ref))) ∧ PlT o ∧ Paired (fun q (r : U.Nm × U.Nm) => H q = some (.tup [.str (tx r.1), .str (tx r.2)])) ps e ∧ e.length ≤ 1000 ∧ ScT t (putAll [] e) ∧
  H aG = some (.lst gvs) ∧ GotsV H gvs gots ∧ (∀ g ∈ gots, HdOk g) ∧ gots.length ≤ 1000 ∧ n ≤ 40000 ∧ U.taleM U.frs kn 1000000000000000 n (begin_ t (putAll [] e)) gots [] = some Y ∧
  ∀ Reg' H' p, (∀ p t, Reg p t → Reg' p t) → Regs C Reg' H' → (∀ a, H' a = none → ∀ t, ¬ Reg' a t) → (∀ a o, H a = some o → (∀ dx fs, o ≠ .ins C dx fs) → H' a = some o) → SeenV kn CS H' p Y → Q (.ref p) H'
/-- what is seen of a walk that is told -/
def spWalkedG (C CT CS : Addr) : Sp := fun vs H Q _ => ∃ (t : U.Tm) (kn : U.Nm) (pT aN aG : Addr) (o : Obj) (ps : List Addr) (e : U.En) (gvs : List V) (gots : List U.Hd) (n : Nat) (Y : U.Tale), vs = [.str (tx kn), .ref pT, .ref aN, .ref aG] ∧ TermAt CT C H t pT ∧ (∃ N, Fit t N) ∧ kn.length ≤ 9000 ∧ H aN = some (.frz o (.tup (ps.map V.ref))) ∧ PlT o ∧ Paired (fun q (r : U.Nm × U.Nm) => H q = some (.tup [.str (tx r.1), .str (tx r.2)])) ps e ∧ e.length ≤ 1000 ∧ ScT t (putAll [] e) ∧
  H aG = some (.lst gvs) ∧ GotsV H gvs gots ∧ (∀ g ∈ gots, HdOk g) ∧ gots.length ≤ 1000 ∧ n ≤ 40000 ∧ U.taleM U.frs kn 1000000000000000 n (begin_ t (putAll [] e)) gots [] = some Y ∧
  ∀ H' p, (∀ a o, H a = some o → (∀ dx fs, o ≠ .ins C dx fs) → H' a = some o) → SeenV kn CS H' p Y → Q (.ref p) H'
theorem tale_len {fr : U.Tm → List U.Nm} {kn : U.Nm} {lim : Nat} {Y : U.Tale} : ∀ (n : Nat) {s : U.St} {gots : List U.Hd} {needs : List U.Nm}, U.taleM fr kn lim n s gots needs = some Y → Y.needs.length ≤ needs.length + gots.length + 1
  | 0, s, gots, needs, h => by cases h
  | n + 1, s, gots, needs, h => by
    unfold U.taleM at h
    cases e : U.step fr kn (fun _ => none) lim s with
    | go s' =>
      rw [e] at h
      exact tale_len n h
    | fin s' =>
      rw [e] at h
      simp only at h
      split at h
      · cases h
      · cases Option.some.inj h
        simp only
        omega
    | need s' k =>
      rw [e] at h
      cases gots with
      | nil =>
        cases Option.some.inj h
        simp
      | cons g r =>
        have h := tale_len n (show U.taleM fr kn lim n { s' with head := some g } r (needs ++ [k]) = some Y from h)
        simp only [List.length_append, List.length_singleton, List.length_cons, List.length_nil] at h ⊢
        omega
    | out s' => rw [e] at h; cases h
    | bad => rw [e] at h; cases h
section
variable {P : Program} {w : World} {K : PySem.W.Frag} {mg : Str → Option Value} {base : Heap} {dW dB dN : Addr} {esW : Array DictEntry} {nW : Nat} (T : Txt K mg w dW dB esW nW) (N : Runs K mg dN)
include T N
theorem ok_walkedR {f f1 f2 f3 f4 C CT CS CW CR : Addr} {fd fd1 fd2 fd3 fd4 : FuncData} (F : Fun K "walked" "walked" s_walked f fd) (ncr : CR ≠ C) (ncw : CW ≠ C) (TC : TreeC K C) (MC : TermC K CT) (WC : WalkC K CW) (TD : ToldC K CR) (hTr : HasW P w K mg base CT "tree" 1 ["self"] (spTermTree CT) f1 fd1)
    (m_Told : HasC P w K mg base "Told" CR 37 ["self", "knot", "senses", "gots", "bodies"] (spToldInitG C CR CW) f2 fd2) (m_Walk : HasC P w K mg base "Walk" CS 1 ["self", "needs", "steps", "made", "end"] (spSeenInit CS) f3 fd3)
    (h_names_for : Has P w K mg base "names_for" 1 ["tree", "names"] (spNamesFor C) f4 fd4) : FnOk P w K mg base CX0 39 f fd ["knot", "term", "names", "gots"] (spWalkedR C CT CS) := by
  refine F.ok sc_walked (fun vs H Q E h => ?_) (fun cdv A outer s H vs Q E hr h => ?_)
  · obtain ⟨Reg, t, kn, pT, aN, aG, o, ps, e, gvs, gots, n, Y, rfl, _⟩ := h
    rfl
  · have hu := hu_of hr
    obtain ⟨Reg, t, kn, pT, aN, aG, o, ps, e, gvs, gots, n, Y, rfl, R0, nreg, hT, lkn, hN, po, hps, le, sct, hG, gv, gok, gl, ln, tale, fin⟩ := h
    refine ⟨_, (pss_cons (ps_set (i := 4) sc_walked.nd rfl (.inl rfl) (pe_disp (pps_cons (pv 0) (pe_tup (pa_cons (pe_meth0 (pv 1) MC.cl hTr.me hTr.ok (hr.mono (by first | decide | omega)) hTr.bi .nil pass0) (pa_cons (pe_callTy (call_dictT rfl) (by rfl) T.z_dict (by decide +kernel) (pa_cons (pv 2) pa_nil)) pa_nil))) pps_nil) rfl rfl (by simp) (Nat.le_of_ble_eq_true rfl)))
      (pss_cons (ps_set (i := 5) sc_walked.nd rfl (.inl rfl) (pe_makeH m_Told (hr.mono (by first | decide | omega)) (by rfl) (pa_cons (pv 0) (pa_cons (pv 4) (pa_cons (pv 3) (pa_cons pe_dnewK pa_nil))))))
      (pss_cons (ps_set (i := 6) sc_walked.nd rfl (.inl rfl) (pe_lst pa_nil))
      (pss_cons (ps_for PassesOwn.never rfl (pi_range2 (by rfl) T.z_range (pa_cons pe_int (pa_cons (pe_op op_add (pe_fld (pe_fld (pv 5) (by rfl)) (by rfl)) pe_int) pa_nil))) (pg_name (i := 7) sc_walked.nd rfl (.inl rfl)) 
        (pss_cons (ps_set (i := 8) sc_walked.nd rfl (.inl rfl) (pe_joined (.cons (pe_fmt (pv 0)) (.cons pe_str (.cons (pe_fmt (pv 7)) .nil)))))
        (pss_cons (ps_asg (pe_dget hu (pv 4) (pv 8) (fun _ _ => rfl)) (pg_tup rfl (pgs_cons (pg_name (i := 9) sc_walked.nd rfl (.inl rfl)) (pgs_cons (pg_name (i := 10) sc_walked.nd rfl (.inl rfl)) pgs_nil))))
        (pss_one (ps_expr (pe_bm PySem.F.plainAttrs_list PySem.F.slot_list_append PySem.F.type_list_append mt_append (pv 6) (pa_cons (pe_tup (pa_cons (pv 8) (pa_cons (pe_fld (pv 9) (by rfl)) (pa_cons (pe_callH h_names_for (hr.mono (by first | decide | omega)) (by rfl) (pa_cons (pv 9) (pa_cons (pv 10) pa_nil))) pa_nil)))) pa_nil)))))))
      (pss_one (ps_ret (pe_makeH m_Walk (hr.mono (by first | decide | omega)) (by rfl) (pa_cons (pe_fld (pv 5) (by rfl)) (pa_cons (pe_fld (pe_fld (pv 5) (by rfl)) (by rfl)) (pa_cons (pv 6) (pa_cons (pe_fld (pe_fld (pv 5) (by rfl)) (by rfl)) pa_nil))))))))))), ?_⟩
    obtain ⟨dT, qT, rT, hT1, hT2⟩ := hT
    obtain ⟨N0, ft⟩ := R0.fit _ _ hT2
    have nod : NodR (putAll ([] : U.En) e) := nod_all (more := e) (rows := []) List.nodup_nil
    have le2 : (putAll ([] : U.En) e).length ≤ 1000 := by
      have := putAll_len ([] : U.En) e
      simp only [List.length_nil] at this
      omega
    have tg := tale_good n (begin_good sct ⟨N0, ft⟩ nod le2 ln) gok tale
    intro p1 hp1
    have S1 : Same H _ := same_new (o := .dK []) hp1
    have e1 : (upd H p1 (.dK [])) p1 = some (.dK []) := upd_same
    generalize upd H p1 (.dK []) = H1 at S1 e1 ⊢
    refine ⟨_, rfl, _, rfl, pT, dT, _, rfl, S1 _ _ hT1, termF_none _ _ _, pT, dT, qT, _, rfl, S1 _ _ hT1, termF_tree _ _ _, ?_⟩
    have hrows : Paired (fun p (kv : Key × V) => SqT K H1 p [kV kv.1, kv.2]) ps (namesK e) := by
      have : ∀ {ps : List Addr} {e : U.En}, Paired (fun q (r : U.Nm × U.Nm) => H q = some (.tup [.str (tx r.1), .str (tx r.2)])) ps e → Paired (fun p (kv : Key × V) => SqT K H1 p [kV kv.1, kv.2]) ps (namesK e) := by
        intro ps e h
        induction h with
        | nil => exact .nil
        | cons h _ ih => exact .cons (.inl (.inl (S1 _ _ h))) ih
      exact this hps
    refine ⟨_, rfl, aN, o, ps, namesK e, rfl, S1 _ _ hN, po, hrows, fun p2 hp2 => ?_⟩
    have S2 : Same H1 _ := same_new (o := .dK (mergeK [] (namesK e))) hp2
    have e2 : (upd H1 p2 (.dK (mergeK [] (namesK e)))) p2 = some (.dK (mergeK [] (namesK e))) := upd_same
    have n21 : p2 ≠ p1 := Ne.symm (ne_of_none e1 hp2)
    generalize upd H1 p2 (.dK (mergeK [] (namesK e))) = H2 at S2 e2 ⊢
    refine ⟨sizeLine_ge (by show 2 ≤ 10000; decide), fun p3 hp3 => ?_⟩
    have S3 : Same H2 _ := same_new (o := .tup [.ref qT, .ref p2]) hp3
    have e3 : (upd H2 p3 (.tup [.ref qT, .ref p2])) p3 = some (.tup [.ref qT, .ref p2]) := upd_same
    generalize upd H2 p3 (.tup [.ref qT, .ref p2]) = H3 at S3 e3 ⊢
    have e13 : H3 p1 = some (.dK []) := S3 _ _ (S2 _ _ e1)
    refine ⟨e13, [(.inr (tx kn), .ref p3)], rfl, by show 1 ≤ 15; decide, ?_⟩
    have n31 : p3 ≠ p1 := ne_of e3 e13 (by intro z; cases z)
    have S4 : Same H (upd H3 p1 (.dK [(.inr (tx kn), .ref p3)])) := fun a o e => by
      rw [upd_ne (ne_of_none e hp1)]
      exact S3 _ _ (S2 _ _ (S1 _ _ e))
    have e4 : (upd H3 p1 (.dK [(.inr (tx kn), .ref p3)])) p1 = some (.dK [(.inr (tx kn), .ref p3)]) := upd_same
    have e43 : (upd H3 p1 (.dK [(.inr (tx kn), .ref p3)])) p3 = some (.tup [.ref qT, .ref p2]) := by
      rw [upd_ne n31]
      exact e3
    have e42 : (upd H3 p1 (.dK [(.inr (tx kn), .ref p3)])) p2 = some (.dK (mergeK [] (namesK e))) := by
      rw [upd_ne n21]
      exact S3 _ _ e2
    show tSeq _ _ _ _ (upd H3 p1 (.dK [(.inr (tx kn), .ref p3)]))
    generalize upd H3 p1 (.dK [(.inr (tx kn), .ref p3)]) = H4 at S4 e4 e43 e42 ⊢
    refine ⟨_, rfl, _, rfl, _, rfl, fun d hd r dxr hr0 hdr ner => ?_⟩
    have S5 : Same H4 _ := same_new (o := .dK []) hd
    have e5 : (upd H4 d (.dK [])) d = some (.dK []) := upd_same
    have nd1 : p1 ≠ d := ne_of_none e4 hd
    have nd2 : p2 ≠ d := ne_of_none e42 hd
    generalize upd H4 d (.dK []) = H5 at S5 e5 hr0 hdr ⊢
    have S6 : Same H5 (upd (upd H5 dxr (.own r)) r (.ins CR dxr [])) := (same_new hdr).trans (same_new (by rw [upd_ne (Ne.symm ner)]; exact hr0))
    have e6 : (upd (upd H5 dxr (.own r)) r (.ins CR dxr [])) r = some (.ins CR dxr []) := upd_same
    generalize upd (upd H5 dxr (.own r)) r (.ins CR dxr []) = H6 at S6 e6 ⊢
    have S46 := S5.trans S6
    have S06 := S4.trans S46
    have back : ∀ {H' : Hp} {a : Addr}, Same H H' → H' a = none → H a = none := fun {H' a} S ha => by
      cases h : H a with
      | none => rfl
      | some o =>
        rw [S _ _ h] at ha
        cases ha
    have hr00 : H r = none := back (S4.trans S5) hr0
    have hd00 : H d = none := back S4 hd
    have pk0 : PairK (fun v (k : U.Nm) => v = .str (tx k)) (mergeK [] (namesK e)) (putAll [] e) := PairK.merge (namesK_pair e) .nil
    refine ⟨Reg, r, dxr, p1, aG, d, p2, p3, qT, t, kn, [(.inr (tx kn), .ref p3)], mergeK [] (namesK e), putAll [] e, gvs, gots, n, Y, rfl, e6, ncr, ncw, S46 _ _ e4, (by show 1 ≤ 10; decide), (by first | exact valV_pos rfl | rfl), S46 _ _ e43, S46 _ _ e42, pk0, S6 _ _ e5, nd1, n21, nd2, ⟨R0.toTrees.same S06, R0.fit⟩, hT2, nreg _ hr00, fun a ha => nreg a (back S06 ha), lkn, sct, nod, le2, S06 _ _ hG, gv.keep (TupS.of S06), gok, by omega, ln, tale, fun Reg7 G7 H7 gs f7 p aL hR7 c7 hr7 gneeds gwalk hl mc7 fst7 he7 => ⟨rfl, ?_⟩⟩
    refine ⟨sizeLine_ge (by show 0 ≤ 10000; decide), fun m hm => ?_⟩
    have S8 : Same H7 _ := same_new (o := .lst []) hm
    have e8 : (upd H7 m (.lst [])) m = some (.lst []) := upd_same
    have mc8 := mc7.same S8
    generalize upd H7 m (.lst []) = H8 at S8 e8 mc8 ⊢
    have hr8 := S8 _ _ hr7
    have hl8 := S8 _ _ hl
    have k8 := TupS.of S8
    obtain ⟨dxp, fs, hp8, WF8, _, _⟩ := mc8.wk
    obtain ⟨kvs8, hS8, mv8, ls8⟩ := mc8.se
    have ml8 := mc8.ml
    have kn8 := mc8.kl
    refine ⟨_, rfl, r, CR, dxr, gs, _, rfl, hr8, TD.cl, TD.nwalk, gwalk, p, CW, dxp, fs, _, rfl, hp8, WC.cl, WC.nmade, WF8.made, _, _, rfl, rfl, 1, Y.made.length + 1, rfl, ⟨by decide, by decide, by omega, by omega⟩, ?_⟩
    have en : ((Y.made.length : Int) + 1 - 1).toNat = Y.made.length := by omega
    have lN := tale_len n tale
    simp only [List.length_nil] at lN
    have ed : (Str.ofString ".") = tx [46] := by decide +kernel
    have ee : (Str.empty : Str) = tx [] := by decide +kernel
    have lmr : (madeRows kn Y.made).length = Y.made.length := by simp [madeRows]
    refine for_range (fun i σ H' => ∃ d1 d2 d3 d4, σ = [some (.str (tx kn)), some (.ref pT), some (.ref aN), some (.ref aG), some (.ref p1), some (.ref r), some (.ref m), d1, d2, d3, d4] ∧ But m H8 H' ∧ ∃ as : List Addr, H' m = some (.lst (as.map V.ref)) ∧ Paired (MadeRowV H') as ((madeRows kn Y.made).take i)) ⟨_, _, _, _, rfl, fun a o e _ => e, [], e8, .nil⟩ (fun i σ H' hi h => ?_) (fun σ H' h => ?_)
    · obtain ⟨d1, d2, d3, d4, rfl, b9, as, hm9, pas⟩ := h
      have hi : i < Y.made.length := by omega
      obtain ⟨te, hte⟩ : ∃ te, Y.made[i]? = some te := ⟨_, List.getElem?_eq_getElem hi⟩
      obtain ⟨qm, pt, ev, hv1, hv2, hv3, hv4⟩ := mv8 i te hte
      obtain ⟨sc1, ft1⟩ := tg te (List.mem_of_getElem? hte)
      have al : as.length = i := by
        have h1 := pas.length
        rw [List.length_take] at h1
        omega
      have knm : ∀ {a : Addr} {o : HO}, H8 a = some o → (∀ l, o ≠ .lst l) → H' a = some o := fun {a o} e n => b9 _ _ e (ne_of e e8 (n _))
      obtain ⟨z, hz1, hz2⟩ : ∃ l, Str.ofString (toString ((1 : Int) + i)) = tx l ∧ l.length ≤ 13 := by
        obtain ⟨l, h1, h2⟩ := num_text (i := (1 : Int) + i) (by omega)
        exact ⟨l, h1, num_len13 h2⟩
      have em : Str.empty ++ tx kn ++ Str.ofString "." ++ Str.ofString (toString ((1 : Int) + i)) = tx (U.madeNm kn (i + 1)) := by
        rw [ee, ed, hz1, tx_app, tx_app, tx_app]
        unfold U.madeNm
        rw [show ((i + 1 : Nat) : Int) = (1 : Int) + i by omega, hz1]
        simp
      have e30 : (2 : Nat) ^ 30 = 1073741824 := by decide
      have lg : ((1 : Int) + i).natAbs.log2 < 1920 := Nat.lt_trans (PySem.Flt.log2_lt_of (k := 30) (by decide) (by omega)) (by decide)
      have l1 : (Str.empty ++ tx kn : Str).length ≤ sizeLine := by
        rw [ee, tx_app, tx_len]
        exact sizeLine_ge (by simp; omega)
      have l2 : (Str.empty ++ tx kn ++ Str.ofString "." : Str).length ≤ sizeLine := by
        rw [ee, ed, tx_app, tx_app, tx_len]
        exact sizeLine_ge (by simp; omega)
      have l3 : (Str.empty ++ tx kn ++ Str.ofString "." ++ Str.ofString (toString ((1 : Int) + i)) : Str).length ≤ sizeLine := by
        rw [ee, ed, hz1, tx_app, tx_app, tx_app, tx_len]
        exact sizeLine_ge (by simp; omega)
      refine ⟨_, rfl, .inl ⟨tx kn, rfl, by rw [tx_len]; exact sizeLine_ge (by omega), _, rfl, l1, _, rfl, l2, _, rfl, .inr ⟨_, rfl, lg, _, rfl, l3, ?_⟩⟩⟩
      refine ⟨_, rfl, ?_⟩
      erw [em]
      have hS9 := knm hS8 (by intro l z; cases z)
      obtain ⟨dx, tw, tf, cd, qs, ys, g⟩ := mc8.tr.node pt te.1 hv3
      have hq9 := knm hv2 (by intro l z; cases z)
      have hp9 := knm g.hp (by intro l z; cases z)
      have hf9 := knm g.hf (by intro l z; cases z)
      have ev9 : EnvV H' te.2 ev := by
        obtain ⟨a, kv, e1, _, e2, e3⟩ := hv4
        exact ⟨a, kv, e1, knm e2 (by intro l z; cases z), e3⟩
      refine ⟨_, rfl, p1, .ref qm, rfl, by rw [← hv1]; exact DGet.k (k := .inr _) hS9, qm, _, rfl, .inl (.inl hq9), rfl, _, _, rfl, _, _, rfl, rfl, ?_⟩
      refine ⟨_, rfl, .inl ⟨rfl, _, .inl (.inl hm9)⟩, _, rfl, _, rfl, pt, C, dx, _, _, rfl, hp9, TC.cl, TC.nt, tF_text _ _ _ _ _ _, _, rfl, _, rfl, pt, dx, tf, _, U.frs te.1, te.2, ev, rfl, hp9, tF_free _ _ _ _ _ _, by rw [← free_tup g.fr]; exact hf9, Nat.le_trans (frs_few ft1) (by decide), ev9, fun y hy => sc1 y ((frs_mem _ y).mp hy), fun rr H10 S10 rt10 => ⟨sizeLine_ge (by show 3 ≤ 10000; decide), fun qh hqh => ?_⟩⟩
      have S11 : Same H' _ := S10.trans (same_new (o := .tup [.str (tx (U.madeNm kn (i + 1))), .str (tx te.1.pr), .ref rr]) hqh)
      have e11 : (upd H10 qh (.tup [.str (tx (U.madeNm kn (i + 1))), .str (tx te.1.pr), .ref rr])) qh = some (.tup [.str (tx (U.madeNm kn (i + 1))), .str (tx te.1.pr), .ref rr]) := upd_same
      have rt11 := rt10.keep (TupS.of (same_new (o := .tup [.str (tx (U.madeNm kn (i + 1))), .str (tx te.1.pr), .ref rr]) hqh))
      generalize upd H10 qh (.tup [.str (tx (U.madeNm kn (i + 1))), .str (tx te.1.pr), .ref rr]) = H11 at S11 e11 rt11 ⊢
      have hm11 := S11 _ _ hm9
      refine ⟨m, _, _, rfl, rfl, hm11, by rw [sizeLine_eq, List.length_map]; omega, ?_⟩
      have k12 : TupS H11 (upd H11 m (.lst (as.map V.ref ++ [.ref qh]))) := fun a l e => by
        rw [upd_ne (ne_of e hm11 (by intro z; cases z))]
        exact e
      refine ⟨_, _, _, _, rfl, fun a o e na => ?_, as ++ [qh], ?_, ?_⟩
      · rw [upd_ne na]
        exact S11 _ _ (b9 _ _ e na)
      · rw [upd_same, List.map_append]
        rfl
      · have er : (madeRows kn Y.made)[i]? = some (madeRow kn i te) := by
          simp [madeRows, List.getElem?_mapIdx, hte]
        rw [List.take_succ, er]
        exact Paired.app (Paired.mapP pas fun _ _ h => (h.keep (TupS.of S11)).keep k12) (.cons ⟨rr, k12 _ _ e11, rt11.keep k12⟩ .nil)
    · obtain ⟨d1, d2, d3, d4, rfl, b9, as, hm9, pas⟩ := h
      rw [en, List.take_of_length_le (by omega)] at pas
      have al : as.length = Y.made.length := by rw [pas.length, lmr]
      have nl : aL ≠ m := by
        intro z
        rw [z] at hl
        rw [hm] at hl
        cases hl
      have hr9 := b9 _ _ hr8 (ne_of hr8 e8 (by intro z; cases z))
      have hp9 := b9 _ _ hp8 (ne_of hp8 e8 (by intro z; cases z))
      have hl9 := b9 _ _ hl8 nl
      have he9 : OHdV H' Y.end_ f7.en := (he7.keep k8).keep fun a l e => b9 _ _ e (ne_of e e8 (by intro z; cases z))
      have fsteps := WF8.steps
      rw [fst7] at fsteps
      refine ⟨_, rfl, r, CR, dxr, gs, _, rfl, hr9, TD.cl, TD.nneeds, gneeds, _, rfl, r, CR, dxr, gs, _, rfl, hr9, TD.cl, TD.nwalk, gwalk, p, CW, dxp, fs, _, rfl, hp9, WC.cl, WC.nsteps, fsteps, _, rfl, _, rfl, r, CR, dxr, gs, _, rfl, hr9, TD.cl, TD.nwalk, gwalk, p, CW, dxp, fs, _, rfl, hp9, WC.cl, WC.nend, WF8.end_, fun x dx hx hdx ne => ?_⟩
      have S9 : Same H' (upd (upd H' dx (.own x)) x (.ins CS dx [])) := (same_new hdx).trans (same_new (by rw [upd_ne (Ne.symm ne)]; exact hx))
      have e9 : (upd (upd H' dx (.own x)) x (.ins CS dx [])) x = some (.ins CS dx []) := upd_same
      generalize upd (upd H' dx (.own x)) x (.ins CS dx []) = H9 at S9 e9 ⊢
      refine ⟨x, dx, aL, m, _, _, _, f7.en, rfl, e9, S9 _ _ hl9, S9 _ _ hm9, by rw [strsV, List.length_map]; omega, by rw [List.length_map]; omega, fun l1 l2 H10 b10 hx10 h1 h2 n1 n2 => ⟨rfl, ?_⟩⟩
      have k10 : TupS H9 H10 := fun a l e => b10 a _ e (ne_of e e9 (by intro z; cases z))
      have kd : ∀ a t, Reg7 a t → ∀ o, H7 a = some o → H10 a = some o := fun a t g o e => by
        have e8' := S8 _ _ e
        have na : a ≠ m := fun z => by rw [z, hm] at e; cases e
        exact b10 _ _ (S9 _ _ (b9 _ _ e8' na)) (ne_of_none (b9 _ _ e8' na) hx)
      have k710 : TupS H7 H10 := ((k8.trans fun a l e => b9 _ _ e (ne_of e e8 (by intro z; cases z))).trans (TupS.of S9)).trans k10
      have R10 : Regs C Reg7 H10 := mc7.tr.but k710 kd
      refine fin Reg7 H10 x hR7 R10 (fun a ha t g => ?_) (fun a o e nt => ?_) ⟨dx, l1, l2, f7.en, as, hx10, h1, h2, Paired.mapP pas fun _ _ h => (h.keep (TupS.of S9)).keep k10, (he9.keep (TupS.of S9)).keep k10⟩
      · obtain ⟨dx', tw, tf, cd, qs, ys, g'⟩ := mc7.tr.node a t g
        have := kd a t g _ g'.hp
        rw [ha] at this
        cases this
      have hp10 : H p1 = none := hp1
      have g7 := c7 a o (S06 _ _ e) (ne_of_none e hr00) (ne_of_none e hp10) (ne_of_none e hd00) nt
      have g8 := S8 _ _ g7
      have nm : a ≠ m := fun z => by rw [z, hm] at g7; cases g7
      exact b10 _ _ (S9 _ _ (b9 _ _ g8 nm)) (ne_of_none (b9 _ _ g8 nm) hx)
theorem ok_walkedG {f f1 f2 f3 f4 C CT CS CW CR : Addr} {fd fd1 fd2 fd3 fd4 : FuncData} (F : Fun K "walked" "walked" s_walked f fd) (ncr : CR ≠ C) (ncw : CW ≠ C) (TC : TreeC K C) (MC : TermC K CT) (WC : WalkC K CW) (TD : ToldC K CR) (hTr : HasW P w K mg base CT "tree" 1 ["self"] (spTermTree CT) f1 fd1)
    (m_Told : HasC P w K mg base "Told" CR 37 ["self", "knot", "senses", "gots", "bodies"] (spToldInitG C CR CW) f2 fd2) (m_Walk : HasC P w K mg base "Walk" CS 1 ["self", "needs", "steps", "made", "end"] (spSeenInit CS) f3 fd3)
    (h_names_for : Has P w K mg base "names_for" 1 ["tree", "names"] (spNamesFor C) f4 fd4) : FnOk P w K mg base CX0 39 f fd ["knot", "term", "names", "gots"] (spWalkedG C CT CS) := by
  refine FnOk.weak (ok_walkedR T N F ncr ncw TC MC WC TD hTr m_Told m_Walk h_names_for) fun vs H Q E h => ?_
  obtain ⟨t, kn, pT, aN, aG, o, ps, e, gvs, gots, n, Y, rfl, hT, ⟨N0, ft⟩, lkn, hN, po, hps, le, sct, hG, gv, gok, gl, ln, tale, fin⟩ := h
  obtain ⟨dT, qT, rT, qsT, zsT, hT1, hT2, _⟩ := hT
  refine ⟨RegX C (fun _ _ => False) H, t, kn, pT, aN, aG, o, ps, e, gvs, gots, n, Y, rfl, Regs.ext ⟨⟨fun p t t' r => r.elim, fun p t r => r.elim⟩, fun p t r => r.elim⟩, fun a ha t g => ?_, ⟨dT, qT, rT, hT1, .inr ⟨⟨hT2, ft.ok⟩, N0, ft⟩⟩, lkn, hN, po, hps, le, sct, hG, gv, gok, gl, ln, tale, fun Reg' H' p _ _ _ k sv => fin H' p k sv⟩
  rcases g with g | g
  · exact g
  · obtain ⟨dx, fs, e⟩ := g.1.some
    rw [ha] at e
    cases e
end
end K


set_option Elab.async false
set_option linter.all false
set_option maxRecDepth 100000
set_option maxHeartbeats 4000000
/-! terms that fit, names that are bound: decided -/
namespace U
def numB (l : List Nat) : Bool := match l with
  | [48] => true
  | 45 :: d :: ds => figs1.contains d && decide (ds.length ≤ 11) && ds.all figs.contains
  | d :: ds => figs1.contains d && decide (ds.length ≤ 11) && ds.all figs.contains
  | [] => false
theorem contains_mem {l : List Nat} {x : Nat} (h : l.contains x = true) : x ∈ l := by simpa using h
theorem numB_ok {l : List Nat} (h : numB l = true) : NumOk l := by
  unfold numB at h
  split at h
  · exact .inl rfl
  · rename_i d ds
    simp only [Bool.and_eq_true, decide_eq_true_eq, List.all_eq_true] at h
    exact .inr ⟨d, ds, .inr rfl, contains_mem h.1.1, h.1.2, fun c hc => contains_mem (h.2 c hc)⟩
  · rename_i d ds _ _
    simp only [Bool.and_eq_true, decide_eq_true_eq, List.all_eq_true] at h
    exact .inr ⟨d, ds, .inl rfl, contains_mem h.1.1, h.1.2, fun c hc => contains_mem (h.2 c hc)⟩
  · cases h
def smallB (l : List Nat) : Bool := decide (1 ≤ l.length) && decide (l.length ≤ 4) && l.all smalls.contains
theorem smallB_ok {l : List Nat} (h : smallB l = true) : SmallOk l := by
  simp only [smallB, Bool.and_eq_true, decide_eq_true_eq, List.all_eq_true] at h
  exact ⟨h.1.1, h.1.2, fun c hc => contains_mem (h.2 c hc)⟩
def greatB (l : List Nat) : Bool := decide (1 ≤ l.length) && decide (l.length ≤ 6) && l.all greats.contains
theorem greatB_ok {l : List Nat} (h : greatB l = true) : GreatOk l := by
  simp only [greatB, Bool.and_eq_true, decide_eq_true_eq, List.all_eq_true] at h
  exact ⟨h.1.1, h.1.2, fun c hc => contains_mem (h.2 c hc)⟩
def bndB (w : Wd) (b : List Nat) : Bool := if w.bd = true then smallB b else b.isEmpty
theorem bndB_ok {w : Wd} {b : List Nat} (h : bndB w b = true) : BndOk w b := by
  unfold bndB at h
  unfold BndOk
  split
  · rename_i e
    rw [if_pos e] at h
    exact smallB_ok h
  · rename_i e
    rw [if_neg e] at h
    exact List.isEmpty_iff.mp h
def okB : Tm → Bool
  | .atom .num l => numB l
  | .atom .name l => smallB l
  | .atom .part l => greatB l
  | .n1 w b x => decide (w.ar = 1) && bndB w b && okB x
  | .n2 w b x y => decide (w.ar = 2) && bndB w b && okB x && okB y
  | .n3 w b x y z => decide (w.ar = 3) && bndB w b && okB x && okB y && okB z
theorem okB_ok : ∀ {t : Tm}, okB t = true → t.Ok
  | .atom .num l, h => numB_ok h
  | .atom .name l, h => smallB_ok h
  | .atom .part l, h => greatB_ok h
  | .n1 w b x, h => by
    simp only [okB, Bool.and_eq_true, decide_eq_true_eq] at h
    exact ⟨h.1.1, bndB_ok h.1.2, okB_ok h.2⟩
  | .n2 w b x y, h => by
    simp only [okB, Bool.and_eq_true, decide_eq_true_eq] at h
    exact ⟨h.1.1.1, bndB_ok h.1.1.2, okB_ok h.1.2, okB_ok h.2⟩
  | .n3 w b x y z, h => by
    simp only [okB, Bool.and_eq_true, decide_eq_true_eq] at h
    exact ⟨h.1.1.1.1, bndB_ok h.1.1.1.2, okB_ok h.1.1.2, okB_ok h.1.2, okB_ok h.2⟩
def namesOf : Tm → List Nm
  | .atom .name l => [l]
  | .atom _ _ => []
  | .n1 _ _ x => namesOf x
  | .n2 _ _ x y => namesOf x ++ namesOf y
  | .n3 _ _ x y z => namesOf x ++ (namesOf y ++ namesOf z)
theorem names_mono {N M : List Nat → Prop} (h : ∀ l, N l → M l) : ∀ {t : Tm}, t.Names N → t.Names M
  | .atom _ _, g => fun e => h _ (g e)
  | .n1 _ _ x, g => names_mono (t := x) h g
  | .n2 _ _ _ _, g => ⟨names_mono h g.1, names_mono h g.2⟩
  | .n3 _ _ _ _ _, g => ⟨names_mono h g.1, names_mono h g.2.1, names_mono h g.2.2⟩
theorem names_of : ∀ t : Tm, t.Names (fun l => l ∈ namesOf t)
  | .atom .name l => fun _ => List.mem_singleton.mpr rfl
  | .atom .num l => fun e => by cases e
  | .atom .part l => fun e => by cases e
  | .n1 _ _ x => names_of x
  | .n2 _ _ x y => ⟨names_mono (fun l h => List.mem_append.mpr (.inl h)) (names_of x), names_mono (fun l h => List.mem_append.mpr (.inr h)) (names_of y)⟩
  | .n3 _ _ x y z => ⟨names_mono (fun l h => List.mem_append.mpr (.inl h)) (names_of x), names_mono (fun l h => List.mem_append.mpr (.inr (List.mem_append.mpr (.inl h)))) (names_of y), names_mono (fun l h => List.mem_append.mpr (.inr (List.mem_append.mpr (.inr h)))) (names_of z)⟩
end U
namespace K
open PySem PySem.Spec PyProof.Rows L2 U
def fitB (t : U.Tm) : Bool := U.okB t && decide (t.pr.length ≤ 9000) && decide (t.size ≤ 200) && decide (t.depth ≤ 30) && decide ((U.namesOf t).eraseDups.length < 64)
theorem fitB_ok {t : U.Tm} (h : fitB t = true) : ∃ N, Fit t N := by
  simp only [fitB, Bool.and_eq_true, decide_eq_true_eq] at h
  obtain ⟨⟨⟨⟨h1, h2⟩, h3⟩, h4⟩, h5⟩ := h
  refine ⟨(U.namesOf t).eraseDups.map tx, sizeLine_ge (by omega), U.okB_ok h1, h3, h4, by rw [List.length_map]; exact h5, U.names_mono (fun l hl => ?_) (U.names_of t)⟩
  exact List.mem_map.mpr ⟨l, List.mem_eraseDups.mpr hl, rfl⟩
def scB (t : U.Tm) (e : U.En) : Bool := (U.frs t).all fun l => (getR e l).isSome
theorem scB_ok {t : U.Tm} {e : U.En} (h : scB t e = true) : ScT t e := fun l hl => by
  have := List.all_eq_true.mp h l ((frs_mem t l).mpr hl)
  exact Option.isSome_iff_exists.mp this
def hdB : U.Hd → Bool
  | .dfn x b ns => fitB b && decide (ns.length ≤ 1000) && (U.frs b).all fun l => decide (l = x) || (getR ns l).isSome
  | _ => true
theorem hdB_ok {h : U.Hd} (g : hdB h = true) : HdOk h := by
  cases h with
  | dfn x b ns =>
    simp only [hdB, Bool.and_eq_true, decide_eq_true_eq] at g
    refine ⟨fitB_ok g.1.1, g.1.2, fun l hl ne => ?_⟩
    have := List.all_eq_true.mp g.2 l ((frs_mem b l).mpr hl)
    rw [Bool.or_eq_true] at this
    rcases this with h | h
    · exact absurd (of_decide_eq_true h) ne
    · exact Option.isSome_iff_exists.mp h
  | _ => trivial
end K

set_option Elab.async false
set_option linter.all false
set_option maxRecDepth 100000
set_option maxHeartbeats 4000000
/-! data of texts, compared -/
namespace U
open PySem PySem.Spec PyProof.Rows L2
/-- a text of signs that Python's texts have -/
def Asc (x : Str) : Prop := ∀ c ∈ x.cps.toList, c < 128
theorem Asc.ok {x : Str} (h : Asc x) : PyData.strOk x = true := by
  unfold PyData.strOk
  rw [Array.all_eq_true_iff_forall_mem]
  intro c hc
  have := h c (by simpa using hc)
  exact decide_eq_true (Nat.lt_trans this (by decide))
theorem Asc.tx {l : List Nat} (h : ∀ c ∈ l, c < 128) : Asc (tx l) := fun c hc => h c (by simpa using hc)
theorem asc_smalls : ∀ c ∈ smalls, c < 128 := by decide
theorem asc_greats : ∀ c ∈ greats, c < 128 := by decide
theorem asc_figs : ∀ c ∈ figs, c < 128 := by decide
theorem asc_figs1 : ∀ c ∈ figs1, c < 128 := by decide
theorem asc_hd {w : Wd} {b : List Nat} (h : BndOk w b) : ∀ c ∈ hd w b, c < 128 := by
  have e : ∀ c ∈ w.cs, c < 128 := by cases w <;> decide
  intro c hc
  unfold hd at hc
  unfold BndOk at h
  rcases List.mem_append.mp hc with hc | hc
  · rcases List.mem_cons.mp hc with rfl | hc
    · decide
    · exact e c hc
  · cases hb : w.bd with
    | true =>
      rw [hb] at hc h
      simp only [if_true] at hc h
      rcases List.mem_cons.mp hc with rfl | hc
      · decide
      · exact asc_smalls c (h.2.2 c hc)
    | false =>
      rw [hb] at hc
      simp at hc
def AL (l : List Nat) : Prop := ∀ c ∈ l, c < 128
theorem al_nil : AL [] := fun c h => by simp at h
theorem al_app {a b : List Nat} (h1 : AL a) (h2 : AL b) : AL (a ++ b) := fun c h => (List.mem_append.mp h).elim (h1 c) (h2 c)
theorem al_cons {x : Nat} {l : List Nat} (h1 : x < 128) (h2 : AL l) : AL (x :: l) := fun c h => by
  rcases List.mem_cons.mp h with h | h
  · rw [h]
    exact h1
  · exact h2 c h
theorem asc_num {l : List Nat} (h : NumOk l) : AL l := by
  rcases h with rfl | ⟨d, ds, e, h1, _, h3⟩
  · exact al_cons (by decide) al_nil
  · have h : AL (d :: ds) := al_cons (asc_figs1 _ h1) fun c hc => asc_figs _ (h3 c hc)
    rcases e with rfl | rfl
    · exact h
    · exact al_cons (by decide) h
theorem asc_pr : ∀ k : Tm, k.Ok → AL k.pr
  | .atom .num l, h => asc_num h
  | .atom .name l, h => fun c hc => asc_smalls c ((show SmallOk l from h).2.2 c hc)
  | .atom .part l, h => fun c hc => asc_greats c ((show GreatOk l from h).2.2 c hc)
  | .n1 w b x, h => al_app (al_app (asc_hd h.2.1) (al_cons (by decide) (asc_pr x h.2.2))) (al_cons (by decide) al_nil)
  | .n2 w b x y, h => al_app (al_app (asc_hd h.2.1) (al_app (al_cons (by decide) (asc_pr x h.2.2.1)) (al_cons (by decide) (asc_pr y h.2.2.2)))) (al_cons (by decide) al_nil)
  | .n3 w b x y z, h => al_app (al_app (asc_hd h.2.1) (al_app (al_app (al_cons (by decide) (asc_pr x h.2.2.1)) (al_cons (by decide) (asc_pr y h.2.2.2.1))) (al_cons (by decide) (asc_pr z h.2.2.2.2)))) (al_cons (by decide) al_nil)
theorem canLay_strs : ∀ xs : List Str, (∀ x ∈ xs, Asc x) → PyData.canLayAll0 (xs.map PyData.str) = true
  | [], _ => rfl
  | x :: xs, h => by
    rw [List.map_cons, PyData.canLayAll0, canLay_strs xs fun y hy => h y (List.mem_cons_of_mem _ hy), Bool.and_true]
    have := h x List.mem_cons_self
    rw [PyData.canLay0]
    exact this.ok
theorem depth_strs : ∀ xs : List Str, PyData.depthAll (xs.map PyData.str) ≤ 1
  | [] => by simp [PyData.depthAll]
  | x :: xs => by
    have := depth_strs xs
    simp only [List.map_cons, PyData.depthAll, PyData.depth]
    omega
theorem shaped_strs {xs : List Str} (h : ∀ x ∈ xs, Asc x) : SeqAt.shaped (.list (xs.map PyData.str)) = true := by
  have := depth_strs xs
  simp only [SeqAt.shaped, PyData.canLay0, canLay_strs xs h, Bool.true_and]
  refine decide_eq_true ?_
  simp only [PyData.depth]
  omega
theorem dpAll_strs {K : PySem.W.Frag} {H : Hp} : ∀ xs : List Str, DpAll K H (xs.map V.str) (xs.map PyData.str)
  | [] => .nil
  | x :: xs => .cons (.str x) (dpAll_strs xs)
theorem eqvAll_strs : ∀ xs ys : List Str, PyData.eqvAll (xs.map PyData.str) (ys.map PyData.str) = decide (xs = ys)
  | [], [] => by simp [PyData.eqvAll]
  | [], y :: ys => by simp [PyData.eqvAll]
  | x :: xs, [] => by simp [PyData.eqvAll]
  | x :: xs, y :: ys => by
    rw [List.map_cons, List.map_cons, PyData.eqvAll, eqvAll_strs xs ys, PyData.eqv]
    rw [Bool.eq_iff_iff]
    simp
end U

set_option Elab.async false
set_option linter.all false
set_option maxRecDepth 100000
set_option maxHeartbeats 4000000
/-! what is seen of a walk, as data -/
namespace K
open PySem PySem.Spec PyProof.Rows L2 U
def dStr (x : U.Nm) : PyData := .str (tx x)
def dEn (e : U.En) : PyData := .tuple (e.map fun r => .tuple [dStr r.1, dStr r.2])
def dHd : U.Hd → PyData
  | .num n => .tuple [dStr numberW, .int n]
  | .pair x y => .tuple [dStr pairW, dStr x, dStr y]
  | .dfn x t ns => .tuple [dStr defW, dStr x, dStr t.pr, dEn ns]
  | .fault w k => .tuple [dStr faultW, dStr w, dStr k]
  | .ring ks => .tuple [dStr ringW, .tuple (ks.map dStr)]
  | .waits p => .tuple [dStr waitsW, dStr p]
def dOHd : Option U.Hd → PyData
  | none => .none
  | some h => dHd h
def dStrs (l : List U.Nm) : PyData := .list (l.map dStr)
def dRow (r : U.Nm × U.Nm × U.En) : PyData := .tuple [dStr r.1, dStr r.2.1, dEn r.2.2]
def dMade (l : List (U.Nm × U.Nm × U.En)) : PyData := .list (l.map dRow)
/-- needs, steps, made, end -/
def dQ (needs : List U.Nm) (steps : Nat) (made : List (U.Nm × U.Nm × U.En)) (e : Option U.Hd) : PyData := .tuple [dStrs needs, .int steps, dMade made, dOHd e]
section
variable {K : PySem.W.Frag} {H : Hp}
theorem dpAll_of {α : Type} {R : Addr → α → Prop} {f : α → PyData} (g : ∀ q r, R q r → Dp K H (.ref q) (f r)) : ∀ {qs : List Addr} {rs : List α}, Paired R qs rs → DpAll K H (qs.map V.ref) (rs.map f)
  | _, _, .nil => .nil
  | _, _, .cons h t => .cons (g _ _ h) (dpAll_of g t)
theorem dpAll_nm : ∀ l : List U.Nm, DpAll K H (l.map fun x => V.str (tx x)) (l.map dStr)
  | [] => .nil
  | x :: l => .cons (.str _) (dpAll_nm l)
theorem dp_en {e : U.En} {a : Addr} (h : RowsT H e a) : Dp K H (.ref a) (dEn e) := by
  obtain ⟨qs, h1, h2⟩ := h
  exact .tup (.inl (.inl h1)) (dpAll_of (f := fun r : U.Nm × U.Nm => PyData.tuple [dStr r.1, dStr r.2]) (fun q r h => .tup (.inl (.inl h)) (.cons (.str (tx r.1)) (.cons (.str (tx r.2)) .nil))) h2)
theorem dp_hd {h : U.Hd} {v : V} (g : HdV H h v) : Dp K H v (dHd h) := by
  cases h with
  | num n => obtain ⟨a, rfl, h, _⟩ := g; exact .tup (.inl (.inl h)) (.cons (.str _) (.cons (.int _) .nil))
  | pair x y => obtain ⟨a, rfl, h⟩ := g; exact .tup (.inl (.inl h)) (.cons (.str _) (.cons (.str _) (.cons (.str _) .nil)))
  | dfn x t ns => obtain ⟨a, r, rfl, h, e⟩ := g; exact .tup (.inl (.inl h)) (.cons (.str _) (.cons (.str _) (.cons (.str _) (.cons (dp_en e) .nil))))
  | fault w q => obtain ⟨a, rfl, h⟩ := g; exact .tup (.inl (.inl h)) (.cons (.str _) (.cons (.str _) (.cons (.str _) .nil)))
  | ring ks => obtain ⟨a, r, rfl, h, e⟩ := g; exact .tup (.inl (.inl h)) (.cons (.str _) (.cons (.tup (.inl (.inl e)) (dpAll_nm ks)) .nil))
  | waits p => obtain ⟨a, rfl, h⟩ := g; exact .tup (.inl (.inl h)) (.cons (.str _) (.cons (.str _) .nil))
theorem dp_ohd {h : Option U.Hd} {v : V} (g : OHdV H h v) : Dp K H v (dOHd h) := by
  cases h with
  | none =>
    cases (show v = .non from g)
    exact .non
  | some h => exact dp_hd g
theorem dp_strs {l : List U.Nm} {a : Addr} (h : H a = some (.lst (strsV l))) : Dp K H (.ref a) (dStrs l) := .lst (.inl (.inl h)) (dpAll_nm l)
theorem dp_made {l : List (U.Nm × U.Nm × U.En)} {a : Addr} {qs : List Addr} (h : H a = some (.lst (qs.map V.ref))) (p : Paired (MadeRowV H) qs l) : Dp K H (.ref a) (dMade l) :=
  .lst (.inl (.inl h)) (dpAll_of (f := dRow) (fun q r h => by
    obtain ⟨a, h1, h2⟩ := h
    exact .tup (.inl (.inl h1)) (.cons (.str _) (.cons (.str _) (.cons (dp_en h2) .nil)))) p)
end
/-- what is seen, by its fields -/
theorem SeenV.keep {kn : U.Nm} {CS : Addr} {H H' : Hp} {p : Addr} {Y : U.Tale} (s : Same H H') (h : SeenV kn CS H p Y) : SeenV kn CS H' p Y := by
  obtain ⟨dx, l1, l2, ev, as, h1, h2, h3, h4, h5⟩ := h
  exact ⟨dx, l1, l2, ev, as, s _ _ h1, s _ _ h2, s _ _ h3, Paired.mapP h4 fun _ _ h => h.keep (TupS.of s), h5.keep (TupS.of s)⟩
section
variable (a b c d : V)
theorem seen_needs : (seenF a b c d).lookup ("needs" : Str) = some a := by
  unfold seenF
  rw [lookup_putF, if_neg (by decide +kernel), lookup_putF, if_neg (by decide +kernel), lookup_putF, if_neg (by decide +kernel), lookup_putF, if_pos rfl]
theorem seen_steps : (seenF a b c d).lookup ("steps" : Str) = some b := by
  unfold seenF
  rw [lookup_putF, if_neg (by decide +kernel), lookup_putF, if_neg (by decide +kernel), lookup_putF, if_pos rfl]
theorem seen_made : (seenF a b c d).lookup ("made" : Str) = some c := by
  unfold seenF
  rw [lookup_putF, if_neg (by decide +kernel), lookup_putF, if_pos rfl]
theorem seen_end : (seenF a b c d).lookup ("end" : Str) = some d := by
  unfold seenF
  rw [lookup_putF, if_pos rfl]
end
end K

set_option Elab.async false
set_option linter.all false
set_option maxRecDepth 100000
set_option maxHeartbeats 4000000
set_option pp.maxSteps 2000
namespace K
open PySem PySem.Spec PyProof.Rows L2 U SkE
/-- a purse: digits left and 0, or what is mixed and how often -/
def Purse2 (H : Hp) (p : Addr) (c : Int) : Prop := ∃ a b, H p = some (.lst [.int a, .int b]) ∧ 0 ≤ a ∧ 0 ≤ b ∧ b ≤ c ∧ (b ≠ 0 → a < 2147483647)
theorem Purse2.mono {H : Hp} {p : Addr} {c d : Int} (h : Purse2 H p c) (l : c ≤ d) : Purse2 H p d := by
  obtain ⟨a, b, h1, h2, h3, h4, h5⟩ := h
  exact ⟨a, b, h1, h2, h3, Int.le_trans h4 l, h5⟩
theorem Purse2.same {H H' : Hp} {p : Addr} {c : Int} (h : Purse2 H p c) (s : Same H H') : Purse2 H' p c := by
  obtain ⟨a, b, h1, h2⟩ := h
  exact ⟨a, b, s _ _ h1, h2⟩
theorem Purse2.ne {H : Hp} {p q : Addr} {c : Int} (h : Purse2 H p c) (hq : H q = none) : p ≠ q := by
  obtain ⟨a, b, h1, _⟩ := h
  exact ne_of_none h1 hq
def spPurse2 (K : PySem.W.Frag) : Sp := fun vs H Q _ => ∃ (l : Addr) (ns : List Int) (i : Nat), vs = [.ref l, .int i] ∧ SqL K H l (ns.map V.int) ∧ i ≤ 100 ∧ ∀ p H', H p = none → Same H H' → Purse2 H' p 1 → Q (.ref p) H'
def spTake2 : Sp := fun vs H Q _ => ∃ (p : Addr) (m c : Int), vs = [.ref p, .int m] ∧ Purse2 H p c ∧ c < 2 ^ 40 ∧ 0 < m ∧ m < 2 ^ 29 ∧
  ∀ r H', 0 ≤ r → r < m → Purse2 H' p (c + 1) → But p H H' → Q (.int r) H'
section
variable {P : Program} {w : World} {K : PySem.W.Frag} {mg : Str → Option Value} {base : Heap} {dW dB : Addr} {esW : Array DictEntry} {nW : Nat} (T : Txt K mg w dW dB esW nW)
include T
theorem ok__law_purse2 {f : Addr} {fd : FuncData} (F : Fun K "_law_purse" "_law_purse" s__law_purse f fd) : FnOk P w K mg base CX0 1 f fd ["_law_script", "_law_at"] (spPurse2 K) := by
  refine F.ok sc__law_purse (fun vs H Q E h => ?_) (fun cdv A outer s H vs Q E hr h => ?_)
  · obtain ⟨l, ns, i, rfl, _⟩ := h
    rfl
  · obtain ⟨l, ns, i, rfl, hl, hi, q⟩ := h
    refine ⟨_, (pss_cons (ps_set (i := 2) sc__law_purse.nd rfl (.inl rfl) pe_int)
      (pss_cons (ps_if (pt_cmpR op_lt (pv 1) (pe_callB call_len_seq (by rfl) T.z_len (by decide +kernel) (pa_cons (pv 0) pa_nil)) (nomark _)) 
        (pss_one (ps_set (i := 2) sc__law_purse.nd rfl (.inl rfl) (pe_op op_mod (pe_callB call_abs (by rfl) T.z_abs (by decide +kernel) (pa_cons (pe_ix ix_list (pv 0) (pv 1) (fun _ _ => rfl)) pa_nil)) (pe_op op_mulW (pe_op op_mulW (pe_op op_powW pe_int pe_int) (pe_op op_powW pe_int pe_int)) (pe_op op_powW pe_int pe_int))))) pss_nil)
      (pss_cons (ps_if (pt_cmpR op_ge (pv 2) (pe_op op_powW pe_int pe_int) (nomark _)) 
        (pss_one (ps_ret (pe_lst (pa_cons (pv 2) (pa_cons pe_int pa_nil))))) pss_nil)
      (pss_cons (ps_set (i := 3) sc__law_purse.nd rfl (.inl rfl) (pe_op op_mod (pe_op op_add (pe_op op_add (pv 2) (pe_op op_mul pe_int (pv 1))) pe_int) pe_int))
      (pss_cons (ps_for PassesOwn.never rfl (pi_range1 (by rfl) T.z_range (pa_cons (pe_callB (call_min2 rfl) (by rfl) T.z_min (by decide +kernel) (pa_cons (pe_callB call_len_seq (by rfl) T.z_len (by decide +kernel) (pa_cons (pv 0) pa_nil)) (pa_cons pe_int pa_nil))) pa_nil)) (pg_name (i := 4) sc__law_purse.nd rfl (.inl rfl)) 
        (pss_one (ps_set (i := 3) sc__law_purse.nd rfl (.inl rfl) (pe_op op_mod (pe_op op_add (pe_op op_add (pe_op op_powW (pv 3) pe_int) (pe_op op_mod (pe_ix ix_list (pv 0) (pv 4) (fun _ _ => rfl)) pe_int)) (pe_op op_mul pe_int (pv 4))) pe_int))))
      (pss_one (ps_ret (pe_lst (pa_cons (pv 3) (pa_cons pe_int pa_nil)))))))))), ?_⟩
    refine ⟨_, rfl, _, rfl, l, _, rfl, .inl hl, _, _, rfl, rfl, _, rfl, ite2 (fun h => ?_) (fun h => ?_)⟩
    · have h := of_decide_eq_true h
      have h2 : i < ns.length := by
        rw [List.length_map] at h
        omega
      have h3 : (ns.map V.int)[i]? = some (.int ns[i]) := by
        rw [List.getElem?_map, List.getElem?_eq_getElem h2]
        rfl
      refine ⟨_, rfl, _, rfl, l, _, _, _, rfl, rfl, hl, atI_nat h3, _, rfl, _, _, rfl, rfl, ⟨by decide, by decide, by decide +kernel⟩, _, _, rfl, rfl, ⟨by decide, by decide, by decide +kernel⟩, _, _, rfl, rfl, (by unfold CMulW; decide +kernel), _, _, rfl, rfl, ⟨by decide, by decide, by decide +kernel⟩, _, _, rfl, rfl, (by unfold CMulW; decide +kernel), _, _, rfl, rfl, (by show (0 : Int) < _; decide +kernel), ?_⟩
      refine ⟨_, rfl, _, _, rfl, rfl, ⟨by decide, by decide, by decide +kernel⟩, _, _, rfl, rfl, _, rfl, ite2 (fun h2 => ?_) (fun h2 => ?_)⟩
      · exact ⟨_, rfl, sizeLine_ge (by show 2 ≤ 10000; decide), fun p hp => q p _ hp (same_new hp) ⟨_, 0, upd_same, Int.emod_nonneg _ (by decide +kernel), Int.le_refl _, by decide, fun z => absurd rfl z⟩⟩
      · refine ⟨_, rfl, _, rfl, _, _, rfl, rfl, .inl ⟨by decide, by decide⟩, _, _, rfl, rfl, _, _, rfl, rfl, _, _, rfl, rfl, (by show (0 : Int) < _; decide +kernel), ?_⟩
        refine ⟨_, rfl, l, _, rfl, .inl hl, _, _, rfl, _, rfl, ?_, ?_, for_range (fun i' σ H' => ∃ (x : Int) (x2 x4 : Option V), σ = [some (.ref l), some (.int i), x2, some (.int x), x4] ∧ 0 ≤ x ∧ x < 2147483647 ∧ H' = H) ⟨_, _, _, rfl, Int.emod_nonneg _ (by decide), Int.emod_lt_of_pos _ (by decide), rfl⟩ (fun j σ H' hj hW => ?_) (fun σ H' hW => ?_)⟩
        · split <;> omega
        · split <;> omega
        · obtain ⟨x, x2, x4, rfl, hx0, hx1, rfl⟩ := hW
          have hj2 : j < ns.length := by
            rw [List.length_map] at hj
            split at hj <;> omega
          have hj3 : (ns.map V.int)[j]? = some (.int ns[j]) := by
            rw [List.getElem?_map, List.getElem?_eq_getElem hj2]
            rfl
          have hx2 : x.natAbs < 2 ^ 1000 := Nat.lt_of_lt_of_le (show x.natAbs < 2147483647 by omega) (by decide +kernel)
          refine ⟨_, rfl, _, _, rfl, rfl, ⟨by decide, by decide, hx2⟩, _, rfl, _, rfl, l, _, _, _, rfl, rfl, hl, (by rw [Int.zero_add]; exact atI_nat hj3), _, _, rfl, rfl, (by show (0 : Int) < _; decide +kernel), _, _, rfl, rfl, _, rfl, _, _, rfl, rfl, .inl ⟨by decide, by decide⟩, _, _, rfl, rfl, _, _, rfl, rfl, (by show (0 : Int) < _; decide +kernel), ?_⟩
          exact ⟨_, _, _, rfl, Int.emod_nonneg _ (by decide), Int.emod_lt_of_pos _ (by decide), rfl⟩
        · obtain ⟨x, x2, x4, rfl, hx0, hx1, rfl⟩ := hW
          exact ⟨_, rfl, sizeLine_ge (by show 2 ≤ 10000; decide), fun p hp => q p _ hp (same_new hp) ⟨_, 1, upd_same, hx0, by decide, by decide, fun _ => hx1⟩⟩
    · refine ⟨_, rfl, _, _, rfl, rfl, ⟨by decide, by decide, by decide +kernel⟩, _, _, rfl, rfl, _, rfl, ite2 (fun h2 => ?_) (fun h2 => ?_)⟩
      · exact ⟨_, rfl, sizeLine_ge (by show 2 ≤ 10000; decide), fun p hp => q p _ hp (same_new hp) ⟨_, 0, upd_same, Int.le_refl _, Int.le_refl _, by decide, fun z => absurd rfl z⟩⟩
      · refine ⟨_, rfl, _, rfl, _, _, rfl, rfl, .inl ⟨by decide, by decide⟩, _, _, rfl, rfl, _, _, rfl, rfl, _, _, rfl, rfl, (by show (0 : Int) < _; decide +kernel), ?_⟩
        refine ⟨_, rfl, l, _, rfl, .inl hl, _, _, rfl, _, rfl, ?_, ?_, for_range (fun i' σ H' => ∃ (x : Int) (x2 x4 : Option V), σ = [some (.ref l), some (.int i), x2, some (.int x), x4] ∧ 0 ≤ x ∧ x < 2147483647 ∧ H' = H) ⟨_, _, _, rfl, Int.emod_nonneg _ (by decide), Int.emod_lt_of_pos _ (by decide), rfl⟩ (fun j σ H' hj hW => ?_) (fun σ H' hW => ?_)⟩
        · split <;> omega
        · split <;> omega
        · obtain ⟨x, x2, x4, rfl, hx0, hx1, rfl⟩ := hW
          have hj2 : j < ns.length := by
            rw [List.length_map] at hj
            split at hj <;> omega
          have hj3 : (ns.map V.int)[j]? = some (.int ns[j]) := by
            rw [List.getElem?_map, List.getElem?_eq_getElem hj2]
            rfl
          have hx2 : x.natAbs < 2 ^ 1000 := Nat.lt_of_lt_of_le (show x.natAbs < 2147483647 by omega) (by decide +kernel)
          refine ⟨_, rfl, _, _, rfl, rfl, ⟨by decide, by decide, hx2⟩, _, rfl, _, rfl, l, _, _, _, rfl, rfl, hl, (by rw [Int.zero_add]; exact atI_nat hj3), _, _, rfl, rfl, (by show (0 : Int) < _; decide +kernel), _, _, rfl, rfl, _, rfl, _, _, rfl, rfl, .inl ⟨by decide, by decide⟩, _, _, rfl, rfl, _, _, rfl, rfl, (by show (0 : Int) < _; decide +kernel), ?_⟩
          exact ⟨_, _, _, rfl, Int.emod_nonneg _ (by decide), Int.emod_lt_of_pos _ (by decide), rfl⟩
        · obtain ⟨x, x2, x4, rfl, hx0, hx1, rfl⟩ := hW
          exact ⟨_, rfl, sizeLine_ge (by show 2 ≤ 10000; decide), fun p hp => q p _ hp (same_new hp) ⟨_, 1, upd_same, hx0, by decide, by decide, fun _ => hx1⟩⟩
theorem ok__law_take2 {f : Addr} {fd : FuncData} (F : Fun K "_law_take" "_law_take" s__law_take f fd) : FnOk P w K mg base CX0 1 f fd ["_law_purse_here", "_law_many"] spTake2 := by
  refine F.ok sc__law_take (fun vs H Q E h => ?_) (fun cdv A outer s H vs Q E hr h => ?_)
  · obtain ⟨p, m, c, rfl, _⟩ := h
    rfl
  · obtain ⟨p, m, c0, rfl, ⟨a, b, hp, ha, hb, hbc, hab⟩, hc2, hm, hm2, q⟩ := h
    refine ⟨_, (pss_cons (ps_if (pt_cmpR op_eq (pe_ix ix_list (pv 0) pe_int (fun _ _ => rfl)) pe_int (nomark _)) 
        (pss_cons (ps_set (i := 2) sc__law_take.nd rfl (.inl rfl) (pe_op op_mod (pe_ix ix_list (pv 0) pe_int (fun _ _ => rfl)) (pv 1)))
        (pss_cons (ps_asg (pe_op op_fdiv (pe_ix ix_list (pv 0) pe_int (fun _ _ => rfl)) (pv 1)) (pg_sub (pv 0) pe_int set_list))
        (pss_one (ps_ret (pv 2))))) pss_nil)
      (pss_cons (ps_asg (pe_op op_mod (pe_op op_add (pe_op op_add (pe_op op_powW (pe_ix ix_list (pv 0) pe_int (fun _ _ => rfl)) pe_int) (pe_op op_mul pe_int (pe_ix ix_list (pv 0) pe_int (fun _ _ => rfl)))) pe_int) pe_int) (pg_sub (pv 0) pe_int set_list))
      (pss_cons (ps_asg (pe_op op_add (pe_ix ix_list (pv 0) pe_int (fun _ _ => rfl)) pe_int) (pg_sub (pv 0) pe_int set_list))
      (pss_one (ps_ret (pe_op op_mod (pe_op op_fdiv (pe_op op_mod (pe_op op_mul (pe_ix ix_list (pv 0) pe_int (fun _ _ => rfl)) pe_int) pe_int) pe_int) (pv 1))))))), ?_⟩
    refine ⟨_, rfl, p, _, _, _, rfl, rfl, .inl (.inl hp), rfl, rfl, _, rfl, ite2 (fun h => ?_) (fun h => ?_)⟩
    · have h : b = 0 := V.int.inj (of_decide_eq_true h)
      refine ⟨_, rfl, p, _, _, _, rfl, rfl, .inl (.inl hp), rfl, _, rfl, _, _, rfl, rfl, hm, ?_⟩
      refine ⟨_, rfl, p, _, _, _, rfl, rfl, .inl (.inl hp), rfl, _, rfl, _, _, rfl, rfl, ⟨hm, Int.lt_trans hm2 (by decide)⟩, _, rfl, p, _, _, _, rfl, rfl, hp, rfl, ?_⟩
      refine ⟨_, rfl, ?_⟩
      exact q (a % m) _ (Int.emod_nonneg a (by omega)) (Int.emod_lt_of_pos a hm) ⟨a / m, b, upd_same, Int.ediv_nonneg ha (by omega), hb, by omega, fun z => absurd h z⟩ fun b' o e n => by rw [upd_ne n]; exact e
    · have h : b ≠ 0 := fun z => h (by rw [z]; decide)
      have ha2 := hab h
      have ha3 : a.natAbs < 2 ^ 1000 := Nat.lt_of_lt_of_le (show a.natAbs < 2147483647 by omega) (by decide +kernel)
      refine ⟨_, rfl, p, _, _, _, rfl, rfl, .inl (.inl hp), rfl, _, _, rfl, rfl, ⟨by decide, by decide, ha3⟩, _, rfl, p, _, _, _, rfl, rfl, .inl (.inl hp), rfl, _, _, rfl, rfl, .inl ⟨by decide, by decide⟩, _, _, rfl, rfl, _, _, rfl, rfl, _, _, rfl, rfl, (by show (0 : Int) < _; decide +kernel), _, rfl, p, _, _, _, rfl, rfl, hp, rfl, ?_⟩
      refine ⟨_, rfl, p, _, _, _, rfl, rfl, .inl (.inl upd_same), rfl, _, _, rfl, rfl, _, rfl, p, _, _, _, rfl, rfl, upd_same, rfl, ?_⟩
      refine ⟨_, rfl, p, _, _, _, rfl, rfl, .inl (.inl upd_same), rfl, _, _, rfl, rfl, .inr ⟨by decide, by decide⟩, _, _, rfl, rfl, (by show (0 : Int) < _; decide +kernel), _, _, rfl, rfl, ⟨by decide, by decide⟩, _, rfl, _, _, rfl, rfl, hm, ?_⟩
      exact q _ _ (Int.emod_nonneg _ (by omega)) (Int.emod_lt_of_pos _ hm) ⟨_, _, upd_same, Int.emod_nonneg _ (by decide), by omega, by omega, fun _ => Int.emod_lt_of_pos _ (by decide)⟩ fun b' o e n => by rw [upd_ne n, upd_ne n]; exact e
end
end K


set_option Elab.async false
set_option linter.all false
set_option maxRecDepth 100000
set_option maxHeartbeats 4000000
/-! a term as the laws have it: tuples of its word and what stands behind it -/
namespace K
open PySem PySem.Spec PyProof.Rows L2 U
def atomV (k : Kd) (l : U.Nm) (x : V) : Prop := k = .num ∧ (∃ n : Int, x = .int n ∧ Str.ofString (toString n) = tx l ∧ n.natAbs < 10 ^ 12) ∨ k ≠ .num ∧ x = .str (tx l)
def bdV (w : Wd) (b : U.Nm) : List V := if w.bd = true then [.str (tx b)] else []
def bdT (w : Wd) (b : U.Nm) : List U.Nm := if w.bd = true then [b] else []
def TT (H : Hp) : U.Tm → V → Prop
  | .atom k l, v => ∃ a x, v = .ref a ∧ H a = some (.tup [.str (tx k.cs), x]) ∧ atomV k l x
  | .n1 w b x, v => ∃ a u, v = .ref a ∧ H a = some (.tup (.str (tx w.cs) :: (bdV w b ++ [u]))) ∧ TT H x u
  | .n2 w b x y, v => ∃ a u1 u2, v = .ref a ∧ H a = some (.tup (.str (tx w.cs) :: (bdV w b ++ [u1, u2]))) ∧ TT H x u1 ∧ TT H y u2
  | .n3 w b x y z, v => ∃ a u1 u2 u3, v = .ref a ∧ H a = some (.tup (.str (tx w.cs) :: (bdV w b ++ [u1, u2, u3]))) ∧ TT H x u1 ∧ TT H y u2 ∧ TT H z u3
theorem TT.keep {H H' : Hp} (k : TupS H H') : ∀ {t : U.Tm} {v : V}, TT H t v → TT H' t v
  | .atom _ _, _, ⟨a, x, e, h, r⟩ => ⟨a, x, e, k _ _ h, r⟩
  | .n1 _ _ _, _, ⟨a, u, e, h, h1⟩ => ⟨a, u, e, k _ _ h, h1.keep k⟩
  | .n2 _ _ _ _, _, ⟨a, u1, u2, e, h, h1, h2⟩ => ⟨a, u1, u2, e, k _ _ h, h1.keep k, h2.keep k⟩
  | .n3 _ _ _ _ _, _, ⟨a, u1, u2, u3, e, h, h1, h2, h3⟩ => ⟨a, u1, u2, u3, e, k _ _ h, h1.keep k, h2.keep k, h3.keep k⟩
/-- a form: its word, its own name, its terms -/
structure FormV (H : Hp) (t : U.Tm) (a : Addr) (w : Wd) (b : U.Nm) (us : List V) : Prop where
  ha : H a = some (.tup (.str (tx w.cs) :: (bdV w b ++ us)))
  kids : Paired (fun u k => TT H k u) us t.kids
  pr : t.pr = 40 :: (w.cs ++ ((bdT w b ++ t.kids.map U.Tm.pr).map ([32] ++ ·)).flatten ++ [41])
theorem TT.form {H : Hp} {t : U.Tm} {v : V} (h : TT H t v) : (∃ k l, t = .atom k l) ∨ ∃ a w b us, v = .ref a ∧ FormV H t a w b us := by
  have hpr : ∀ (w : Wd) (b : U.Nm) (ks : List U.Tm), 40 :: (w.cs ++ ((bdT w b ++ ks.map U.Tm.pr).map ([32] ++ ·)).flatten ++ [41]) = U.hd w b ++ (ks.map fun k => 32 :: k.pr).flatten ++ [41] := fun w b ks => by
    have e : ∀ ks : List U.Tm, ((ks.map U.Tm.pr).map ([32] ++ ·)).flatten = (ks.map fun k => 32 :: k.pr).flatten := fun ks => by
      rw [List.map_map]
      rfl
    rw [List.map_append, List.flatten_append, e]
    unfold U.hd bdT
    split <;> simp
  cases t with
  | atom k l => exact .inl ⟨k, l, rfl⟩
  | n1 w b x =>
    obtain ⟨a, u, rfl, h, h1⟩ := h
    exact .inr ⟨a, w, b, [u], rfl, h, .cons h1 .nil, by rw [hpr]; simp [U.Tm.pr, U.Tm.kids]⟩
  | n2 w b x y =>
    obtain ⟨a, u1, u2, rfl, h, h1, h2⟩ := h
    exact .inr ⟨a, w, b, [u1, u2], rfl, h, .cons h1 (.cons h2 .nil), by rw [hpr]; simp [U.Tm.pr, U.Tm.kids]⟩
  | n3 w b x y z =>
    obtain ⟨a, u1, u2, u3, rfl, h, h1, h2, h3⟩ := h
    exact .inr ⟨a, w, b, [u1, u2, u3], rfl, h, .cons h1 (.cons h2 (.cons h3 .nil)), by rw [hpr]; simp [U.Tm.pr, U.Tm.kids]⟩
theorem kid_depth {t k : U.Tm} (h : k ∈ t.kids) : k.depth < t.depth := by
  cases t with
  | atom k l => cases h
  | n1 w b x =>
    simp only [U.Tm.kids, List.mem_cons, List.not_mem_nil, or_false] at h
    subst h
    simp only [U.Tm.depth]
    omega
  | n2 w b x y =>
    simp only [U.Tm.kids, List.mem_cons, List.not_mem_nil, or_false] at h
    simp only [U.Tm.depth]
    rcases h with rfl | rfl <;> omega
  | n3 w b x y z =>
    simp only [U.Tm.kids, List.mem_cons, List.not_mem_nil, or_false] at h
    simp only [U.Tm.depth]
    rcases h with rfl | rfl | rfl <;> omega
theorem kid_pr {t k : U.Tm} (h : k ∈ t.kids) : k.pr.length ≤ t.pr.length := by
  cases t with
  | atom k l => cases h
  | n1 w b x =>
    simp only [U.Tm.kids, List.mem_cons, List.not_mem_nil, or_false] at h
    subst h
    simp only [U.Tm.pr, List.length_append, List.length_cons]
    omega
  | n2 w b x y =>
    simp only [U.Tm.kids, List.mem_cons, List.not_mem_nil, or_false] at h
    simp only [U.Tm.pr, List.length_append, List.length_cons]
    rcases h with rfl | rfl <;> omega
  | n3 w b x y z =>
    simp only [U.Tm.kids, List.mem_cons, List.not_mem_nil, or_false] at h
    simp only [U.Tm.pr, List.length_append, List.length_cons]
    rcases h with rfl | rfl | rfl <;> omega
theorem foldl_tx2 (sep : List Nat) : ∀ (ps : List (List Nat)) (acc : List Nat), (ps.map tx).foldl (fun (a : Array Nat) (p : Str) => a ++ (tx sep).cps ++ p.cps) acc.toArray = (acc ++ (ps.map (sep ++ ·)).flatten).toArray
  | [], acc => by simp
  | p :: ps, acc => by
    rw [List.map_cons, List.foldl_cons, show acc.toArray ++ (tx sep).cps ++ (tx p).cps = (acc ++ sep ++ p).toArray by simp, foldl_tx2 sep ps]
    simp
theorem join_tx2 (sep p : List Nat) (ps : List (List Nat)) : Txt.join (tx sep) (tx p :: ps.map tx) = tx (p ++ (ps.map (sep ++ ·)).flatten) := by
  show PySem.Builtin.Str.glued (tx sep) (tx p :: ps.map tx) = _
  unfold PySem.Builtin.Str.glued
  rw [List.drop_one, List.tail_cons, List.headD_cons]
  exact congrArg Str.mk (foldl_tx2 sep ps p)
theorem log_small2 {i : Int} (h : i.natAbs < 10 ^ 12) : i.natAbs.log2 < 1920 := by
  by_cases h0 : i.natAbs = 0
  · rw [h0]
    decide
  · exact (Nat.log2_lt h0).mpr (Nat.lt_trans h (by decide))
theorem eqV_str_ne {x y : Str} (h : x ≠ y) : eqV (.str x) (.str y) = false := by
  first
    | exact decide_eq_false fun z => h z
    | exact decide_eq_false fun z => h (V.str.inj z)
    | exact beq_false_of_ne h
    | (simp [eqV, h])
theorem take_next {α : Type} {l : List α} {j : Nat} {x : α} (h : l[j]? = some x) : l.take (j + 1) = l.take j ++ [x] := by
  rw [List.take_add_one, h]
  rfl
/-- an item of a form and its text -/
def ItemT (n : Nat) (H : Hp) (x : V) (l : List Nat) : Prop := x = .str (tx l) ∨ ∃ t, TT H t x ∧ t.depth < n ∧ t.pr.length ≤ 9000 ∧ l = t.pr
theorem TT.ref {H : Hp} {t : U.Tm} {v : V} (h : TT H t v) : ∃ a, v = .ref a ∧ ∃ l, H a = some (.tup l) := by
  cases t with
  | atom k l =>
    obtain ⟨a, x, e, h, _⟩ := h
    exact ⟨a, e, _, h⟩
  | n1 w b x =>
    obtain ⟨a, _, e, h, _⟩ := h
    exact ⟨a, e, _, h⟩
  | n2 w b x y =>
    obtain ⟨a, _, _, e, h, _⟩ := h
    exact ⟨a, e, _, h⟩
  | n3 w b x y z =>
    obtain ⟨a, _, _, _, e, h, _⟩ := h
    exact ⟨a, e, _, h⟩
/-- str() of an int or a text -/
theorem call_str2 {X : Cx} : CallR X (.type "str") (fun xs H Q => (∃ i, xs = [.int i] ∧ i.natAbs.log2 < 1920 ∧ Q (.str (toString i)) H) ∨ ∃ a, xs = [.str a] ∧ Q (.str a) H) := by
  intro pins s σ H xs us Q I r q
  rcases q with q | q
  · exact call_str_int pins s σ H xs us Q I r q
  · exact SkE.call_str_str pins s σ H xs us Q I r q
def spShownT (n : Nat) : Sp := fun vs H Q _ => ∃ (t : U.Tm) (v : V), vs = [v] ∧ TT H t v ∧ t.depth < n ∧ t.pr.length ≤ 9000 ∧ ∀ H', Same H H' → Q (.str (tx t.pr)) H'
end K

set_option Elab.async false
set_option linter.all false
set_option maxRecDepth 100000
set_option maxHeartbeats 4000000
set_option pp.maxSteps 3000
namespace K
open PySem PySem.Spec PyProof.Rows L2 U
theorem flat_len : ∀ L : List (List Nat), ((L.map ([32] ++ ·)).flatten).length = (L.map List.length).sum + L.length
  | [] => rfl
  | l :: L => by
    have := flat_len L
    simp only [List.map_cons, List.flatten_cons, List.length_append, List.length_cons, List.length_nil, List.sum_cons] at this ⊢
    omega
section
variable {P : Program} {w : World} {K : PySem.W.Frag} {mg : Str → Option Value} {base : Heap} {dW dB dN : Addr} {esW : Array DictEntry} {nW : Nat} (T : Txt K mg w dW dB esW nW) (N : Runs K mg dN)
include T N
theorem ok__law_shown_step {f f3 : Addr} {fd fd3 : FuncData} (n : Nat) (F : Fun K "_law_shown" "_law_shown" s__law_shown f fd) (h__law_shown : Has P w K mg base "_law_shown" n ["_law_tree"] (spShownT n) f3 fd3) : FnOk P w K mg base CX0 (n + 1) f fd ["_law_tree"] (spShownT (n + 1)) := by
  refine F.ok sc__law_shown (fun vs H Q E h => ?_) (fun cdv A outer s H vs Q E hr h => ?_)
  · obtain ⟨t, v, rfl, _⟩ := h
    rfl
  · have hu := hu_of hr
    obtain ⟨t, v, rfl, nt, hd, hl, q⟩ := h
    refine ⟨_, (pss_cons (ps_if (pt_cmpR op_in_seq (pe_ix ix_tup (pv 0) pe_int (fun _ _ => rfl)) (pe_tup (pa_cons pe_str (pa_cons pe_str (pa_cons pe_str pa_nil)))) (by rfl)) 
        (pss_one (ps_ret (pe_callTy call_str2 (by rfl) T.z_str (by decide +kernel) (pa_cons (pe_ix ix_tup (pv 0) pe_int (fun _ _ => rfl)) pa_nil)))) pss_nil)
      (pss_one (ps_ret (pe_op op_add_str (pe_op op_add_str pe_str (pe_join pe_str (pe_lc (own := [("_law_one", 1)]) (g := gName 1) (tt := tYes) (te := tIf (tB (tCB (rIsi K) (tCons (tVar 1) (tCons (tC (.ty "str")) tNil)))) (tVar 1) (tCall (spShownT n) [] E0 (tCons (tVar 1) tNil))) rfl sc__law_shown.nd (pi_tup (pv 0)) (blkOk_by (N := nm__law_shown) (sc := defScope s__law_shown) (by decide +kernel)) (fun _ _ _ _ _ => pg_name (i := 1) sc__law_shown.nd rfl (.inl rfl)) (fun _ _ _ _ _ => pts_nil) (fun _ _ _ _ _ => (pe_ifExp (pt_val (pe_callB (id := "isinstance") call_isi (by rfl) T.z_isinstance (by decide +kernel) (pa_cons (pv 1) (pa_cons (pe_bltn (v := .ty "str") (u := .type "str") (by rfl) T.z_str (by decide +kernel) rfl) pa_nil)))) (pv 1) (pe_callH h__law_shown (hr.mono (by first | decide | omega)) (by rfl) (pa_cons (pv 1) pa_nil))))))) pe_str)))), ?_⟩
    rcases nt.form with ⟨k, l, rfl⟩ | ⟨a, wd, b, us, rfl, fv⟩
    · obtain ⟨a, x, rfl, ha, av⟩ := nt
      refine ⟨_, rfl, a, _, 0, _, rfl, rfl, .inl (.inl ha), at0 _ _, sizeLine_ge (by show 3 ≤ 10000; decide), fun qt hqt => ?_⟩
      have S1 : Same H _ := same_new (o := .tup [.str (Str.ofString "number"), .str (Str.ofString "name"), .str (Str.ofString "part")]) hqt
      refine ⟨qt, _, rfl, .inr (.inl (.inl upd_same)), rfl, rfl, _, rfl, ite2 (fun _ => ?_) (fun z => absurd (by cases k <;> decide +kernel) z)⟩
      refine ⟨_, rfl, a, _, 1, _, rfl, rfl, .inl (.inl (S1 _ _ ha)), at1 _ _ _, ?_⟩
      rcases av with ⟨_, n', rfl, et, bd⟩ | ⟨_, rfl⟩
      · refine .inl ⟨_, rfl, log_small2 bd, ?_⟩
        rw [et]
        exact q _ S1
      · exact .inr ⟨_, rfl, q _ S1⟩
    · have ha := fv.ha
      have hpr := fv.pr
      have hwl : ∀ z ∈ ([Str.ofString "number", Str.ofString "name", Str.ofString "part"] : List Str), z ≠ tx wd.cs := by cases wd <;> decide +kernel
      refine ⟨_, rfl, a, _, 0, _, rfl, rfl, .inl (.inl ha), at0 _ _, sizeLine_ge (by show 3 ≤ 10000; decide), fun qt hqt => ?_⟩
      have S1 : Same H _ := same_new (o := .tup [.str (Str.ofString "number"), .str (Str.ofString "name"), .str (Str.ofString "part")]) hqt
      refine ⟨qt, _, rfl, .inr (.inl (.inl upd_same)), rfl, rfl, _, rfl, ite2 (fun z => absurd z (by
        simp only [inV, List.any_cons, List.any_nil, Bool.or_false, if_neg Bool.false_ne_true]
        have g := fun x hx => eqV_str_ne (hwl x hx)
        rw [g _ (by simp), g _ (by simp), g _ (by simp)]
        decide)) (fun _ => ?_)⟩
      generalize hL : bdT wd b ++ t.kids.map U.Tm.pr = L at hpr
      have items : Paired (ItemT n (upd H qt (.tup [.str (Str.ofString "number"), .str (Str.ofString "name"), .str (Str.ofString "part")]))) (V.str (tx wd.cs) :: (bdV wd b ++ us)) (wd.cs :: L) := by
        refine .cons (.inl rfl) ?_
        rw [← hL]
        refine Paired.app ?_ ?_
        · unfold bdV bdT
          split
          · exact .cons (.inl rfl) .nil
          · exact .nil
        · have : ∀ {us : List V} {ks : List U.Tm}, (∀ k ∈ ks, k ∈ t.kids) → Paired (fun u k => TT H k u) us ks → Paired (ItemT n (upd H qt (.tup [.str (Str.ofString "number"), .str (Str.ofString "name"), .str (Str.ofString "part")]))) us (ks.map U.Tm.pr) := by
            intro us ks hk h
            induction h with
            | nil => exact .nil
            | cons h _ ih =>
              have hm := hk _ List.mem_cons_self
              have := kid_depth hm
              have := kid_pr hm
              exact .cons (.inr ⟨_, h.keep (TupS.of S1), by omega, by omega, rfl⟩) (ih fun k hk' => hk k (List.mem_cons_of_mem _ hk'))
          exact this (fun _ h => h) fv.kids
      have ll : (wd.cs :: L).length ≤ 9 := by
        have h1 := fv.kids.length
        have h2 : t.kids.length ≤ 3 := by cases t <;> simp [U.Tm.kids]
        have h3 : (bdT wd b).length ≤ 1 := by unfold bdT; split <;> simp
        rw [← hL]
        simp only [List.length_cons, List.length_append, List.length_map]
        omega
      have ha1 := S1 _ _ ha
      generalize upd H qt (.tup [.str (Str.ofString "number"), .str (Str.ofString "name"), .str (Str.ofString "part")]) = H1 at S1 ha1 items ⊢
      generalize V.str (tx wd.cs) :: (bdV wd b ++ us) = xs at items ha1 ⊢
      have il := items.length
      refine ⟨⟨_, rfl⟩, _, rfl, a, rfl, ⟨_, .inl (.inl ha1)⟩, fun D hD => lc_do walk_tup (fun j H' => Same H1 H' ∧ H' D = some (.lst (((wd.cs :: L).take j).map fun l => V.str (tx l)))) (fun _ => rfl) ⟨same_new hD, upd_same⟩ (fun i H' _ h => .inl (.inl (h.1 _ _ ha1))) ?_ ?_⟩
      · rintro j v H2 H3 hj ⟨s2, e2⟩ ⟨rfl, hv⟩
        have hD2 := ne_of_none ha1 hD
        obtain ⟨l, hl1, hl2⟩ := Paired.at2 items hv
        have tk : (wd.cs :: L).take (j + 1) = (wd.cs :: L).take j ++ [l] := take_next hl1
        have push : ∀ H4, Same H3 H4 → ∃ acc, H4 D = some (.lst acc) ∧ acc.length < sizeLine ∧ (Same H1 (upd H4 D (.lst (acc ++ [V.str (tx l)]))) ∧ (upd H4 D (.lst (acc ++ [V.str (tx l)]))) D = some (.lst (((wd.cs :: L).take (j + 1)).map fun l => V.str (tx l)))) := fun H4 s4 => by
          refine ⟨_, s4 _ _ e2, ?_, ?_, ?_⟩
          · rw [List.length_map, List.length_take]
            exact Nat.lt_of_lt_of_le (show _ < 10 by omega) (sizeLine_ge (by decide))
          · exact upd_new hD (s2.trans s4)
          · rw [upd_same, tk, List.map_append]
            rfl
        rcases hl2 with rfl | ⟨t', nt', dt', pt', rfl⟩
        · exact ⟨_, rfl, _, _, .type "str", _, true, rfl, .ty "str", .base (.str _), kit_ty rfl, true, rfl, iteT ⟨_, rfl, push _ (Same.refl _)⟩⟩
        · obtain ⟨b', rb', lb', hb'⟩ := TT.ref nt'
          subst rb'
          exact ⟨_, rfl, _, _, .type "tuple", _, false, rfl, .ty "str", .base (.tup (s2 _ _ hb')), kit_ty rfl, false, rfl, iteF ⟨_, rfl, t', _, rfl, nt'.keep (TupS.of s2), dt', pt', fun H4 s4 => push H4 s4⟩⟩
      · rintro H2 ⟨s2, e2⟩
        have sp1 : Str.ofString " " = tx [32] := by decide +kernel
        have sp2 : Str.ofString "(" = tx [40] := by decide +kernel
        have sp3 : Str.ofString ")" = tx [41] := by decide +kernel
        rw [List.take_of_length_le (by omega)] at e2
        have e3 : H2 D = some (.lst ((tx wd.cs :: L.map tx).map V.str)) := by
          rw [e2]
          simp
        have jn := join_tx2 [32] wd.cs L
        rw [← sp1] at jn
        have ln : (wd.cs ++ (L.map ([32] ++ ·)).flatten).length + 2 ≤ 9000 := by
          rw [hpr] at hl
          simp only [List.length_cons, List.length_append, List.length_nil] at hl ⊢
          omega
        refine ⟨_, D, tx wd.cs :: L.map tx, rfl, rfl, .inl (.inl (.inl e3)), ?_, ?_⟩
        · have h1 := flat_len L
          have h2 : (List.map (fun x : Str => x.length) (L.map tx)).sum = (L.map List.length).sum := by
            rw [List.map_map]
            refine congrArg List.sum (List.map_congr_left fun l _ => ?_)
            exact tx_len l
          simp only [List.length_cons] at ll
          rw [List.map_cons, List.sum_cons, h2, List.length_cons, List.length_map, tx_len, sp1, tx_len]
          simp only [List.length_cons, List.length_nil, List.length_append] at ln ⊢
          omega
        rw [jn, sp2, sp3]
        refine ⟨_, _, rfl, rfl, ?_, _, _, rfl, rfl, ?_, ?_⟩
        · rw [tx_len, tx_len]
          exact sizeLine_ge (by simp only [List.length_cons, List.length_nil]; omega)
        · rw [tx_app, tx_len, tx_len]
          exact sizeLine_ge (by simp only [List.length_append, List.length_cons, List.length_nil] at ln ⊢; omega)
        rw [tx_app, tx_app, show [40] ++ (wd.cs ++ (L.map ([32] ++ ·)).flatten) ++ [41] = t.pr by rw [hpr]; simp]
        exact q _ (S1.trans s2)
theorem ok__law_shownT {f : Addr} {fd : FuncData} (F : Fun K "_law_shown" "_law_shown" s__law_shown f fd) (at_ : mg "_law_shown" = some (.ref f)) (kp : PySem.W.keepIn K (.ref f) = true) (bi : Binds K fd ["_law_tree"] []) : ∀ n, FnOk P w K mg base CX0 n f fd ["_law_tree"] (spShownT n)
  | 0 => ⟨fun vs H Q E h => by
      obtain ⟨t, v, _, _, hd, _⟩ := h
      exact absurd hd (Nat.not_lt_zero _), fun A outer s H args us vs Q E hr e b v h => by
      obtain ⟨t, v, _, _, hd, _⟩ := h
      exact absurd hd (Nat.not_lt_zero _)⟩
  | n + 1 => ok__law_shown_step T N n F ⟨at_, kp, bi, ok__law_shownT F at_ kp bi n⟩
end
end K


set_option Elab.async false
set_option linter.all false
set_option maxRecDepth 100000
set_option maxHeartbeats 4000000
/-! told less, or told of a stop: where a walk ends -/
namespace U
/-- where a head is taken: an end, a form's own deed -/
def Ct : Cd → Prop
  | .head _ _ _ => False
  | .need _ _ _ => False
  | .form _ _ _ => False
  | _ => True
/-- a code that takes each head, and as many waiting numbers as there are -/
def KB : Cd → Nat → Prop
  | .endd, d => d = 0
  | .head _ _ nx, d => Ct nx ∧ KB nx d
  | .need _ _ nx, d => Ct nx ∧ KB nx d
  | .form _ _ nx, d => Ct nx ∧ KB nx d
  | .iff a b, d => KB a d ∧ KB b d
  | .left nx, d => KB nx (d + 1)
  | .right _ nx, d => ∃ e, d = e + 1 ∧ Ct nx ∧ KB nx e
  | .call _ nx, d => Ct nx ∧ KB nx d
  | .half _ nx, d => Ct nx ∧ KB nx d
def WB : Wt → Nat → Prop
  | .nil, d => d = 0
  | .num _ r, d => ∃ e, d = e + 1 ∧ WB r e
  | .cont c _ r, d => d = 0 ∧ Ct c ∧ ∃ e, KB c e ∧ WB r e
def wsz : Wt → Nat
  | .nil => 0
  | .num _ r => wsz r + 1
  | .cont _ _ r => wsz r + 1
theorem coded_kb : ∀ (t : Tm) (m : Nat) {nx : Cd} {d : Nat}, Ct nx → KB nx d → KB (coded t m nx) d
  | .atom .num l, m, nx, d, c, k => ⟨c, k⟩
  | .atom .name l, m, nx, d, c, k => ⟨c, k⟩
  | .atom .part l, m, nx, d, c, k => ⟨c, k⟩
  | .n1 w b x, m, nx, d, c, k => by cases w <;> first | exact ⟨c, k⟩ | exact coded_kb x (m + 1) trivial ⟨c, k⟩
  | .n2 w b x y, m, nx, d, c, k => by
    have hy : KB (coded y 1 (.right w nx)) (d + 1) := coded_kb y 1 trivial ⟨d, rfl, c, k⟩
    cases w <;> first | exact ⟨c, k⟩ | exact coded_kb x (m + 1) trivial ⟨c, k⟩ | exact coded_kb x (m + 1) (nx := .left _) trivial hy
  | .n3 w b x y z, m, nx, d, c, k => coded_kb x (m + 1) (nx := .iff _ _) trivial ⟨coded_kb y 1 c k, coded_kb z 1 c k⟩
def SB (s : St) : Prop := ∃ d, KB s.code d ∧ WB s.wait d
theorem behind_wb {c : Cd} {e : En} {w : Wt} {d : Nat} (h1 : Ct c) (h2 : KB c d) (h3 : WB w d) : WB (behindW c e w) 0 := by
  unfold behindW
  split
  · rename_i z
    subst z
    cases (show d = 0 from h2)
    exact h3
  · exact ⟨rfl, h1, d, h2, h3⟩
theorem behind_sz {c : Cd} {e : En} {w : Wt} : wsz (behindW c e w) ≤ wsz w + 1 := by
  unfold behindW
  split
  · omega
  · exact Nat.le_refl _
/-- where a step leads: well, more waiting by no more than one, no fewer steps; a need's code takes the head -/
def OutB (s : St) : Out → Prop
  | .go s' => SB s' ∧ wsz s'.wait ≤ wsz s.wait + 1 ∧ s.steps ≤ s'.steps
  | .fin s' => s.steps ≤ s'.steps
  | .need s' _ => SB s' ∧ Ct s'.code ∧ wsz s'.wait ≤ wsz s.wait + 1 ∧ s.steps ≤ s'.steps
  | _ => True
theorem begins_b {lim m : Nat} {s : St} {c : Nat → Cd} {f : St → Out} (h : OutB { s with steps := s.steps + m } (f { s with steps := s.steps + m })) : OutB s (begins lim m s c f) := by
  unfold begins
  split
  · trivial
  · cases e : f { s with steps := s.steps + m } with
    | go s' =>
      rw [e] at h
      exact ⟨h.1, h.2.1, by have := h.2.2; simp only at this; omega⟩
    | fin s' =>
      rw [e] at h
      have h : s.steps + m ≤ s'.steps := h
      show s.steps ≤ s'.steps
      omega
    | need s' k =>
      rw [e] at h
      exact ⟨h.1, h.2.1, h.2.2.1, by have := h.2.2.2; simp only at this; omega⟩
    | out s' => trivial
    | bad => trivial
theorem asks_b {s s0 : St} {k : Nm} (h : SB s) (c : Ct s.code) (w : wsz s.wait ≤ wsz s0.wait + 1) (l : s0.steps ≤ s.steps) : OutB s0 (asks (fun _ => none) s k) := ⟨h, c, w, l⟩
theorem unfit_b {kn must : Nm} {h : Hd} {s : St} : OutB s (.go (unfitS kn must h s)) := ⟨⟨0, rfl, rfl⟩, Nat.zero_le _, Nat.le_refl _⟩
theorem form_b {fr : Tm → List Nm} {kn : Nm} {s : St} {t : Tm} {nx : Cd} {d : Nat} (c : Ct nx) (k : KB nx d) (w : WB s.wait d) : OutB s (formS fr kn t nx s) := by
  cases t with
  | atom kk l => trivial
  | n3 w b x y z => trivial
  | n1 wd b x => exact ⟨⟨d, k, w⟩, Nat.le_succ _, Nat.le_refl _⟩
  | n2 wd b x y =>
    cases wd with
    | pair => exact ⟨⟨d, k, w⟩, Nat.le_succ _, Nat.le_refl _⟩
    | _ => exact ⟨⟨0, coded_kb y 1 trivial rfl, behind_wb c k w⟩, behind_sz, Nat.le_refl _⟩
theorem step_b {fr : Tm → List Nm} {kn : Nm} {lim : Nat} {s : St} (h : SB s) : OutB s (step fr kn (fun _ => none) lim s) := by
  obtain ⟨code, env, wait, head, steps, made⟩ := s
  obtain ⟨d, k, w⟩ := h
  simp only at k w
  cases code with
  | endd =>
    cases wait with
    | nil => exact Nat.le_refl _
    | num v r => trivial
    | cont c e r =>
      obtain ⟨_, _, e', k', w'⟩ := w
      exact ⟨⟨e', k', w'⟩, by show wsz r ≤ wsz r + 1 + 1; omega, Nat.le_refl _⟩
  | head n v nx =>
    show OutB _ (begins lim n ⟨.head n v nx, env, wait, head, steps, made⟩ (fun m => .head m v nx) fun s => .go { s with code := nx, head := some (.num v) })
    exact begins_b ⟨⟨d, k.2, w⟩, Nat.le_succ _, Nat.le_refl _⟩
  | need n x nx =>
    show OutB _ (begins lim n ⟨.need n x nx, env, wait, head, steps, made⟩ (fun m => .need m x nx) fun s => asks (fun _ => none) { s with code := nx } ((getR s.env x).getD x))
    exact begins_b (asks_b (s := ⟨nx, env, wait, head, steps + n, made⟩) ⟨d, k.2, w⟩ k.1 (Nat.le_succ _) (Nat.le_refl _))
  | form n t nx =>
    show OutB _ (begins lim n ⟨.form n t nx, env, wait, head, steps, made⟩ (fun m => .form m t nx) fun s => formS fr kn t nx s)
    exact begins_b (form_b (s := ⟨.form n t nx, env, wait, head, steps + n, made⟩) k.1 k.2 w)
  | iff a b =>
    cases head with
    | none => trivial
    | some h =>
      cases h with
      | num v =>
        refine ⟨⟨d, ?_, w⟩, Nat.le_succ _, Nat.le_refl _⟩
        show KB (if v ≠ 0 then a else b) d
        split
        · exact k.1
        · exact k.2
      | _ => exact unfit_b
  | left nx =>
    cases head with
    | none => trivial
    | some h =>
      cases h with
      | num v => exact ⟨⟨d + 1, k, d, rfl, w⟩, Nat.le_refl _, Nat.le_refl _⟩
      | _ => exact unfit_b
  | right wd nx =>
    cases head with
    | none => trivial
    | some h =>
      cases h with
      | num v =>
        cases wait with
        | num u r =>
          obtain ⟨e, rfl, c, k'⟩ := k
          obtain ⟨e', h1, w'⟩ := w
          cases Nat.succ.inj h1
          exact ⟨⟨e, k', w'⟩, by show wsz r ≤ wsz r + 1 + 1; omega, Nat.le_refl _⟩
        | nil => trivial
        | cont c e r => trivial
      | _ => exact unfit_b
  | call t nx =>
    cases head with
    | none => trivial
    | some h =>
      cases h with
      | dfn x b ns => exact ⟨⟨0, coded_kb b 1 trivial rfl, behind_wb k.1 k.2 w⟩, behind_sz, Nat.le_refl _⟩
      | _ => exact unfit_b
  | half i nx =>
    cases head with
    | none => trivial
    | some h =>
      cases h with
      | pair a b => exact asks_b (s := ⟨nx, env, wait, some (.pair a b), steps, made⟩) (s0 := ⟨.half i nx, env, wait, some (.pair a b), steps, made⟩) ⟨d, k.2, w⟩ k.1 (Nat.le_succ _) (Nat.le_refl _)
      | _ => exact unfit_b
/-- a fault, a ring, a wait -/
def Stop : Hd → Prop
  | .fault _ _ => True
  | .ring _ => True
  | .waits _ => True
  | _ => False
theorem stop_unfit {kn must : Nm} {h : Hd} (g : Stop h) : unfitH kn must h = h := by cases h <;> first | exact g.elim | rfl
/-- behind a stop nothing is begun -/
theorem stop_fin {fr : Tm → List Nm} {kn : Nm} {lim : Nat} {h : Hd} (g : Stop h) : ∀ (w : Wt) {c : Cd} {d : Nat} {e : En} {steps : Nat} {made : List (Tm × En)} {n : Nat} {gots : List Hd} {needs : List Nm}, Ct c → KB c d → WB w d → wsz w + 2 ≤ n →
    taleM fr kn lim n ⟨c, e, w, some h, steps, made⟩ gots needs = some ⟨needs, steps, made, some h⟩ := by
  have fin2 : ∀ {e : En} {steps : Nat} {made : List (Tm × En)} {n : Nat} {gots : List Hd} {needs : List Nm}, 1 ≤ n → taleM fr kn lim n ⟨.endd, e, .nil, some h, steps, made⟩ gots needs = some ⟨needs, steps, made, some h⟩ := by
    intro e steps made n gots needs hn
    obtain ⟨n, rfl⟩ : ∃ m, n = m + 1 := ⟨n - 1, by omega⟩
    rfl
  have one : ∀ (w : Wt) {c : Cd} {e : En} {steps : Nat} {made : List (Tm × En)} {n : Nat} {gots : List Hd} {needs : List Nm}, c ≠ .endd → Ct c → 2 ≤ n → taleM fr kn lim n ⟨c, e, w, some h, steps, made⟩ gots needs = some ⟨needs, steps, made, some h⟩ := by
    intro w c e steps made n gots needs ne ct hn
    obtain ⟨n, rfl⟩ : ∃ m, n = m + 1 := ⟨n - 1, by omega⟩
    have key : ∀ must, step fr kn (fun _ => none) lim ⟨c, e, w, some h, steps, made⟩ = .go (unfitS kn must h ⟨c, e, w, some h, steps, made⟩) → taleM fr kn lim (n + 1) ⟨c, e, w, some h, steps, made⟩ gots needs = some ⟨needs, steps, made, some h⟩ := fun must z => by
      unfold taleM
      rw [z]
      show taleM fr kn lim n ⟨.endd, e, .nil, some (unfitH kn must h), steps, made⟩ gots needs = _
      rw [stop_unfit g]
      exact fin2 (by omega)
    cases c with
    | endd => exact absurd rfl ne
    | head m v nx => exact ct.elim
    | need m x nx => exact ct.elim
    | form m t nx => exact ct.elim
    | iff a b => exact key numberW (by cases h <;> first | exact g.elim | rfl)
    | left nx => exact key numberW (by cases h <;> first | exact g.elim | rfl)
    | right wd nx => exact key numberW (by cases h <;> first | exact g.elim | rfl)
    | call t nx => exact key defW (by cases h <;> first | exact g.elim | rfl)
    | half i nx => exact key pairW (by cases h <;> first | exact g.elim | rfl)
  intro w
  induction w with
  | nil =>
    intro c d e steps made n gots needs ct k wb hn
    by_cases z : c = .endd
    · subst z
      exact fin2 (by omega)
    · exact one .nil z ct (by omega)
  | num v r ih =>
    intro c d e steps made n gots needs ct k wb hn
    by_cases z : c = .endd
    · subst z
      obtain ⟨e', h1, _⟩ := wb
      cases (show d = 0 from k)
      cases h1
    · exact one _ z ct (by omega)
  | cont c' e' r ih =>
    intro c d e steps made n gots needs ct k wb hn
    by_cases z : c = .endd
    · subst z
      obtain ⟨_, ct', e2, k', w'⟩ := wb
      obtain ⟨n, rfl⟩ : ∃ m, n = m + 1 := ⟨n - 1, by simp only [wsz] at hn; omega⟩
      show taleM fr kn lim n ⟨c', e', r, some h, steps, made⟩ gots needs = _
      exact ih ct' k' w' (by simp only [wsz] at hn; omega)
    · exact one _ z ct (by omega)
/-- more fuel, the same tale -/
theorem tale_more {fr : Tm → List Nm} {kn : Nm} {lim : Nat} {Y : Tale} : ∀ (n : Nat) {m : Nat} {s : St} {gots : List Hd} {needs : List Nm}, taleM fr kn lim n s gots needs = some Y → n ≤ m → taleM fr kn lim m s gots needs = some Y
  | 0, m, s, gots, needs, h, l => by cases h
  | n + 1, m, s, gots, needs, h, l => by
    obtain ⟨m, rfl⟩ : ∃ k, m = k + 1 := ⟨m - 1, by omega⟩
    unfold taleM at h ⊢
    cases e : step fr kn (fun _ => none) lim s with
    | go s' =>
      rw [e] at h
      exact tale_more n h (by omega)
    | fin s' => rw [e] at h; exact h
    | need s' k =>
      rw [e] at h
      cases gots with
      | nil => exact h
      | cons g r => exact tale_more n h (by omega)
    | out s' => rw [e] at h; cases h
    | bad => rw [e] at h; cases h
/-- told less: up to the need that isn't told; told a stop there: it ends with it -/
theorem tale_cut {fr : Tm → List Nm} {kn : Nm} {lim : Nat} {Y : Tale} : ∀ (n : Nat) {s : St} {gots : List Hd} {needs : List Nm} (i : Nat), taleM fr kn lim n s gots needs = some Y → SB s → needs.length + i < Y.needs.length →
    ∃ steps made, taleM fr kn lim n s (gots.take i) needs = some ⟨Y.needs.take (needs.length + i + 1), steps, made, none⟩ ∧ steps ≤ Y.steps ∧ ∀ h rest m, Stop h → i ≤ gots.length → 2 * n + wsz s.wait + 3 ≤ m → taleM fr kn lim m s (gots.take i ++ h :: rest) needs = some ⟨Y.needs.take (needs.length + i + 1), steps, made, some h⟩
  | 0, s, gots, needs, i, h, b, l => by cases h
  | n + 1, s, gots, needs, i, h, b, l => by
    have sb := step_b (fr := fr) (kn := kn) (lim := lim) b
    unfold taleM at h
    cases e : step fr kn (fun _ => none) lim s with
    | out s' => rw [e] at h; cases h
    | bad => rw [e] at h; cases h
    | fin s' =>
      rw [e] at h
      simp only at h
      split at h
      · cases h
      · cases Option.some.inj h
        simp only at l
        omega
    | go s' =>
      rw [e] at h sb
      obtain ⟨st, md, h1, h2, h3⟩ := tale_cut n i h sb.1 l
      refine ⟨st, md, ?_, h2, fun hd rest m g il ml => ?_⟩
      · unfold taleM
        rw [e]
        exact h1
      · obtain ⟨m, rfl⟩ : ∃ k, m = k + 1 := ⟨m - 1, by omega⟩
        unfold taleM
        rw [e]
        have := sb.2.1
        exact h3 hd rest m g il (by omega)
    | need s' k =>
      rw [e] at h sb
      obtain ⟨b', ct, wz, sl⟩ := sb
      cases gots with
      | nil =>
        cases Option.some.inj h
        simp only [List.length_append, List.length_singleton] at l
        have hi : i = 0 := by omega
        subst hi
        refine ⟨s'.steps, s'.made, ?_, Nat.le_refl _, fun hd rest m g il ml => ?_⟩
        · unfold taleM
          rw [e]
          simp [List.take_of_length_le]
        · obtain ⟨m, rfl⟩ : ∃ k, m = k + 1 := ⟨m - 1, by omega⟩
          obtain ⟨d, k1, w1⟩ := b'
          unfold taleM
          rw [e]
          obtain ⟨c', e', w', hd', st', md'⟩ := s'
          show taleM fr kn lim m ⟨c', e', w', some hd, st', md'⟩ rest (needs ++ [k]) = _
          have := wz
          simp only at this
          rw [stop_fin g w' ct k1 w1 (by omega)]
          simp [List.take_of_length_le]
      | cons g0 r =>
        have h : taleM fr kn lim n { s' with head := some g0 } r (needs ++ [k]) = some Y := h
        -- Y.needs begins with these
        cases i with
        | zero =>
          have pre : ∀ (n : Nat) {s : St} {gots : List Hd} {needs : List Nm}, taleM fr kn lim n s gots needs = some Y → ∃ more, Y.needs = needs ++ more := by
            intro n
            induction n with
            | zero => intro s gots needs h; cases h
            | succ n ih =>
              intro s gots needs h
              unfold taleM at h
              cases e : step fr kn (fun _ => none) lim s with
              | out s' => rw [e] at h; cases h
              | bad => rw [e] at h; cases h
              | fin s' =>
                rw [e] at h
                simp only at h
                split at h
                · cases h
                · cases Option.some.inj h
                  exact ⟨[], (List.append_nil _).symm⟩
              | go s' => rw [e] at h; exact ih h
              | need s' k =>
                rw [e] at h
                cases gots with
                | nil =>
                  cases Option.some.inj h
                  exact ⟨[k], rfl⟩
                | cons g r =>
                  obtain ⟨more, h⟩ := ih (show taleM fr kn lim n { s' with head := some g } r (needs ++ [k]) = some Y from h)
                  exact ⟨k :: more, by rw [h]; simp⟩
          have mono : ∀ (n : Nat) {s : St} {gots : List Hd} {needs : List Nm}, SB s → taleM fr kn lim n s gots needs = some Y → s.steps ≤ Y.steps := by
            intro n
            induction n with
            | zero => intro s gots needs b h; cases h
            | succ n ih =>
              intro s gots needs b h
              have sb := step_b (fr := fr) (kn := kn) (lim := lim) b
              unfold taleM at h
              cases e : step fr kn (fun _ => none) lim s with
              | out s' => rw [e] at h; cases h
              | bad => rw [e] at h; cases h
              | fin s' =>
                rw [e] at h sb
                simp only at h
                split at h
                · cases h
                · cases Option.some.inj h
                  exact sb
              | go s' =>
                rw [e] at h sb
                exact Nat.le_trans sb.2.2 (ih sb.1 h)
              | need s' k =>
                rw [e] at h sb
                cases gots with
                | nil =>
                  cases Option.some.inj h
                  exact sb.2.2.2
                | cons g r => exact Nat.le_trans sb.2.2.2 (ih (s := { s' with head := some g }) sb.1 h)
          obtain ⟨more, hm⟩ := pre n h
          have tk : Y.needs.take (needs.length + 0 + 1) = needs ++ [k] := by
            rw [hm, List.take_append_of_le_length (by simp), List.take_of_length_le (by simp)]
          rw [tk]
          refine ⟨s'.steps, s'.made, ?_, mono n (s := { s' with head := some g0 }) b' h, fun hd rest m g il ml => ?_⟩
          · unfold taleM
            rw [e]
            rfl
          · obtain ⟨m, rfl⟩ : ∃ k, m = k + 1 := ⟨m - 1, by omega⟩
            obtain ⟨d, k1, w1⟩ := b'
            unfold taleM
            rw [e]
            obtain ⟨c', e', w', hd', st', md'⟩ := s'
            show taleM fr kn lim m ⟨c', e', w', some hd, st', md'⟩ rest (needs ++ [k]) = _
            have := wz
            simp only at this
            exact stop_fin g w' ct k1 w1 (by omega)
        | succ i =>
          obtain ⟨st, md, h1, h2, h3⟩ := tale_cut n (s := { s' with head := some g0 }) i h b' (by simp only [List.length_append, List.length_singleton]; omega)
          have el : (needs ++ [k]).length + i + 1 = needs.length + (i + 1) + 1 := by simp only [List.length_append, List.length_singleton]; omega
          rw [el] at h1 h3
          refine ⟨st, md, ?_, h2, fun hd rest m g il ml => ?_⟩
          · unfold taleM
            rw [e]
            exact h1
          · obtain ⟨m, rfl⟩ : ∃ k, m = k + 1 := ⟨m - 1, by omega⟩
            unfold taleM
            rw [e]
            simp only [List.length_cons] at il
            exact h3 hd rest m g (by omega) (by show 2 * n + wsz s'.wait + 3 ≤ m; omega)
theorem begin_sb {t : Tm} {e : En} : SB { code := coded t 1 .endd, env := e, wait := .nil, head := none, steps := 0, made := [] } := ⟨0, coded_kb t 1 trivial rfl, rfl⟩
end U

set_option Elab.async false
set_option linter.all false
set_option maxRecDepth 100000
set_option maxHeartbeats 4000000
/-! steps of a walk that is told, one behind the other -/
namespace U
/-- from here to there, whatever fuel is left -/
def Rch (fr : Tm → List Nm) (kn : Nm) (lim : Nat) (s : St) (g : List Hd) (nd : List Nm) (s' : St) (g' : List Hd) (nd' : List Nm) (k : Nat) : Prop := ∀ n, taleM fr kn lim (n + k) s g nd = taleM fr kn lim n s' g' nd'
section
variable {fr : Tm → List Nm} {kn : Nm} {lim : Nat}
theorem Rch.trans {s s1 s2 : St} {g g1 g2 : List Hd} {nd nd1 nd2 : List Nm} {k k1 : Nat} (a : Rch fr kn lim s g nd s1 g1 nd1 k) (b : Rch fr kn lim s1 g1 nd1 s2 g2 nd2 k1) : Rch fr kn lim s g nd s2 g2 nd2 (k + k1) := fun n => by
  rw [show n + (k + k1) = n + k1 + k by omega, a, b]
theorem Rch.go {s s1 : St} {g : List Hd} {nd : List Nm} (h : step fr kn (fun _ => none) lim s = .go s1) : Rch fr kn lim s g nd s1 g nd 1 := fun n => by
  show taleM fr kn lim (n + 1) s g nd = _
  rw [taleM, h]
theorem Rch.need {s s1 : St} {h0 : Hd} {g : List Hd} {nd : List Nm} {x : Nm} (h : step fr kn (fun _ => none) lim s = .need s1 x) : Rch fr kn lim s (h0 :: g) nd { s1 with head := some h0 } g (nd ++ [x]) 1 := fun n => by
  show taleM fr kn lim (n + 1) s (h0 :: g) nd = _
  rw [taleM, h]
theorem step_head {m : Nat} {v : Int} {nx : Cd} {e : En} {w : Wt} {h : Option Hd} {st : Nat} {md : List (Tm × En)} (l : st + m ≤ lim) : step fr kn (fun _ => none) lim ⟨.head m v nx, e, w, h, st, md⟩ = .go ⟨nx, e, w, some (.num v), st + m, md⟩ := by
  simp only [step, begins, if_neg (show ¬ st + m > lim by omega)]
theorem step_need {m : Nat} {x y : Nm} {nx : Cd} {e : En} {w : Wt} {h : Option Hd} {st : Nat} {md : List (Tm × En)} (l : st + m ≤ lim) (hy : (getR e x).getD x = y) : step fr kn (fun _ => none) lim ⟨.need m x nx, e, w, h, st, md⟩ = .need ⟨nx, e, w, h, st + m, md⟩ y := by
  simp only [step, begins, asks, if_neg (show ¬ st + m > lim by omega), hy]
theorem step_form {m : Nat} {t : Tm} {nx : Cd} {e : En} {w : Wt} {h : Option Hd} {st : Nat} {md : List (Tm × En)} (l : st + m ≤ lim) : step fr kn (fun _ => none) lim ⟨.form m t nx, e, w, h, st, md⟩ = formS fr kn t nx ⟨.form m t nx, e, w, h, st + m, md⟩ := by
  simp only [step, begins, if_neg (show ¬ st + m > lim by omega)]
end
theorem getR_cons {α : Type} {r : List Nat × α} {rows : List (List Nat × α)} {l : List Nat} : getR (r :: rows) l = if r.1 = l then some r.2 else getR rows l := by
  unfold getR
  rw [List.find?_cons]
  by_cases e : r.1 = l <;> simp [e]
theorem getR_ne {α : Type} {n l : List Nat} {k : α} (h : l ≠ n) : ∀ rows : List (List Nat × α), getR (putR rows n k) l = getR rows l := by
  have m : ∀ rows : List (List Nat × α), getR (rows.map (fun r => if r.1 = n then (r.1, k) else r)) l = getR rows l := by
    intro rows
    induction rows with
    | nil => rfl
    | cons r rows ih =>
      rw [List.map_cons, getR_cons, getR_cons, ih]
      by_cases e : r.1 = n
      · rw [if_pos e, if_neg (show ¬ r.1 = l from fun z => h (z.symm.trans e)), if_neg (show ¬ r.1 = l from fun z => h (z.symm.trans e))]
      · rw [if_neg e]
  have a : ∀ rows : List (List Nat × α), getR (rows ++ [(n, k)]) l = getR rows l := by
    intro rows
    induction rows with
    | nil =>
      rw [List.nil_append, getR_cons, if_neg (show ¬ n = l from fun z => h z.symm)]
    | cons r rows ih => rw [List.cons_append, getR_cons, getR_cons, ih]
  intro rows
  unfold putR
  split
  · exact m rows
  · exact a rows
theorem getR_eq {α : Type} {n : List Nat} {k : α} : ∀ rows : List (List Nat × α), getR (putR rows n k) n = some k := by
  have m : ∀ rows : List (List Nat × α), rows.any (fun r => decide (r.1 = n)) = true → getR (rows.map (fun r => if r.1 = n then (r.1, k) else r)) n = some k := by
    intro rows
    induction rows with
    | nil => intro h; cases h
    | cons r rows ih =>
      intro h
      rw [List.map_cons, getR_cons]
      by_cases e : r.1 = n
      · rw [if_pos e, if_pos e]
      · rw [if_neg e, if_neg e]
        rw [List.any_cons, decide_eq_false e, Bool.false_or] at h
        exact ih h
  have a : ∀ rows : List (List Nat × α), ¬ rows.any (fun r => decide (r.1 = n)) = true → getR (rows ++ [(n, k)]) n = some k := by
    intro rows
    induction rows with
    | nil => intro h; rw [List.nil_append, getR_cons, if_pos rfl]
    | cons r rows ih =>
      intro h
      rw [List.any_cons] at h
      have e : ¬ r.1 = n := fun e => h (by rw [decide_eq_true e, Bool.true_or])
      rw [List.cons_append, getR_cons, if_neg e]
      exact ih fun z => h (by rw [z, Bool.or_true])
  intro rows
  unfold putR
  split
  · rename_i h
    exact m rows h
  · rename_i h
    exact a rows h
end U

set_option Elab.async false
set_option linter.all false
set_option maxRecDepth 100000
set_option maxHeartbeats 4000000
/-! terms that lead to numbers: what is needed, how many are begun, what is made, told just so -/
namespace U
open PySem L2
theorem Rch.nil {fr : Tm → List Nm} {kn : Nm} {lim : Nat} {s : St} {g : List Hd} {nd : List Nm} : Rch fr kn lim s g nd s g nd 0 := fun n => rfl
theorem behind_fin {fr : Tm → List Nm} {kn : Nm} {lim : Nat} {nx : Cd} {e e' : En} {w : Wt} {h : Option Hd} {st : Nat} {md : List (Tm × En)} {g : List Hd} {nd : List Nm} : ∃ k e2, k ≤ 1 ∧ (nx ≠ .endd → e2 = e) ∧ Rch fr kn lim ⟨.endd, e', behindW nx e w, h, st, md⟩ g nd ⟨nx, e2, w, h, st, md⟩ g nd k := by
  unfold behindW
  split
  · rename_i z
    subst z
    exact ⟨0, e', Nat.zero_le _, fun h => absurd rfl h, .nil⟩
  · exact ⟨1, e, Nat.le_refl _, fun _ => rfl, .go rfl⟩
/-- in these names, so many being made, told these: it comes to this number, so many more terms are begun, these are made -/
def LdX (fr : Tm → List Nm) (kn : Nm) (lim : Nat) (t : Tm) (e : En) (c : Nat) (N : List (Nm × Hd)) (v : Int) (S F : Nat) (M : List (Tm × En)) : Prop := ∀ (m : Nat) (nx : Cd) (w : Wt) (h0 : Option Hd) (st : Nat) (md : List (Tm × En)) (rest : List Hd) (nd : List Nm), md.length = c → 1 ≤ m → st + m + S ≤ lim →
  ∃ k e2, k ≤ F ∧ (nx ≠ .endd → e2 = e) ∧ Rch fr kn lim ⟨coded t m nx, e, w, h0, st, md⟩ (N.map (·.2) ++ rest) nd ⟨nx, e2, w, some (.num v), st + m + S, md ++ M⟩ rest (nd ++ N.map (·.1)) k
section
variable {fr : Tm → List Nm} {kn : Nm} {lim : Nat}
theorem in_small {v : Int} (h : v.natAbs ≤ 1000) : inB v = true := by
  simp only [inB, Bool.and_eq_true, decide_eq_true_eq]
  omega
theorem step_right {wd : Wd} {u v : Int} {nx : Cd} {e : En} {w : Wt} {st : Nat} {md : List (Tm × En)} (b : (reck wd u v).natAbs ≤ 1000) : step fr kn (fun _ => none) lim ⟨.right wd nx, e, .num u w, some (.num v), st, md⟩ = .go ⟨nx, e, w, some (.num (reck wd u v)), st, md⟩ := by
  show Out.go _ = _
  simp only [reckH, in_small b, if_true]
theorem ldx_num {l : List Nat} {v : Int} (hv : numVal l = v) {e : En} {c : Nat} : LdX fr kn lim (.atom .num l) e c [] v 0 1 [] := fun m nx w h0 st md rest nd hc m1 hl =>
  ⟨1, e, Nat.le_refl _, fun _ => rfl, by
    simp only [List.map_nil, List.append_nil, List.nil_append]
    show Rch fr kn lim ⟨.head m (numVal _) nx, e, w, h0, st, md⟩ rest nd _ _ _ _
    rw [hv]
    exact .go (step_head (by omega))⟩
theorem ldx_ask {k : Kd} (hk : k ≠ .num) {l y : Nm} {v : Int} {e : En} (hy : (getR e l).getD l = y) {c : Nat} : LdX fr kn lim (.atom k l) e c [(y, .num v)] v 0 1 [] := fun m nx w h0 st md rest nd hc m1 hl =>
  ⟨1, e, Nat.le_refl _, fun _ => rfl, by
    have r : Rch fr kn lim ⟨.need m l nx, e, w, h0, st, md⟩ (.num v :: rest) nd ⟨nx, e, w, some (.num v), st + m, md⟩ rest (nd ++ [y]) 1 := .need (step_need (by omega) hy)
    have hc : coded (.atom k l) m nx = .need m l nx := by cases k <;> first | exact absurd rfl hk | rfl
    rw [hc, List.append_nil]
    exact r⟩
theorem ldx_bin {wd : Wd} (hw : wd = .sum ∨ wd = .less ∨ wd = .times ∨ wd = .below) {x t : Tm} {e : En} {c : Nat} {Nx N : List (Nm × Hd)} {u v : Int} {Sx S Fx F : Nat} {Mx M : List (Tm × En)} (hx : LdX fr kn lim x e c Nx u Sx Fx Mx) (ht : LdX fr kn lim t e (c + Mx.length) N v S F M) (hb : (reck wd u v).natAbs ≤ 1000) :
    LdX fr kn lim (.n2 wd [] x t) e c (Nx ++ N) (reck wd u v) (Sx + S + 2) (Fx + F + 2) (Mx ++ M) := fun m nx w h0 st md rest nd hl m1 l => by
  obtain ⟨k1, e1, a1, a3, a5⟩ := hx (m + 1) (.left (coded t 1 (.right wd nx))) w h0 st md (N.map (·.2) ++ rest) nd hl (by omega) (by omega)
  have ee := a3 (by intro z; cases z)
  subst ee
  obtain ⟨k2, e2, c1, c3, c5⟩ := ht 1 (.right wd nx) (.num u w) (some (.num u)) (st + (m + 1) + Sx) (md ++ Mx) rest (nd ++ Nx.map (·.1)) (by rw [List.length_append, hl]) (Nat.le_refl _) (by omega)
  have ee := c3 (by intro z; cases z)
  subst ee
  have hc : coded (.n2 wd [] x t) m nx = coded x (m + 1) (.left (coded t 1 (.right wd nx))) := by rcases hw with rfl | rfl | rfl | rfl <;> rfl
  refine ⟨k1 + 1 + k2 + 1, e2, by omega, fun _ => rfl, ?_⟩
  rw [hc]
  have key := ((a5.trans (.go rfl)).trans c5).trans (.go (step_right hb))
  rw [show st + m + (Sx + S + 2) = st + (m + 1) + Sx + 1 + S by omega]
  simpa only [List.map_append, List.append_assoc] using key
/-- a let: what is let is made, what follows is read in its names -/
theorem ldx_let {z y : Tm} {b : Nm} {e : En} {c : Nat} {N : List (Nm × Hd)} {v : Int} {S F : Nat} {M : List (Tm × En)} (hy : LdX fr kn lim y (putR e b (madeNm kn (c + 1))) (c + 1) N v S F M) : LdX fr kn lim (.n2 .lett b z y) e c N v (S + 1) (F + 2) ((z, e) :: M) := fun m nx w h0 st md rest nd hc m1 hl => by
  subst hc
  obtain ⟨k1, e1, a1, a3, a5⟩ := hy 1 .endd (behindW nx e w) none (st + m) (md ++ [(z, e)]) rest nd (by simp) (Nat.le_refl _) (by omega)
  obtain ⟨k, e2, hk, he, hr⟩ := behind_fin (fr := fr) (kn := kn) (lim := lim) (nx := nx) (e := e) (e' := e1) (w := w) (h := some (.num v)) (st := st + m + 1 + S) (md := md ++ [(z, e)] ++ M) (g := rest) (nd := nd ++ N.map (·.1))
  refine ⟨1 + k1 + k, e2, by omega, he, ?_⟩
  have r1 : Rch fr kn lim ⟨.form m (.n2 .lett b z y) nx, e, w, h0, st, md⟩ (N.map (·.2) ++ rest) nd ⟨coded y 1 .endd, putR e b (madeNm kn (md.length + 1)), behindW nx e w, none, st + m, md ++ [(z, e)]⟩ (N.map (·.2) ++ rest) nd 1 := .go (step_form (by omega))
  have key := (r1.trans a5).trans hr
  rw [show st + m + (S + 1) = st + m + 1 + S by omega]
  show Rch fr kn lim ⟨.form m (.n2 .lett b z y) nx, e, w, h0, st, md⟩ _ _ _ _ _ _
  simpa only [List.append_assoc, List.cons_append, List.nil_append] using key
/-- a term that leads to a def: what is needed, how many more are begun -/
def LdD (fr : Tm → List Nm) (kn : Nm) (lim : Nat) (t : Tm) (e : En) (N : List (Nm × Hd)) (h : Hd) (S F : Nat) : Prop := ∀ (m : Nat) (nx : Cd) (w : Wt) (h0 : Option Hd) (st : Nat) (md : List (Tm × En)) (rest : List Hd) (nd : List Nm), 1 ≤ m → st + m + S ≤ lim →
  ∃ k, k ≤ F ∧ Rch fr kn lim ⟨coded t m nx, e, w, h0, st, md⟩ (N.map (·.2) ++ rest) nd ⟨nx, e, w, some h, st + m + S, md⟩ rest (nd ++ N.map (·.1)) k
theorem ldd_ask {k : Kd} (hk : k ≠ .num) {l y : Nm} {h : Hd} {e : En} (hy : (getR e l).getD l = y) : LdD fr kn lim (.atom k l) e [(y, h)] h 0 1 := fun m nx w h0 st md rest nd m1 hl =>
  ⟨1, Nat.le_refl _, by
    have r : Rch fr kn lim ⟨.need m l nx, e, w, h0, st, md⟩ (h :: rest) nd ⟨nx, e, w, some h, st + m, md⟩ rest (nd ++ [y]) 1 := .need (step_need (by omega) hy)
    have hc : coded (.atom k l) m nx = .need m l nx := by cases k <;> first | exact absurd rfl hk | rfl
    rw [hc]
    exact r⟩
theorem ldd_def {b : Nm} {x : Tm} {e : En} : LdD fr kn lim (.n1 .deff b x) e [] (.dfn b x (rowsOf (fr (.n1 .deff b x)) e)) 0 1 := fun m nx w h0 st md rest nd m1 hl =>
  ⟨1, Nat.le_refl _, by
    have r : Rch fr kn lim ⟨.form m (.n1 .deff b x) nx, e, w, h0, st, md⟩ rest nd ⟨nx, e, w, some (.dfn b x (rowsOf (fr (.n1 .deff b x)) e)), st + m, md⟩ rest nd 1 := .go (step_form (by omega))
    show Rch fr kn lim ⟨.form m (.n1 .deff b x) nx, e, w, h0, st, md⟩ _ _ _ _ _ _
    simpa only [List.map_nil, List.append_nil, List.nil_append, Nat.add_zero] using r⟩
theorem ldd_first {t : Tm} {e : En} {N : List (Nm × Hd)} {a b : Nm} {h : Hd} {S F : Nat} (ht : LdD fr kn lim t e N (.pair a b) S F) : LdD fr kn lim (.n1 .first [] t) e (N ++ [(a, h)]) h (S + 1) (F + 1) := fun m nx w h0 st md rest nd m1 hl => by
  obtain ⟨k, hk, r⟩ := ht (m + 1) (.half false nx) w h0 st md (h :: rest) nd (by omega) (by omega)
  refine ⟨k + 1, by omega, ?_⟩
  have r2 : Rch fr kn lim ⟨.half false nx, e, w, some (.pair a b), st + (m + 1) + S, md⟩ (h :: rest) (nd ++ N.map (·.1)) ⟨nx, e, w, some h, st + (m + 1) + S, md⟩ rest (nd ++ N.map (·.1) ++ [a]) 1 := Rch.need (s1 := ⟨nx, e, w, some (.pair a b), st + (m + 1) + S, md⟩) rfl
  have key := r.trans r2
  rw [show st + m + (S + 1) = st + (m + 1) + S by omega]
  show Rch fr kn lim ⟨coded t (m + 1) (.half false nx), e, w, h0, st, md⟩ _ _ _ _ _ _
  simpa only [List.map_append, List.append_assoc, List.map_cons, List.map_nil, List.cons_append, List.nil_append] using key
/-- a call: what is given is made, the def's term is read in the def's names -/
theorem ldx_call {f a b : Tm} {e ns : En} {x : Nm} {c : Nat} {Nf N : List (Nm × Hd)} {v : Int} {Sf Ff S F : Nat} {M : List (Tm × En)} (hf : LdD fr kn lim f e Nf (.dfn x b ns) Sf Ff) (hb : LdX fr kn lim b (putR (putAll [] ns) x (madeNm kn (c + 1))) (c + 1) N v S F M) : LdX fr kn lim (.n2 .call [] f a) e c (Nf ++ N) v (Sf + S + 2) (Ff + F + 2) ((a, e) :: M) := fun m nx w h0 st md rest nd hc m1 hl => by
  subst hc
  obtain ⟨k0, hk0, r0⟩ := hf (m + 1) (.call a nx) w h0 st md (N.map (·.2) ++ rest) nd (by omega) (by omega)
  obtain ⟨k1, e1, a1, a3, a5⟩ := hb 1 .endd (behindW nx e w) (some (.dfn x b ns)) (st + (m + 1) + Sf) (md ++ [(a, e)]) rest (nd ++ Nf.map (·.1)) (by simp) (Nat.le_refl _) (by omega)
  obtain ⟨k, e2, hk, he, hr⟩ := behind_fin (fr := fr) (kn := kn) (lim := lim) (nx := nx) (e := e) (e' := e1) (w := w) (h := some (.num v)) (st := st + (m + 1) + Sf + 1 + S) (md := md ++ [(a, e)] ++ M) (g := rest) (nd := nd ++ Nf.map (·.1) ++ N.map (·.1))
  refine ⟨k0 + 1 + k1 + k, e2, by omega, he, ?_⟩
  have r1 : Rch fr kn lim ⟨.call a nx, e, w, some (.dfn x b ns), st + (m + 1) + Sf, md⟩ (N.map (·.2) ++ rest) (nd ++ Nf.map (·.1)) ⟨coded b 1 .endd, putR (putAll [] ns) x (madeNm kn (md.length + 1)), behindW nx e w, some (.dfn x b ns), st + (m + 1) + Sf, md ++ [(a, e)]⟩ (N.map (·.2) ++ rest) (nd ++ Nf.map (·.1)) 1 := .go rfl
  have key := ((r0.trans r1).trans a5).trans hr
  rw [show st + m + (Sf + S + 2) = st + (m + 1) + Sf + 1 + S by omega]
  show Rch fr kn lim ⟨coded f (m + 1) (.call a nx), e, w, h0, st, md⟩ _ _ _ _ _ _
  simpa only [List.map_append, List.append_assoc, List.cons_append, List.nil_append] using key
/-- the whole tale of such a term -/
theorem LdX.tale {t : Tm} {e : En} {N : List (Nm × Hd)} {v : Int} {S F : Nat} {M : List (Tm × En)} (h : LdX fr kn lim t e 0 N v S F M) (l : 1 + S ≤ lim) {n : Nat} (hn : F + 1 ≤ n) (rest : List Hd) : taleM fr kn lim n { code := coded t 1 .endd, env := e, wait := .nil, head := none, steps := 0, made := [] } (N.map (·.2) ++ rest) [] = some ⟨N.map (·.1), 1 + S, M, some (.num v)⟩ := by
  obtain ⟨k, e2, hk, _, r⟩ := h 1 .endd .nil none 0 [] rest [] rfl (Nat.le_refl _) (by omega)
  obtain ⟨d, rfl⟩ : ∃ d, n = d + 1 + k := ⟨n - 1 - k, by omega⟩
  rw [r (d + 1), taleM, show step fr kn (fun _ => none) lim ⟨.endd, e2, .nil, some (.num v), 0 + 1 + S, [] ++ M⟩ = .fin ⟨.endd, e2, .nil, some (.num v), 0 + 1 + S, [] ++ M⟩ from rfl]
  simp
end
end U

set_option Elab.async false
set_option linter.all false
set_option maxRecDepth 100000
set_option maxHeartbeats 4000000
/-! enumerate(a tuple) -/
namespace PySem
open Sem (wp)
open AutoSeq1 (wpAny_loadPart')
theorem ent_meets {v : Value} {o : Obj} {H : Heap → Prop} (B : Begins v o H) :
    Meets (Builtin.«enumerate.__new__» ⟨[.type "enumerate", v], []⟩) (fun _ R s => H s.heap ∧
      R (.ok (.ret (.ref (s.heap.push o).objs.size))) { s with heap := (s.heap.push o).push { cls := .type "enumerate", data := .fields #[.none, .bool false, .ref s.heap.objs.size, rawInt 0, .none, .none] } }) :=
  .of_wp fun prog w A R s h => by
    obtain ⟨hp, g, d, tk, os⟩ := s; obtain ⟨h1, h⟩ := h
    have hsub := sub_enumerate
    have q1 : ∀ {A' : Around} {E : Value → Shared → Prop} {Q : Value → Shared → Prop}, Q (.ref hp.objs.size) ⟨hp.push o, g, d, tk, os⟩ → wpAny (model prog w) A' (pyIter v) Q E ⟨hp, g, d, tk, os⟩ :=
      fun q => B.iter prog w _ _ ⟨hp, g, d, tk, os⟩ _ h1 q
    wp_walk using q1
    refine wpAny_stack_any fun st => wpAny_pure ?_
    split
    · rename_i c _ _ _ _ _
      cases (c == Value.type "enumerate")
      · wp_walk using q1
        exact ⟨_, rfl, h⟩
      · wp_walk using q1
        exact ⟨_, rfl, h⟩
    · wp_walk using q1
      exact ⟨_, rfl, h⟩
section
variable {prog : Program} {w : World} {A : Around} {E : Value → Shared → Prop} {s : Shared}
theorem ent_call {v : Value} {o : Obj} {H : Heap → Prop} {Q : Value → Shared → Prop} (B : Begins v o H) (h1 : H s.heap)
    (h : ∀ h', IsEnum h' (s.heap.objs.size + 1) s.heap.objs.size 0 .none → h'.get? s.heap.objs.size = some o → h'.objs.size = s.heap.objs.size + 2 →
      (∀ b o, s.heap.get? b = some o → h'.get? b = some o) → Q (.ref (s.heap.objs.size + 1)) { s with heap := h' }) :
    wpAny (model prog w) A (call (.type "enumerate") [v]) Q E s := by
  refine callType_new F.called_enumerate (by decide) (F.typeCall_enumerate_1 _) (F.newCall_enumerate_1 _) (fun obj => F.args_object_init_2 obj _) F.entry_enumerate_new
    (ent_meets B) ⟨h1, ?_⟩
  have hz : (s.heap.push o).objs.size = s.heap.objs.size + 1 := Heap.size_push ..
  show _ ∧ _
  rw [hz]
  have he : IsEnum ((s.heap.push o).push { cls := .type "enumerate", data := .fields #[.none, .bool false, .ref s.heap.objs.size, rawInt 0, .none, .none] }) (s.heap.objs.size + 1) s.heap.objs.size 0 .none := by
    have := Heap.get?_push_size (s.heap.push o) (o := { cls := .type "enumerate", data := .fields #[.none, .bool false, .ref s.heap.objs.size, rawInt 0, .none, .none] }) rfl
    rw [hz] at this; exact this
  refine ⟨⟨_, he, rfl⟩, h _ he (Heap.get?_push_of_some _ (Heap.get?_push_size _ B.free)) (by rw [Heap.size_push, hz]) fun b o x => Heap.get?_push_of_some _ (Heap.get?_push_of_some _ x)⟩
end
end PySem
namespace U
open PySem PySem.Spec PyProof.Rows L2
/-- the tuple at a, each item in a new pair -/
def IteT (K : PySem.W.Frag) (a : Addr) : It :=
  ⟨fun i H => ∃ (xs : List V) (x : V), SqT K H a xs ∧ xs[i]? = some x, fun i H v H' => ∃ T x, v = .ref T ∧ H T = none ∧ H' = upd H T (.tup [.int (i : Nat), x]) ∧ ∀ xs, SqT K H a xs → xs[i]? = some x, fun i H => ∃ xs : List V, SqT K H a xs ∧ xs.length = i⟩
theorem turn_enumT {P : Program} {w : World} {K : PySem.W.Frag} {elts : List Expr} {kk : Nat} {tpos : Pos} (a e it : Addr) :
    Turn P w K (.Tuple elts kk tpos) (IteT K a) [e, it] e (fun i h => (∃ old, IsEnum h e it ((i : Nat) : Int) old) ∧ h.IsTupleIter it a i ∧ e ≠ it) where
  mem := by simp
  obj := fun i h st b hb => by
    obtain ⟨⟨old, he⟩, ⟨o, ho, hc, hd⟩, _⟩ := st
    have e' : b = e ∨ b = it := by simpa using hb
    rcases e' with z | z
    · rw [z]; exact ⟨_, he, fun v q => nomatch q⟩
    · rw [z]; exact ⟨o, ho, fun v q => by rw [hd] at q; cases q⟩
  keep := fun i h h' st k => let ⟨⟨old, he⟩, hi, hne⟩ := st; ⟨⟨old, k e (by simp) _ he⟩, hi.at fun o q => k it (by simp) o q, hne⟩
  item := by
    intro X hP hw hK hc i pins s σ H E I hf st hg
    subst hP hw hK
    obtain ⟨⟨old, he⟩, hit, hne⟩ := st
    obtain ⟨xs, x, hq, hx⟩ := hg
    obtain ⟨its, rv, p, hz⟩ := I.tuple hq
    obtain ⟨u, hu, ru⟩ := rv.get hx
    have hel : e < s.heap.objs.size := Heap.lt_size he
    have hil : it < s.heap.objs.size := by obtain ⟨_, q, _⟩ := hit; exact Heap.lt_size q
    have nae : a ≠ e := fun z => by
      obtain ⟨o, ho, hoc, _⟩ := p
      have he' : s.heap.get? e = some _ := he
      rw [z, he'] at ho
      cases ho
      injection hoc with hoc
      exact absurd hoc (by decide)
    have nai : a ≠ it := fun z => by
      obtain ⟨o, ho, hoc, _⟩ := p
      obtain ⟨o2, ho2, hc2, _⟩ := hit
      rw [z, ho2] at ho
      cases ho
      rw [hoc] at hc2
      injection hc2 with hc2
      exact absurd hc2 (by decide)
    have hlt : i < its.toArray.size := by
      have := (List.getElem?_eq_some_iff.mp hu).1
      simpa using this
    refine wpAny_pyNext_enum_itemC (Draws.tuple (show X.A.in1.handled = none from I.ok.hd hc) it a nai its.toArray) he ⟨hit, p⟩ hlt hne (by simp [hne, Ne.symm nae]) fun x' h' tk hP ho hs' hT hsz hk => ?_
    have ex : x' = u := by
      rw [List.getElem?_toArray, hu] at hP
      exact (Option.some.inj hP).symm
    subst ex
    refine ⟨_, rfl, wpAny_letOwnedTupleGo_enum (s := { s with heap := h', toks := tk + 1 }) ho fun h'' he' sb => ?_⟩
    have hT2 : h''.get? s.heap.objs.size = some { cls := .type "tuple", data := .seq #[.int i tk, x'] } := (sb.2 _ (Nat.ne_of_gt hel)).trans hT
    have new : ObjOk X.prog X.w (upd H s.heap.objs.size (.tup [.int (i : Nat), x])) h'' s.heap.objs.size (.tup [.int (i : Nat), x]) :=
      ⟨by show 2 ≤ sizeLine; decide, [.int i tk, x'], .cons ⟨_, rfl⟩ (.cons ru .nil), ⟨_, hT2, rfl, _, rfl⟩⟩
    have I1 : Inv X pins σ (upd H s.heap.objs.size (.tup [.int (i : Nat), x])) { s with heap := h'', toks := tk + 1 } :=
      I.turnedNew (ch := [e, it]) (fun b ob hb q => (sb.2 b (fun z => hb (by simp [z]))).trans (hk b ob (fun z => hb (by simp [z])) (fun z => hb (by simp [z])) q)) hf (Nat.le_refl _) new
    refine ⟨.ref s.heap.objs.size, _, I1, rfl, ⟨_, x, rfl, I.hok.fresh (Nat.le_refl _), rfl, fun ys hy => by rw [I.tuple_inj hy hq]; exact hx⟩, ⟨⟨x', ?_⟩, hs'.1.at fun o q => (sb.2 it (Ne.symm hne)).trans q, hne⟩, fun b hb => ?_⟩
    · have e1 : ((i + 1 : Nat) : Int) = (i : Int) + 1 := by omega
      rw [e1]; exact he'
    · have hb' : b < s.heap.objs.size := by
        have e' : b = e ∨ b = it := by simpa using hb
        rcases e' with z | z
        · rw [z]; exact hel
        · rw [z]; exact hil
      rw [upd_ne (Nat.ne_of_lt hb')]
      exact (hf b hb).1
  done := by
    intro X hP hw hK hc i pins s σ H E I hf st hg
    subst hP hw hK
    obtain ⟨⟨old, he⟩, hit, hne⟩ := st
    obtain ⟨xs, hq, hx⟩ := hg
    obtain ⟨its, rv, p, hz⟩ := I.tuple hq
    obtain ⟨f0, f1, f2, f3, f4, f5⟩ := hf it (by simp)
    have hl := rv.length
    have nai : a ≠ it := fun z => by
      obtain ⟨o, ho, hoc, _⟩ := p
      obtain ⟨o2, ho2, hc2, _⟩ := hit
      rw [z, ho2] at ho
      cases ho
      rw [hoc] at hc2
      injection hc2 with hc2
      exact absurd hc2 (by decide)
    have hi : i = its.toArray.size := by
      rw [List.size_toArray, ← hl]
      exact hx.symm
    subst hi
    exact wpAny_pyNext_enum_endD (Draws.tuple (show X.A.in1.handled = none from I.ok.hd hc) it a nai its.toArray) he ⟨hit, p⟩ fun h' eb => ⟨rfl, I.turned (t' := s.toks) (fun b o hb q => eb b o (fun z => hb (by simp [z])) q) f0 f1 f3 f4 f5⟩
  self := fun A i s Q E st h => let ⟨⟨_, he⟩, _⟩ := st; wpAny_pyIter_enum he h
def iEnumT (K : PySem.W.Frag) (ta : TA) : TI := fun σ H R => ta σ H fun vs H1 => ∃ a xs, vs = [.ref a] ∧ SqT K H1 a xs ∧ R (IteT K a) H1
theorem pi_enumT {X : Cx} {e : Expr} {ta : TA} {p pos tpos : Pos} {elts : List Expr} {kk : Nat} (hg : Gl X "enumerate") (hm : X.mg "enumerate" = none) (ha : PA X [e] ta) (hs : starEach [e] X.env = [(false, eval e X.env)] := by rfl) :
    PI X (.Tuple elts kk tpos) (.Call (.Name "enumerate" p) [e] [] pos) (iEnumT X.K ta) := by
  refine ⟨fun pins s σ H R I h => ?_⟩
  refine Call_ (ld_blt I hg hm boot_enumerate (PyProof.Rows.callWith_type1 (thn (ha.run pos pins s σ H _ I h) fun us s1 ⟨vs, H1, I1, r1, q1⟩ => ?_) hs rfl))
  obtain ⟨a, xs, ex, hq, q⟩ := q1
  subst ex
  cases r1 with
  | cons r rr =>
    cases rr
    cases r
    obtain ⟨its, rv, p', hz⟩ := I1.tuple hq
    refine ent_call (begins_tuple a its.toArray) p' fun h' he hit hsz hk => wpAny_pyIter_enum he ?_
    have I2 : Inv X pins σ H1 { s1 with heap := h' } := I1.kept (t' := s1.toks) hk
    refine ⟨s1.heap.objs.size + 1, [s1.heap.objs.size + 1, s1.heap.objs.size], _, _, H1, rfl, I2, turn_enumT a (s1.heap.objs.size + 1) s1.heap.objs.size, ⟨⟨.none, he⟩, ⟨_, hit, rfl, rfl⟩, Nat.succ_ne_self _⟩, fun b hb => ?_, q⟩
    have e' : b = s1.heap.objs.size + 1 ∨ b = s1.heap.objs.size := by simpa using hb
    have hle : s1.heap.objs.size ≤ b := by
      rcases e' with z | z
      · rw [z]; exact Nat.le_add_right _ _
      · rw [z]; exact Nat.le_refl _
    exact I1.fpOk hle (I1.hok.fresh hle)
/-- for i, x in enumerate(a tuple) -/
theorem for_enumT {K : PySem.W.Frag} {a : Addr} {xs : List V} {g : TG} {tb : TS} {D : Ends} {σ : L2.St} {H : Hp} (Pv : Nat → L2.St → Hp → Prop) (h0 : Pv 0 σ H) (hl : ∀ i σ H, i ≤ xs.length → Pv i σ H → SqT K H a xs)
    (hs : ∀ i x σ H T, xs[i]? = some x → Pv i σ H → H T = none → g (.ref T) σ (upd H T (.tup [.int (i : Nat), x])) fun σ2 H2 => tb { D with nx := Pv (i + 1), ct := Pv (i + 1), bk := D.nx } σ2 H2) (hd : ∀ σ H, Pv xs.length σ H → D.nx σ H) :
    ∃ W : Nat → Nat → L2.St → Hp → Prop, (∃ m, W 0 m σ H) ∧ ∀ i m σ H, W i m σ H →
      ((IteT K a).stop i H ∧ D.nx σ H) ∨ ((IteT K a).go i H ∧ ∃ N : L2.St → Hp → Prop, (∀ σ' H', N σ' H' → ∃ m', m' < m ∧ W (i + 1) m' σ' H') ∧ ∀ x H', (IteT K a).yld i H x H' → g x σ H' fun σ2 H2 => tb { D with nx := N, ct := N, bk := D.nx } σ2 H2) := by
  refine ⟨fun i m σ H => m = xs.length - i ∧ i ≤ xs.length ∧ Pv i σ H, ⟨xs.length, by simp, Nat.zero_le _, h0⟩, ?_⟩
  rintro i m σ H ⟨rfl, hi, p⟩
  have q := hl i σ H hi p
  by_cases hlt : i < xs.length
  · refine .inr ⟨⟨xs, xs[i], q, List.getElem?_eq_getElem hlt⟩, Pv (i + 1), fun σ' H' p' => ⟨xs.length - (i + 1), by omega, rfl, hlt, p'⟩, ?_⟩
    rintro v H' ⟨T, x, rfl, hT, rfl, hx⟩
    exact hs i x σ H T (hx xs q) p hT
  · obtain rfl : i = xs.length := by omega
    exact .inl ⟨⟨xs, q, rfl⟩, hd σ H p⟩
end U

set_option Elab.async false
set_option linter.all false
set_option maxRecDepth 100000
set_option maxHeartbeats 4000000
/-! tuple(a list), told by its value or by its object -/
namespace U
open PySem PySem.Spec PyProof.Rows L2
section
variable {X : Cx}
def rTup2 (K : PySem.W.Frag) : List V → Hp → VK → Prop := fun xs H Q => ∃ p ys, xs = [.ref p] ∧ SqL K H p ys ∧ ((∀ l, H l = none → Q (.ref l) (upd H l (.tup ys))) ∨ ∀ l o, H l = none → PlT o → Q (.ref l) (upd H l (.frz o (.tup ys))))
theorem call_tuple2 : CallR X (.type "tuple") (rTup2 X.K) := by
  intro pins s σ H xs us Q I r h
  obtain ⟨p, ys, rfl, hq, q⟩ := h
  obtain ⟨u, rfl, rx⟩ := vals1 r
  cases rx
  obtain ⟨its, r', pl, hz⟩ := I.list hq
  have hlen := r'.length
  refine call_tuple_list pl.isList (fun h' kp => ?_) (by simp only [List.size_toArray] <;> omega)
  have I1 : Inv X pins σ H { s with heap := h' } := I.kept (t' := s.toks) kp
  rcases q with q | q
  · have I2 : Inv X pins σ (upd H h'.objs.size (.tup ys)) { s with heap := h'.push { cls := .type "tuple", data := .seq its.toArray } } :=
      I1.laid (t' := s.toks) (fun b o e => Heap.get?_push_of_some _ e) (Nat.le_refl _) (show ObjOk X.prog X.w _ _ _ (.tup ys) from ⟨hz, its, r', IsTup.new _ _⟩)
    exact ⟨.ref h'.objs.size, _, I2, rfl, q _ (I1.hok.fresh (Nat.le_refl _))⟩
  · have I2 : Inv X pins σ (upd H h'.objs.size (.frz { cls := .type "tuple", data := .seq its.toArray } (.tup ys))) { s with heap := h'.push { cls := .type "tuple", data := .seq its.toArray } } :=
      I1.laid (t' := s.toks) (fun b o e => Heap.get?_push_of_some _ e) (Nat.le_refl _) ⟨Heap.get?_push_size _ rfl, hz, its, r', IsTup.new _ _⟩
    exact ⟨.ref h'.objs.size, _, I2, rfl, q _ _ (I1.hok.fresh (Nat.le_refl _)) ⟨rfl, rfl, _, _, rfl⟩⟩
end
end U

set_option Elab.async false
set_option linter.all false
set_option maxRecDepth 100000
set_option maxHeartbeats 4000000
/-! all but trees stays; a purse beside it; same data -/
namespace K
open PySem PySem.Spec PyProof.Rows L2 U
def KeepC (C : Addr) (H H' : Hp) : Prop := ∀ a o, H a = some o → (∀ dx fs, o ≠ .ins C dx fs) → H' a = some o
theorem KeepC.trans {C : Addr} {H H1 H2 : Hp} (a : KeepC C H H1) (b : KeepC C H1 H2) : KeepC C H H2 := fun p o e n => b p o (a p o e n) n
theorem KeepC.of {C : Addr} {H H1 : Hp} (b : Same H H1) : KeepC C H H1 := fun p o e n => b p o e
theorem KeepC.tup {C : Addr} {H H' : Hp} (b : KeepC C H H') : TupS H H' := fun a l e => b _ _ e (by intro _ _ z; cases z)
def ButC (C p : Addr) (H H' : Hp) : Prop := ∀ a o, H a = some o → a ≠ p → (∀ dx fs, o ≠ .ins C dx fs) → H' a = some o
theorem Purse2.keepC {C p : Addr} {H H' : Hp} {c : Int} (h : Purse2 H p c) (b : KeepC C H H') : Purse2 H' p c := by
  obtain ⟨a, d, h1, h2⟩ := h
  exact ⟨a, d, b _ _ h1 (by intro _ _ z; cases z), h2⟩
theorem Purse2.tupS {p : Addr} {H H' : Hp} {c : Int} (h : Purse2 H p c) (b : But p H H') : TupS H H' := fun a l e => by
  obtain ⟨x, y, h1, _⟩ := h
  exact b _ _ e (ne_of e h1 (by intro z; cases z))
def same2 (d e : PyData) : Bool := SeqAt.shaped d && SeqAt.shaped e && PyData.eqv d e
theorem same_data {d : PyData} (h : SeqAt.shaped d = true) : PyData.eqv d d = true := SeqAt.eqv_refl d (SeqAt.canLay_of_shaped h)
end K

set_option Elab.async false
set_option linter.all false
set_option maxRecDepth 100000
set_option maxHeartbeats 4000000
/-! d.items() of a dict by names; sorted(d.items()), texts by texts, laid in their order -/
namespace U
open PySem PySem.W PySem.Spec PyProof.Rows L2
/-- a pair of texts as data -/
def pairD (r : Str × Str) : PyData := .tuple [.str r.1, .str r.2]
def entS (r : Str × Str) : Key × V := (.inr r.1, .str r.2)
theorem each_at {α β : Type} {R : α → β → Prop} : ∀ {vs : List α} {bs : List β}, vs.length = bs.length → (∀ (j : Nat) (v : α) (b : β), vs[j]? = some v → bs[j]? = some b → R v b) → EachIs R vs bs
  | [], [], _, _ => .nil
  | v :: vs, b :: bs, h, f => .cons (f 0 v b rfl rfl) (each_at (by simpa using h) fun j v b h1 h2 => f (j + 1) v b (by simpa using h1) (by simpa using h2))
  | [], _ :: _, h, _ => by simp at h
  | _ :: _, [], h, _ => by simp at h
theorem ents_at {P : Program} {w : World} : ∀ {e : List (Str × Str)} {kvs : List (Key × Value)} {es : List DictEntry}, KV (e.map entS) kvs → Pairs (mixKind P w) es kvs → es.length = e.length ∧ ∀ (j : Nat) (n : DictEntry), es[j]? = some n → ∃ r t u, e[j]? = some r ∧ n.key = .str r.1 t ∧ n.val = .str r.2 u
  | [], _, _, .nil, .nil => ⟨rfl, fun j n h => by simp at h⟩
  | r :: e, _, _, .cons h kv, .cons (e := m) g1 g2 ps => by
    obtain ⟨ih1, ih2⟩ := ents_at kv ps
    refine ⟨by rw [List.length_cons, List.length_cons, ih1], fun j n hj => ?_⟩
    cases j with
    | zero =>
      cases Option.some.inj hj
      rw [← h.1] at g1
      obtain ⟨t, ht⟩ : RelV (.str r.1) m.key := relV_key (k := .inr r.1) g1
      obtain ⟨u, hu⟩ : RelV (.str r.2) m.val := by
        rw [g2]
        exact h.2
      exact ⟨r, t, u, rfl, ht, hu⟩
    | succ j => exact ih2 j n (by simpa using hj)
section
variable {X : Cx}
def rItemsK : V → List V → Hp → VK → Prop := fun x xs H Q => ∃ (a : Addr) (kvs : List (Key × V)), x = .ref a ∧ xs = [] ∧ H a = some (.dK kvs) ∧ ∀ p, H p = none → Q (.ref p) (upd H p (DX.itemsO p a))
theorem mt_itemsK : MtR X "dict.items" rItemsK := by
  intro pins s σ H x xs v us Q I rx rxs h
  obtain ⟨a, kvs, rfl, rfl, ha, q⟩ := h
  cases rx
  cases rxs
  obtain ⟨_, hd, _, _, o, es, ep, ho, hx, hdat, _⟩ := I.hok a _ ha
  have new : Inv X pins σ (upd H s.heap.objs.size (DX.itemsO s.heap.objs.size a)) _ := I.laid (t' := s.toks) (fun b u e => Heap.get?_push_of_some { cls := .type "dict_items", data := .fields #[.ref a] } e) (Nat.le_refl _) (DX.itemsO_ok (Heap.get?_push_size _ rfl))
  exact DT.callItems (es := es) (ep := ep) hd ⟨o, ho, hx, hdat⟩ ⟨.ref s.heap.objs.size, _, new, rfl, q _ (I.hok.fresh (Nat.le_refl _))⟩
/-- sorted(d.items()): the keys stand in their order already -/
def rSortK : List V → Hp → VK → Prop := fun vs H Q => ∃ (p a : Addr) (e : List (Str × Str)), vs = [.ref p] ∧ H p = some (DX.itemsO p a) ∧ H a = some (.dK (e.map entS)) ∧ e.Pairwise (fun r r' => dataLe false pairD r r' = true) ∧
  ∀ (H' : Hp) (l : Addr) (qs : List Addr), (∀ b o, H b = some o → H' b = some o) → H l = none → H' l = some (.lst (qs.map V.ref)) → Paired (fun q r => H' q = some (.tup [.str r.1, .str r.2])) qs e → Q (.ref l) H'
theorem cr_sortedK (hc : X.calm = true) (hu : X.A.units + 64 < cLine) : CallR X (.builtin "sorted") rSortK := by
  intro pins s σ H xs us Q I r h
  obtain ⟨p, a, e, rfl, hp, ha, asc, q⟩ := h
  obtain rfl := Vals.ref1 r
  have view : s.heap.IsItemsView p a := (show ObjOk X.prog X.w H s.heap p (DX.itemsO p a) from I.hok p _ hp).1
  obtain ⟨z, _, kvs, rel, o, es, ep, ho, hx, hdat, _, prs, _⟩ := I.hok a _ ha
  obtain ⟨el, ents⟩ := ents_at rel prs
  have el : es.size = e.length := by
    rw [← el, Array.length_toList]
  rw [List.length_map] at z
  refine DT.sortedI (es := es) (ep := ep) (I.ok.hd hc) view ⟨o, ho, hx, hdat⟩ (by rw [el]; exact z) fun h' tk as hk hlt hl hG => ?_
  have la : as.length = e.length := hl.trans el
  have nd : as.Nodup := hG.rise.imp fun h => Nat.ne_of_lt h
  -- each pair by its place
  have tupAt : ∀ (j : Nat) (b : Addr), as[j]? = some b → ∃ r t u, e[j]? = some r ∧ h'.get? b = some { cls := .type "tuple", data := .seq #[.str r.1 t, .str r.2 u] } := fun j b hj => by
    obtain ⟨n, hn, hg⟩ := hG.pairs j b hj
    obtain ⟨r, t, u, h1, h2, h3⟩ := ents j n (by rw [Array.getElem?_toList]; exact hn)
    rw [h2, h3] at hg
    exact ⟨r, t, u, h1, hg⟩
  have hob : (h'.push { cls := .type "list", data := .seq (as.map Value.ref).toArray }).get? h'.objs.size = some (seqObj "list" (as.map Value.ref).toArray 0) := Heap.get?_push_size _ rfl
  have kp : ∀ b ob, h'.get? b = some ob → (h'.push { cls := .type "list", data := .seq (as.map Value.ref).toArray }).get? b = some ob := fun b ob e => Heap.get?_push_of_some _ e
  have off : ∀ b ob, h'.get? b = some ob → b ≠ h'.objs.size := fun b ob e => Nat.ne_of_lt (Heap.lt_size e)
  generalize h'.push { cls := .type "list", data := .seq (as.map Value.ref).toArray } = h2 at hob kp ⊢
  refine PySem.W.list_sort_data (R := fun v r => ∃ (j : Nat) (b : Addr), v = .ref b ∧ as[j]? = some b ∧ e[j]? = some r) (bs := e) (enc := pairD) hob ?_ ?_ (AllAlike.of fun b b' => by simp [pairD, alike, alikeAll]) (Sortable.tuples fun b => ⟨.str b.1, [.str b.2], rfl⟩) z (fun b _ => ?_) fun out ol oe => ?_
  · refine each_at (by rw [List.length_map, la]) fun j v r h1 h2 => ?_
    rw [List.getElem?_map] at h1
    obtain ⟨b, hb, rfl⟩ := Option.map_eq_some_iff.mp h1
    exact ⟨j, b, rfl, hb, h2⟩
  · refine each_at (by rw [List.length_map, la]) fun j v r h1 h2 => ?_
    rw [List.getElem?_map] at h1
    obtain ⟨b, hb, rfl⟩ := Option.map_eq_some_iff.mp h1
    obtain ⟨r', t, u, g1, g2⟩ := tupAt j b hb
    cases Option.some.inj (g1.symm.trans h2)
    exact ⟨[], .tuple (kp _ _ g2) rfl rfl (.cons (.str _ _) (.cons (.str _ _) .nil)), by simp⟩
  · have : (pairD b).depth ≤ 4 := by
      simp only [pairD, PyData.depth, PyData.depthAll]
      omega
    show X.A.units + 1 + 1 + _ < cLine
    omega
  · rw [List.mergeSort_of_pairwise asc] at oe
    show EP X pins σ Q (.ref h'.objs.size) { s with heap := sortedHeap h2 h'.objs.size (as.map Value.ref) (List.toArray out), toks := tk }
    have kF : ∀ b ob, h'.get? b = some ob → (sortedHeap h2 h'.objs.size (as.map Value.ref) (List.toArray out)).get? b = some ob := fun b ob g => (sortedHeap_old (off _ _ g) (Heap.lt_size (kp _ _ g))).trans (kp _ _ g)
    obtain ⟨n, hF⟩ := sortedHeap_at (vs := as.map Value.ref) (out := List.toArray out) hob
    generalize sortedHeap h2 h'.objs.size (as.map Value.ref) (List.toArray out) = hE at kF hF ⊢
    -- the addresses, in the list's order
    obtain ⟨qs, eo, hq⟩ : ∃ qs : List Addr, out = qs.map Value.ref ∧ Paired (fun b r => ∃ j : Nat, as[j]? = some b ∧ e[j]? = some r) qs e := by
      have : ∀ {out : List Value} {e' : List (Str × Str)}, EachIs (fun v r => ∃ (j : Nat) (b : Addr), v = .ref b ∧ as[j]? = some b ∧ e[j]? = some r) out e' → ∃ qs : List Addr, out = qs.map Value.ref ∧ Paired (fun b r => ∃ j : Nat, as[j]? = some b ∧ e[j]? = some r) qs e' := fun x => by
        induction x with
        | nil => exact ⟨[], rfl, .nil⟩
        | cons h _ ih =>
          obtain ⟨j, b, rfl, h1, h2⟩ := h
          obtain ⟨qs, rfl, hq⟩ := ih
          exact ⟨b :: qs, rfl, .cons ⟨j, h1, h2⟩ hq⟩
      exact this oe
    have lq : (qs.map V.ref).length ≤ sizeLine := by
      rw [List.length_map, hq.length]
      exact z
    have hn0 : H h'.objs.size = none := I.hok.fresh (Nat.le_of_lt hlt)
    have I1 : Inv X pins σ H { s with heap := hE, toks := tk } := I.kept (t' := tk) fun b ob g => kF _ _ (hk _ _ g)
    have I2 : Inv X pins σ (upd H h'.objs.size (.lst (qs.map V.ref))) { s with heap := hE, toks := tk } :=
      I1.take (h' := hE) (t' := tk) (fun b ob _ g => g) (I.fpOk (Nat.le_of_lt hlt) hn0) ⟨lq, out, n, by rw [eo]; exact L2.vals_maps V.ref Value.ref qs fun _ _ => rfl, hF⟩
    obtain ⟨H2, I3, g, gt⟩ := DX.takeT (P := fun b vs => ∃ (j : Nat) (r : Str × Str), as[j]? = some b ∧ e[j]? = some r ∧ vs = [.str r.1, .str r.2]) I as _ I2 nd fun b hb => by
      obtain ⟨j, hj⟩ := List.mem_iff_getElem?.mp hb
      obtain ⟨r, t, u, h1, h2⟩ := tupAt j b hj
      have low : s.heap.objs.size ≤ b := Nat.le_of_lt (hG.above b hb)
      exact ⟨low, by rw [upd_ne (off _ _ h2)]; exact I.hok.fresh low, _, ⟨j, r, hj, h1, rfl⟩, fun _ => ⟨(by rw [sizeLine_eq]; show 2 ≤ 16777216; omega), [.str r.1 t, .str r.2 u], .cons ⟨t, rfl⟩ (.cons ⟨u, rfl⟩ .nil), ⟨_, kF _ _ h2, rfl, _, rfl⟩⟩⟩
    refine ⟨.ref h'.objs.size, H2, I3, rfl, q H2 h'.objs.size qs (fun b ob x => g _ _ (by rw [upd_ne (ne_of_none x hn0)]; exact x)) hn0 (g _ _ upd_same) (L2.Paired.mapP hq fun b r ⟨j, h1, h2⟩ => ?_)⟩
    obtain ⟨vs, ⟨i, r', i1, i2, rfl⟩, hv⟩ := gt b (List.mem_of_getElem? h1)
    have ij : i = j := (List.getElem?_inj (List.getElem?_eq_some_iff.mp i1).1 nd).mp (i1.trans h1.symm)
    subst ij
    cases Option.some.inj (i2.symm.trans h2)
    exact hv
end
end U

set_option Elab.async false
set_option linter.all false
set_option maxRecDepth 100000
set_option maxHeartbeats 800000
/-! law k10: sums of numbers, names, parts; where a walk stops that is told less -/
namespace U
open PySem L2
/-- a sum of leaves -/
def SumT : Tm → Prop
  | .atom _ _ => True
  | .n2 .sum b x y => b = [] ∧ SumT x ∧ SumT y
  | _ => False
/-- its leaves from the left on -/
def leavesT : Tm → List (Kd × Nm)
  | .atom k l => [(k, l)]
  | .n2 _ _ x y => leavesT x ++ leavesT y
  | _ => []
/-- all terms, a term ahead of those within it -/
def preT : Tm → List Tm
  | .atom k l => [.atom k l]
  | .n1 w b x => .n1 w b x :: preT x
  | .n2 w b x y => .n2 w b x y :: (preT x ++ preT y)
  | .n3 w b x y z => .n3 w b x y z :: (preT x ++ preT y ++ preT z)
/-- is it a leaf that is needed -/
def needT : Tm → Bool
  | .atom .num _ => false
  | .atom _ _ => true
  | _ => false
/-- the places of the leaves that are needed, from this one on -/
def placesT : Nat → List Tm → List Nat
  | _, [] => []
  | i, t :: l => if needT t = true then i :: placesT (i + 1) l else placesT (i + 1) l
theorem places_app : ∀ (a b : List Tm) (i : Nat), placesT i (a ++ b) = placesT i a ++ placesT (i + a.length) b
  | [], b, i => rfl
  | t :: a, b, i => by
    show (if needT t = true then i :: placesT (i + 1) (a ++ b) else placesT (i + 1) (a ++ b)) = (if needT t = true then i :: placesT (i + 1) a else placesT (i + 1) a) ++ placesT (i + (a.length + 1)) b
    rw [places_app a b (i + 1), show i + 1 + a.length = i + (a.length + 1) by omega]
    split <;> rfl
theorem places_shift : ∀ (l : List Tm) (i j : Nat), placesT (i + j) l = (placesT i l).map (· + j)
  | [], _, _ => rfl
  | t :: l, i, j => by
    show (if needT t = true then (i + j) :: placesT (i + j + 1) l else placesT (i + j + 1) l) = (if needT t = true then i :: placesT (i + 1) l else placesT (i + 1) l).map (· + j)
    rw [show i + j + 1 = i + 1 + j by omega, places_shift l (i + 1) j]
    split <;> rfl
/-- what a leaf asks for, in these names -/
def askL (e : En) : Kd × Nm → List Nm
  | (.num, _) => []
  | (_, l) => [(getR e l).getD l]
def asksT (e : En) (t : Tm) : List Nm := (leavesT t).flatMap (askL e)
/-- what the leaves come to, told these -/
def sumT (e : En) (f : Nm → Int) (t : Tm) : Int := ((leavesT t).map fun r => match r with
  | (.num, l) => numVal l
  | (_, l) => f ((getR e l).getD l)).sum
section
variable {fr : Tm → List Nm} {kn : Nm} {lim : Nat}
/-- no more than so much for each leaf -/
theorem sum_le {e : En} {f : Nm → Int} (hf : ∀ k, (f k).natAbs ≤ 100) : ∀ {t : Tm}, SumT t → (∀ r ∈ leavesT t, r.1 = .num → (numVal r.2).natAbs ≤ 100) → (sumT e f t).natAbs ≤ 100 * (leavesT t).length
  | .atom k l, _, hn => by
    have one : ∀ v : Int, v.natAbs ≤ 100 → ([v].sum).natAbs ≤ 100 * 1 := fun v h => by
      simp only [List.sum_cons, List.sum_nil]
      omega
    cases k with
    | num => exact one _ (hn (.num, l) (by simp [leavesT]) rfl)
    | name => exact one _ (hf _)
    | part => exact one _ (hf _)
  | .n2 wd b x y, ht, hn => by
    cases wd with
    | sum =>
      have h1 := sum_le (e := e) hf ht.2.1 fun r hr => hn r (List.mem_append_left _ hr)
      have h2 := sum_le (e := e) hf ht.2.2 fun r hr => hn r (List.mem_append_right _ hr)
      have es : sumT e f (.n2 .sum b x y) = sumT e f x + sumT e f y := by
        simp only [sumT, leavesT, List.map_append, List.sum_append]
      rw [es]
      simp only [leavesT, List.length_append]
      omega
    | _ => exact ht.elim
  | .n1 w b x, ht, _ => ht.elim
  | .n3 w b x y z, ht, _ => ht.elim
theorem pre_pos : ∀ t : Tm, 1 ≤ (preT t).length
  | .atom _ _ => Nat.le_refl _
  | .n1 _ _ _ => by simp [preT]
  | .n2 _ _ _ _ => by simp [preT]
  | .n3 _ _ _ _ _ => by simp [preT]
theorem asks_bin {e : En} {b : Nm} {x y : Tm} : asksT e (.n2 .sum b x y) = asksT e x ++ asksT e y := by
  simp only [asksT, leavesT, List.flatMap_append]
/-- told all that it asks for: the number, all terms begun -/
theorem ldx_sum {e : En} {f : Nm → Int} (hf : ∀ k, (f k).natAbs ≤ 100) : ∀ {t : Tm}, SumT t → (∀ r ∈ leavesT t, r.1 = .num → (numVal r.2).natAbs ≤ 100) → (leavesT t).length ≤ 9 → ∀ c, LdX fr kn lim t e c ((asksT e t).map fun k => (k, Hd.num (f k))) (sumT e f t) ((preT t).length - 1) (2 * (preT t).length) []
  | .atom k l, _, hn, _, c => by
    have up : ∀ {N : List (Nm × Hd)} {v v' : Int}, v = v' → LdX fr kn lim (.atom k l) e c N v 0 1 [] → LdX fr kn lim (.atom k l) e c N v' ((preT (.atom k l)).length - 1) (2 * (preT (.atom k l)).length) [] := fun hv h m nx w h0 st md rest nd a1 a2 a3 => by
      obtain ⟨k, e2, h1, h2, h3⟩ := h m nx w h0 st md rest nd a1 a2 a3
      exact ⟨k, e2, by simp only [preT, List.length_singleton]; omega, h2, hv ▸ h3⟩
    cases k with
    | num => exact up (by simp [sumT, leavesT]) (ldx_num rfl)
    | name => exact up (by simp [sumT, leavesT]) (ldx_ask (k := .name) (by decide) rfl)
    | part => exact up (by simp [sumT, leavesT]) (ldx_ask (k := .part) (by decide) rfl)
  | .n2 wd b x y, ht, hn, hl, c => by
    cases wd with
    | sum =>
      obtain ⟨rfl, hx, hy⟩ := ht
      have nx := fun r hr => hn r (List.mem_append_left _ hr)
      have ny := fun r hr => hn r (List.mem_append_right _ hr)
      simp only [leavesT, List.length_append] at hl
      have l1 := sum_le (e := e) hf hx nx
      have l2 := sum_le (e := e) hf hy ny
      have h := ldx_bin (wd := .sum) (.inl rfl) (ldx_sum hf hx nx (by omega) c) (ldx_sum hf hy ny (by omega) (c + 0)) (by show (sumT e f x + sumT e f y).natAbs ≤ 1000; omega)
      have es : sumT e f (.n2 .sum [] x y) = sumT e f x + sumT e f y := by
        simp only [sumT, leavesT, List.map_append, List.sum_append]
      have p1 := pre_pos x
      have p2 := pre_pos y
      have e1 : (preT x).length - 1 + ((preT y).length - 1) + 2 = (preT (.n2 .sum [] x y)).length - 1 := by simp only [preT, List.length_cons, List.length_append]; omega
      have e2 : 2 * (preT x).length + 2 * (preT y).length + 2 = 2 * (preT (.n2 .sum [] x y)).length := by simp only [preT, List.length_cons, List.length_append]; omega
      rw [e1, e2, ← List.map_append, ← asks_bin (b := [])] at h
      rw [es]
      exact h
    | _ => exact ht.elim
  | .n1 w b x, ht, _, _, _ => ht.elim
  | .n3 w b x y z, ht, _, _, _ => ht.elim
theorem places_len {e : En} : ∀ {t : Tm}, SumT t → ∀ i, (placesT i (preT t)).length = (asksT e t).length
  | .atom k l, _, i => by cases k <;> rfl
  | .n2 wd b x y, ht, i => by
    cases wd with
    | sum =>
      rw [asks_bin, List.length_append, ← places_len ht.2.1 (i + 1), ← places_len ht.2.2 (i + 1 + (preT x).length)]
      show (placesT (i + 1) (preT x ++ preT y)).length = _
      rw [places_app, List.length_append]
    | _ => exact ht.elim
  | .n1 w b x, ht, _ => ht.elim
  | .n3 w b x y z, ht, _ => ht.elim
/-- told so many heads fewer: where it stops, how many terms are begun there -/
theorem cut_sum {e : En} {f : Nm → Int} (hf : ∀ k, (f k).natAbs ≤ 100) : ∀ {t : Tm}, SumT t → (∀ r ∈ leavesT t, r.1 = .num → (numVal r.2).natAbs ≤ 100) → (leavesT t).length ≤ 9 → ∀ (i : Nat) (a : Nm) (pl : Nat), (asksT e t)[i]? = some a → (placesT 1 (preT t))[i]? = some pl → ∀ (m : Nat) (nx : Cd) (w : Wt) (h0 : Option Hd) (st : Nat) (md : List (Tm × En)) (nd : List Nm), 1 ≤ m → st + m + (preT t).length ≤ lim →
    ∃ k s' s'', k ≤ 2 * (preT t).length ∧ Rch fr kn lim ⟨coded t m nx, e, w, h0, st, md⟩ (((asksT e t).take i).map fun k => Hd.num (f k)) nd s' [] (nd ++ (asksT e t).take i) k ∧ step fr kn (fun _ => none) lim s' = .need s'' a ∧ s''.steps = st + (m - 1) + pl ∧ s''.made = md
  | .atom k l, _, _, _, i, a, pl, ha, hp, m, nx, w, h0, st, md, nd, m1, hl => by
    have need : ∀ {y : Nm}, (getR e l).getD l = y → ∃ k s' s'', k ≤ 2 * 1 ∧ Rch fr kn lim ⟨.need m l nx, e, w, h0, st, md⟩ [] nd s' [] nd k ∧ step fr kn (fun _ => none) lim s' = .need s'' y ∧ s''.steps = st + (m - 1) + 1 ∧ s''.made = md := fun hy => by
      simp only [preT, List.length_singleton] at hl
      exact ⟨0, _, _, by decide, .nil, step_need (by omega) hy, by show st + m = _; omega, rfl⟩
    have i0 : i = 0 ∧ k ≠ .num := by
      cases k with
      | num => simp [asksT, leavesT, askL] at ha
      | name =>
        refine ⟨?_, by decide⟩
        rcases i with _ | i
        · rfl
        · simp [asksT, leavesT, askL] at ha
      | part =>
        refine ⟨?_, by decide⟩
        rcases i with _ | i
        · rfl
        · simp [asksT, leavesT, askL] at ha
    obtain ⟨rfl, hk⟩ := i0
    have fin : ∀ (hc : coded (.atom k l) m nx = .need m l nx) (hq : asksT e (.atom k l) = [(getR e l).getD l]) (hw : placesT 1 (preT (.atom k l)) = [1]), ∃ k' s' s'', k' ≤ 2 * (preT (.atom k l)).length ∧ Rch fr kn lim ⟨coded (.atom k l) m nx, e, w, h0, st, md⟩ (((asksT e (.atom k l)).take 0).map fun k => Hd.num (f k)) nd s' [] (nd ++ (asksT e (.atom k l)).take 0) k' ∧ step fr kn (fun _ => none) lim s' = .need s'' a ∧ s''.steps = st + (m - 1) + pl ∧ s''.made = md := fun hc hq hw => by
      rw [hq] at ha
      rw [hw] at hp
      cases Option.some.inj hp
      rw [hc, List.take_zero, List.map_nil, List.append_nil]
      exact need (Option.some.inj ha)
    cases k with
    | num => exact absurd rfl hk
    | name => exact fin rfl rfl rfl
    | part => exact fin rfl rfl rfl
  | .n2 wd b x y, ht, hn, hl, i, a, pl, ha, hp, m, nx, w, h0, st, md, nd, m1, hlm => by
    cases wd with
    | sum =>
      obtain ⟨rfl, hx, hy⟩ := ht
      have nx' := fun r hr => hn r (List.mem_append_left _ hr)
      have ny' := fun r hr => hn r (List.mem_append_right _ hr)
      simp only [leavesT, List.length_append] at hl
      have hpre : (preT (.n2 .sum [] x y)).length = (preT x).length + (preT y).length + 1 := by simp [preT]
      rw [hpre] at hlm
      have hpl : placesT 1 (preT (.n2 .sum [] x y)) = (placesT 1 (preT x)).map (· + 1) ++ (placesT 1 (preT y)).map (· + (1 + (preT x).length)) := by
        show placesT 2 (preT x ++ preT y) = _
        rw [places_app, ← places_shift, ← places_shift, show 1 + (1 + (preT x).length) = 2 + (preT x).length by omega]
      have px := places_len (e := e) hx 1
      have p1 := pre_pos x
      rw [asks_bin] at ha
      rw [hpl] at hp
      by_cases h : i < (asksT e x).length
      · rw [List.getElem?_append_left h] at ha
        rw [List.getElem?_append_left (by rw [List.length_map, px]; exact h), List.getElem?_map] at hp
        obtain ⟨pl', hp', rfl⟩ := Option.map_eq_some_iff.mp hp
        obtain ⟨k, s', s'', k1, k2, k3, k4, k5⟩ := cut_sum hf hx nx' (by omega) i a pl' ha hp' (m + 1) (.left (coded y 1 (.right .sum nx))) w h0 st md nd (by omega) (by omega)
        refine ⟨k, s', s'', by omega, ?_, k3, by rw [k4]; omega, k5⟩
        rw [asks_bin, List.take_append_of_le_length (by omega)]
        exact k2
      · have hge : (asksT e x).length ≤ i := by omega
        rw [List.getElem?_append_right hge] at ha
        rw [List.getElem?_append_right (by rw [List.length_map, px]; exact hge), List.length_map, px, List.getElem?_map] at hp
        obtain ⟨pl', hp', rfl⟩ := Option.map_eq_some_iff.mp hp
        obtain ⟨k0, e2, c1, c2, c3⟩ := ldx_sum (fr := fr) (kn := kn) (lim := lim) hf hx nx' (by omega) md.length (m + 1) (.left (coded y 1 (.right .sum nx))) w h0 st md (((asksT e y).take (i - (asksT e x).length)).map fun k => Hd.num (f k)) nd rfl (by omega) (by omega)
        have ee := c2 (by intro z; cases z)
        rw [ee] at c3
        obtain ⟨k, s', s'', k1, k2, k3, k4, k5⟩ := cut_sum hf hy ny' (by omega) (i - (asksT e x).length) a pl' ha hp' 1 (.right .sum nx) (.num (sumT e f x) w) (some (.num (sumT e f x))) (st + (m + 1) + ((preT x).length - 1)) (md ++ []) (nd ++ (asksT e x)) (Nat.le_refl _) (by omega)
        refine ⟨k0 + 1 + k, s', s'', by omega, ?_, k3, by rw [k4]; omega, by rw [k5, List.append_nil]⟩
        have tk : (asksT e (.n2 .sum [] x y)).take i = asksT e x ++ (asksT e y).take (i - (asksT e x).length) := by
          rw [asks_bin, List.take_append, List.take_of_length_le hge]
        have c3' : Rch fr kn lim ⟨coded x (m + 1) (.left (coded y 1 (.right .sum nx))), e, w, h0, st, md⟩ (((asksT e x).map fun k => Hd.num (f k)) ++ ((asksT e y).take (i - (asksT e x).length)).map fun k => Hd.num (f k)) nd ⟨.left (coded y 1 (.right .sum nx)), e, w, some (.num (sumT e f x)), st + (m + 1) + ((preT x).length - 1), md ++ []⟩ (((asksT e y).take (i - (asksT e x).length)).map fun k => Hd.num (f k)) (nd ++ asksT e x) k0 := by
          have m1' : ((asksT e x).map fun k => (k, Hd.num (f k))).map (·.2) = (asksT e x).map fun k => Hd.num (f k) := by rw [List.map_map]; rfl
          have m2' : ((asksT e x).map fun k => (k, Hd.num (f k))).map (·.1) = asksT e x := by
            rw [List.map_map]
            exact List.map_id _
          rw [m1', m2'] at c3
          exact c3
        have key := (c3'.trans (.go rfl)).trans k2
        rw [tk, List.map_append, ← List.append_assoc]
        exact key
    | _ => exact ht.elim
  | .n1 w b x, ht, _, _, _, _, _, _, _, _, _, _, _, _, _, _, _, _ => ht.elim
  | .n3 w b x y z, ht, _, _, _, _, _, _, _, _, _, _, _, _, _, _, _, _ => ht.elim
end
end U

set_option Elab.async false
set_option linter.all false
set_option maxRecDepth 100000
set_option maxHeartbeats 800000
set_option pp.maxSteps 3000
namespace K
open PySem PySem.Spec PyProof.Rows L2 U
def TTv (H : Hp) (v : V) (t : U.Tm) : Prop := TT H t v
def spOver (n : Nat) : Sp := fun vs H Q _ => ∃ (t : U.Tm) (v : V), vs = [v] ∧ TT H t v ∧ U.SumT t ∧ t.depth < n ∧ (U.preT t).length ≤ 100 ∧ ∀ H' q xs, Same H H' → H' q = some (.lst xs) → Paired (TTv H') xs (U.preT t) → Q (.ref q) H'
def pre2 (x y : U.Tm) : Nat → List U.Tm
  | 0 => []
  | 1 => U.preT x
  | _ => U.preT x ++ U.preT y
section
variable {P : Program} {w : World} {K : PySem.W.Frag} {mg : Str → Option Value} {base : Heap} {dW dB dN : Addr} {esW : Array DictEntry} {nW : Nat} (T : Txt K mg w dW dB esW nW) (N : Runs K mg dN)
include T N
theorem ok__law_walked_over_step {f f3 : Addr} {fd fd3 : FuncData} (n : Nat) (F : Fun K "_law_walked_over" "_law_walked_over" s__law_walked_over f fd) (h__law_walked_over : Has P w K mg base "_law_walked_over" n ["_law_tree"] (spOver n) f3 fd3) : FnOk P w K mg base CX0 (n + 1) f fd ["_law_tree"] (spOver (n + 1)) := by
  refine F.ok sc__law_walked_over (fun vs H Q E h => ?_) (fun cdv A outer s H vs Q E hr h => ?_)
  · obtain ⟨t, v, rfl, _⟩ := h
    rfl
  · obtain ⟨t, v, rfl, nt, st, hd, hl, q⟩ := h
    refine ⟨_, (pss_cons (ps_set (i := 1) sc__law_walked_over.nd rfl (.inl rfl) (pe_lst (pa_cons (pv 0) pa_nil)))
      (pss_cons (ps_for PassesOwn.never rfl (pi_tup (pe_slice sl_tupA (pv 0) (po_some pe_int) po_none)) (pg_name (i := 2) sc__law_walked_over.nd rfl (.inl rfl)) 
        (pss_one (ps_if (pt_val (pe_callB call_isi (by rfl) T.z_isinstance (by decide +kernel) (pa_cons (pv 2) (pa_cons (pe_bltn (v := .ty "tuple") (u := .type "tuple") (by rfl) T.z_tuple (by decide +kernel) rfl) pa_nil)))) 
          (pss_one (ps_set (i := 1) sc__law_walked_over.nd rfl (.inl rfl) (pe_op op_cat (pv 1) (pe_callH h__law_walked_over (hr.mono (by first | decide | omega)) (by rfl) (pa_cons (pv 2) pa_nil))))) pss_nil)))
      (pss_one (ps_ret (pv 1))))), ?_⟩
    refine ⟨_, rfl, sizeLine_ge (by show 1 ≤ 10000; decide), fun q0 hq0 => ?_⟩
    have S0 : Same H _ := same_new (o := .lst [v]) hq0
    have e0 : (upd H q0 (.lst [v])) q0 = some (.lst [v]) := upd_same
    generalize upd H q0 (.lst [v]) = H0 at S0 e0 ⊢
    have nt0 := nt.keep (TupS.of S0)
    have tv0 : TTv H0 v t := nt0
    cases t with
    | atom k l =>
      obtain ⟨a, x, rfl, ha, av⟩ := nt0
      refine ⟨_, rfl, 1, rfl, a, _, rfl, .inl (.inl ha), fun h => absurd h.1 (show ¬ (HT.sIx 2 0 (some 1) = 0) by decide), fun _ qt hqt => ?_⟩
      rw [show cutV [V.str (tx k.cs), x] (some 1) none = [x] from rfl]
      have S1 : Same H0 _ := same_new (o := .tup [x]) hqt
      have e1 : (upd H0 qt (.tup [x])) qt = some (.tup [x]) := upd_same
      generalize upd H0 qt (.tup [x]) = H1 at S1 e1 ⊢
      refine ⟨qt, rfl, ⟨_, .inl (.inl e1)⟩, for_tup (xs := [x]) (fun i σ H' => (∃ d2, σ = [some (.ref a), some (.ref q0), d2]) ∧ H' = H1) ⟨⟨_, rfl⟩, rfl⟩ (fun i σ H' _ h => by rw [h.2]; exact .inl (.inl e1)) ?_ ?_⟩
      · rintro i y σ H' hi ⟨⟨d2, rfl⟩, rfl⟩
        have hy : y = x := by
          rcases i with _ | i
          · exact (Option.some.inj hi).symm
          · simp at hi
        subst hy
        rcases av with ⟨_, m, rfl, _⟩ | ⟨_, rfl⟩
        · exact ⟨_, rfl, _, _, .type "int", _, false, rfl, .ty "tuple", .base (.int _), kit_ty rfl, false, rfl, iteF ⟨⟨_, rfl⟩, rfl⟩⟩
        · exact ⟨_, rfl, _, _, .type "str", _, false, rfl, .ty "tuple", .base (.str _), kit_ty rfl, false, rfl, iteF ⟨⟨_, rfl⟩, rfl⟩⟩
      · rintro σ H' ⟨⟨d2, rfl⟩, rfl⟩
        exact ⟨_, rfl, q _ q0 [.ref a] (S0.trans S1) (S1 _ _ e0) (.cons (tv0.keep (TupS.of S1)) .nil)⟩
    | n1 w b x => exact st.elim
    | n3 w b x y z => exact st.elim
    | n2 wd b x y =>
      cases wd with
      | sum =>
        obtain ⟨rfl, sx, sy⟩ := st
        obtain ⟨a, u1, u2, rfl, ha, hx, hy⟩ := nt0
        have ha : H0 a = some (.tup [.str (tx (Wd.cs .sum)), u1, u2]) := ha
        have dx : x.depth < n := by have : 1 + max x.depth y.depth < n + 1 := hd; omega
        have dy : y.depth < n := by have : 1 + max x.depth y.depth < n + 1 := hd; omega
        have hpre : (U.preT (.n2 .sum [] x y)).length = (U.preT x).length + (U.preT y).length + 1 := by simp [U.preT]
        rw [hpre] at hl
        refine ⟨_, rfl, 1, rfl, a, _, rfl, .inl (.inl ha), fun h => absurd h.1 (show ¬ (HT.sIx 3 0 (some 1) = 0) by decide), fun _ qt hqt => ?_⟩
        rw [show cutV [V.str (tx (Wd.cs .sum)), u1, u2] (some 1) none = [u1, u2] from rfl]
        have S1 : Same H0 _ := same_new (o := .tup [u1, u2]) hqt
        have e1 : (upd H0 qt (.tup [u1, u2])) qt = some (.tup [u1, u2]) := upd_same
        generalize upd H0 qt (.tup [u1, u2]) = H1 at S1 e1 ⊢
        refine ⟨qt, rfl, ⟨_, .inl (.inl e1)⟩, for_tup (xs := [u1, u2]) (fun i σ H' => ∃ qf xs d2, σ = [some (.ref a), some (.ref qf), d2] ∧ Same H1 H' ∧ H' qf = some (.lst xs) ∧ Paired (TTv H') xs (.n2 .sum [] x y :: pre2 x y i)) ⟨q0, [.ref a], _, rfl, Same.refl _, S1 _ _ e0, .cons (tv0.keep (TupS.of S1)) .nil⟩ (fun i σ H' _ h => ?_) ?_ ?_⟩
        · obtain ⟨_, _, _, _, s, _⟩ := h
          exact .inl (.inl (s _ _ e1))
        · rintro i u σ H' hi ⟨qf, xs, d2, rfl, s1, ef, pf⟩
          obtain ⟨t', ht', dt', sT', lt', hstep⟩ : ∃ t', TT H1 t' u ∧ t'.depth < n ∧ U.SumT t' ∧ (U.preT t').length ≤ 100 ∧ pre2 x y (i + 1) = pre2 x y i ++ U.preT t' := by
            rcases i with _ | _ | i
            · cases Option.some.inj hi
              exact ⟨x, hx.keep (TupS.of S1), dx, sx, by omega, by simp [pre2]⟩
            · cases Option.some.inj hi
              exact ⟨y, hy.keep (TupS.of S1), dy, sy, by omega, by simp [pre2]⟩
            · simp at hi
          obtain ⟨b', rb', lb', hb'⟩ := TT.ref ht'
          subst rb'
          have lx : xs.length ≤ 300 := by
            rw [pf.length]
            rcases i with _ | _ | i
            · show 0 + 1 ≤ 300
              omega
            · show (U.preT x).length + 1 ≤ 300
              omega
            · simp at hi
          refine ⟨_, rfl, _, _, .type "tuple", _, true, rfl, .ty "tuple", .base (.tup (s1 _ _ hb')), kit_ty rfl, true, rfl, iteT ?_⟩
          refine ⟨_, rfl, _, rfl, t', _, rfl, ht'.keep (TupS.of s1), sT', dt', lt', fun H2 q2 ys S2 e2 p2 => ?_⟩
          have yl := p2.length
          refine ⟨qf, q2, _, _, rfl, rfl, S2 _ _ ef, e2, sizeLine_ge (by omega), fun qc hqc => ?_⟩
          have S3 : Same H2 _ := same_new (o := .lst (xs ++ ys)) hqc
          refine ⟨qc, xs ++ ys, _, rfl, (s1.trans S2).trans S3, upd_same, ?_⟩
          rw [hstep, ← List.cons_append]
          exact Paired.app (Paired.mapP pf fun _ _ h => TT.keep (TupS.of (S2.trans S3)) h) (Paired.mapP p2 fun _ _ h => TT.keep (TupS.of S3) h)
        · rintro σ H' ⟨qf, xs, d2, rfl, s1, ef, pf⟩
          exact ⟨_, rfl, q _ qf xs ((S0.trans S1).trans s1) ef pf⟩
      | _ => exact st.elim
theorem ok__law_walked_over {f : Addr} {fd : FuncData} (F : Fun K "_law_walked_over" "_law_walked_over" s__law_walked_over f fd) (at_ : mg "_law_walked_over" = some (.ref f)) (kp : PySem.W.keepIn K (.ref f) = true) (bi : Binds K fd ["_law_tree"] []) : ∀ n, FnOk P w K mg base CX0 n f fd ["_law_tree"] (spOver n)
  | 0 => ⟨fun vs H Q E h => by
      obtain ⟨t, v, _, _, _, hd, _⟩ := h
      exact absurd hd (Nat.not_lt_zero _), fun A outer s H args us vs Q E hr e b v h => by
      obtain ⟨t, v, _, _, _, hd, _⟩ := h
      exact absurd hd (Nat.not_lt_zero _)⟩
  | n + 1 => ok__law_walked_over_step T N n F ⟨at_, kp, bi, ok__law_walked_over F at_ kp bi n⟩
end
end K


set_option Elab.async false
set_option linter.all false
set_option maxRecDepth 100000
set_option maxHeartbeats 4000000
set_option pp.maxSteps 3000
namespace U
open PySem L2
/-- a leaf as the law draws it -/
def leafN : List Nm := [[97], [97, 98, 99, 100], [120], [120, 121]]
def leafP : List Nm := [[80], [81], [65, 66, 67, 68, 69, 70]]
def LeafOk : Kd × Nm → Prop
  | (.num, l) => ∃ m : Int, -20 ≤ m ∧ m < 30 ∧ Str.ofString (toString m) = tx l ∧ NumOk l ∧ numVal l = m
  | (.name, l) => l ∈ leafN
  | (.part, l) => l ∈ leafP
theorem leaves_pos : ∀ {t : Tm}, SumT t → 1 ≤ (leavesT t).length
  | .atom _ _, _ => Nat.le_refl _
  | .n2 .sum b x y, h => by
    have := leaves_pos h.2.1
    simp only [leavesT, List.length_append]
    omega
  | .n1 _ _ _, h => h.elim
  | .n2 .less _ _ _, h => h.elim
  | .n2 .times _ _ _, h => h.elim
  | .n2 .below _ _ _, h => h.elim
  | .n2 .pair _ _ _, h => h.elim
  | .n2 .call _ _ _, h => h.elim
  | .n2 .lett _ _ _, h => h.elim
  | .n3 _ _ _ _ _, h => h.elim
end U
namespace K
open PySem PySem.Spec PyProof.Rows L2 U
theorem cut_to {xs : List V} {i : Nat} (h : i ≤ xs.length) : cutV xs none (some (i : Int)) = xs.take i := by
  unfold cutV
  rw [show HT.sIx xs.length 0 none = 0 from rfl, HT.sIx_nat, Nat.min_eq_left h]
  rfl
theorem cut_from {xs : List V} {i : Nat} (h : i ≤ xs.length) : cutV xs (some (i : Int)) none = xs.drop i := by
  unfold cutV
  rw [show HT.sIx xs.length xs.length none = xs.length from rfl, HT.sIx_nat, Nat.min_eq_left h]
  exact List.take_of_length_le (by rw [List.length_drop]; exact Nat.le_refl _)
theorem paired_take {α β : Type} {F : α → β → Prop} : ∀ {a : List α} {b : List β} (n : Nat), Paired F a b → Paired F (a.take n) (b.take n)
  | _, _, 0, _ => .nil
  | _, _, _ + 1, .nil => .nil
  | _, _, n + 1, .cons h t => .cons h (paired_take n t)
theorem paired_drop {α β : Type} {F : α → β → Prop} : ∀ {a : List α} {b : List β} (n : Nat), Paired F a b → Paired F (a.drop n) (b.drop n)
  | _, _, 0, h => h
  | _, _, _ + 1, .nil => .nil
  | _, _, n + 1, .cons h t => paired_drop n t
theorem two_at {α : Type} {l : List α} {j : Nat} {x y : α} (h1 : l[j]? = some x) (h2 : l[j + 1]? = some y) : l = l.take j ++ [x, y] ++ l.drop (j + 2) := by
  obtain ⟨a, rfl⟩ := List.getElem?_eq_some_iff.mp h1
  obtain ⟨b, rfl⟩ := List.getElem?_eq_some_iff.mp h2
  rw [List.append_assoc]
  show l = l.take j ++ (l[j] :: l[j + 1] :: l.drop (j + 2))
  rw [List.getElem_cons_drop, List.getElem_cons_drop, List.take_append_drop]
def spLeaf : Sp := fun vs H Q _ => ∃ (p : Addr) (c : Int), vs = [.ref p] ∧ Purse2 H p c ∧ c + 5 < 2 ^ 40 ∧ ∀ H' v r, But p H H' → Purse2 H' p (c + 2) → TT H' (.atom r.1 r.2) v → LeafOk r → Q v H'
def spTog (K : PySem.W.Frag) : Sp := fun vs H Q _ => ∃ (p q : Addr) (c : Int) (xs : List V) (ls : List (Kd × U.Nm)), vs = [.ref p, .ref q] ∧ Purse2 H p c ∧ c + 20 < 2 ^ 40 ∧ SqL K H q xs ∧ Paired (TTv H) xs (ls.map fun r => .atom r.1 r.2) ∧ 1 ≤ ls.length ∧ ls.length ≤ 9 ∧
  ∀ H' t v, But p H H' → Purse2 H' p (c + 9) → U.SumT t → U.leavesT t = ls → TT H' t v → Q v H'
section
variable {P : Program} {w : World} {K : PySem.W.Frag} {mg : Str → Option Value} {base : Heap} {dW dB dN : Addr} {esW : Array DictEntry} {nW : Nat} (T : Txt K mg w dW dB esW nW) (N : Runs K mg dN)
include T N
theorem ok__law_leaf {f f1 : Addr} {fd fd1 : FuncData} (F : Fun K "_law_leaf" "_law_leaf" s__law_leaf f fd) (h__law_take : Has P w K mg base "_law_take" 1 ["_law_purse_here", "_law_many"] spTake2 f1 fd1) : FnOk P w K mg base CX0 2 f fd ["_law_purse_here"] spLeaf := by
  refine F.ok sc__law_leaf (fun vs H Q E h => ?_) (fun cdv A outer s H vs Q E hr h => ?_)
  · obtain ⟨p, c, rfl, _⟩ := h
    rfl
  · obtain ⟨p, c, rfl, hP, hc, q⟩ := h
    have e40 : (2 : Int) ^ 40 = 1099511627776 := by decide
    refine ⟨_, (pss_cons (ps_set (i := 1) sc__law_leaf.nd rfl (.inl rfl) (pe_callH h__law_take (hr.mono (by first | decide | omega)) (by rfl) (pa_cons (pv 0) (pa_cons pe_int pa_nil))))
      (pss_cons (ps_if (pt_cmpR op_lt (pv 1) pe_int (nomark _)) 
        (pss_one (ps_ret (pe_tup (pa_cons pe_str (pa_cons (pe_ix ix_list (pe_lst (pa_cons pe_str (pa_cons pe_str (pa_cons pe_str (pa_cons pe_str pa_nil))))) (pe_callH h__law_take (hr.mono (by first | decide | omega)) (by rfl) (pa_cons (pv 0) (pa_cons pe_int pa_nil))) (fun _ _ => rfl)) pa_nil))))) pss_nil)
      (pss_cons (ps_if (pt_cmpR op_lt (pv 1) pe_int (nomark _)) 
        (pss_one (ps_ret (pe_tup (pa_cons pe_str (pa_cons (pe_ix ix_list (pe_lst (pa_cons pe_str (pa_cons pe_str (pa_cons pe_str pa_nil)))) (pe_callH h__law_take (hr.mono (by first | decide | omega)) (by rfl) (pa_cons (pv 0) (pa_cons pe_int pa_nil))) (fun _ _ => rfl)) pa_nil))))) pss_nil)
      (pss_one (ps_ret (pe_tup (pa_cons pe_str (pa_cons (pe_op op_sub (pe_callH h__law_take (hr.mono (by first | decide | omega)) (by rfl) (pa_cons (pv 0) (pa_cons pe_int pa_nil))) pe_int) pa_nil)))))))), ?_⟩
    rw [show Str.ofString "a" = tx [97] by decide +kernel, show Str.ofString "x" = tx [120] by decide +kernel, show Str.ofString "xy" = tx [120,121] by decide +kernel, show Str.ofString "abcd" = tx [97,98,99,100] by decide +kernel, show Str.ofString "P" = tx [80] by decide +kernel, show Str.ofString "Q" = tx [81] by decide +kernel, show Str.ofString "ABCDEF" = tx [65,66,67,68,69,70] by decide +kernel, show Str.ofString "name" = tx (Kd.cs .name) by decide +kernel, show Str.ofString "part" = tx (Kd.cs .part) by decide +kernel, show Str.ofString "number" = tx (Kd.cs .num) by decide +kernel]
    refine ⟨_, rfl, p, 5, c, rfl, hP, by omega, by decide, by decide, fun r H1 r0 r5 P1 b1 => ?_⟩
    refine ⟨_, rfl, _, _, rfl, rfl, _, rfl, ite2 (fun h => ?_) (fun h => ⟨_, rfl, _, _, rfl, rfl, _, rfl, ite2 (fun h2 => ?_) (fun h2 => ?_)⟩)⟩
    · have e41 := e40
      refine ⟨sizeLine_ge (by show 4 ≤ 10000; decide), fun ql hql => ?_⟩
      have Sql : Same H1 _ := same_new (o := .lst [.str (tx [97]), .str (tx [120]), .str (tx [120, 121]), .str (tx [97, 98, 99, 100])]) hql
      have eql : (upd H1 ql (.lst [.str (tx [97]), .str (tx [120]), .str (tx [120, 121]), .str (tx [97, 98, 99, 100])])) ql = some (.lst [.str (tx [97]), .str (tx [120]), .str (tx [120, 121]), .str (tx [97, 98, 99, 100])]) := upd_same
      generalize upd H1 ql (.lst [.str (tx [97]), .str (tx [120]), .str (tx [120, 121]), .str (tx [97, 98, 99, 100])]) = Hql at Sql eql ⊢
      have nl : ql ≠ p := Ne.symm (P1.ne hql)
      refine ⟨_, rfl, p, 4, c + 1, rfl, P1.same Sql, by omega, by decide, by decide, fun r2 H2 r20 r24 P2 b2 => ?_⟩
      obtain ⟨l, hx, ml⟩ : ∃ x, atI [V.str (tx [97]), V.str (tx [120]), V.str (tx [120, 121]), V.str (tx [97, 98, 99, 100])] r2 = some (.str (tx x)) ∧ x ∈ U.leafN := by
        obtain rfl | rfl | rfl | rfl : r2 = 0 ∨ r2 = 1 ∨ r2 = 2 ∨ r2 = 3 := by omega
        · exact ⟨_, rfl, by simp [U.leafN]⟩
        · exact ⟨_, rfl, by simp [U.leafN]⟩
        · exact ⟨_, rfl, by simp [U.leafN]⟩
        · exact ⟨_, rfl, by simp [U.leafN]⟩
      refine ⟨ql, _, r2, _, rfl, rfl, .inl (.inl (b2 _ _ eql nl)), hx, ?_⟩
      refine ⟨sizeLine_ge (by show 2 ≤ 10000; decide), fun qt hqt => ?_⟩
      have Sqt : Same H2 _ := same_new (o := .tup [.str (tx (Kd.cs .name)), .str (tx l)]) hqt
      have eqt : (upd H2 qt (.tup [.str (tx (Kd.cs .name)), .str (tx l)])) qt = some (.tup [.str (tx (Kd.cs .name)), .str (tx l)]) := upd_same
      generalize upd H2 qt (.tup [.str (tx (Kd.cs .name)), .str (tx l)]) = Hqt at Sqt eqt ⊢
      exact q _ _ (.name, l) (fun a o e n => Sqt _ _ (b2 _ _ (Sql _ _ (b1 _ _ e n)) n)) ((P2.same Sqt).mono (by omega)) ⟨qt, _, rfl, eqt, .inr ⟨(fun z => by cases z), rfl⟩⟩ ml
    · have e41 := e40
      refine ⟨sizeLine_ge (by show 3 ≤ 10000; decide), fun ql hql => ?_⟩
      have Sql : Same H1 _ := same_new (o := .lst [.str (tx [80]), .str (tx [81]), .str (tx [65, 66, 67, 68, 69, 70])]) hql
      have eql : (upd H1 ql (.lst [.str (tx [80]), .str (tx [81]), .str (tx [65, 66, 67, 68, 69, 70])])) ql = some (.lst [.str (tx [80]), .str (tx [81]), .str (tx [65, 66, 67, 68, 69, 70])]) := upd_same
      generalize upd H1 ql (.lst [.str (tx [80]), .str (tx [81]), .str (tx [65, 66, 67, 68, 69, 70])]) = Hql at Sql eql ⊢
      have nl : ql ≠ p := Ne.symm (P1.ne hql)
      refine ⟨_, rfl, p, 3, c + 1, rfl, P1.same Sql, by omega, by decide, by decide, fun r2 H2 r20 r24 P2 b2 => ?_⟩
      obtain ⟨l, hx, ml⟩ : ∃ x, atI [V.str (tx [80]), V.str (tx [81]), V.str (tx [65, 66, 67, 68, 69, 70])] r2 = some (.str (tx x)) ∧ x ∈ U.leafP := by
        obtain rfl | rfl | rfl : r2 = 0 ∨ r2 = 1 ∨ r2 = 2 := by omega
        · exact ⟨_, rfl, by simp [U.leafP]⟩
        · exact ⟨_, rfl, by simp [U.leafP]⟩
        · exact ⟨_, rfl, by simp [U.leafP]⟩
      refine ⟨ql, _, r2, _, rfl, rfl, .inl (.inl (b2 _ _ eql nl)), hx, ?_⟩
      refine ⟨sizeLine_ge (by show 2 ≤ 10000; decide), fun qt hqt => ?_⟩
      have Sqt : Same H2 _ := same_new (o := .tup [.str (tx (Kd.cs .part)), .str (tx l)]) hqt
      have eqt : (upd H2 qt (.tup [.str (tx (Kd.cs .part)), .str (tx l)])) qt = some (.tup [.str (tx (Kd.cs .part)), .str (tx l)]) := upd_same
      generalize upd H2 qt (.tup [.str (tx (Kd.cs .part)), .str (tx l)]) = Hqt at Sqt eqt ⊢
      exact q _ _ (.part, l) (fun a o e n => Sqt _ _ (b2 _ _ (Sql _ _ (b1 _ _ e n)) n)) ((P2.same Sqt).mono (by omega)) ⟨qt, _, rfl, eqt, .inr ⟨(fun z => by cases z), rfl⟩⟩ ml
    · refine ⟨_, rfl, p, 50, c + 1, rfl, P1, by omega, by decide, by decide, fun r2 H2 r20 r24 P2 b2 => ?_⟩
      refine ⟨_, _, rfl, rfl, ?_⟩
      have sm : (r2 - 20).natAbs < 10 ^ 12 := Nat.lt_of_lt_of_le (show _ < 100 by omega) (by decide)
      obtain ⟨l, e1, e2, e3⟩ := num_back sm
      refine ⟨sizeLine_ge (by show 2 ≤ 10000; decide), fun qt hqt => ?_⟩
      have Sqt : Same H2 _ := same_new (o := .tup [.str (tx (Kd.cs .num)), .int (r2 - 20)]) hqt
      have eqt : (upd H2 qt (.tup [.str (tx (Kd.cs .num)), .int (r2 - 20)])) qt = some (.tup [.str (tx (Kd.cs .num)), .int (r2 - 20)]) := upd_same
      generalize upd H2 qt (.tup [.str (tx (Kd.cs .num)), .int (r2 - 20)]) = Hqt at Sqt eqt ⊢
      exact q _ _ (.num, l) (fun a o e n => Sqt _ _ (b2 _ _ (b1 _ _ e n) n)) ((P2.same Sqt).mono (by omega)) ⟨qt, _, rfl, eqt, .inl ⟨rfl, _, rfl, e1, sm⟩⟩ ⟨r2 - 20, by omega, by omega, e1, e2, e3⟩
theorem ok__law_put_together {f f1 : Addr} {fd fd1 : FuncData} (F : Fun K "_law_put_together" "_law_put_together" s__law_put_together f fd) (h__law_take : Has P w K mg base "_law_take" 1 ["_law_purse_here", "_law_many"] spTake2 f1 fd1) : FnOk P w K mg base CX0 2 f fd ["_law_purse_here", "_law_leaves"] (spTog K) := by
  refine F.ok sc__law_put_together (fun vs H Q E h => ?_) (fun cdv A outer s H vs Q E hr h => ?_)
  · obtain ⟨p, q, c, _, _, rfl, _⟩ := h
    rfl
  · obtain ⟨p, q, c, xs, ls, rfl, hP, hc, hq, pl, l1, l9, fin⟩ := h
    have e40 : (2 : Int) ^ 40 = 1099511627776 := by decide
    refine ⟨_, (pss_cons (ps_set (i := 2) sc__law_put_together.nd rfl (.inl rfl) (pe_callTy call_list_of (by rfl) T.z_list (by decide +kernel) (pa_cons (pv 1) pa_nil)))
      (pss_cons (ps_while PassesOwn.never (pt_cmpR op_gt (pe_callB call_len_seq (by rfl) T.z_len (by decide +kernel) (pa_cons (pv 2) pa_nil)) pe_int (nomark _)) 
        (pss_cons (ps_set (i := 3) sc__law_put_together.nd rfl (.inl rfl) (pe_callH h__law_take (hr.mono (by first | decide | omega)) (by rfl) (pa_cons (pv 0) (pa_cons (pe_op op_sub (pe_callB call_len_seq (by rfl) T.z_len (by decide +kernel) (pa_cons (pv 2) pa_nil)) pe_int) pa_nil))))
        (pss_one (ps_set (i := 2) sc__law_put_together.nd rfl (.inl rfl) (pe_op op_cat (pe_op op_cat (pe_slice sl_list (pv 2) po_none (po_some (pv 3))) (pe_lst (pa_cons (pe_tup (pa_cons pe_str (pa_cons (pe_ix ix_list (pv 2) (pv 3) (fun _ _ => rfl)) (pa_cons (pe_ix ix_list (pv 2) (pe_op op_add (pv 3) pe_int) (fun _ _ => rfl)) pa_nil)))) pa_nil))) (pe_slice sl_list (pv 2) (po_some (pe_op op_add (pv 3) pe_int)) po_none))))))
      (pss_one (ps_ret (pe_ix ix_list (pv 2) pe_int (fun _ _ => rfl)))))), ?_⟩
    rw [show Str.ofString "sum" = tx (Wd.cs .sum) by decide +kernel]
    have lx : xs.length = ls.length := by rw [pl.length, List.length_map]
    refine ⟨_, rfl, q, xs, rfl, .inl hq, fun q0 hq0 => ?_⟩
    have S0 : Same H _ := same_new (o := .lst xs) hq0
    have e0 : (upd H q0 (.lst xs)) q0 = some (.lst xs) := upd_same
    have n0 : q0 ≠ p := Ne.symm (hP.ne hq0)
    generalize upd H q0 (.lst xs) = H0 at S0 e0 ⊢
    refine ⟨fun m σ H' => ∃ (q1 : Addr) (vs : List V) (ts : List U.Tm) (d3 : Option V), σ = [some (.ref p), some (.ref q), some (.ref q1), d3] ∧ H' q1 = some (.lst vs) ∧ q1 ≠ p ∧ Paired (TTv H') vs ts ∧ ts.length = m ∧ 1 ≤ m ∧ m ≤ 9 ∧ ts.flatMap U.leavesT = ls ∧ (∀ t ∈ ts, U.SumT t) ∧ But p H H' ∧ Purse2 H' p (c + (9 - (m : Int))), ⟨ls.length, q0, xs, ls.map fun r => .atom r.1 r.2, _, rfl, e0, n0, Paired.mapP pl fun _ _ h => TT.keep (TupS.of S0) h, by rw [List.length_map], l1, l9, ?_, ?_, But.of_same S0, (hP.same S0).mono (by omega)⟩, ?_⟩
    · clear pl lx l1 l9 fin
      induction ls with
      | nil => rfl
      | cons r ls ih =>
        rw [List.map_cons, List.flatMap_cons, ih]
        rfl
    · intro t ht
      obtain ⟨r, _, rfl⟩ := List.mem_map.mp ht
      exact trivial
    · rintro m σ H1 ⟨q1, vs, ts, d3, rfl, e1, n1, pv, tl, m1, m9, fl, st, b1, P1⟩
      have vl : vs.length = m := by rw [pv.length, tl]
      refine ⟨_, rfl, q1, vs, rfl, .inl (.inl (.inl e1)), _, _, rfl, rfl, _, rfl, ite2 (fun h => ?_) (fun h => ?_)⟩
      · have h := of_decide_eq_true h
        rw [vl] at h
        have h : 1 < m := by omega
        refine ⟨fun σ' H' => ∃ (q1 : Addr) (vs : List V) (ts : List U.Tm) (d3 : Option V), σ' = [some (.ref p), some (.ref q), some (.ref q1), d3] ∧ H' q1 = some (.lst vs) ∧ q1 ≠ p ∧ Paired (TTv H') vs ts ∧ ts.length = m - 1 ∧ 1 ≤ m - 1 ∧ m - 1 ≤ 9 ∧ ts.flatMap U.leavesT = ls ∧ (∀ t ∈ ts, U.SumT t) ∧ But p H H' ∧ Purse2 H' p (c + (9 - ((m - 1 : Nat) : Int))), fun σ' H' h => ⟨m - 1, by omega, h⟩, ?_⟩
        have e29 : (2 : Int) ^ 29 = 536870912 := by decide
        refine ⟨_, rfl, _, rfl, q1, vs, rfl, .inl (.inl (.inl e1)), _, _, rfl, rfl, p, _, _, rfl, P1, by omega, by omega, by omega, fun r H2 r0 rm P2 b2 => ?_⟩
        obtain ⟨j, rfl⟩ := Int.eq_ofNat_of_zero_le r0
        have hj : j + 1 < m := by omega
        obtain ⟨x, hx, hxv⟩ := Paired.at2 pv (List.getElem?_eq_getElem (show j < vs.length by omega))
        obtain ⟨y, hy, hyv⟩ := Paired.at2 pv (List.getElem?_eq_getElem (show j + 1 < vs.length by omega))
        have e2 := b2 _ _ e1 n1
        have k2 : TupS H1 H2 := P1.tupS b2
        have ax : atI vs (j : Int) = some vs[j] := atI_nat (List.getElem?_eq_getElem (by omega))
        have ay : atI vs ((j : Int) + 1) = some vs[j + 1] := by
          rw [show (j : Int) + 1 = ((j + 1 : Nat) : Int) by omega]
          exact atI_nat (List.getElem?_eq_getElem (by omega))
        generalize vs[j] = vx at hxv ax
        generalize vs[j + 1] = vy at hyv ay
        refine ⟨_, rfl, _, rfl, (j : Int), rfl, q1, vs, rfl, .inl (.inl e2), fun qa hqa => ?_⟩
        rw [cut_to (by omega)]
        have Sa : Same H2 _ := same_new (o := .lst (vs.take j)) hqa
        have ea : (upd H2 qa (.lst (vs.take j))) qa = some (.lst (vs.take j)) := upd_same
        generalize upd H2 qa (.lst (vs.take j)) = H3 at Sa ea ⊢
        refine ⟨_, rfl, _, rfl, q1, vs, _, _, rfl, rfl, .inl (.inl (Sa _ _ e2)), ax, _, rfl, _, rfl, _, _, rfl, rfl, q1, vs, _, _, rfl, rfl, .inl (.inl (Sa _ _ e2)), ay, ?_⟩
        refine ⟨sizeLine_ge (by show 3 ≤ 10000; decide), fun qt hqt => ?_⟩
        have Sqt : Same H3 _ := same_new (o := .tup [.str (tx (Wd.cs .sum)), vx, vy]) hqt
        have eqt : (upd H3 qt (.tup [.str (tx (Wd.cs .sum)), vx, vy])) qt = some (.tup [.str (tx (Wd.cs .sum)), vx, vy]) := upd_same
        generalize upd H3 qt (.tup [.str (tx (Wd.cs .sum)), vx, vy]) = Hqt at Sqt eqt ⊢
        refine ⟨sizeLine_ge (by show 1 ≤ 10000; decide), fun ql hql => ?_⟩
        have Sql : Same Hqt _ := same_new (o := .lst [.ref qt]) hql
        have eql : (upd Hqt ql (.lst [.ref qt])) ql = some (.lst [.ref qt]) := upd_same
        generalize upd Hqt ql (.lst [.ref qt]) = Hql at Sql eql ⊢
        have e4 := Sql _ _ (Sqt _ _ (Sa _ _ e2))
        refine ⟨qa, ql, _, _, rfl, rfl, Sql _ _ (Sqt _ _ ea), eql, sizeLine_ge (by rw [List.length_take]; show _ + 1 ≤ 10000; omega), fun qc hqc => ?_⟩
        have Sc : Same Hql _ := same_new (o := .lst (vs.take j ++ [.ref qt])) hqc
        have ec : (upd Hql qc (.lst (vs.take j ++ [.ref qt]))) qc = some (.lst (vs.take j ++ [.ref qt])) := upd_same
        generalize upd Hql qc (.lst (vs.take j ++ [.ref qt])) = H5 at Sc ec ⊢
        refine ⟨_, rfl, _, rfl, _, _, rfl, rfl, (j : Int) + 2, rfl, q1, vs, rfl, .inl (.inl (Sc _ _ e4)), fun qd hqd => ?_⟩
        rw [show (j : Int) + 2 = ((j + 2 : Nat) : Int) by omega, cut_from (by omega)]
        have Sd : Same H5 _ := same_new (o := .lst (vs.drop (j + 2))) hqd
        have ed : (upd H5 qd (.lst (vs.drop (j + 2)))) qd = some (.lst (vs.drop (j + 2))) := upd_same
        generalize upd H5 qd (.lst (vs.drop (j + 2))) = H6 at Sd ed ⊢
        have ln : (vs.take j ++ [V.ref qt]).length + (vs.drop (j + 2)).length = m - 1 := by
          rw [List.length_append, List.length_take, List.length_drop]
          show _ + 1 + _ = _
          omega
        refine ⟨qc, qd, _, _, rfl, rfl, Sd _ _ ec, ed, sizeLine_ge (by omega), fun qe hqe => ?_⟩
        have Se : Same H6 _ := same_new (o := .lst (vs.take j ++ [.ref qt] ++ vs.drop (j + 2))) hqe
        have ee : (upd H6 qe (.lst (vs.take j ++ [.ref qt] ++ vs.drop (j + 2)))) qe = some (.lst (vs.take j ++ [.ref qt] ++ vs.drop (j + 2))) := upd_same
        generalize upd H6 qe (.lst (vs.take j ++ [.ref qt] ++ vs.drop (j + 2))) = H7 at Se ee ⊢
        have s27 : Same H2 H7 := ((((Sa.trans Sqt).trans Sql).trans Sc).trans Sd).trans Se
        have ts2 := two_at hx hy
        have nm : TTv H7 (.ref qt) (.n2 .sum [] x y) := ⟨qt, vx, vy, rfl, ((Sql.trans Sc).trans (Sd.trans Se)) _ _ eqt, TT.keep (k2.trans (TupS.of s27)) hxv, TT.keep (k2.trans (TupS.of s27)) hyv⟩
        refine ⟨qe, _, ts.take j ++ [.n2 .sum [] x y] ++ ts.drop (j + 2), _, rfl, ee, Ne.symm ((P2.same ((((Sa.trans Sqt).trans Sql).trans Sc).trans Sd)).ne hqe), ?_, ?_, by omega, by omega, ?_, ?_, ?_, ?_⟩
        · have pk := Paired.mapP pv fun _ _ h => TT.keep (k2.trans (TupS.of s27)) h
          exact Paired.app (Paired.app (paired_take j pk) (.cons nm .nil)) (paired_drop (j + 2) pk)
        · rw [List.length_append, List.length_append, List.length_take, List.length_drop]
          show _ + 1 + _ = _
          omega
        · rw [← fl]
          conv => rhs; rw [ts2]
          simp [List.flatMap_append, U.leavesT]
        · intro t ht
          rcases List.mem_append.mp ht with ht | ht
          · rcases List.mem_append.mp ht with ht | ht
            · exact st t (List.mem_of_mem_take ht)
            · rw [List.mem_singleton.mp ht]
              exact ⟨rfl, st x (List.mem_of_getElem? hx), st y (List.mem_of_getElem? hy)⟩
          · exact st t (List.mem_of_mem_drop ht)
        · exact But.trans b1 (But.trans b2 (But.of_same s27))
        · exact (P2.same s27).mono (by omega)
      · have h : ¬ (1 : Int) < (vs.length : Int) := fun z => h (decide_eq_true z)
        rw [vl] at h
        have m0 : m = 1 := by omega
        subst m0
        obtain ⟨t, rfl⟩ := List.length_eq_one_iff.mp tl
        cases pv with
        | cons ht pv =>
          cases pv
          refine ⟨_, rfl, q1, _, 0, _, rfl, rfl, .inl (.inl e1), at0 _ _, ?_⟩
          exact fin _ t _ b1 (P1.mono (by omega)) (st t List.mem_cons_self) (by simpa using fl) ht
end
end K


set_option Elab.async false
set_option linter.all false
set_option maxRecDepth 100000
set_option maxHeartbeats 4000000
set_option pp.maxSteps 3000
/-! law k10: what a sum's walk tells, all told and told less; a sum's size -/
namespace U
open PySem L2
/-- an induction over sums -/
theorem SumT.rec' {Q : Tm → Prop} (a : ∀ k l, Q (.atom k l)) (s : ∀ x y, SumT x → SumT y → Q x → Q y → Q (.n2 .sum [] x y)) : ∀ {t : Tm}, SumT t → Q t
  | .atom k l, _ => a k l
  | .n2 wd b x y, h => by
    cases wd with
    | sum =>
      obtain ⟨rfl, hx, hy⟩ := h
      exact s x y hx hy (SumT.rec' a s hx) (SumT.rec' a s hy)
    | _ => exact h.elim
  | .n1 _ _ _, h => h.elim
  | .n3 _ _ _ _ _, h => h.elim
section
variable {fr : Tm → List Nm} {kn : Nm} {lim : Nat} {e : En} {f : Nm → Int} {t : Tm}
theorem pre_leaves (h : SumT t) : (preT t).length + 1 = 2 * (leavesT t).length := by
  refine SumT.rec' (Q := fun t => (preT t).length + 1 = 2 * (leavesT t).length) (fun _ _ => rfl) (fun x y _ _ hx hy => ?_) h
  simp only [preT, leavesT, List.length_cons, List.length_append]
  omega
theorem depth_leaves (h : SumT t) : t.depth < (leavesT t).length := by
  refine SumT.rec' (Q := fun t => t.depth < (leavesT t).length) (fun _ _ => Nat.one_pos) (fun x y sx sy hx hy => ?_) h
  have := leaves_pos sx
  have := leaves_pos sy
  simp only [Tm.depth, leavesT, List.length_append]
  omega
theorem size_leaves (h : SumT t) : t.size + 1 = 2 * (leavesT t).length := by
  refine SumT.rec' (Q := fun t => t.size + 1 = 2 * (leavesT t).length) (fun _ _ => rfl) (fun x y _ _ hx hy => ?_) h
  simp only [Tm.size, leavesT, List.length_append]
  omega
theorem num_short {l : Nm} {m : Int} (h1 : -20 ≤ m) (h2 : m < 30) (h : Str.ofString (toString m) = tx l) : l.length ≤ 6 := by
  have key : ∀ n : Nat, n < 50 → (Str.ofString (toString ((n : Int) - 20))).length ≤ 6 := by decide +kernel
  have := key (m + 20).toNat (by omega)
  rw [show (((m + 20).toNat : Nat) : Int) - 20 = m by omega, h, tx_len] at this
  exact this
theorem leaf_len {r : Kd × Nm} (h : LeafOk r) : r.2.length ≤ 6 := by
  obtain ⟨k, l⟩ := r
  cases k with
  | num =>
    obtain ⟨m, h1, h2, h3, _⟩ := h
    exact num_short h1 h2 h3
  | name => exact (show ∀ l ∈ leafN, l.length ≤ 6 by decide) l h
  | part => exact (show ∀ l ∈ leafP, l.length ≤ 6 by decide) l h
theorem leaf_ok {r : Kd × Nm} (h : LeafOk r) : (Tm.atom r.1 r.2).Ok := by
  obtain ⟨k, l⟩ := r
  cases k with
  | num =>
    obtain ⟨m, _, _, _, h4, _⟩ := h
    exact h4
  | name => exact smallB_ok ((show ∀ l ∈ leafN, smallB l = true by decide) l h)
  | part => exact greatB_ok ((show ∀ l ∈ leafP, greatB l = true by decide) l h)
theorem leaf_num {l : Nm} (h : LeafOk (.num, l)) : (numVal l).natAbs ≤ 100 := by
  obtain ⟨m, h1, h2, _, _, h5⟩ := h
  rw [h5]
  omega
theorem pr_leaves (h : SumT t) (hl : ∀ r ∈ leavesT t, LeafOk r) : t.pr.length + 7 ≤ 13 * (leavesT t).length := by
  refine SumT.rec' (Q := fun t => (∀ r ∈ leavesT t, LeafOk r) → t.pr.length + 7 ≤ 13 * (leavesT t).length) (fun k l h => ?_) (fun x y sx sy hx hy h => ?_) h hl
  · have := leaf_len (h (k, l) List.mem_cons_self)
    show l.length + 7 ≤ 13 * 1
    have this : l.length ≤ 6 := this
    omega
  · have h1 := hx fun r hr => h r (List.mem_append_left _ hr)
    have h2 := hy fun r hr => h r (List.mem_append_right _ hr)
    have := leaves_pos sx
    have := leaves_pos sy
    simp only [Tm.pr, hd, Wd.bd, Wd.cs, leavesT, List.length_append, List.length_cons, List.length_nil, Bool.false_eq_true, if_false]
    omega
theorem ok_leaves (h : SumT t) (hl : ∀ r ∈ leavesT t, LeafOk r) : t.Ok := by
  refine SumT.rec' (Q := fun t => (∀ r ∈ leavesT t, LeafOk r) → t.Ok) (fun k l h => leaf_ok (h (k, l) List.mem_cons_self)) (fun x y sx sy hx hy h => ?_) h hl
  exact ⟨rfl, rfl, hx fun r hr => h r (List.mem_append_left _ hr), hy fun r hr => h r (List.mem_append_right _ hr)⟩
theorem names_leaves (h : SumT t) : t.Names fun l => (Kd.name, l) ∈ leavesT t := by
  refine SumT.rec' (Q := fun t => t.Names fun l => (Kd.name, l) ∈ leavesT t) (fun k l h => ?_) (fun x y sx sy hx hy => ?_) h
  · subst h
    exact List.mem_cons_self
  · exact ⟨names_mono (fun l h => List.mem_append_left _ h) hx, names_mono (fun l h => List.mem_append_right _ h) hy⟩
/-- told all that it asks for, and more -/
theorem tale_all (hf : ∀ k, (f k).natAbs ≤ 100) (ht : SumT t) (hn : ∀ r ∈ leavesT t, LeafOk r) (hl : (leavesT t).length ≤ 9) (lm : 100 ≤ lim) (rest : List Hd) :
    taleM fr kn lim 100 ⟨coded t 1 .endd, e, .nil, none, 0, []⟩ (((asksT e t).map fun k => Hd.num (f k)) ++ rest) [] = some ⟨asksT e t, (preT t).length, [], some (.num (sumT e f t))⟩ := by
  have pl := pre_leaves ht
  have lp := leaves_pos ht
  obtain ⟨k, e2, hk, _, hr⟩ := ldx_sum (fr := fr) (kn := kn) (lim := lim) (e := e) hf ht (fun r hr h1 => by
    have := hn r hr
    obtain ⟨k, l⟩ := r
    cases h1
    exact leaf_num this) hl 0 1 .endd .nil none 0 [] rest [] rfl (Nat.le_refl _) (by omega)
  have e1 : ((asksT e t).map fun k => (k, Hd.num (f k))).map (·.2) = (asksT e t).map fun k => Hd.num (f k) := by rw [List.map_map]; rfl
  have e3 : ((asksT e t).map fun k => (k, Hd.num (f k))).map (·.1) = asksT e t := by
    rw [List.map_map]
    exact List.map_id _
  rw [e1, e3, List.nil_append, List.nil_append, show 0 + 1 + ((preT t).length - 1) = (preT t).length by omega] at hr
  exact tale_more (1 + k) ((hr 1).trans rfl) (by omega)
/-- told so many fewer -/
theorem tale_less (hf : ∀ k, (f k).natAbs ≤ 100) (ht : SumT t) (hn : ∀ r ∈ leavesT t, LeafOk r) (hl : (leavesT t).length ≤ 9) (lm : 100 ≤ lim) {i : Nat} (hi : i < (asksT e t).length) :
    ∃ pl, (placesT 0 (preT t))[i]? = some pl ∧ taleM fr kn lim 100 ⟨coded t 1 .endd, e, .nil, none, 0, []⟩ (((asksT e t).take i).map fun k => Hd.num (f k)) [] = some ⟨(asksT e t).take (i + 1), pl + 1, [], none⟩ := by
  have pl := pre_leaves ht
  have lp := leaves_pos ht
  have l0 : (placesT 0 (preT t)).length = (asksT e t).length := places_len ht 0
  have e0 : (placesT 0 (preT t))[i]? = some (placesT 0 (preT t))[i] := List.getElem?_eq_getElem (by omega)
  have e1 : (placesT 1 (preT t))[i]? = some ((placesT 0 (preT t))[i] + 1) := by
    rw [show (1 : Nat) = 0 + 1 from rfl, places_shift, List.getElem?_map, e0]
    rfl
  refine ⟨_, e0, ?_⟩
  have ea : (asksT e t)[i]? = some (asksT e t)[i] := List.getElem?_eq_getElem hi
  obtain ⟨k, s', s'', hk, hr, hs, st, md⟩ := cut_sum (fr := fr) (kn := kn) (lim := lim) (e := e) hf ht (fun r hr h1 => by
    have := hn r hr
    obtain ⟨k, l⟩ := r
    cases h1
    exact leaf_num this) hl i _ _ ea e1 1 .endd .nil none 0 [] [] (Nat.le_refl _) (by omega)
  refine tale_more (1 + k) ((hr 1).trans ?_) (by omega)
  rw [taleM, hs]
  show some (Tale.mk _ _ _ _) = _
  rw [st, md, List.nil_append, List.take_succ, ea]
  simp
/-- the numbers and what is needed, added up -/
theorem sum_parts (ht : SumT t) : sumT e f t = (((leavesT t).filter fun r => r.1 == .num).map fun r => numVal r.2).sum + ((asksT e t).map f).sum := by
  unfold sumT asksT
  generalize leavesT t = ls
  induction ls with
  | nil => rfl
  | cons r ls ih =>
    obtain ⟨k, l⟩ := r
    rw [List.map_cons, List.sum_cons, ih, List.flatMap_cons, List.map_append, List.sum_append]
    cases k with
    | num => rw [List.filter_cons_of_pos (by rfl), List.map_cons, List.sum_cons]; simp [askL]; omega
    | name => rw [List.filter_cons_of_neg (by intro z; cases z)]; simp [askL]; omega
    | part => rw [List.filter_cons_of_neg (by intro z; cases z)]; simp [askL]; omega
end
end U

set_option Elab.async false
set_option linter.all false
set_option maxRecDepth 100000
set_option maxHeartbeats 4000000
set_option pp.maxSteps 3000
/-! law k10: leaves by their values, as data; names drawn for them -/
namespace U
open PySem L2
theorem getR_all {y : Nm} : ∀ {rows a : En}, (rows.map (·.1)).Nodup → getR (putAll a rows) y = match getR rows y with | some k => some k | none => getR a y
  | [], a, _ => rfl
  | r :: rows, a, h => by
    rw [List.map_cons, List.nodup_cons] at h
    show getR (putAll (putR a r.1 r.2) rows) y = _
    rw [getR_all h.2, getR_cons]
    by_cases e : r.1 = y
    · rw [if_pos e]
      have : getR rows y = none := by
        cases g : getR rows y with
        | none => rfl
        | some k =>
          refine absurd ?_ h.1
          unfold getR at g
          obtain ⟨x, hx, _⟩ := Option.map_eq_some_iff.mp g
          have := List.find?_some hx
          rw [e]
          exact List.mem_map.mpr ⟨x, List.mem_of_find?_eq_some hx, by simpa using this⟩
      rw [this, ← e]
      exact getR_eq _
    · rw [if_neg e]
      cases getR rows y with
      | some k => rfl
      | none => exact getR_ne (fun z => e z.symm) _
theorem getR_put {e : En} (h : (e.map (·.1)).Nodup) (y : Nm) : getR (putAll [] e) y = getR e y := by
  rw [getR_all h]
  cases getR e y <;> rfl
theorem getR_mem {e : En} {y : Nm} : getR e y = none ↔ y ∉ e.map (·.1) := by
  induction e with
  | nil => exact ⟨fun _ h => (by cases h), fun _ => rfl⟩
  | cons r e ih =>
    rw [getR_cons, List.map_cons, List.mem_cons]
    by_cases z : r.1 = y
    · rw [if_pos z]
      exact ⟨fun h => (by cases h), fun h => absurd (Or.inl z.symm) h⟩
    · rw [if_neg z, ih]
      exact ⟨fun h => fun g => g.elim (fun w => z w.symm) h, fun h => fun g => h (.inr g)⟩
theorem getR_in {e : En} {y k : Nm} (h : getR e y = some k) : ∃ r ∈ e, r.1 = y ∧ r.2 = k := by
  unfold getR at h
  obtain ⟨x, hx, hk⟩ := Option.map_eq_some_iff.mp h
  exact ⟨x, List.mem_of_find?_eq_some hx, by simpa using List.find?_some hx, hk⟩
/-- what a name may stand for -/
def owns5 : List Nm := [[80], [80, 46, 49], [81, 46, 50, 46, 51], [63, 46, 49], [90, 46, 49, 48]]
/-- names drawn: the leaves' small names in their order, each with one of five -/
structure NamesOk (ls : List (Kd × Nm)) (l : List Nm) (e : En) : Prop where
  keys : e.map (·.1) = l.filter fun y => decide ((Kd.name, y) ∈ ls)
  vals : ∀ r ∈ e, r.2 ∈ owns5
theorem NamesOk.nodup {ls : List (Kd × Nm)} {e : En} (h : NamesOk ls leafN e) : (e.map (·.1)).Nodup := by
  rw [h.keys]
  exact List.Pairwise.filter _ (show leafN.Nodup by decide)
theorem NamesOk.len {ls : List (Kd × Nm)} {l : List Nm} {e : En} (h : NamesOk ls l e) : e.length ≤ l.length := by
  have := congrArg List.length h.keys
  rw [List.length_map] at this
  rw [this]
  exact List.length_filter_le _ _
theorem NamesOk.has {ls : List (Kd × Nm)} {e : En} (h : NamesOk ls leafN e) {y : Nm} (hy : (Kd.name, y) ∈ ls) (hm : y ∈ leafN) : ∃ k, getR e y = some k ∧ k ∈ owns5 := by
  cases g : getR e y with
  | none =>
    refine absurd ?_ (getR_mem.mp g)
    rw [h.keys]
    exact List.mem_filter.mpr ⟨hm, decide_eq_true hy⟩
  | some k =>
    obtain ⟨r, hr, _, rfl⟩ := getR_in g
    exact ⟨_, rfl, h.vals r hr⟩
theorem NamesOk.part {ls : List (Kd × Nm)} {e : En} (h : NamesOk ls leafN e) {y : Nm} (hm : y ∈ leafP) : getR e y = none := by
  refine getR_mem.mpr fun g => ?_
  rw [h.keys] at g
  exact (show ∀ y ∈ leafP, y ∉ leafN by decide) y hm (List.mem_filter.mp g).1
/-- a leaf's one need is short -/
theorem ask_len {ls : List (Kd × Nm)} {e : En} (r : Kd × Nm) : (askL e r).length ≤ 1 := by
  obtain ⟨k, l⟩ := r
  cases k <;> simp [askL]
theorem asks_len {e : En} : ∀ ls : List (Kd × Nm), (ls.flatMap (askL e)).length ≤ ls.length
  | [] => Nat.le_refl _
  | r :: ls => by
    have := asks_len (e := e) ls
    have := ask_len (ls := ls) (e := e) r
    rw [List.flatMap_cons, List.length_append, List.length_cons]
    omega
theorem asks_asc {ls : List (Kd × Nm)} {e : En} (h : NamesOk ls leafN e) (hl : ∀ r ∈ ls, LeafOk r) : ∀ k ∈ ls.flatMap (askL e), (∀ c ∈ k, c < 128) ∧ k.length ≤ 10 := by
  intro k hk
  obtain ⟨r, hr, hk⟩ := List.mem_flatMap.mp hk
  obtain ⟨kd, l⟩ := r
  have hlk := hl _ hr
  cases kd with
  | num => cases hk
  | name =>
    obtain ⟨k', g, m⟩ := h.has hr hlk
    have e1 : k = k' := by
      rw [List.mem_singleton.mp (show k ∈ [(getR e l).getD l] from hk), g]
      rfl
    rw [e1]
    exact (show ∀ k ∈ owns5, (∀ c ∈ k, c < 128) ∧ k.length ≤ 10 by decide) _ m
  | part =>
    have e1 : k = l := by
      rw [List.mem_singleton.mp (show k ∈ [(getR e l).getD l] from hk), h.part hlk]
      rfl
    rw [e1]
    exact (show ∀ k ∈ leafP, (∀ c ∈ k, c < 128) ∧ k.length ≤ 10 by decide) _ hlk
end U
namespace K
open PySem PySem.W PySem.Spec PyProof.Rows L2 U
def leafX : Kd × U.Nm → V
  | (.num, l) => .int (U.numVal l)
  | (_, l) => .str (tx l)
/-- a leaf as the law has it -/
def LfV (H : Hp) (v : V) (r : Kd × U.Nm) : Prop := ∃ q, v = .ref q ∧ H q = some (.tup [.str (tx r.1.cs), leafX r])
theorem LfV.keep {H H' : Hp} (k : TupS H H') {v : V} {r : Kd × U.Nm} (h : LfV H v r) : LfV H' v r := by
  obtain ⟨q, h1, h2⟩ := h
  exact ⟨q, h1, k _ _ h2⟩
theorem leaf_val {H : Hp} {v : V} {r : Kd × U.Nm} (h : TT H (.atom r.1 r.2) v) (ok : U.LeafOk r) : LfV H v r := by
  obtain ⟨q, x, rfl, hq, av⟩ := h
  refine ⟨q, rfl, ?_⟩
  obtain ⟨k, l⟩ := r
  rcases av with ⟨z, n, rfl, e1, b⟩ | ⟨z, rfl⟩
  · cases z
    obtain ⟨l', e2, _, e3⟩ := num_back b
    have : l' = l := tx_inj (e2.symm.trans e1)
    subst this
    rw [show leafX (.num, l') = .int n by rw [← e3]; rfl]
    exact hq
  · cases k with
    | num => exact absurd rfl z
    | name => exact hq
    | part => exact hq
def leafD : Kd × U.Nm → PyData
  | (.num, l) => .tuple [.str (tx Kd.num.cs), .int (U.numVal l)]
  | (k, l) => .tuple [.str (tx k.cs), .str (tx l)]
theorem dp_leaf {K : PySem.W.Frag} {H : Hp} {v : V} {r : Kd × U.Nm} (h : LfV H v r) : Dp K H v (leafD r) := by
  obtain ⟨q, rfl, h⟩ := h
  obtain ⟨k, l⟩ := r
  cases k with
  | num => exact .tup (.inl (.inl h)) (.cons (.str _) (.cons (.int _) .nil))
  | name => exact .tup (.inl (.inl h)) (.cons (.str _) (.cons (.str _) .nil))
  | part => exact .tup (.inl (.inl h)) (.cons (.str _) (.cons (.str _) .nil))
theorem dp_leaves {K : PySem.W.Frag} {H : Hp} {q : Addr} {vs : List V} {ls : List (Kd × U.Nm)} (hq : SqL K H q vs) (h : Paired (LfV H) vs ls) : Dp K H (.ref q) (.list (ls.map leafD)) := by
  refine .lst hq ?_
  clear hq
  induction h with
  | nil => exact .nil
  | cons h _ ih => exact .cons (dp_leaf h) ih
theorem leaf_lay {r : Kd × U.Nm} (ok : U.LeafOk r) : PyData.canLay0 (leafD r) = true ∧ PyData.depth (leafD r) ≤ 2 := by
  obtain ⟨k, l⟩ := r
  have ks : ∀ k : Kd, PyData.strOk (tx k.cs) = true := by intro k; cases k <;> decide +kernel
  cases k with
  | num => exact ⟨by simp [leafD, PyData.canLay0, PyData.canLayAll0, ks], by simp only [leafD, PyData.depth, PyData.depthAll]; omega⟩
  | name =>
    have o : PyData.strOk (tx l) = true := (Asc.tx ((show ∀ l ∈ U.leafN, ∀ c ∈ l, c < 128 by decide) l ok)).ok
    exact ⟨by simp [leafD, PyData.canLay0, PyData.canLayAll0, ks, o], by simp only [leafD, PyData.depth, PyData.depthAll]; omega⟩
  | part =>
    have o : PyData.strOk (tx l) = true := (Asc.tx ((show ∀ l ∈ U.leafP, ∀ c ∈ l, c < 128 by decide) l ok)).ok
    exact ⟨by simp [leafD, PyData.canLay0, PyData.canLayAll0, ks, o], by simp only [leafD, PyData.depth, PyData.depthAll]; omega⟩
theorem leaf_shaped {r : Kd × U.Nm} (ok : U.LeafOk r) : SeqAt.shaped (leafD r) = true := by
  obtain ⟨h1, h2⟩ := leaf_lay ok
  simp only [SeqAt.shaped, h1, Bool.true_and]
  exact decide_eq_true (by omega)
theorem leaves_shaped {ls : List (Kd × U.Nm)} (ok : ∀ r ∈ ls, U.LeafOk r) : SeqAt.shaped (.list (ls.map leafD)) = true := by
  have : PyData.canLayAll0 (ls.map leafD) = true ∧ PyData.depthAll (ls.map leafD) ≤ 3 := by
    induction ls with
    | nil => exact ⟨rfl, by decide⟩
    | cons r ls ih =>
      obtain ⟨i1, i2⟩ := ih fun r h => ok r (List.mem_cons_of_mem _ h)
      obtain ⟨h1, h2⟩ := leaf_lay (ok r List.mem_cons_self)
      refine ⟨by rw [List.map_cons, PyData.canLayAll0, h1, i1]; rfl, ?_⟩
      rw [List.map_cons, PyData.depthAll]
      omega
  simp only [SeqAt.shaped, PyData.canLay0, this.1, Bool.true_and]
  refine decide_eq_true ?_
  simp only [PyData.depth]
  omega
theorem leaf_eqv {r : Kd × U.Nm} {y : U.Nm} : PyData.eqv (leafD r) (leafD (.name, y)) = decide (r = (.name, y)) := by
  obtain ⟨k, l⟩ := r
  cases k with
  | num =>
    rw [decide_eq_false (by intro z; cases z)]
    simp only [leafD, PyData.eqv, PyData.eqvAll, Bool.and_eq_false_imp]
    intro h
    exact absurd h (by decide +kernel)
  | name =>
    simp only [leafD, PyData.eqv, PyData.eqvAll, Bool.and_true, beq_self_eq_true, Bool.true_and]
    rw [Bool.eq_iff_iff, beq_iff_eq, decide_eq_true_iff]
    exact ⟨fun h => by rw [tx_inj h], fun h => by cases h; rfl⟩
  | part =>
    rw [decide_eq_false (by intro z; cases z)]
    simp only [leafD, PyData.eqv, PyData.eqvAll, Bool.and_eq_false_imp]
    intro h
    exact absurd h (by decide +kernel)
theorem leaf_any {ls : List (Kd × U.Nm)} {y : U.Nm} : ((ls.map leafD).any fun z => PyData.eqv z (leafD (.name, y))) = decide ((Kd.name, y) ∈ ls) := by
  rw [List.any_map]
  rw [Bool.eq_iff_iff, decide_eq_true_iff, List.any_eq_true]
  exact ⟨fun ⟨r, hr, h⟩ => by
    have h : PyData.eqv (leafD r) (leafD (.name, y)) = true := h
    rw [leaf_eqv] at h
    rw [← of_decide_eq_true h]
    exact hr, fun h => ⟨_, h, by show PyData.eqv (leafD _) _ = true; rw [leaf_eqv]; exact decide_eq_true rfl⟩⟩
/-- names in their order -/
def pairS (r : U.Nm × U.Nm) : Str × Str := (tx r.1, tx r.2)
theorem names_sorted {ls : List (Kd × U.Nm)} {e : U.En} (h : U.NamesOk ls U.leafN e) : (e.map pairS).Pairwise fun r r' => dataLe false U.pairD r r' = true := by
  have key : U.leafN.Pairwise fun y y' => ∀ v ∈ U.owns5, ∀ v' ∈ U.owns5, dataLe false U.pairD (tx y, tx v) (tx y', tx v') = true := by decide +kernel
  have k2 := key.filter fun y => decide ((Kd.name, y) ∈ ls)
  rw [← h.keys, List.pairwise_map] at k2
  rw [List.pairwise_map]
  exact k2.imp_of_mem fun {a b} ha hb hab => hab _ (h.vals a ha) _ (h.vals b hb)
theorem names_ent (e : U.En) : namesK e = (e.map pairS).map entS := by
  rw [List.map_map]
  rfl
end K

set_option Elab.async false
set_option linter.all false
set_option maxRecDepth 100000
set_option maxHeartbeats 4000000
set_option pp.maxSteps 3000
namespace U
open PySem L2
theorem pre_sum {t : Tm} (h : SumT t) : ∀ t' ∈ preT t, SumT t' := by
  refine SumT.rec' (Q := fun t => ∀ t' ∈ preT t, SumT t') (fun k l t' h => ?_) (fun x y sx sy hx hy t' h => ?_) h
  · rw [List.mem_singleton.mp h]
    exact trivial
  · rcases List.mem_cons.mp h with rfl | h
    · exact ⟨rfl, sx, sy⟩
    · rcases List.mem_append.mp h with h | h
      · exact hx t' h
      · exact hy t' h
theorem places_le : ∀ (l : List Tm) (i : Nat), (placesT i l).length ≤ l.length
  | [], _ => Nat.le_refl _
  | t :: l, i => by
    have := places_le l (i + 1)
    show (if needT t = true then i :: placesT (i + 1) l else placesT (i + 1) l).length ≤ l.length + 1
    split
    · rw [List.length_cons]
      omega
    · omega
end U
namespace K
open PySem PySem.Spec PyProof.Rows L2 U
theorem tups_lst {q : Addr} {H : Hp} {xs ys : List V} (h : H q = some (.lst xs)) : TupS H (upd H q (.lst ys)) := fun a l e => by
  rw [upd_ne (ne_of e h (by intro z; cases z))]
  exact e
theorem tups_dk {q : Addr} {H : Hp} {xs ys : List (Key × V)} (h : H q = some (.dK xs)) : TupS H (upd H q (.dK ys)) := fun a l e => by
  rw [upd_ne (ne_of e h (by intro z; cases z))]
  exact e
theorem purse_upd {p q : Addr} {H : Hp} {o : HO} {c : Int} (h : Purse2 H p c) (n : q ≠ p) : Purse2 (upd H q o) p c := by
  obtain ⟨a, b, h1, h2⟩ := h
  exact ⟨a, b, by rw [upd_ne (Ne.symm n)]; exact h1, h2⟩
theorem but_upd {p q : Addr} {H H' : Hp} {o : HO} (b : But p H H') (h : H q = none) : But p H (upd H' q o) := fun a x e n => by
  rw [upd_ne (ne_of_none e h)]
  exact b a x e n
theorem names_put {e : U.En} {y k : U.Nm} (h : y ∉ e.map (·.1)) : putK (namesK e) (.inr (tx y)) (.str (tx k)) = namesK (e ++ [(y, k)]) := by
  unfold putK
  rw [if_neg]
  · unfold namesK
    rw [List.map_append]
    rfl
  · intro z
    obtain ⟨kv, hkv, hk⟩ := List.any_eq_true.mp z
    unfold namesK at hkv
    obtain ⟨r, hr, rfl⟩ := List.mem_map.mp hkv
    have : tx r.1 = tx y := by simpa using of_decide_eq_true hk
    exact h (List.mem_map.mpr ⟨r, hr, tx_inj this⟩)
theorem names_step {ls : List (Kd × U.Nm)} {i : Nat} {y k : U.Nm} {e : U.En} (hy : U.leafN[i]? = some y) (ok : U.NamesOk ls (U.leafN.take i) e) (hm : (Kd.name, y) ∈ ls) (hk : k ∈ U.owns5) : y ∉ e.map (·.1) ∧ U.NamesOk ls (U.leafN.take (i + 1)) (e ++ [(y, k)]) := by
  have tk : U.leafN.take (i + 1) = U.leafN.take i ++ [y] := by rw [List.take_succ, hy]; rfl
  refine ⟨fun h => ?_, ⟨?_, ?_⟩⟩
  · rw [ok.keys] at h
    have h := (List.mem_filter.mp h).1
    have nd : (U.leafN.take (i + 1)).Nodup := List.Nodup.sublist (List.take_sublist _ _) (by decide)
    rw [tk, List.nodup_append] at nd
    exact nd.2.2 y h y List.mem_cons_self rfl
  · rw [tk, List.filter_append, List.map_append, ok.keys]
    simp [hm]
  · intro r hr
    rcases List.mem_append.mp hr with h | h
    · exact ok.vals r h
    · rw [List.mem_singleton.mp h]
      exact hk
theorem names_skip {ls : List (Kd × U.Nm)} {i : Nat} {y : U.Nm} {e : U.En} (hy : U.leafN[i]? = some y) (ok : U.NamesOk ls (U.leafN.take i) e) (hm : ¬ (Kd.name, y) ∈ ls) : U.NamesOk ls (U.leafN.take (i + 1)) e := by
  have tk : U.leafN.take (i + 1) = U.leafN.take i ++ [y] := by rw [List.take_succ, hy]; rfl
  refine ⟨?_, ok.vals⟩
  rw [tk, List.filter_append, ok.keys]
  simp [hm]
def IntV (v : V) (m : Int) : Prop := v = .int m
theorem put_val {rows : List (U.Nm × Int)} {n : U.Nm} {m : Int} {r : U.Nm × Int} (h : r ∈ putR rows n m) : r.2 = m ∨ r ∈ rows := by
  unfold putR at h
  split at h
  · obtain ⟨x, hx, rfl⟩ := List.mem_map.mp h
    split
    · exact .inl rfl
    · exact .inr hx
  · rcases List.mem_append.mp h with h | h
    · exact .inr h
    · rw [List.mem_singleton.mp h]
      exact .inl rfl
theorem put_len {rows : List (U.Nm × Int)} {n : U.Nm} {m : Int} : (putR rows n m).length ≤ rows.length + 1 := by
  unfold putR
  split
  · rw [List.length_map]
    omega
  · rw [List.length_append]
    exact Nat.le_refl _
def worth (rows : List (U.Nm × Int)) (k : U.Nm) : Int := (getR rows k).getD 0
theorem worth_le {rows : List (U.Nm × Int)} (h : ∀ r ∈ rows, -30 ≤ r.2 ∧ r.2 < 70) (k : U.Nm) : (worth rows k).natAbs ≤ 100 := by
  unfold worth
  cases g : getR rows k with
  | none => decide
  | some m =>
    unfold getR at g
    obtain ⟨x, hx, rfl⟩ := Option.map_eq_some_iff.mp g
    have := h x (List.mem_of_find?_eq_some hx)
    show (x.2).natAbs ≤ 100
    omega
theorem gots_of {H : Hp} {vs : List V} {gs : List U.Hd} (h : Paired (fun v g => HdV H g v) vs gs) : GotsV H vs gs := ⟨h.length, fun i g e => by
  have hi : i < vs.length := by
    rw [h.length]
    exact (List.getElem?_eq_some_iff.mp e).1
  obtain ⟨g', e1, e2⟩ := Paired.at2 h (List.getElem?_eq_getElem hi)
  rw [e] at e1
  cases Option.some.inj e1
  exact ⟨_, List.getElem?_eq_getElem hi, e2⟩⟩
theorem paired_unmap {α β γ : Type} {F : α → γ → Prop} {g : β → γ} : ∀ {a : List α} {b : List β}, Paired F a (b.map g) → Paired (fun x y => F x (g y)) a b
  | [], [], _ => .nil
  | _ :: _, _ :: _, .cons h t => .cons h (paired_unmap t)
theorem gots_take {H : Hp} {vs : List V} {gs : List U.Hd} (h : GotsV H vs gs) (i : Nat) : GotsV H (vs.take i) (gs.take i) := ⟨by rw [List.length_take, List.length_take, h.1], fun j g e => by
  rw [List.getElem?_take] at e
  split at e
  · obtain ⟨v, e1, e2⟩ := h.2 j g e
    exact ⟨v, by rw [List.getElem?_take, if_pos (by assumption)]; exact e1, e2⟩
  · cases e⟩
theorem tale_shaped {needs : List U.Nm} {steps : Nat} {h : Option U.Hd} (hn : ∀ k ∈ needs, ∀ c ∈ k, c < 128) (hh : h = none ∨ ∃ n, h = some (.num n)) : SeqAt.shaped (dQ needs steps [] h) = true := by
  have h1 : PyData.canLayAll0 (needs.map dStr) = true ∧ PyData.depthAll (needs.map dStr) ≤ 2 := by
    induction needs with
    | nil => exact ⟨rfl, by decide⟩
    | cons k needs ih =>
      obtain ⟨i1, i2⟩ := ih fun k h => hn k (List.mem_cons_of_mem _ h)
      have o : PyData.strOk (tx k) = true := (Asc.tx (hn k List.mem_cons_self)).ok
      refine ⟨by rw [List.map_cons, PyData.canLayAll0, i1]; simp [dStr, PyData.canLay0, o], ?_⟩
      rw [List.map_cons, PyData.depthAll]
      simp only [dStr, PyData.depth]
      omega
  obtain ⟨h1, h2⟩ := h1
  have h3 : PyData.canLay0 (dOHd h) = true ∧ PyData.depth (dOHd h) ≤ 3 := by
    rcases hh with rfl | ⟨n, rfl⟩
    · exact ⟨rfl, by decide⟩
    · have o : PyData.strOk (tx numberW) = true := by decide +kernel
      refine ⟨by simp [dOHd, dHd, dStr, PyData.canLay0, PyData.canLayAll0, o], ?_⟩
      simp only [dOHd, dHd, dStr, PyData.depth, PyData.depthAll]
      omega
  unfold dQ dStrs dMade
  simp only [SeqAt.shaped, PyData.canLay0, PyData.canLayAll0, List.map_nil, h1, h3.1, Bool.true_and, Bool.and_true]
  refine decide_eq_true ?_
  simp only [PyData.depth, PyData.depthAll]
  omega
theorem pre_head {H : Hp} {t : U.Tm} {v : V} (h : TT H t v) (s : U.SumT t) : ∃ (a : Addr) (us : List V) (wc : U.Nm), v = .ref a ∧ H a = some (.tup (.str (tx wc) :: us)) ∧ inV (.str (tx wc)) [.str (tx (Kd.cs .name)), .str (tx (Kd.cs .part))] = U.needT t := by
  cases t with
  | atom k l =>
    obtain ⟨a, x, rfl, ha, _⟩ := h
    refine ⟨a, _, _, rfl, ha, ?_⟩
    cases k with
    | num => exact show inV (.str (tx (Kd.cs .num))) [.str (tx (Kd.cs .name)), .str (tx (Kd.cs .part))] = false by decide +kernel
    | name => exact show inV (.str (tx (Kd.cs .name))) [.str (tx (Kd.cs .name)), .str (tx (Kd.cs .part))] = true by decide +kernel
    | part => exact show inV (.str (tx (Kd.cs .part))) [.str (tx (Kd.cs .name)), .str (tx (Kd.cs .part))] = true by decide +kernel
  | n1 w b x => exact s.elim
  | n3 w b x y z => exact s.elim
  | n2 wd b x y =>
    cases wd with
    | sum =>
      obtain ⟨a, u1, u2, rfl, ha, _⟩ := h
      exact ⟨a, _, _, rfl, ha, show inV (.str (tx (Wd.cs .sum))) [.str (tx (Kd.cs .name)), .str (tx (Kd.cs .part))] = false by decide +kernel⟩
    | _ => exact s.elim
def spRight10 (C : Addr) : Sp := fun vs H Q _ => ∃ (p : Addr) (c : Int), vs = [.ref p] ∧ Purse2 H p c ∧ c + 1000 < 2 ^ 40 ∧ ∀ H', ButC C p H H' → Purse2 H' p (c + 100) → Q (.bl true) H'
section
variable {P : Program} {w : World} {K : PySem.W.Frag} {mg : Str → Option Value} {base : Heap} {dW dB dN : Addr} {esW : Array DictEntry} {nW : Nat} (T : Txt K mg w dW dB esW nW) (N : Runs K mg dN)
include T N
theorem ok__law_right {f f1 f2 f3 f4 f5 f6 f7 C CT CS : Addr} {fd fd1 fd2 fd3 fd4 fd5 fd6 fd7 : FuncData} (F : Fun K "_law_right" "_law_right" s__law_right f fd) (SC : SeenC K CS)
    (h__law_take : Has P w K mg base "_law_take" 1 ["_law_purse_here", "_law_many"] spTake2 f1 fd1) (h__law_leaf : Has P w K mg base "_law_leaf" 2 ["_law_purse_here"] spLeaf f2 fd2) (h__law_put_together : Has P w K mg base "_law_put_together" 2 ["_law_purse_here", "_law_leaves"] (spTog K) f3 fd3)
    (h__law_walked_over : Has P w K mg base "_law_walked_over" 12 ["_law_tree"] (spOver 12) f7 fd7)
    (h__law_shown : Has P w K mg base "_law_shown" 12 ["_law_tree"] (spShownT 12) f4 fd4) (m_Term : HasC P w K mg base "Term" CT 7 ["self", "text"] (spTermInit CT C) f5 fd5) (h_walked : Has P w K mg base "walked" 39 ["knot", "term", "names", "gots"] (spWalkedG C CT CS) f6 fd6) : FnOk P w K mg base CX0 40 f fd ["_law_purse_here"] (spRight10 C) := by
  refine F.ok sc__law_right (fun vs H Q E h => ?_) (fun cdv A outer s H vs Q E hr h => ?_)
  · obtain ⟨p, c, rfl, _⟩ := h
    rfl
  · have hu := hu_of hr
    have hu65 := show (A.deeper (envOfC (Str.ofString "_law_right") (defScope s__law_right) s.heap.objs.size f cdv)).units + 65 < cLine from by have := hr.un; omega
    have hu64 := hr.units
    obtain ⟨p, c, rfl, hP, hc, q⟩ := h
    have e40 : (2 : Int) ^ 40 = 1099511627776 := by decide
    refine ⟨_, (pss_cons (ps_setLc (i := 1) (own := [("_law_k", 14)]) (g := gName 14) (tt := tYes) rfl sc__law_right.nd rfl rfl (sw_true rfl rfl rfl rfl) (pi_range1 (by rfl) T.z_range (pa_cons (pe_op op_add pe_int (pe_callH h__law_take (hr.mono (by first | decide | omega)) (by rfl) (pa_cons (pv 0) (pa_cons pe_int pa_nil)))) pa_nil)) (blkOk_by (N := nm__law_right) (sc := defScope s__law_right) (by decide +kernel)) (fun _ _ _ _ _ => pg_name (i := 14) sc__law_right.nd rfl (.inl rfl)) (fun _ _ _ _ _ => pts_nil) (fun _ _ _ _ _ => (pe_callH h__law_leaf (hr.mono (by first | decide | omega)) (by rfl) (pa_cons (pv 0) pa_nil))))
      (pss_cons (ps_set (i := 2) sc__law_right.nd rfl (.inl rfl) (pe_callH h__law_put_together (hr.mono (by first | decide | omega)) (by rfl) (pa_cons (pv 0) (pa_cons (pv 1) pa_nil))))
      (pss_cons (ps_set (i := 3) sc__law_right.nd rfl (.inr rfl) pe_dnewK)
      (pss_cons (ps_for PassesOwn.never rfl (pi_list (pe_lst (pa_cons pe_str (pa_cons pe_str (pa_cons pe_str (pa_cons pe_str pa_nil)))))) (pg_name (i := 4) sc__law_right.nd rfl (.inl rfl)) 
        (pss_one (ps_if (pt_cmpR (op_inD hu65) (pe_tup (pa_cons pe_str (pa_cons (pv 4) pa_nil))) (pv 1) (by rfl)) 
          (pss_one (ps_dput hu (pv 3) (pv 4) (pe_ix ix_list (pe_lst (pa_cons pe_str (pa_cons pe_str (pa_cons pe_str (pa_cons pe_str (pa_cons pe_str pa_nil)))))) (pe_callH h__law_take (hr.mono (by first | decide | omega)) (by rfl) (pa_cons (pv 0) (pa_cons pe_int pa_nil))) (fun _ _ => rfl)) rfl)) pss_nil)))
      (pss_cons (ps_setLc (i := 5) (own := [("_law_leaf_here", 15)]) (g := gName 15) (tt := tTest (tOp rNe (tOp (rIxT K) (tVar 15) (tC (.int 0))) (tC (.str (Str.ofString "number"))))) (te := tIf (tTest (tOp rEq (tOp (rIxT K) (tVar 15) (tC (.int 0))) (tC (.str (Str.ofString "name"))))) (tDGet (tVar 3) (tOp (rIxT K) (tVar 15) (tC (.int 1)))) (tOp (rIxT K) (tVar 15) (tC (.int 1)))) rfl sc__law_right.nd rfl rfl (sw_true rfl rfl rfl rfl) (pi_list (pv 1)) (blkOk_by (N := nm__law_right) (sc := defScope s__law_right) (by decide +kernel)) (fun _ _ _ _ _ => pg_name (i := 15) sc__law_right.nd rfl (.inl rfl)) (fun _ _ _ _ _ => pts_one (pt_cmpR op_ne (pe_ix ix_tup (pv 15) pe_int (fun _ _ => rfl)) pe_str (nomark _))) (fun _ _ _ _ _ => (pe_ifExp (pt_cmpR op_eq (pe_ix ix_tup (pv 15) pe_int (fun _ _ => rfl)) pe_str (nomark _)) (pe_dget hu (pv 3) (pe_ix ix_tup (pv 15) pe_int (fun _ _ => rfl)) (fun _ _ => rfl)) (pe_ix ix_tup (pv 15) pe_int (fun _ _ => rfl)))))
      (pss_cons (ps_set (i := 6) sc__law_right.nd rfl (.inr rfl) pe_dnewK)
      (pss_cons (ps_for PassesOwn.never rfl (pi_list (pv 5)) (pg_name (i := 7) sc__law_right.nd rfl (.inl rfl)) 
        (pss_one (ps_dput hu (pv 6) (pv 7) (pe_op op_sub (pe_callH h__law_take (hr.mono (by first | decide | omega)) (by rfl) (pa_cons (pv 0) (pa_cons pe_int pa_nil))) pe_int) rfl)))
      (pss_cons (ps_set (i := 8) sc__law_right.nd rfl (.inl rfl) (pe_ix ix_list (pe_lst (pa_cons (pe_callB call_len_seq (by rfl) T.z_len (by decide +kernel) (pa_cons (pv 5) pa_nil)) (pa_cons (pe_callH h__law_take (hr.mono (by first | decide | omega)) (by rfl) (pa_cons (pv 0) (pa_cons (pe_op op_add (pe_callB call_len_seq (by rfl) T.z_len (by decide +kernel) (pa_cons (pv 5) pa_nil)) pe_int) pa_nil))) (pa_cons (pe_op op_add (pe_callB call_len_seq (by rfl) T.z_len (by decide +kernel) (pa_cons (pv 5) pa_nil)) pe_int) pa_nil)))) (pe_callH h__law_take (hr.mono (by first | decide | omega)) (by rfl) (pa_cons (pv 0) (pa_cons pe_int pa_nil))) (fun _ _ => rfl)))
      (pss_cons (ps_set (i := 9) sc__law_right.nd rfl (.inl rfl) (pe_op op_cat (pe_lc (own := [("_law_knot", 7)]) (g := gName 7) (tt := tYes) rfl sc__law_right.nd (pi_list (pv 5)) (blkOk_by (N := nm__law_right) (sc := defScope s__law_right) (by decide +kernel)) (fun _ _ _ _ _ => pg_name (i := 7) sc__law_right.nd rfl (.inl rfl)) (fun _ _ _ _ _ => pts_nil) (fun _ _ _ _ _ => (pe_tup (pa_cons pe_str (pa_cons (pe_dget hu (pv 6) (pv 7) (fun _ _ => rfl)) pa_nil))))) (pe_lst (pa_cons (pe_tup (pa_cons pe_str (pa_cons pe_str (pa_cons pe_str pa_nil)))) (pa_cons (pe_tup (pa_cons pe_str (pa_cons pe_int pa_nil))) pa_nil)))))
      (pss_cons (ps_set (i := 10) sc__law_right.nd rfl (.inl rfl) (pe_callH h_walked (hr.mono (by first | decide | omega)) (by rfl) (pa_cons pe_str (pa_cons (pe_makeH m_Term (hr.mono (by first | decide | omega)) (by rfl) (pa_cons (pe_callH h__law_shown (hr.mono (by first | decide | omega)) (by rfl) (pa_cons (pv 2) pa_nil)) pa_nil)) (pa_cons (pe_callTy call_tuple2 (by rfl) T.z_tuple (by decide +kernel) (pa_cons (pe_callB (cr_sortedK rfl hu64) (by rfl) T.z_sorted (by decide +kernel) (pa_cons (pe_bm0 PySem.F.plainAttrs_dict PySem.F.slot_dict_items PySem.F.type_dict_items mt_itemsK (pv 3)) pa_nil)) pa_nil)) (pa_cons (pe_slice sl_list (pv 9) po_none (po_some (pv 8))) pa_nil))))))
      (pss_cons (ps_set (i := 11) sc__law_right.nd rfl (.inl rfl) (pe_callH h__law_walked_over (hr.mono (by first | decide | omega)) (by rfl) (pa_cons (pv 2) pa_nil)))
      (pss_cons (ps_if (pt_cmpR op_ge (pv 8) (pe_callB call_len_seq (by rfl) T.z_len (by decide +kernel) (pa_cons (pv 5) pa_nil)) (nomark _)) 
        (pss_cons (ps_set (i := 12) sc__law_right.nd rfl (.inl rfl) (pe_op op_add (pe_callB (cr_sum rfl) (by rfl) T.z_sum (by decide +kernel) (pa_cons (pe_lc (own := [("_law_leaf_here", 15)]) (g := gName 15) (tt := tTest (tOp rEq (tOp (rIxT K) (tVar 15) (tC (.int 0))) (tC (.str (Str.ofString "number"))))) (te := tOp (rIxT K) (tVar 15) (tC (.int 1))) rfl sc__law_right.nd (pi_list (pv 1)) (blkOk_by (N := nm__law_right) (sc := defScope s__law_right) (by decide +kernel)) (fun _ _ _ _ _ => pg_name (i := 15) sc__law_right.nd rfl (.inl rfl)) (fun _ _ _ _ _ => pts_one (pt_cmpR op_eq (pe_ix ix_tup (pv 15) pe_int (fun _ _ => rfl)) pe_str (nomark _))) (fun _ _ _ _ _ => (pe_ix ix_tup (pv 15) pe_int (fun _ _ => rfl)))) pa_nil)) (pe_callB (cr_sum rfl) (by rfl) T.z_sum (by decide +kernel) (pa_cons (pe_lc (own := [("_law_knot", 7)]) (g := gName 7) (tt := tYes) rfl sc__law_right.nd (pi_list (pv 5)) (blkOk_by (N := nm__law_right) (sc := defScope s__law_right) (by decide +kernel)) (fun _ _ _ _ _ => pg_name (i := 7) sc__law_right.nd rfl (.inl rfl)) (fun _ _ _ _ _ => pts_nil) (fun _ _ _ _ _ => (pe_dget hu (pv 6) (pv 7) (fun _ _ => rfl)))) pa_nil))))
        (pss_one (ps_ret (pe_cmpR (op_eqD hr.units) (pe_tup (pa_cons (pe_fld (pv 10) (by rfl)) (pa_cons (pe_fld (pv 10) (by rfl)) (pa_cons (pe_fld (pv 10) (by rfl)) (pa_cons (pe_fld (pv 10) (by rfl)) pa_nil))))) (pe_tup (pa_cons (pv 5) (pa_cons (pe_callB call_len_seq (by rfl) T.z_len (by decide +kernel) (pa_cons (pv 11) pa_nil)) (pa_cons (pe_lst pa_nil) (pa_cons (pe_tup (pa_cons pe_str (pa_cons (pv 12) pa_nil))) pa_nil))))) (nomark _))))) pss_nil)
      (pss_cons (ps_setLc (i := 13) (own := [("_law_at", 16), ("_law_term", 17)]) (g := gTup K 2 (gCons (gName 16) (gCons (gName 17) gNil))) (tt := tTest (tOp (rIn K false) (tOp (rIxT K) (tVar 17) (tC (.int 0))) (tTup (tCons (tC (.str (Str.ofString "name"))) (tCons (tC (.str (Str.ofString "part"))) tNil))))) rfl sc__law_right.nd rfl rfl (sw_true rfl rfl rfl rfl) (pi_enum (by rfl) T.z_enumerate (pa_cons (pv 11) pa_nil)) (blkOk_by (N := nm__law_right) (sc := defScope s__law_right) (by decide +kernel)) (fun _ _ _ _ _ => pg_tup rfl (pgs_cons (pg_name (i := 16) sc__law_right.nd rfl (.inl rfl)) (pgs_cons (pg_name (i := 17) sc__law_right.nd rfl (.inl rfl)) pgs_nil))) (fun _ _ _ _ _ => pts_one (pt_cmpR op_in_seq (pe_ix ix_tup (pv 17) pe_int (fun _ _ => rfl)) (pe_tup (pa_cons pe_str (pa_cons pe_str pa_nil))) (by rfl))) (fun _ _ _ _ _ => (pv 16)))
      (pss_one (ps_ret (pe_cmpR (op_eqD hr.units) (pe_tup (pa_cons (pe_fld (pv 10) (by rfl)) (pa_cons (pe_fld (pv 10) (by rfl)) (pa_cons (pe_fld (pv 10) (by rfl)) (pa_cons (pe_fld (pv 10) (by rfl)) pa_nil))))) (pe_tup (pa_cons (pe_slice sl_list (pv 5) po_none (po_some (pe_op op_add (pv 8) pe_int))) (pa_cons (pe_op op_add (pe_ix ix_list (pv 13) (pv 8) (fun _ _ => rfl)) pe_int) (pa_cons (pe_lst pa_nil) (pa_cons pe_non pa_nil))))) (nomark _))))))))))))))))), ?_⟩
    rw [show Str.ofString "a" = tx [97] by decide +kernel, show Str.ofString "x" = tx [120] by decide +kernel, show Str.ofString "xy" = tx [120,121] by decide +kernel, show Str.ofString "abcd" = tx [97,98,99,100] by decide +kernel, show Str.ofString "P" = tx [80] by decide +kernel, show Str.ofString "P.1" = tx [80,46,49] by decide +kernel, show Str.ofString "Q.2.3" = tx [81,46,50,46,51] by decide +kernel, show Str.ofString "?.1" = tx [63,46,49] by decide +kernel, show Str.ofString "Z.10" = tx [90,46,49,48] by decide +kernel, show Str.ofString "name" = tx (Kd.cs .name) by decide +kernel, show Str.ofString "part" = tx (Kd.cs .part) by decide +kernel, show Str.ofString "number" = tx (Kd.cs .num) by decide +kernel, show Str.ofString "pair" = tx pairW by decide +kernel, show Str.ofString "fault" = tx faultW by decide +kernel, show Str.ofString "R" = tx [82] by decide +kernel]
    have e29 : (2 : Int) ^ 29 = 536870912 := by decide
    refine ⟨_, rfl, p, 9, c, rfl, hP, by omega, by decide, by decide, fun r1 H1 r10 r19 P1 b1 => ?_⟩
    obtain ⟨n1, rfl⟩ := Int.eq_ofNat_of_zero_le r10
    obtain ⟨pa1, pb1, hpp1, _⟩ := id P1
    refine ⟨_, _, rfl, rfl, _, rfl, by omega, by omega, fun qL hqL => lc_do walk_range (fun j H' => Purse2 H' p (c + 1 + 2 * j) ∧ But p H1 H' ∧ ∃ (vs : List V) (ls : List (Kd × U.Nm)), ls.length = j ∧ H' qL = some (.lst vs) ∧ Paired (TTv H') vs (ls.map fun r => .atom r.1 r.2) ∧ ∀ r ∈ ls, U.LeafOk r) (fun _ => rfl) ?_ (fun _ _ _ _ => trivial) ?_ ?_⟩
    · exact ⟨(P1.same (same_new hqL)).mono (by omega), But.of_same (same_new hqL), [], [], rfl, upd_same, .nil, fun _ h => by cases h⟩
    · rintro i x Ha Hb hi ⟨Pa, ba, vs, ls, ll, eL, pl, lo⟩ ⟨rfl, _⟩
      refine ⟨_, rfl, p, _, rfl, Pa, by omega, fun Hc v r bc Pc tv ok => ?_⟩
      have nL : qL ≠ p := Ne.symm (P1.ne hqL)
      have eL' := bc _ _ eL nL
      have kt : TupS Hb Hc := Pa.tupS bc
      have kk : TupS Hc (upd Hc qL (.lst (vs ++ [v]))) := tups_lst eL'
      have vl : vs.length = i := by rw [pl.length, List.length_map, ll]
      refine ⟨vs, eL', sizeLine_ge (by omega), (purse_upd Pc nL).mono (by omega), but_upd (But.trans ba bc) hqL, vs ++ [v], ls ++ [r], by rw [List.length_append, ll]; rfl, upd_same, ?_, ?_⟩
      · rw [List.map_append]
        exact Paired.app (Paired.mapP pl fun _ _ h => TT.keep (kt.trans kk) h) (.cons (TT.keep kk tv) .nil)
      · intro r' hr'
        rcases List.mem_append.mp hr' with h | h
        · exact lo r' h
        · rw [List.mem_singleton.mp h]
          exact ok
    rintro H2 ⟨P2, b2, vs, ls, ll, eL, pl, lo⟩
    have nL : qL ≠ p := Ne.symm (P1.ne hqL)
    have l1 : 1 ≤ ls.length := by omega
    have l9 : ls.length ≤ 9 := by omega
    have P2 : Purse2 H2 p (c + 19) := P2.mono (by omega)
    have lv : Paired (LfV H2) vs ls := by
      have : ∀ {vs : List V} {ls : List (Kd × U.Nm)}, Paired (TTv H2) vs (ls.map fun r => .atom r.1 r.2) → (∀ r ∈ ls, U.LeafOk r) → Paired (LfV H2) vs ls := fun {vs ls} h ok => by
        induction ls generalizing vs with
        | nil => cases h; exact .nil
        | cons r ls ih =>
          cases h with
          | cons h t => exact .cons (leaf_val h (ok r List.mem_cons_self)) (ih t fun r h => ok r (List.mem_cons_of_mem _ h))
      exact this pl lo
    clear ll
    refine ⟨_, rfl, _, rfl, p, qL, c + 19, vs, ls, rfl, P2, by omega, .inl (.inl eL), pl, l1, l9, fun H3 t tv b3 P3 st lt ht => ?_⟩
    have eL3 := b3 _ _ eL nL
    have lv3 := Paired.mapP lv fun _ _ h => h.keep (P2.tupS b3)
    have bA : But p H H3 := But.trans b1 (But.trans b2 b3)
    clear pl lv b3 P2 b2 b1
    refine fun qN hqN => ?_
    have SN : Same H3 _ := same_new (o := .dK []) hqN
    have eN : (upd H3 qN (.dK [])) qN = some (.dK []) := upd_same
    have nN : qN ≠ p := Ne.symm (P3.ne hqN)
    generalize upd H3 qN (.dK []) = H4 at SN eN ⊢
    refine ⟨sizeLine_ge (by show 4 ≤ 10000; decide), fun qM hqM => ?_⟩
    have SqM : Same H4 _ := same_new (o := .lst [.str (tx [97]), .str (tx [97, 98, 99, 100]), .str (tx [120]), .str (tx [120, 121])]) hqM
    have eqM : (upd H4 qM (.lst [.str (tx [97]), .str (tx [97, 98, 99, 100]), .str (tx [120]), .str (tx [120, 121])])) qM = some (.lst [.str (tx [97]), .str (tx [97, 98, 99, 100]), .str (tx [120]), .str (tx [120, 121])]) := upd_same
    generalize upd H4 qM (.lst [.str (tx [97]), .str (tx [97, 98, 99, 100]), .str (tx [120]), .str (tx [120, 121])]) = HqM at SqM eqM ⊢
    have P4 : Purse2 HqM p (c + 28) := ((P3.same SN).same SqM).mono (by omega)
    have nM : qM ≠ p := Ne.symm ((P3.same SN).ne hqM)
    have nMN : qM ≠ qN := fun z => by rw [z, eN] at hqM; cases hqM
    have nLN : qL ≠ qN := ne_of_none eL3 hqN
    have eN4 := SqM _ _ eN
    have eL4 := SqM _ _ (SN _ _ eL3)
    have lv4 := Paired.mapP lv3 fun _ _ h => h.keep (TupS.of (SN.trans SqM))
    have sh1 : SeqAt.shaped (.list (ls.map leafD)) = true := leaves_shaped lo
    refine ⟨qM, rfl, ⟨_, .inl (.inl eqM)⟩, for_list (xs := strsV U.leafN) (fun i σ H' => ∃ (d4 : Option V) (e : U.En), σ = [some (.ref p), some (.ref qL), some tv, some (.ref qN), d4, none, none, none, none, none, none, none, none, none, none, none, none, none] ∧ U.NamesOk ls (U.leafN.take i) e ∧ H' qN = some (.dK (namesK e)) ∧ Purse2 H' p (c + 28 + i) ∧ ∀ a o, HqM a = some o → a ≠ p → a ≠ qN → H' a = some o) ?_ (fun i σ H' _ h => ?_) ?_ ?_⟩
    · exact ⟨none, [], rfl, ⟨rfl, fun _ h => by cases h⟩, eN4, P4.mono (by omega), fun a o e _ _ => e⟩
    · obtain ⟨_, _, _, _, _, _, k⟩ := h
      exact .inl (.inl (k _ _ eqM nM nMN))
    · rintro i x σ Ha hi ⟨d4, e, rfl, ok, eNa, Pa, ka⟩
      unfold strsV at hi
      rw [List.getElem?_map] at hi
      obtain ⟨y, hy, rfl⟩ := Option.map_eq_some_iff.mp hi
      have hi4 : i < 4 := (List.getElem?_eq_some_iff.mp hy).1
      have eLa := ka _ _ eL4 nL nLN
      have lva : Paired (LfV Ha) vs ls := Paired.mapP lv4 fun _ _ ⟨a, h1, h2⟩ => ⟨a, h1, ka _ _ h2 (fun z => by
        obtain ⟨_, _, g, _⟩ := P4
        rw [z, g] at h2
        cases h2) (fun z => by rw [z, eN4] at h2; cases h2)⟩
      refine ⟨_, rfl, sizeLine_ge (by show 2 ≤ 10000; decide), fun qt hqt => ?_⟩
      have Sqt : Same Ha _ := same_new (o := .tup [.str (tx (Kd.cs .name)), .str (tx y)]) hqt
      have eqt : (upd Ha qt (.tup [.str (tx (Kd.cs .name)), .str (tx y)])) qt = some (.tup [.str (tx (Kd.cs .name)), .str (tx y)]) := upd_same
      generalize upd Ha qt (.tup [.str (tx (Kd.cs .name)), .str (tx y)]) = Hqt at Sqt eqt ⊢
      refine ⟨_, rfl, leafD (.name, y), ls.map leafD, dp_leaf (r := (.name, y)) ⟨qt, rfl, eqt⟩, dp_leaves (.inl (.inl (Sqt _ _ eLa))) (Paired.mapP lva fun _ _ h => h.keep (TupS.of Sqt)), leaf_shaped (List.mem_of_getElem? hy), sh1, _, rfl, ?_⟩
      rw [leaf_any]
      by_cases hm : (Kd.name, y) ∈ ls
      · rw [decide_eq_true hm]
        refine iteT ?_
        refine ⟨sizeLine_ge (by show 5 ≤ 10000; decide), fun qo hqo => ?_⟩
        have Sqo : Same Hqt _ := same_new (o := .lst [.str (tx [80]), .str (tx [80, 46, 49]), .str (tx [81, 46, 50, 46, 51]), .str (tx [63, 46, 49]), .str (tx [90, 46, 49, 48])]) hqo
        have eqo : (upd Hqt qo (.lst [.str (tx [80]), .str (tx [80, 46, 49]), .str (tx [81, 46, 50, 46, 51]), .str (tx [63, 46, 49]), .str (tx [90, 46, 49, 48])])) qo = some (.lst [.str (tx [80]), .str (tx [80, 46, 49]), .str (tx [81, 46, 50, 46, 51]), .str (tx [63, 46, 49]), .str (tx [90, 46, 49, 48])]) := upd_same
        generalize upd Hqt qo (.lst [.str (tx [80]), .str (tx [80, 46, 49]), .str (tx [81, 46, 50, 46, 51]), .str (tx [63, 46, 49]), .str (tx [90, 46, 49, 48])]) = Hqo at Sqo eqo ⊢
        have no : qo ≠ p := Ne.symm ((Pa.same Sqt).ne hqo)
        refine ⟨_, rfl, p, 5, _, rfl, (Pa.same Sqt).same Sqo, by omega, by decide, by decide, fun r Hb r0 r5 Pb bb => ?_⟩
        obtain ⟨k, hx, mk⟩ : ∃ x, atI [V.str (tx [80]), V.str (tx [80, 46, 49]), V.str (tx [81, 46, 50, 46, 51]), V.str (tx [63, 46, 49]), V.str (tx [90, 46, 49, 48])] r = some (.str (tx x)) ∧ x ∈ U.owns5 := by
          obtain rfl | rfl | rfl | rfl | rfl : r = 0 ∨ r = 1 ∨ r = 2 ∨ r = 3 ∨ r = 4 := by omega
          · exact ⟨_, rfl, by simp [U.owns5]⟩
          · exact ⟨_, rfl, by simp [U.owns5]⟩
          · exact ⟨_, rfl, by simp [U.owns5]⟩
          · exact ⟨_, rfl, by simp [U.owns5]⟩
          · exact ⟨_, rfl, by simp [U.owns5]⟩
        have eNb := bb _ _ (Sqo _ _ (Sqt _ _ eNa)) nN
        obtain ⟨nk, ok'⟩ := names_step hy ok hm mk
        have el : (namesK e).length ≤ 4 := by
          have h1 := ok.len
          have h2 : (U.leafN.take i).length ≤ 4 := by rw [List.length_take]; omega
          unfold namesK
          rw [List.length_map]
          omega
        refine ⟨qo, _, r, _, rfl, rfl, .inl (.inl (bb _ _ eqo no)), hx, _, rfl, _, rfl, qN, _, rfl, DPut.k (k := .inr (tx y)) eNb (sizeLine_ge (by omega)), ?_⟩
        rw [names_put nk]
        refine ⟨_, e ++ [(y, k)], rfl, ok', upd_same, (purse_upd Pb nN).mono (by omega), fun a o x n1 n2 => ?_⟩
        rw [upd_ne n2]
        exact bb _ _ (Sqo _ _ (Sqt _ _ (ka _ _ x n1 n2))) n1
      · rw [decide_eq_false hm]
        exact iteF ⟨_, e, rfl, names_skip hy ok hm, Sqt _ _ eNa, (Pa.same Sqt).mono (by omega), fun a o x n1 n2 => Sqt _ _ (ka _ _ x n1 n2)⟩
    rintro σ H5 ⟨d4, e, rfl, ok, eN5, P5, k5⟩
    have ok : U.NamesOk ls U.leafN e := ok
    have P5 : Purse2 H5 p (c + 32) := P5.mono (show c + 28 + ((4 : Nat) : Int) ≤ c + 32 by omega)
    have eL5 := k5 _ _ eL4 nL nLN
    have lv5 : Paired (LfV H5) vs ls := Paired.mapP lv4 fun _ _ ⟨a, h1, h2⟩ => ⟨a, h1, k5 _ _ h2 (fun z => by
      obtain ⟨_, _, g, _⟩ := P4
      rw [z, g] at h2
      cases h2) (fun z => by rw [z, eN4] at h2; cases h2)⟩
    have bB : But p H3 H5 := fun a o x n => k5 _ _ (SqM _ _ (SN _ _ x)) n (ne_of_none x hqN)
    have tB : TupS H3 H5 := P3.tupS bB
    have ht5 := ht.keep tB
    have bA5 : But p H H5 := But.trans bA bB
    clear k5 lv4 lv3 eL4 eN4 eqM SqM SN eN nMN nM eL3 P4 bA bB tB ht P3
    generalize hBB : ls.flatMap (U.askL e) = B
    refine ⟨_, rfl, qL, rfl, ⟨_, .inl (.inl eL5)⟩, fun qB hqB => lc_it (walk_list (xs := vs)) (fun j H' => Same H5 H' ∧ H' qB = some (.lst (strsV ((ls.take j).flatMap (U.askL e))))) ⟨same_new hqB, upd_same⟩ (fun j H' _ h => .inl (.inl (h.1 _ _ eL5))) ?_ ?_⟩
    · rintro j v Ha Hb hj ⟨s1, e1⟩ ⟨rfl, hv⟩
      obtain ⟨⟨kd, l⟩, hr1, q0, rfl, hq0⟩ := Paired.at2 lv5 hv
      have hq := s1 _ _ hq0
      have lk : LeafOk (kd, l) := lo _ (List.mem_of_getElem? hr1)
      have tk : ls.take (j + 1) = ls.take j ++ [(kd, l)] := by rw [List.take_succ, hr1]; rfl
      have la : (strsV ((ls.take j).flatMap (U.askL e))).length < sizeLine := by
        have h1 := U.asks_len (e := e) (ls.take j)
        have h2 : (ls.take j).length ≤ 9 := by rw [List.length_take]; omega
        rw [strsV, List.length_map]
        exact Nat.lt_of_lt_of_le (show _ < 10 by omega) (sizeLine_ge (by decide))
      have step : ∀ k : U.Nm, U.askL e (kd, l) = [k] → Same H5 (upd Hb qB (.lst (strsV ((ls.take j).flatMap (U.askL e)) ++ [.str (tx k)]))) ∧ (upd Hb qB (.lst (strsV ((ls.take j).flatMap (U.askL e)) ++ [.str (tx k)]))) qB = some (.lst (strsV ((ls.take (j + 1)).flatMap (U.askL e)))) := fun k hk => by
        refine ⟨upd_new hqB s1, ?_⟩
        rw [upd_same, tk, List.flatMap_append]
        simp [strsV, hk]
      refine ⟨rfl, _, rfl, q0, _, 0, _, rfl, rfl, .inl (.inl hq), at0 _ _, rfl, _, rfl, ?_⟩
      have at1 : atI [V.str (tx kd.cs), leafX (kd, l)] 1 = some (leafX (kd, l)) := rfl
      cases kd with
      | num =>
        rw [decide_eq_true rfl]
        refine iteF ⟨s1, ?_⟩
        rw [tk, List.flatMap_append]
        simpa [U.askL] using e1
      | name =>
        rw [show decide (V.str (tx Kd.name.cs) = V.str (tx Kd.num.cs)) = false by decide +kernel]
        obtain ⟨k, g1, mk⟩ := ok.has (List.mem_of_getElem? hr1) lk
        obtain ⟨v, g2, rfl⟩ : ∃ v, valV (namesK e) (.inr (tx l)) = some v ∧ v = .str (tx k) := by
          rcases (namesK_pair e).get l with ⟨g, _⟩ | ⟨k', u, g2, g3, g4⟩
          · rw [g] at g1
            cases g1
          · rw [g1] at g2
            cases g2
            exact ⟨u, g3, g4⟩
        refine iteT ⟨_, rfl, q0, _, 0, _, rfl, rfl, .inl (.inl hq), at0 _ _, rfl, _, rfl, ?_⟩
        rw [decide_eq_true rfl]
        refine iteT ⟨_, rfl, _, rfl, q0, _, 1, _, rfl, rfl, .inl (.inl hq), at1, qN, _, rfl, by rw [← g2]; exact DGet.k (k := .inr (tx l)) (s1 _ _ eN5), ?_⟩
        exact ⟨_, e1, la, step k (by simp [U.askL, g1])⟩
      | part =>
        rw [show decide (V.str (tx Kd.part.cs) = V.str (tx Kd.num.cs)) = false by decide +kernel]
        refine iteT ⟨_, rfl, q0, _, 0, _, rfl, rfl, .inl (.inl hq), at0 _ _, rfl, _, rfl, ?_⟩
        rw [show decide (V.str (tx Kd.part.cs) = V.str (tx Kd.name.cs)) = false by decide +kernel]
        refine iteF ⟨_, rfl, q0, _, 1, _, rfl, rfl, .inl (.inl hq), at1, ?_⟩
        exact ⟨_, e1, la, step l (by simp [U.askL, ok.part lk])⟩
    rintro H6 ⟨s6, e6⟩
    rw [List.take_of_length_le (by rw [lv5.length]; exact Nat.le_refl _), hBB] at e6
    have BL : B.length ≤ 9 := by
      have := U.asks_len (e := e) ls
      rw [hBB] at this
      omega
    have Bok : ∀ k ∈ B, (∀ c ∈ k, c < 128) ∧ k.length ≤ 10 := by
      have := U.asks_asc ok lo
      rw [hBB] at this
      exact this
    have eN6 := s6 _ _ eN5
    have eL6 := s6 _ _ eL5
    have lv6 := Paired.mapP lv5 fun _ _ h => h.keep (TupS.of s6)
    have ht6 := ht5.keep (TupS.of s6)
    have P6 := P5.same s6
    have bA6 : But p H H6 := But.trans bA5 (But.of_same s6)
    clear s6 eN5 eL5 lv5 ht5 P5 bA5
    refine fun qW hqW => ?_
    have SW : Same H6 _ := same_new (o := .dK []) hqW
    have eW : (upd H6 qW (.dK [])) qW = some (.dK []) := upd_same
    have nW' : qW ≠ p := Ne.symm (P6.ne hqW)
    have nBW : qB ≠ qW := ne_of_none e6 hqW
    have nB : qB ≠ p := fun z => by
      obtain ⟨_, _, g, _⟩ := P6
      rw [z, g] at e6
      have := congrArg (fun o => match o with | some (HO.lst l) => l | _ => []) e6
      cases B with
      | nil => cases this
      | cons x B => cases this
    generalize upd H6 qW (.dK []) = H7 at SW eW ⊢
    refine ⟨_, rfl, qB, rfl, ⟨_, .inl (.inl (SW _ _ e6))⟩, for_list (xs := strsV B) (fun i σ H' => ∃ (d7 : Option V) (kvs : List (Key × V)) (rows : List (U.Nm × Int)), σ = [some (.ref p), some (.ref qL), some tv, some (.ref qN), d4, some (.ref qB), some (.ref qW), d7, none, none, none, none, none, none, none, none, none, none] ∧ H' qW = some (.dK kvs) ∧ PairK IntV kvs rows ∧ rows.length ≤ i ∧ (∀ k ∈ B.take i, ∃ m, getR rows k = some m) ∧ (∀ r ∈ rows, -30 ≤ r.2 ∧ r.2 < 70) ∧ Purse2 H' p (c + 32 + i) ∧ ∀ a o, H7 a = some o → a ≠ p → a ≠ qW → H' a = some o) ?_ (fun i σ H' _ h => ?_) ?_ ?_⟩
    · exact ⟨none, [], [], rfl, eW, .nil, Nat.le_refl _, fun k h => (by rw [List.take_zero] at h; cases h), fun r h => (by cases h), (P6.same SW).mono (by omega), fun a o x _ _ => x⟩
    · obtain ⟨_, _, _, _, _, _, _, _, _, _, k⟩ := h
      exact .inl (.inl (k _ _ (SW _ _ e6) nB nBW))
    · rintro i x σ Ha hi ⟨d7, kvs, rows, rfl, eWa, pk, rl, has, vls, Pa, ka⟩
      unfold strsV at hi
      rw [List.getElem?_map] at hi
      obtain ⟨y, hy, rfl⟩ := Option.map_eq_some_iff.mp hi
      have hi9 : i < 9 := Nat.lt_of_lt_of_le (List.getElem?_eq_some_iff.mp hy).1 BL
      refine ⟨_, rfl, p, 100, _, rfl, Pa, by omega, by decide, by decide, fun r Hb r0 r1 Pb bb => ?_⟩
      have eWb := bb _ _ eWa nW'
      have kl : kvs.length ≤ 9 := by rw [pk.length]; omega
      refine ⟨_, _, rfl, rfl, _, rfl, _, rfl, qW, _, rfl, DPut.k (k := .inr (tx y)) eWb (Nat.lt_of_le_of_lt kl (sizeLine_ge (by decide))), ?_⟩
      refine ⟨_, _, putR rows y (r - 30), rfl, upd_same, pk.put (R := IntV) (v := .int (r - 30)) rfl, Nat.le_trans put_len (by omega), fun k hk => ?_, fun r' hr' => ?_, (purse_upd Pb nW').mono (by omega), fun a o x n1 n2 => ?_⟩
      · by_cases z : k = y
        · subst z
          exact ⟨_, getR_eq _⟩
        · rw [getR_ne z]
          refine has k ?_
          rw [List.take_succ, hy] at hk
          rcases List.mem_append.mp hk with h | h
          · exact h
          · exact absurd (List.mem_singleton.mp h) z
      · rcases put_val hr' with h | h
        · rw [h]
          omega
        · exact vls r' h
      · rw [upd_ne n2]
        exact bb _ _ (ka _ _ x n1 n2) n1
    rintro σ H8 ⟨d7, kvs, rows, rfl, eW8, pk, rl, has, vls, P8, k8⟩
    have sBl : (strsV B).length = B.length := by rw [strsV, List.length_map]
    rw [sBl, List.take_of_length_le (Nat.le_refl _)] at has
    have b8 : But p H6 H8 := fun a o x n => k8 _ _ (SW _ _ x) n (ne_of_none x hqW)
    have P8 : Purse2 H8 p (c + 41) := P8.mono (by omega)
    have e8 := b8 _ _ e6 nB
    have eN8 := b8 _ _ eN6 nN
    have eL8 := b8 _ _ eL6 nL
    have ht8 := ht6.keep (P6.tupS b8)
    have lv8 := Paired.mapP lv6 fun _ _ h => h.keep (P6.tupS b8)
    have bA8 : But p H H8 := But.trans bA6 b8
    have Wk : ∀ k ∈ B, valV kvs (.inr (tx k)) = some (.int (worth rows k)) := fun k hk => by
      obtain ⟨m, hm⟩ := has k hk
      rcases pk.get k with ⟨g, _⟩ | ⟨m', u, g1, g2, g3⟩
      · rw [g] at hm
        cases hm
      · rw [g2, show u = .int m' from g3]
        unfold worth
        rw [g1]
        rfl
    have Wb := worth_le vls
    clear k8 lv6 ht6 eL6 eN6 e6 SW eW bA6 P6 b8 has vls rl pk
    refine ⟨_, rfl, qB, _, rfl, .inl (.inl (.inl e8)), _, rfl, _, rfl, qB, _, rfl, .inl (.inl (.inl e8)), _, _, rfl, rfl, p, _, _, rfl, P8, by omega, by omega, by omega, fun r9 H9 r90 r9m P9 b9 => ?_⟩
    have e9 := b9 _ _ e8 nB
    refine ⟨_, rfl, qB, _, rfl, .inl (.inl (.inl e9)), _, _, rfl, rfl, ?_⟩
    rw [sBl] at r9m ⊢
    refine ⟨sizeLine_ge (by show 3 ≤ 10000; decide), fun qm hqm => ?_⟩
    have Sqm : Same H9 _ := same_new (o := .lst [.int (B.length : Int), .int r9, .int ((B.length : Int) + 2)]) hqm
    have eqm : (upd H9 qm (.lst [.int (B.length : Int), .int r9, .int ((B.length : Int) + 2)])) qm = some (.lst [.int (B.length : Int), .int r9, .int ((B.length : Int) + 2)]) := upd_same
    generalize upd H9 qm (.lst [.int (B.length : Int), .int r9, .int ((B.length : Int) + 2)]) = Hqm at Sqm eqm ⊢
    have nm : qm ≠ p := Ne.symm (P9.ne hqm)
    refine ⟨_, rfl, p, 3, _, rfl, P9.same Sqm, by omega, by decide, by decide, fun r10 H10 r100 r103 P10 b10 => ?_⟩
    obtain ⟨m, hmx, hm⟩ : ∃ m : Nat, atI [V.int (B.length : Int), V.int r9, V.int ((B.length : Int) + 2)] r10 = some (.int (m : Int)) ∧ m ≤ B.length + 2 := by
      obtain rfl | rfl | rfl : r10 = 0 ∨ r10 = 1 ∨ r10 = 2 := by omega
      · exact ⟨B.length, rfl, by omega⟩
      · obtain ⟨m, rfl⟩ := Int.eq_ofNat_of_zero_le r90
        exact ⟨m, rfl, by omega⟩
      · exact ⟨B.length + 2, rfl, by omega⟩
    have e10 := b10 _ _ eqm nm
    refine ⟨qm, _, r10, _, rfl, rfl, .inl (.inl e10), hmx, ?_⟩
    have bb : But p H8 H10 := But.trans b9 (But.trans (But.of_same Sqm) b10)
    have eB10 := bb _ _ e8 nB
    have eW10 := bb _ _ eW8 nW'
    have eN10 := bb _ _ eN8 nN
    have eL10 := bb _ _ eL8 nL
    have ht10 := ht8.keep (P8.tupS bb)
    have lv10 := Paired.mapP lv8 fun _ _ h => h.keep (P8.tupS bb)
    have bA10 : But p H H10 := But.trans bA8 bb
    have P10 : Purse2 H10 p (c + 43) := P10.mono (by omega)
    clear lv8 ht8 eL8 eN8 e8 eW8 bA8 P8 bb e9 e10 b9 b10 P9 Sqm eqm
    refine ⟨_, rfl, qB, rfl, ⟨_, .inl (.inl eB10)⟩, fun qG hqG => lc_do (walk_list (xs := strsV B)) (fun j H' => Same H10 H' ∧ ∃ qs : List Addr, H' qG = some (.lst (qs.map V.ref)) ∧ Paired (fun q k => H' q = some (.tup [.str (tx numberW), .int (worth rows k)])) qs (B.take j)) (fun _ => rfl) ⟨same_new hqG, [], upd_same, .nil⟩ (fun j H' _ h => .inl (.inl (h.1 _ _ eB10))) ?_ ?_⟩
    · rintro j x Ha Hb hj ⟨s1, qs, e1, pq⟩ ⟨rfl, hv⟩
      unfold strsV at hv
      rw [List.getElem?_map] at hv
      obtain ⟨y, hy, rfl⟩ := Option.map_eq_some_iff.mp hv
      have yB : y ∈ B := List.mem_of_getElem? hy
      have jB : j < B.length := (List.getElem?_eq_some_iff.mp hy).1
      refine ⟨_, rfl, _, rfl, qW, .int (worth rows y), rfl, by rw [← Wk y yB]; exact DGet.k (k := .inr (tx y)) (s1 _ _ eW10), ?_⟩
      refine ⟨sizeLine_ge (by show 2 ≤ 10000; decide), fun qt hqt => ?_⟩
      have Sqt : Same Hb _ := same_new (o := .tup [.str (tx (Kd.cs .num)), .int (worth rows y)]) hqt
      have eqt : (upd Hb qt (.tup [.str (tx (Kd.cs .num)), .int (worth rows y)])) qt = some (.tup [.str (tx (Kd.cs .num)), .int (worth rows y)]) := upd_same
      generalize upd Hb qt (.tup [.str (tx (Kd.cs .num)), .int (worth rows y)]) = Hqt at Sqt eqt ⊢
      have eG := Sqt _ _ e1
      have ql : qs.length = j := by
        rw [pq.length, List.length_take]
        omega
      refine ⟨_, eG, by rw [List.length_map, ql]; exact Nat.lt_of_lt_of_le (show _ < 10 by omega) (sizeLine_ge (by decide)), upd_new hqG (s1.trans Sqt), qs ++ [qt], ?_, ?_⟩
      · rw [upd_same, List.map_append]
        rfl
      · have kk : TupS Hqt (upd Hqt qG (.lst (qs.map V.ref ++ [.ref qt]))) := tups_lst eG
        rw [take_next hy]
        exact Paired.app (Paired.mapP pq fun _ _ h => kk _ _ (Sqt _ _ h)) (.cons (kk _ _ eqt) .nil)
    rintro H11 ⟨s11, qs, eG, pq⟩
    rw [sBl, List.take_of_length_le (Nat.le_refl _)] at pq
    have qsl : qs.length = B.length := pq.length
    refine ⟨sizeLine_ge (by show 3 ≤ 10000; decide), fun qf hqf => ?_⟩
    have Sqf : Same H11 _ := same_new (o := .tup [.str (tx faultW), .str (tx pairW), .str (tx [80])]) hqf
    have eqf : (upd H11 qf (.tup [.str (tx faultW), .str (tx pairW), .str (tx [80])])) qf = some (.tup [.str (tx faultW), .str (tx pairW), .str (tx [80])]) := upd_same
    generalize upd H11 qf (.tup [.str (tx faultW), .str (tx pairW), .str (tx [80])]) = Hqf at Sqf eqf ⊢
    refine ⟨sizeLine_ge (by show 2 ≤ 10000; decide), fun qo hqo => ?_⟩
    have Sqo : Same Hqf _ := same_new (o := .tup [.str (tx (Kd.cs .num)), .int 1]) hqo
    have eqo : (upd Hqf qo (.tup [.str (tx (Kd.cs .num)), .int 1])) qo = some (.tup [.str (tx (Kd.cs .num)), .int 1]) := upd_same
    generalize upd Hqf qo (.tup [.str (tx (Kd.cs .num)), .int 1]) = Hqo at Sqo eqo ⊢
    refine ⟨sizeLine_ge (by show 2 ≤ 10000; decide), fun ql hql => ?_⟩
    have Sql : Same Hqo _ := same_new (o := .lst [.ref qf, .ref qo]) hql
    have eql : (upd Hqo ql (.lst [.ref qf, .ref qo])) ql = some (.lst [.ref qf, .ref qo]) := upd_same
    generalize upd Hqo ql (.lst [.ref qf, .ref qo]) = Hql at Sql eql ⊢
    have eGl := Sql _ _ (Sqo _ _ (Sqf _ _ eG))
    refine ⟨qG, ql, _, _, rfl, rfl, eGl, eql, sizeLine_ge (by rw [List.length_map]; show qs.length + 2 ≤ 10000; omega), fun qc hqc => ?_⟩
    have Sc : Same Hql _ := same_new (o := .lst (qs.map V.ref ++ [.ref qf, .ref qo])) hqc
    have ec : (upd Hql qc (.lst (qs.map V.ref ++ [.ref qf, .ref qo]))) qc = some (.lst (qs.map V.ref ++ [.ref qf, .ref qo])) := upd_same
    generalize upd Hql qc (.lst (qs.map V.ref ++ [.ref qf, .ref qo])) = H12 at Sc ec ⊢
    have S1112 : Same H11 H12 := ((Sqf.trans Sqo).trans Sql).trans Sc
    have S1012 : Same H10 H12 := s11.trans S1112
    have gotP : Paired (fun v g => HdV H12 g v) (qs.map V.ref ++ [.ref qf, .ref qo]) ((B.map fun k => U.Hd.num (worth rows k)) ++ [.fault pairW [80], .num 1]) := by
      refine Paired.app ?_ (.cons ⟨qf, rfl, Sc _ _ (Sql _ _ (Sqo _ _ eqf))⟩ (.cons ⟨qo, rfl, Sc _ _ (Sql _ _ eqo), by decide⟩ .nil))
      have : ∀ {qs : List Addr} {B : List U.Nm}, Paired (fun q k => H11 q = some (.tup [.str (tx numberW), .int (worth rows k)])) qs B → Paired (fun v g => HdV H12 g v) (qs.map V.ref) (B.map fun k => U.Hd.num (worth rows k)) := fun h => by
        induction h with
        | nil => exact .nil
        | cons h _ ih => exact .cons ⟨_, rfl, S1112 _ _ h, Nat.le_trans (Wb _) (show 100 ≤ 2 ^ 60 by decide)⟩ ih
      exact this pq
    have eB12 := S1012 _ _ eB10
    have eW12 := S1012 _ _ eW10
    have eN12 := S1012 _ _ eN10
    have eL12 := S1012 _ _ eL10
    have ht12 := ht10.keep (TupS.of S1012)
    have lv12 := Paired.mapP lv10 fun _ _ h => h.keep (TupS.of S1012)
    have P12 := P10.same S1012
    have bA12 : But p H H12 := But.trans bA10 (But.of_same S1012)
    have gl : (qs.map V.ref ++ [.ref qf, .ref qo] : List V).length = B.length + 2 := by rw [List.length_append, List.length_map, qsl]; rfl
    have gotV := gots_of gotP
    have gok : ∀ g ∈ (B.map fun k => U.Hd.num (worth rows k)) ++ [U.Hd.fault pairW [80], .num 1], HdOk g := fun g hg => by
      rcases List.mem_append.mp hg with h | h
      · obtain ⟨k, _, rfl⟩ := List.mem_map.mp h
        exact trivial
      · simp only [List.mem_cons, List.not_mem_nil, or_false] at h
        rcases h with rfl | rfl
        · exact trivial
        · exact trivial
    clear gotP Sc Sql Sqo Sqf eGl eqf eqo eql pq s11 eG S1112 S1012 eB10 eW10 eN10 eL10 ht10 lv10 P10 bA10
    generalize (qs.map V.ref ++ [.ref qf, .ref qo] : List V) = gvs at ec gl gotV
    -- the walk
    have dl := U.depth_leaves st
    have sl := U.size_leaves st
    have lo' : ∀ r ∈ U.leavesT t, U.LeafOk r := by rw [lt]; exact lo
    have pl := U.pr_leaves st lo'
    have ol := U.ok_leaves st lo'
    have nl := U.names_leaves st
    have lts : (U.leavesT t).length = ls.length := by rw [lt]
    have fitW : Fit t (U.leafN.map tx) := ⟨sizeLine_ge (by omega), ol, by omega, by omega, by decide, U.names_mono (fun l h => List.mem_map.mpr ⟨l, lo' _ h, rfl⟩) nl⟩
    have sct : ScT t (putAll [] e) := fun l hl => by
      have h := U.Tm.Free.in_names hl nl
      obtain ⟨k, g, _⟩ := ok.has (by rw [← lt]; exact h) (lo' _ h)
      exact ⟨k, by rw [U.getR_put ok.nodup]; exact g⟩
    have el4 : e.length ≤ 4 := ok.len
    have asks : U.asksT (putAll [] e) t = B := by
      unfold U.asksT
      rw [lt, ← hBB]
      refine congrArg (fun g => ls.flatMap g) (funext fun r => ?_)
      obtain ⟨k, l⟩ := r
      cases k <;> simp only [U.askL, U.getR_put ok.nodup]
    obtain ⟨Y, tale, Ym, Yc⟩ : ∃ Y : U.Tale, U.taleM U.frs [82] 1000000000000000 100 (begin_ t (putAll [] e)) (((B.map fun k => U.Hd.num (worth rows k)) ++ [U.Hd.fault pairW [80], .num 1]).take m) [] = some Y ∧ Y.made = [] ∧
        ((B.length ≤ m ∧ Y.needs = B ∧ Y.steps = (U.preT t).length ∧ Y.end_ = some (.num (U.sumT (putAll [] e) (worth rows) t))) ∨ (m < B.length ∧ ∃ pl, (U.placesT 0 (U.preT t))[m]? = some pl ∧ Y.needs = B.take (m + 1) ∧ Y.steps = pl + 1 ∧ Y.end_ = none)) := by
      unfold begin_
      rcases Nat.lt_or_ge m B.length with h | h
      · obtain ⟨pl, h1, h2⟩ := U.tale_less (fr := U.frs) (kn := [82]) (lim := 1000000000000000) (e := putAll [] e) Wb st lo' (by omega) (by decide) (i := m) (by rw [asks]; exact h)
        rw [asks] at h2
        rw [List.take_append_of_le_length (by rw [List.length_map]; omega), ← List.map_take]
        exact ⟨_, h2, rfl, .inr ⟨h, pl, h1, rfl, rfl, rfl⟩⟩
      · have h2 := U.tale_all (fr := U.frs) (kn := [82]) (lim := 1000000000000000) (e := putAll [] e) Wb st lo' (by omega) (by decide) (([U.Hd.fault pairW [80], .num 1]).take (m - B.length))
        rw [asks] at h2
        rw [List.take_append, List.take_of_length_le (by rw [List.length_map]; exact h), List.length_map]
        exact ⟨_, h2, rfl, .inl ⟨h, rfl, rfl, rfl⟩⟩
    refine ⟨_, rfl, t, tv, rfl, ht12, by omega, by omega, fun I1 SI1 x dx hx hdx nex => ?_⟩
    have SI2 : Same I1 (upd (upd I1 dx (.own x)) x (.ins CT dx [])) := (same_new hdx).trans (same_new (by rw [upd_ne (Ne.symm nex)]; exact hx))
    have ei2 : (upd (upd I1 dx (.own x)) x (.ins CT dx [])) x = some (.ins CT dx []) := upd_same
    generalize upd (upd I1 dx (.own x)) x (.ins CT dx []) = I2 at SI2 ei2 ⊢
    refine ⟨t, _, x, dx, rfl, fitW, ei2, fun I3 bI3 tg => ⟨rfl, ?_⟩⟩
    have S123 : Same H12 I3 := SI1.trans fun a o e => bI3 _ _ (SI2 _ _ e) (ne_of_none e hx)
    have tm := tg.at_
    refine ⟨_, rfl, .inr (.inr (.inl ⟨rfl, .inl ⟨_, S123 _ _ eN12⟩⟩)), qN, _, rfl, rfl, S123 _ _ eN12, fun qi hqi => ?_⟩
    have Si : Same I3 _ := same_new (o := DX.itemsO qi qN) hqi
    have ei : (upd I3 qi (DX.itemsO qi qN)) qi = some (DX.itemsO qi qN) := upd_same
    generalize upd I3 qi (DX.itemsO qi qN) = I4 at Si ei ⊢
    refine ⟨qi, qN, e.map pairS, rfl, ei, by rw [← names_ent]; exact Si _ _ (S123 _ _ eN12), names_sorted ok, fun I5 qs5 ps s5 hn5 e5 pp5 => ?_⟩
    refine ⟨_, _, rfl, .inl (.inl e5), .inr fun rr oo hrr po => ?_⟩
    have Sr : Same I5 _ := same_new (o := .frz oo (.tup (ps.map V.ref))) hrr
    have er : (upd I5 rr (.frz oo (.tup (ps.map V.ref)))) rr = some (.frz oo (.tup (ps.map V.ref))) := upd_same
    generalize upd I5 rr (.frz oo (.tup (ps.map V.ref))) = I6 at Sr er ⊢
    have S36 : Same I3 I6 := (Si.trans s5).trans Sr
    have S126 : Same H12 I6 := S123.trans S36
    refine ⟨_, rfl, _, rfl, (m : Int), rfl, qc, gvs, rfl, .inl (.inl (S126 _ _ ec)), fun qg hqg => ?_⟩
    rw [cut_to (by omega)]
    have Sg : Same I6 _ := same_new (o := .lst (gvs.take m)) hqg
    have eg : (upd I6 qg (.lst (gvs.take m))) qg = some (.lst (gvs.take m)) := upd_same
    generalize upd I6 qg (.lst (gvs.take m)) = I7 at Sg eg ⊢
    have S127 : Same H12 I7 := S126.trans Sg
    refine ⟨t, [82], x, rr, qg, oo, ps, e, gvs.take m, _, 100, Y, rfl, tm.same (S36.trans Sg), ⟨_, fitW⟩, by decide, Sg _ _ er, po, Paired.mapP (paired_unmap pp5) fun _ _ h => Sg _ _ (Sr _ _ h), by omega, sct, eg, gots_take (gotV.keep (TupS.of S127)) m, fun g hg => gok g (List.mem_of_mem_take hg), ?_, by decide, tale, fun I8 pw kc0 sv => ?_⟩
    · rw [List.length_take, List.length_append, List.length_map]
      show min m (B.length + 2) ≤ 1000
      omega
    have kc : KeepC C I7 I8 := kc0
    have cg : KeepC C H12 I8 := (KeepC.of S127).trans kc
    have ht13 := ht12.keep cg.tup
    refine ⟨_, rfl, t, tv, rfl, ht13, st, by omega, by have := U.pre_leaves st; omega, fun I9 qT xs s9 e9 p9 => ?_⟩
    have cg9 : KeepC C H12 I9 := cg.trans (KeepC.of s9)
    have sv9 := sv.keep s9
    have eB13 := cg9 _ _ eB12 (by intro _ _ z; cases z)
    have eW13 := cg9 _ _ eW12 (by intro _ _ z; cases z)
    have eL13 := cg9 _ _ eL12 (by intro _ _ z; cases z)
    have lv13 := Paired.mapP lv12 fun _ _ h => h.keep cg9.tup
    have P13 := P12.keepC cg9
    obtain ⟨dxw, k1, k2, ev, ams, hw', hk1, hk2, pms, hev⟩ := sv9.ok
    have xl := p9.length
    have pre17 := U.pre_leaves st
    clear sv9 sv cg kc0 kc eg Sg er Sr ei Si e5 s5 pp5 S36 S126 S127 tm tg S123 bI3 SI2 ei2 tale gotV gok gl ec SI1
    have eT9 : SqL K I9 qT xs := .inl (.inl e9)
    have shd : ∀ {needs : List U.Nm} {steps : Nat} {h : Option U.Hd}, (∀ k ∈ needs, ∀ c ∈ k, c < 128) → (h = none ∨ ∃ n, h = some (.num n)) → SeqAt.shaped (dQ needs steps [] h) = true := tale_shaped
    have fin : ∀ (H' : Hp), Same I9 H' → Q (.bl true) H' := fun H' s' => by
      refine q H' (fun a o e1 n nt => ?_) ?_
      · exact s' _ _ (cg9 _ _ (bA12 _ _ e1 n) nt)
      · exact (P13.same s').mono (by omega)
    have nB13 := nB
    obtain ⟨yn, ys, ym, ye⟩ := Y
    simp only at Ym Yc hw' hk1 pms hev
    subst ym
    have left : ∀ {H' : Hp} {a : Addr}, Same I9 H' → H' a = some (.tup [.ref k1, .int ys, .ref k2, ev]) → Dp K H' (.ref a) (dQ yn ys [] ye) := fun {H' a} s' e1 =>
      .tup (.inl (.inl e1)) (.cons (dp_strs (s' _ _ hk1)) (.cons (.int _) (.cons (dp_made (l := []) (s' _ _ hk2) (Paired.mapP pms fun _ _ h => h.keep (TupS.of s'))) (.cons (dp_ohd (hev.keep (TupS.of s'))) .nil))))
    refine ⟨_, rfl, _, rfl, qB, _, rfl, .inl (.inl (.inl eB13)), _, _, rfl, rfl, _, rfl, ite2 (fun h => ?_) (fun h => ?_)⟩
    · have h := of_decide_eq_true h
      rw [sBl] at h
      rcases Yc with ⟨_, y1, y2, y3⟩ | ⟨h', _⟩
      · have y1 := y1.symm
        subst y1 y2 y3
        refine ⟨_, rfl, qL, rfl, ⟨_, .inl (.inl eL13)⟩, fun qs1 hqs1 => lc_it (walk_list (xs := vs)) (fun j H' => Same I9 H' ∧ H' qs1 = some (.lst ((((ls.take j).filter fun r => r.1 == .num).map fun r => U.numVal r.2).map V.int))) ⟨same_new hqs1, upd_same⟩ (fun j H' _ h => .inl (.inl (h.1 _ _ eL13))) ?_ ?_⟩
        · rintro j v Ha Hb hj ⟨s1, e1⟩ ⟨rfl, hv⟩
          obtain ⟨⟨kd, l⟩, hr1, q0, rfl, hq0⟩ := Paired.at2 lv13 hv
          have hq := s1 _ _ hq0
          have tk : ls.take (j + 1) = ls.take j ++ [(kd, l)] := by rw [List.take_succ, hr1]; rfl
          have jl : j < ls.length := (List.getElem?_eq_some_iff.mp hr1).1
          refine ⟨rfl, _, rfl, q0, _, 0, _, rfl, rfl, .inl (.inl hq), at0 _ _, rfl, _, rfl, ?_⟩
          have at1 : atI [V.str (tx kd.cs), leafX (kd, l)] 1 = some (leafX (kd, l)) := rfl
          cases kd with
          | num =>
            rw [decide_eq_true rfl]
            refine iteT ⟨_, rfl, q0, _, 1, _, rfl, rfl, .inl (.inl hq), at1, _, e1, ?_, upd_new hqs1 s1, ?_⟩
            · rw [List.length_map, List.length_map]
              have := List.length_filter_le (fun r : Kd × U.Nm => r.1 == .num) (ls.take j)
              rw [List.length_take] at this
              exact Nat.lt_of_lt_of_le (show _ < 10 by omega) (sizeLine_ge (by decide))
            · rw [upd_same, tk, List.filter_append]
              simp [leafX]
          | name =>
            rw [show decide (V.str (tx Kd.name.cs) = V.str (tx Kd.num.cs)) = false by decide +kernel]
            refine iteF ⟨s1, ?_⟩
            rw [e1, tk, List.filter_append]
            simp
          | part =>
            rw [show decide (V.str (tx Kd.part.cs) = V.str (tx Kd.num.cs)) = false by decide +kernel]
            refine iteF ⟨s1, ?_⟩
            rw [e1, tk, List.filter_append]
            simp
        rintro J1 ⟨s1, e1⟩
        rw [List.take_of_length_le (by rw [lv13.length]; exact Nat.le_refl _)] at e1
        refine ⟨qs1, _, rfl, .inl (.inl e1), ?_⟩
        have eB14 := s1 _ _ eB13
        have eW14 := s1 _ _ eW13
        refine ⟨_, rfl, qB, rfl, ⟨_, .inl (.inl eB14)⟩, fun qs2 hqs2 => lc_do (walk_list (xs := strsV B)) (fun j H' => Same J1 H' ∧ H' qs2 = some (.lst (((B.take j).map (worth rows)).map V.int))) (fun _ => rfl) ⟨same_new hqs2, upd_same⟩ (fun j H' _ h => .inl (.inl (h.1 _ _ eB14))) ?_ ?_⟩
        · rintro j x Ha Hb hj ⟨s2, e2⟩ ⟨rfl, hv⟩
          unfold strsV at hv
          rw [List.getElem?_map] at hv
          obtain ⟨y, hy, rfl⟩ := Option.map_eq_some_iff.mp hv
          have yB : y ∈ B := List.mem_of_getElem? hy
          have jB : j < B.length := (List.getElem?_eq_some_iff.mp hy).1
          refine ⟨_, rfl, _, rfl, qW, .int (worth rows y), rfl, by rw [← Wk y yB]; exact DGet.k (k := .inr (tx y)) (s2 _ _ eW14), _, e2, ?_, upd_new hqs2 s2, ?_⟩
          · rw [List.length_map, List.length_map, List.length_take]
            exact Nat.lt_of_lt_of_le (show _ < 10 by omega) (sizeLine_ge (by decide))
          · rw [upd_same, take_next hy, List.map_append, List.map_append]
            rfl
        rintro J2 ⟨s2, e2⟩
        rw [sBl, List.take_of_length_le (Nat.le_refl _)] at e2
        refine ⟨qs2, _, rfl, .inl (.inl e2), _, _, rfl, rfl, ?_⟩
        have due : (((ls.filter fun r => r.1 == .num).map fun r => U.numVal r.2).sum + (B.map (worth rows)).sum) = U.sumT (putAll [] e) (worth rows) t := by
          rw [U.sum_parts st, asks, lt]
        obtain ⟨D, hD⟩ : ∃ D, U.sumT (putAll [] e) (worth rows) t = D := ⟨_, rfl⟩
        rw [hD] at hev left due
        have s12 : Same I9 J2 := s1.trans s2
        have hw2 := s12 _ _ hw'
        refine ⟨_, rfl, pw, CS, dxw, _, _, rfl, hw2, SC.cl, SC.nneeds, seen_needs _ _ _ _, _, rfl, pw, CS, dxw, _, _, rfl, hw2, SC.cl, SC.nsteps, seen_steps _ _ _ _, _, rfl, pw, CS, dxw, _, _, rfl, hw2, SC.cl, SC.nmade, seen_made _ _ _ _, _, rfl, pw, CS, dxw, _, _, rfl, hw2, SC.cl, SC.nend, seen_end _ _ _ _, sizeLine_ge (by show 4 ≤ 10000; decide), fun q1 hq1 => ?_⟩
        have Sq1 : Same J2 _ := same_new (o := .tup [.ref k1, .int ((U.preT t).length : Nat), .ref k2, ev]) hq1
        have eq1 : (upd J2 q1 (.tup [.ref k1, .int ((U.preT t).length : Nat), .ref k2, ev])) q1 = some (.tup [.ref k1, .int ((U.preT t).length : Nat), .ref k2, ev]) := upd_same
        generalize upd J2 q1 (.tup [.ref k1, .int ((U.preT t).length : Nat), .ref k2, ev]) = Hq1 at Sq1 eq1 ⊢
        refine ⟨_, rfl, _, rfl, qT, _, rfl, .inl (.inl (.inl (Sq1 _ _ (s12 _ _ e9)))), sizeLine_ge (by show 0 ≤ 10000; decide), fun q2 hq2 => ?_⟩
        have Sq2 : Same Hq1 _ := same_new (o := .lst []) hq2
        have eq2 : (upd Hq1 q2 (.lst [])) q2 = some (.lst []) := upd_same
        generalize upd Hq1 q2 (.lst []) = Hq2 at Sq2 eq2 ⊢
        refine ⟨_, rfl, sizeLine_ge (by show 2 ≤ 10000; decide), fun q3 hq3 => ?_⟩
        have Sq3 : Same Hq2 _ := same_new (o := .tup [.str (tx (Kd.cs .num)), .int (((ls.filter fun r => r.1 == .num).map fun r => U.numVal r.2).sum + (B.map (worth rows)).sum)]) hq3
        have eq3 : (upd Hq2 q3 (.tup [.str (tx (Kd.cs .num)), .int (((ls.filter fun r => r.1 == .num).map fun r => U.numVal r.2).sum + (B.map (worth rows)).sum)])) q3 = some (.tup [.str (tx (Kd.cs .num)), .int (((ls.filter fun r => r.1 == .num).map fun r => U.numVal r.2).sum + (B.map (worth rows)).sum)]) := upd_same
        generalize upd Hq2 q3 (.tup [.str (tx (Kd.cs .num)), .int (((ls.filter fun r => r.1 == .num).map fun r => U.numVal r.2).sum + (B.map (worth rows)).sum)]) = Hq3 at Sq3 eq3 ⊢
        rw [due] at eq3
        refine ⟨sizeLine_ge (by show 4 ≤ 10000; decide), fun q4 hq4 => ?_⟩
        have Sq4 : Same Hq3 _ := same_new (o := .tup [.ref qB, .int (xs.length : Nat), .ref q2, .ref q3]) hq4
        have eq4 : (upd Hq3 q4 (.tup [.ref qB, .int (xs.length : Nat), .ref q2, .ref q3])) q4 = some (.tup [.ref qB, .int (xs.length : Nat), .ref q2, .ref q3]) := upd_same
        generalize upd Hq3 q4 (.tup [.ref qB, .int (xs.length : Nat), .ref q2, .ref q3]) = Hq4 at Sq4 eq4 ⊢
        have s94 : Same I9 Hq4 := (((s12.trans Sq1).trans Sq2).trans Sq3).trans Sq4
        have sh := shd (needs := B) (steps := (U.preT t).length) (h := some (.num D)) (fun k hk => (Bok k hk).1) (.inr ⟨_, rfl⟩)
        refine ⟨_, _, left s94 (((Sq2.trans Sq3).trans Sq4) _ _ eq1), .tup (.inl (.inl eq4)) (.cons (dp_strs (s94 _ _ eB13)) (.cons (by rw [xl]; exact .int _) (.cons (.lst (.inl (.inl ((Sq3.trans Sq4) _ _ eq2))) .nil) (.cons (.tup (.inl (.inl (Sq4 _ _ eq3))) (.cons (.str _) (.cons (.int _) .nil))) .nil)))), sh, sh, ?_⟩
        exact (congrArg (fun b => Q (.bl b) Hq4) (same_data sh)).mpr (fin _ s94)
      · omega
    · have h : ¬ ((B.length : Int) ≤ (m : Int)) := fun z => h (by rw [sBl]; exact decide_eq_true z)
      rcases Yc with ⟨h', _⟩ | ⟨hm', pl', hpl, y1, y2, y3⟩
      · omega
      · have y1 := y1.symm
        subst y1 y2 y3
        refine ⟨_, rfl, qT, _, rfl, .inl (.inl e9), fun qs1 hqs1 => lc_it (walk_enum (xs := xs)) (fun j H' => Same I9 H' ∧ H' qs1 = some (.lst ((U.placesT 0 ((U.preT t).take j)).map fun n => V.int (n : Nat)))) ⟨same_new hqs1, upd_same⟩ (fun j H' _ h => .inl (.inl (h.1 _ _ e9))) ?_ ?_⟩
        · rintro j v Ha Hb hj ⟨s1, e1⟩ ⟨tt, x', y', rfl, htt, rfl, hx, hy⟩
          obtain rfl : x' = .int (j : Int) := (Option.some.inj hx).symm
          have hy : xs[j]? = some y' := hy
          obtain ⟨t', ht', tv'⟩ := Paired.at2 p9 hy
          have jl : j < (U.preT t).length := (List.getElem?_eq_some_iff.mp ht').1
          obtain ⟨a, us, wc, rfl, ha, ina⟩ := pre_head tv' (U.pre_sum st t' (List.mem_of_getElem? ht'))
          have S2 : Same Ha (upd Ha tt (.tup [.int (j : Int), .ref a])) := same_new htt
          have tk : (U.preT t).take (j + 1) = (U.preT t).take j ++ [t'] := take_next ht'
          have tkl : ((U.preT t).take j).length = j := by rw [List.length_take]; omega
          refine ⟨tt, _, rfl, .inl (.inl upd_same), rfl, _, _, rfl, _, _, rfl, rfl, rfl, _, rfl, a, _, 0, _, rfl, rfl, .inl (.inl (S2 _ _ (s1 _ _ ha))), at0 _ _, ?_⟩
          generalize upd Ha tt (.tup [.int (j : Int), .ref a]) = Hc at S2 ⊢
          refine ⟨sizeLine_ge (by show 2 ≤ 10000; decide), fun qt hqt => ?_⟩
          have Sqt : Same Hc _ := same_new (o := .tup [.str (tx (Kd.cs .name)), .str (tx (Kd.cs .part))]) hqt
          have eqt : (upd Hc qt (.tup [.str (tx (Kd.cs .name)), .str (tx (Kd.cs .part))])) qt = some (.tup [.str (tx (Kd.cs .name)), .str (tx (Kd.cs .part))]) := upd_same
          generalize upd Hc qt (.tup [.str (tx (Kd.cs .name)), .str (tx (Kd.cs .part))]) = Hqt at Sqt eqt ⊢
          have s13 := s1.trans (S2.trans Sqt)
          have e3 := Sqt _ _ (S2 _ _ e1)
          refine ⟨qt, _, rfl, .inr (.inl (.inl eqt)), rfl, rfl, ?_⟩
          rw [if_neg (by decide), ina]
          refine ⟨_, rfl, ?_⟩
          have pp : U.placesT 0 ((U.preT t).take (j + 1)) = U.placesT 0 ((U.preT t).take j) ++ (if U.needT t' = true then [j] else []) := by
            rw [tk, U.places_app, tkl, Nat.zero_add]
            rfl
          cases hn : U.needT t' with
          | true =>
            refine iteT ⟨_, rfl, _, e3, ?_, upd_new hqs1 s13, ?_⟩
            · rw [List.length_map]
              have := U.places_le ((U.preT t).take j) 0
              exact Nat.lt_of_lt_of_le (show _ < 100 by omega) (sizeLine_ge (by decide))
            · rw [upd_same, pp, hn, List.map_append]
              rfl
          | false =>
            refine iteF ⟨s13, ?_⟩
            rw [e3, pp, hn]
            simp
        rintro J1 ⟨s1, e1⟩
        rw [List.take_of_length_le (by omega)] at e1
        have hw2 := s1 _ _ hw'
        refine ⟨_, rfl, pw, CS, dxw, _, _, rfl, hw2, SC.cl, SC.nneeds, seen_needs _ _ _ _, _, rfl, pw, CS, dxw, _, _, rfl, hw2, SC.cl, SC.nsteps, seen_steps _ _ _ _, _, rfl, pw, CS, dxw, _, _, rfl, hw2, SC.cl, SC.nmade, seen_made _ _ _ _, _, rfl, pw, CS, dxw, _, _, rfl, hw2, SC.cl, SC.nend, seen_end _ _ _ _, sizeLine_ge (by show 4 ≤ 10000; decide), fun q1 hq1 => ?_⟩
        have Sq1 : Same J1 _ := same_new (o := .tup [.ref k1, .int ((pl' + 1 : Nat) : Int), .ref k2, ev]) hq1
        have eq1 : (upd J1 q1 (.tup [.ref k1, .int ((pl' + 1 : Nat) : Int), .ref k2, ev])) q1 = some (.tup [.ref k1, .int ((pl' + 1 : Nat) : Int), .ref k2, ev]) := upd_same
        generalize upd J1 q1 (.tup [.ref k1, .int ((pl' + 1 : Nat) : Int), .ref k2, ev]) = Hq1 at Sq1 eq1 ⊢
        refine ⟨_, rfl, _, rfl, _, _, rfl, rfl, ((m + 1 : Nat) : Int), rfl, qB, _, rfl, .inl (.inl (Sq1 _ _ (s1 _ _ eB13))), fun q8 hq8 => ?_⟩
        rw [cut_to (by omega), show (strsV B).take (m + 1) = strsV (B.take (m + 1)) from List.map_take.symm]
        have S8 : Same Hq1 _ := same_new (o := .lst (strsV (B.take (m + 1)))) hq8
        have e8 : (upd Hq1 q8 (.lst (strsV (B.take (m + 1))))) q8 = some (.lst (strsV (B.take (m + 1)))) := upd_same
        generalize upd Hq1 q8 (.lst (strsV (B.take (m + 1)))) = J2 at S8 e8 ⊢
        refine ⟨_, rfl, _, rfl, qs1, _, (m : Int), .int (pl' : Nat), rfl, rfl, .inl (.inl (S8 _ _ (Sq1 _ _ e1))), ?_, _, _, rfl, rfl, ?_⟩
        · refine atI_nat ?_
          rw [List.getElem?_map, hpl]
          rfl
        refine ⟨sizeLine_ge (by show 0 ≤ 10000; decide), fun q2 hq2 => ?_⟩
        have Sq2 : Same J2 _ := same_new (o := .lst []) hq2
        have eq2 : (upd J2 q2 (.lst [])) q2 = some (.lst []) := upd_same
        generalize upd J2 q2 (.lst []) = Hq2 at Sq2 eq2 ⊢
        refine ⟨sizeLine_ge (by show 4 ≤ 10000; decide), fun q4 hq4 => ?_⟩
        have Sq4 : Same Hq2 _ := same_new (o := .tup [.ref q8, .int ((pl' : Int) + 1), .ref q2, .non]) hq4
        have eq4 : (upd Hq2 q4 (.tup [.ref q8, .int ((pl' : Int) + 1), .ref q2, .non])) q4 = some (.tup [.ref q8, .int ((pl' : Int) + 1), .ref q2, .non]) := upd_same
        generalize upd Hq2 q4 (.tup [.ref q8, .int ((pl' : Int) + 1), .ref q2, .non]) = Hq4 at Sq4 eq4 ⊢
        have s94 : Same I9 Hq4 := ((s1.trans Sq1).trans S8).trans (Sq2.trans Sq4)
        have sh := shd (needs := B.take (m + 1)) (steps := pl' + 1) (h := none) (fun k hk => (Bok k (List.mem_of_mem_take hk)).1) (.inl rfl)
        refine ⟨_, _, left s94 ((S8.trans (Sq2.trans Sq4)) _ _ eq1), .tup (.inl (.inl eq4)) (.cons (dp_strs ((Sq2.trans Sq4) _ _ e8)) (.cons (by rw [show ((pl' : Int) + 1) = ((pl' + 1 : Nat) : Int) by omega]; exact .int _) (.cons (.lst (.inl (.inl (Sq4 _ _ eq2))) .nil) (.cons .non .nil)))), sh, sh, ?_⟩
        exact (congrArg (fun b => Q (.bl b) Hq4) (same_data sh)).mpr (fin _ s94)
end
end K


set_option Elab.async false
set_option linter.all false
set_option maxRecDepth 100000
set_option maxHeartbeats 4000000
set_option pp.maxSteps 3000
namespace K
open PySem PySem.Spec PyProof.Rows L2 U
def spLaw (K : PySem.W.Frag) : Sp := fun vs H Q _ => ∃ (a : Addr) (ns : List Int), vs = [.ref a] ∧ SqL K H a (ns.map V.int) ∧ ns.length ≤ 63 ∧ ∀ H', Q (.bl true) H'
theorem sqL_butC {K : PySem.W.Frag} {C p l : Addr} {H0 H1 H2 : Hp} {xs : List V} (b : ButC C p H1 H2) (n : ∀ {o}, H0 l = some o → l ≠ p) (h : SqL K H0 l xs) (s : Same H0 H1) : SqL K H2 l xs := by
  rcases h with (h | ⟨o, h⟩) | h
  · exact .inl (.inl (b _ _ (s _ _ h) (n h) (by intro _ _ z; cases z)))
  · exact .inl (.inr ⟨o, b _ _ (s _ _ h) (n h) (by intro _ _ z; cases z)⟩)
  · exact .inr h
section
variable {P : Program} {w : World} {K : PySem.W.Frag} {mg : Str → Option Value} {base : Heap} {dW dB dN : Addr} {esW : Array DictEntry} {nW : Nat} (T : Txt K mg w dW dB esW nW) (N : Runs K mg dN)
include T N
theorem ok_law {f f1 f2 C : Addr} {fd fd1 fd2 : FuncData} (F : Fun K "law" "law" s_law f fd) (h__law_purse : Has P w K mg base "_law_purse" 1 ["_law_script", "_law_at"] (spPurse2 K) f1 fd1) (h__law_right : Has P w K mg base "_law_right" 40 ["_law_purse_here"] (spRight10 C) f2 fd2) : FnOk P w K mg base CX0 41 f fd ["_law_script"] (spLaw K) := by
  refine F.ok sc_law (fun vs H Q E h => ?_) (fun cdv A outer s H vs Q E hr h => ?_)
  · obtain ⟨a, ns, rfl, _⟩ := h
    rfl
  · obtain ⟨l, ns, rfl, hl, hlen, q⟩ := h
    refine ⟨_, (pss_cons (ps_for PassesOwn.never rfl (pi_range1 (by rfl) T.z_range (pa_cons (pe_callB (call_max2 rfl) (by rfl) T.z_max (by decide +kernel) (pa_cons pe_int (pa_cons (pe_callB (call_min2 rfl) (by rfl) T.z_min (by decide +kernel) (pa_cons pe_int (pa_cons (pe_callB call_len_seq (by rfl) T.z_len (by decide +kernel) (pa_cons (pv 0) pa_nil)) pa_nil))) pa_nil))) pa_nil)) (pg_name (i := 1) sc_law.nd rfl (.inl rfl)) 
        (pss_cons (ps_set (i := 2) sc_law.nd rfl (.inl rfl) (pe_callH h__law_purse (hr.mono (by first | decide | omega)) (by rfl) (pa_cons (pv 0) (pa_cons (pv 1) pa_nil))))
        (pss_one (ps_for PassesOwn.never rfl (pi_range1 (by rfl) T.z_range (pa_cons pe_int pa_nil)) (pg_name (i := 3) sc_law.nd rfl (.inl rfl)) 
          (pss_one (ps_if (pt_not (pt_val (pe_callH h__law_right (hr.mono (by first | decide | omega)) (by rfl) (pa_cons (pv 2) pa_nil)))) 
            (pss_one (ps_ret pe_bl)) pss_nil))))))
      (pss_one (ps_ret pe_bl))), ?_⟩
    refine ⟨_, rfl, l, _, rfl, .inl hl, _, _, rfl, _, _, rfl, ?_⟩
    have hb : (if (if ((ns.map V.int).length : Int) < 4 then ((ns.map V.int).length : Int) else 4) > 1 then (if ((ns.map V.int).length : Int) < 4 then ((ns.map V.int).length : Int) else 4) else 1) ≤ 4 ∧ 0 ≤ (if (if ((ns.map V.int).length : Int) < 4 then ((ns.map V.int).length : Int) else 4) > 1 then (if ((ns.map V.int).length : Int) < 4 then ((ns.map V.int).length : Int) else 4) else 1) := by
      split <;> split <;> omega
    refine ⟨_, rfl, by omega, by omega, for_range (fun _ σ H' => (∃ a1 a2 a3, σ = [some (.ref l), a1, a2, a3]) ∧ SqL K H' l (ns.map V.int)) ⟨⟨_, _, _, rfl⟩, hl⟩ ?_ ?_⟩
    · rintro i σ H0 hi ⟨⟨a1, a2, a3, rfl⟩, hl0⟩
      have hi : i ≤ 100 := by omega
      refine ⟨_, rfl, _, rfl, l, ns, i, ?_, hl0, hi, fun p H1 hp s1 P1 => ?_⟩
      · rw [Int.zero_add]
        rfl
      have npl : ∀ H2, ButC C p H1 H2 → SqL K H2 l (ns.map V.int) := fun H2 b => sqL_butC b (fun e => ne_of_none e hp) hl0 s1
      refine ⟨_, rfl, by decide, by decide, for_range (fun (j : Nat) σ H' => (∃ b3, σ = [some (.ref l), some (.int (0 + i)), some (.ref p), b3]) ∧ Purse2 H' p (1 + 100 * (j : Int)) ∧ ButC C p H1 H') ⟨⟨_, rfl⟩, P1.mono (by omega), fun a o e _ _ => e⟩ ?_ ?_⟩
      · rintro j σ H2 hj ⟨⟨b3, rfl⟩, P2, bc2⟩
        have hj : j ≤ 10 := Nat.le_of_lt (Nat.lt_of_lt_of_le hj (by decide))
        have e40 : (2 : Int) ^ 40 = 1099511627776 := by decide
        refine ⟨_, rfl, p, _, rfl, P2, by omega, fun H3 c3 P3 => ⟨true, rfl, iteF ?_⟩⟩
        exact ⟨⟨_, rfl⟩, P3.mono (by omega), fun a o e n m => c3 _ _ (bc2 _ _ e n m) n m⟩
      · rintro σ H2 ⟨⟨b3, rfl⟩, P2, bc2⟩
        exact ⟨⟨_, _, _, rfl⟩, npl _ bc2⟩
    · rintro σ H0 ⟨⟨a1, a2, a3, rfl⟩, hl0⟩
      exact q _
end
end K


set_option Elab.async false
set_option linter.all false
set_option maxRecDepth 100000
set_option maxHeartbeats 4000000
/-! a def with positional defaults, by its body; an own class with an __eq__ -/
namespace U
open PySem PySem.Spec PyProof.Rows L2
section
variable {P : Program} {w : World} {K : PySem.W.Frag} {mg : Str → Option Value} {base : Heap} {x qual : Str} {params : Arguments} {body : List Stmt} {scope : Scope} {dvs : List V} {kws : List (Str × V)} {f : Addr} {fd : FuncData}
theorem FunD.ok0 {N ps : List Str} {k : Nat} {sp : Sp} (F : FunD K x qual params body scope dvs kws f fd) (S : FnScope N ps scope) (len : ∀ vs H Q E, sp vs H Q E → vs.length = ps.length)
    (hbody : ∀ (cdv : Value) (A : Around) (outer : List Env) (s : Shared) (H : Hp) (vs : List V) (Q : VK) (E : XK), Room k (A.deeper (envOfC qual scope s.heap.objs.size f cdv)) → sp vs H Q E →
      ∃ t, PSs (cxOf CX0 P w K mg base N qual scope f cdv A outer s H E).nox body t ∧ t { nx := fun _ H' => Q .non H', rt := Q } (start N vs) H) : FnOk P w K mg base CX0 (k + 1) f fd ps sp := by
  obtain ⟨oc, od, dV, kV, doc, pm, an, cdv, ct, osl, rfl, lk, hcd, _, _⟩ := F.ex
  refine fn_of lk hcd S len fun A outer s H vs Q E hr hsp => ?_
  obtain ⟨t, h, q⟩ := hbody cdv A outer s H vs Q E hr hsp
  exact ⟨t, h.nox, q⟩
end
/-- an own class with an __eq__: what else stands of it -/
structure OwnC (K : PySem.W.Frag) (C : Addr) : Prop where
  nb : PySem.W.findIn K (.ref C) "__bool__" = some none
  ne : PySem.W.findIn K (.ref C) "__ne__" = some (some (.builtin "object.__ne__"))
  no : PySem.W.subIn K (.ref C) (.type "NoneType") = some false
  ns : PySem.W.subIn K (.ref C) (.type "str") = some false
  ob : PySem.W.subIn K (.ref C) (.type "object") = some true
  ty : ∀ (H : Hp) (a dx : Addr) (fs : List (Str × V)), H a = some (.ins C dx fs) → TyX K H (.ref a) (.ref C)
  self : PySem.W.kitOne K (.ref C) (.ref C) = some true
  kN : PySem.W.kitOne K (.type "NoneType") (.ref C) = some false
  kS : PySem.W.kitOne K (.type "str") (.ref C) = some false
end U

set_option Elab.async false
set_option linter.all false
set_option maxRecDepth 100000
set_option maxHeartbeats 4000000
/-! facts of the top, read by a Hook: what the library's facts lack -/
namespace U
open PySem PySem.Spec PyProof.Rows L2
theorem ex_at {l : List Bool} (h : l.all id = true) (i : Nat) {b : Bool} (e : l[i]? = some b) : b = true := by
  have := List.all_eq_true.mp h b (List.mem_of_getElem? e)
  exact this
theorem fun_of {K : PySem.W.Frag} {x qual : Str} {st : Stmt} {kws : List (Str × V)} {f : Addr} {fd : FuncData} (F : FunD K x qual (defArgs st) (defBody st) (defScope st) [] kws f fd) : Fun K x qual st f fd := by
  obtain ⟨oc, od, dV, kV, doc, pm, an, cdv, ct, osl, rfl, lk, hcd, hD, _⟩ := F.ex
  rcases hD with ⟨_, rfl⟩ | ⟨e, _⟩
  · exact ⟨⟨oc, od, kV, doc, pm, an, cdv, ct, osl, rfl, lk, hcd⟩, F.kp⟩
  · exact absurd rfl e
theorem fun_kbn {K : PySem.W.Frag} {x qual : Str} {st : Stmt} {f : Addr} {fd : FuncData} {ps ks : List Str} {n : Nat} {g : List Value → List Value → List Value} {gV : List V → List V → List V} (F : Fun K x qual st f fd)
    (h : ∀ (kV doc pm : Value) (an : Option Addr) (cdv ct : Value) (us ws : List Value), us.length = n → ws.length = ks.length → bindArgs (PySem.W.fnOf x qual (defArgs st) (defBody st) (defScope st) .none kV doc pm an cdv ct) ⟨us, ks.zip ws⟩ = pure (ps.zip (g us ws)))
    (hrel : ∀ {vs : List V} {us : List Value} {zs : List V} {ws : List Value}, Vals vs us → Vals zs ws → Vals (gV vs zs) (g us ws)) : KBn K fd ps n ks g gV := by
  obtain ⟨oc, od, kV, doc, pm, an, cdv, ct, osl, rfl, lk, hcd⟩ := F.ex
  exact ⟨fun s us ws _ h1 h2 => .of_eq (h kV doc pm an cdv ct us ws h1 h2), hrel⟩
def clsVal (K : PySem.W.Frag) (C f : Addr) (m : Str) : Bool := match PySem.W.findCls K (.ref C) (.type "type") m with
  | some (.val (.ref a)) => decide (a = f)
  | _ => false
theorem clsVal_ok {K : PySem.W.Frag} {C f : Addr} {m : Str} (h : clsVal K C f m = true) : PySem.W.findCls K (.ref C) (.type "type") m = some (.val (.ref f)) := by
  unfold clsVal at h
  split at h
  · rename_i a e
    rw [e, of_decide_eq_true h]
  · cases h
/-- a written tuple at a -/
def tupA (K : PySem.W.Frag) (a : Addr) (vs : List V) : Bool := match K.lookup a with
  | some ⟨.type c, _, .seq its _, _⟩ => decide (c = "tuple") && (decide (its.size ≤ sizeLine) && He.relAll vs its.toList)
  | _ => false
theorem tupA_ok {K : PySem.W.Frag} {a : Addr} {vs : List V} (h : tupA K a vs = true) (H : Hp) : SqT K H a vs := by
  unfold tupA at h
  split at h
  · rename_i c od its n sl q
    obtain ⟨h1, h2⟩ := He.ba h
    obtain ⟨h3, h4⟩ := He.ba h2
    exact .inr ⟨_, its, n, q, congrArg Value.type (of_decide_eq_true h1), rfl, of_decide_eq_true h3, He.relAll_ok h4⟩
  · cases h
def kvOf (e : DictEntry) : Option (Str × Int) := match e.key, e.val with
  | .str x _, .int i _ => some (x, i)
  | _, _ => none
def wordsB (K : PySem.W.Frag) (a : Addr) (kvs : List (Str × Int)) : Bool := match K.lookup a with
  | some ⟨_, _, .dict es _, _⟩ => decide (es.toList.map kvOf = kvs.map some)
  | _ => false
theorem kv_paired : ∀ {l : List DictEntry} {kvs : List (Str × Int)}, l.map kvOf = kvs.map some → Paired (fun (p : Str × Int) (e : DictEntry) => ∃ t u, e.key = .str p.1 t ∧ e.val = .int p.2 u) kvs l
  | [], [], _ => .nil
  | [], _ :: _, h => by cases h
  | _ :: _, [], h => by cases h
  | e :: l, q :: kvs, h => by
    have h1 : kvOf e :: l.map kvOf = some q :: kvs.map some := h
    injection h1 with h2 h3
    refine .cons ?_ (kv_paired h3)
    unfold kvOf at h2
    split at h2
    · rename_i x t i u q1 q2
      cases h2
      exact ⟨t, u, q1, q2⟩
    · cases h2
theorem ktab_of {K : PySem.W.Frag} {w : World} {a : Addr} {es : Array DictEntry} {n : Nat} {kvs : List (Str × Int)} (t : KDict K w a es n) (h : wordsB K a kvs = true) (nd : (kvs.map (·.1)).Nodup) : KTab K w a es n kvs := by
  unfold wordsB at h
  rw [t.at_] at h
  exact ⟨t, kv_paired (of_decide_eq_true h), nd⟩
/-- instances of an own class are told to be so -/
def tyB (K : PySem.W.Frag) (C : Addr) : Bool := He.eqO (PySem.W.findIn K (.ref C) "__class__") (some (some (.builtin "object.__class__"))) && (He.eqO (PySem.W.specialIn K (.builtin "object.__class__") "__get__") (some (some (.builtin "getset_descriptor.__get__"))) && (decide (PySem.W.takesIn K (.builtin "object.__class__") = some true) && decide (PySem.W.mroIn K C (.type "object") = some true)))
theorem tyB_ok {K : PySem.W.Frag} {C : Addr} (cl : Cls K C) (h : tyB K C = true) : ∀ (H : Hp) (a dx : Addr) (fs : List (Str × V)), H a = some (.ins C dx fs) → TyX K H (.ref a) (.ref C) := by
  obtain ⟨h1, h2⟩ := He.ba h
  obtain ⟨h3, h4⟩ := He.ba h2
  obtain ⟨h5, h6⟩ := He.ba h4
  exact fun H a dx fs e => .base (.ins e cl (He.eqO_ok h1) (He.eqO_ok h3) (of_decide_eq_true h5) (of_decide_eq_true h6))
def ownB (K : PySem.W.Frag) (C : Addr) : Bool := He.eqO (PySem.W.findIn K (.ref C) "__bool__") (some none) && (He.eqO (PySem.W.findIn K (.ref C) "__ne__") (some (some (.builtin "object.__ne__"))) && (decide (PySem.W.subIn K (.ref C) (.type "NoneType") = some false) && (decide (PySem.W.subIn K (.ref C) (.type "str") = some false) &&
  (decide (PySem.W.subIn K (.ref C) (.type "object") = some true) && (tyB K C && (decide (PySem.W.kitOne K (.ref C) (.ref C) = some true) && (decide (PySem.W.kitOne K (.type "NoneType") (.ref C) = some false) && decide (PySem.W.kitOne K (.type "str") (.ref C) = some false))))))))
theorem ownB_ok {K : PySem.W.Frag} {C : Addr} (cl : Cls K C) (h : ownB K C = true) : OwnC K C := by
  obtain ⟨h1, h⟩ := He.ba h
  obtain ⟨h2, h⟩ := He.ba h
  obtain ⟨h3, h⟩ := He.ba h
  obtain ⟨h4, h⟩ := He.ba h
  obtain ⟨h5, h⟩ := He.ba h
  obtain ⟨h6, h⟩ := He.ba h
  obtain ⟨h7, h⟩ := He.ba h
  obtain ⟨h8, h⟩ := He.ba h
  exact ⟨He.eqO_ok h1, He.eqO_ok h2, of_decide_eq_true h3, of_decide_eq_true h4, of_decide_eq_true h5, tyB_ok cl h6, of_decide_eq_true h7, of_decide_eq_true h8, of_decide_eq_true h⟩
def supB (K : PySem.W.Frag) (C f : Addr) (m : Str) : Bool := PySem.W.readsIn K C (.type "type") && (He.eqO (PySem.W.specialIn K (.ref C) "__getattribute__") (some (some (.builtin "type.__getattribute__"))) && (clsVal K C f m && PySem.W.keepIn K (.ref f)))
theorem supB_ok {K : PySem.W.Frag} {C f : Addr} {m : Str} (h : supB K C f m = true) : SupI K C m f := by
  obtain ⟨h1, h⟩ := He.ba h
  obtain ⟨h2, h⟩ := He.ba h
  obtain ⟨h3, h⟩ := He.ba h
  exact ⟨h1, He.eqO_ok h2, clsVal_ok h3, h⟩
end U

set_option Elab.async false
set_option linter.all false
set_option maxRecDepth 100000
set_option maxHeartbeats 4000000
/-! the Hook: a small part of the heap, without a look for what stands there twice -/
namespace U
open PySem PySem.Spec PyProof.Rows L2
def refsE (o : Obj) : List Addr := match o.data with
  | .seq its _ => its.toList.flatMap He.refV
  | .dict es _ => es.toList.flatMap fun e => He.refV e.val
  | .func fd => He.refV fd.code ++ (He.refV fd.defaults ++ He.refV fd.kwdefaults)
  | .cls cd => [cd.ns]
  | _ => []
def lvE (g : Addr → Option Obj) (as : List Addr) : List Addr := as.flatMap fun a => match g a with
  | some o => refsE o
  | none => []
def lvs (g : Addr → Option Obj) : Nat → List Addr → List Addr
  | 0, as => as
  | n + 1, as => as ++ lvs g n (lvE g as)
def asL (g : Addr → Option Obj) : List Addr := lvs g 5 [mainGlobals] ++ [PySem.cStatics]
structure SaysZ (fa : List He.Fa) (fn : List He.DefD) (ts : List He.Tab) (ex : PySem.W.Frag → Bool) (w : World) (K : PySem.W.Frag) : Prop where
  t : He.SaysT fa fn ts w K
  more : ex K = true
abbrev AlZ : Type := He.AlT × Bool
def obsZ (fa : List He.Fa) (fn : List He.DefD) (ts : List He.Tab) (ex : PySem.W.Frag → Bool) (g : Addr → Option Obj) : AlZ := (He.obsT fa fn ts (He.frG g (asL g)), ex (He.frG g (asL g)))
def hookZ (fa : List He.Fa) (fn : List He.DefD) (ts : List He.Tab) (ex : PySem.W.Frag → Bool) : PySem.W.Hook where
  α := AlZ
  obs := fun s => obsZ fa fn ts ex s.heap.get?
  val := fun w => (He.valT fn ts w, true)
  says := fun w h => ∃ K : PySem.W.Frag, K.In h ∧ SaysZ fa fn ts ex w K
  of := fun _ _ e => ⟨_, He.frG_in, ⟨congrArg (fun z : AlZ => z.1) e, congrArg (fun z : AlZ => z.2) e⟩⟩
  keeps := fun _ _ _ ⟨K, hK, c⟩ k => ⟨K, PySem.W.Frag.In.keeps hK k, c⟩
theorem obsZ_eq {fa : List He.Fa} {fn : List He.DefD} {ts : List He.Tab} {ex : PySem.W.Frag → Bool} {g : Addr → Option Obj} {s : Shared} (h : ∀ a, g a = s.heap.get? a) : obsZ fa fn ts ex g = (hookZ fa fn ts ex).obs s := by
  have e : g = s.heap.get? := funext h
  rw [e] <;> rfl
end U

set_option Elab.async false
set_option linter.all false
set_option maxRecDepth 100000
set_option maxHeartbeats 4000000
namespace K
open PySem PySem.Spec PyProof.Rows L2 U SkE
theorem wkv_nd : (wkv.map (·.1)).Nodup := by decide +kernel
def fn : List He.DefD := [⟨("code_of", none), "code_of", "code_of", defArgs s_code_of, defBody s_code_of, defScope s_code_of, [], []⟩,
  ⟨("last_code", none), "last_code", "last_code", defArgs s_last_code, defBody s_last_code, defScope s_last_code, [], []⟩,
  ⟨("coded", none), "coded", "coded", defArgs s_coded, defBody s_coded, defScope s_coded, [], []⟩,
  ⟨("free_in", none), "free_in", "free_in", defArgs s_free_in, defBody s_free_in, defScope s_free_in, [], []⟩,
  ⟨("all_trees", none), "all_trees", "all_trees", defArgs s_all_trees, defBody s_all_trees, defScope s_all_trees, [], []⟩,
  ⟨("run_end", none), "run_end", "run_end", defArgs s_run_end, defBody s_run_end, defScope s_run_end, [], []⟩,
  ⟨("behind_trees", none), "behind", "behind", defArgs s_behind, defBody s_behind, defScope s_behind, [], []⟩,
  ⟨("number_end", none), "number_end", "number_end", defArgs s_number_end, defBody s_number_end, defScope s_number_end, [], []⟩,
  ⟨("word_end", none), "word_end", "word_end", defArgs s_word_end, defBody s_word_end, defScope s_word_end, [], []⟩,
  ⟨("small_end", none), "small_end", "small_end", defArgs s_small_end, defBody s_small_end, defScope s_small_end, [], []⟩,
  ⟨("bracket_at", none), "bracket_at", "bracket_at", defArgs s_bracket_at, defBody s_bracket_at, defScope s_bracket_at, [], []⟩,
  ⟨("piece_at", none), "piece_at", "piece_at", defArgs s_piece_at, defBody s_piece_at, defScope s_piece_at, [], []⟩,
  ⟨("pieces_of", none), "pieces_of", "pieces_of", defArgs s_pieces_of, defBody s_pieces_of, defScope s_pieces_of, [], []⟩,
  ⟨("check_size", none), "check_size", "check_size", defArgs s_check_size, defBody s_check_size, defScope s_check_size, [], []⟩,
  ⟨("built", none), "built", "built", defArgs s_built, defBody s_built, defScope s_built, [], []⟩,
  ⟨("tree_of", none), "tree_of", "tree_of", defArgs s_tree_of, defBody s_tree_of, defScope s_tree_of, [], []⟩,
  ⟨("behind_runs", none), "behind", "behind", defArgs s_behind_runs, defBody s_behind_runs, defScope s_behind_runs, [], []⟩,
  ⟨("unfit", none), "unfit", "unfit", defArgs s_unfit, defBody s_unfit, defScope s_unfit, [], []⟩,
  ⟨("names_for", none), "names_for", "names_for", defArgs s_names_for, defBody s_names_for, defScope s_names_for, [], []⟩,
  ⟨("reckoned", none), "reckoned", "reckoned", defArgs s_reckoned, defBody s_reckoned, defScope s_reckoned, [], []⟩,
  ⟨("walked", none), "walked", "walked", defArgs s_walked, defBody s_walked, defScope s_walked, [], []⟩,
  ⟨("_law_purse", none), "_law_purse", "_law_purse", defArgs s__law_purse, defBody s__law_purse, defScope s__law_purse, [], []⟩,
  ⟨("_law_take", none), "_law_take", "_law_take", defArgs s__law_take, defBody s__law_take, defScope s__law_take, [], []⟩,
  ⟨("_law_shown", none), "_law_shown", "_law_shown", defArgs s__law_shown, defBody s__law_shown, defScope s__law_shown, [], []⟩,
  ⟨("_law_put_together", none), "_law_put_together", "_law_put_together", defArgs s__law_put_together, defBody s__law_put_together, defScope s__law_put_together, [], []⟩,
  ⟨("_law_walked_over", none), "_law_walked_over", "_law_walked_over", defArgs s__law_walked_over, defBody s__law_walked_over, defScope s__law_walked_over, [], []⟩,
  ⟨("_law_leaf", none), "_law_leaf", "_law_leaf", defArgs s__law_leaf, defBody s__law_leaf, defScope s__law_leaf, [], []⟩,
  ⟨("_law_right", none), "_law_right", "_law_right", defArgs s__law_right, defBody s__law_right, defScope s__law_right, [], []⟩,
  ⟨("law", none), "law", "law", defArgs s_law, defBody s_law, defScope s_law, [], []⟩,
  ⟨("Tree", some "__init__"), "__init__", "Tree.__init__", defArgs s_Tree___init__, defBody s_Tree___init__, defScope s_Tree___init__, [], []⟩,
  ⟨("Term", some "__init__"), "__init__", "Term.__init__", defArgs s_Term___init__, defBody s_Term___init__, defScope s_Term___init__, [], []⟩,
  ⟨("Term", some "tree"), "tree", "Term.tree", defArgs s_Term_tree, defBody s_Term_tree, defScope s_Term_tree, [], []⟩,
  ⟨("Walking", some "__init__"), "__init__", "Walking.__init__", defArgs s_Walking___init__, defBody s_Walking___init__, defScope s_Walking___init__, [], []⟩,
  ⟨("Walking", some "make"), "make", "Walking.make", defArgs s_Walking_make, defBody s_Walking_make, defScope s_Walking_make, [], []⟩,
  ⟨("Walking", some "take"), "take", "Walking.take", defArgs s_Walking_take, defBody s_Walking_take, defScope s_Walking_take, [], []⟩,
  ⟨("Run", some "__init__"), "__init__", "Run.__init__", defArgs s_Run___init__, defBody s_Run___init__, defScope s_Run___init__, [], []⟩,
  ⟨("Run", some "go"), "go", "Run.go", defArgs s_Run_go, defBody s_Run_go, defScope s_Run_go, [], []⟩,
  ⟨("Run", some "_do"), "_do", "Run._do", defArgs s_Run__do, defBody s_Run__do, defScope s_Run__do, [], []⟩,
  ⟨("Run", some "_form"), "_form", "Run._form", defArgs s_Run__form, defBody s_Run__form, defScope s_Run__form, [], []⟩,
  ⟨("Run", some "_call"), "_call", "Run._call", defArgs s_Run__call, defBody s_Run__call, defScope s_Run__call, [], []⟩,
  ⟨("Walk", some "__init__"), "__init__", "Walk.__init__", defArgs s_Walk___init__, defBody s_Walk___init__, defScope s_Walk___init__, [], []⟩,
  ⟨("Told", some "__init__"), "__init__", "Told.__init__", defArgs s_Told___init__, defBody s_Told___init__, defScope s_Told___init__, [], []⟩,
  ⟨("Told", some "follow"), "follow", "Told.follow", defArgs s_Told_follow, defBody s_Told_follow, defScope s_Told_follow, [], []⟩]
def fa : List He.Fa := [.glo "code_of",
  .glo "last_code",
  .glo "coded",
  .glo "free_in",
  .glo "all_trees",
  .glo "run_end",
  .glo "behind_trees",
  .glo "number_end",
  .glo "word_end",
  .glo "small_end",
  .glo "bracket_at",
  .glo "piece_at",
  .glo "pieces_of",
  .glo "check_size",
  .glo "built",
  .glo "tree_of",
  .glo "behind_runs",
  .glo "unfit",
  .glo "names_for",
  .glo "reckoned",
  .glo "walked",
  .glo "_law_purse",
  .glo "_law_take",
  .glo "_law_shown",
  .glo "_law_put_together",
  .glo "_law_walked_over",
  .glo "_law_leaf",
  .glo "_law_right",
  .glo "law",
  .free "abs",
  .free "any",
  .free "dict",
  .free "enumerate",
  .free "int",
  .free "isinstance",
  .free "len",
  .free "list",
  .free "max",
  .free "min",
  .free "range",
  .free "set",
  .free "sorted",
  .free "str",
  .free "sum",
  .free "tuple",
  .int "CALL" 7,
  .str "CLOSE" (Str.ofString ")"),
  .int "END" 3,
  .str "FIGURES" (Str.ofString "0123456789"),
  .str "FIRST_FIGURES" (Str.ofString "123456789"),
  .int "FORM" 2,
  .str "GREAT" (Str.ofString "ABCDEFGHIJKLMNOPQRSTUVWXYZ"),
  .int "GREATEST" 1000000000000,
  .int "HALF" 8,
  .int "HEAD" 0,
  .int "IF" 4,
  .int "LEFT" 5,
  .int "MOST_FIGURES" 12,
  .int "MOST_GREAT" 6,
  .int "MOST_OPEN" 30,
  .int "MOST_SMALL" 4,
  .int "MOST_TERMS" 200,
  .int "NEED" 1,
  .int "NO_MOST" 1000000000000000,
  .int "RIGHT" 6,
  .str "SMALL" (Str.ofString "abcdefghijklmnopqrstuvwxyz"),
  .glo "WORDS",
  .glo "BINDERS",
  .glo "Tree",
  .glo "Term",
  .cls "Tree",
  .noat "Tree" "text",
  .noat "Tree" "kind",
  .noat "Tree" "small",
  .noat "Tree" "within",
  .noat "Tree" "free",
  .noat "Tree" "code",
  .cls "Term",
  .noat "Term" "_tree",
  .noat "Term" "_text",
  .noat "Term" "_trees",
  .mkr "Tree",
  .mkr "Term",
  .glo "NO_HEADS",
  .glo "Walking",
  .glo "Run",
  .glo "Walk",
  .glo "Told",
  .cls "Walking",
  .noat "Walking" "knot",
  .noat "Walking" "senses",
  .noat "Walking" "place",
  .noat "Walking" "head",
  .noat "Walking" "need",
  .noat "Walking" "steps",
  .noat "Walking" "made",
  .noat "Walking" "end",
  .cls "Walk",
  .noat "Walk" "needs",
  .noat "Walk" "steps",
  .noat "Walk" "made",
  .noat "Walk" "end",
  .cls "Told",
  .noat "Told" "most",
  .noat "Told" "known",
  .noat "Told" "bodies",
  .noat "Told" "steps",
  .noat "Told" "needs",
  .noat "Told" "_gots",
  .noat "Told" "walk",
  .mkr "Walking",
  .mkr "Walk",
  .mkr "Told",
  .meth "Term" "tree",
  .meth "Walking" "take",
  .meth "Told" "follow",
  .meth "Told" "go",
  .meth "Told" "_do",
  .meth "Told" "_form",
  .meth "Told" "_call",
  .meth "Walking" "make"]
def exs (K : PySem.W.Frag) : List Bool := [wordsB K (He.ga K "WORDS") wkv,
  tupA K (He.ga K "BINDERS") [V.str (Str.ofString "let"), V.str (Str.ofString "def")],
  tupA K (He.ga K "NO_HEADS") [V.str (Str.ofString "fault"), V.str (Str.ofString "ring"), V.str (Str.ofString "waits")],
  supB K (He.ga K "Run") (He.ma K (He.ga K "Run") "__init__") "__init__",
  decide (He.ma K (He.ga K "Told") "go" = He.ma K (He.ga K "Run") "go"),
  decide (He.ma K (He.ga K "Told") "_do" = He.ma K (He.ga K "Run") "_do"),
  decide (He.ma K (He.ga K "Told") "_form" = He.ma K (He.ga K "Run") "_form"),
  decide (He.ma K (He.ga K "Told") "_call" = He.ma K (He.ga K "Run") "_call"),
  decide (He.ga K "Told" ≠ He.ga K "Tree"),
  decide (He.ga K "Walking" ≠ He.ga K "Tree")]
def ex (K : PySem.W.Frag) : Bool := (exs K).all id
def tabW : He.Tab := (fun K => He.ga K "WORDS", wkv.map (·.1))
theorem facts {P : Program} {w : World} {K : PySem.W.Frag} {h : Heap} {mg : Str → Option Value} {f : Addr} (X : K.In h) (G : h.Ns mainGlobals mg) (hfa : mg ("law" : Str) = some (.ref f)) (c : SaysZ fa fn [tabW] ex w K) :
    ∃ fd : FuncData, (∀ (s : Shared) (v : Value), BindsTo s fd ⟨[v], []⟩ [("_law_script", v)]) ∧ ∀ base : Heap, K.In base → base.Ns mainGlobals mg → FnOk P w K mg base CX0 41 f fd ["_law_script"] (spLaw K) := by
  obtain ⟨d_code_of, D_code_of⟩ : ∃ fd, FunD K "code_of" "code_of" (defArgs s_code_of) (defBody s_code_of) (defScope s_code_of) [] [] (He.ga K "code_of") fd := c.t.d.def_ 0
  have F_code_of := fun_of D_code_of
  have b_code_of := F_code_of.binds (ps := ["tree"]) fun _ _ _ _ _ _ us hl => match us, hl with | [_], _ => rfl
  have k_code_of := D_code_of.kp
  have m_code_of := He.glo_ok X G (c.t.d.fact 0 (f := .glo "code_of"))
  obtain ⟨d_last_code, D_last_code⟩ : ∃ fd, FunD K "last_code" "last_code" (defArgs s_last_code) (defBody s_last_code) (defScope s_last_code) [] [] (He.ga K "last_code") fd := c.t.d.def_ 1
  have F_last_code := fun_of D_last_code
  have b_last_code := F_last_code.binds (ps := []) fun _ _ _ _ _ _ us hl => match us, hl with | [], _ => rfl
  have k_last_code := D_last_code.kp
  have m_last_code := He.glo_ok X G (c.t.d.fact 1 (f := .glo "last_code"))
  obtain ⟨d_coded, D_coded⟩ : ∃ fd, FunD K "coded" "coded" (defArgs s_coded) (defBody s_coded) (defScope s_coded) [] [] (He.ga K "coded") fd := c.t.d.def_ 2
  have F_coded := fun_of D_coded
  have b_coded := F_coded.binds (ps := ["tree", "begun", "then"]) fun _ _ _ _ _ _ us hl => match us, hl with | [_, _, _], _ => rfl
  have k_coded := D_coded.kp
  have m_coded := He.glo_ok X G (c.t.d.fact 2 (f := .glo "coded"))
  obtain ⟨d_free_in, D_free_in⟩ : ∃ fd, FunD K "free_in" "free_in" (defArgs s_free_in) (defBody s_free_in) (defScope s_free_in) [] [] (He.ga K "free_in") fd := c.t.d.def_ 3
  have F_free_in := fun_of D_free_in
  have b_free_in := F_free_in.binds (ps := ["tree"]) fun _ _ _ _ _ _ us hl => match us, hl with | [_], _ => rfl
  have k_free_in := D_free_in.kp
  have m_free_in := He.glo_ok X G (c.t.d.fact 3 (f := .glo "free_in"))
  obtain ⟨d_all_trees, D_all_trees⟩ : ∃ fd, FunD K "all_trees" "all_trees" (defArgs s_all_trees) (defBody s_all_trees) (defScope s_all_trees) [] [] (He.ga K "all_trees") fd := c.t.d.def_ 4
  have F_all_trees := fun_of D_all_trees
  have b_all_trees := F_all_trees.binds (ps := ["tree"]) fun _ _ _ _ _ _ us hl => match us, hl with | [_], _ => rfl
  have k_all_trees := D_all_trees.kp
  have m_all_trees := He.glo_ok X G (c.t.d.fact 4 (f := .glo "all_trees"))
  obtain ⟨d_run_end, D_run_end⟩ : ∃ fd, FunD K "run_end" "run_end" (defArgs s_run_end) (defBody s_run_end) (defScope s_run_end) [] [] (He.ga K "run_end") fd := c.t.d.def_ 5
  have F_run_end := fun_of D_run_end
  have b_run_end := F_run_end.binds (ps := ["text", "at", "signs", "most"]) fun _ _ _ _ _ _ us hl => match us, hl with | [_, _, _, _], _ => rfl
  have k_run_end := D_run_end.kp
  have m_run_end := He.glo_ok X G (c.t.d.fact 5 (f := .glo "run_end"))
  obtain ⟨d_behind, D_behind⟩ : ∃ fd, FunD K "behind" "behind" (defArgs s_behind) (defBody s_behind) (defScope s_behind) [] [] (He.ga K "behind_trees") fd := c.t.d.def_ 6
  have F_behind := fun_of D_behind
  have b_behind := F_behind.binds (ps := ["text", "at", "sign"]) fun _ _ _ _ _ _ us hl => match us, hl with | [_, _, _], _ => rfl
  have k_behind := D_behind.kp
  have m_behind := He.glo_ok X G (c.t.d.fact 6 (f := .glo "behind_trees"))
  obtain ⟨d_number_end, D_number_end⟩ : ∃ fd, FunD K "number_end" "number_end" (defArgs s_number_end) (defBody s_number_end) (defScope s_number_end) [] [] (He.ga K "number_end") fd := c.t.d.def_ 7
  have F_number_end := fun_of D_number_end
  have b_number_end := F_number_end.binds (ps := ["text", "at"]) fun _ _ _ _ _ _ us hl => match us, hl with | [_, _], _ => rfl
  have k_number_end := D_number_end.kp
  have m_number_end := He.glo_ok X G (c.t.d.fact 7 (f := .glo "number_end"))
  obtain ⟨d_word_end, D_word_end⟩ : ∃ fd, FunD K "word_end" "word_end" (defArgs s_word_end) (defBody s_word_end) (defScope s_word_end) [] [] (He.ga K "word_end") fd := c.t.d.def_ 8
  have F_word_end := fun_of D_word_end
  have b_word_end := F_word_end.binds (ps := ["text", "at"]) fun _ _ _ _ _ _ us hl => match us, hl with | [_, _], _ => rfl
  have k_word_end := D_word_end.kp
  have m_word_end := He.glo_ok X G (c.t.d.fact 8 (f := .glo "word_end"))
  obtain ⟨d_small_end, D_small_end⟩ : ∃ fd, FunD K "small_end" "small_end" (defArgs s_small_end) (defBody s_small_end) (defScope s_small_end) [] [] (He.ga K "small_end") fd := c.t.d.def_ 9
  have F_small_end := fun_of D_small_end
  have b_small_end := F_small_end.binds (ps := ["text", "at"]) fun _ _ _ _ _ _ us hl => match us, hl with | [_, _], _ => rfl
  have k_small_end := D_small_end.kp
  have m_small_end := He.glo_ok X G (c.t.d.fact 9 (f := .glo "small_end"))
  obtain ⟨d_bracket_at, D_bracket_at⟩ : ∃ fd, FunD K "bracket_at" "bracket_at" (defArgs s_bracket_at) (defBody s_bracket_at) (defScope s_bracket_at) [] [] (He.ga K "bracket_at") fd := c.t.d.def_ 10
  have F_bracket_at := fun_of D_bracket_at
  have b_bracket_at := F_bracket_at.binds (ps := ["text", "at"]) fun _ _ _ _ _ _ us hl => match us, hl with | [_, _], _ => rfl
  have k_bracket_at := D_bracket_at.kp
  have m_bracket_at := He.glo_ok X G (c.t.d.fact 10 (f := .glo "bracket_at"))
  obtain ⟨d_piece_at, D_piece_at⟩ : ∃ fd, FunD K "piece_at" "piece_at" (defArgs s_piece_at) (defBody s_piece_at) (defScope s_piece_at) [] [] (He.ga K "piece_at") fd := c.t.d.def_ 11
  have F_piece_at := fun_of D_piece_at
  have b_piece_at := F_piece_at.binds (ps := ["text", "at"]) fun _ _ _ _ _ _ us hl => match us, hl with | [_, _], _ => rfl
  have k_piece_at := D_piece_at.kp
  have m_piece_at := He.glo_ok X G (c.t.d.fact 11 (f := .glo "piece_at"))
  obtain ⟨d_pieces_of, D_pieces_of⟩ : ∃ fd, FunD K "pieces_of" "pieces_of" (defArgs s_pieces_of) (defBody s_pieces_of) (defScope s_pieces_of) [] [] (He.ga K "pieces_of") fd := c.t.d.def_ 12
  have F_pieces_of := fun_of D_pieces_of
  have b_pieces_of := F_pieces_of.binds (ps := ["text"]) fun _ _ _ _ _ _ us hl => match us, hl with | [_], _ => rfl
  have k_pieces_of := D_pieces_of.kp
  have m_pieces_of := He.glo_ok X G (c.t.d.fact 12 (f := .glo "pieces_of"))
  obtain ⟨d_check_size, D_check_size⟩ : ∃ fd, FunD K "check_size" "check_size" (defArgs s_check_size) (defBody s_check_size) (defScope s_check_size) [] [] (He.ga K "check_size") fd := c.t.d.def_ 13
  have F_check_size := fun_of D_check_size
  have b_check_size := F_check_size.binds (ps := ["pieces"]) fun _ _ _ _ _ _ us hl => match us, hl with | [_], _ => rfl
  have k_check_size := D_check_size.kp
  have m_check_size := He.glo_ok X G (c.t.d.fact 13 (f := .glo "check_size"))
  obtain ⟨d_built, D_built⟩ : ∃ fd, FunD K "built" "built" (defArgs s_built) (defBody s_built) (defScope s_built) [] [] (He.ga K "built") fd := c.t.d.def_ 14
  have F_built := fun_of D_built
  have b_built := F_built.binds (ps := ["text", "pieces"]) fun _ _ _ _ _ _ us hl => match us, hl with | [_, _], _ => rfl
  have k_built := D_built.kp
  have m_built := He.glo_ok X G (c.t.d.fact 14 (f := .glo "built"))
  obtain ⟨d_tree_of, D_tree_of⟩ : ∃ fd, FunD K "tree_of" "tree_of" (defArgs s_tree_of) (defBody s_tree_of) (defScope s_tree_of) [] [] (He.ga K "tree_of") fd := c.t.d.def_ 15
  have F_tree_of := fun_of D_tree_of
  have b_tree_of := F_tree_of.binds (ps := ["text"]) fun _ _ _ _ _ _ us hl => match us, hl with | [_], _ => rfl
  have k_tree_of := D_tree_of.kp
  have m_tree_of := He.glo_ok X G (c.t.d.fact 15 (f := .glo "tree_of"))
  obtain ⟨d_behind_runs, D_behind_runs⟩ : ∃ fd, FunD K "behind" "behind" (defArgs s_behind_runs) (defBody s_behind_runs) (defScope s_behind_runs) [] [] (He.ga K "behind_runs") fd := c.t.d.def_ 16
  have F_behind_runs := fun_of D_behind_runs
  have b_behind_runs := F_behind_runs.binds (ps := ["code", "names", "waiting"]) fun _ _ _ _ _ _ us hl => match us, hl with | [_, _, _], _ => rfl
  have k_behind_runs := D_behind_runs.kp
  have m_behind_runs := He.glo_ok X G (c.t.d.fact 16 (f := .glo "behind_runs"))
  obtain ⟨d_unfit, D_unfit⟩ : ∃ fd, FunD K "unfit" "unfit" (defArgs s_unfit) (defBody s_unfit) (defScope s_unfit) [] [] (He.ga K "unfit") fd := c.t.d.def_ 17
  have F_unfit := fun_of D_unfit
  have b_unfit := F_unfit.binds (ps := ["head", "must", "knot"]) fun _ _ _ _ _ _ us hl => match us, hl with | [_, _, _], _ => rfl
  have k_unfit := D_unfit.kp
  have m_unfit := He.glo_ok X G (c.t.d.fact 17 (f := .glo "unfit"))
  obtain ⟨d_names_for, D_names_for⟩ : ∃ fd, FunD K "names_for" "names_for" (defArgs s_names_for) (defBody s_names_for) (defScope s_names_for) [] [] (He.ga K "names_for") fd := c.t.d.def_ 18
  have F_names_for := fun_of D_names_for
  have b_names_for := F_names_for.binds (ps := ["tree", "names"]) fun _ _ _ _ _ _ us hl => match us, hl with | [_, _], _ => rfl
  have k_names_for := D_names_for.kp
  have m_names_for := He.glo_ok X G (c.t.d.fact 18 (f := .glo "names_for"))
  obtain ⟨d_reckoned, D_reckoned⟩ : ∃ fd, FunD K "reckoned" "reckoned" (defArgs s_reckoned) (defBody s_reckoned) (defScope s_reckoned) [] [] (He.ga K "reckoned") fd := c.t.d.def_ 19
  have F_reckoned := fun_of D_reckoned
  have b_reckoned := F_reckoned.binds (ps := ["kind", "left", "right", "knot"]) fun _ _ _ _ _ _ us hl => match us, hl with | [_, _, _, _], _ => rfl
  have k_reckoned := D_reckoned.kp
  have m_reckoned := He.glo_ok X G (c.t.d.fact 19 (f := .glo "reckoned"))
  obtain ⟨d_walked, D_walked⟩ : ∃ fd, FunD K "walked" "walked" (defArgs s_walked) (defBody s_walked) (defScope s_walked) [] [] (He.ga K "walked") fd := c.t.d.def_ 20
  have F_walked := fun_of D_walked
  have b_walked := F_walked.binds (ps := ["knot", "term", "names", "gots"]) fun _ _ _ _ _ _ us hl => match us, hl with | [_, _, _, _], _ => rfl
  have k_walked := D_walked.kp
  have m_walked := He.glo_ok X G (c.t.d.fact 20 (f := .glo "walked"))
  obtain ⟨d__law_purse, D__law_purse⟩ : ∃ fd, FunD K "_law_purse" "_law_purse" (defArgs s__law_purse) (defBody s__law_purse) (defScope s__law_purse) [] [] (He.ga K "_law_purse") fd := c.t.d.def_ 21
  have F__law_purse := fun_of D__law_purse
  have b__law_purse := F__law_purse.binds (ps := ["_law_script", "_law_at"]) fun _ _ _ _ _ _ us hl => match us, hl with | [_, _], _ => rfl
  have k__law_purse := D__law_purse.kp
  have m__law_purse := He.glo_ok X G (c.t.d.fact 21 (f := .glo "_law_purse"))
  obtain ⟨d__law_take, D__law_take⟩ : ∃ fd, FunD K "_law_take" "_law_take" (defArgs s__law_take) (defBody s__law_take) (defScope s__law_take) [] [] (He.ga K "_law_take") fd := c.t.d.def_ 22
  have F__law_take := fun_of D__law_take
  have b__law_take := F__law_take.binds (ps := ["_law_purse_here", "_law_many"]) fun _ _ _ _ _ _ us hl => match us, hl with | [_, _], _ => rfl
  have k__law_take := D__law_take.kp
  have m__law_take := He.glo_ok X G (c.t.d.fact 22 (f := .glo "_law_take"))
  obtain ⟨d__law_shown, D__law_shown⟩ : ∃ fd, FunD K "_law_shown" "_law_shown" (defArgs s__law_shown) (defBody s__law_shown) (defScope s__law_shown) [] [] (He.ga K "_law_shown") fd := c.t.d.def_ 23
  have F__law_shown := fun_of D__law_shown
  have b__law_shown := F__law_shown.binds (ps := ["_law_tree"]) fun _ _ _ _ _ _ us hl => match us, hl with | [_], _ => rfl
  have k__law_shown := D__law_shown.kp
  have m__law_shown := He.glo_ok X G (c.t.d.fact 23 (f := .glo "_law_shown"))
  obtain ⟨d__law_put_together, D__law_put_together⟩ : ∃ fd, FunD K "_law_put_together" "_law_put_together" (defArgs s__law_put_together) (defBody s__law_put_together) (defScope s__law_put_together) [] [] (He.ga K "_law_put_together") fd := c.t.d.def_ 24
  have F__law_put_together := fun_of D__law_put_together
  have b__law_put_together := F__law_put_together.binds (ps := ["_law_purse_here", "_law_leaves"]) fun _ _ _ _ _ _ us hl => match us, hl with | [_, _], _ => rfl
  have k__law_put_together := D__law_put_together.kp
  have m__law_put_together := He.glo_ok X G (c.t.d.fact 24 (f := .glo "_law_put_together"))
  obtain ⟨d__law_walked_over, D__law_walked_over⟩ : ∃ fd, FunD K "_law_walked_over" "_law_walked_over" (defArgs s__law_walked_over) (defBody s__law_walked_over) (defScope s__law_walked_over) [] [] (He.ga K "_law_walked_over") fd := c.t.d.def_ 25
  have F__law_walked_over := fun_of D__law_walked_over
  have b__law_walked_over := F__law_walked_over.binds (ps := ["_law_tree"]) fun _ _ _ _ _ _ us hl => match us, hl with | [_], _ => rfl
  have k__law_walked_over := D__law_walked_over.kp
  have m__law_walked_over := He.glo_ok X G (c.t.d.fact 25 (f := .glo "_law_walked_over"))
  obtain ⟨d__law_leaf, D__law_leaf⟩ : ∃ fd, FunD K "_law_leaf" "_law_leaf" (defArgs s__law_leaf) (defBody s__law_leaf) (defScope s__law_leaf) [] [] (He.ga K "_law_leaf") fd := c.t.d.def_ 26
  have F__law_leaf := fun_of D__law_leaf
  have b__law_leaf := F__law_leaf.binds (ps := ["_law_purse_here"]) fun _ _ _ _ _ _ us hl => match us, hl with | [_], _ => rfl
  have k__law_leaf := D__law_leaf.kp
  have m__law_leaf := He.glo_ok X G (c.t.d.fact 26 (f := .glo "_law_leaf"))
  obtain ⟨d__law_right, D__law_right⟩ : ∃ fd, FunD K "_law_right" "_law_right" (defArgs s__law_right) (defBody s__law_right) (defScope s__law_right) [] [] (He.ga K "_law_right") fd := c.t.d.def_ 27
  have F__law_right := fun_of D__law_right
  have b__law_right := F__law_right.binds (ps := ["_law_purse_here"]) fun _ _ _ _ _ _ us hl => match us, hl with | [_], _ => rfl
  have k__law_right := D__law_right.kp
  have m__law_right := He.glo_ok X G (c.t.d.fact 27 (f := .glo "_law_right"))
  obtain ⟨d_law, D_law⟩ : ∃ fd, FunD K "law" "law" (defArgs s_law) (defBody s_law) (defScope s_law) [] [] (He.ga K "law") fd := c.t.d.def_ 28
  have F_law := fun_of D_law
  have b_law := F_law.binds (ps := ["_law_script"]) fun _ _ _ _ _ _ us hl => match us, hl with | [_], _ => rfl
  have k_law := D_law.kp
  have m_law := He.glo_ok X G (c.t.d.fact 28 (f := .glo "law"))
  obtain ⟨d_Tree___init__, D_Tree___init__⟩ : ∃ fd, FunD K "__init__" "Tree.__init__" (defArgs s_Tree___init__) (defBody s_Tree___init__) (defScope s_Tree___init__) [] [] (He.ma K (He.ga K "Tree") "__init__") fd := c.t.d.def_ 29
  have F_Tree___init__ := fun_of D_Tree___init__
  have b_Tree___init__ := F_Tree___init__.binds (ps := ["self", "text", "kind", "small", "within"]) fun _ _ _ _ _ _ us hl => match us, hl with | [_, _, _, _, _], _ => rfl
  have k_Tree___init__ := D_Tree___init__.kp
  obtain ⟨d_Term___init__, D_Term___init__⟩ : ∃ fd, FunD K "__init__" "Term.__init__" (defArgs s_Term___init__) (defBody s_Term___init__) (defScope s_Term___init__) [] [] (He.ma K (He.ga K "Term") "__init__") fd := c.t.d.def_ 30
  have F_Term___init__ := fun_of D_Term___init__
  have b_Term___init__ := F_Term___init__.binds (ps := ["self", "text"]) fun _ _ _ _ _ _ us hl => match us, hl with | [_, _], _ => rfl
  have k_Term___init__ := D_Term___init__.kp
  obtain ⟨d_Term_tree, D_Term_tree⟩ : ∃ fd, FunD K "tree" "Term.tree" (defArgs s_Term_tree) (defBody s_Term_tree) (defScope s_Term_tree) [] [] (He.ma K (He.ga K "Term") "tree") fd := c.t.d.def_ 31
  have F_Term_tree := fun_of D_Term_tree
  have b_Term_tree := F_Term_tree.binds (ps := ["self"]) fun _ _ _ _ _ _ us hl => match us, hl with | [_], _ => rfl
  have k_Term_tree := D_Term_tree.kp
  obtain ⟨d_Walking___init__, D_Walking___init__⟩ : ∃ fd, FunD K "__init__" "Walking.__init__" (defArgs s_Walking___init__) (defBody s_Walking___init__) (defScope s_Walking___init__) [] [] (He.ma K (He.ga K "Walking") "__init__") fd := c.t.d.def_ 32
  have F_Walking___init__ := fun_of D_Walking___init__
  have b_Walking___init__ := F_Walking___init__.binds (ps := ["self", "knot", "sense", "senses"]) fun _ _ _ _ _ _ us hl => match us, hl with | [_, _, _, _], _ => rfl
  have k_Walking___init__ := D_Walking___init__.kp
  obtain ⟨d_Walking_make, D_Walking_make⟩ : ∃ fd, FunD K "make" "Walking.make" (defArgs s_Walking_make) (defBody s_Walking_make) (defScope s_Walking_make) [] [] (He.ma K (He.ga K "Walking") "make") fd := c.t.d.def_ 33
  have F_Walking_make := fun_of D_Walking_make
  have b_Walking_make := F_Walking_make.binds (ps := ["self", "tree", "names"]) fun _ _ _ _ _ _ us hl => match us, hl with | [_, _, _], _ => rfl
  have k_Walking_make := D_Walking_make.kp
  obtain ⟨d_Walking_take, D_Walking_take⟩ : ∃ fd, FunD K "take" "Walking.take" (defArgs s_Walking_take) (defBody s_Walking_take) (defScope s_Walking_take) [] [] (He.ma K (He.ga K "Walking") "take") fd := c.t.d.def_ 34
  have F_Walking_take := fun_of D_Walking_take
  have b_Walking_take := F_Walking_take.binds (ps := ["self", "got"]) fun _ _ _ _ _ _ us hl => match us, hl with | [_, _], _ => rfl
  have k_Walking_take := D_Walking_take.kp
  obtain ⟨d_Run___init__, D_Run___init__⟩ : ∃ fd, FunD K "__init__" "Run.__init__" (defArgs s_Run___init__) (defBody s_Run___init__) (defScope s_Run___init__) [] [] (He.ma K (He.ga K "Run") "__init__") fd := c.t.d.def_ 35
  have F_Run___init__ := fun_of D_Run___init__
  have b_Run___init__ := F_Run___init__.binds (ps := ["self", "most", "known", "bodies"]) fun _ _ _ _ _ _ us hl => match us, hl with | [_, _, _, _], _ => rfl
  have k_Run___init__ := D_Run___init__.kp
  obtain ⟨d_Run_go, D_Run_go⟩ : ∃ fd, FunD K "go" "Run.go" (defArgs s_Run_go) (defBody s_Run_go) (defScope s_Run_go) [] [] (He.ma K (He.ga K "Run") "go") fd := c.t.d.def_ 36
  have F_Run_go := fun_of D_Run_go
  have b_Run_go := F_Run_go.binds (ps := ["self", "walk"]) fun _ _ _ _ _ _ us hl => match us, hl with | [_, _], _ => rfl
  have k_Run_go := D_Run_go.kp
  obtain ⟨d_Run__do, D_Run__do⟩ : ∃ fd, FunD K "_do" "Run._do" (defArgs s_Run__do) (defBody s_Run__do) (defScope s_Run__do) [] [] (He.ma K (He.ga K "Run") "_do") fd := c.t.d.def_ 37
  have F_Run__do := fun_of D_Run__do
  have b_Run__do := F_Run__do.binds (ps := ["self", "walk"]) fun _ _ _ _ _ _ us hl => match us, hl with | [_, _], _ => rfl
  have k_Run__do := D_Run__do.kp
  obtain ⟨d_Run__form, D_Run__form⟩ : ∃ fd, FunD K "_form" "Run._form" (defArgs s_Run__form) (defBody s_Run__form) (defScope s_Run__form) [] [] (He.ma K (He.ga K "Run") "_form") fd := c.t.d.def_ 38
  have F_Run__form := fun_of D_Run__form
  have b_Run__form := F_Run__form.binds (ps := ["self", "walk", "tree", "code", "names", "waiting"]) fun _ _ _ _ _ _ us hl => match us, hl with | [_, _, _, _, _, _], _ => rfl
  have k_Run__form := D_Run__form.kp
  obtain ⟨d_Run__call, D_Run__call⟩ : ∃ fd, FunD K "_call" "Run._call" (defArgs s_Run__call) (defBody s_Run__call) (defScope s_Run__call) [] [] (He.ma K (He.ga K "Run") "_call") fd := c.t.d.def_ 39
  have F_Run__call := fun_of D_Run__call
  have b_Run__call := F_Run__call.binds (ps := ["self", "walk", "tree", "head", "code", "names", "waiting"]) fun _ _ _ _ _ _ us hl => match us, hl with | [_, _, _, _, _, _, _], _ => rfl
  have k_Run__call := D_Run__call.kp
  obtain ⟨d_Walk___init__, D_Walk___init__⟩ : ∃ fd, FunD K "__init__" "Walk.__init__" (defArgs s_Walk___init__) (defBody s_Walk___init__) (defScope s_Walk___init__) [] [] (He.ma K (He.ga K "Walk") "__init__") fd := c.t.d.def_ 40
  have F_Walk___init__ := fun_of D_Walk___init__
  have b_Walk___init__ := F_Walk___init__.binds (ps := ["self", "needs", "steps", "made", "end"]) fun _ _ _ _ _ _ us hl => match us, hl with | [_, _, _, _, _], _ => rfl
  have k_Walk___init__ := D_Walk___init__.kp
  obtain ⟨d_Told___init__, D_Told___init__⟩ : ∃ fd, FunD K "__init__" "Told.__init__" (defArgs s_Told___init__) (defBody s_Told___init__) (defScope s_Told___init__) [] [] (He.ma K (He.ga K "Told") "__init__") fd := c.t.d.def_ 41
  have F_Told___init__ := fun_of D_Told___init__
  have b_Told___init__ := F_Told___init__.binds (ps := ["self", "knot", "senses", "gots", "bodies"]) fun _ _ _ _ _ _ us hl => match us, hl with | [_, _, _, _, _], _ => rfl
  have k_Told___init__ := D_Told___init__.kp
  obtain ⟨d_Told_follow, D_Told_follow⟩ : ∃ fd, FunD K "follow" "Told.follow" (defArgs s_Told_follow) (defBody s_Told_follow) (defScope s_Told_follow) [] [] (He.ma K (He.ga K "Told") "follow") fd := c.t.d.def_ 42
  have F_Told_follow := fun_of D_Told_follow
  have b_Told_follow := F_Told_follow.binds (ps := ["self", "walk"]) fun _ _ _ _ _ _ us hl => match us, hl with | [_, _], _ => rfl
  have k_Told_follow := D_Told_follow.kp
  have T0 : TxtB K mg := ⟨He.free_ok X G (c.t.d.fact 29 (f := .free "abs")), He.free_ok X G (c.t.d.fact 30 (f := .free "any")), He.free_ok X G (c.t.d.fact 31 (f := .free "dict")), He.free_ok X G (c.t.d.fact 32 (f := .free "enumerate")), He.free_ok X G (c.t.d.fact 33 (f := .free "int")), He.free_ok X G (c.t.d.fact 34 (f := .free "isinstance")), He.free_ok X G (c.t.d.fact 35 (f := .free "len")), He.free_ok X G (c.t.d.fact 36 (f := .free "list")), He.free_ok X G (c.t.d.fact 37 (f := .free "max")), He.free_ok X G (c.t.d.fact 38 (f := .free "min")), He.free_ok X G (c.t.d.fact 39 (f := .free "range")), He.free_ok X G (c.t.d.fact 40 (f := .free "set")), He.free_ok X G (c.t.d.fact 41 (f := .free "sorted")), He.free_ok X G (c.t.d.fact 42 (f := .free "str")), He.free_ok X G (c.t.d.fact 43 (f := .free "sum")), He.free_ok X G (c.t.d.fact 44 (f := .free "tuple")), He.int_ok X G (c.t.d.fact 45 (f := .int "CALL" 7)), He.str_ok X G (c.t.d.fact 46 (f := .str "CLOSE" (Str.ofString ")"))), He.int_ok X G (c.t.d.fact 47 (f := .int "END" 3)), He.str_ok X G (c.t.d.fact 48 (f := .str "FIGURES" (Str.ofString "0123456789"))), He.str_ok X G (c.t.d.fact 49 (f := .str "FIRST_FIGURES" (Str.ofString "123456789"))), He.int_ok X G (c.t.d.fact 50 (f := .int "FORM" 2)), He.str_ok X G (c.t.d.fact 51 (f := .str "GREAT" (Str.ofString "ABCDEFGHIJKLMNOPQRSTUVWXYZ"))), He.int_ok X G (c.t.d.fact 52 (f := .int "GREATEST" 1000000000000)), He.int_ok X G (c.t.d.fact 53 (f := .int "HALF" 8)), He.int_ok X G (c.t.d.fact 54 (f := .int "HEAD" 0)), He.int_ok X G (c.t.d.fact 55 (f := .int "IF" 4)), He.int_ok X G (c.t.d.fact 56 (f := .int "LEFT" 5)), He.int_ok X G (c.t.d.fact 57 (f := .int "MOST_FIGURES" 12)), He.int_ok X G (c.t.d.fact 58 (f := .int "MOST_GREAT" 6)), He.int_ok X G (c.t.d.fact 59 (f := .int "MOST_OPEN" 30)), He.int_ok X G (c.t.d.fact 60 (f := .int "MOST_SMALL" 4)), He.int_ok X G (c.t.d.fact 61 (f := .int "MOST_TERMS" 200)), He.int_ok X G (c.t.d.fact 62 (f := .int "NEED" 1)), He.int_ok X G (c.t.d.fact 63 (f := .int "NO_MOST" 1000000000000000)), He.int_ok X G (c.t.d.fact 64 (f := .int "RIGHT" 6)), He.str_ok X G (c.t.d.fact 65 (f := .str "SMALL" (Str.ofString "abcdefghijklmnopqrstuvwxyz")))⟩
  have e := hfa.symm.trans m_law
  cases e
  refine ⟨d_law, fun s v => (FunD.bindsA (ps := ["_law_script"]) D_law fun _ _ _ _ _ _ us hl => match us, hl with | [_], _ => rfl) s [v] rfl, fun base _ _ => ?_⟩
  obtain ⟨esW, nW, tW⟩ := c.t.tab 0 (t := tabW)
  have T : Txt K mg w (He.ga K "WORDS") (He.ga K "BINDERS") esW nW := ⟨T0, He.glo_ok X G (c.t.d.fact 66 (f := .glo "WORDS")), ktab_of tW (ex_at c.more 0 (b := wordsB K (He.ga K "WORDS") wkv) rfl) wkv_nd, He.glo_ok X G (c.t.d.fact 67 (f := .glo "BINDERS")), fun H => tupA_ok (ex_at c.more 1 (b := tupA K (He.ga K "BINDERS") [V.str (Str.ofString "let"), V.str (Str.ofString "def")]) rfl) H⟩
  have mgTree := He.glo_ok X G (c.t.d.fact 68 (f := .glo "Tree"))
  have mgTerm := He.glo_ok X G (c.t.d.fact 69 (f := .glo "Term"))
  have clTree : TreeC K (He.ga K "Tree") := ⟨He.cls_ok (c.t.d.fact 70 (f := .cls "Tree")), He.noat_ok (c.t.d.fact 71 (f := .noat "Tree" "text")), He.noat_ok (c.t.d.fact 72 (f := .noat "Tree" "kind")), He.noat_ok (c.t.d.fact 73 (f := .noat "Tree" "small")), He.noat_ok (c.t.d.fact 74 (f := .noat "Tree" "within")), He.noat_ok (c.t.d.fact 75 (f := .noat "Tree" "free")), He.noat_ok (c.t.d.fact 76 (f := .noat "Tree" "code"))⟩
  have clTerm : TermC K (He.ga K "Term") := ⟨He.cls_ok (c.t.d.fact 77 (f := .cls "Term")), He.noat_ok (c.t.d.fact 78 (f := .noat "Term" "_tree")), He.noat_ok (c.t.d.fact 79 (f := .noat "Term" "_text")), He.noat_ok (c.t.d.fact 80 (f := .noat "Term" "_trees"))⟩
  have mTree := He.mkr_ok (c.t.d.fact 81 (f := .mkr "Tree"))
  have mTerm := He.mkr_ok (c.t.d.fact 82 (f := .mkr "Term"))
  have h_run_end : Has P w K mg base "run_end" 1 ["text", "at", "signs", "most"] spRunEnd _ _ := ⟨m_run_end, k_run_end, b_run_end, ok_run_end T F_run_end⟩
  have h_behind : Has P w K mg base "behind_trees" 1 ["text", "at", "sign"] spBehind _ _ := ⟨m_behind, k_behind, b_behind, ok_behind T F_behind⟩
  have h_number_end : Has P w K mg base "number_end" 2 ["text", "at"] spNumEnd _ _ := ⟨m_number_end, k_number_end, b_number_end, ok_number_end T F_number_end h_run_end⟩
  have h_small_end : Has P w K mg base "small_end" 2 ["text", "at"] spSmallEnd _ _ := ⟨m_small_end, k_small_end, b_small_end, ok_small_end T F_small_end h_run_end⟩
  have h_word_end : Has P w K mg base "word_end" 1 ["text", "at"] spWordEnd _ _ := ⟨m_word_end, k_word_end, b_word_end, ok_word_end T F_word_end⟩
  have h_bracket_at : Has P w K mg base "bracket_at" 3 ["text", "at"] spBracket _ _ := ⟨m_bracket_at, k_bracket_at, b_bracket_at, ok_bracket_at T F_bracket_at h_word_end h_behind h_small_end⟩
  have h_piece_at : Has P w K mg base "piece_at" 4 ["text", "at"] spPiece _ _ := ⟨m_piece_at, k_piece_at, b_piece_at, ok_piece_at T F_piece_at h_bracket_at h_run_end h_number_end⟩
  have h_pieces_of : Has P w K mg base "pieces_of" 5 ["text"] spPieces _ _ := ⟨m_pieces_of, k_pieces_of, b_pieces_of, ok_pieces_of T F_pieces_of h_piece_at h_behind⟩
  have h_check_size : Has P w K mg base "check_size" 1 ["pieces"] spCheck _ _ := ⟨m_check_size, k_check_size, b_check_size, ok_check_size T F_check_size⟩
  have h_free_in : Has P w K mg base "free_in" 1 ["tree"] (spFreeIn (He.ga K "Tree")) _ _ := ⟨m_free_in, k_free_in, b_free_in, ok_free_in T F_free_in clTree⟩
  have m_Tree : HasC P w K mg base "Tree" (He.ga K "Tree") 2 ["self", "text", "kind", "small", "within"] (spTreeInit (He.ga K "Tree")) _ _ := ⟨mgTree, mTree, b_Tree___init__, ok_Tree_init T F_Tree___init__ clTree h_free_in⟩
  have h_built : Has P w K mg base "built" 4 ["text", "pieces"] (spBuilt (He.ga K "Tree")) _ _ := ⟨m_built, k_built, b_built, ok_built T F_built clTree m_Tree⟩
  have h_tree_of : Has P w K mg base "tree_of" 6 ["text"] (spTreeOf (He.ga K "Tree")) _ _ := ⟨m_tree_of, k_tree_of, b_tree_of, ok_tree_of T F_tree_of h_pieces_of h_check_size h_built⟩
  have h_all_trees : Has P w K mg base "all_trees" 1 ["tree"] (spAll (He.ga K "Tree")) _ _ := ⟨m_all_trees, k_all_trees, b_all_trees, ok_all_trees T F_all_trees clTree⟩
  have m_Term : HasC P w K mg base "Term" (He.ga K "Term") 7 ["self", "text"] (spTermInit (He.ga K "Term") (He.ga K "Tree")) _ _ := ⟨mgTerm, mTerm, b_Term___init__, ok_Term_init T F_Term___init__ clTerm h_tree_of h_all_trees⟩
  have N : Runs K mg (He.ga K "NO_HEADS") := ⟨⟨He.int_ok X G (c.t.d.fact 54 (f := .int "HEAD" 0)), He.int_ok X G (c.t.d.fact 62 (f := .int "NEED" 1)), He.int_ok X G (c.t.d.fact 50 (f := .int "FORM" 2)), He.int_ok X G (c.t.d.fact 47 (f := .int "END" 3)), He.int_ok X G (c.t.d.fact 55 (f := .int "IF" 4)), He.int_ok X G (c.t.d.fact 56 (f := .int "LEFT" 5)), He.int_ok X G (c.t.d.fact 64 (f := .int "RIGHT" 6)), He.int_ok X G (c.t.d.fact 45 (f := .int "CALL" 7)), He.int_ok X G (c.t.d.fact 53 (f := .int "HALF" 8))⟩,
    He.glo_ok X G (c.t.d.fact 83 (f := .glo "NO_HEADS")), fun H => tupA_ok (ex_at c.more 2 (b := tupA K (He.ga K "NO_HEADS") [V.str (Str.ofString "fault"), V.str (Str.ofString "ring"), V.str (Str.ofString "waits")]) rfl) H, He.int_ok X G (c.t.d.fact 52 (f := .int "GREATEST" 1000000000000))⟩
  have mgWalking := He.glo_ok X G (c.t.d.fact 84 (f := .glo "Walking"))
  have mgRun := He.glo_ok X G (c.t.d.fact 85 (f := .glo "Run"))
  have mgWalk := He.glo_ok X G (c.t.d.fact 86 (f := .glo "Walk"))
  have mgTold := He.glo_ok X G (c.t.d.fact 87 (f := .glo "Told"))
  have clWalking : WalkC K (He.ga K "Walking") := ⟨He.cls_ok (c.t.d.fact 88 (f := .cls "Walking")), He.noat_ok (c.t.d.fact 89 (f := .noat "Walking" "knot")), He.noat_ok (c.t.d.fact 90 (f := .noat "Walking" "senses")), He.noat_ok (c.t.d.fact 91 (f := .noat "Walking" "place")), He.noat_ok (c.t.d.fact 92 (f := .noat "Walking" "head")), He.noat_ok (c.t.d.fact 93 (f := .noat "Walking" "need")), He.noat_ok (c.t.d.fact 94 (f := .noat "Walking" "steps")), He.noat_ok (c.t.d.fact 95 (f := .noat "Walking" "made")), He.noat_ok (c.t.d.fact 96 (f := .noat "Walking" "end"))⟩
  have clWalk : SeenC K (He.ga K "Walk") := ⟨He.cls_ok (c.t.d.fact 97 (f := .cls "Walk")), He.noat_ok (c.t.d.fact 98 (f := .noat "Walk" "needs")), He.noat_ok (c.t.d.fact 99 (f := .noat "Walk" "steps")), He.noat_ok (c.t.d.fact 100 (f := .noat "Walk" "made")), He.noat_ok (c.t.d.fact 101 (f := .noat "Walk" "end"))⟩
  have clTold : ToldC K (He.ga K "Told") := ⟨⟨He.cls_ok (c.t.d.fact 102 (f := .cls "Told")), He.noat_ok (c.t.d.fact 103 (f := .noat "Told" "most")), He.noat_ok (c.t.d.fact 104 (f := .noat "Told" "known")), He.noat_ok (c.t.d.fact 105 (f := .noat "Told" "bodies")), He.noat_ok (c.t.d.fact 106 (f := .noat "Told" "steps"))⟩, He.noat_ok (c.t.d.fact 107 (f := .noat "Told" "needs")), He.noat_ok (c.t.d.fact 108 (f := .noat "Told" "_gots")), He.noat_ok (c.t.d.fact 109 (f := .noat "Told" "walk"))⟩
  have mWalking := He.mkr_ok (c.t.d.fact 110 (f := .mkr "Walking"))
  have mWalk := He.mkr_ok (c.t.d.fact 111 (f := .mkr "Walk"))
  have mTold := He.mkr_ok (c.t.d.fact 112 (f := .mkr "Told"))
  have sRun := supB_ok (ex_at c.more 3 (b := supB K (He.ga K "Run") (He.ma K (He.ga K "Run") "__init__") "__init__") rfl)
  have meTr := He.meth_ok (c.t.d.fact 113 (f := .meth "Term" "tree"))
  have meTk := He.meth_ok (c.t.d.fact 114 (f := .meth "Walking" "take"))
  have meFo := He.meth_ok (c.t.d.fact 115 (f := .meth "Told" "follow"))
  have meGo := He.meth_ok (c.t.d.fact 116 (f := .meth "Told" "go"))
  have meDo := He.meth_ok (c.t.d.fact 117 (f := .meth "Told" "_do"))
  have meFm := He.meth_ok (c.t.d.fact 118 (f := .meth "Told" "_form"))
  have meCa := He.meth_ok (c.t.d.fact 119 (f := .meth "Told" "_call"))
  have eGo := of_decide_eq_true (ex_at c.more 4 (b := decide (He.ma K (He.ga K "Told") "go" = He.ma K (He.ga K "Run") "go")) rfl)
  have eDo := of_decide_eq_true (ex_at c.more 5 (b := decide (He.ma K (He.ga K "Told") "_do" = He.ma K (He.ga K "Run") "_do")) rfl)
  have eFm := of_decide_eq_true (ex_at c.more 6 (b := decide (He.ma K (He.ga K "Told") "_form" = He.ma K (He.ga K "Run") "_form")) rfl)
  have eCa := of_decide_eq_true (ex_at c.more 7 (b := decide (He.ma K (He.ga K "Told") "_call" = He.ma K (He.ga K "Run") "_call")) rfl)
  rw [eGo] at meGo
  rw [eDo] at meDo
  rw [eFm] at meFm
  rw [eCa] at meCa
  have h_last_code : Has P w K mg base "last_code" 1 [] spLastCode _ _ := ⟨m_last_code, k_last_code, b_last_code, ok_last_code T N.toDeeds F_last_code⟩
  have h_coded : Has P w K mg base "coded" 32 ["tree", "begun", "then"] (spCodeds (He.ga K "Tree")) _ _ := ⟨m_coded, k_coded, b_coded, ok_coded T N.toDeeds F_coded clTree m_coded k_coded b_coded⟩
  have h_code_of : Has P w K mg base "code_of" 33 ["tree"] (spCodeOf (He.ga K "Tree")) _ _ := ⟨m_code_of, k_code_of, b_code_of, ok_code_of T N.toDeeds F_code_of clTree h_coded h_last_code⟩
  have h_unfit : Has P w K mg base "unfit" 1 ["head", "must", "knot"] spUnfit _ _ := ⟨m_unfit, k_unfit, b_unfit, ok_unfit T N F_unfit⟩
  have h_reckoned : Has P w K mg base "reckoned" 1 ["kind", "left", "right", "knot"] spReckoned _ _ := ⟨m_reckoned, k_reckoned, b_reckoned, ok_reckoned T N F_reckoned⟩
  have h_names_for : Has P w K mg base "names_for" 1 ["tree", "names"] (spNamesFor (He.ga K "Tree")) _ _ := ⟨m_names_for, k_names_for, b_names_for, ok_names_for T N F_names_for clTree⟩
  have nCR : (He.ga K "Told") ≠ (He.ga K "Tree") := of_decide_eq_true (ex_at c.more 8 (b := decide (He.ga K "Told" ≠ He.ga K "Tree")) rfl)
  have nCW : (He.ga K "Walking") ≠ (He.ga K "Tree") := of_decide_eq_true (ex_at c.more 9 (b := decide (He.ga K "Walking" ≠ He.ga K "Tree")) rfl)
  have meMk := He.meth_ok (c.t.d.fact 120 (f := .meth "Walking" "make"))
  have h_behind_runs : Has P w K mg base "behind_runs" 1 ["code", "names", "waiting"] spBehindR _ _ := ⟨m_behind_runs, k_behind_runs, b_behind_runs, ok_behind_runs T N F_behind_runs⟩
  have hMk : HasW P w K mg base (He.ga K "Walking") "make" 1 ["self", "tree", "names"] (spMakeM (He.ga K "Tree") (He.ga K "Walking")) _ _ := ⟨meMk, b_Walking_make, ok_make_M T N F_Walking_make clWalking⟩
  have hFm : HasW P w K mg base (He.ga K "Told") "_form" 34 ["self", "walk", "tree", "code", "names", "waiting"] (spFormG (He.ga K "Tree") (He.ga K "Walking") (He.ga K "Told")) _ _ := ⟨meFm, b_Run__form, ok_Run_formG T N F_Run__form clTree clWalking clTold.toRunC hMk h_code_of h_names_for h_behind_runs⟩
  have hCa : HasW P w K mg base (He.ga K "Told") "_call" 34 ["self", "walk", "tree", "head", "code", "names", "waiting"] (spCallG (He.ga K "Tree") (He.ga K "Walking") (He.ga K "Told")) _ _ := ⟨meCa, b_Run__call, ok_Run_callG T N F_Run__call clTree clWalking clTold.toRunC hMk h_code_of h_tree_of h_behind_runs⟩
  have hDo : HasW P w K mg base (He.ga K "Told") "_do" 35 ["self", "walk"] (spDoG (He.ga K "Tree") (He.ga K "Walking") (He.ga K "Told")) _ _ := ⟨meDo, b_Run__do, ok_Run_doG T N F_Run__do clWalking clTold.toRunC hFm hCa h_last_code h_unfit h_reckoned⟩
  have hTk : HasW P w K mg base (He.ga K "Walking") "take" 1 ["self", "got"] (spTakeG (He.ga K "Walking")) _ _ := ⟨meTk, b_Walking_take, ok_Walking_takeG T N F_Walking_take clWalking⟩
  have hFo : HasW P w K mg base (He.ga K "Told") "follow" 2 ["self", "walk"] (spFollowG (He.ga K "Walking") (He.ga K "Told")) _ _ := ⟨meFo, b_Told_follow, ok_Told_followG T N F_Told_follow clWalking clTold hTk⟩
  have hGo : HasW P w K mg base (He.ga K "Told") "go" 36 ["self", "walk"] (spGoG (He.ga K "Tree") (He.ga K "Walking") (He.ga K "Told")) _ _ := ⟨meGo, b_Run_go, ok_Run_goG T N F_Run_go clWalking clTold.toRunC hDo hFo⟩
  have m_Walking : HasC P w K mg base "Walking" (He.ga K "Walking") 34 ["self", "knot", "sense", "senses"] (spWalkInitG (He.ga K "Tree") (He.ga K "Walking")) _ _ := ⟨mgWalking, mWalking, b_Walking___init__, ok_Walking_initG T N F_Walking___init__ clWalking h_code_of⟩
  have m_Walk : HasC P w K mg base "Walk" (He.ga K "Walk") 1 ["self", "needs", "steps", "made", "end"] (spSeenInit (He.ga K "Walk")) _ _ := ⟨mgWalk, mWalk, b_Walk___init__, ok_Walk_init T N F_Walk___init__ clWalk⟩
  have m_Told : HasC P w K mg base "Told" (He.ga K "Told") 37 ["self", "knot", "senses", "gots", "bodies"] (spToldInitG (He.ga K "Tree") (He.ga K "Told") (He.ga K "Walking")) _ _ := ⟨mgTold, mTold, b_Told___init__, ok_Told_initG T N F_Told___init__ clWalking clTold mgRun sRun (ok_Run_init T N F_Run___init__) b_Run___init__ m_Walking hGo⟩
  have hTr : HasW P w K mg base (He.ga K "Term") "tree" 1 ["self"] (spTermTree (He.ga K "Term")) _ _ := ⟨meTr, b_Term_tree, ok_Term_tree T N F_Term_tree clTerm⟩
  have h_walked : Has P w K mg base "walked" 39 ["knot", "term", "names", "gots"] (spWalkedG (He.ga K "Tree") (He.ga K "Term") (He.ga K "Walk")) _ _ := ⟨m_walked, k_walked, b_walked, ok_walkedG T N F_walked nCR nCW clTree clTerm clWalking clTold hTr m_Told m_Walk h_names_for⟩
  have h__law_purse : Has P w K mg base "_law_purse" 1 ["_law_script", "_law_at"] (spPurse2 K) _ _ := ⟨m__law_purse, k__law_purse, b__law_purse, ok__law_purse2 T F__law_purse⟩
  have h__law_take : Has P w K mg base "_law_take" 1 ["_law_purse_here", "_law_many"] spTake2 _ _ := ⟨m__law_take, k__law_take, b__law_take, ok__law_take2 T F__law_take⟩
  have h__law_shown : Has P w K mg base "_law_shown" 12 ["_law_tree"] (spShownT 12) _ _ := ⟨m__law_shown, k__law_shown, b__law_shown, ok__law_shownT T N F__law_shown m__law_shown k__law_shown b__law_shown 12⟩
  have h__law_leaf : Has P w K mg base "_law_leaf" 2 ["_law_purse_here"] spLeaf _ _ := ⟨m__law_leaf, k__law_leaf, b__law_leaf, ok__law_leaf T N F__law_leaf h__law_take⟩
  have h__law_put_together : Has P w K mg base "_law_put_together" 2 ["_law_purse_here", "_law_leaves"] (spTog K) _ _ := ⟨m__law_put_together, k__law_put_together, b__law_put_together, ok__law_put_together T N F__law_put_together h__law_take⟩
  have h__law_walked_over : Has P w K mg base "_law_walked_over" 12 ["_law_tree"] (spOver 12) _ _ := ⟨m__law_walked_over, k__law_walked_over, b__law_walked_over, ok__law_walked_over T N F__law_walked_over m__law_walked_over k__law_walked_over b__law_walked_over 12⟩
  have h__law_right : Has P w K mg base "_law_right" 40 ["_law_purse_here"] (spRight10 (He.ga K "Tree")) _ _ := ⟨m__law_right, k__law_right, b__law_right, ok__law_right T N F__law_right clWalk h__law_take h__law_leaf h__law_put_together h__law_walked_over h__law_shown m_Term h_walked⟩
  exact ok_law T N F_law h__law_purse h__law_right
end K


set_option Elab.async false
set_option linter.all false
set_option maxRecDepth 100000
set_option maxHeartbeats 0
namespace K
open PySem PySem.Spec PyProof.Rows L2 U
abbrev R : PySem.W.OpenRow := PySem.W.OpenLaw.row PySem.Challenge.rw_unwritparts_k10_walks_that_need
abbrev hk : PySem.W.Hook := hookZ fa fn [tabW] ex
def ob (s : PySem.W.SharedT) : AlZ := obsZ fa fn [tabW] ex (HandSHeadRun.getT s)
theorem ob_eq (s : PySem.W.SharedT) : ob s = hk.obs s.abs := obsZ_eq (HandSHeadRun.getT_eq s)
def loose : List Str := (["_wall", "HEAD", "NEED", "FORM", "END", "IF", "LEFT", "RIGHT", "CALL", "HALF", "code_of", "last_code", "coded", "NoTerm", "TooMuch", "WORDS", "BINDERS", "SMALL", "GREAT", "FIGURES", "FIRST_FIGURES", "MOST_SMALL", "MOST_GREAT", "MOST_FIGURES", "MOST_OPEN", "MOST_TERMS", "CLOSE", "Tree", "free_in", "all_trees"] : List PySem.Str) ++ (["run_end", "behind", "behind_trees", "number_end", "word_end", "small_end", "bracket_at", "piece_at", "pieces_of", "check_size", "built", "tree_of", "GREATEST", "NO_HEADS", "Walking", "Run", "behind_runs", "unfit", "names_for", "reckoned", "NO_MOST", "Walk", "Told", "walked", "Term", "_law_purse", "_law_take", "_law_shown", "_law_put_together", "_law_walked_over"] : List PySem.Str) ++ (["_law_leaf", "_law_right"] : List PySem.Str)
theorem runF (w : World) : HandSHeadRun.RunEq R (PySem.W.view R.prog [70]) hk ob 12000 loose (w.withFollow "special-get-raises" false) := by
  intro os
  kernel_rfl
theorem runT (w : World) : HandSHeadRun.RunEq R (PySem.W.view R.prog [70]) hk ob 12000 loose (w.withFollow "special-get-raises" true) := by
  intro os
  kernel_rfl
theorem run (w : World) : HandSHeadRun.RunEq R (PySem.W.view R.prog [70]) hk ob 12000 loose w :=
  PySem.W.byRow2 "special-get-raises" (P := fun w => HandSHeadRun.RunEq R (PySem.W.view R.prog [70]) hk ob 12000 loose w) runF runT w
end K


set_option Elab.async false
set_option linter.all false
set_option maxRecDepth 100000
set_option maxHeartbeats 4000000
open PySem PySem.W PyProof.Rows
set_option maxHeartbeats 0 in
theorem PySem.Challenge.cw_unwritparts_k10_walks_that_need_holds : PySem.Challenge.rw_unwritparts_k10_walks_that_need.Holds := by
  w_on; o_law
  refine HandSHeadRun.head_any (r := OpenLaw.row PySem.Challenge.rw_unwritparts_k10_walks_that_need) (q := view (OpenLaw.row PySem.Challenge.rw_unwritparts_k10_walks_that_need).prog [70]) (H := K.hk) (ob := K.ob) (M := 12000) (loose := K.loose) (d := HandSHeadRun.topDef (OpenLaw.row PySem.Challenge.rw_unwritparts_k10_walks_that_need).prog 70) (kwd := []) K.ob_eq
    (by kernel_rfl) (fun s => by kernel_rfl) K.run (by kernel_rfl) (by kernel_rfl) (by kernel_rfl) (by rfl) (by first | assumption | decide +kernel) (by decide +kernel) ⟨rfl, rfl, rfl, rfl, rfl, by decide +kernel⟩ ?hw ?hc
  case hw => w_witness2
  case hc =>
    refine L2.walk_ofE (l := PySem.Challenge.rw_unwritparts_k10_walks_that_need) (n := 63) (k := 41) (x := "_law_script") (CX := L2.CX0) rfl (by decide) (by kernel_rfl) ⟨rfl, by decide, by decide⟩ ?F (fun _ _ _ _ z => z)
    intro w mg fa h Y G hmg0
    obtain ⟨K, KX, c⟩ := Y
    have hmg : mg ("law" : PySem.Str) = some (.ref fa) := by
      have e : (HandSHeadRun.topDef (OpenLaw.row PySem.Challenge.rw_unwritparts_k10_walks_that_need).prog 70).name = ("law" : PySem.Str) := by kernel_rfl
      rw [← e]
      exact hmg0
    obtain ⟨fd, hb, hF⟩ := _root_.K.facts (P := (PySem.Challenge.rw_unwritparts_k10_walks_that_need).prog) (w := w) KX G hmg c
    exact ⟨K, fd, _root_.K.spLaw K, KX, hb, fun H a ns hl _ hS => ⟨a, ns, rfl, hS, hl, fun _ => rfl⟩, hF⟩


