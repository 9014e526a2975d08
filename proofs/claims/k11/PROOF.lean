import PyProof.Rows.All
import Wide.All
import OpenK.AllK
import Wide.FinOn
import HandS.ForMost
import HandS.Property
import HandS.OwnEq
import HandS.IsInst
import HandS.Evl
import HandS.Defaults
import HandS.MakeKw
import HandS.ClsMeth
import HandS.Gcd
import HandS.FStr
import HandS.Zip
import HandS.Wide
import KE.KOpsOwn
import KE.KFmtOwn
import HandS.MakeKwOnly
import HandS.Style
import HandS.TupLe
import PyProof.StrLawsRepr
import PySem.Challenge.RW_pairsfree_k11_ratios_reckoned
set_option Elab.async false
set_option linter.all false
set_option maxRecDepth 100000
set_option maxHeartbeats 4000000
/-! Readings by what a value is: a description D of a value over a heap, kept by each heap that has more. -/
namespace PF
open PySem L2 Evl

abbrev DV := V → Hp → Prop
class Mn (D : DV) : Prop where
  mono : ∀ {v : V} {H H' : Hp}, Ex H H' → D v H → D v H'
/-- e gives a value of the description -/
def Yd (te : TE) (σ : L2.St) (H : Hp) (D : DV) : Prop := ∀ H1, Ex H H1 → ∀ Q : VK, (∀ v H2, Ex H1 H2 → D v H2 → Q v H2) → te σ H1 Q
def YdA (ta : TA) (σ : L2.St) (H : Hp) (P : List V → Hp → Prop) : Prop := ∀ H1, Ex H H1 → ∀ Q : List V → Hp → Prop, (∀ vs H2, Ex H1 H2 → P vs H2 → Q vs H2) → ta σ H1 Q
/-- a test's answer, with what is then known -/
def SpY (sp : Sp) (vs : List V) (H : Hp) (E : XK) (D : DV) : Prop := ∀ H1, Ex H H1 → ∀ Q : VK, (∀ v H2, Ex H1 H2 → D v H2 → Q v H2) → sp vs H1 Q E
/-- a value as it stands -/
def Is (w : V) : DV := fun v _ => v = w
instance : Mn (Is w) := ⟨fun _ h => h⟩
class MnA (P : List V → Hp → Prop) : Prop where
  mono : ∀ {vs : List V} {H H' : Hp}, Ex H H' → P vs H → P vs H'
def ANil : List V → Hp → Prop := fun vs _ => vs = []
def ACons (D : DV) (P : List V → Hp → Prop) : List V → Hp → Prop := fun vs H => ∃ x xs, vs = x :: xs ∧ D x H ∧ P xs H
instance : MnA ANil := ⟨fun _ h => h⟩
instance [Mn D] [MnA P] : MnA (ACons D P) := ⟨fun e h => by
  obtain ⟨x, xs, e1, h1, h2⟩ := h
  exact ⟨x, xs, e1, Mn.mono e h1, MnA.mono e h2⟩⟩

section
variable {K : PySem.W.Frag} {σ : L2.St} {H H' : Hp} {ta tb te tx : TE} {t u : TT} {x y z v : V} {r : R2} {D Da Db : DV} {P : List V → Hp → Prop}
theorem Yd.up (e : Ex H H') (h : Yd te σ H D) : Yd te σ H' D := fun H1 a Q q => h H1 (e.trans a) Q q
theorem YdA.up {ta : TA} (e : Ex H H') (h : YdA ta σ H P) : YdA ta σ H' P := fun H1 a Q q => h H1 (e.trans a) Q q
theorem Yd.imp (h : Yd te σ H Da) (hd : ∀ v H1, Ex H H1 → Da v H1 → D v H1) : Yd te σ H D := fun H1 a Q q => h H1 a Q fun v H2 e d => q v H2 e (hd v H2 (a.trans e) d)
theorem yd_ev (h : Ev te σ H v) : Yd te σ H (Is v) := fun H1 a Q q => h H1 a Q fun H2 e => q v H2 e rfl
theorem ev_yd (h : Yd te σ H (Is v)) : Ev te σ H v := fun H1 a Q q => h H1 a Q fun w H2 e d => by
  have d' : w = v := d
  subst d'
  exact q H2 e
theorem yd_of [Mn D] (h : Ev te σ H v) (d : D v H) : Yd te σ H D := fun H1 a Q q => h H1 a Q fun H2 e => q v H2 e (Mn.mono (a.trans e) d)
theorem yd_var [Mn D] {i : Nat} (h : σ[i]? = some (some v)) (d : D v H) : Yd (tVar i) σ H D := yd_of (ev_var h) d
theorem yd_op [Mn Da] (ha : Yd ta σ H Da) (hb : Yd tb σ H Db) (hr : ∀ x y H1, Ex H H1 → Da x H1 → Db y H1 → ∀ Q : VK, (∀ v H2, Ex H1 H2 → D v H2 → Q v H2) → r x y H1 Q) : Yd (tOp r ta tb) σ H D := fun H1 e Q q =>
  ha H1 e _ fun x H2 e2 dx => hb H2 (e.trans e2) _ fun y H3 e3 dy => hr x y H3 ((e.trans e2).trans e3) (Mn.mono e3 dx) dy Q fun v H4 e4 d => q v H4 ((e2.trans e3).trans e4) d
theorem yd_un {r : V → Hp → VK → Prop} (ha : Yd ta σ H Da) (hr : ∀ x H1, Ex H H1 → Da x H1 → ∀ Q : VK, (∀ v H2, Ex H1 H2 → D v H2 → Q v H2) → r x H1 Q) : Yd (tUn r ta) σ H D := fun H1 e Q q =>
  ha H1 e _ fun x H2 e2 dx => hr x H2 (e.trans e2) dx Q fun v H4 e4 d => q v H4 (e2.trans e4) d
theorem ya_nil : YdA tNil σ H ANil := fun H1 _ Q q => q [] H1 (Ex.refl H1) rfl
theorem ya_cons [Mn D] {ta : TA} (h : Yd te σ H D) (hr : YdA ta σ H P) : YdA (tCons te ta) σ H (ACons D P) := fun H1 e Q q =>
  h H1 e _ fun x H2 e2 d => hr H2 (e.trans e2) _ fun xs H3 e3 p => q (x :: xs) H3 (e2.trans e3) ⟨x, xs, rfl, Mn.mono e3 d, p⟩
theorem ya_ev {ta : TA} {vs : List V} (h : EvA ta σ H vs) : YdA ta σ H (fun ws _ => ws = vs) := fun H1 e Q q => h H1 e Q fun H2 e2 => q vs H2 e2 rfl
theorem yd_cb {r : List V → Hp → VK → Prop} {ta : TA} (h : YdA ta σ H P) (hr : ∀ vs H1, Ex H H1 → P vs H1 → ∀ Q : VK, (∀ v H2, Ex H1 H2 → D v H2 → Q v H2) → r vs H1 Q) : Yd (tCB r ta) σ H D := fun H1 e Q q =>
  h H1 e _ fun vs H2 e2 p => hr vs H2 (e.trans e2) p Q fun v H3 e3 d => q v H3 (e2.trans e3) d
theorem yd_call {sp : Sp} {dvs : List V} {E : XK} {ta : TA} (h : YdA ta σ H P) (hs : ∀ vs H1, Ex H H1 → P vs H1 → SpY sp (vs ++ dvs) H1 E D) : Yd (tCall sp dvs E ta) σ H D := fun H1 e Q q =>
  h H1 e _ fun vs H2 e2 p => hs vs H2 (e.trans e2) p H2 (Ex.refl H2) Q fun v H3 e3 d => q v H3 (e2.trans e3) d
theorem yd_if {b : Bool} (h : EvT t σ H b) (h1 : b = true → Yd ta σ H D) (h2 : b = false → Yd tb σ H D) : Yd (tIf t ta tb) σ H D := fun H1 e Q q => h H1 e _ fun H2 e2 => by
  cases b with
  | true =>
    show ta σ H2 Q
    exact h1 rfl H2 (e.trans e2) Q fun v H3 e3 d => q v H3 (e2.trans e3) d
  | false =>
    show tb σ H2 Q
    exact h2 rfl H2 (e.trans e2) Q fun v H3 e3 d => q v H3 (e2.trans e3) d
theorem yd_tup {ta : TA} (h : YdA ta σ H P) (hl : ∀ vs H1, P vs H1 → vs.length ≤ 100000) : Yd (tTup ta) σ H (fun v H1 => ∃ p vs H0, v = .ref p ∧ H1 p = some (.tup vs) ∧ Ex H0 H1 ∧ P vs H0) := fun H1 e _ q =>
  h H1 e _ fun vs H2 e2 p => ⟨sz_of (hl vs H2 p), fun a ha => q _ _ (e2.trans (Ex.new ha)) ⟨a, vs, H2, rfl, upd_same, Ex.new ha, p⟩⟩
theorem yd_lst {ta : TA} (h : YdA ta σ H P) (hl : ∀ vs H1, P vs H1 → vs.length ≤ 100000) : Yd (tLst ta) σ H (fun v H1 => ∃ p vs H0, v = .ref p ∧ H0 p = none ∧ H1 p = some (.lst vs) ∧ Ex H0 H1 ∧ P vs H0) := fun H1 e _ q =>
  h H1 e _ fun vs H2 e2 p => ⟨sz_of (hl vs H2 p), fun a ha => q _ _ (e2.trans (Ex.new ha)) ⟨a, vs, H2, rfl, ha, upd_same, Ex.new ha, p⟩⟩
/-- a test that is a value -/
theorem et_yd {b : Bool} (h : Yd te σ H (Is (.bl b))) : EvT (tTest te) σ H b := et_test (ev_yd h)

/-! statements -/
variable {D' : Ends} {tu tw tz : TS}
theorem s_asgD {i : Nat} (h : Yd te σ H D) (k : ∀ v H1, Ex H H1 → D v H1 → D'.nx (σ.set i (some v)) H1) : tAsg te (gName i) D' σ H := h H (Ex.refl H) _ fun v H1 e d => k v H1 e d
theorem q_asgD {i : Nat} (h : Yd te σ H D) (k : ∀ v H1, Ex H H1 → D v H1 → tz D' (σ.set i (some v)) H1) : tSeq (tAsg te (gName i)) tz D' σ H := s_asgD (D' := { D' with nx := tz D' }) h k
theorem s_retD (h : Yd te σ H D) (k : ∀ v H1, Ex H H1 → D v H1 → D'.rt v H1) : tRet te D' σ H := h H (Ex.refl H) _ k
theorem s_dropD (h : Yd te σ H D) (k : ∀ v H1, Ex H H1 → D v H1 → D'.nx σ H1) : tDrop te D' σ H := h H (Ex.refl H) _ k
end
end PF
/-! Operators, comparisons and texts of instances of a class of the program's own, over the layer. -/
namespace PFW
open PySem PySem.W PySem.Calls PyProof.Rows
section
variable {prog : Program} {w : World} {M : Model} {A : Around} {E : Value → Shared → Prop} {s : Shared} {K : Frag} {x C f : Addr} {ox : Obj} {od : Option Obj} {nm T : String}
/-- own op y, y of a built-in type that may have a slot of its own: ours is asked first -/
theorem own_bin {op : Operator} {y : Value} {mine theirs back : Option Value} {Q : Value → Shared → Prop} (kin : K.In s.heap) (I : InstAt s.heap x ox C od) (ty : Looks (model prog w) s.heap (typeOf y) (.type T)) (own : selfFirst K C = true)
    (slot : findIn K (.ref C) (PySem.dunder op.info.2) = some (some (.ref f))) (fn : isFn K (.ref f) = true) (rslot : findIn K (.ref C) (dunderR op.info.2) = some back) (plain : back = none ∨ ∃ g : Addr, back = some (.ref g))
    (t1 : findIn K (.type T) (PySem.dunder op.info.2) = some mine) (t2 : findIn K (.type T) (dunderR op.info.2) = some theirs) (apart : subIn K (.type T) (.ref C) = some false)
    (run : wpAny (model prog w) A (call (.ref f) [.ref x, y]) (W.CmpBack Q) E s) : wpAny (model prog w) A (binaryOp op (.ref x) y) Q E s := by
  obtain ⟨cd, more, hcd, first⟩ := ksp_first own
  rcases e : op.info with ⟨sign, word⟩
  simp only [e] at slot rslot t1 t2
  have tried := ksp_try kin I slot fn run
  have answered : ∀ (k : Option Value → Sem (Option Value)), (∀ v, k (some v) = pure (some v)) → wpAny (model prog w) A (tryMethod (.ref x) (PySem.dunder word) y >>= k) (fun r s' => ∃ v, r = some v ∧ Q v s') E s := fun k hk =>
    wpAny_bind (wpAny_mono tried (fun r s' z => by
      obtain ⟨v, rfl, q⟩ := z
      rw [hk]
      exact wpAny_pure ⟨v, rfl, q⟩) fun _ _ z => z)
  have unlike : (Value.ref C == Value.type T) = false := by
    rw [beq_eq_false_iff_ne]
    exact fun z => nomatch z
  have one : wpAny (model prog w) A (binaryOp1 word (.ref x) y) (fun r s' => ∃ v, r = some v ∧ Q v s') E s := by
    unfold binaryOp1
    refine wpAny_bind (I.type.here (wpAny_bind (ty.here (wpAny_bind ((fills_K kin hcd first slot).here ?_)))))
    rw [unlike]
    refine wpAny_bind ((ksp_fillsT kin t1 t2).here ?_)
    cases hr : ((mine.isSome && !isSeqSlot mine) || (theirs.isSome && !isSeqSlot theirs)) with
    | false =>
      simp only [Bool.and_false, Bool.false_and, Bool.false_eq_true, if_false, if_true]
      refine wpAny_bind (wpAny_pure ?_)
      simp only [Bool.false_eq_true, if_false]
      exact answered _ fun v => rfl
    | true =>
      simp only [Bool.and_self, if_true]
      refine wpAny_bind ((looks_subIn kin apart).here ?_)
      simp only [Bool.false_eq_true, if_false, Bool.not_false, if_true]
      refine wpAny_bind ((ksp_inPy kin slot rslot plain).here ?_)
      simp only [if_true]
      refine wpAny_bind (m := numberSlotInPython (.type T) word) (wpAny_pure ?_)
      simp only [Bool.not_false, if_true]
      refine wpAny_bind ((looks_findIn kin t2).here ?_)
      exact answered _ fun v => rfl
  unfold binaryOp
  rw [e]
  refine wpAny_holding (wpAny_bind (wpAny_mono one (fun r s' z => ?_) fun _ _ z => z))
  obtain ⟨v, rfl, q⟩ := z
  exact wpAny_pure q
/-- a builtin slot of an int declines an instance -/
theorem int_declines {Bi : Builtin} {id : String} {name : Str} {f : Int → Int → Sem Fin} {i : Int} {t : Tok} {Q : Value → Shared → Prop} {n : String} (slot : Slot "int" name id) (entry : entryFor table id = some Bi) (hB : Bi = PySem.Builtin.Int.intBinary n f)
    (args : argsOk id ⟨[.int i t, .ref x], []⟩) (I : s.heap.get? x = some ox) (hd : ox.data = .plain) (h : Q .notImplemented s) : wpAny (model prog w) A (call (.builtin id) [.int i t, .ref x]) Q E s := by
  refine GQ.call_here slot (typeIs_int s i t) entry args ?_
  subst hB
  obtain ⟨hh, g, d, tt, os⟩ := s
  obtain ⟨oc, od', dt, sl⟩ := ox
  simp only at hd
  subst hd
  unfold PySem.Builtin.Int.intBinary
  refine wpAny_bind (wpAny_pure ?_)
  refine wpAny_bind (wpAny_pure ?_)
  refine wpAny_bind (m := asInt? (.ref x)) (wpAny_bind (wpAny_load I (wpAny_pure ?_)))
  exact wpAny_bind (wpAny_rule (wpAny_pure h))
/-- int op own: int's slot declines, the own reflected one answers -/
theorem own_rbin {op : Operator} {Bi : Builtin} {id n : String} {fi : Int → Int → Sem Fin} {i : Int} {t : Tok} {g : Addr} {Q : Value → Shared → Prop} (X : K.In s.heap) (I : InstAt s.heap x ox C od) (hpl : ox.data = .plain) (hc : selfFirst K C = true)
    (hs : findIn K (.ref C) (PySem.dunder op.info.2) = some (some (.ref g))) (hr : findIn K (.ref C) (dunderR op.info.2) = some (some (.ref f))) (hf : isFn K (.ref f) = true)
    (hm : mroIn K C (.type "int") = some false) (slot : Slot "int" (PySem.dunder op.info.2) id) (entry : entryFor table id = some Bi) (hB : Bi = PySem.Builtin.Int.intBinary n fi) (args : argsOk id ⟨[.int i t, .ref x], []⟩)
    (hfi : fillsNumberSlot (.type "int") op.info.2 = pure true)
    (h : wpAny (model prog w) A (call (.ref f) [.ref x, .int i t]) (W.CmpBack Q) E s) : wpAny (model prog w) A (binaryOp op (.int i t) (.ref x)) Q E s := by
  obtain ⟨cd, rest, hcd, hmr⟩ := ksp_first hc
  rcases hi : op.info with ⟨sym, nm'⟩
  rw [hi] at hs hr slot hfi
  dsimp only at hs hr slot hfi
  have one := ksp_try X I hr hf h
  have dec : wpAny (model prog w) A (tryMethod (.int i t) (PySem.dunder nm') (.ref x)) (fun r s' => r = none ∧ s' = s) E s :=
    wpAny_tryMethod_declines (typeIs_int s i t) slot (int_declines slot entry hB args I.at_ hpl ⟨rfl, rfl, rfl⟩)
  have L1 : Looks (model prog w) s.heap (typeOf (.ref x)) (.ref C) := I.type
  have L2 : Looks (model prog w) s.heap (typeOf (.int i t)) (.type "int") := Looks.of_pure rfl
  have L3 : Looks (model prog w) s.heap (fillsNumberSlot (.ref C) nm') true := fills_K X hcd hmr hs
  have L4 : Looks (model prog w) s.heap (fillsNumberSlot (.type "int") nm') true := Looks.of_pure hfi
  have L5 : Looks (model prog w) s.heap (isSubtype (.ref C) (.type "int")) false := looks_mroIn X hm
  have L7 : Looks (model prog w) s.heap (numberSlotInPython (.type "int") nm') false := Looks.of_pure rfl
  have hne : (Value.type "int" == Value.ref C) = false := Bool.eq_false_iff.mpr fun q => by cases beq_iff_eq.mp q
  simp only [binaryOp, hi]
  refine wpAny_holding (wpAny_bind ?_)
  unfold binaryOp1
  refine wpAny_bind (L2.here (wpAny_bind (L1.here (wpAny_bind (L4.here ?_)))))
  simp only [hne, Bool.false_eq_true, if_false]
  refine wpAny_bind (L3.here ?_)
  simp only [Bool.and_self, Bool.true_and, if_true]
  refine wpAny_bind (L5.here ?_)
  simp only [Bool.false_eq_true, if_false, Bool.not_false, if_true]
  refine wpAny_bind (L7.here ?_)
  simp only [Bool.false_eq_true, if_false]
  refine wpAny_bind (wpAny_mono dec (fun r s' hr' => ?_) fun _ _ e => e)
  obtain ⟨rfl, rfl⟩ := hr'
  simp only []
  refine wpAny_bind (wpAny_mono one (fun r s'' hr'' => ?_) fun _ _ e => e)
  obtain ⟨v, rfl, hq⟩ := hr''
  refine wpAny_bind (wpAny_rule (wpAny_pure ?_))
  exact wpAny_pure hq
/-- scalar == own: the scalar's slot declines, the own == answers -/
theorem own_rcmp {a : Value} {ta : Value} {Q : Value → Shared → Prop} (hu : A.units < cLine) (X : K.In s.heap) (I : InstAt s.heap x ox C od) (hone : oneThing? .Eq a (.ref x) = none) (hta : Looks (model prog w) s.heap (typeOf a) ta) (hne : (ta != Value.ref C) = true)
    (hsub : Looks (model prog w) s.heap (isSubtype (.ref C) ta) false) (dec : wpAny (model prog w) A (tryCompare a "__eq__" (.ref x)) (fun r s' => r = none ∧ s' = s) E s)
    (hs : findIn K (.ref C) "__eq__" = some (some (.ref f))) (hf : isFn K (.ref f) = true)
    (h : wpAny (model prog w) A (call (.ref f) [.ref x, a]) (W.CmpBack Q) E s) : wpAny (model prog w) A (richCompare .Eq a (.ref x)) Q E s := by
  have one : wpAny (model prog w) A (tryCompare (.ref x) "__eq__" a) (fun r s' => ∃ v, r = some v ∧ Q v s') E s := by
    unfold tryCompare
    refine wpAny_bind (ifBound_K X I hs hf (wpAny_mono h (fun v s' hv => ?_) fun _ _ e => e))
    cases v <;> first | exact hv.elim | exact wpAny_pure ⟨_, rfl, hv⟩
  unfold richCompare
  simp only [hone]
  refine wpAny_holding (wpAny_bind (wpAny_cRoomFor hu ?_))
  refine wpAny_bind (hta.here (wpAny_bind (I.type.here ?_)))
  have hne' : (Value.ref C != ta) = true := by
    rw [bne_iff_ne] at hne ⊢
    exact fun e => hne e.symm
  simp only [hne, if_true]
  refine wpAny_bind (hsub.here ?_)
  simp only [Bool.false_eq_true, if_false]
  refine wpAny_bind (wpAny_mono dec (fun r s' hr' => ?_) fun _ _ e => e)
  obtain ⟨rfl, rfl⟩ := hr'
  simp only [Bool.not_false, if_true]
  refine wpAny_bind (wpAny_mono one (fun r s' hr' => ?_) fun _ _ e => e)
  obtain ⟨v, rfl, hq⟩ := hr'
  exact wpAny_pure hq
/-- own != another, by object.__ne__ and the own == -/
theorem own_ne {b tb : Value} {Q : Value → Shared → Prop} (hu : A.units + 1 < cLine) (X : K.In s.heap) (I : InstAt s.heap x ox C od) (hb : Looks (model prog w) s.heap (typeOf b) tb) (hn : notFirst K C tb = true)
    (hne : findIn K (.ref C) "__ne__" = some (some (.builtin "object.__ne__"))) (hm : mroIn K C (.type "object") = some true)
    (hs : findIn K (.ref C) "__eq__" = some (some (.ref f))) (hf : isFn K (.ref f) = true)
    (h : wpAny (model prog w) A.in1 (call (.ref f) [.ref x, b]) (fun v s' => ∃ k, v = .bool k ∧ Q (.bool (!k)) s') E s) : wpAny (model prog w) A (richCompare .NotEq (.ref x) b) Q E s := by
  have body : wpAny (model prog w) A (call (.builtin "object.__ne__") [.ref x, b]) (fun v s' => ∃ k, v = .bool k ∧ Q v s') E s := by
    refine wpAny_call (codeAny_call_builtin PySem.F.cmp_object.ne.plain PySem.F.cmpEntry_ne (check_slot (i := "object.__ne__") (owner := "object") (n := "__ne__") PySem.F.cmpKind_ne PySem.F.cmpSplit_ne (I.type.andThen (looks_mroIn X hm)) (PySem.F.cmpArgs_ne _ _) ?_))
    unfold Builtin.«object.__ne__»
    refine wpAny_bind (m := slotArgs "__ne__" 1 _) (wpAny_pure ?_)
    refine wpAny_bind (wpAny_cRoomFor (by exact hu) ?_)
    refine wpAny_bind (m := callSpecialIfBound? (.ref x) (Str.ofString "__eq__") [b]) (ifBound_K X I hs hf (wpAny_mono h (fun v s' hv => ?_) fun _ _ e => e))
    obtain ⟨k, rfl, hq⟩ := hv
    refine wpAny_bind (wpAny_truthy_bool ?_)
    exact wpAny_pure ⟨!k, rfl, hq⟩
  have one : wpAny (model prog w) A (tryCompare (.ref x) "__ne__" b) (fun r s' => ∃ v, r = some v ∧ Q v s') E s := by
    unfold tryCompare
    have sp : wpAny (model prog w) A (callSpecialIfBound? (.ref x) "__ne__" [b]) (fun r s' => ∃ k, r = some (.bool k) ∧ Q (.bool k) s') E s := by
      simp only [callSpecialIfBound?, bindSpecialIfBound?]
      refine wpAny_holding (wpAny_bind (wpAny_bind (wpAny_bind (I.type.here ((looks_findIn X hne).here ?_)))))
      refine wpAny_bind (wpAny_askSetting (wpAny_ite ?_))
      have fin : wpAny (model prog w) A (call (.builtin "object.__ne__") ([.ref x] ++ [b]) >>= fun v => pure (some v)) (fun r s' => ∃ k, r = some (.bool k) ∧ Q (.bool k) s') E s := wpAny_bind (wpAny_mono body (fun v s' h' => by
        obtain ⟨k, rfl, hq⟩ := h'
        exact wpAny_pure ⟨k, rfl, hq⟩) fun _ _ h' => h')
      have bs : bindSpecial (.builtin "object.__ne__") (.ref x) = pure (.builtin "object.__ne__", [.ref x]) := PySem.F.cmp_object.ne.bind _
      split
      · exact wpAny_bind (wpAny_of_eq bs (wpAny_pure (by exact fin)))
      · exact wpAny_tryCatch (wpAny_bind (wpAny_of_eq bs (wpAny_pure (by exact fin))))
    refine wpAny_bind (wpAny_mono sp (fun r s' hr => ?_) fun _ _ e => e)
    obtain ⟨k, rfl, hq⟩ := hr
    exact wpAny_pure ⟨_, rfl, hq⟩
  unfold richCompare
  simp only [oneThing_ref]
  refine wpAny_holding (wpAny_bind (wpAny_cRoomFor (Nat.lt_of_succ_lt hu) ?_))
  refine wpAny_bind (I.type.here (wpAny_bind (hb.here ?_)))
  have nf : (Value.ref C != tb) = true → Looks (model prog w) s.heap (isSubtype tb (.ref C)) false := fun q => by
    unfold notFirst at hn
    rw [Bool.or_eq_true] at hn
    rcases hn with e | e
    · rw [bne_iff_ne] at q
      exact absurd (beq_iff_eq.mp e).symm q
    · exact looks_subIn X (beq_iff_eq.mp e)
  split
  · rename_i q
    refine wpAny_bind ((nf q).here ?_)
    simp only [Bool.false_eq_true, if_false]
    refine wpAny_bind (wpAny_mono one (fun r s' hr => ?_) fun _ _ e => e)
    obtain ⟨v, rfl, hq⟩ := hr
    exact wpAny_pure hq
  · refine wpAny_bind (wpAny_pure ?_)
    simp only [Bool.false_eq_true, if_false]
    refine wpAny_bind (wpAny_mono one (fun r s' hr => ?_) fun _ _ e => e)
    obtain ⟨v, rfl, hq⟩ := hr
    exact wpAny_pure hq
end
end PFW
/-! Rules of the layer for instances of an own class: operators, comparisons, texts. -/
namespace PF
open PySem PySem.Spec PyProof.Rows L2 Evl

/-- what of the text an own class with operators must have -/
structure Own (K : PySem.W.Frag) (C : Addr) : Prop where
  cl : Cls K C
  sf : PySem.W.selfFirst K C = true
  ha : PySem.W.findIn K (.ref C) "__class__" = some (some (.builtin "object.__class__"))
  hn : PySem.W.specialIn K (.builtin "object.__class__") "__get__" = some (some (.builtin "getset_descriptor.__get__"))
  ht : PySem.W.takesIn K (.builtin "object.__class__") = some true
  hm : PySem.W.mroIn K C (.type "object") = some true
  mi : PySem.W.mroIn K C (.type "int") = some false
  mb : PySem.W.mroIn K C (.type "bool") = some false
  ms : PySem.W.mroIn K C (.type "str") = some false
  mn : PySem.W.mroIn K C (.type "NoneType") = some false
  ne : PySem.W.findIn K (.ref C) "__ne__" = some (some (.builtin "object.__ne__"))
theorem Own.ty {K : PySem.W.Frag} {C : Addr} (o : Own K C) {H : Hp} {a dx : Addr} {fs : List (Str × V)} (h : H a = some (.ins C dx fs)) : TyX K H (.ref a) (.ref C) := .base (.ins h o.cl o.ha o.hn o.ht o.hm)

section
variable {X : Cx} {pins : List (Addr × Obj)} {σ : L2.St} {H : Hp} {s : Shared}
theorem looksTy {x : V} {u t : Value} (I : Inv X pins σ H s) (rx : RelV x u) (ty : TyX X.K H x t) : PySem.W.Looks (model X.prog X.w) s.heap (typeOf u) t := by
  obtain ⟨P, Z, p, _⟩ := kit_of I rx ty
  exact Z.ty _ _ I.kIn p
theorem ep_back {Q : VK} {v : Value} {s' : Shared} (h : L2.EP X pins σ Q v s') : PySem.W.CmpBack (L2.EP X pins σ Q) v s' := by
  obtain ⟨w, H', I, r, q⟩ := id h
  cases w with
  | non => cases r; exact h
  | bl _ => cases r; exact h
  | int _ => obtain ⟨_, rfl⟩ := r; exact h
  | str _ => obtain ⟨_, rfl⟩ := r; exact h
  | byt _ => obtain ⟨_, rfl⟩ := r; exact h
  | flt _ => obtain ⟨_, rfl⟩ := r; exact h
  | ref _ => cases r; exact h
  | ty _ => cases r; exact h
/-- the callee runs, somewhere below -/
theorem run_at {CX : CXT} {k : Nat} {f : Addr} {fd : FuncData} {ps : List Str} {sp : Sp} {E : XK} {A : Around} {Q : VK} {us : List Value} {vs : List V} (F : FnOk X.prog X.w X.K X.mg X.base CX k f fd ps sp) (sb : Sub X k A) (hb : Binds X.K fd ps [])
    (hx : Passes CX X E) (I : Inv X pins σ H s) (r : Vals vs us) (h : sp vs H Q E) : wpAny (model X.prog X.w) A (call (.ref f) us) (L2.EP X pins σ Q) X.xe s := by
  have e0 : Env0 X.prog X.w X.K X.mg X.base A X.stack s H := by
    have e := I.env0
    exact ⟨by rw [sb.fr]; exact e.frames, e.mod, e.bs, e.bsz, e.funs, e.frf, e.hok, e.bare⟩
  have hl : us.length = ps.length := by rw [← r.length]; exact F.len _ _ _ _ h
  refine wpAny_call (codeAny_mono (F.run A X.stack s H ⟨us, []⟩ us vs Q E sb.room e0 (by
    have := hb s us I.kIn (by simpa using hl)
    simpa using this) r h) fun r s' hq => ?_)
  cases r with
  | error e => exact hx pins σ H s e s' I hq
  | ok fl =>
    cases fl with
    | ret w => exact I.after hq
    | next => exact False.elim hq
    | brk => exact False.elim hq
    | cont => exact False.elim hq
theorem inst_at {a C dx : Addr} {fs : List (Str × V)} (I : Inv X pins σ H s) (e : H a = some (.ins C dx fs)) : ∃ od, PySem.W.InstAt s.heap a (PySem.W.instObj C dx) C (some od) := by
  obtain ⟨mA, J, _⟩ := ins_get I.hok e
  obtain ⟨od, J, _⟩ := J.look
  exact ⟨od, J⟩
end

/-- a built-in type beside the own one, for an operator -/
structure BinT (C : Addr) (op : Operator) (T : String) : Prop where
  fo : ∃ fo, PySem.W.findIn [] (.type T) (PySem.dunder op.info.2) = some fo
  ro : ∃ ro, PySem.W.findIn [] (.type T) (dunderR op.info.2) = some ro
  sub : PySem.W.subIn [] (.type T) (.ref C) = some false
theorem sub_type {T : String} {l : List Value} {C : Addr} (e : fastBuiltinMro T = some l) (h : l.all (fun v => match v with | .ref _ => false | _ => true) = true) : PySem.W.subIn [] (.type T) (.ref C) = some false := by
  show (fastBuiltinMro T).map (·.contains (.ref C)) = some false
  rw [e]
  show some (l.contains (.ref C)) = some false
  congr 1
  rw [List.contains_eq_any_beq, List.any_eq_false]
  intro v hv q
  have := List.all_eq_true.mp h v hv
  have e2 := beq_iff_eq.mp q
  subst e2
  simp at this
theorem sub_int {C : Addr} : PySem.W.subIn [] (.type "int") (.ref C) = some false := sub_type (l := (fastBuiltinMro "int").getD []) (by decide +kernel) (by decide +kernel)
theorem sub_bool {C : Addr} : PySem.W.subIn [] (.type "bool") (.ref C) = some false := sub_type (l := (fastBuiltinMro "bool").getD []) (by decide +kernel) (by decide +kernel)
theorem sub_str {C : Addr} : PySem.W.subIn [] (.type "str") (.ref C) = some false := sub_type (l := (fastBuiltinMro "str").getD []) (by decide +kernel) (by decide +kernel)
theorem sub_none {C : Addr} : PySem.W.subIn [] (.type "NoneType") (.ref C) = some false := sub_type (l := (fastBuiltinMro "NoneType").getD []) (by decide +kernel) (by decide +kernel)
theorem sub_list {C : Addr} : PySem.W.subIn [] (.type "list") (.ref C) = some false := sub_type (l := (fastBuiltinMro "list").getD []) (by decide +kernel) (by decide +kernel)
theorem sub_tuple {C : Addr} : PySem.W.subIn [] (.type "tuple") (.ref C) = some false := sub_type (l := (fastBuiltinMro "tuple").getD []) (by decide +kernel) (by decide +kernel)
theorem sub_dict {C : Addr} : PySem.W.subIn [] (.type "dict") (.ref C) = some false := sub_type (l := (fastBuiltinMro "dict").getD []) (by decide +kernel) (by decide +kernel)
theorem some_of {α : Type} {o : Option α} (h : o.isSome = true) : ∃ a, o = some a := Option.isSome_iff_exists.mp h
theorem binT_of {C : Addr} {op : Operator} {T : String} (h1 : (PySem.W.findIn [] (.type T) (PySem.dunder op.info.2)).isSome = true) (h2 : (PySem.W.findIn [] (.type T) (dunderR op.info.2)).isSome = true) (h3 : PySem.W.subIn [] (.type T) (.ref C) = some false) : BinT C op T :=
  ⟨some_of h1, some_of h2, h3⟩
theorem bt_add_int {C : Addr} : BinT C .Add "int" := binT_of (by decide +kernel) (by decide +kernel) sub_int
theorem bt_sub_int {C : Addr} : BinT C .Sub "int" := binT_of (by decide +kernel) (by decide +kernel) sub_int
theorem bt_mul_int {C : Addr} : BinT C .Mult "int" := binT_of (by decide +kernel) (by decide +kernel) sub_int

/-- own op y -/
def rOwn (K : PySem.W.Frag) (C : Addr) (op : Operator) (sp : Sp) (E : XK) : R2 := fun x y H Q => ∃ a dx fs t, x = .ref a ∧ H a = some (.ins C dx fs) ∧ TyX K H y t ∧ (t = .ref C ∨ ∃ T, t = .type T ∧ BinT C op T) ∧ sp [x, y] H Q E
section
variable {X : Cx} {CX : CXT} {k : Nat} {C f g : Addr} {fd : FuncData} {ps : List Str} {sp : Sp} {E : XK}
theorem op_own {op : Operator} (o : Own X.K C) (m : Meth X.K C (PySem.dunder op.info.2) f) (m2 : Meth X.K C (dunderR op.info.2) g) (F : FnOk X.prog X.w X.K X.mg X.base CX k f fd ps sp) (hr : Room k X.A) (hb : Binds X.K fd ps []) (hx : Passes CX X E) :
    OpR X (binaryOp op) (rOwn X.K C op sp E) := by
  intro pins s σ H x y v u Q I rx ry h
  obtain ⟨a, dx, fs, t, rfl, ea, ty, ht, h⟩ := h
  cases rx
  obtain ⟨od, J⟩ := inst_at I ea
  have L := looksTy I ry ty
  have r2 : Vals [V.ref a, y] [Value.ref a, u] := .cons rfl (.cons ry .nil)
  have run := thn (run_at F ⟨hr, rfl⟩ hb hx I r2 h) fun v s' q => ep_back q
  rcases ht with rfl | ⟨T, rfl, b⟩
  · obtain ⟨m0, hF⟩ := I.fr
    exact PySem.W.binop_K hF I.ok.mod.kin J L o.sf m.at_ m.fn run
  · obtain ⟨fo, h1⟩ := b.fo
    obtain ⟨ro, h2⟩ := b.ro
    exact PFW.own_bin I.kIn J L o.sf m.at_ m.fn m2.at_ (.inr ⟨_, rfl⟩) h1 h2 b.sub run
/-- int op own -/
def rOwnR (C : Addr) (sp : Sp) (E : XK) : R2 := fun x y H Q => ∃ i a dx fs, x = .int i ∧ y = .ref a ∧ H a = some (.ins C dx fs) ∧ sp [y, x] H Q E
theorem op_ownR {op : Operator} {Bi : Builtin} {id n : String} {fi : Int → Int → Sem Fin} (o : Own X.K C) (m : Meth X.K C (dunderR op.info.2) f) (m2 : Meth X.K C (PySem.dunder op.info.2) g) (F : FnOk X.prog X.w X.K X.mg X.base CX k f fd ps sp) (hr : Room k X.A) (hb : Binds X.K fd ps []) (hx : Passes CX X E)
    (slot : Slot "int" (PySem.dunder op.info.2) id) (entry : entryFor table id = some Bi) (hB : Bi = PySem.Builtin.Int.intBinary n fi) (args : ∀ x y, argsOk id ⟨[x, y], []⟩) (hfi : fillsNumberSlot (.type "int") op.info.2 = pure true) :
    OpR X (binaryOp op) (rOwnR C sp E) := by
  intro pins s σ H x y v u Q I rx ry h
  obtain ⟨i, a, dx, fs, rfl, rfl, ea, h⟩ := h
  cases ry
  obtain ⟨t, rfl⟩ := rx
  obtain ⟨od, J⟩ := inst_at I ea
  have r2 : Vals [V.ref a, V.int i] [Value.ref a, Value.int i t] := .cons rfl (.cons ⟨_, rfl⟩ .nil)
  have run := thn (run_at F ⟨hr, rfl⟩ hb hx I r2 h) fun v s' q => ep_back q
  exact PFW.own_rbin I.kIn J rfl o.sf m2.at_ m.at_ m.fn o.mi slot entry hB (args _ _) hfi run
theorem op_addR (o : Own X.K C) (m : Meth X.K C "__radd__" f) (m2 : Meth X.K C "__add__" g) (F : FnOk X.prog X.w X.K X.mg X.base CX k f fd ps sp) (hr : Room k X.A) (hb : Binds X.K fd ps []) (hx : Passes CX X E) : OpR X (binaryOp .Add) (rOwnR C sp E) :=
  op_ownR (op := .Add) o m m2 F hr hb hx PySem.F.slot_int_add PySem.F.entry_int_add rfl PySem.F.args_int_add_2 PySem.F.fills_int_add
theorem op_subR (o : Own X.K C) (m : Meth X.K C "__rsub__" f) (m2 : Meth X.K C "__sub__" g) (F : FnOk X.prog X.w X.K X.mg X.base CX k f fd ps sp) (hr : Room k X.A) (hb : Binds X.K fd ps []) (hx : Passes CX X E) : OpR X (binaryOp .Sub) (rOwnR C sp E) :=
  op_ownR (op := .Sub) o m m2 F hr hb hx PySem.F.slot_int_sub PySem.F.entry_int_sub rfl PySem.F.args_int_sub_2 PySem.F.fills_int_sub
theorem op_mulR (o : Own X.K C) (m : Meth X.K C "__rmul__" f) (m2 : Meth X.K C "__mul__" g) (F : FnOk X.prog X.w X.K X.mg X.base CX k f fd ps sp) (hr : Room k X.A) (hb : Binds X.K fd ps []) (hx : Passes CX X E) : OpR X (binaryOp .Mult) (rOwnR C sp E) :=
  op_ownR (op := .Mult) o m m2 F hr hb hx PySem.F.slot_int_mul PySem.F.entry_int_mul rfl PySem.F.args_int_mul_2 PySem.F.fills_int_mul
/-- -own -/
def rNegO (C : Addr) (sp : Sp) (E : XK) : V → Hp → VK → Prop := fun x H Q => ∃ a dx fs, x = .ref a ∧ H a = some (.ins C dx fs) ∧ sp [x] H Q E
theorem un_own (m : Meth X.K C "__neg__" f) (F : FnOk X.prog X.w X.K X.mg X.base CX k f fd ps sp) (hr : Room k X.A) (hb : Binds X.K fd ps []) (hx : Passes CX X E) : UnR X (unaryOp .USub) (rNegO C sp E) := by
  intro pins s σ H x v Q I rx h
  obtain ⟨a, dx, fs, rfl, ea, h⟩ := h
  cases rx
  obtain ⟨od, J⟩ := inst_at I ea
  obtain ⟨m0, hF⟩ := I.fr
  have r2 : Vals [V.ref a] [Value.ref a] := .cons rfl .nil
  exact PySem.W.ksp_neg hF I.ok.mod.kin J m.at_ m.fn (run_at F ⟨hr, rfl⟩ hb hx I r2 h)
/-- own == y -/
def rEqO (K : PySem.W.Frag) (C : Addr) (sp : Sp) (E : XK) : R2 := fun x y H Q => ∃ a dx fs t, x = .ref a ∧ H a = some (.ins C dx fs) ∧ TyX K H y t ∧ (t = .ref C ∨ ∃ T, t = .type T ∧ PySem.W.subIn [] (.type T) (.ref C) = some false) ∧ sp [x, y] H Q E
theorem nf_of {t : Value} (h : t = .ref C ∨ ∃ T, t = .type T ∧ PySem.W.subIn [] (.type T) (.ref C) = some false) : PySem.W.notFirst X.K C t = true := by
  rcases h with rfl | ⟨T, rfl, e⟩
  · simp [PySem.W.notFirst]
  · have e' : PySem.W.subIn X.K (.type T) (.ref C) = some false := e
    simp [PySem.W.notFirst, e']
theorem op_eqO (m : Meth X.K C "__eq__" f) (F : FnOk X.prog X.w X.K X.mg X.base CX k f fd ps sp) (hr : Room k X.A) (hb : Binds X.K fd ps []) (hx : Passes CX X E) : OpR X (compareOp .Eq) (rEqO X.K C sp E) := by
  intro pins s σ H x y v u Q I rx ry h
  obtain ⟨a, dx, fs, t, rfl, ea, ty, ht, h⟩ := h
  cases rx
  obtain ⟨od, J⟩ := inst_at I ea
  obtain ⟨m0, hF⟩ := I.fr
  have L := looksTy I ry ty
  have r2 : Vals [V.ref a, y] [Value.ref a, u] := .cons rfl (.cons ry .nil)
  show wpAny _ _ (richCompare .Eq _ _) _ _ _
  exact PySem.W.cmp_K (op := .Eq) hr.units0 hF I.ok.mod.kin J L (nf_of ht) m.at_ m.fn (thn (run_at F ⟨hr, rfl⟩ hb hx I r2 h) fun v s' q => ep_back q)
/-- own != y -/
def rNeO (K : PySem.W.Frag) (C : Addr) (sp : Sp) (E : XK) : R2 := fun x y H Q => ∃ a dx fs t, x = .ref a ∧ H a = some (.ins C dx fs) ∧ TyX K H y t ∧ (t = .ref C ∨ ∃ T, t = .type T ∧ PySem.W.subIn [] (.type T) (.ref C) = some false) ∧ sp [x, y] H (fun v H1 => ∃ b, v = .bl b ∧ Q (.bl (!b)) H1) E
theorem op_neO (o : Own X.K C) (m : Meth X.K C "__eq__" f) (F : FnOk X.prog X.w X.K X.mg X.base CX k f fd ps sp) (hr : Room (k + 1) X.A) (hb : Binds X.K fd ps []) (hx : Passes CX X E) : OpR X (compareOp .NotEq) (rNeO X.K C sp E) := by
  intro pins s σ H x y v u Q I rx ry h
  obtain ⟨a, dx, fs, t, rfl, ea, ty, ht, h⟩ := h
  cases rx
  obtain ⟨od, J⟩ := inst_at I ea
  have L := looksTy I ry ty
  have r2 : Vals [V.ref a, y] [Value.ref a, u] := .cons rfl (.cons ry .nil)
  show wpAny _ _ (richCompare .NotEq _ _) _ _ _
  refine PFW.own_ne (by have := hr.units; omega) I.kIn J L (nf_of ht) o.ne o.hm m.at_ m.fn (thn (run_at F ⟨hr.in1, rfl⟩ hb hx I r2 h) fun v s' q => ?_)
  obtain ⟨w, H', I', r, b, rfl, q⟩ := q
  cases r
  exact ⟨b, rfl, .bl (!b), H', I', rfl, q⟩
/-- int == own -/
def rEqR (C : Addr) (sp : Sp) (E : XK) : R2 := fun x y H Q => ∃ i a dx fs, x = .int i ∧ y = .ref a ∧ H a = some (.ins C dx fs) ∧ sp [y, x] H Q E
theorem op_eqR (o : Own X.K C) (m : Meth X.K C "__eq__" f) (F : FnOk X.prog X.w X.K X.mg X.base CX k f fd ps sp) (hr : Room k X.A) (hb : Binds X.K fd ps []) (hx : Passes CX X E) : OpR X (compareOp .Eq) (rEqR C sp E) := by
  intro pins s σ H x y v u Q I rx ry h
  obtain ⟨i, a, dx, fs, rfl, rfl, ea, h⟩ := h
  cases ry
  obtain ⟨t, rfl⟩ := rx
  obtain ⟨od, J⟩ := inst_at I ea
  have r2 : Vals [V.ref a, V.int i] [Value.ref a, Value.int i t] := .cons rfl (.cons ⟨_, rfl⟩ .nil)
  show wpAny _ _ (richCompare .Eq _ _) _ _ _
  refine PFW.own_rcmp hr.units0 I.kIn J rfl (.of_pure rfl) (by rw [bne_iff_ne]; exact fun z => nomatch z) (PySem.W.looks_mroIn I.kIn o.mi) ?_ m.at_ m.fn (thn (run_at F ⟨hr, rfl⟩ hb hx I r2 h) fun v s' q => ep_back q)
  exact wpAny_tryCompare_declines (typeIs_int s i t) PySem.F.slot_int_eq (PFW.int_declines PySem.F.slot_int_eq PySem.F.entry_int_eq rfl (PySem.F.args_int_eq_2 _ _) J.at_ rfl ⟨rfl, rfl, rfl⟩)
end
end PF
/-! Defs that are called where no text of a list is being written (guards: none): their promises, their bodies, their calls. -/
namespace PF
open PySem PySem.Spec PyProof.Rows L2 Evl

/-- a promise that is kept where the running guards are known to be none -/
structure FnG (P : Program) (w : World) (K : PySem.W.Frag) (mg : Str → Option Value) (base : Heap) (CX : CXT) (k : Nat) (f : Addr) (fd : FuncData) (ps : List Str) (sp : Sp) : Prop where
  len : ∀ vs H Q E, sp vs H Q E → vs.length = ps.length
  run : ∀ (A : Around) (outer : List Env) (s : Shared) (H : Hp) (args : Args) (us : List Value) (vs : List V) (Q : VK) (E : XK), A.guards = some [] → Room k A → Env0 P w K mg base A outer s H → BindsTo s fd args (ps.zip us) →
    Vals vs us → sp vs H Q E → codeAny (model P w) A (.call (.ref f) args) (CR CX outer P w H s Q E) s
section
variable {P : Program} {w : World} {K : PySem.W.Frag} {mg : Str → Option Value} {base : Heap} {CX : CXT} {j k : Nat} {f : Addr} {fd : FuncData} {ps : List Str} {sp : Sp}
theorem gOf (F : FnOk P w K mg base CX k f fd ps sp) : FnG P w K mg base CX k f fd ps sp := ⟨F.len, fun A outer s H args us vs Q E _ => F.run A outer s H args us vs Q E⟩
theorem FnG.mono (F : FnG P w K mg base CX j f fd ps sp) (h : j ≤ k) : FnG P w K mg base CX k f fd ps sp :=
  ⟨F.len, fun A outer s H args us vs Q E g hr => F.run A outer s H args us vs Q E g (hr.mono h)⟩
/-- the body, as a term of rules, at each entry -/
theorem bodyG {x qual : Str} {st : Stmt} {N : List Str} (F : Fun K x qual st f fd) (S : FnScope N ps (defScope st)) (len : ∀ vs H Q E, sp vs H Q E → vs.length = ps.length)
    (hbody : ∀ (cdv : Value) (A : Around) (outer : List Env) (s : Shared) (H : Hp) (vs : List V) (Q : VK) (E : XK), A.guards = some [] → Room k (A.deeper (envOfC qual (defScope st) s.heap.objs.size f cdv)) → sp vs H Q E →
      ∃ t, PSs (cxOf CX P w K mg base N qual (defScope st) f cdv A outer s H E) (defBody st) t ∧ t { nx := fun _ H' => Q .non H', rt := Q } (start N vs) H) : FnG P w K mg base CX (k + 1) f fd ps sp := by
  obtain ⟨oc, od, kV, doc, pm, an, cdv, ct, osl, e, lk, hcd⟩ := F.ex
  subst e
  refine ⟨len, fun A outer s H args us vs Q E hg hr e0 hb rv hsp => ?_⟩
  obtain ⟨t, der, rd⟩ := hbody cdv A outer s H vs Q E hg (hr.deeper _) hsp
  have old : ∀ b o, base.get? b = some o → s.heap.get? b = some o := fun b o z => (e0.bs b o z).1
  have kn := e0.mod.kin.keeps old
  refine codeAny_call_function hr.depth (kn _ _ lk) rfl S.co S.gen rfl (PySem.W.codeRec_of kn hcd) (hb _ _ _ _ (wpAny_newFunctionEnv_cells S.kind (fun p hp => ?_) fun env he s1 ic => ?_))
  · obtain ⟨n, v⟩ := p
    cases S.par n (List.of_mem_zip hp).1 with
    | inl q => exact .inl q
    | inr q => exact .inr ⟨q, PySem.W.cellsFrom_some _ _ _ (.inl q)⟩
  · subst he
    refine ⟨(e0.mod.nolimit.keeps old).keeps ic.toInCall.keep, codeAny_func ?_⟩
    refine wpAny_mono (der.run [] s1 (start N vs) H _ (inv_start S hr.hd e0 (len _ _ _ _ hsp) rv ic) rd) (fun fl s' z => ?_) fun _ _ z => z
    cases fl with
    | ret u =>
      obtain ⟨v, _, H', J, r, q⟩ := z
      exact ⟨v, H', J.os, J.bare, J.base, J.hok, r, q⟩
    | next =>
      obtain ⟨_, H', J, q⟩ := z
      exact ⟨V.non, H', J.os, J.bare, J.base, J.hok, rfl, q⟩
    | brk =>
      obtain ⟨_, _, _, q⟩ := z
      exact (show False from q).elim
    | cont =>
      obtain ⟨_, _, _, q⟩ := z
      exact (show False from q).elim
/-- .. of a def out of which nothing is raised -/
theorem bodyG0 {x qual : Str} {st : Stmt} {N : List Str} (F : Fun K x qual st f fd) (S : FnScope N ps (defScope st)) (len : ∀ vs H Q E, sp vs H Q E → vs.length = ps.length)
    (hbody : ∀ (cdv : Value) (A : Around) (outer : List Env) (s : Shared) (H : Hp) (vs : List V) (Q : VK) (E : XK), A.guards = some [] → Room k (A.deeper (envOfC qual (defScope st) s.heap.objs.size f cdv)) → sp vs H Q E →
      ∃ t, PSs (cxOf CX0 P w K mg base N qual (defScope st) f cdv A outer s H E).nox (defBody st) t ∧ t { nx := fun _ H' => Q .non H', rt := Q } (start N vs) H) : FnG P w K mg base CX0 (k + 1) f fd ps sp :=
  bodyG F S len fun cdv A outer s H vs Q E hg hr hsp => by
    obtain ⟨t, h, q⟩ := hbody cdv A outer s H vs Q E hg hr hsp
    exact ⟨t, h.nox, q⟩
end
section
variable {X : Cx} {CX : CXT} {k : Nat} {f C : Addr} {fd : FuncData} {ps : List Str} {sp : Sp} {dvs : List V} {ds : List Value} {E : XK} {x m : Str} {p pos apos : Pos} {e o : Expr} {es : List Expr} {ta : TE} {t : TA}
theorem run_g {pins : List (Addr × Obj)} {σ : L2.St} {H : Hp} {s : Shared} {Q : VK} {us : List Value} {vs : List V} (hg : X.A.guards = some []) (F : FnG X.prog X.w X.K X.mg X.base CX k f fd ps sp) (hr : Room k X.A) (hb : Binds X.K fd ps []) (hx : Passes CX X E)
    (I : Inv X pins σ H s) (r : Vals vs us) (h : sp vs H Q E) : wpAny (model X.prog X.w) X.A (call (.ref f) us) (L2.EP X pins σ Q) X.xe s := by
  have hl : (us ++ []).length = ps.length := by rw [List.append_nil, ← r.length]; exact F.len _ _ _ _ h
  have b0 := hb s us I.kIn hl
  rw [List.append_nil] at b0
  refine wpAny_call (codeAny_mono (F.run X.A X.stack s H ⟨us, []⟩ us vs Q E hg hr I.env0 b0 r h) fun res s' z => ?_)
  match res, z with
  | .error er, z => exact hx pins σ H s er s' I z
  | .ok (.ret u), z => exact I.after z
  | .ok .next, z => exact z.elim
  | .ok .brk, z => exact z.elim
  | .ok .cont, z => exact z.elim
/-- f(e, ..) -/
theorem pe_callG (hg : X.A.guards = some []) (F : FnG X.prog X.w X.K X.mg X.base CX k f fd ps sp) (hr : Room k X.A) (gl : Gl X x) (hm : X.mg x = some (.ref f)) (hk : PySem.W.keepIn X.K (.ref f) = true) (hb : Binds X.K fd ps []) (hx : Passes CX X E)
    (ha : PA X (e :: es) t) (hdb : (x == ("__debug__" : Str)) = false := by decide) (he : starEach (e :: es) X.env = (false, eval e X.env) :: starEach es X.env := by rfl) (hpl : (backTo pos (starEach es X.env)).any (·.1) = false := by rfl) :
    PE X (.Call (.Name x p) (e :: es) [] pos) (tCall sp [] E t) := by
  refine ⟨fun pins s σ H Q I h => wpAny_Call_Name_kw (ld_glob I gl hm ?_ hdb)⟩
  refine PySem.W.callWith_K (h₀ := X.base) I.ok.mod.kin hk (thn (ha.run pos pins s σ H _ I h) fun us s1 z => ?_) he hpl
  obtain ⟨vs, H1, I1, r, q⟩ := z
  rw [List.append_nil] at q
  exact ⟨I1.kIn, run_g hg F hr hb hx I1 r q⟩
/-- f() -/
theorem pe_callG0 (hg : X.A.guards = some []) (F : FnG X.prog X.w X.K X.mg X.base CX k f fd ps sp) (hr : Room k X.A) (gl : Gl X x) (hm : X.mg x = some (.ref f)) (hk : PySem.W.keepIn X.K (.ref f) = true) (hb : Binds X.K fd ps []) (hx : Passes CX X E)
    (hdb : (x == ("__debug__" : Str)) = false := by decide) : PE X (.Call (.Name x p) [] [] pos) (tCall sp [] E tNil) :=
  ⟨fun pins s σ H Q I h => wpAny_Call_Name_kw (ld_glob I gl hm (PySem.W.callWith_K0 I.kIn hk (run_g (us := []) hg F hr hb hx I .nil h)) hdb)⟩
end

/-- the law's call, from such a promise -/
theorem law_callG {P : Program} {w : World} {K : PySem.W.Frag} {mg mb : Str → Option Value} {CX : CXT} {k : Nat} {fa a : Addr} {fd : FuncData} {x : Str} {sp : Sp} {s1 : Shared} {vs : List Value} {ns : List Int}
    (kx : K.In s1.heap) (hns : s1.heap.Ns mainGlobals mg) (hb : s1.heap.Ns builtinsNs mb) (hbb : ∀ x : Str, x ≠ "__name__" → mb x = bootBuiltins x) (hlim : s1.heap.NoLimit) (hg : s1.gens = #[])
    (ha : s1.heap.get? a = some { cls := .type "list", data := .seq vs.toArray }) (hi : IntsAre vs ns) (hl : ns.length ≤ sizeLine) (hr : Room k callerA)
    (F : ∀ base : Heap, K.In base → base.Ns mainGlobals mg → FnG P w K mg base CX k fa fd [x] sp) (hbind : ∀ (s : Shared) (u : Value), BindsTo s fd ⟨[u], []⟩ [(x, u)])
    (hsp : ∀ H : Hp, Only H → SqL K H a (ns.map V.int) → sp [.ref a] H (fun v _ => v = .bl true) fun _ _ _ => False)
    (hCX : ∀ H e s', CX [] H s1 (fun _ _ _ => False) e s' → False) :
    codeAny (model P w) callerA (.call (.ref fa) ⟨[.ref a], []⟩) (fun r s' => r = .ok (.ret (.bool true)) ∧ OldK s1.heap s'.heap ∧ s'.os = s1.os ∧ AllBare s'.gens) s1 := by
  have rv := vals_ints hi
  have len := hi.length
  -- what is tracked: nothing, or the script alone, where it is no object of the module
  have go : ∀ H : Hp, Only H → SqL K H a (ns.map V.int) → HOk P w H s1.heap → (∀ b, H b ≠ none → b = a ∧ K.lookup a = none) → codeAny (model P w) callerA (.call (.ref fa) ⟨[.ref a], []⟩)
      (fun r s' => r = .ok (.ret (.bool true)) ∧ OldK s1.heap s'.heap ∧ s'.os = s1.os ∧ AllBare s'.gens) s1 := fun H hO hS hok hA => by
    have free : ∀ {b : Addr} {o : Obj}, s1.heap.get? b = some o → (b = a → False) → H b = none := fun {b o} _ n => by
      cases q : H b with
      | none => rfl
      | some u => exact (n (hA b (by rw [q]; exact fun z => nomatch z)).1).elim
    have nsK : ∀ {b : Addr} {m : Str → Option Value}, s1.heap.Ns b m → (hidT s1.heap H).Ns b m := fun {b m} ⟨o, es, ep, z, d, r⟩ =>
      ⟨o, es, ep, hidT_get z (free z fun e => by
        subst e
        rw [ha] at z
        cases z
        exact nomatch (show Data.seq vs.toArray _ = Data.dict es ep from d)), d, r⟩
    have kb : K.In (hidT s1.heap H) := fun b o z => by
      refine hidT_get (kx b o z) ?_
      cases q : H b with
      | none => rfl
      | some u =>
        obtain ⟨e1, e2⟩ := hA b (by rw [q]; exact fun y => nomatch y)
        subst e1
        rw [e2] at z
        cases z
    have md : Mod K mg (hidT s1.heap H) := ⟨kb, nsK hns, ⟨mb, nsK hb, hbb⟩, by obtain ⟨mc, h1, h2⟩ := hlim; exact ⟨mc, nsK h1, h2⟩⟩
    have e0 : Env0 P w K mg (hidT s1.heap H) callerA [] s1 H := ⟨rfl, md, fun b o z => of_hidT z, Nat.le_of_eq (hidT_size _ _), True.intro, (fun b z => by cases z), hok, .of_eq hg⟩
    refine codeAny_mono ((F _ kb (nsK hns)).run callerA [] s1 H ⟨[.ref a], []⟩ [.ref a] [.ref a] _ _ rfl hr e0 (hbind s1 (.ref a)) (.cons rfl .nil) (hsp H hO hS)) fun r s' z => ?_
    match r, z with
    | .error e, z => exact (hCX H e s' z).elim
    | .ok .next, z => exact z.elim
    | .ok .brk, z => exact z.elim
    | .ok .cont, z => exact z.elim
    | .ok (.ret u), z =>
      obtain ⟨v, H', os, bare, un, hok', r', q⟩ := z
      have q' : v = .bl true := q
      subst q'
      have r'' : u = Value.bool true := r'
      subst r''
      refine ⟨rfl, OldK.of_keep fun b o z => ?_, os, bare⟩
      rcases hO b with n | ⟨ob, xs, n⟩
      · exact un.keep b o z n (fun y => by cases y) (fun y => by cases y)
      · have e1 := (hok b _ n).1
        have e2 := (hok' b _ (un.frzs b ob _ n)).1
        rw [z] at e1
        cases e1
        exact e2
  cases hk : K.lookup a with
  | some o =>
    have e := kx a o hk
    rw [ha] at e
    cases e
    exact go (fun _ => none) (fun _ => .inl rfl) (.inr ⟨_, vs.toArray, _, hk, rfl, rfl, rfl, by rw [List.size_toArray, len]; exact hl, by simpa using rv⟩) (fun b u z => nomatch (show (none : Option HO) = some u from z)) fun b z => absurd rfl z
  | none =>
    have at_a : (fun b => if b = a then some (HO.frz { cls := .type "list", data := .seq vs.toArray } (.lst (ns.map V.int))) else none : Hp) a = some (HO.frz { cls := .type "list", data := .seq vs.toArray } (.lst (ns.map V.int))) := if_pos rfl
    refine go (fun b => if b = a then some (.frz { cls := .type "list", data := .seq vs.toArray } (.lst (ns.map V.int))) else none) (fun b => ?_) (.inl (.inr ⟨_, at_a⟩)) (fun b u z => ?_) fun b z => ?_
    · by_cases h : b = a
      · exact .inr ⟨_, _, if_pos h⟩
      · exact .inl (if_neg h)
    · by_cases h : b = a
      · subst h
        have z' := at_a.symm.trans z
        cases z'
        exact ⟨ha, by rw [List.length_map]; exact hl, vs, _, rv, ha⟩
      · have z' := (if_neg h).symm.trans z
        cases z'
    · by_cases h : b = a
      · exact ⟨h, hk⟩
      · exact absurd (if_neg h) z
/-- the goal that k_head leaves, from the law's promise -/
theorem walkG {l : PySem.W.OpenLaw} {n k : Nat} {q : Program} {loose : List Str} {XP : (Str → Option Value) → Heap → Prop} {YP : World → Heap → Prop} {d : DefRec} {K : Params → PySem.W.Frag} {CX : CXT} {sp : PySem.W.Frag → Sp} {x : Str}
    (hn : l.most = some n) (hn2 : n ≤ sizeLine) (hdf : d.params.defaults = []) (hr : Room k callerA)
    (hY : ∀ (w : World) (h : Heap), YP w h → (K w.params).In h)
    (F : ∀ (w : World) (mg : Str → Option Value) (fa : Addr) (h : Heap), (K w.params).In h → h.Ns mainGlobals mg → mg d.name = some (.ref fa) →
      ∃ fd : FuncData, (∀ (s : Shared) (u : Value), BindsTo s fd ⟨[u], []⟩ [(x, u)]) ∧
        ∀ base : Heap, (K w.params).In base → base.Ns mainGlobals mg → FnG l.prog w (K w.params) mg base CX k fa fd [x] (sp (K w.params)))
    (hsp : ∀ (K : PySem.W.Frag) (H : Hp) (a : Addr) (ns : List Int), ns.length ≤ n → Only H → SqL K H a (ns.map V.int) → sp K [.ref a] H (fun v _ => v = .bl true) fun _ _ _ => False)
    (hCX : ∀ (H : Hp) (s : Shared) (e : Value) (s' : Shared), CX [] H s (fun _ _ _ => False) e s' → False) :
    PySem.W.WalkO q loose XP YP l.row.toRowW d [] (fun f vs => PySem.call f vs) :=
  Att.attach_call hn hdf fun w s0 s1 mg mb fa o pm cd doc a vs ns G Y ho hd hcd hmg hobj hints hlen hg => by
    have kx := hY w _ Y
    obtain ⟨fd, hb, hF⟩ := F w mg fa _ kx G.T.g hmg
    exact law_callG kx G.T.g G.T.b G.T.builtins G.T.nolimit hg hobj hints (Nat.le_trans hlen hn2) hr hF hb (fun H hO hS => hsp _ H a ns hlen hO hS) fun H e s' => hCX H s1 e s'
end PF
/-! repr of nested lists, tuples and dicts, also with instances of the text's own classes within. -/
namespace PF
open PySem PySem.Spec PyProof.Rows L2 Evl

/-- which instances show what -/
abbrev RO := Addr → Str → Hp → Prop
structure ROk (O : RO) : Prop where
  up : ∀ {a : Addr} {x : Str} {H H' : Hp}, Ex H H' → O a x H → O a x H'
  ins : ∀ {a : Addr} {x : Str} {H : Hp}, O a x H → ∃ C dx fs, H a = some (.ins C dx fs)
  one : ∀ {a : Addr} {x y : Str} {H : Hp}, O a x H → O a y H → x = y
/-- a key of a dict as it is shown -/
def keyText : Key → Str
  | .inl i => toString i
  | .inr x => reprText x
def keyFits : Key → Prop
  | .inl i => i.natAbs.log2 < 1920
  | .inr x => (reprText x).length ≤ sizeLine
inductive Leaf (O : RO) (H : Hp) : V → Str → Prop where
  | non : Leaf O H .non "None"
  | bl (b : Bool) : Leaf O H (.bl b) (if b then "True" else "False")
  | int (i : Int) (h : i.natAbs.log2 < 1920) : Leaf O H (.int i) (toString i)
  | str (x : Str) (h : (reprText x).length ≤ sizeLine) : Leaf O H (.str x) (reprText x)
  | own (a : Addr) (x : Str) (h : O a x H) : Leaf O H (.ref a) x
/-- v is shown as x, nested at most n deep -/
def Sh (O : RO) (H : Hp) : Nat → V → Str → Prop
  | 0, v, x => Leaf O H v x
  | n + 1, v, x => Leaf O H v x ∨ (∃ a vs ts, v = .ref a ∧ H a = some (.lst vs) ∧ Paired (Sh O H n) vs ts ∧ x = listText ts) ∨ (∃ a vs ts, v = .ref a ∧ H a = some (.tup vs) ∧ Paired (Sh O H n) vs ts ∧ x = tupleText ts)
section
variable {O : RO} {H H' : Hp}
theorem pairedMap {α β : Type} {F G : α → β → Prop} (h : ∀ a b, F a b → G a b) : ∀ {l : List α} {r : List β}, Paired F l r → Paired G l r
  | _, _, .nil => .nil
  | _, _, .cons a b => .cons (h _ _ a) (pairedMap h b)
theorem pairedGet {α β : Type} {F : α → β → Prop} : ∀ {l : List α} {r : List β} {i : Nat} {a : α}, Paired F l r → l[i]? = some a → ∃ b, r[i]? = some b ∧ F a b
  | _, _, 0, _, .cons f _, e => by
    cases e
    exact ⟨_, rfl, f⟩
  | _, _, i + 1, a, .cons _ t, e => pairedGet (i := i) t e
theorem Leaf.sh {v : V} {x : Str} (h : Leaf O H v x) : ∀ n, Sh O H n v x
  | 0 => h
  | _ + 1 => .inl h
theorem Sh.step {v : V} {x : Str} : ∀ {n : Nat}, Sh O H n v x → Sh O H (n + 1) v x
  | 0, h => .inl h
  | n + 1, h => by
    rcases h with h | ⟨a, vs, ts, e, ha, p, ex⟩ | ⟨a, vs, ts, e, ha, p, ex⟩
    · exact .inl h
    · exact .inr (.inl ⟨a, vs, ts, e, ha, pairedMap (fun _ _ => Sh.step) p, ex⟩)
    · exact .inr (.inr ⟨a, vs, ts, e, ha, pairedMap (fun _ _ => Sh.step) p, ex⟩)
theorem Sh.le {v : V} {x : Str} {n m : Nat} (h : Sh O H n v x) (hm : n ≤ m) : Sh O H m v x := by
  induction hm with
  | refl => exact h
  | step _ ih => exact ih.step
theorem Leaf.up (k : ROk O) (e : Ex H H') {v : V} {x : Str} (h : Leaf O H v x) : Leaf O H' v x := by
  cases h with
  | non => exact .non
  | bl b => exact .bl b
  | int i h => exact .int i h
  | str x h => exact .str x h
  | own a x h => exact .own a x (k.up e h)
theorem Sh.up (k : ROk O) (e : Ex H H') : ∀ {n : Nat} {v : V} {x : Str}, Sh O H n v x → Sh O H' n v x
  | 0, _, _, h => Leaf.up k e h
  | n + 1, _, _, h => by
    rcases h with h | ⟨a, vs, ts, q, ha, p, ex⟩ | ⟨a, vs, ts, q, ha, p, ex⟩
    · exact .inl (h.up k e)
    · exact .inr (.inl ⟨a, vs, ts, q, e _ _ ha, pairedMap (fun _ _ => Sh.up k e) p, ex⟩)
    · exact .inr (.inr ⟨a, vs, ts, q, e _ _ ha, pairedMap (fun _ _ => Sh.up k e) p, ex⟩)
theorem pairedOne {F G : V → Str → Prop} (h : ∀ v x y, F v x → G v y → x = y) : ∀ {vs : List V} {xs ys : List Str}, Paired F vs xs → Paired G vs ys → xs = ys
  | _, _, _, .nil, .nil => rfl
  | _, _, _, .cons a b, .cons c d => by rw [h _ _ _ a c, pairedOne h b d]
theorem Leaf.one (k : ROk O) {v : V} {x y : Str} (h : Leaf O H v x) (h' : Leaf O H v y) : x = y := by
  cases h with
  | non => cases h'; rfl
  | bl b => cases h'; rfl
  | int i h => cases h'; rfl
  | str x h => cases h'; rfl
  | own a x h =>
    cases h' with
    | own _ _ h' => exact k.one h h'
theorem leaf_no (k : ROk O) {a : Addr} {x : Str} {o : HO} (h : Leaf O H (.ref a) x) (ha : H a = some o) (hn : ∀ C dx fs, o ≠ .ins C dx fs) : False := by
  cases h with
  | own _ _ h =>
    obtain ⟨C, dx, fs, e⟩ := k.ins h
    rw [ha] at e
    exact hn C dx fs (Option.some.inj e)
theorem Sh.one (k : ROk O) : ∀ (n m : Nat) (v : V) (x y : Str), Sh O H n v x → Sh O H m v y → x = y
  | 0, 0, _, _, _, h, h' => Leaf.one k h h'
  | 0, m + 1, v, x, y, h, h' => by
    rcases h' with h' | ⟨a, vs, ts, rfl, ha, _⟩ | ⟨a, vs, ts, rfl, ha, _⟩
    · exact Leaf.one k h h'
    · exact (leaf_no k h ha fun _ _ _ z => nomatch z).elim
    · exact (leaf_no k h ha fun _ _ _ z => nomatch z).elim
  | n + 1, 0, v, x, y, h, h' => by
    rcases h with h | ⟨a, vs, ts, rfl, ha, _⟩ | ⟨a, vs, ts, rfl, ha, _⟩
    · exact Leaf.one k h h'
    · exact (leaf_no k h' ha fun _ _ _ z => nomatch z).elim
    · exact (leaf_no k h' ha fun _ _ _ z => nomatch z).elim
  | n + 1, m + 1, v, x, y, h, h' => by
    rcases h with h | ⟨a, vs, ts, rfl, ha, p, ex⟩ | ⟨a, vs, ts, rfl, ha, p, ex⟩ <;> rcases h' with h' | ⟨b, ws, us, e, hb, q, ey⟩ | ⟨b, ws, us, e, hb, q, ey⟩
    · exact Leaf.one k h h'
    · subst e
      exact (leaf_no k h hb fun _ _ _ z => nomatch z).elim
    · subst e
      exact (leaf_no k h hb fun _ _ _ z => nomatch z).elim
    · exact (leaf_no k h' ha fun _ _ _ z => nomatch z).elim
    · cases e
      rw [ha] at hb
      cases hb
      rw [ex, ey, pairedOne (fun v x y => Sh.one k n m v x y) p q]
    · cases e
      rw [ha] at hb
      cases hb
    · exact (leaf_no k h' ha fun _ _ _ z => nomatch z).elim
    · cases e
      rw [ha] at hb
      cases hb
    · cases e
      rw [ha] at hb
      cases hb
      rw [ex, ey, pairedOne (fun v x y => Sh.one k n m v x y) p q]
end

/-- the running guards are of none that is shown so deep -/
def NotIn (O : RO) (H : Hp) (n : Nat) (g : List Code) : Prop := ∀ id a rest kw, Code.builtin id ⟨.ref a :: rest, kw⟩ ∈ g → ∀ y, ¬ Sh O H n (.ref a) y
theorem NotIn.clear {O : RO} {H : Hp} {n : Nat} {g : List Code} {a : Addr} {x : Str} (h : NotIn O H n g) (s : Sh O H n (.ref a) x) : Clear g a := fun id v rest kw hm e => by
  subst e
  exact h id a rest kw hm x s
theorem NotIn.less {O : RO} {H : Hp} {n : Nat} {g : List Code} (h : NotIn O H (n + 1) g) : NotIn O H n g := fun id a rest kw hm y s => h id a rest kw hm y s.step
theorem NotIn.more {O : RO} {H : Hp} {n : Nat} {g : List Code} {a : Addr} {id : String} {rest : List Value} (h : NotIn O H n g) (s : ∀ y, ¬ Sh O H n (.ref a) y) : NotIn O H n (.builtin id ⟨.ref a :: rest, []⟩ :: g) := fun id' a' rest' kw hm y => by
  rcases List.mem_cons.mp hm with e | hm
  · cases e
    exact s y
  · exact h id' a' rest' kw hm y
/-- what is left behind: the text, and a heap with more in it -/
def After (X : Cx) (pins : List (Addr × Obj)) (σ : L2.St) (H : Hp) (s' : Shared) : Prop := ∃ H', Inv X pins σ H' s' ∧ Ex H H'
/-- the own instances show what O says, wherever -/
def OShow (X : Cx) (m : Nat) (O : RO) : Prop := ∀ (A : Around) (pins : List (Addr × Obj)) (s : Shared) (σ : L2.St) (H : Hp) (a : Addr) (x : Str), Sub X m A → Inv X pins σ H s → O a x H →
  wpAny (model X.prog X.w) A (call (.builtin "repr") [.ref a]) (fun v s' => (∃ t, v = .str x t) ∧ After X pins σ H s') X.xe s ∧ ∀ base, wpAny (model X.prog X.w) A (pyReprObjUnder base (.ref a)) (fun v s' => (∃ t, v = .str x t) ∧ After X pins σ H s') X.xe s
theorem OShow.more {X : Cx} {m n : Nat} {O : RO} (h : OShow X m O) (hm : m ≤ n) : OShow X n O := fun A pins s σ H a x sb => h A pins s σ H a x (sb.mono hm)

section
variable {X : Cx} {pins : List (Addr × Obj)} {σ : L2.St} {H : Hp} {s : Shared}
theorem After.trans {H1 : Hp} {s' : Shared} (e : Ex H H1) (h : After X pins σ H1 s') : After X pins σ H s' := by
  obtain ⟨H', I, e'⟩ := h
  exact ⟨H', I, e.trans e'⟩
theorem After.tok {t : Nat} {s' : Shared} (h : After X pins σ H s') : After X pins σ H { s' with toks := t } := by
  obtain ⟨H', I, e'⟩ := h
  exact ⟨H', I.tok t, e'⟩
theorem room_loop {n : Nat} {A : Around} {id : String} {args : Args} (r : Room (n + 1) A) (hd : (A.under (.builtin id args)).depth ≤ A.depth + 1) (hu : (A.under (.builtin id args)).units = A.units + 1) : Room n (A.under (.builtin id args)) :=
  ⟨r.hd, by have := r.dp; omega, by have := r.un; rw [hu]; omega⟩
theorem depth_loop {A : Around} {id : String} {args : Args} (h : (Code.builtin id args).weight ≤ 1) : (A.under (.builtin id args)).depth ≤ A.depth + 1 := by
  show A.depth + (Code.builtin id args).weight ≤ A.depth + 1
  omega
theorem sub_loop {n : Nat} {A : Around} {id : String} {args : Args} (sb : Sub X (n + 1) A) (hd : (Code.builtin id args).weight ≤ 1) (hu : (A.under (.builtin id args)).units = A.units + 1) (hf : (A.under (.builtin id args)).frames = A.frames) : Sub X n (A.under (.builtin id args)) :=
  ⟨room_loop sb.room (depth_loop hd) hu, hf.trans sb.fr⟩

/-- a record of ours, beyond all that the invariant knows -/
structure Part (X : Cx) (pins : List (Addr × Obj)) (P : Addr) : Prop where
  ab : X.s_0.heap.objs.size ≤ P
  loc : P ≠ X.env.locals
  np : ∀ p ∈ X.pn ++ pins, p.1 ≠ P
  cl : ∀ x c, X.env.cells.lookup x = some c → c ≠ P
  fs : P ∉ X.fs
theorem part_new (I : Inv X pins σ H s) : Part X pins s.heap.objs.size where
  ab := I.sz
  loc := Nat.ne_of_gt I.lt
  np := fun p hp => Nat.ne_of_lt (Heap.lt_size (I.pin p hp).1)
  cl := fun x c e => by
    obtain ⟨v, o, ho, _⟩ := I.cell x c e
    exact Nat.ne_of_lt (Heap.lt_size ho)
  fs := I.nofs (Nat.le_refl _)
/-- our record is turned -/
theorem part_turn {P : Addr} {o o' : Obj} {h' : Heap} {t' : Nat} (p : Part X pins P) (I : Inv X ((P, o) :: pins) σ H s) (k : ∀ b u, b ≠ P → s.heap.get? b = some u → h'.get? b = some u) (ho : h'.get? P = some o') (hc : ∀ v, o'.data ≠ .cell v) :
    Inv X ((P, o') :: pins) σ H { s with heap := h', toks := t' } := by
  have n := ClX.pin_un I
  have I1 := (ClX.unpin I).turned (t' := t') k n p.loc (.inr p.ab) p.cl p.np
  refine I1.pins_of fun q hq => ?_
  rcases List.mem_cons.mp hq with e | e
  · subst e
    exact ⟨ho, n, p.loc, p.fs, hc⟩
  · exact I1.pin q (List.mem_append_right _ e)
end
end PF
/-! repr: the loop over a list's items, a tuple's, and the call. -/
namespace PF
open PySem PySem.Spec PyProof.Rows L2 Evl
theorem weight_le {id : String} {args : Args} (e1 : (Code.builtin id args).isCreation = false := by rfl) (e2 : (Code.builtin id args).isCaller = false := by rfl) (e3 : (Code.builtin id args).frames = 0 := by rfl) : (Code.builtin id args).weight ≤ 1 := by
  unfold Code.weight
  rw [e1, e2, e3]
  cases (Code.builtin id args).isGuard <;> decide
section
variable {X : Cx} {O : RO} {H0 : Hp}
/-- each of these is shown by pyReprUnder -/
def Shows (X : Cx) (O : RO) (H0 : Hp) (m n : Nat) : Prop := ∀ (v : V) (x : Str), Sh O H0 n v x → ∀ (A : Around) (g : List Code) (pins : List (Addr × Obj)) (s : Shared) (σ : L2.St) (H : Hp) (u : Value) (b : Nat), Sub X (m + n) A → A.guards = some g → NotIn O H0 n g → Ex H0 H → Inv X pins σ H s → RelV v u →
  b + x.length ≤ sizeLine → wpAny (model X.prog X.w) A (pyReprUnder b u) (fun r s' => r = x ∧ After X pins σ H s') X.xe s
/-- what a builtin's body that writes a text leaves -/
def TextR (X : Cx) (pins : List (Addr × Obj)) (σ : L2.St) (H : Hp) (x : Str) (r : Result) (s' : Shared) : Prop :=
  match r with
  | .ok (.ret v) => (∃ t, v = .str x t) ∧ After X pins σ H s'
  | .ok _ => False
  | .error e => X.xe e s'
theorem mem_drop {α : Type} {l : List α} {i : Nat} {x : α} (h : l[i]? = some x) : l.drop i = x :: l.drop (i + 1) := by
  obtain ⟨hi, e⟩ := List.getElem?_eq_some_iff.mp h
  rw [List.drop_eq_getElem_cons hi, e]
theorem list_loop {m n : Nat} (ih : Shows X O H0 m n) {a P : Addr} {vs : List V} {ts : List Str} (ha : H0 a = some (.lst vs)) (p : Paired (Sh O H0 n) vs ts) (no : ∀ y, ¬ Sh O H0 n (.ref a) y)
    {A : Around} {g : List Code} {pins : List (Addr × Obj)} {σ : L2.St} {H : Hp} (sb : Sub X (m + (n + 1)) A) (hg : A.guards = some g) (hn : NotIn O H0 n g) (pt : Part X pins P) (b : Nat) (hsz : b + (listText ts).length ≤ sizeLine) :
    ∀ (left i : Nat) (s : Shared) (H1 : Hp) (acc : Array Value) (c : Nat) (done : List (Str × Tok)), left = vs.length - i → i ≤ vs.length → Ex H H1 → Ex H0 H1 → Inv X ((P, { cls := .type "list", dict := none, data := .seq acc c, slots := #[] }) :: pins) σ H1 s →
      acc.toList = strValues done → done.map (·.1) = ts.take i →
      codeAny (model X.prog X.w) A (.builtin "list.__repr__.loop" ⟨[.ref a, rawInt i, .ref P, rawInt ((b + piled (ts.take i) : Nat) : Int)], []⟩) (TextR X pins σ H (listText ts)) s := by
  have lens : ts.length = vs.length := (Paired.length p).symm
  have tl := textFrom_len ts 0 "["
  have wl : (listText ts).length = (textFrom 0 "[" ts).length + 1 := by
    show (textFrom 0 "[" ts ++ ("]" : Str)).length = (textFrom 0 "[" ts).length + 1
    rw [strLen_append]
    rfl
  have few : vs.length ≤ sizeLine := by
    have z := tl.1
    rw [if_neg (Nat.lt_irrefl 0)] at z
    omega
  have pl := piled_le_listText ts
  intro left
  induction left with
  | zero =>
    intro i s H1 acc c done hl hi e1 e0 I hacc hdone
    have at_end : i = vs.length := by omega
    obtain ⟨z, its, k, r, ea⟩ := I.hok a _ (e0 _ _ ha)
    refine codeAny_builtin PySem.F.entry_list_repr_loop ?_
    show wpAny _ _ (Builtin.«list.__repr__.loop» ⟨[.ref a, .int i 0, .ref P, .int ((b + piled (ts.take i) : Nat) : Int) 0], []⟩) _ _ s
    rw [repr_loop_tree]
    refine wpAny_bind (wpAny_listItems ea rfl ?_)
    have none_left : its.toArray[(i : Int).toNat]? = none := by
      rw [Int.toNat_natCast]
      simp [at_end, r.length]
    rw [none_left]
    show wpAny _ _ (reprEnd (.ref P)) _ _ s
    unfold reprEnd
    refine wpAny_bind (wpAny_listItems (ClX.pin_at I) rfl ?_)
    rw [hacc, repr_fold]
    have all : done.map (·.1) = ts := by rw [hdone, at_end, ← lens, List.take_length]
    rw [all]
    refine wpAny_bind (wpAny_pure (wpAny_bind (wpAny_mkStr (wpAny_pure ?_) (show (listText ts).length ≤ sizeLine by omega))))
    exact ⟨⟨_, rfl⟩, H1, (ClX.unpin I).tok _, e1⟩
  | succ left go =>
    intro i s H1 acc c done hl hi e1 e0 I hacc hdone
    have lt : i < vs.length := by omega
    obtain ⟨z, its, k, r, ea⟩ := I.hok a _ (e0 _ _ ha)
    obtain ⟨u, hu, ru⟩ := r.get (List.getElem?_eq_getElem lt)
    obtain ⟨t, ht, sh⟩ := pairedGet p (List.getElem?_eq_getElem lt)
    have p1 := piled_take_succ ht
    have p2 := piled_take_le ts (i + 1)
    have tsz : t.length ≤ sizeLine := by have := tl.2.1 t (List.mem_of_getElem? ht); omega
    refine codeAny_builtin PySem.F.entry_list_repr_loop ?_
    show wpAny _ _ (Builtin.«list.__repr__.loop» ⟨[.ref a, .int i 0, .ref P, .int ((b + piled (ts.take i) : Nat) : Int) 0], []⟩) _ _ s
    rw [repr_loop_tree]
    refine wpAny_bind (wpAny_listItems ea rfl ?_)
    have item : its.toArray[(i : Int).toNat]? = some u := by
      rw [Int.toNat_natCast]
      simpa using hu
    rw [item]
    have sb1 : Sub X (m + n) (A.under (.builtin "list.__repr__.loop" ⟨[.ref a, rawInt i, .ref P, rawInt ((b + piled (ts.take i) : Nat) : Int)], []⟩)) := sub_loop (n := m + n) sb weight_le (units_under_list_loop _ _) rfl
    refine wpAny_bind (wpAny_holding (wpAny_mono (ih _ t sh _ _ _ s σ H1 u (b + piled (ts.take i) + 1) sb1 (guards_under_guard (isGuard_list_loop _) hg) (hn.more no) e0 I ru (by omega)) (fun q s2 z2 => ?_) fun _ _ z => z))
    obtain ⟨rfl, H2, I2, e2⟩ := z2
    refine wpAny_bind (wpAny_mkStr (wpAny_bind ?_) tsz)
    have accsz : acc.size ≤ sizeLine := by
      have a1 : acc.size = done.length := by
        rw [← Array.length_toList, hacc]
        simp [strValues]
      have a2 : done.length ≤ i := by
        rw [← List.length_map (f := (·.1)), hdone, List.length_take]
        omega
      omega
    show wpAny _ _ (updateSeq P _) _ _ _
    refine wpAny_updateSeq (ClX.pin_at (I2.tok _)) rfl (wpAny_pure ⟨PySem.F.quiet_list_repr_loop _, ?_⟩) accsz
    have n1 : (i : Int) + 1 = ((i + 1 : Nat) : Int) := by omega
    have n2 : b + piled (ts.take i) + (q.length + 2) = b + piled (ts.take (i + 1)) := by omega
    rw [n1]
    show codeAny _ _ (.builtin "list.__repr__.loop" ⟨[.ref a, rawInt ((i + 1 : Nat) : Int), .ref P, rawInt (((b + piled (ts.take i) + (q.length + 2) : Nat)) : Int)], []⟩) _ _
    rw [n2]
    refine go (i + 1) _ H2 (acc.push (.str q s2.toks)) _ (done ++ [(q, s2.toks)]) (by omega) lt (e1.trans e2) (e0.trans e2)
      (part_turn (t' := s2.toks + 1) pt (I2.tok (s2.toks + 1)) (fun b u hb e => (Heap.get?_update_other _ _ (fun z => hb z.symm)).trans e) (Heap.get?_update_self _ (ClX.pin_at I2) rfl) (fun v z => nomatch z)) (by simp [hacc, strValues]) (by simp [List.take_add_one, ht, hdone])
/-- the body of list.__repr__ -/
theorem list_at {m n : Nat} (ih : Shows X O H0 m n) {a : Addr} {vs : List V} {ts : List Str} (ha : H0 a = some (.lst vs)) (p : Paired (Sh O H0 n) vs ts) (no : ∀ y, ¬ Sh O H0 n (.ref a) y)
    {A : Around} {g : List Code} {pins : List (Addr × Obj)} {s : Shared} {σ : L2.St} {H : Hp} (sb : Sub X (m + (n + 1)) A) (hg : A.guards = some g) (hn : NotIn O H0 (n + 1) g) (e0 : Ex H0 H) (I : Inv X pins σ H s) (b : Nat) (hsz : b + (listText ts).length ≤ sizeLine) :
    wpAny (model X.prog X.w) A.in1 (Builtin.listReprAt b ⟨[.ref a], []⟩) (fun fin s' => match fin with | .done f => TextR X pins σ H (listText ts) (.ok f) s' | .again c' => c'.quiet = true ∧ codeAny (model X.prog X.w) A c' (TextR X pins σ H (listText ts)) s')
      (fun e s' => TextR X pins σ H (listText ts) (.error e) s') s := by
  obtain ⟨z, its, k, r, ea⟩ := I.hok a _ (e0 _ _ ha)
  cases p with
  | nil =>
    cases r
    refine wpAny_list_repr_empty (n := k) ea rfl ?_
    exact ⟨⟨_, by rw [listText_nil]⟩, H, I.tok _, Ex.refl H⟩
  | @cons v t vs' ts' h1 h2 =>
    obtain ⟨u, us, rfl⟩ : ∃ u us, its = u :: us := by
      cases r with
      | cons _ _ => exact ⟨_, _, rfl⟩
    have cl : Clear g a := hn.clear (x := listText (t :: ts')) (.inr (.inl ⟨a, _, _, rfl, ha, .cons h1 h2, rfl⟩))
    refine wpAny_list_repr_head (A := A.in1) hg (fun w rest kw hm => listSameRef_of_ne (cl _ _ _ _ hm)) ea rfl (wpAny_bind (m := newList []) (wpAny_newObj_type (wpAny_pure ⟨PySem.F.quiet_list_repr_loop _, ?_⟩)))
    have pt := part_new I
    have I1 : Inv X ((s.heap.objs.size, { cls := .type "list", dict := none, data := .seq #[] 0, slots := #[] }) :: pins) σ H { s with heap := s.heap.push { cls := .type "list", dict := none, data := .seq #[] 0 } } :=
      ClX.pin_new (t' := s.toks) I (fun _ _ q => Heap.get?_push_of_some _ q) (Nat.le_refl _) (Heap.get?_push_size _ rfl) (fun v q => nomatch q)
    exact list_loop ih ha (.cons h1 h2) no sb hg hn.less pt b hsz _ 0 _ H #[] 0 [] rfl (Nat.zero_le _) (Ex.refl H) e0 I1 rfl rfl
/-- a flat thing, an instance -/
theorem leafU {m : Nat} (k : ROk O) (own : OShow X m O) {v : V} {x : Str} (h : Leaf O H0 v x) {A : Around} {pins : List (Addr × Obj)} {s : Shared} {σ : L2.St} {H : Hp} {u : Value} {b : Nat} (sb : Sub X m A) (e0 : Ex H0 H) (I : Inv X pins σ H s) (r : RelV v u) (sz : b + x.length ≤ sizeLine) :
    wpAny (model X.prog X.w) A (pyReprUnder b u) (fun r s' => r = x ∧ After X pins σ H s') X.xe s := by
  cases h with
  | non => cases r; exact ReprIs.none b sz A _ s _ fun tk => ⟨rfl, H, I.tok tk, Ex.refl H⟩
  | bl c => cases r; exact ReprIs.bool c b sz A _ s _ fun tk => ⟨rfl, H, I.tok tk, Ex.refl H⟩
  | int i hi => obtain ⟨t, rfl⟩ := r; exact ReprIs.int t hi b sz A _ s _ fun tk => ⟨rfl, H, I.tok tk, Ex.refl H⟩
  | str y hy => obtain ⟨t, rfl⟩ := r; exact ReprIs.str y t hy b sz A _ s _ fun tk => ⟨rfl, H, I.tok tk, Ex.refl H⟩
  | own a y ha =>
    cases r
    refine wpAny_pyReprUnder_ref (by omega) (wpAny_mono ((own A pins s σ H a x sb I (k.up e0 ha)).2 b) (fun w s' q => ?_) fun _ _ q => q)
    obtain ⟨⟨t, rfl⟩, af⟩ := q
    exact ⟨x, t, rfl, rfl, af⟩
/-- from the wish of a body to the wish of its call -/
theorem text_end {pins : List (Addr × Obj)} {s : Shared} {σ : L2.St} {H : Hp} {x : Str} {A A' : Around} {t : Sem Fin}
    (h : wpAny (model X.prog X.w) A' t (fun fin s' => match fin with | .done f => TextR X pins σ H x (.ok f) s' | .again c' => c'.quiet = true ∧ codeAny (model X.prog X.w) A c' (TextR X pins σ H x) s') (fun e s' => TextR X pins σ H x (.error e) s') s) :
    wpAny (model X.prog X.w) A' t (fun fin s' => match fin with | .done f => callEnd (fun w s' => (∃ t, w = .str x t) ∧ After X pins σ H s') X.xe (.ok f) s' | .again c' => c'.quiet = true ∧ codeAny (model X.prog X.w) A c' (callEnd (fun w s' => (∃ t, w = .str x t) ∧ After X pins σ H s') X.xe) s')
      (fun e s' => callEnd (fun w s' => (∃ t, w = .str x t) ∧ After X pins σ H s') X.xe (.error e) s') s := by
  have go : ∀ r s', TextR X pins σ H x r s' → callEnd (fun w s' => (∃ t, w = .str x t) ∧ After X pins σ H s') X.xe r s' := fun r s' q => by
    match r, q with
    | .ok (.ret v), q => exact q
    | .ok .next, q => exact q
    | .ok .brk, q => exact q
    | .ok .cont, q => exact q
    | .error e, q => exact q
  refine wpAny_mono h (fun fin s' q => ?_) fun e s' q => q
  match fin, q with
  | .done f, q => exact go _ _ q
  | .again c, q => exact ⟨q.1, codeAny_mono q.2 go⟩
theorem text_endO {pins : List (Addr × Obj)} {s : Shared} {σ : L2.St} {H : Hp} {x : Str} {A : Around} {c : Code} {t : Sem Fin}
    (h : wpOwn (model X.prog X.w) A c t (fun fin s' => match fin with | .done f => TextR X pins σ H x (.ok f) s' | .again c' => c'.quiet = true ∧ codeAny (model X.prog X.w) A c' (TextR X pins σ H x) s') (fun e s' => TextR X pins σ H x (.error e) s') s) :
    wpOwn (model X.prog X.w) A c t (fun fin s' => match fin with | .done f => callEnd (fun w s' => (∃ t, w = .str x t) ∧ After X pins σ H s') X.xe (.ok f) s' | .again c' => c'.quiet = true ∧ codeAny (model X.prog X.w) A c' (callEnd (fun w s' => (∃ t, w = .str x t) ∧ After X pins σ H s') X.xe) s')
      (fun e s' => callEnd (fun w s' => (∃ t, w = .str x t) ∧ After X pins σ H s') X.xe (.error e) s') s := by
  have go : ∀ r s', TextR X pins σ H x r s' → callEnd (fun w s' => (∃ t, w = .str x t) ∧ After X pins σ H s') X.xe r s' := fun r s' q => by
    match r, q with
    | .ok (.ret v), q => exact q
    | .ok .next, q => exact q
    | .ok .brk, q => exact q
    | .ok .cont, q => exact q
    | .error e, q => exact q
  intro Γ p hc hb
  refine Sem.wp_mono _ _ _ (fun fin _ s' q => ?_) (fun e _ s' q => q) _ _ (h Γ p hc hb)
  match fin, q with
  | .done f, q => exact go _ _ q
  | .again c, q => exact ⟨q.1, codeAny_mono q.2 go⟩
/-- the fold over a tuple's items -/
theorem tup_fold {m n : Nat} (ih : Shows X O H0 m n) {A : Around} {g : List Code} {pins : List (Addr × Obj)} {σ : L2.St} (sb : Sub X (m + n) A) (hg : A.guards = some g) (hn : NotIn O H0 n g) : ∀ (vs : List V) (us : List Value) (ts : List Str) (acc : Array Str) (k : Nat) (s : Shared) (H : Hp)
    (Q : (Array Str × Nat) → Shared → Prop), Vals vs us → Paired (Sh O H0 n) vs ts → Ex H0 H → Inv X pins σ H s → k + piled ts ≤ sizeLine → (∀ s', After X pins σ H s' → Q ⟨acc ++ ts.toArray, k + piled ts⟩ s') → wpAny (model X.prog X.w) A (forIn us (⟨acc, k⟩ : (Array Str × Nat)) tupBody) Q X.xe s
  | _, _, _, acc, k, s, H, Q, .nil, .nil, _, I, _, q => by
    rw [List.forIn_nil]
    have z := q s ⟨H, I, Ex.refl H⟩
    exact wpAny_pure (by simpa [piled] using z)
  | _, _, _, acc, k, s, H, Q, @Paired.cons _ _ _ v u vs us r rs, @Paired.cons _ _ _ _ t _ ts h hs, e, I, sz, q => by
    rw [piled_cons] at sz
    rw [List.forIn_cons]
    refine wpAny_bind (wpAny_bind (wpAny_mono (ih v t h A g pins s σ H u (k + 1) sb hg hn e I r (by omega)) (fun x s1 z => wpAny_pure ?_) fun _ _ z => z))
    obtain ⟨rfl, H1, I1, e1⟩ := z
    refine tup_fold ih sb hg hn vs us ts (acc.push x) (k + (x.length + 2)) s1 H1 Q rs hs (e.trans e1) I1 (by omega) fun s' a => ?_
    have z := q s' (a.trans e1)
    have n1 : k + piled (x :: ts) = k + (x.length + 2) + piled ts := by rw [piled_cons]; omega
    rw [n1] at z
    simpa using z
/-- the body of tuple.__repr__ -/
theorem tuple_at {m n : Nat} (ih : Shows X O H0 m n) {a : Addr} {vs : List V} {ts : List Str} (ha : H0 a = some (.tup vs)) (p : Paired (Sh O H0 n) vs ts) (no : ∀ y, ¬ Sh O H0 n (.ref a) y)
    {A : Around} {g : List Code} {pins : List (Addr × Obj)} {s : Shared} {σ : L2.St} {H : Hp} (sb : Sub X (m + (n + 1)) A) (hg : A.guards = some g) (hn : NotIn O H0 (n + 1) g) (e0 : Ex H0 H) (I : Inv X pins σ H s) (b : Nat) (hsz : b + (tupleText ts).length ≤ sizeLine)
    {id : String} {rest : List Value} (h1 : (Code.builtin id ⟨.ref a :: rest, []⟩).isGuard = true) (h2 : (A.under (.builtin id ⟨.ref a :: rest, []⟩)).units = A.units + 1) (h3 : (Code.builtin id ⟨.ref a :: rest, []⟩).weight ≤ 1) (h4 : (A.under (.builtin id ⟨.ref a :: rest, []⟩)).frames = A.frames) :
    wpOwn (model X.prog X.w) A (.builtin id ⟨.ref a :: rest, []⟩) (Builtin.tupleReprAt b ⟨[.ref a], []⟩) (fun fin s' => match fin with | .done f => TextR X pins σ H (tupleText ts) (.ok f) s' | .again c' => c'.quiet = true ∧ codeAny (model X.prog X.w) A c' (TextR X pins σ H (tupleText ts)) s')
      (fun e s' => TextR X pins σ H (tupleText ts) (.error e) s') s := by
  have cl : Clear g a := hn.clear (x := tupleText ts) (.inr (.inr ⟨a, _, _, rfl, ha, p, rfl⟩))
  obtain ⟨z, its, r, o, ea, ec, k, ed⟩ := I.hok a _ (e0 _ _ ha)
  have lens : ts.length = its.toArray.size := by
    rw [List.size_toArray, ← r.length]
    exact (Paired.length p).symm
  have pl := piled_le_tupleText ts
  rw [tuple_repr_tree, tupleReprUnderWay_eq]
  refine wpOwn_bind (wpOwn_stackTailAny hg (tupGuardF_off _) (tupGuardF_pos _) ?_)
  have off : (g.any fun c => tupGuardF (.ref a) (c, default)) = false := List.any_eq_false.mpr fun c hc => by
    rw [tupGuardF_of_clear cl c hc]
    decide
  rw [off]
  refine wpOwn_of_wpAny ?_
  show wpAny _ _ (tupleReprRest b (.ref a)) _ _ s
  unfold tupleReprRest Builtin.Tuple.tupleItemsOf
  refine wpAny_bind (wpAny_bind (wpAny_seqItems ea ed (wpAny_pure ?_)))
  rw [← Array.forIn_toList]
  have sb1 : Sub X (m + n) (A.under (.builtin id ⟨.ref a :: rest, []⟩)) := sub_loop (n := m + n) sb h3 h2 h4
  refine wpAny_bind (tup_fold ih sb1 (guards_under_guard h1 hg) (hn.less.more no) vs its ts #[] b s H _ r p e0 I (by omega) fun s' af => ?_)
  refine wpAny_bind (wpAny_mkStr (wpAny_pure ?_) (by simpa [tupleText, lens] using (show (tupleText ts).length ≤ sizeLine by omega)))
  exact ⟨⟨_, by simp [tupleText, lens]; rfl⟩, af.tok⟩
/-- THE THEOREM: what is shown is written so -/
theorem shows_all {m : Nat} (k : ROk O) (own : OShow X m O) (n : Nat) : Shows X O H0 m n := by
  induction n with
  | zero =>
    intro v x h A g pins s σ H u b sb hg hn e0 I r sz
    exact leafU k own h (sb.mono (Nat.le_refl _)) e0 I r sz
  | succ n ih =>
    intro v x h A g pins s σ H u b sb hg hn e0 I r sz
    by_cases low : ∃ y, Sh O H0 n v y
    · obtain ⟨y, hy⟩ := low
      have e := Sh.one k n (n + 1) v y x hy h
      subst e
      exact ih v y hy A g pins s σ H u b (sb.mono (by omega)) hg hn.less e0 I r sz
    · have no : ∀ y, ¬ Sh O H0 n v y := fun y hy => low ⟨y, hy⟩
      rcases h with h | ⟨a, vs, ts, rfl, ha, p, rfl⟩ | ⟨a, vs, ts, rfl, ha, p, rfl⟩
      · exact (no x (h.sh n)).elim
      · cases r
        obtain ⟨z, its, kk, rr, ea⟩ := I.hok a _ (e0 _ _ ha)
        have body := list_at ih ha p no sb hg hn e0 I b sz
        refine wpAny_pyReprUnder_ref (by omega) (wpAny_pyReprObjUnder_twin (twin := "list.__repr__.under") ⟨_, ea, rfl⟩ PySem.F.slot_list_repr.toG rfl sb.room.units0 ?_)
        refine wpAny_mono (call_twin_plain (Q := fun w s' => (∃ t, w = .str (listText ts) t) ∧ After X pins σ H s') (E := X.xe) PySem.F.plain_list_repr_under PySem.F.entry_list_repr_under PySem.F.check_list_repr_under ⟨_, ea, rfl⟩ PySem.F.slot_list_repr.toG (PySem.F.args_list_repr_1 _) (text_end body)) (fun w s' q => ?_) fun _ _ q => q
        obtain ⟨⟨t, rfl⟩, af⟩ := q
        exact ⟨⟨_, _, rfl⟩, _, _, rfl, rfl, af⟩
      · cases r
        obtain ⟨z, its, rr, o, ea, ec, kk, ed⟩ := I.hok a _ (e0 _ _ ha)
        have body := tuple_at ih ha p no sb hg hn e0 I b sz (id := "tuple.__repr__.under") (rest := [rawInt b]) (isGuard_tuple_repr_under _) (units_under_tuple_repr_under _ _) weight_le rfl
        refine wpAny_pyReprUnder_ref (by omega) (wpAny_pyReprObjUnder_twin (twin := "tuple.__repr__.under") ⟨_, ea, ec⟩ PySem.F.slot_tuple_repr rfl sb.room.units0 ?_)
        refine wpAny_mono (call_twin_own (Q := fun w s' => (∃ t, w = .str (tupleText ts) t) ∧ After X pins σ H s') (E := X.xe) (PySem.F.quiet_tuple_repr_under _) PySem.F.entry_tuple_repr_under PySem.F.check_tuple_repr_under ⟨_, ea, ec⟩ PySem.F.slot_tuple_repr (PySem.F.args_tuple_repr_1 _) (text_endO body)) (fun w s' q => ?_) fun _ _ q => q
        obtain ⟨⟨t, rfl⟩, af⟩ := q
        exact ⟨⟨_, _, rfl⟩, _, _, rfl, rfl, af⟩
end
end PF
/-! repr(x), str(x), of whatever is shown; own texts. -/
namespace PF
open PySem PySem.Spec PyProof.Rows L2 Evl
section
variable {prog : Program} {w : World} {A : Around} {E : Value → Shared → Prop} {s : Shared}
/-- repr(v) by the slot of v's type -/
theorem repr_slot {T id : String} {v : Value} {Q : Value → Shared → Prop} (hT : s.TypeIs v T) (slot : SlotG T (Str.ofString "__repr__") id) (hu : A.in1.units < cLine)
    (h : wpAny (model prog w) A.in1 (call (.builtin id) [v]) (fun r s' => (∃ x t, r = .str x t) ∧ Q r s') E s) : wpAny (model prog w) A (call (.builtin "repr") [v]) Q E s := by
  refine Calls.call_function_entry PySem.F.kind_repr PySem.F.plain_repr PySem.F.entry_repr (PySem.F.args_repr1 _) ?_
  unfold Builtin.«repr»
  refine wpAny_bind (m := oneArg "repr" ⟨[v], []⟩) (wpAny_pure (wpAny_bind (wpAny_cRoomFor hu ?_)))
  refine wpAny_bind (wpAny_specialOf (name := Str.ofString "__repr__") hT slot.lookup ?_)
  refine wpAny_bind (m := callSpecialIfBound? v (Str.ofString "__repr__")) (wpAny_callSpecialIfBound?_slotG (name := Str.ofString "__repr__") hT slot (wpAny_mono h (fun r s' z => ?_) fun _ _ z => z))
  obtain ⟨⟨x, t, rfl⟩, q⟩ := z
  exact wpAny_bind (wpAny_isInstance (T := "str") (b := true) rfl isSubtype_str_str (wpAny_pure ⟨_, rfl, q⟩))
theorem bound_by {K : PySem.W.Frag} {x C f : Addr} {ox : Obj} {od : Option Obj} {name : Str} {last : Value → List Value → Sem Value} {Q : Option Value → Shared → Prop} (X : K.In s.heap) (I : PySem.W.InstAt s.heap x ox C od) (hs : PySem.W.findIn K (.ref C) name = some (some (.ref f)))
    (hf : PySem.W.isFn K (.ref f) = true) (h : wpAny (model prog w) A (last (.ref f) [.ref x]) (fun v => Q (some v)) E s) : wpAny (model prog w) A (callSpecialIfBoundBy? last (.ref x) name) Q E s := by
  have go : wpAny (model prog w) A (last (.ref f) [.ref x] >>= fun v => pure (some v)) Q E s := wpAny_bind (wpAny_mono h (fun _ _ z => wpAny_pure z) fun _ _ z => z)
  unfold callSpecialIfBoundBy? bindSpecialIfBound?
  refine wpAny_holding (wpAny_bind (wpAny_bind (wpAny_bind (I.type.here ((PySem.W.looks_findIn X hs).here (wpAny_bind (wpAny_askSetting (wpAny_ite ?_))))))))
  split
  · exact wpAny_bind ((PySem.W.bind_fn X (.ref x) (beq_iff_eq.mp hf)).here (wpAny_pure go))
  · exact wpAny_tryCatch (wpAny_bind ((PySem.W.bind_fn X (.ref x) (beq_iff_eq.mp hf)).here (wpAny_pure go)))
/-- str(x) of an instance with its own __str__ -/
theorem str_own {K : PySem.W.Frag} {x C f : Addr} {ox : Obj} {od : Option Obj} {Q : Value → Shared → Prop} (hu : A.in1.in1.units < cLine) (X : K.In s.heap) (I : PySem.W.InstAt s.heap x ox C od) (hs : PySem.W.findIn K (.ref C) "__str__" = some (some (.ref f))) (hf : PySem.W.isFn K (.ref f) = true)
    (h : wpAny (model prog w) A.in1.in1 (call (.ref f) [.ref x]) (fun r s' => ∃ y t, r = .str y t ∧ Q r s') E s) : wpAny (model prog w) A (call (.type "str") [.ref x]) Q E s := by
  refine callType_codes (T := "str") (Bi := Builtin.«object.__init__») (Q₁ := fun r s' => ∃ y t, r = .str y t ∧ Q r s') PySem.F.called_str (PySem.F.typeCall_str_1 _) PySem.F.entry_object_init ?_ ?_
  · refine codeAny_of_tree (wpAny_bind (wpAny_of_eq (PySem.F.newCall_str_1 _) (wpAny_pure ⟨plainId_quiet (by decide +kernel) _, codeAny_builtin PySem.F.entry_str_new ?_⟩)))
    rw [Around.under_plainId (by decide +kernel) _, str_new_tree]
    refine wpAny_bind (wpAny_pure (wpAny_bind (wpAny_of_eq isSubtype_str_str ?_)))
    have made : wpAny (model prog w) A.in1.in1 (PySem.Builtin.Str.strOf (.ref x)) (fun r s' => ∃ y t, r = .str y t ∧ Q r s') E s := by
      unfold PySem.Builtin.Str.strOf
      rw [show PySem.Builtin.Str.isExactStr (.ref x) = false from rfl]
      refine wpAny_bind (m := cRoomFor _ _) (wpAny_cRoomFor hu (wpAny_bind (m := callSpecial? (.ref x) (Str.ofString "__str__")) (PySem.W.special_fn X I hs (beq_iff_eq.mp hf) (wpAny_mono h (fun r s' z => ?_) fun _ _ z => z))))
      obtain ⟨y, t, rfl, q⟩ := z
      exact wpAny_pure ⟨_, _, rfl, q⟩
    exact wpAny_bind (wpAny_mono made (fun r s' z => wpAny_pure z) fun _ _ z => z)
  · rintro obj s' ⟨y, t, rfl, q⟩
    exact ⟨typeIs_str _ _ _, PySem.F.args_object_init_2 _ _, object_init_meets PySem.F.called_str.init.lookup PySem.F.called_str.made (by decide) prog w A.in1 _ s' ⟨typeIs_str _ _ _, rfl, q⟩⟩
end

section
variable {X : Cx}
theorem leafC {O : RO} {m : Nat} {H : Hp} (own : OShow X m O) {v : V} {x : Str} (h : Leaf O H v x) (sb : Sub X (m + 1) X.A) {pins : List (Addr × Obj)} {s : Shared} {σ : L2.St} {u : Value} (I : Inv X pins σ H s) (r : RelV v u) :
    wpAny (model X.prog X.w) X.A (call (.builtin "repr") [u]) (fun v s' => (∃ t, v = .str x t) ∧ After X pins σ H s') X.xe s := by
  cases h with
  | non => cases r; exact PySem.P.repr_of_none ⟨⟨_, rfl⟩, H, I.tok _, Ex.refl H⟩
  | bl c => cases r; exact PySem.P.repr_of_bool ⟨⟨_, rfl⟩, H, I.tok _, Ex.refl H⟩
  | int i hi => obtain ⟨t, rfl⟩ := r; exact PySem.P.repr_of_int hi ⟨⟨_, rfl⟩, H, I.tok _, Ex.refl H⟩
  | str y hy => obtain ⟨t, rfl⟩ := r; exact PySem.P.repr_of_str ⟨⟨_, rfl⟩, H, I.tok _, Ex.refl H⟩ hy
  | own a y ha =>
    cases r
    exact (own X.A pins s σ H a x (sb.mono (Nat.le_succ _)) I ha).1
end
/-- an own text's promise -/
def spText (R : RO) : Sp := fun vs H Q _ => ∃ a x, vs = [.ref a] ∧ R a x H ∧ ∀ H', Ex H H' → Q (.str x) H'
section
variable {X : Cx} {CX : CXT} {k : Nat} {C f : Addr} {fd : FuncData} {ps : List Str} {R : RO} {E : XK}
theorem oshow_of (m : Meth X.K C "__repr__" f) (F : FnOk X.prog X.w X.K X.mg X.base CX k f fd ps (spText R)) (hb : Binds X.K fd ps []) (hx : Passes CX X E) (hC : ∀ a x H, R a x H → ∃ dx fs, H a = some (.ins C dx fs)) : OShow X (k + 1) R := by
  intro A pins s σ H a x sb I r
  obtain ⟨dx, fs, ea⟩ := hC a x H r
  obtain ⟨od, J⟩ := inst_at I ea
  have r2 : Vals [V.ref a] [Value.ref a] := .cons rfl .nil
  have hsp : spText R [.ref a] H (fun v H' => v = .str x ∧ Ex H H') E := ⟨a, x, rfl, r, fun H' e => ⟨rfl, e⟩⟩
  have run : ∀ {B : Around}, Sub X k B → wpAny (model X.prog X.w) B (call (.ref f) [.ref a]) (fun v s' => (∃ t, v = .str x t) ∧ After X pins σ H s') X.xe s := fun {B} sb' =>
    thn (run_at F sb' hb hx I r2 hsp) fun v s' z => by
      obtain ⟨w, H', I', rw', ew, e⟩ := z
      subst ew
      exact ⟨rw', H', I', e⟩
  obtain ⟨m0, hF⟩ := I.fr
  refine ⟨PySem.W.repr_K (by have := sb.in1.room.units; omega) hF I.ok.mod.kin J m.at_ m.fn (thn (run sb.in1) fun v s' z => ?_), fun base => ?_⟩
  · obtain ⟨⟨t, rfl⟩, af⟩ := z
    exact ⟨⟨t, rfl⟩, af⟩
  · unfold pyReprObjUnder pyReprObjBy
    have fin : wpAny (model X.prog X.w) A (call (.ref f) ([.ref a] ++ [])) (fun v s' => (∃ t, v = .str x t) ∧ After X pins σ H s') X.xe s := run (sb.mono (Nat.le_succ _))
    refine wpAny_bind (wpAny_cRoomFor sb.room.units0 (wpAny_bind (wpAny_bind (J.type.here ((PySem.W.looks_findIn I.kIn m.at_).here ?_)))))
    show wpAny _ _ (do
      let r ← callSpecialIfBoundBy? _ (.ref a) (Str.ofString "__repr__")
      _) _ _ _
    refine wpAny_bind (bound_by I.kIn J m.at_ m.fn (wpAny_mono fin (fun v s' z => ?_) fun _ _ z => z))
    obtain ⟨⟨t, rfl⟩, af⟩ := z
    exact wpAny_bind (wpAny_isInstance (T := "str") (b := true) rfl isSubtype_str_str (wpAny_pure ⟨⟨t, rfl⟩, af⟩))

/-- repr(x) -/
def rRepr (O : RO) (n : Nat) : List V → Hp → VK → Prop := fun xs H Q => ∃ v x, xs = [v] ∧ Sh O H n v x ∧ x.length ≤ sizeLine ∧ ∀ H', Ex H H' → Q (.str x) H'
theorem call_repr {O : RO} {m n : Nat} (hg : X.A.guards = some []) (hr : Room (m + n + 3) X.A) (k : ROk O) (own : OShow X m O) : CallR X (.builtin "repr") (rRepr O n) := by
  intro pins s σ H xs us Q I r h
  obtain ⟨v, x, rfl, sh, sz, q⟩ := h
  obtain ⟨u, rfl, ru⟩ := vals1 r
  have sb : Sub X (m + n + 3) X.A := ⟨hr, rfl⟩
  suffices z : wpAny (model X.prog X.w) X.A (call (.builtin "repr") [u]) (fun v s' => (∃ t, v = .str x t) ∧ After X pins σ H s') X.xe s from
    thn z fun v s' z => by
      obtain ⟨⟨t, rfl⟩, H', I', e⟩ := z
      exact ⟨.str x, H', I', ⟨t, rfl⟩, q H' e⟩
  clear q
  induction n with
  | zero => exact leafC own sh (sb.mono (by omega)) I ru
  | succ n ih =>
    by_cases low : Sh O H n v x
    · exact ih (hr.mono (by omega)) low (sb.mono (by omega))
    · have no : ∀ y, ¬ Sh O H n v y := fun y hy => low (by rw [Sh.one k (n + 1) n v x y sh hy]; exact hy)
      have nog : ∀ n, NotIn O H n [] := fun n id a rest kw hm => by cases hm
      rcases sh with h | ⟨a, vs, ts, rfl, ha, p, rfl⟩ | ⟨a, vs, ts, rfl, ha, p, rfl⟩
      · exact leafC own h (sb.mono (by omega)) I ru
      · cases ru
        obtain ⟨z, its, kk, rr, ea⟩ := I.hok a _ ha
        have sb1 : Sub X (m + (n + 1)) X.A.in1 := Sub.mono (n := m + n + 3) (Sub.in1 (n := m + n + 3) sb) (by omega)
        have body := list_at (shows_all k own n) ha p no sb1 hg (nog _) (Ex.refl H) I 0 (by omega)
        refine repr_slot ⟨_, ea, rfl⟩ PySem.F.slot_list_repr.toG (by have := sb1.room.units; omega) (wpAny_mono (Q := fun w s' => (∃ t, w = .str (listText ts) t) ∧ After X pins σ H s') ?_ (fun w s' z => ?_) fun _ _ z => z)
        · exact wpAny_call (codeAny_call_builtin PySem.F.slot_list_repr.plain PySem.F.entry_list_repr (PySem.F.slot_list_repr.check _ _ _ _ _ _ _ _ ⟨_, ea, rfl⟩ (PySem.F.args_list_repr_1 _) (text_end body)))
        · obtain ⟨⟨t, rfl⟩, af⟩ := z
          exact ⟨⟨_, t, rfl⟩, ⟨t, rfl⟩, af⟩
      · cases ru
        obtain ⟨z, its, rr, o, ea, ec, kk, ed⟩ := I.hok a _ ha
        have sb1 : Sub X (m + (n + 1)) X.A.in1 := Sub.mono (n := m + n + 3) (Sub.in1 (n := m + n + 3) sb) (by omega)
        have body := tuple_at (shows_all k own n) ha p no sb1 hg (nog _) (Ex.refl H) I 0 (by omega) (id := "tuple.__repr__") (rest := []) (isGuard_tuple_repr _) (units_under_tuple_repr _ _) weight_le rfl
        refine repr_slot ⟨_, ea, ec⟩ PySem.F.slot_tuple_repr (by have := sb1.room.units; omega) (wpAny_mono (Q := fun w s' => (∃ t, w = .str (tupleText ts) t) ∧ After X pins σ H s') ?_ (fun w s' z => ?_) fun _ _ z => z)
        · exact wpAny_call (codeAny_call_builtin_own (Code.quiet_builtin _ (by decide +kernel)) PySem.F.entry_tuple_repr (PySem.F.slot_tuple_repr.check _ _ _ _ _ _ _ _ ⟨_, ea, ec⟩ (PySem.F.args_tuple_repr_1 _) (text_endO body)))
        · obtain ⟨⟨t, rfl⟩, af⟩ := z
          exact ⟨⟨_, t, rfl⟩, ⟨t, rfl⟩, af⟩
/-- str(x), x an instance with its own __str__ -/
def rStrO (R : RO) : List V → Hp → VK → Prop := fun xs H Q => ∃ a x, xs = [.ref a] ∧ R a x H ∧ ∀ H', Ex H H' → Q (.str x) H'
theorem call_strO (m : Meth X.K C "__str__" f) (F : FnOk X.prog X.w X.K X.mg X.base CX k f fd ps (spText R)) (hr : Room (k + 2) X.A) (hb : Binds X.K fd ps []) (hx : Passes CX X E) (hC : ∀ a x H, R a x H → ∃ dx fs, H a = some (.ins C dx fs)) : CallR X (.type "str") (rStrO R) := by
  intro pins s σ H xs us Q I r h
  obtain ⟨a, x, rfl, ra, q⟩ := h
  obtain ⟨u, rfl, ru⟩ := vals1 r
  cases ru
  obtain ⟨dx, fs, ea⟩ := hC a x H ra
  obtain ⟨od, J⟩ := inst_at I ea
  have r2 : Vals [V.ref a] [Value.ref a] := .cons rfl .nil
  have hsp : spText R [.ref a] H (fun v H' => v = .str x ∧ Ex H H') E := ⟨a, x, rfl, ra, fun H' e => ⟨rfl, e⟩⟩
  have sb : Sub X k X.A.in1.in1 := Sub.in1 (Sub.in1 (n := k + 1) ⟨hr, rfl⟩)
  refine str_own sb.room.units0 I.kIn J m.at_ m.fn (thn (run_at F sb hb hx I r2 hsp) fun v s' z => ?_)
  obtain ⟨w, H', I', rw', ew, e⟩ := z
  subst ew
  obtain ⟨t, rfl⟩ := rw'
  exact ⟨x, t, rfl, .str x, H', I', ⟨t, rfl⟩, q H' e⟩
end
end PF
/-! Ratios: what stands in the heap, their arithmetic, sizes. -/
namespace PF
open PySem PySem.Spec PyProof.Rows L2 Evl

theorem tb_ : ¬ (("_top" : Str) = "_bottom") := by decide +kernel
theorem bt_ : ¬ (("_bottom" : Str) = "_top") := by decide +kernel
def rf (q : Rat) : List (Str × V) := putF "_bottom" (.int (q.den : Int)) (putF "_top" (.int q.num) [])
theorem rf_top {q : Rat} : (rf q).lookup ("_top" : Str) = some (.int q.num) := by
  unfold rf
  rw [lookup_putF, if_neg tb_, lookup_putF, if_pos rfl]
theorem rf_bottom {q : Rat} : (rf q).lookup ("_bottom" : Str) = some (.int (q.den : Int)) := by
  unfold rf
  rw [lookup_putF, if_pos rfl]
theorem rf_no {q : Rat} {m : Str} (h1 : ¬ m = "_bottom") (h2 : ¬ m = "_top") : (rf q).lookup m = none := by
  unfold rf
  rw [lookup_putF, if_neg h1, lookup_putF, if_neg h2]
  all_goals rfl
def RatAt (C : Addr) (q : Rat) (a : Addr) (H : Hp) : Prop := ∃ dx, H a = some (.ins C dx (rf q))
def DRat (C : Addr) (q : Rat) : DV := fun v H => ∃ a, v = .ref a ∧ RatAt C q a H
theorem RatAt.up {C a : Addr} {q : Rat} {H H' : Hp} (e : Ex H H') (h : RatAt C q a H) : RatAt C q a H' := by
  obtain ⟨dx, h⟩ := h
  exact ⟨dx, e _ _ h⟩
instance {C : Addr} {q : Rat} : Mn (DRat C q) := ⟨fun e h => by
  obtain ⟨a, h1, h2⟩ := h
  exact ⟨a, h1, h2.up e⟩⟩
/-- an INTEGER or a Ratio -/
def DNum (C : Addr) (q : Rat) : DV := fun v H => (∃ i : Int, v = .int i ∧ q = (i : Rat)) ∨ DRat C q v H
instance {C : Addr} {q : Rat} : Mn (DNum C q) := ⟨fun e h => by
  rcases h with h | h
  · exact .inl h
  · exact .inr (Mn.mono e h)⟩
theorem DRat.num {C : Addr} {q : Rat} {v : V} {H : Hp} (h : DRat C q v H) : DNum C q v H := .inr h
/-- no more than n binary digits -/
def Sz (n : Nat) (q : Rat) : Prop := q.num.natAbs < 2 ^ n ∧ q.den < 2 ^ n
theorem Sz.le {n m : Nat} {q : Rat} (h : Sz n q) (l : n ≤ m) : Sz m q :=
  ⟨Nat.lt_of_lt_of_le h.1 (Nat.pow_le_pow_right (by decide) l), Nat.lt_of_lt_of_le h.2 (Nat.pow_le_pow_right (by decide) l)⟩
theorem gcd_swap (t b : Int) : ((Nat.gcd t.natAbs b.natAbs : Nat) : Int) = (b.gcd t : Nat) := by
  show ((Nat.gcd t.natAbs b.natAbs : Nat) : Int) = ((Nat.gcd b.natAbs t.natAbs : Nat) : Int)
  rw [Nat.gcd_comm]
/-- exact division by what has the bottom's sign -/
theorem top_div {t b : Int} (h : 0 < b) : t.fdiv (Nat.gcd t.natAbs b.natAbs : Nat) = (Rat.divInt t b).num := by
  rw [gcd_swap, Rat.num_divInt, Int.sign_eq_one_of_pos h, Int.one_mul, Int.fdiv_eq_ediv_of_nonneg _ (Int.natCast_nonneg _)]
theorem top_div_neg {t b : Int} (h : b < 0) : t.fdiv (-((Nat.gcd t.natAbs b.natAbs : Nat) : Int)) = (Rat.divInt t b).num := by
  have d : ((b.gcd t : Nat) : Int) ∣ t := Int.gcd_dvd_right ..
  rw [gcd_swap, Rat.num_divInt, Int.sign_eq_neg_one_of_neg h, Int.fdiv_eq_ediv_of_dvd (Int.neg_dvd.mpr d), Int.ediv_neg, Int.neg_mul, Int.one_mul, Int.neg_ediv_of_dvd d]
theorem bottom_div {t b : Int} (h : 0 < b) : b.fdiv (Nat.gcd t.natAbs b.natAbs : Nat) = ((Rat.divInt t b).den : Int) := by
  rw [gcd_swap, Rat.den_divInt, if_neg (by omega), Int.fdiv_eq_ediv_of_nonneg _ (Int.natCast_nonneg _), Int.natCast_ediv, Int.natAbs_of_nonneg (by omega)]
theorem bottom_div_neg {t b : Int} (h : b < 0) : b.fdiv (-((Nat.gcd t.natAbs b.natAbs : Nat) : Int)) = ((Rat.divInt t b).den : Int) := by
  have d : ((b.gcd t : Nat) : Int) ∣ b := Int.gcd_dvd_left ..
  rw [gcd_swap, Rat.den_divInt, if_neg (by omega), Int.fdiv_eq_ediv_of_dvd (Int.neg_dvd.mpr d), Int.ediv_neg, Int.natCast_ediv, ← Int.neg_ediv_of_dvd d]
  congr 1
  omega
theorem divInt_num_le (t b : Int) : (Rat.divInt t b).num.natAbs ≤ t.natAbs := by
  rw [Rat.num_divInt, Int.natAbs_ediv_of_dvd (Int.dvd_mul_of_dvd_right (Int.gcd_dvd_right ..)), Int.natAbs_mul]
  refine Nat.le_trans (Nat.div_le_self _ _) ?_
  have : b.sign.natAbs ≤ 1 := by
    rw [Int.natAbs_sign]
    split <;> omega
  calc b.sign.natAbs * t.natAbs ≤ 1 * t.natAbs := Nat.mul_le_mul_right _ this
    _ = t.natAbs := Nat.one_mul _
theorem divInt_den_le (t b : Int) (h : b ≠ 0) : (Rat.divInt t b).den ≤ b.natAbs := by
  rw [Rat.den_divInt, if_neg h]
  exact Nat.div_le_self _ _
theorem gcd_le_bottom {t b : Int} (h : b ≠ 0) : Nat.gcd t.natAbs b.natAbs ≤ b.natAbs := Nat.gcd_le_right _ (by omega)
theorem gcd_pos_bottom {t b : Int} (h : b ≠ 0) : 0 < Nat.gcd t.natAbs b.natAbs := Nat.gcd_pos_of_pos_right _ (by omega)
/-- sums and products of Ratios, as the program makes them -/
theorem den_ne (q : Rat) : (q.den : Int) ≠ 0 := by
  have := q.den_pos
  omega
theorem den_pos (q : Rat) : 0 < (q.den : Int) := by
  have := q.den_pos
  omega
theorem add_made (p q : Rat) : Rat.divInt (p.num * q.den + q.num * p.den) (p.den * q.den) = p + q := by
  rw [← Rat.divInt_add_divInt _ _ (den_ne p) (den_ne q), Rat.num_divInt_den, Rat.num_divInt_den]
theorem mul_made (p q : Rat) : Rat.divInt (p.num * q.num) (p.den * q.den) = p * q := by
  rw [← Rat.divInt_mul_divInt, Rat.num_divInt_den, Rat.num_divInt_den]
theorem neg_made (p : Rat) : Rat.divInt (-p.num) p.den = -p := by
  rw [← Rat.neg_divInt, Rat.num_divInt_den]
theorem int_made (i : Int) : Rat.divInt i 1 = (i : Rat) := by
  have h := Rat.divInt_ofNat i 1
  rw [Rat.mkRat_one] at h
  exact h
theorem abs_made (p : Rat) : Rat.divInt (p.num.natAbs : Int) p.den = if 0 ≤ p.num then p else -p := by
  split
  · rw [Int.natAbs_of_nonneg (by assumption), Rat.num_divInt_den]
  · rw [← neg_made]
    congr 1
    omega
theorem over_made (p q : Rat) : Rat.divInt (p.num * q.den) (p.den * q.num) = p * q⁻¹ := by
  rw [← Rat.divInt_mul_divInt, Rat.num_divInt_den, ← Rat.inv_divInt, Rat.num_divInt_den]
theorem Sz.neg {n : Nat} {q : Rat} (h : Sz n q) : Sz n (-q) := by
  refine ⟨?_, ?_⟩
  · rw [Rat.neg_num, Int.natAbs_neg]
    exact h.1
  · rw [Rat.neg_den]
    exact h.2
theorem prod_lt {a b n m : Nat} (ha : a < 2 ^ n) (hb : b < 2 ^ m) : a * b < 2 ^ (n + m) := by
  rw [Nat.pow_add]
  exact Nat.mul_lt_mul'' ha hb
theorem Sz.mul {n m : Nat} {p q : Rat} (hp : Sz n p) (hq : Sz m q) : Sz (n + m) (p * q) := by
  rw [← mul_made]
  refine ⟨Nat.lt_of_le_of_lt (divInt_num_le _ _) ?_, Nat.lt_of_le_of_lt (divInt_den_le _ _ ?_) ?_⟩
  · rw [Int.natAbs_mul]
    exact prod_lt hp.1 hq.1
  · exact Int.mul_ne_zero (den_ne p) (den_ne q)
  · rw [Int.natAbs_mul, Int.natAbs_natCast, Int.natAbs_natCast]
    exact prod_lt hp.2 hq.2
theorem Sz.add {n m : Nat} {p q : Rat} (hp : Sz n p) (hq : Sz m q) : Sz (n + m + 1) (p + q) := by
  have h2 : (2 : Nat) ^ (n + m + 1) = 2 ^ (n + m) + 2 ^ (n + m) := by
    rw [Nat.pow_succ]
    omega
  rw [← add_made]
  refine ⟨Nat.lt_of_le_of_lt (divInt_num_le _ _) ?_, Nat.lt_of_le_of_lt (divInt_den_le _ _ ?_) ?_⟩
  · refine Nat.lt_of_le_of_lt (Int.natAbs_add_le _ _) ?_
    rw [Int.natAbs_mul, Int.natAbs_mul, Int.natAbs_natCast, Int.natAbs_natCast]
    have a1 := prod_lt hp.1 hq.2
    have a2 := prod_lt hq.1 hp.2
    rw [Nat.add_comm m n] at a2
    omega
  · exact Int.mul_ne_zero (den_ne p) (den_ne q)
  · rw [Int.natAbs_mul, Int.natAbs_natCast, Int.natAbs_natCast]
    have a1 := prod_lt hp.2 hq.2
    omega
theorem sz_int {n : Nat} {i : Int} (h0 : n ≠ 0) (h : i.natAbs < 2 ^ n) : Sz n (i : Rat) := by
  refine ⟨?_, ?_⟩
  · rw [Rat.num_intCast]
    exact h
  · rw [Rat.den_intCast]
    exact Nat.one_lt_two_pow h0
theorem log_lt {a n : Nat} (h : a < 2 ^ n) (h0 : 0 < n) : a.log2 < n := by
  by_cases z : a = 0
  · subst z
    rw [Nat.log2_zero]
    exact h0
  · exact (Nat.log2_lt z).mpr h
/-- // by any number but 0 of less than 9000 binary digits -/
def CDivX (_ j : Int) : Prop := j ≠ 0 ∧ j.natAbs < 2 ^ 9000
theorem op_fdivX {X : Cx} : OpR X (binaryOp .FloorDiv) (rI CDivX fun i j => .int (i.fdiv j)) := opI fun i j _ _ _ _ _ hc q => floordiv_int hc.1 q (.inl (PyProof.noPylong_of_log2 (log_lt hc.2 (by decide))))
/-- * of numbers of less than 400000 binary digits -/
def CMulY (i j : Int) : Prop := i.natAbs < 2 ^ 400000 ∧ j.natAbs < 2 ^ 400000
theorem op_mulY {X : Cx} : OpR X (binaryOp .Mult) (rI CMulY fun i j => .int (i * j)) := opI fun i j _ _ _ _ _ hc q => mul_int q (CMulW.ok (by
  have a := log_lt hc.1 (by decide)
  have b := log_lt hc.2 (by decide)
  unfold CMulW
  omega))
/-! readings of fields, methods, properties, makings -/
section
variable {K : PySem.W.Frag} {σ : L2.St} {H : Hp} {ta tv : TE} {t : TA} {tz : TS} {D' : Ends} {C a dx : Addr} {fs : List (Str × V)} {f m : Str} {v : V} {D : DV} {P : List V → Hp → Prop} {sp : Sp} {dvs : List V} {E : XK}
theorem ev_fld (ho : Ev ta σ H (.ref a)) (h : H a = some (.ins C dx fs)) (c : Cls K C) (n : NoAttr K C f) (l : fs.lookup f = some v) : Ev (tFld K ta f) σ H v := fun H1 e Q q =>
  ho H1 e _ fun H2 e2 => ⟨a, C, dx, fs, v, rfl, e2 _ _ (e _ _ h), c, n, l, q H2 e2⟩
theorem q_fld (hv : Ev tv σ H v) (ho : Ev ta σ H (.ref a)) (h : H a = some (.ins C dx fs)) (c : Cls K C) (n : NoAttr K C f) (hz : fs.length < 1000) (k : ∀ H1, Ex H H1 → tz D' σ (upd H1 a (.ins C dx (putF f v fs)))) : tSeq (sFld K ta tv f) tz D' σ H :=
  hv H (Ex.refl H) _ fun H1 e1 => ho H1 e1 _ fun H2 e2 => ⟨a, C, dx, fs, rfl, e2 _ _ (e1 _ _ h), c, n, hz, k H2 (e1.trans e2)⟩
theorem s_fld (hv : Ev tv σ H v) (ho : Ev ta σ H (.ref a)) (h : H a = some (.ins C dx fs)) (c : Cls K C) (n : NoAttr K C f) (hz : fs.length < 1000) (k : ∀ H1, Ex H H1 → D'.nx σ (upd H1 a (.ins C dx (putF f v fs)))) : sFld K ta tv f D' σ H :=
  hv H (Ex.refl H) _ fun H1 e1 => ho H1 e1 _ fun H2 e2 => ⟨a, C, dx, fs, rfl, e2 _ _ (e1 _ _ h), c, n, hz, k H2 (e1.trans e2)⟩
theorem yd_meth (ho : Ev ta σ H (.ref a)) (h : H a = some (.ins C dx fs)) (l : fs.lookup m = none) (ha : YdA t σ H P) (hs : ∀ vs H1, Ex H H1 → P vs H1 → SpY sp (.ref a :: (vs ++ dvs)) H1 E D) : Yd (tMeth C m sp dvs E ta t) σ H D := fun H1 e Q q =>
  ho H1 e _ fun H2 e2 => ⟨a, dx, fs, rfl, e2 _ _ (e _ _ h), l, ha H2 (e.trans e2) _ fun vs H3 e3 p => hs vs H3 ((e.trans e2).trans e3) p H3 (Ex.refl H3) Q fun v H4 e4 d => q v H4 ((e2.trans e3).trans e4) d⟩
theorem yd_meth0 (ho : Ev ta σ H (.ref a)) (h : H a = some (.ins C dx fs)) (l : fs.lookup m = none) (hs : SpY sp (.ref a :: dvs) H E D) : Yd (tMeth C m sp dvs E ta tNil) σ H D := fun H1 e Q q =>
  ho H1 e _ fun H2 e2 => ⟨a, dx, fs, rfl, e2 _ _ (e _ _ h), l, hs H2 (e.trans e2) Q fun v H4 e4 d => q v H4 (e2.trans e4) d⟩
theorem yd_prop (ho : Ev ta σ H (.ref a)) (h : H a = some (.ins C dx fs)) (hs : SpY sp (.ref a :: dvs) H E D) : Yd (tProp C sp dvs E ta) σ H D := fun H1 e Q q =>
  ho H1 e _ fun H2 e2 => ⟨a, dx, fs, rfl, e2 _ _ (e _ _ h), hs H2 (e.trans e2) Q fun v H4 e4 d => q v H4 (e2.trans e4) d⟩
end
/-- what is passed, what is handed out: a promise by descriptions -/
def spD (P : List V → Hp → DV → Prop) : Sp := fun vs H Q _ => ∃ D, P vs H D ∧ ∀ v H', Ex H H' → D v H' → Q v H'
theorem spD_y {P : List V → Hp → DV → Prop} {vs : List V} {H : Hp} {E : XK} {D : DV} (h : ∀ H1, Ex H H1 → P vs H1 D) : SpY (spD P) vs H E D := fun H1 e Q q => ⟨D, h H1 e, fun v H2 e2 d => q v H2 e2 d⟩
end PF
namespace PF
open PySem PySem.Spec PyProof.Rows L2 Evl
def top (i : Nat) : Stmt := PySem.Challenge.pw_pairsfree_k11_ratios_reckoned.main.body.getD i (.Pass ⟨0, 0, 0, 0⟩)
abbrev sIsInt : Stmt := top 2
abbrev sRatio : Stmt := top 8
abbrev sAsRatio : Stmt := top 9
abbrev sPot : Stmt := top 11
abbrev sDraw : Stmt := top 12
abbrev sGcd : Stmt := top 13
abbrev sLow : Stmt := top 14
abbrev sIs : Stmt := top 15
abbrev sDrawn : Stmt := top 16
abbrev sSums : Stmt := top 17
abbrev sRight : Stmt := top 18
abbrev sLaw : Stmt := top 19
end PF
/-! Ratio: is_integer, the making, the properties. -/
namespace PF
open PySem PySem.Spec PyProof.Rows L2 Evl

/-- what of the text the class must have -/
structure RTxt (K : PySem.W.Frag) (mg : Str → Option Value) (C fII : Addr) : Prop where
  own : Own K C
  nT : NoAttr K C "_top"
  nB : NoAttr K C "_bottom"
  tyC : PySem.W.typeIn K (.ref C) = some (.type "type")
  mgC : mg "Ratio" = some (.ref C)
  mgI : mg "is_integer" = some (.ref fII)
  kpI : PySem.W.keepIn K (.ref fII) = true
  isi : mg "isinstance" = none
  int : mg "int" = none
  bool : mg "bool" = none
  gcd : mg "gcd" = some (.builtin "math.gcd")
section
variable {P : Program} {w : World} {K : PySem.W.Frag} {mg : Str → Option Value} {base : Heap} {C fII : Addr}
theorem kit_own {T : String} (h : PySem.W.mroIn K C (.type T) = some false) (hk : PySem.W.kitMeta T = true) : PySem.W.kitOne K (.ref C) (.type T) = some false := by
  show (if ((Value.ref C == Value.type T) = true) then some true else if PySem.W.kitMeta T = true then PySem.W.subIn K (.ref C) (.type T) else none) = some false
  rw [if_pos hk]
  exact h
theorem kit_self : PySem.W.kitOne K (.ref C) (.ref C) = some true := by
  unfold PySem.W.kitOne
  rw [if_pos (by simp)]
theorem RTxt.kit_in (T : RTxt K mg C fII) {n : String} (h : PySem.W.subIn [] (.type n) (.ref C) = some false) : PySem.W.kitOne K (.type n) (.ref C) = some false := by
  obtain ⟨cd, hc, _⟩ := PySem.W.any_some T.own.cl.hd
  show (if ((Value.type n == Value.ref C) = true) then some true else if ((PySem.W.clsIn K C).isSome && PySem.W.typeIn K (.ref C) == some (.type "type")) = true then PySem.W.subIn K (.type n) (.ref C) else none) = some false
  rw [if_neg (by simp), hc, T.tyC, if_pos (by simp)]
  exact h
theorem kit_int_int : PySem.W.kitOne K (.type "int") (.type "int") = some true := kit_ty (by decide +kernel)
theorem kit_int_bool : PySem.W.kitOne K (.type "int") (.type "bool") = some false := kit_ty (by decide +kernel)

/-- is_integer -/
def spIsInt (K : PySem.W.Frag) : Sp := fun vs H Q _ => ∃ v t b1 b2, vs = [v] ∧ TyX K H v t ∧ PySem.W.kitOne K t (.type "int") = some b1 ∧ PySem.W.kitOne K t (.type "bool") = some b2 ∧ Q (.bl (b1 && !b2)) H
theorem scII : FnScope ["value"] ["value"] (defScope sIsInt) := ⟨rfl, rfl, rfl, by decide +kernel, rfl, by decide +kernel, by decide +kernel⟩
theorem ok_isInt {fd : FuncData} (F : Fun K "is_integer" "is_integer" sIsInt fII fd) (T : RTxt K mg C fII) : FnOk P w K mg base CX0 1 fII fd ["value"] (spIsInt K) := by
  refine F.ok scII (fun vs H Q E h => ?_) (fun cdv A outer s H vs Q E hr h => ?_)
  · obtain ⟨v, t, b1, b2, rfl, _⟩ := h
    rfl
  · obtain ⟨v, t, b1, b2, rfl, ty, k1, k2, q⟩ := h
    refine ⟨_, pss_one (ps_ret (pe_and (pe_callB call_isi rfl T.isi (by rfl) (pa_cons (pv 0) (pa_cons (pe_bltn (v := .ty "int") rfl T.int (by rfl) rfl) pa_nil)))
      (pe_one (pe_not (pe_callB call_isi rfl T.isi (by rfl) (pa_cons (pv 0) (pa_cons (pe_bltn (v := .ty "bool") rfl T.bool (by rfl) rfl) pa_nil))))))), ?_⟩
    refine ⟨v, rfl, v, .ty "int", t, .type "int", b1, rfl, .ty _, ty, k1, b1, rfl, ?_⟩
    cases b1 with
    | false => exact q
    | true =>
      show _
      exact ⟨v, rfl, v, .ty "bool", t, .type "bool", b2, rfl, .ty _, ty, k2, b2, rfl, q⟩
theorem spInt_at {H : Hp} {Q : VK} {E : XK} {i : Int} (q : Q (.bl true) H) : spIsInt K [.int i] H Q E := ⟨.int i, .type "int", true, false, rfl, .base (.int i), kit_int_int, kit_int_bool, q⟩

/-- Ratio.__init__ with INTEGERS -/
def spInit (C : Addr) : Sp := fun vs H Q _ => ∃ (H0 : Hp) (x dx : Addr) (t b : Int), vs = [.ref x, .int t, .int b] ∧ Ex H0 H ∧ H0 x = none ∧ H x = some (.ins C dx []) ∧ b ≠ 0 ∧ b.natAbs < 2 ^ 9000 ∧ ∀ H', Ex H0 H' → RatAt C (Rat.divInt t b) x H' → Q .non H'
theorem scI : FnScope ["self", "top", "bottom", "common", "divisor"] ["self", "top", "bottom"] (defScope (inClass sRatio 0)) := ⟨rfl, rfl, rfl, by decide +kernel, rfl, by decide +kernel, by decide +kernel⟩
theorem ok_init {f : Addr} {fd fdI : FuncData} {dvs : List V} {kws : List (Str × V)} (F : FunD K "__init__" "Ratio.__init__" (defArgs (inClass sRatio 0)) (defBody (inClass sRatio 0)) (defScope (inClass sRatio 0)) dvs kws f fd) (T : RTxt K mg C fII)
    (FI : Fun K "is_integer" "is_integer" sIsInt fII fdI) (bI : Binds K fdI ["value"] []) : FnOk P w K mg base CX0 2 f fd ["self", "top", "bottom"] (spInit C) := by
  have GI : FnOk P w K mg base CX0 1 fII fdI ["value"] (spIsInt K) := ok_isInt FI T
  refine F.ok scI (fun vs H Q E h => ?_) (fun cdv A outer s H vs Q E hr h => ?_)
  · obtain ⟨H0, x, dx, t, b, rfl, _⟩ := h
    rfl
  · obtain ⟨H0, x, dx, t, b, rfl, e0, hx0, hx, hb, hz, k⟩ := h
    refine ⟨_, pss_cons (ps_if (pt_not (pt_val (pe_call GI hr rfl T.mgI T.kpI bI .nil pass0 (pa_cons (pv 1) pa_nil)))) pss_never pss_nil)
      (pss_cons (ps_if (PW.pt (pw_or (pt_not (pt_val (pe_call GI hr rfl T.mgI T.kpI bI .nil pass0 (pa_cons (pv 2) pa_nil)))) (pw_or1 (pt_cmpR op_eq (pv 2) pe_int (nomark _))))) pss_never pss_nil)
      (pss_cons (ps_set (i := 3) scI.nd rfl (.inl rfl) (pe_callBfun cr_gcd rfl T.gcd (pa_cons (pv 1) (pa_cons (pv 2) pa_nil))))
      (pss_cons (ps_set (i := 4) scI.nd rfl (.inl rfl) (pe_ifExp (pt_cmpR op_gt (pv 2) pe_int (nomark _)) (pv 3) (pe_un un_neg (pv 3))))
      (pss_cons (ps_fld (pv 0) (pe_op op_fdivX (pv 1) (pv 4)) rfl) (pss_one (ps_fld (pv 0) (pe_op op_fdivX (pv 2) (pv 4)) rfl)))))), ?_⟩
    have isI : ∀ {i : Int} {H1 : Hp}, SpV (spIsInt K) [.int i] H1 (.bl true) := fun H2 _ Q q E => spInt_at (q H2 (Ex.refl H2))
    refine q_when (b := false) (et_is (et_not (et_B (ev_call (ea_cons (ev_var rfl) ea_nil) isI))) rfl) (fun z => nomatch z) (fun _ H1 e1 => ?_)
    refine q_when (b := false) (et_is (et_or (a := false) (et_is (et_not (et_B (ev_call (ea_cons (ev_var rfl) ea_nil) isI))) rfl) (fun _ => et_test (ev_op (ev_var rfl) ev_c (rv_eq rfl)))) (by simp [hb])) (fun z => nomatch z) (fun _ H2 e2 => ?_)
    refine q_asg (ev_cb (ea_cons (ev_var rfl) (ea_cons (ev_var rfl) ea_nil)) (z := .int (Nat.gcd t.natAbs b.natAbs : Nat)) (fun H3 _ Q q => ⟨t, b, rfl, q H3 (Ex.refl H3)⟩)) (fun H3 e3 => ?_)
    refine q_asg (v := .int (if 0 < b then (Nat.gcd t.natAbs b.natAbs : Nat) else -((Nat.gcd t.natAbs b.natAbs : Nat) : Int))) (ev_if (b := decide (0 < b)) (et_test (ev_op (ev_var rfl) ev_c rv_I0)) (fun z => ev_is (ev_var rfl) ?_) (fun z => ev_is (ev_un (ev_var rfl) ru_neg) ?_)) (fun H4 e4 => ?_)
    · rw [if_pos (of_decide_eq_true z)]
    · rw [if_neg (of_decide_eq_false z)]
    have gp := gcd_pos_bottom (t := t) hb
    have gl := gcd_le_bottom (t := t) hb
    have dv : ∀ i, CDivX i (if 0 < b then (Nat.gcd t.natAbs b.natAbs : Nat) else -((Nat.gcd t.natAbs b.natAbs : Nat) : Int)) := fun i => by
      split
      · exact ⟨by omega, by omega⟩
      · exact ⟨by omega, by omega⟩
    have e14 := ((e1.trans e2).trans e3).trans e4
    refine q_fld (ev_op (ev_var rfl) (ev_var rfl) (rv_I (dv _))) (ev_var rfl) (e14 _ _ hx) T.own.cl T.nT (by decide) (fun H5 e5 => ?_)
    refine s_fld (ev_op (ev_var rfl) (ev_var rfl) (rv_I (dv _))) (ev_var rfl) upd_same T.own.cl T.nB (by show 1 < 1000; decide) (fun H6 e6 => ?_)
    refine k _ ?_ ?_
    · exact Ex.mut (Ex.trans (Ex.mut (Ex.trans (Ex.trans e0 e14) e5) hx0) e6) hx0
    · refine ⟨dx, ?_⟩
      rw [upd_same]
      have et : t.fdiv (if 0 < b then ((Nat.gcd t.natAbs b.natAbs : Nat) : Int) else -((Nat.gcd t.natAbs b.natAbs : Nat) : Int)) = (Rat.divInt t b).num := by
        split
        · exact top_div (by assumption)
        · exact top_div_neg (by omega)
      have eb : b.fdiv (if 0 < b then ((Nat.gcd t.natAbs b.natAbs : Nat) : Int) else -((Nat.gcd t.natAbs b.natAbs : Nat) : Int)) = ((Rat.divInt t b).den : Int) := by
        split
        · exact bottom_div (by assumption)
        · exact bottom_div_neg (by omega)
      rw [et, eb]
      rfl
theorem yd_make {σ : L2.St} {H : Hp} {ta : TA} {P : List V → Hp → Prop} {dvs : List V} {E : XK} {q : Rat} (ha : YdA ta σ H P) (hs : ∀ vs H1, P vs H1 → ∃ t b : Int, vs ++ dvs = [.int t, .int b] ∧ b ≠ 0 ∧ b.natAbs < 2 ^ 9000 ∧ Rat.divInt t b = q) : Yd (tMake C (spInit C) dvs E ta) σ H (DRat C q) := fun H1 e Q q' =>
  ha H1 e _ fun vs H2 e2 p x dx hx hdx nx => by
    obtain ⟨t, b, ev, h0, hz, rfl⟩ := hs vs H2 p
    refine ⟨H2, x, dx, t, b, by rw [ev], Ex.mut (Ex.new hdx) hx, hx, upd_same, h0, hz, fun H3 e3 r => ⟨rfl, q' _ _ (e2.trans e3) ⟨x, rfl, r⟩⟩⟩

/-- the plain properties -/
theorem scP (j : Nat) (h : j = 1 ∨ j = 2) : FnScope ["self"] ["self"] (defScope (inClass sRatio j)) := by
  rcases h with rfl | rfl
  · exact ⟨rfl, rfl, rfl, by decide +kernel, rfl, by decide +kernel, by decide +kernel⟩
  · exact ⟨rfl, rfl, rfl, by decide +kernel, rfl, by decide +kernel, by decide +kernel⟩
/-- a promise about one Ratio and a value of it -/
def spOfR (C : Addr) (g : Rat → V) : Sp := fun vs H Q _ => ∃ a q, vs = [.ref a] ∧ RatAt C q a H ∧ ∀ H', Ex H H' → Q (g q) H'
theorem RTxt.ev_top (T : RTxt K mg C fII) {σ : L2.St} {H : Hp} {ta : TE} {a : Addr} {q : Rat} (ho : Ev ta σ H (.ref a)) (h : RatAt C q a H) : Ev (tFld K ta "_top") σ H (.int q.num) := by
  obtain ⟨dx, h⟩ := h
  exact ev_fld ho h T.own.cl T.nT rf_top
theorem RTxt.ev_bot (T : RTxt K mg C fII) {σ : L2.St} {H : Hp} {ta : TE} {a : Addr} {q : Rat} (ho : Ev ta σ H (.ref a)) (h : RatAt C q a H) : Ev (tFld K ta "_bottom") σ H (.int (q.den : Int)) := by
  obtain ⟨dx, h⟩ := h
  exact ev_fld ho h T.own.cl T.nB rf_bottom
theorem ok_top {f : Addr} {fd : FuncData} {qn : Str} (F : Fun K "top" qn (inClass sRatio 1) f fd) (T : RTxt K mg C fII) : FnOk P w K mg base CX0 1 f fd ["self"] (spOfR C fun q => .int q.num) := by
  refine F.ok (scP 1 (.inl rfl)) (fun vs H Q E h => ?_) (fun cdv A outer s H vs Q E hr h => ?_)
  · obtain ⟨a, q, rfl, _⟩ := h
    rfl
  · obtain ⟨a, q, rfl, ha, k⟩ := h
    exact ⟨_, pss_one (ps_ret (pe_fld (pv 0) rfl)), s_ret (T.ev_top (ev_var rfl) ha) k⟩
theorem ok_bottom {f : Addr} {fd : FuncData} {qn : Str} (F : Fun K "bottom" qn (inClass sRatio 2) f fd) (T : RTxt K mg C fII) : FnOk P w K mg base CX0 1 f fd ["self"] (spOfR C fun q => .int (q.den : Int)) := by
  refine F.ok (scP 2 (.inr rfl)) (fun vs H Q E h => ?_) (fun cdv A outer s H vs Q E hr h => ?_)
  · obtain ⟨a, q, rfl, _⟩ := h
    rfl
  · obtain ⟨a, q, rfl, ha, k⟩ := h
    exact ⟨_, pss_one (ps_ret (pe_fld (pv 0) rfl)), s_ret (T.ev_bot (ev_var rfl) ha) k⟩
def ratSign (q : Rat) : Int := if q.num = 0 then 0 else if 0 < q.num then 1 else -1
theorem int_eq_iff {i j : Int} : decide (V.int i = V.int j) = decide (i = j) := by
  apply decide_eq_decide.mpr
  constructor
  · intro z
    injection z
  · intro z
    rw [z]
theorem scSg : FnScope ["self"] ["self"] (defScope (inClass sRatio 3)) := ⟨rfl, rfl, rfl, by decide +kernel, rfl, by decide +kernel, by decide +kernel⟩
theorem ok_sign {f : Addr} {fd : FuncData} {qn : Str} (F : Fun K "sign" qn (inClass sRatio 3) f fd) (T : RTxt K mg C fII) : FnOk P w K mg base CX0 1 f fd ["self"] (spOfR C fun q => .int (ratSign q)) := by
  refine F.ok scSg (fun vs H Q E h => ?_) (fun cdv A outer s H vs Q E hr h => ?_)
  · obtain ⟨a, q, rfl, _⟩ := h
    rfl
  · obtain ⟨a, q, rfl, ha, k⟩ := h
    refine ⟨_, pss_cons (ps_if (pt_cmpR op_eq (pe_fld (pv 0) rfl) pe_int (nomark _)) (pss_one (ps_ret pe_int)) pss_nil) (pss_one (ps_ret (pe_ifExp (pt_cmpR op_gt (pe_fld (pv 0) rfl) pe_int (nomark _)) pe_int (pe_un un_neg pe_int)))), ?_⟩
    refine q_when (b := decide (q.num = 0)) (et_test (ev_is (ev_op (T.ev_top (ev_var rfl) ha) ev_c (rv_eq rfl)) (by rw [int_eq_iff]))) (fun z H1 e1 => ?_) (fun z H1 e1 => ?_)
    · refine s_ret ev_c (fun H2 e2 => ?_)
      have e : ratSign q = 0 := if_pos (of_decide_eq_true z)
      show Q (.int 0) H2
      rw [← e]
      exact k _ (e1.trans e2)
    · have z' := of_decide_eq_false z
      refine s_ret (v := .int (ratSign q)) (ev_if (b := decide (0 < q.num)) (et_test (ev_op (T.ev_top (ev_var rfl) (ha.up e1)) ev_c rv_I0)) (fun y => ev_is ev_c ?_) (fun y => ev_is (ev_un ev_c ru_neg) ?_)) (fun H2 e2 => k _ (e1.trans e2))
      · rw [ratSign, if_neg z', if_pos (of_decide_eq_true y)]
      · rw [ratSign, if_neg z', if_neg (of_decide_eq_false y)]
theorem scWh : FnScope ["self"] ["self"] (defScope (inClass sRatio 4)) := ⟨rfl, rfl, rfl, by decide +kernel, rfl, by decide +kernel, by decide +kernel⟩
theorem den_one (q : Rat) : decide (V.int (q.den : Int) = V.int 1) = decide (q.den = 1) := by
  rw [int_eq_iff]
  apply decide_eq_decide.mpr
  omega
theorem ok_whole {f : Addr} {fd : FuncData} {qn : Str} (F : Fun K "is_whole" qn (inClass sRatio 4) f fd) (T : RTxt K mg C fII) : FnOk P w K mg base CX0 1 f fd ["self"] (spOfR C fun q => .bl (decide (q.den = 1))) := by
  refine F.ok scWh (fun vs H Q E h => ?_) (fun cdv A outer s H vs Q E hr h => ?_)
  · obtain ⟨a, q, rfl, _⟩ := h
    rfl
  · obtain ⟨a, q, rfl, ha, k⟩ := h
    exact ⟨_, pss_one (ps_ret (pe_cmpR op_eq (pe_fld (pv 0) rfl) pe_int (nomark _))), s_ret (ev_is (ev_op (T.ev_bot (ev_var rfl) ha) ev_c (rv_eq rfl)) (by rw [den_one])) k⟩
end
end PF
/-! Ratio: as_ratio, the operators, ==, the texts. -/
namespace PF
open PySem PySem.Spec PyProof.Rows L2 Evl

abbrev m_ (j : Nat) : Stmt := inClass sRatio j
/-- a method of the class: its def, as it stands -/
structure Mt (K : PySem.W.Frag) (C : Addr) (m qual : Str) (st : Stmt) (ps : List Str) (f : Addr) (d : FuncData) : Prop where
  F : Fun K m qual st f d
  m : Meth K C m f
  b : Binds K d ps []
structure Pr (K : PySem.W.Frag) (C : Addr) (m qual : Str) (st : Stmt) (p g : Addr) (d : FuncData) : Prop where
  F : Fun K m qual st g d
  p : PropOf K C m p g
  b : Binds K d ["self"] []
/-- where all stands -/
structure RA (K : PySem.W.Frag) (mg : Str → Option Value) (C : Addr) where
  fII : Addr
  dII : FuncData
  T : RTxt K mg C fII
  FII : Fun K "is_integer" "is_integer" sIsInt fII dII
  bII : Binds K dII ["value"] []
  fIn : Addr
  dIn : FuncData
  FIn : FunD K "__init__" "Ratio.__init__" (defArgs (m_ 0)) (defBody (m_ 0)) (defScope (m_ 0)) [.int 1] [] fIn dIn
  M : Mk K C fIn
  bIn : Binds K dIn ["self", "top", "bottom"] []
  bIn1 : ∃ ds, Vals [.int 1] ds ∧ Binds K dIn ["self", "top", "bottom"] ds
  fA : Addr
  dA : FuncData
  FA : Fun K "as_ratio" "as_ratio" sAsRatio fA dA
  mA : mg "as_ratio" = some (.ref fA)
  kA : PySem.W.keepIn K (.ref fA) = true
  bA : Binds K dA ["number"] []
  pT : Addr
  gT : Addr
  dT : FuncData
  PT : Pr K C "top" "Ratio.top" (m_ 1) pT gT dT
  pB : Addr
  gB : Addr
  dB : FuncData
  PB : Pr K C "bottom" "Ratio.bottom" (m_ 2) pB gB dB
  fAdd : Addr
  dAdd : FuncData
  MAdd : Mt K C "__add__" "Ratio.__add__" (m_ 5) ["self", "other"] fAdd dAdd
  fRadd : Addr
  dRadd : FuncData
  MRadd : Mt K C "__radd__" "Ratio.__radd__" (m_ 6) ["self", "other"] fRadd dRadd
  fNeg : Addr
  dNeg : FuncData
  MNeg : Mt K C "__neg__" "Ratio.__neg__" (m_ 11) ["self"] fNeg dNeg
  fEq : Addr
  dEq : FuncData
  MEq : Mt K C "__eq__" "Ratio.__eq__" (m_ 16) ["self", "other"] fEq dEq
  fStr : Addr
  dStr : FuncData
  MStr : Mt K C "__str__" "Ratio.__str__" (m_ 18) ["self"] fStr dStr
  fRepr : Addr
  dRepr : FuncData
  MRepr : Mt K C "__repr__" "Ratio.__repr__" (m_ 19) ["self"] fRepr dRepr
  mStr : mg "str" = none
section
variable {P : Program} {w : World} {K : PySem.W.Frag} {mg : Str → Option Value} {base : Heap} {C : Addr}
theorem RA.gII (R : RA K mg C) : FnOk P w K mg base CX0 1 R.fII R.dII ["value"] (spIsInt K) := ok_isInt R.FII R.T
theorem RA.gIn (R : RA K mg C) : FnOk P w K mg base CX0 2 R.fIn R.dIn ["self", "top", "bottom"] (spInit C) := ok_init R.FIn R.T R.FII R.bII
theorem RA.gTop (R : RA K mg C) : FnOk P w K mg base CX0 1 R.gT R.dT ["self"] (spOfR C fun q => .int q.num) := ok_top R.PT.F R.T
theorem RA.gBot (R : RA K mg C) : FnOk P w K mg base CX0 1 R.gB R.dB ["self"] (spOfR C fun q => .int (q.den : Int)) := ok_bottom R.PB.F R.T
theorem SpOfR.y {g : Rat → V} {a : Addr} {q : Rat} {H : Hp} {E : XK} (h : RatAt C q a H) : SpY (spOfR C g) [.ref a] H E (Is (g q)) := fun H1 e Q k => ⟨a, q, rfl, h.up e, fun H2 e2 => k _ H2 e2 rfl⟩
theorem SpOfR.ev {g : Rat → V} {σ : L2.St} {H : Hp} {ta : TE} {a : Addr} {q : Rat} {E : XK} (ho : Ev ta σ H (.ref a)) (h : RatAt C q a H) : Ev (tProp C (spOfR C g) [] E ta) σ H (g q) := by
  obtain ⟨dx, ea⟩ := id h
  exact ev_yd (yd_prop ho ea (SpOfR.y h))

theorem one_small : (1 : Int).natAbs < 2 ^ 9000 := Nat.one_lt_two_pow (by omega)
/-- as_ratio -/
def spAsR (C : Addr) : Sp := spD fun vs H D => ∃ v q, vs = [v] ∧ DNum C q v H ∧ D = DRat C q
theorem scAR : FnScope ["number"] ["number"] (defScope sAsRatio) := ⟨rfl, rfl, rfl, by decide +kernel, rfl, by decide +kernel, by decide +kernel⟩
theorem RA.gAs (R : RA K mg C) : FnOk P w K mg base CX0 4 R.fA R.dA ["number"] (spAsR C) := by
  refine R.FA.ok scAR (fun vs H Q E h => ?_) (fun cdv A outer s H vs Q E hr h => ?_)
  · obtain ⟨D, ⟨v, q, rfl, _⟩, _⟩ := h
    rfl
  · obtain ⟨D, ⟨v, q, rfl, hv, rfl⟩, k⟩ := h
    obtain ⟨ds, hd, bd⟩ := R.bIn1
    refine ⟨_, pss_cons (ps_if (pt_val (pe_callB call_isi rfl R.T.isi (by rfl) (pa_cons (pv 0) (pa_cons (pe_glob (v := .ref C) rfl R.T.mgC rfl) pa_nil)))) (pss_one (ps_ret (pv 0))) pss_nil)
      (pss_one (ps_ret (pe_make R.M R.gIn hr rfl R.T.mgC bd hd pass0 (pa_cons (pv 0) pa_nil)))), ?_⟩
    rcases hv with ⟨i, rfl, rfl⟩ | ⟨a, rfl, ha⟩
    · refine q_when (b := false) (et_B (ev_cb (ea_cons (ev_var rfl) (ea_cons ev_c ea_nil)) (fun H1 _ Q q => ⟨_, _, _, _, _, rfl, .own C, .base (.int i), R.T.kit_in sub_int, q H1 (Ex.refl H1)⟩))) (fun z => nomatch z) (fun _ H1 e1 => ?_)
      refine s_retD (yd_make (q := (i : Rat)) (ya_cons (yd_ev (ev_var rfl)) ya_nil) (fun vs H2 p => ?_)) (fun v H2 e2 d => k v H2 (e1.trans e2) d)
      obtain ⟨x, xs, rfl, hx, hn⟩ := p
      have hx' : x = V.int i := hx
      have hn' : xs = [] := hn
      subst hx' hn'
      exact ⟨i, 1, rfl, by decide, one_small, int_made i⟩
    · obtain ⟨dx, ea⟩ := id ha
      refine q_when (b := true) (et_B (ev_cb (ea_cons (ev_var rfl) (ea_cons ev_c ea_nil)) (fun H1 e Q q => ⟨_, _, _, _, _, rfl, .own C, R.T.own.ty (e _ _ ea), kit_self, q H1 (Ex.refl H1)⟩))) (fun _ H1 e1 => ?_) (fun z => nomatch z)
      exact s_ret (ev_var rfl) (fun H2 e2 => k _ H2 (e1.trans e2) ⟨a, rfl, ha.up (e1.trans e2)⟩)
theorem spAsR_y {v : V} {q : Rat} {H : Hp} {E : XK} (h : DNum C q v H) : SpY (spAsR C) [v] H E (DRat C q) := spD_y fun _ e => ⟨v, q, rfl, Mn.mono e h, rfl⟩

theorem ya1 {ta : TE} {σ : L2.St} {H : Hp} {D : DV} [Mn D] (h : Yd ta σ H D) : YdA (tCons ta tNil) σ H (fun vs H1 => ∃ v, vs = [v] ∧ D v H1) := fun H1 e Q q =>
  ya_cons h ya_nil H1 e Q fun vs H2 e2 p => q vs H2 e2 (by
    obtain ⟨x, xs, rfl, d, (rfl : xs = [])⟩ := p
    exact ⟨x, rfl, d⟩)
theorem yd_as {ta : TE} {σ : L2.St} {H : Hp} {q : Rat} {E : XK} (h : Yd ta σ H (DNum C q)) : Yd (tCall (spAsR C) [] E (tCons ta tNil)) σ H (DRat C q) :=
  yd_call (ya1 h) fun vs H1 _ p => by
    obtain ⟨v, rfl, d⟩ := p
    exact spAsR_y d
/-- what an operator of two numbers promises -/
def spBin (C : Addr) (g : Rat → Rat → Rat) : Sp := spD fun vs H D => ∃ a p v q, vs = [.ref a, v] ∧ RatAt C p a H ∧ DNum C q v H ∧ Sz 4000 p ∧ Sz 4000 q ∧ D = DRat C (g p q)
theorem spBin_y {g : Rat → Rat → Rat} {a : Addr} {v : V} {p q : Rat} {H : Hp} {E : XK} (h1 : RatAt C p a H) (h2 : DNum C q v H) (s1 : Sz 4000 p) (s2 : Sz 4000 q) : SpY (spBin C g) [.ref a, v] H E (DRat C (g p q)) :=
  spD_y fun _ e => ⟨a, p, v, q, rfl, h1.up e, Mn.mono e h2, s1, s2, rfl⟩
theorem pow_up {a n m : Nat} (h : a < 2 ^ n) (l : n ≤ m) : a < 2 ^ m := Nat.lt_of_lt_of_le h (Nat.pow_le_pow_right (by decide) l)
theorem mulY_nn {p q : Rat} (h1 : Sz 4000 p) (h2 : Sz 4000 q) : CMulY p.num q.num := ⟨pow_up h1.1 (by omega), pow_up h2.1 (by omega)⟩
theorem mulY_nd {p q : Rat} (h1 : Sz 4000 p) (h2 : Sz 4000 q) : CMulY p.num q.den := ⟨pow_up h1.1 (by omega), pow_up (by rw [Int.natAbs_natCast]; exact h2.2) (by omega)⟩
theorem mulY_dd {p q : Rat} (h1 : Sz 4000 p) (h2 : Sz 4000 q) : CMulY p.den q.den := ⟨pow_up (by rw [Int.natAbs_natCast]; exact h1.2) (by omega), pow_up (by rw [Int.natAbs_natCast]; exact h2.2) (by omega)⟩
theorem mulY_dn {p q : Rat} (h1 : Sz 4000 p) (h2 : Sz 4000 q) : CMulY p.den q.num := ⟨pow_up (by rw [Int.natAbs_natCast]; exact h1.2) (by omega), pow_up h2.1 (by omega)⟩
theorem dens_small {p q : Rat} (h1 : Sz 4000 p) (h2 : Sz 4000 q) : ((p.den : Int) * (q.den : Int)).natAbs < 2 ^ 9000 := by
  rw [Int.natAbs_mul, Int.natAbs_natCast, Int.natAbs_natCast]
  exact pow_up (prod_lt h1.2 h2.2) (by omega)
theorem dens_ne (p q : Rat) : ((p.den : Int) * (q.den : Int)) ≠ 0 := Int.mul_ne_zero (den_ne p) (den_ne q)
theorem scAdd : FnScope ["self", "other", "number"] ["self", "other"] (defScope (m_ 5)) := ⟨rfl, rfl, rfl, by decide +kernel, rfl, by decide +kernel, by decide +kernel⟩
theorem RA.gAdd (R : RA K mg C) : FnOk P w K mg base CX0 5 R.fAdd R.dAdd ["self", "other"] (spBin C (· + ·)) := by
  refine R.MAdd.F.ok scAdd (fun vs H Q E h => ?_) (fun cdv A outer s H vs Q E hr h => ?_)
  · obtain ⟨D, ⟨a, p, v, q, rfl, _⟩, _⟩ := h
    rfl
  · obtain ⟨D, ⟨a, p, v, q, rfl, ha, hv, s1, s2, rfl⟩, k⟩ := h
    refine ⟨_, pss_cons (ps_set (i := 2) scAdd.nd rfl (.inl rfl) (pe_call R.gAs hr rfl R.mA R.kA R.bA .nil pass0 (pa_cons (pv 1) pa_nil)))
      (pss_one (ps_ret (pe_make R.M R.gIn (hr.mono (by decide)) rfl R.T.mgC R.bIn .nil pass0 (pa_cons (pe_op op_add (pe_op op_mulY (pe_fld (pv 0) rfl) (pe_prop (pv 2) R.T.own.cl R.PB.p R.gBot (hr.mono (by decide)) R.PB.b .nil pass0 rfl))
        (pe_op op_mulY (pe_prop (pv 2) R.T.own.cl R.PT.p R.gTop (hr.mono (by decide)) R.PT.b .nil pass0 rfl) (pe_fld (pv 0) rfl)))
        (pa_cons (pe_op op_mulY (pe_fld (pv 0) rfl) (pe_prop (pv 2) R.T.own.cl R.PB.p R.gBot (hr.mono (by decide)) R.PB.b .nil pass0 rfl)) pa_nil))))), ?_⟩
    refine q_asgD (yd_as (yd_var rfl hv)) (fun x H1 e1 dx => ?_)
    · obtain ⟨b, rfl, hb⟩ := dx
      have ha1 := ha.up e1
      refine s_retD (yd_make (q := p + q) (ya_ev (ea_cons (ev_op (ev_op (R.T.ev_top (ev_var rfl) ha1) (SpOfR.ev (ev_var rfl) hb) (rv_I (mulY_nd s1 s2))) (ev_op (SpOfR.ev (ev_var rfl) hb) (R.T.ev_bot (ev_var rfl) ha1) (rv_I (mulY_nd s2 s1))) rv_I0)
        (ea_cons (ev_op (R.T.ev_bot (ev_var rfl) ha1) (SpOfR.ev (ev_var rfl) hb) (rv_I (mulY_dd s1 s2))) ea_nil))) (fun vs H2 e => ?_)) (fun v H2 e2 d => k v H2 (e1.trans e2) d)
      subst e
      exact ⟨_, _, rfl, dens_ne p q, dens_small s1 s2, add_made p q⟩
theorem scMul (j : Nat) (h : j = 9) : FnScope ["self", "other", "number"] ["self", "other"] (defScope (m_ j)) := by
  subst h
  exact ⟨rfl, rfl, rfl, by decide +kernel, rfl, by decide +kernel, by decide +kernel⟩
theorem ok_mul (R : RA K mg C) {f : Addr} {d : FuncData} (M : Mt K C "__mul__" "Ratio.__mul__" (m_ 9) ["self", "other"] f d) : FnOk P w K mg base CX0 5 f d ["self", "other"] (spBin C (· * ·)) := by
  refine M.F.ok (scMul 9 rfl) (fun vs H Q E h => ?_) (fun cdv A outer s H vs Q E hr h => ?_)
  · obtain ⟨D, ⟨a, p, v, q, rfl, _⟩, _⟩ := h
    rfl
  · obtain ⟨D, ⟨a, p, v, q, rfl, ha, hv, s1, s2, rfl⟩, k⟩ := h
    refine ⟨_, pss_cons (ps_set (i := 2) (scMul 9 rfl).nd rfl (.inl rfl) (pe_call R.gAs hr rfl R.mA R.kA R.bA .nil pass0 (pa_cons (pv 1) pa_nil)))
      (pss_one (ps_ret (pe_make R.M R.gIn (hr.mono (by decide)) rfl R.T.mgC R.bIn .nil pass0 (pa_cons (pe_op op_mulY (pe_fld (pv 0) rfl) (pe_prop (pv 2) R.T.own.cl R.PT.p R.gTop (hr.mono (by decide)) R.PT.b .nil pass0 rfl))
        (pa_cons (pe_op op_mulY (pe_fld (pv 0) rfl) (pe_prop (pv 2) R.T.own.cl R.PB.p R.gBot (hr.mono (by decide)) R.PB.b .nil pass0 rfl)) pa_nil))))), ?_⟩
    refine q_asgD (yd_as (yd_var rfl hv)) (fun x H1 e1 dx => ?_)
    obtain ⟨b, rfl, hb⟩ := dx
    have ha1 := ha.up e1
    refine s_retD (yd_make (q := p * q) (ya_ev (ea_cons (ev_op (R.T.ev_top (ev_var rfl) ha1) (SpOfR.ev (ev_var rfl) hb) (rv_I (mulY_nn s1 s2)))
      (ea_cons (ev_op (R.T.ev_bot (ev_var rfl) ha1) (SpOfR.ev (ev_var rfl) hb) (rv_I (mulY_dd s1 s2))) ea_nil))) (fun vs H2 e => ?_)) (fun v H2 e2 d => k v H2 (e1.trans e2) d)
    subst e
    exact ⟨_, _, rfl, dens_ne p q, dens_small s1 s2, mul_made p q⟩

/-- own op y, by its promise -/
theorem yd_bin {op : Operator} {g : Rat → Rat → Rat} {ta tb : TE} {σ : L2.St} {H : Hp} {p q : Rat} {E : XK} (T : RTxt K mg C fII) (hB : BinT C op "int") (ha : Yd ta σ H (DRat C p)) (hb : Yd tb σ H (DNum C q)) (s1 : Sz 4000 p) (s2 : Sz 4000 q) :
    Yd (tOp (rOwn K C op (spBin C g) E) ta tb) σ H (DRat C (g p q)) :=
  yd_op ha hb fun x y H1 e dx dy Q k => by
    obtain ⟨a, rfl, h⟩ := dx
    obtain ⟨dd, ea⟩ := id h
    have run := spBin_y (g := g) (E := E) h dy s1 s2 H1 (Ex.refl H1) Q k
    rcases dy with ⟨i, rfl, _⟩ | ⟨b, rfl, db, eb⟩
    · exact ⟨a, dd, _, .type "int", rfl, ea, .base (.int i), .inr ⟨"int", rfl, hB⟩, run⟩
    · exact ⟨a, dd, _, .ref C, rfl, ea, T.own.ty eb, .inl rfl, run⟩
/-- int op own, by the reflected one's promise -/
theorem yd_binR {g : Rat → Rat → Rat} {ta tb : TE} {σ : L2.St} {H : Hp} {i : Int} {q : Rat} {E : XK} (ha : Yd ta σ H (Is (.int i))) (hb : Yd tb σ H (DRat C q)) (s1 : Sz 4000 q) (s2 : Sz 4000 (i : Rat)) :
    Yd (tOp (rOwnR C (spBin C g) E) ta tb) σ H (DRat C (g q i)) :=
  yd_op ha hb fun x y H1 e dx dy Q k => by
    obtain ⟨b, rfl, h⟩ := dy
    obtain ⟨dd, eb⟩ := id h
    have dx' : x = V.int i := dx
    subst dx'
    exact ⟨i, b, dd, _, rfl, rfl, eb, spBin_y (g := g) (E := E) h (.inl ⟨i, rfl, rfl⟩) s1 s2 H1 (Ex.refl H1) Q k⟩
theorem scRadd : FnScope ["self", "other"] ["self", "other"] (defScope (m_ 6)) := ⟨rfl, rfl, rfl, by decide +kernel, rfl, by decide +kernel, by decide +kernel⟩
theorem RA.gRadd (R : RA K mg C) : FnOk P w K mg base CX0 6 R.fRadd R.dRadd ["self", "other"] (spBin C fun p q => q + p) := by
  refine R.MRadd.F.ok scRadd (fun vs H Q E h => ?_) (fun cdv A outer s H vs Q E hr h => ?_)
  · obtain ⟨D, ⟨a, p, v, q, rfl, _⟩, _⟩ := h
    rfl
  · obtain ⟨D, ⟨a, p, v, q, rfl, ha, hv, s1, s2, rfl⟩, k⟩ := h
    refine ⟨_, pss_one (ps_ret (pe_op (op_own (op := .Add) R.T.own R.MAdd.m R.MRadd.m R.gAdd hr R.MAdd.b pass0) (pe_call R.gAs (hr.mono (by decide)) rfl R.mA R.kA R.bA .nil pass0 (pa_cons (pv 1) pa_nil)) (pv 0))), ?_⟩
    exact s_retD (yd_bin (g := (· + ·)) R.T bt_add_int (yd_as (yd_var rfl hv)) (yd_var rfl (.inr ⟨a, rfl, ha⟩)) s2 s1) k
/-- -r -/
def spUn (C : Addr) (g : Rat → Rat) : Sp := spD fun vs H D => ∃ a p, vs = [.ref a] ∧ RatAt C p a H ∧ Sz 4000 p ∧ D = DRat C (g p)
theorem scNeg : FnScope ["self"] ["self"] (defScope (m_ 11)) := ⟨rfl, rfl, rfl, by decide +kernel, rfl, by decide +kernel, by decide +kernel⟩
theorem RA.gNeg (R : RA K mg C) : FnOk P w K mg base CX0 4 R.fNeg R.dNeg ["self"] (spUn C fun p => -p) := by
  refine R.MNeg.F.ok scNeg (fun vs H Q E h => ?_) (fun cdv A outer s H vs Q E hr h => ?_)
  · obtain ⟨D, ⟨a, p, rfl, _⟩, _⟩ := h
    rfl
  · obtain ⟨D, ⟨a, p, rfl, ha, s1, rfl⟩, k⟩ := h
    refine ⟨_, pss_one (ps_ret (pe_make R.M R.gIn hr rfl R.T.mgC R.bIn .nil pass0 (pa_cons (pe_un un_neg (pe_fld (pv 0) rfl)) (pa_cons (pe_fld (pv 0) rfl) pa_nil)))), ?_⟩
    refine s_retD (yd_make (q := -p) (ya_ev (ea_cons (ev_un (R.T.ev_top (ev_var rfl) ha) ru_neg) (ea_cons (R.T.ev_bot (ev_var rfl) ha) ea_nil))) (fun vs H2 e => ?_)) k
    subst e
    exact ⟨_, _, rfl, den_ne p, pow_up (by rw [Int.natAbs_natCast]; exact s1.2) (by omega), neg_made p⟩
theorem yd_neg {ta : TE} {σ : L2.St} {H : Hp} {p : Rat} {E : XK} {g : Rat → Rat} (ha : Yd ta σ H (DRat C p)) (s1 : Sz 4000 p) : Yd (tUn (rNegO C (spUn C g) E) ta) σ H (DRat C (g p)) :=
  yd_un ha fun x H1 e dx Q k => by
    obtain ⟨a, rfl, h⟩ := dx
    obtain ⟨dd, ea⟩ := id h
    exact ⟨a, dd, _, rfl, ea, DRat C (g p), ⟨a, p, rfl, h, s1, rfl⟩, k⟩

theorem tyX_up {H H' : Hp} {v : V} {t : Value} (e : Ex H H') (h : TyX K H v t) : TyX K H' v t := by
  cases h with
  | base b =>
    cases b with
    | non => exact .base .non
    | bl y => exact .base (.bl y)
    | int i => exact .base (.int i)
    | str y => exact .base (.str y)
    | flt y => exact .base (.flt y)
    | lst h => exact .base (.lst (e _ _ h))
    | frz h => exact .base (.frz (e _ _ h))
    | tup h => exact .base (.tup (e _ _ h))
    | dK h => exact .base (.dK (e _ _ h))
    | dT h => exact .base (.dT (e _ _ h))
    | ins h c a n k m => exact .base (.ins (e _ _ h) c a n k m)
  | byt y => exact .byt y
  | set h => exact .set (e _ _ h)
  | kList h c => exact .kList h c
  | kTuple h c => exact .kTuple h c
  | kDict h c => exact .kDict h c
  | fTuple h => exact .fTuple (e _ _ h)
  | fDict h => exact .fDict (e _ _ h)
/-- == -/
theorem rat_eq (p q : Rat) : (decide (p.num = q.num) && decide (p.den = q.den)) = decide (p = q) := by
  rw [← Bool.decide_and]
  apply decide_eq_decide.mpr
  constructor
  · intro h
    exact Rat.ext h.1 h.2
  · intro h
    subst h
    exact ⟨rfl, rfl⟩
def spEq (K : PySem.W.Frag) (C : Addr) : Sp := spD fun vs H D => ∃ a p v, vs = [.ref a, v] ∧ RatAt C p a H ∧ ((∃ q, DRat C q v H ∧ D = Is (.bl (decide (p = q)))) ∨ ∃ t, TyX K H v t ∧ PySem.W.kitOne K t (.ref C) = some false ∧ D = Is (.bl false))
theorem scEq : FnScope ["self", "other"] ["self", "other"] (defScope (m_ 16)) := ⟨rfl, rfl, rfl, by decide +kernel, rfl, by decide +kernel, by decide +kernel⟩
theorem RA.gEq (R : RA K mg C) : FnOk P w K mg base CX0 1 R.fEq R.dEq ["self", "other"] (spEq K C) := by
  refine R.MEq.F.ok scEq (fun vs H Q E h => ?_) (fun cdv A outer s H vs Q E hr h => ?_)
  · obtain ⟨D, ⟨a, p, v, rfl, _⟩, _⟩ := h
    rfl
  · obtain ⟨D, ⟨a, p, v, rfl, ha, hv⟩, k⟩ := h
    refine ⟨_, pss_one (ps_ret (pe_and (pe_callB call_isi rfl R.T.isi (by rfl) (pa_cons (pv 1) (pa_cons (pe_glob (v := .ref C) rfl R.T.mgC rfl) pa_nil)))
      (pe_and (pe_cmpR op_eq (pe_fld (pv 0) rfl) (pe_fld (pv 1) rfl) (nomark _)) (pe_one (pe_cmpR op_eq (pe_fld (pv 0) rfl) (pe_fld (pv 1) rfl) (nomark _)))))), ?_⟩
    rcases hv with ⟨q, ⟨b, rfl, hb⟩, rfl⟩ | ⟨t, ty, kt, rfl⟩
    · obtain ⟨db, eb⟩ := id hb
      refine s_ret (v := .bl (decide (p = q))) (ev_is (ev_andV (a := true) (ev_cb (ea_cons (ev_var rfl) (ea_cons ev_c ea_nil)) (fun H1 e Q q => ⟨_, _, _, _, _, rfl, .own C, R.T.own.ty (e _ _ eb), kit_self, q H1 (Ex.refl H1)⟩))
        (fun _ => ev_andV (a := decide (p.num = q.num)) (ev_is (ev_op (R.T.ev_top (ev_var rfl) ha) (R.T.ev_top (ev_var rfl) hb) (rv_eq rfl)) (by rw [int_eq_iff]))
          (fun _ => ev_is (ev_op (R.T.ev_bot (ev_var rfl) ha) (R.T.ev_bot (ev_var rfl) hb) (rv_eq rfl)) (w := .bl (decide (p.den = q.den))) ?_))) ?_) (fun H1 e => k _ H1 e rfl)
      · rw [int_eq_iff]
        congr 1
        apply decide_eq_decide.mpr
        omega
      · rw [Bool.true_and, rat_eq]
    · refine s_ret (v := .bl false) (ev_is (ev_andV (a := false) (b := false) (ev_cb (ea_cons (ev_var rfl) (ea_cons ev_c ea_nil)) (fun H1 e Q q => ⟨_, _, _, _, _, rfl, .own C, tyX_up e ty, kt, q H1 (Ex.refl H1)⟩)) (fun z => nomatch z)) rfl) (fun H1 e => k _ H1 e rfl)

theorem yd_eq {ta tb : TE} {σ : L2.St} {H : Hp} {p q : Rat} {E : XK} (T : RTxt K mg C fII) (ha : Yd ta σ H (DRat C p)) (hb : Yd tb σ H (DRat C q)) : Yd (tOp (rEqO K C (spEq K C) E) ta tb) σ H (Is (.bl (decide (p = q)))) :=
  yd_op ha hb fun x y H1 e dx dy Q k => by
    obtain ⟨a, rfl, h⟩ := dx
    obtain ⟨dd, ea⟩ := id h
    obtain ⟨b, rfl, db, eb⟩ := id dy
    exact ⟨a, dd, _, .ref C, rfl, ea, T.own.ty eb, .inl rfl, _, ⟨a, p, _, rfl, h, .inl ⟨q, dy, rfl⟩⟩, k⟩
theorem yd_ne {ta tb : TE} {σ : L2.St} {H : Hp} {p q : Rat} {E : XK} (T : RTxt K mg C fII) (ha : Yd ta σ H (DRat C p)) (hb : Yd tb σ H (DRat C q)) : Yd (tOp (rNeO K C (spEq K C) E) ta tb) σ H (Is (.bl (!decide (p = q)))) :=
  yd_op ha hb fun x y H1 e dx dy Q k => by
    obtain ⟨a, rfl, h⟩ := dx
    obtain ⟨dd, ea⟩ := id h
    obtain ⟨b, rfl, db, eb⟩ := id dy
    refine ⟨a, dd, _, .ref C, rfl, ea, T.own.ty eb, .inl rfl, _, ⟨a, p, _, rfl, h, .inl ⟨q, dy, rfl⟩⟩, fun v H2 e2 d => ?_⟩
    have d' : v = .bl (decide (p = q)) := d
    exact ⟨_, d', k _ H2 e2 rfl⟩
/-- own == what is no own one, of a built-in type -/
theorem yd_eqB {ta tb : TE} {σ : L2.St} {H : Hp} {p : Rat} {E : XK} {D : DV} {T : String} (hT : PySem.W.subIn [] (.type T) (.ref C) = some false) (R : RTxt K mg C fII) (ha : Yd ta σ H (DRat C p)) (hb : Yd tb σ H D) (hD : ∀ v H1, D v H1 → TyX K H1 v (.type T)) :
    Yd (tOp (rEqO K C (spEq K C) E) ta tb) σ H (Is (.bl false)) :=
  yd_op ha hb fun x y H1 e dx dy Q k => by
    obtain ⟨a, rfl, h⟩ := dx
    obtain ⟨dd, ea⟩ := id h
    exact ⟨a, dd, _, .type T, rfl, ea, hD _ _ dy, .inr ⟨T, rfl, hT⟩, _, ⟨a, p, _, rfl, h, .inr ⟨_, hD _ _ dy, R.kit_in hT, rfl⟩⟩, k⟩

/-- the texts -/
abbrev tS (i : Int) : Str := Str.ofString (toString i)
theorem len_tS {i : Int} (h : i.natAbs < 2 ^ 1900) : (tS i).length ≤ 1901 := by
  have e := int_text_length_le (a := i) (k := 1900) (by decide) (log_lt h (by decide))
  unfold tS
  rw [PySem.ofString_length]
  exact e
theorem fit_tS {i : Int} (h : i.natAbs < 2 ^ 1900) : i.natAbs.log2 < 1920 := Nat.lt_of_lt_of_le (log_lt h (by decide)) (by decide)
def ratStr (q : Rat) : Str := if q.den = 1 then tS q.num else tS q.num ++ "/" ++ tS (q.den : Int)
def ratRepr (q : Rat) : Str := ("Ratio(" : Str) ++ tS q.num ++ ", " ++ tS (q.den : Int) ++ ")"
theorem sz_den {q : Rat} (h : Sz 1900 q) : ((q.den : Int)).natAbs < 2 ^ 1900 := by
  rw [Int.natAbs_natCast]
  exact h.2
def ROof (C : Addr) (g : Rat → Str) : RO := fun a x H => ∃ q, RatAt C q a H ∧ Sz 1900 q ∧ x = g q
theorem scStr : FnScope ["self"] ["self"] (defScope (m_ 18)) := ⟨rfl, rfl, rfl, by decide +kernel, rfl, by decide +kernel, by decide +kernel⟩
/-- an f-string's parts -/
theorem yd_join {ts : List TE} {σ : L2.St} {H : Hp} {x : Str} (h : ∀ H1, Ex H H1 → ∀ Q : Str → Hp → Prop, (∀ H2, Ex H1 H2 → Q x H2) → tJs ts Str.empty σ H1 Q) : Ev (fun σ H Q => tJs ts Str.empty σ H fun out H1 => Q (.str out) H1) σ H (.str x) := fun H1 e Q q => h H1 e _ q
theorem js_nil {σ : L2.St} {H : Hp} {acc : Str} {Q : Str → Hp → Prop} (q : Q acc H) : tJs [] acc σ H Q := q
theorem js_c {ts : List TE} {σ : L2.St} {H H0 : Hp} {acc y : Str} {Q : Str → Hp → Prop} {t : TE} (e : Ex H0 H) (h : Ev t σ H0 (.str y)) (l : (acc ++ y).length ≤ sizeLine) (k : ∀ H1, Ex H H1 → tJs ts (acc ++ y) σ H1 Q) : tJs (t :: ts) acc σ H Q :=
  h H e _ fun H1 e1 => ⟨y, rfl, l, k H1 e1⟩
theorem ev_fmtI {σ : L2.St} {H : Hp} {te : TE} {i : Int} (h : Ev te σ H (.int i)) (l : i.natAbs.log2 < 1920) : Ev (tFmt te) σ H (.str (tS i)) := fun H1 e Q q => h H1 e _ fun H2 e2 => .inr ⟨i, rfl, l, q H2 e2⟩
theorem RA.gStr (R : RA K mg C) : FnOk P w K mg base CX0 1 R.fStr R.dStr ["self"] (spText (ROof C ratStr)) := by
  refine R.MStr.F.ok scStr (fun vs H Q E h => ?_) (fun cdv A outer s H vs Q E hr h => ?_)
  · obtain ⟨a, x, rfl, _⟩ := h
    rfl
  · obtain ⟨a, x, rfl, ⟨q, ha, sz, rfl⟩, k⟩ := h
    refine ⟨_, pss_cons (ps_if (pt_cmpR op_eq (pe_fld (pv 0) rfl) pe_int (nomark _)) (pss_one (ps_ret (pe_callTy call_str_int rfl R.mStr (by rfl) (pa_cons (pe_fld (pv 0) rfl) pa_nil)))) pss_nil)
      (pss_one (ps_ret (pe_joined (.cons (pe_fmt (pe_fld (pv 0) rfl)) (.cons pe_str (.cons (pe_fmt (pe_fld (pv 0) rfl)) .nil)))))), ?_⟩
    refine q_when (b := decide (q.den = 1)) (et_test (ev_is (ev_op (R.T.ev_bot (ev_var rfl) ha) ev_c (rv_eq rfl)) (by rw [den_one]))) (fun z H1 e1 => ?_) (fun z H1 e1 => ?_)
    · refine s_ret (v := .str (ratStr q)) (ev_cb (ea_cons (R.T.ev_top (ev_var rfl) (ha.up e1)) ea_nil) (fun H2 _ Q k => ⟨_, rfl, fit_tS sz.1, ?_⟩)) (fun H2 e2 => k _ (e1.trans e2))
      have e : ratStr q = tS q.num := if_pos (of_decide_eq_true z)
      rw [e] at k
      exact k H2 (Ex.refl H2)
    · have l1 := len_tS sz.1
      have l2 := len_tS (sz_den sz)
      have l3 : ("/" : Str).length = 1 := rfl
      have lz : sizeLine = 16777216 := by decide
      refine s_ret (v := .str (ratStr q)) (yd_join fun H2 e2 Q k => ?_) (fun H2 e2 => k _ (e1.trans e2))
      refine js_c (Ex.refl H2) (ev_fmtI (R.T.ev_top (ev_var rfl) (ha.up (e1.trans e2))) (fit_tS sz.1)) (by rw [Str.empty_append]; omega) (fun H3 e3 => ?_)
      refine js_c (Ex.refl H3) ev_c (by rw [Str.empty_append, Str.length_append]; omega) (fun H4 e4 => ?_)
      refine js_c (Ex.refl H4) (ev_fmtI (R.T.ev_bot (ev_var rfl) (ha.up (((e1.trans e2).trans e3).trans e4))) (fit_tS (sz_den sz))) (by rw [Str.empty_append, Str.length_append, Str.length_append]; omega) (fun H5 e5 => ?_)
      refine js_nil ?_
      have e : ratStr q = tS q.num ++ "/" ++ tS (q.den : Int) := if_neg (of_decide_eq_false z)
      rw [Str.empty_append]
      show Q (tS q.num ++ "/" ++ tS (q.den : Int)) H5
      rw [← e]
      exact k H5 ((e3.trans e4).trans e5)
theorem scRepr : FnScope ["self"] ["self"] (defScope (m_ 19)) := ⟨rfl, rfl, rfl, by decide +kernel, rfl, by decide +kernel, by decide +kernel⟩
theorem RA.gRepr (R : RA K mg C) : FnOk P w K mg base CX0 1 R.fRepr R.dRepr ["self"] (spText (ROof C ratRepr)) := by
  refine R.MRepr.F.ok scRepr (fun vs H Q E h => ?_) (fun cdv A outer s H vs Q E hr h => ?_)
  · obtain ⟨a, x, rfl, _⟩ := h
    rfl
  · obtain ⟨a, x, rfl, ⟨q, ha, sz, rfl⟩, k⟩ := h
    refine ⟨_, pss_one (ps_ret (pe_joined (.cons pe_str (.cons (pe_fmt (pe_fld (pv 0) rfl)) (.cons pe_str (.cons (pe_fmt (pe_fld (pv 0) rfl)) (.cons pe_str .nil))))))), ?_⟩
    have l1 := len_tS sz.1
    have l2 := len_tS (sz_den sz)
    have l3 : ("Ratio(" : Str).length = 6 := rfl
    have l4 : (", " : Str).length = 2 := rfl
    have l5 : (")" : Str).length = 1 := rfl
    have lz : sizeLine = 16777216 := by decide
    refine s_ret (v := .str (ratRepr q)) (yd_join fun H2 e2 Q k => ?_) (fun H2 e2 => k _ e2)
    refine js_c (Ex.refl H2) ev_c (by rw [Str.empty_append]; omega) (fun H3 e3 => ?_)
    refine js_c (Ex.refl H3) (ev_fmtI (R.T.ev_top (ev_var rfl) (ha.up (e2.trans e3))) (fit_tS sz.1)) (by rw [Str.empty_append, Str.length_append]; omega) (fun H4 e4 => ?_)
    refine js_c (Ex.refl H4) ev_c (by rw [Str.empty_append, Str.length_append, Str.length_append]; omega) (fun H5 e5 => ?_)
    refine js_c (Ex.refl H5) (ev_fmtI (R.T.ev_bot (ev_var rfl) (ha.up (((e2.trans e3).trans e4).trans e5))) (fit_tS (sz_den sz))) (by rw [Str.empty_append, Str.length_append, Str.length_append, Str.length_append]; omega) (fun H6 e6 => ?_)
    refine js_c (Ex.refl H6) ev_c (by rw [Str.empty_append, Str.length_append, Str.length_append, Str.length_append, Str.length_append]; omega) (fun H7 e7 => ?_)
    refine js_nil ?_
    rw [Str.empty_append]
    exact k H7 ((((e3.trans e4).trans e5).trans e6).trans e7)
end
end PF
/-! The law's own number sources: a list of two ints that is drawn from. -/
namespace PF
open PySem PySem.Spec PyProof.Rows L2 Evl

structure LTxt (mg : Str → Option Value) : Prop where
  abs : mg "abs" = none
  len : mg "len" = none
  max : mg "max" = none
  int : mg "int" = none
  divmod : mg "divmod" = none
/-- the source, at l -/
def PotAt (l : Addr) (H : Hp) : Prop := ∃ c m : Int, H l = some (.lst [.int c, .int m]) ∧ 0 ≤ m ∧ m < 2147483648
/-- all but what is at l is as it was -/
def Exx (l : Addr) (H H' : Hp) : Prop := ∀ b o, b ≠ l → H b = some o → H' b = some o
theorem Exx.of {l : Addr} {H H' : Hp} (e : Ex H H') : Exx l H H' := fun b o _ h => e b o h
theorem Exx.trans {l : Addr} {H H1 H2 : Hp} (a : Exx l H H1) (b : Exx l H1 H2) : Exx l H H2 := fun x o n h => b x o n (a x o n h)
theorem Exx.mut {l : Addr} {H H' : Hp} {o : HO} (a : Exx l H H') : Exx l H (upd H' l o) := fun x u n h => by
  rw [upd_ne n]
  exact a x u n h
theorem PotAt.up {l : Addr} {H H' : Hp} (e : Ex H H') (h : PotAt l H) : PotAt l H' := by
  obtain ⟨c, m, h1, h2⟩ := h
  exact ⟨c, m, e _ _ h1, h2⟩
def spDraw : Sp := fun vs H Q _ => ∃ l n, vs = [.ref l, .int n] ∧ PotAt l H ∧ 0 < n ∧ n < 1000000 ∧ ∀ d H', 0 ≤ d → d < n → Exx l H H' → PotAt l H' → Q (.int d) H'
section
variable {P : Program} {w : World} {K : PySem.W.Frag} {mg : Str → Option Value} {base : Heap}
theorem ru_int {i : Int} {H : Hp} : RC (fun xs H Q => (∃ i, xs = [.int i] ∧ Q (.int i) H) ∨ ∃ k, xs = [.bl k] ∧ Q (.int (if k then 1 else 0)) H) [.int i] H (.int i) := fun H1 _ Q q => .inl ⟨i, rfl, q H1 (Ex.refl H1)⟩
theorem ev_int1 {σ : L2.St} {H : Hp} {ta : TE} {i : Int} (h : Ev ta σ H (.int i)) : Ev (tCB (fun xs H Q => (∃ i, xs = [.int i] ∧ Q (.int i) H) ∨ ∃ k, xs = [.bl k] ∧ Q (.int (if k then 1 else 0)) H) (tCons ta tNil)) σ H (.int i) := ev_cb (ea_cons h ea_nil) ru_int
/-- an assignment to any targets -/
theorem q_to {te : TE} {g : TG} {tz : TS} {D' : Ends} {σ : L2.St} {H : Hp} {D : DV} (h : Yd te σ H D) (k : ∀ v H1, Ex H H1 → D v H1 → g v σ H1 (tz D')) : tSeq (tAsg te g) tz D' σ H := h H (Ex.refl H) _ k
theorem s_to {te : TE} {g : TG} {D' : Ends} {σ : L2.St} {H : Hp} {D : DV} (h : Yd te σ H D) (k : ∀ v H1, Ex H H1 → D v H1 → g v σ H1 D'.nx) : tAsg te g D' σ H := h H (Ex.refl H) _ k
/-- a new tuple of these -/
def TupOf (xs : List V) : DV := fun v H => ∃ p, v = .ref p ∧ H p = some (.tup xs)
instance {xs : List V} : Mn (TupOf xs) := ⟨fun e h => by
  obtain ⟨p, h1, h2⟩ := h
  exact ⟨p, h1, e _ _ h2⟩⟩
theorem scDraw : FnScope ["_law_pot_here", "_law_sides", "_law_digit"] ["_law_pot_here", "_law_sides"] (defScope sDraw) := ⟨rfl, rfl, rfl, by decide +kernel, rfl, by decide +kernel, by decide +kernel⟩
theorem ok_draw {f : Addr} {fd : FuncData} (F : Fun K "_law_draw" "_law_draw" sDraw f fd) (T : LTxt mg) : FnOk P w K mg base CX0 1 f fd ["_law_pot_here", "_law_sides"] spDraw := by
  refine F.ok scDraw (fun vs H Q E h => ?_) (fun cdv A outer s H vs Q E hr h => ?_)
  · obtain ⟨l, n, rfl, _⟩ := h
    rfl
  · obtain ⟨l, n, rfl, ⟨c, m, hl, m0, m1⟩, n0, n1, k⟩ := h
    refine ⟨_, pss_cons (ps_if (pt_cmpR op_gt (pe_ix ix_list (pv 0) pe_int (fun _ _ => rfl)) pe_int (nomark _))
        (pss_cons (ps_asg (pe_callB call_divmod (by rfl) T.divmod (by rfl) (pa_cons (pe_ix ix_list (pv 0) pe_int (fun _ _ => rfl)) (pa_cons (pv 1) pa_nil))) (pg_tup rfl (pgs_cons (pg_sub (pv 0) pe_int set_list) (pgs_cons (pg_name (i := 2) scDraw.nd rfl (.inl rfl)) pgs_nil)))) (pss_one (ps_ret (pv 2)))) pss_nil)
      (pss_cons (ps_asg (pe_op op_mod (pe_callTy call_int1 (by rfl) T.int (by rfl) (pa_cons (pe_op op_add (pe_op op_mul (pe_ix ix_list (pv 0) pe_int (fun _ _ => rfl)) pe_int) pe_int) pa_nil)) pe_int) (pg_sub (pv 0) pe_int set_list))
      (pss_one (ps_ret (pe_op op_mod (pe_callTy call_int1 (by rfl) T.int (by rfl) (pa_cons (pe_op op_fdiv (pe_op op_mod (pe_callTy call_int1 (by rfl) T.int (by rfl) (pa_cons (pe_op op_mul (pe_ix ix_list (pv 0) pe_int (fun _ _ => rfl)) (pe_ix ix_list (pv 0) pe_int (fun _ _ => rfl))) pa_nil)) pe_int) pe_int) pa_nil)) (pv 1))))), ?_⟩
    refine q_when (b := decide (0 < c)) (et_test (ev_op (ev_op (ev_var rfl) ev_c (rv_ixL (sq_of hl) (atI_nat (j := 0) rfl))) ev_c rv_I0)) (fun z H1 e1 => ?_) (fun z H1 e1 => ?_)
    · have h1 := e1 _ _ hl
      refine q_to (D := TupOf [.int (c / n), .int (c % n)]) (yd_cb (ya_ev (ea_cons (ev_op (ev_var rfl) ev_c (rv_ixL (sq_of h1) (atI_nat (j := 0) rfl))) (ea_cons (ev_var rfl) ea_nil))) (fun vs H2 e2 p Q q => ?_)) (fun v H2 e2 d => ?_)
      · subst p
        exact ⟨c, n, rfl, ⟨n0, by omega⟩, fun p np => q _ _ (Ex.new np) ⟨p, rfl, upd_same⟩⟩
      obtain ⟨p, rfl, hp⟩ := d
      have h2 := e2 _ _ h1
      refine ⟨p, _, rfl, st_of hp, rfl, _, _, rfl, _, rfl, l, _, 0, 0, rfl, rfl, h2, ixN_nat (by show 0 < 2; decide), _, _, rfl, ?_⟩
      refine ⟨rfl, _, rfl, ?_⟩
      refine k _ _ (Int.emod_nonneg _ (by omega)) (Int.emod_lt_of_pos _ n0) (Exx.mut (Exx.of (e1.trans e2))) ⟨c / n, m, upd_same, m0, m1⟩
    · have h1 := e1 _ _ hl
      refine q_setL (j := 1) h1 (ev_op (ev_int1 (ev_op (ev_op (ev_op (ev_var rfl) ev_c (rv_ixL (sq_of h1) (atI_nat (j := 1) rfl))) ev_c (rv_I (.inr ⟨by decide, by decide⟩))) ev_c rv_I0)) ev_c (rv_I (by decide))) (ev_var rfl) ev_c (by show 1 < 2; decide) (fun H2 e2 => ?_)
      have h3 : upd H2 l (.lst ([.int c, .int m].set 1 (.int ((m * 39869 + 30047) % 2147483563)))) l = some (.lst [.int c, .int ((m * 39869 + 30047) % 2147483563)]) := upd_same
      have b0 := Int.emod_nonneg (m * 39869 + 30047) (show (2147483563 : Int) ≠ 0 by decide)
      have b1 := Int.emod_lt_of_pos (m * 39869 + 30047) (show (0 : Int) < 2147483563 by decide)
      generalize em : (m * 39869 + 30047) % 2147483563 = m' at h3 b0 b1
      have ix : Ev (tOp (rIxL K) (tVar 0) (tC (.int 1))) (start ["_law_pot_here", "_law_sides", "_law_digit"] [.ref l, .int n]) (upd H2 l (.lst ([.int c, .int m].set 1 (.int m')))) (.int m') := ev_op (ev_var rfl) ev_c (rv_ixL (sq_of h3) (atI_nat (j := 1) rfl))
      refine s_ret (ev_op (ev_int1 (ev_op (ev_op (ev_int1 (ev_op ix ix (rv_I (.inl ⟨by omega, by omega⟩)))) ev_c (rv_I (by decide))) ev_c (rv_I ⟨by decide, by decide⟩))) (ev_var rfl) (rv_I n0)) (fun H3 e3 => ?_)
      exact k _ _ (Int.emod_nonneg _ (by omega)) (Int.emod_lt_of_pos _ n0) (Exx.trans (Exx.mut (Exx.of (e1.trans e2))) (Exx.of e3)) (PotAt.up e3 ⟨c, m', h3, b0, by omega⟩)
def spPot (K : PySem.W.Frag) : Sp := fun vs H Q _ => ∃ (a : Addr) (k : Int) (ns : List Int), vs = [.ref a, .int k] ∧ SqL K H a (ns.map V.int) ∧ 0 ≤ k ∧ k ≤ 1000 ∧ ∀ l H', H l = none → Ex H H' → PotAt l H' → Q (.ref l) H'
theorem scPot : FnScope ["_law_script", "_law_k", "_law_cell"] ["_law_script", "_law_k"] (defScope sPot) := ⟨rfl, rfl, rfl, by decide +kernel, rfl, by decide +kernel, by decide +kernel⟩
theorem ok_pot {f : Addr} {fd : FuncData} (F : Fun K "_law_pot" "_law_pot" sPot f fd) (T : LTxt mg) : FnOk P w K mg base CX0 1 f fd ["_law_script", "_law_k"] (spPot K) := by
  refine F.ok scPot (fun vs H Q E h => ?_) (fun cdv A outer s H vs Q E hr h => ?_)
  · obtain ⟨a, k, ns, rfl, _⟩ := h
    rfl
  · obtain ⟨a, k, ns, rfl, hS, k0, k1, q⟩ := h
    refine ⟨_, pss_cons (ps_set (i := 2) scPot.nd rfl (.inl rfl) (pe_ifExp (pt_cmpR op_lt (pv 1) (pe_callB call_len_seq (by rfl) T.len PySem.boot_len (pa_cons (pv 0) pa_nil)) (nomark _)) (pe_callB call_abs (by rfl) T.abs (by rfl) (pa_cons (pe_ix ix_list (pv 0) (pv 1) (fun _ _ => rfl)) pa_nil)) (pe_op op_add (pe_op op_mul pe_int (pv 1)) pe_int)))
      (pss_one (ps_ret (pe_lst (pa_cons (pe_callB (call_max2 rfl) (by rfl) T.max (by rfl) (pa_cons pe_int (pa_cons (pe_op op_sub (pv 2) (pe_op op_pow pe_int pe_int)) pa_nil)))
        (pa_cons (pe_op op_add (pe_op op_mod (pe_callTy call_int1 (by rfl) T.int (by rfl) (pa_cons (pe_op op_add (pe_op op_add (pe_op op_mul (pe_op op_mod (pe_callTy call_int1 (by rfl) T.int (by rfl) (pa_cons (pv 2) pa_nil)) pe_int) pe_int) (pe_op op_mul pe_int (pv 1))) pe_int) pa_nil)) pe_int) pe_int) pa_nil))))), ?_⟩
    refine q_asgD (D := fun v _ => ∃ i : Int, v = .int i) (yd_if (b := decide (k < ((ns.map V.int).length : Int))) (et_test (ev_op (ev_var rfl) (ev_len (ev_var rfl) hS) rv_I0)) (fun z => ?_) (fun z => ?_)) (fun v H1 e1 d => ?_)
    · have z' := of_decide_eq_true z
      rw [List.length_map] at z'
      obtain ⟨j, rfl⟩ : ∃ j : Nat, k = j := ⟨k.toNat, by omega⟩
      have hj : j < ns.length := by omega
      refine Yd.imp (yd_ev (ev_cb (ea_cons (ev_op (ev_var rfl) (ev_var rfl) (rv_ixL hS (atI_nat (v := .int ns[j]) (by rw [List.getElem?_map, List.getElem?_eq_getElem hj]; rfl)))) ea_nil) (z := .int (if ns[j] < 0 then -ns[j] else ns[j])) (fun H1 _ Q q => ⟨_, rfl, q H1 (Ex.refl H1)⟩))) (fun v H1 _ d => ⟨_, d⟩)
    · exact Yd.imp (yd_ev (ev_op (ev_op ev_c (ev_var rfl) (rv_I (.inl ⟨by decide, by decide⟩))) ev_c rv_I0)) (fun v H1 _ d => ⟨_, d⟩)
    · obtain ⟨c, rfl⟩ := d
      have b0 := Int.emod_nonneg (c % 2147483549 * 40531 + 6547 * k + 233) (show (2147483563 : Int) ≠ 0 by decide)
      have b1 := Int.emod_lt_of_pos (c % 2147483549 * 40531 + 6547 * k + 233) (show (0 : Int) < 2147483563 by decide)
      refine s_retL (el_lst (ea_cons (ev_cb (ea_cons ev_c (ea_cons (ev_op (ev_var rfl) (ev_op ev_c ev_c (rv_I ⟨by decide, by decide, by decide⟩)) rv_I0) ea_nil)) (fun H2 _ Q q => ⟨_, _, rfl, q H2 (Ex.refl H2)⟩))
        (ea_cons (ev_op (ev_op (ev_int1 (ev_op (ev_op (ev_op (ev_op (ev_int1 (ev_var rfl)) ev_c (rv_I (by decide))) ev_c (rv_I (.inr ⟨by decide, by decide⟩))) (ev_op ev_c (ev_var rfl) (rv_I (.inl ⟨by decide, by decide⟩))) rv_I0) ev_c rv_I0)) ev_c (rv_I (by decide))) ev_c rv_I0) ea_nil)) (by show 2 ≤ 100000; decide)) (fun p H2 hp e2 h2 => ?_)
      exact q p H2 (fresh_back e1 hp) (e1.trans e2) ⟨_, _, h2, by omega, by omega⟩
end
end PF
/-! repr of a dict of ints by ints, beside what else is shown. -/
namespace PF
open PySem PySem.Spec PyProof.Rows L2 Evl

def kvI (l : List (Int × Int)) : List (Key × V) := l.map fun p => (Sum.inl p.1, V.int p.2)
def dText (l : List (Int × Int)) : Str := dictText (l.map fun p => tS p.1 ++ ": " ++ tS p.2)
def smallI (l : List (Int × Int)) : Prop := ∀ p ∈ l, p.1.natAbs.log2 < 1920 ∧ p.2.natAbs.log2 < 1920
theorem pairs_repr {P : Program} {w : World} {h : Heap} : ∀ {l : List (Int × Int)} {vs : List (Key × Value)} {es : List DictEntry}, smallI l → KV (kvI l) vs → Pairs (mixKind P w) es vs → ReprEntriesK P w [] h 0 es (l.map fun p => tS p.1 ++ ": " ++ tS p.2)
  | [], vs, es, _, r, q => by
    have r' : Paired (fun (p : Key × V) (q : Key × Value) => p.1 = q.1 ∧ RelV p.2 q.2) [] vs := r
    cases r'
    cases q
    exact .nil
  | p :: l, vs, es, s, r, q => by
    have r' : Paired (fun (p : Key × V) (q : Key × Value) => p.1 = q.1 ∧ RelV p.2 q.2) ((Sum.inl p.1, V.int p.2) :: kvI l) vs := r
    cases r' with
    | @cons _ b _ bs hd tl =>
      cases q with
      | @cons e kv es kvs h1 h2 t =>
        obtain ⟨e1, e2⟩ := hd
        obtain ⟨z1, z2⟩ := s p (List.mem_cons_self ..)
        have h1' : keyIs b.1 e.key = true := h1
        rw [← e1] at h1'
        rcases keyIs_shape h1' with ⟨i, u, ei, ek⟩ | ⟨x, u, ei, ek⟩
        · have ei' : p.1 = i := Sum.inl.inj ei
          subst ei'
          obtain ⟨u2, ev⟩ : ∃ u2, b.2 = Value.int p.2 u2 := e2
          have k1 : ReprK P w [] h 0 e.key (tS p.1) := by
            rw [ek]
            exact ReprK.of_is (ReprIs.int u z1) [] h 0
          have k2 : ReprK P w [] h 0 e.val (tS p.2) := by
            rw [h2, ev]
            exact ReprK.of_is (ReprIs.int u2 z2) [] h 0
          exact .cons k1 k2 (pairs_repr (fun q hq => s q (List.mem_cons_of_mem _ hq)) tl t)
        · cases ei
section
variable {X : Cx}
def rReprD : List V → Hp → VK → Prop := fun xs H Q => ∃ a l, xs = [.ref a] ∧ H a = some (.dK (kvI l)) ∧ smallI l ∧ (dText l).length ≤ sizeLine ∧ ∀ H', Ex H H' → Q (.str (dText l)) H'
theorem call_reprD (hg : X.A.guards = some []) (hr : Room 3 X.A) : CallR X (.builtin "repr") rReprD := by
  intro pins s σ H xs us Q I r h
  obtain ⟨a, l, rfl, ea, sm, sz, q⟩ := h
  obtain ⟨u, rfl, ru⟩ := vals1 r
  cases ru
  obtain ⟨_, ns, vs, kv, o, es, ep, h1, h2, h3, _, h5, _⟩ := (show ObjOk X.prog X.w H s.heap a (.dK (kvI l)) from I.hok a _ ea)
  have hc : o.cls = .type "dict" := h2.1
  have sb : Sub X 3 X.A := ⟨hr, rfl⟩
  refine repr_slot ⟨o, h1, hc⟩ PySem.F.slot_dict_repr (by have := sb.in1.room.units; omega) (call_dict_reprK (as := []) (d := 0) h1 hc h3 ns (by simp) (pairs_repr sm kv h5) (g := []) hg (fun b _ id x rest kw hm => by cases hm) (by have := sb.in1.room.units; omega) (fun b o z => z) (fun h' u tk k => ?_) sz)
  exact ⟨⟨_, _, rfl⟩, .str (dText l), H, I.kept k, ⟨_, rfl⟩, q H (Ex.refl H)⟩
/-- repr of whatever is shown, a dict of ints too -/
def rRep (O : RO) (n : Nat) : List V → Hp → VK → Prop := fun xs H Q => rRepr O n xs H Q ∨ rReprD xs H Q
theorem call_rep {O : RO} {m n : Nat} (hg : X.A.guards = some []) (hr : Room (m + n + 3) X.A) (k : ROk O) (own : OShow X m O) : CallR X (.builtin "repr") (rRep O n) := by
  intro pins s σ H xs us Q I r h
  rcases h with h | h
  · exact call_repr hg hr k own pins s σ H xs us Q I r h
  · exact call_reprD hg (hr.mono (by omega)) pins s σ H xs us Q I r h
end
end PF
/-! Calls by keywords alone; new lists. -/
namespace PF
open PySem PySem.Spec PyProof.Rows L2 Evl

/-- how keywords alone are bound -/
structure KW0 (K : PySem.W.Frag) (fd : FuncData) (ps ks : List Str) (g : List Value → List Value) (gV : List V → List V) : Prop where
  to : ∀ (s : Shared) (ws : List Value), K.In s.heap → ws.length = ks.length → BindsTo s fd ⟨[], ks.zip ws⟩ (ps.zip (g ws))
  rel : ∀ {zs : List V} {ws : List Value}, zs.length = ks.length → Vals zs ws → Vals (gV zs) (g ws)
def tCallW (m : Nat) (sp : Sp) (gV : List V → List V) (E : XK) (tk : TA) : TE := fun σ H Q => tk σ H fun zs H2 => zs.length = m ∧ sp (gV zs) H2 Q E
section
variable {X : Cx} {CX : CXT} {k : Nat} {f : Addr} {fd : FuncData} {ps ks : List Str} {sp : Sp} {E : XK} {x : Str} {p pos : Pos} {kws : List Keyword} {tk : TA} {g : List Value → List Value} {gV : List V → List V}
theorem pe_callW (F : FnOk X.prog X.w X.K X.mg X.base CX k f fd ps sp) (hr : Room k X.A) (gl : Gl X x) (hm : X.mg x = some (.ref f)) (hk : PySem.W.keepIn X.K (.ref f) = true) (hb : KW0 X.K fd ps ks g gV) (hx : Passes CX X E) (hkw : PK X kws tk)
    (hall : (backToKw pos (keywordEach kws X.env)).all (·.1.isSome) = true := by rfl) (hks : (backToKw pos (keywordEach kws X.env)).filterMap (·.1) = ks := by rfl) (hdb : (x == ("__debug__" : Str)) = false := by decide)
    (hpl : ((backTo pos (starEach [] X.env)).any (·.1) || (backToKw pos (keywordEach kws X.env)).any (·.1.isNone)) = false := by rfl) :
    PE X (.Call (.Name x p) [] kws pos) (tCallW ks.length sp gV E tk) := by
  refine ⟨fun pins s σ H Q I h => wpAny_Call_Name_kw (ld_glob I gl hm ?_ hdb)⟩
  refine PySem.W.callWith_KW0 (h₀ := X.base) I.ok.mod.kin hk hall (thn (hkw.run pos pins s σ H _ I h) fun ws s2 z => ?_) hpl
  obtain ⟨zs, H2, I2, rz, l, q⟩ := z
  refine ⟨I2.kIn, ?_⟩
  rw [hks]
  refine wpAny_call (codeAny_mono (F.run X.A X.stack s2 H2 ⟨[], ks.zip ws⟩ (g ws) (gV zs) Q E hr I2.env0 (hb.to s2 ws I2.kIn (rz.length.symm.trans l)) (hb.rel l rz) q) fun res s' z => ?_)
  match res, z with
  | .error er, z => exact hx pins σ H2 s2 er s' I2 z
  | .ok (.ret u), z => exact I2.after z
  | .ok .next, z => exact z.elim
  | .ok .brk, z => exact z.elim
  | .ok .cont, z => exact z.elim
theorem yd_callW {σ : L2.St} {H : Hp} {P : List V → Hp → Prop} {m : Nat} {D : DV} (h : YdA tk σ H P) (hs : ∀ vs H1, Ex H H1 → P vs H1 → vs.length = m ∧ SpY sp (gV vs) H1 E D) : Yd (tCallW m sp gV E tk) σ H D := fun H1 e Q q =>
  h H1 e _ fun vs H2 e2 p => by
    obtain ⟨l, y⟩ := hs vs H2 (e.trans e2) p
    exact ⟨l, y H2 (Ex.refl H2) Q fun v H3 e3 d => q v H3 (e2.trans e3) d⟩
end
theorem spV_y {sp : Sp} {vs : List V} {H : Hp} {v : V} {E : XK} (h : SpV sp vs H v) : SpY sp vs H E (Is v) := fun H1 e Q q => h H1 e Q (fun H2 e2 => q v H2 e2 rfl) E
/-- a new list of these -/
def LstOf (xs : List V) : DV := fun v H => ∃ p, v = .ref p ∧ H p = some (.lst xs)
instance {xs : List V} : Mn (LstOf xs) := ⟨fun e h => by
  obtain ⟨p, h1, h2⟩ := h
  exact ⟨p, h1, e _ _ h2⟩⟩
end PF
/-! This law's look at one value. -/
namespace PF
open PySem PySem.Spec PyProof.Rows L2 Evl

section
variable {K : PySem.W.Frag} {σ : L2.St} {H : Hp} {ta tb tc : TE} {tz : TS} {D' : Ends} {Da Db Dc : DV} {i j l : Nat}
theorem q_par [Mn Da] [Mn Db] (h1 : Yd ta σ H Da) (h2 : Yd tb σ H Db) (k : ∀ v w H1, Ex H H1 → Da v H1 → Db w H1 → tz D' ((σ.set i (some v)).set j (some w)) H1) : tSeq (tPar i j (tCons ta (tCons tb tNil))) tz D' σ H := by
  unfold tSeq tPar
  refine ya_cons h1 (ya_cons h2 ya_nil) H (Ex.refl H) _ fun vs H1 e p => ?_
  · obtain ⟨v, xs, rfl, d1, w, ys, rfl, d2, (rfl : ys = [])⟩ := p
    exact ⟨v, w, rfl, k v w H1 e d1 d2⟩
theorem q_par3 [Mn Da] [Mn Db] [Mn Dc] (h1 : Yd ta σ H Da) (h2 : Yd tb σ H Db) (h3 : Yd tc σ H Dc) (k : ∀ u v w H1, Ex H H1 → Da u H1 → Db v H1 → Dc w H1 → tz D' (((σ.set i (some u)).set j (some v)).set l (some w)) H1) :
    tSeq (tPar3 i j l (tCons ta (tCons tb (tCons tc tNil)))) tz D' σ H := by
  unfold tSeq tPar3
  refine ya_cons h1 (ya_cons h2 (ya_cons h3 ya_nil)) H (Ex.refl H) _ fun vs H1 e p => ?_
  · obtain ⟨u, xs, rfl, d1, v, ys, rfl, d2, w, zs, rfl, d3, (rfl : zs = [])⟩ := p
    exact ⟨u, v, w, rfl, k u v w H1 e d1 d2 d3⟩
end
/-- v's text -/
def Rp (O : RO) (v : V) (x : Str) (H : Hp) : Prop := (Sh O H 3 v x ∧ x.length ≤ sizeLine) ∨ ∃ a l, v = .ref a ∧ H a = some (.dK (kvI l)) ∧ smallI l ∧ (dText l).length ≤ sizeLine ∧ x = dText l
section
variable {P : Program} {w : World} {K : PySem.W.Frag} {mg : Str → Option Value} {base : Heap} {C : Addr}
theorem rf_inj {p q : Rat} (h : rf p = rf q) : p = q := by
  have h1 : (rf p).lookup ("_top" : Str) = (rf q).lookup ("_top" : Str) := by rw [h]
  have h2 : (rf p).lookup ("_bottom" : Str) = (rf q).lookup ("_bottom" : Str) := by rw [h]
  rw [rf_top, rf_top] at h1
  rw [rf_bottom, rf_bottom] at h2
  have e1 := V.int.inj (Option.some.inj h1)
  have e2 := V.int.inj (Option.some.inj h2)
  exact Rat.ext e1 (by omega)
theorem rok (C : Addr) (g : Rat → Str) : ROk (ROof C g) where
  up := fun e h => by
    obtain ⟨q, h1, h2⟩ := h
    exact ⟨q, h1.up e, h2⟩
  ins := fun h => by
    obtain ⟨q, ⟨dx, h1⟩, _⟩ := h
    exact ⟨C, dx, _, h1⟩
  one := fun h1 h2 => by
    obtain ⟨p, ⟨d1, a1⟩, _, rfl⟩ := h1
    obtain ⟨q, ⟨d2, a2⟩, _, rfl⟩ := h2
    rw [a1] at a2
    injection a2 with a2
    injection a2 with _ _ a2
    rw [rf_inj a2]
theorem Rp.up {O : RO} (ok : ROk O) {v : V} {x : Str} {H H' : Hp} (e : Ex H H') (h : Rp O v x H) : Rp O v x H' := by
  rcases h with ⟨h1, h2⟩ | ⟨a, l, h1, h2, h3⟩
  · exact .inl ⟨Sh.up ok e h1, h2⟩
  · exact .inr ⟨a, l, h1, e _ _ h2, h3⟩
theorem ev_rep {O : RO} (ok : ROk O) {σ : L2.St} {H : Hp} {ta : TE} {v : V} {x : Str} (ha : Ev ta σ H v) (h : Rp O v x H) : Ev (tCB (rRep O 3) (tCons ta tNil)) σ H (.str x) :=
  ev_cb (ea_cons ha ea_nil) fun H1 e Q q => by
    rcases h.up ok e with ⟨h1, h2⟩ | ⟨a, l, rfl, h1, h2, h3, rfl⟩
    · exact .inl ⟨v, x, rfl, h1, h2, q⟩
    · exact .inr ⟨a, l, rfl, h1, h2, h3, q⟩
theorem oshow (R : RA K mg C) {X : Cx} (e1 : X.prog = P) (e2 : X.w = w) (e3 : X.K = K) (e4 : X.mg = mg) (e5 : X.base = base) : OShow X 2 (ROof C ratRepr) := by
  subst e1 e2 e3 e4 e5
  refine oshow_of (C := C) (E := E0) R.MRepr.m R.gRepr R.MRepr.b pass0 (fun a x H h => ?_)
  obtain ⟨q, ⟨dx, h1⟩, _⟩ := h
  exact ⟨dx, _, h1⟩
end
end PF
/-! Lists made anew, their texts, their lengths. -/
namespace PF
open PySem PySem.Spec PyProof.Rows L2 Evl
def tb (b : Bool) : Str := if b then "True" else "False"
section
variable {P : Program} {w : World} {K : PySem.W.Frag} {mg : Str → Option Value} {base : Heap} {C fII : Addr}
theorem yd_call1 {sp : Sp} {σ : L2.St} {H : Hp} {ta : TE} {v : V} {D : DV} {E : XK} (h : Ev ta σ H v) (hs : SpY sp [v] H E D) : Yd (tCall sp [] E (tCons ta tNil)) σ H D :=
  yd_call (ya_ev (ea_cons h ea_nil)) fun vs H1 e p => by
    subst p
    exact fun H2 e2 => hs H2 (e.trans e2)
theorem yd_callW1 {sp : Sp} {σ : L2.St} {H : Hp} {ta : TE} {v : V} {D : DV} {E : XK} (h : Ev ta σ H v) (hs : SpY sp [v] H E D) : Yd (tCallW 1 sp id E (tCons ta tNil)) σ H D :=
  yd_callW (ya_ev (ea_cons h ea_nil)) fun vs H1 e p => by
    subst p
    exact ⟨rfl, fun H2 e2 => hs H2 (e.trans e2)⟩
theorem yd_l {te : TE} {σ : L2.St} {H : Hp} {xs : List V} {D : DV} (h : EvL te σ H xs) (hd : ∀ p H1, Ex H H1 → H1 p = some (.lst xs) → D (.ref p) H1) : Yd te σ H D := fun H1 e Q q => h H1 e Q fun p H2 _ e2 h2 => q _ H2 e2 (hd p H2 (e.trans e2) h2)
theorem yd_u {te : TE} {σ : L2.St} {H : Hp} {xs : List V} {D : DV} (h : EvU te σ H xs) (hd : ∀ p H1, Ex H H1 → H1 p = some (.tup xs) → D (.ref p) H1) : Yd te σ H D := fun H1 e Q q => h H1 e Q fun p H2 _ e2 h2 => q _ H2 e2 (hd p H2 (e.trans e2) h2)
/-- Ratio(t, b), as it is made -/
theorem yd_mk2 {σ : L2.St} {H : Hp} {ta tb : TE} {t b : Int} {E : XK} {q : Rat} (ha : Ev ta σ H (.int t)) (hb : Ev tb σ H (.int b)) (h0 : b ≠ 0) (hz : b.natAbs < 2 ^ 9000) (e : Rat.divInt t b = q) : Yd (tMake C (spInit C) [] E (tCons ta (tCons tb tNil))) σ H (DRat C q) :=
  yd_make (ya_ev (ea_cons ha (ea_cons hb ea_nil))) fun vs H1 p => by
    subst p
    exact ⟨t, b, rfl, h0, hz, e⟩
/-- Ratio(t) -/
theorem yd_mk1 {σ : L2.St} {H : Hp} {ta : TE} {t : Int} {E : XK} (ha : Ev ta σ H (.int t)) : Yd (tMake C (spInit C) [.int 1] E (tCons ta tNil)) σ H (DRat C (t : Rat)) :=
  yd_make (ya_ev (ea_cons ha ea_nil)) fun vs H1 p => by
    subst p
    exact ⟨t, 1, rfl, by decide, one_small, int_made t⟩
/-- repr of a new list -/
theorem ev_repL {O : RO} (ok : ROk O) {σ : L2.St} {H : Hp} {ta : TE} {xs : List V} {x : Str} (ha : EvL ta σ H xs) (h : ∀ p H1, Ex H H1 → H1 p = some (.lst xs) → Rp O (.ref p) x H1) : Ev (tCB (rRep O 3) (tCons ta tNil)) σ H (.str x) :=
  ev_yd (yd_cb (ya1 (D := LstOf xs) (yd_l ha fun p H1 _ h => ⟨p, rfl, h⟩)) fun vs H1 e p Q q => by
    obtain ⟨v, rfl, a, rfl, h1⟩ := p
    rcases h a H1 e h1 with ⟨g1, g2⟩ | ⟨b, l, e2, g2, _⟩
    · exact .inl ⟨_, x, rfl, g1, g2, fun H2 e2 => q _ H2 e2 rfl⟩
    · cases e2
      rw [h1] at g2
      cases g2)
theorem len_list2 (x y : Str) : (listText [x, y]).length = x.length + y.length + 4 := by
  show ((((("[" : Str) ++ "" ++ x) ++ ", ") ++ y) ++ "]").length = _
  rw [Str.length_append, Str.length_append, Str.length_append, Str.length_append, Str.length_append]
  have a1 : ("[" : Str).length = 1 := rfl
  have a2 : ("" : Str).length = 0 := rfl
  have a3 : ("]" : Str).length = 1 := rfl
  have a4 : (", " : Str).length = 2 := rfl
  omega
/-- all(..) of trues -/
theorem ev_allT {σ : L2.St} {H : Hp} {ta : TE} {n : Nat} (ha : EvL ta σ H (given n (fun _ => true) fun _ => .bl true)) : Ev (tCB (rAll K) (tCons ta tNil)) σ H (.bl true) :=
  ev_yd (yd_cb (ya1 (D := LstOf (given n (fun _ => true) fun _ => .bl true)) (yd_l ha fun p H1 _ h => ⟨p, rfl, h⟩)) fun vs H1 e p Q q => by
    obtain ⟨v, rfl, a, rfl, h1⟩ := p
    have e1 : given n (fun _ => true) (fun _ => V.bl true) = (List.replicate n true).map V.bl := by
      unfold given
      have e0 : (List.range n).filter (fun _ => true) = List.range n := List.filter_eq_self.mpr fun _ _ => rfl
      rw [e0, List.map_replicate]
      apply List.ext_getElem
      · simp
      · intro i h1 h2
        simp
    rw [e1] at h1
    refine ⟨a, List.replicate n true, rfl, sq_of h1, ?_⟩
    have e2 : (List.replicate n true).all id = true := by simp
    rw [e2]
    exact q _ H1 (Ex.refl H1) rfl)
end
section
variable {K : PySem.W.Frag} {mg : Str → Option Value} {C fII : Addr} {H : Hp}
theorem sz_eq : sizeLine = 16777216 := by decide
theorem tS_fits {i : Int} (h : i.natAbs.log2 < 1920) : (tS i).length ≤ sizeLine := int_text_fits h
theorem len_ratRepr {q : Rat} (s : Sz 1900 q) : (ratRepr q).length ≤ 4000 := by
  have l1 := len_tS s.1
  have l2 := len_tS (sz_den s)
  have l3 : ("Ratio(" : Str).length = 6 := rfl
  have l4 : (", " : Str).length = 2 := rfl
  have l5 : (")" : Str).length = 1 := rfl
  unfold ratRepr
  rw [Str.length_append, Str.length_append, Str.length_append, Str.length_append]
  omega
theorem sh_rat {q : Rat} {a : Addr} (h : RatAt C q a H) (s : Sz 1900 q) {n : Nat} : Sh (ROof C ratRepr) H n (.ref a) (ratRepr q) := Sh.le (n := 0) (Leaf.own a _ ⟨q, h, s, rfl⟩) (Nat.zero_le _)
theorem len_list1 (x : Str) : (listText [x]).length = x.length + 2 := by
  show ((("[" : Str) ++ "" ++ x) ++ "]").length = _
  rw [Str.length_append, Str.length_append, Str.length_append]
  have a1 : ("[" : Str).length = 1 := rfl
  have a2 : ("" : Str).length = 0 := rfl
  have a3 : ("]" : Str).length = 1 := rfl
  omega
theorem len_tup2 (x y : Str) : (tupleText [x, y]).length = x.length + y.length + 4 := by
  show ((("(" : Str) ++ (x ++ ", " ++ y)) ++ ")").length = _
  rw [Str.length_append, Str.length_append, Str.length_append, Str.length_append]
  have a1 : ("(" : Str).length = 1 := rfl
  have a2 : (", " : Str).length = 2 := rfl
  have a3 : (")" : Str).length = 1 := rfl
  omega
theorem cps_of (s : String) : ∀ c ∈ (Str.ofString s).cps.toList, c < 16 ^ 8 := by
  rw [Str.ofString_eq_toList]
  intro c hc
  have hc' : c ∈ s.toList.map Char.toNat := hc
  obtain ⟨ch, _, rfl⟩ := List.mem_map.mp hc'
  have h1 : ch.toNat < 4294967296 := ch.val.toNat_lt
  have h2 : (16 : Nat) ^ 8 = 4294967296 := by decide
  omega
theorem ratStr_fits {q : Rat} (s : Sz 1900 q) : (reprText (ratStr q)).length ≤ sizeLine := by
  have l1 := len_tS s.1
  have l2 := len_tS (sz_den s)
  have l3 : ("/" : Str).length = 1 := rfl
  have hl : (ratStr q).length ≤ 3803 := by
    unfold ratStr
    split
    · omega
    · rw [Str.length_append, Str.length_append]
      omega
  have hc : ∀ c ∈ (ratStr q).cps.toList, c < 16 ^ 8 := by
    unfold ratStr
    split
    · exact cps_of _
    · rw [Str.cps_append, Str.cps_append]
      intro c h
      rw [Array.toList_append, Array.toList_append] at h
      rcases List.mem_append.mp h with h | h
      · rcases List.mem_append.mp h with h | h
        · exact cps_of _ c h
        · exact cps_of _ c h
      · exact cps_of _ c h
  have := PySem.StrLaws.reprText_len (ratStr q) hc
  rw [sz_eq]
  omega
end
end PF
/-! Readings in which numbers are drawn. -/
namespace PF
open PySem PySem.Spec PyProof.Rows L2 Evl

/-- te draws from the source at l and gives a value of D -/
def YdP (l : Addr) (te : TE) (σ : L2.St) (H : Hp) (D : V → Prop) : Prop := ∀ H1, Exx l H H1 → PotAt l H1 → ∀ Q : VK, (∀ v H2, Exx l H1 H2 → PotAt l H2 → D v → Q v H2) → te σ H1 Q
theorem Exx.refl (l : Addr) (H : Hp) : Exx l H H := fun _ _ _ h => h
section
variable {K : PySem.W.Frag} {σ : L2.St} {H : Hp} {ta tb tc : TE} {tz : TS} {D' : Ends} {Da Db Dc D : V → Prop} {i j k l : Addr} {p : Addr}
theorem ydp_c {v : V} : YdP p (tC v) σ H (fun x => x = v) := fun H1 _ hp Q q => q v H1 (Exx.refl p H1) hp rfl
theorem ydp_op {r : R2} (ha : YdP p ta σ H Da) (hb : YdP p tb σ H Db) (hr : ∀ x y H1, Da x → Db y → ∀ Q : VK, (∀ v, D v → Q v H1) → r x y H1 Q) : YdP p (tOp r ta tb) σ H D := fun H1 e hp Q q =>
  ha H1 e hp _ fun x H2 e2 p2 dx => hb H2 (e.trans e2) p2 _ fun y H3 e3 p3 dy => hr x y H3 dx dy Q fun v d => q v H3 (e2.trans e3) p3 d
theorem ydp_draw {n : Int} {E : XK} (h : σ[i]? = some (some (.ref p))) (n0 : 0 < n) (n1 : n < 1000000) : YdP p (tCall spDraw [] E (tCons (tVar i) (tCons (tC (.int n)) tNil))) σ H (fun v => ∃ d, v = .int d ∧ 0 ≤ d ∧ d < n) := fun H1 e hp Q q =>
  ⟨_, h, p, n, rfl, hp, n0, n1, fun d H2 d0 d1 e2 p2 => q _ H2 e2 p2 ⟨d, rfl, d0, d1⟩⟩
theorem ydp_imp (h : YdP p ta σ H Da) (hd : ∀ v, Da v → D v) : YdP p ta σ H D := fun H1 e hp Q q => h H1 e hp Q fun v H2 e2 p2 d => q v H2 e2 p2 (hd v d)
theorem q_par3P {i j l : Nat} (hp : PotAt p H) (h1 : YdP p ta σ H Da) (h2 : YdP p tb σ H Db) (h3 : YdP p tc σ H Dc) (k : ∀ u v w H1, Exx p H H1 → PotAt p H1 → Da u → Db v → Dc w → tz D' (((σ.set i (some u)).set j (some v)).set l (some w)) H1) :
    tSeq (tPar3 i j l (tCons ta (tCons tb (tCons tc tNil)))) tz D' σ H := by
  unfold tSeq tPar3
  refine h1 H (Exx.refl p H) hp _ fun u H1 e1 p1 d1 => h2 H1 e1 p1 _ fun v H2 e2 p2 d2 => h3 H2 (e1.trans e2) p2 _ fun w H3 e3 p3 d3 => ?_
  exact ⟨u, v, w, rfl, k u v w H3 ((e1.trans e2).trans e3) p3 d1 d2 d3⟩
end
end PF
/-! Ratio: the other operators and methods. -/
namespace PF
open PySem PySem.Spec PyProof.Rows L2 Evl

structure RB (K : PySem.W.Frag) (mg : Str → Option Value) (C : Addr) where
  fSub : Addr
  dSub : FuncData
  MSub : Mt K C "__sub__" "Ratio.__sub__" (m_ 7) ["self", "other"] fSub dSub
  fRsub : Addr
  dRsub : FuncData
  MRsub : Mt K C "__rsub__" "Ratio.__rsub__" (m_ 8) ["self", "other"] fRsub dRsub
  fMul : Addr
  dMul : FuncData
  MMul : Mt K C "__mul__" "Ratio.__mul__" (m_ 9) ["self", "other"] fMul dMul
  fRmul : Addr
  dRmul : FuncData
  MRmul : Mt K C "__rmul__" "Ratio.__rmul__" (m_ 10) ["self", "other"] fRmul dRmul
  fOver : Addr
  dOver : FuncData
  MOver : Mt K C "over" "Ratio.over" (m_ 12) ["self", "other"] fOver dOver
  fUns : Addr
  dUns : FuncData
  MUns : Mt K C "unsigned" "Ratio.unsigned" (m_ 13) ["self"] fUns dUns
  fBel : Addr
  dBel : FuncData
  MBel : Mt K C "is_below" "Ratio.is_below" (m_ 14) ["self", "other"] fBel dBel
  fAtm : Addr
  dAtm : FuncData
  MAtm : Mt K C "is_at_most" "Ratio.is_at_most" (m_ 15) ["self", "other"] fAtm dAtm
  mAbs : mg "abs" = none
section
variable {P : Program} {w : World} {K : PySem.W.Frag} {mg : Str → Option Value} {base : Heap} {C : Addr}
theorem yd_num {te : TE} {σ : L2.St} {H : Hp} {q : Rat} (h : Yd te σ H (DRat C q)) : Yd te σ H (DNum C q) := Yd.imp h fun v H1 _ d => .inr d
theorem scSub : FnScope ["self", "other"] ["self", "other"] (defScope (m_ 7)) := ⟨rfl, rfl, rfl, by decide +kernel, rfl, by decide +kernel, by decide +kernel⟩
theorem ok_sub (R : RA K mg C) (B : RB K mg C) : FnOk P w K mg base CX0 6 B.fSub B.dSub ["self", "other"] (spBin C fun p q => p + -q) := by
  refine B.MSub.F.ok scSub (fun vs H Q E h => ?_) (fun cdv A outer s H vs Q E hr h => ?_)
  · obtain ⟨D, ⟨a, p, v, q, rfl, _⟩, _⟩ := h
    rfl
  · obtain ⟨D, ⟨a, p, v, q, rfl, ha, hv, s1, s2, rfl⟩, k⟩ := h
    refine ⟨_, pss_one (ps_ret (pe_op (op_own (op := .Add) R.T.own R.MAdd.m R.MRadd.m R.gAdd hr R.MAdd.b pass0) (pv 0) (pe_un (un_own R.MNeg.m R.gNeg (hr.mono (by decide)) R.MNeg.b pass0) (pe_call R.gAs (hr.mono (by decide)) rfl R.mA R.kA R.bA .nil pass0 (pa_cons (pv 1) pa_nil))))), ?_⟩
    exact s_retD (yd_bin (g := (· + ·)) R.T bt_add_int (yd_var rfl ⟨a, rfl, ha⟩) (yd_num (yd_neg (g := fun p => -p) (yd_as (yd_var rfl hv)) s2)) s1 s2.neg) k
theorem scRsub : FnScope ["self", "other"] ["self", "other"] (defScope (m_ 8)) := ⟨rfl, rfl, rfl, by decide +kernel, rfl, by decide +kernel, by decide +kernel⟩
theorem ok_rsub (R : RA K mg C) (B : RB K mg C) : FnOk P w K mg base CX0 6 B.fRsub B.dRsub ["self", "other"] (spBin C fun p q => q + -p) := by
  refine B.MRsub.F.ok scRsub (fun vs H Q E h => ?_) (fun cdv A outer s H vs Q E hr h => ?_)
  · obtain ⟨D, ⟨a, p, v, q, rfl, _⟩, _⟩ := h
    rfl
  · obtain ⟨D, ⟨a, p, v, q, rfl, ha, hv, s1, s2, rfl⟩, k⟩ := h
    refine ⟨_, pss_one (ps_ret (pe_op (op_own (op := .Add) R.T.own R.MAdd.m R.MRadd.m R.gAdd hr R.MAdd.b pass0) (pe_call R.gAs (hr.mono (by decide)) rfl R.mA R.kA R.bA .nil pass0 (pa_cons (pv 1) pa_nil)) (pe_un (un_own R.MNeg.m R.gNeg (hr.mono (by decide)) R.MNeg.b pass0) (pv 0)))), ?_⟩
    exact s_retD (yd_bin (g := (· + ·)) R.T bt_add_int (yd_as (yd_var rfl hv)) (yd_num (yd_neg (g := fun p => -p) (yd_var rfl ⟨a, rfl, ha⟩) s1)) s2 s1.neg) k
theorem scRmul : FnScope ["self", "other"] ["self", "other"] (defScope (m_ 10)) := ⟨rfl, rfl, rfl, by decide +kernel, rfl, by decide +kernel, by decide +kernel⟩
theorem ok_rmul (R : RA K mg C) (B : RB K mg C) : FnOk P w K mg base CX0 6 B.fRmul B.dRmul ["self", "other"] (spBin C fun p q => q * p) := by
  refine B.MRmul.F.ok scRmul (fun vs H Q E h => ?_) (fun cdv A outer s H vs Q E hr h => ?_)
  · obtain ⟨D, ⟨a, p, v, q, rfl, _⟩, _⟩ := h
    rfl
  · obtain ⟨D, ⟨a, p, v, q, rfl, ha, hv, s1, s2, rfl⟩, k⟩ := h
    refine ⟨_, pss_one (ps_ret (pe_op (op_own (op := .Mult) R.T.own B.MMul.m B.MRmul.m (ok_mul R B.MMul) hr B.MMul.b pass0) (pe_call R.gAs (hr.mono (by decide)) rfl R.mA R.kA R.bA .nil pass0 (pa_cons (pv 1) pa_nil)) (pv 0))), ?_⟩
    exact s_retD (yd_bin (g := (· * ·)) R.T bt_mul_int (yd_as (yd_var rfl hv)) (yd_var rfl (.inr ⟨a, rfl, ha⟩)) s2 s1) k
/-- over -/
def spOver (C : Addr) : Sp := spD fun vs H D => ∃ a p v q, vs = [.ref a, v] ∧ RatAt C p a H ∧ DNum C q v H ∧ Sz 4000 p ∧ Sz 4000 q ∧ q.num ≠ 0 ∧ D = DRat C (p * q⁻¹)
theorem scOver : FnScope ["self", "other", "number"] ["self", "other"] (defScope (m_ 12)) := ⟨rfl, rfl, rfl, by decide +kernel, rfl, by decide +kernel, by decide +kernel⟩
theorem ok_over (R : RA K mg C) (B : RB K mg C) : FnOk P w K mg base CX0 5 B.fOver B.dOver ["self", "other"] (spOver C) := by
  refine B.MOver.F.ok scOver (fun vs H Q E h => ?_) (fun cdv A outer s H vs Q E hr h => ?_)
  · obtain ⟨D, ⟨a, p, v, q, rfl, _⟩, _⟩ := h
    rfl
  · obtain ⟨D, ⟨a, p, v, q, rfl, ha, hv, s1, s2, q0, rfl⟩, k⟩ := h
    refine ⟨_, pss_cons (ps_set (i := 2) scOver.nd rfl (.inl rfl) (pe_call R.gAs hr rfl R.mA R.kA R.bA .nil pass0 (pa_cons (pv 1) pa_nil)))
      (pss_cons (ps_if (pt_cmpR op_eq (pe_prop (pv 2) R.T.own.cl R.PT.p R.gTop (hr.mono (by decide)) R.PT.b .nil pass0 rfl) pe_int (nomark _)) pss_never pss_nil)
      (pss_one (ps_ret (pe_make R.M R.gIn (hr.mono (by decide)) rfl R.T.mgC R.bIn .nil pass0 (pa_cons (pe_op op_mulY (pe_fld (pv 0) rfl) (pe_prop (pv 2) R.T.own.cl R.PB.p R.gBot (hr.mono (by decide)) R.PB.b .nil pass0 rfl))
        (pa_cons (pe_op op_mulY (pe_fld (pv 0) rfl) (pe_prop (pv 2) R.T.own.cl R.PT.p R.gTop (hr.mono (by decide)) R.PT.b .nil pass0 rfl)) pa_nil)))))), ?_⟩
    refine q_asgD (yd_as (yd_var rfl hv)) (fun x H1 e1 dx => ?_)
    obtain ⟨b, rfl, hb⟩ := dx
    refine q_when (b := false) (et_is (et_test (ev_op (SpOfR.ev (ev_var rfl) hb) ev_c (rv_eq rfl))) (by rw [int_eq_iff]; simp [q0])) (fun z => nomatch z) (fun _ H2 e2 => ?_)
    have ha1 := ha.up (e1.trans e2)
    have hb1 := hb.up e2
    refine s_retD (yd_make (q := p * q⁻¹) (ya_ev (ea_cons (ev_op (R.T.ev_top (ev_var rfl) ha1) (SpOfR.ev (ev_var rfl) hb1) (rv_I (mulY_nd s1 s2)))
      (ea_cons (ev_op (R.T.ev_bot (ev_var rfl) ha1) (SpOfR.ev (ev_var rfl) hb1) (rv_I (mulY_dn s1 s2))) ea_nil))) (fun vs H3 e => ?_)) (fun v H3 e3 d => k v H3 ((e1.trans e2).trans e3) d)
    subst e
    refine ⟨_, _, rfl, Int.mul_ne_zero (den_ne p) q0, ?_, over_made p q⟩
    rw [Int.natAbs_mul, Int.natAbs_natCast]
    exact pow_up (prod_lt s1.2 s2.1) (by omega)
/-- unsigned -/
def ratAbs (q : Rat) : Rat := if q.num < 0 then -q else q
theorem scUns : FnScope ["self"] ["self"] (defScope (m_ 13)) := ⟨rfl, rfl, rfl, by decide +kernel, rfl, by decide +kernel, by decide +kernel⟩
theorem ok_uns (R : RA K mg C) (B : RB K mg C) : FnOk P w K mg base CX0 4 B.fUns B.dUns ["self"] (spUn C ratAbs) := by
  refine B.MUns.F.ok scUns (fun vs H Q E h => ?_) (fun cdv A outer s H vs Q E hr h => ?_)
  · obtain ⟨D, ⟨a, p, rfl, _⟩, _⟩ := h
    rfl
  · obtain ⟨D, ⟨a, p, rfl, ha, s1, rfl⟩, k⟩ := h
    refine ⟨_, pss_one (ps_ret (pe_make R.M R.gIn hr rfl R.T.mgC R.bIn .nil pass0 (pa_cons (pe_callB call_abs (by rfl) B.mAbs (by rfl) (pa_cons (pe_fld (pv 0) rfl) pa_nil)) (pa_cons (pe_fld (pv 0) rfl) pa_nil)))), ?_⟩
    refine s_retD (yd_make (q := ratAbs p) (ya_ev (ea_cons (ev_cb (ea_cons (R.T.ev_top (ev_var rfl) ha) ea_nil) (fun H1 _ Q q => ⟨_, rfl, q H1 (Ex.refl H1)⟩)) (ea_cons (R.T.ev_bot (ev_var rfl) ha) ea_nil))) (fun vs H2 e => ?_)) k
    subst e
    refine ⟨_, _, rfl, den_ne p, pow_up (by rw [Int.natAbs_natCast]; exact s1.2) (by omega), ?_⟩
    unfold ratAbs
    split
    · exact neg_made p
    · exact Rat.num_divInt_den p
/-- is_below, is_at_most -/
def spCmp (C : Addr) (g : Rat → Rat → Bool) : Sp := spD fun vs H D => ∃ a p v q, vs = [.ref a, v] ∧ RatAt C p a H ∧ DNum C q v H ∧ Sz 4000 p ∧ Sz 4000 q ∧ D = Is (.bl (g p q))
theorem scBel : FnScope ["self", "other", "number"] ["self", "other"] (defScope (m_ 14)) := ⟨rfl, rfl, rfl, by decide +kernel, rfl, by decide +kernel, by decide +kernel⟩
theorem ok_bel (R : RA K mg C) (B : RB K mg C) : FnOk P w K mg base CX0 5 B.fBel B.dBel ["self", "other"] (spCmp C fun p q => decide (p.num * q.den < q.num * p.den)) := by
  refine B.MBel.F.ok scBel (fun vs H Q E h => ?_) (fun cdv A outer s H vs Q E hr h => ?_)
  · obtain ⟨D, ⟨a, p, v, q, rfl, _⟩, _⟩ := h
    rfl
  · obtain ⟨D, ⟨a, p, v, q, rfl, ha, hv, s1, s2, rfl⟩, k⟩ := h
    refine ⟨_, pss_cons (ps_set (i := 2) scBel.nd rfl (.inl rfl) (pe_call R.gAs hr rfl R.mA R.kA R.bA .nil pass0 (pa_cons (pv 1) pa_nil)))
      (pss_one (ps_ret (pe_cmpR op_lt (pe_op op_mulY (pe_fld (pv 0) rfl) (pe_prop (pv 2) R.T.own.cl R.PB.p R.gBot (hr.mono (by decide)) R.PB.b .nil pass0 rfl)) (pe_op op_mulY (pe_prop (pv 2) R.T.own.cl R.PT.p R.gTop (hr.mono (by decide)) R.PT.b .nil pass0 rfl) (pe_fld (pv 0) rfl)) (nomark _)))), ?_⟩
    refine q_asgD (yd_as (yd_var rfl hv)) (fun x H1 e1 dx => ?_)
    obtain ⟨b, rfl, hb⟩ := dx
    have ha1 := ha.up e1
    exact s_ret (ev_op (ev_op (R.T.ev_top (ev_var rfl) ha1) (SpOfR.ev (ev_var rfl) hb) (rv_I (mulY_nd s1 s2))) (ev_op (SpOfR.ev (ev_var rfl) hb) (R.T.ev_bot (ev_var rfl) ha1) (rv_I (mulY_nd s2 s1))) rv_I0) (fun H2 e2 => k _ H2 (e1.trans e2) rfl)
theorem scAtm : FnScope ["self", "other", "number"] ["self", "other"] (defScope (m_ 15)) := ⟨rfl, rfl, rfl, by decide +kernel, rfl, by decide +kernel, by decide +kernel⟩
theorem ok_atm (R : RA K mg C) (B : RB K mg C) : FnOk P w K mg base CX0 5 B.fAtm B.dAtm ["self", "other"] (spCmp C fun p q => decide (p.num * q.den ≤ q.num * p.den)) := by
  refine B.MAtm.F.ok scAtm (fun vs H Q E h => ?_) (fun cdv A outer s H vs Q E hr h => ?_)
  · obtain ⟨D, ⟨a, p, v, q, rfl, _⟩, _⟩ := h
    rfl
  · obtain ⟨D, ⟨a, p, v, q, rfl, ha, hv, s1, s2, rfl⟩, k⟩ := h
    refine ⟨_, pss_cons (ps_set (i := 2) scAtm.nd rfl (.inl rfl) (pe_call R.gAs hr rfl R.mA R.kA R.bA .nil pass0 (pa_cons (pv 1) pa_nil)))
      (pss_one (ps_ret (pe_cmpR op_le (pe_op op_mulY (pe_fld (pv 0) rfl) (pe_prop (pv 2) R.T.own.cl R.PB.p R.gBot (hr.mono (by decide)) R.PB.b .nil pass0 rfl)) (pe_op op_mulY (pe_prop (pv 2) R.T.own.cl R.PT.p R.gTop (hr.mono (by decide)) R.PT.b .nil pass0 rfl) (pe_fld (pv 0) rfl)) (nomark _)))), ?_⟩
    refine q_asgD (yd_as (yd_var rfl hv)) (fun x H1 e1 dx => ?_)
    obtain ⟨b, rfl, hb⟩ := dx
    have ha1 := ha.up e1
    exact s_ret (ev_op (ev_op (R.T.ev_top (ev_var rfl) ha1) (SpOfR.ev (ev_var rfl) hb) (rv_I (mulY_nd s1 s2))) (ev_op (SpOfR.ev (ev_var rfl) hb) (R.T.ev_bot (ev_var rfl) ha1) (rv_I (mulY_nd s2 s1))) rv_I0) (fun H2 e2 => k _ H2 (e1.trans e2) rfl)
end
end PF
/-! This law's own divisor and lowest terms. -/
namespace PF
open PySem PySem.Spec PyProof.Rows L2 Evl
section
variable {K : PySem.W.Frag} {σ : L2.St} {H : Hp} {ta tb tc : TE} {tz : TS} {D' : Ends} {Da Db : DV} {i j : Nat}
theorem s_par [Mn Da] [Mn Db] (h1 : Yd ta σ H Da) (h2 : Yd tb σ H Db) (k : ∀ v w H1, Ex H H1 → Da v H1 → Db w H1 → D'.nx ((σ.set i (some v)).set j (some w)) H1) : tPar i j (tCons ta (tCons tb tNil)) D' σ H := by
  unfold tPar
  refine ya_cons h1 (ya_cons h2 ya_nil) H (Ex.refl H) _ fun vs H1 e p => ?_
  obtain ⟨v, xs, rfl, d1, w, ys, rfl, d2, (rfl : ys = [])⟩ := p
  exact ⟨v, w, rfl, k v w H1 e d1 d2⟩
end
section
variable {P : Program} {w : World} {K : PySem.W.Frag} {mg : Str → Option Value} {base : Heap} {C : Addr}
def spGcd : Sp := spD fun vs H D => ∃ a b : Int, vs = [.int a, .int b] ∧ D = Is (.int (Nat.gcd a.natAbs b.natAbs : Nat))
theorem scGcd : FnScope ["_law_one", "_law_other", "_law_near", "_law_far"] ["_law_one", "_law_other"] (defScope sGcd) := ⟨rfl, rfl, rfl, by decide +kernel, rfl, by decide +kernel, by decide +kernel⟩
theorem abs_nat (i : Int) : (if i < 0 then -i else i) = ((i.natAbs : Nat) : Int) := by
  split <;> omega
theorem ev_abs {σ : L2.St} {H : Hp} {ta : TE} {i : Int} (h : Ev ta σ H (.int i)) : Ev (tCB (fun xs H Q => ∃ i, xs = [.int i] ∧ Q (.int (if i < 0 then -i else i)) H) (tCons ta tNil)) σ H (.int (i.natAbs : Nat)) :=
  ev_cb (ea_cons h ea_nil) fun H1 _ Q q => ⟨i, rfl, by rw [abs_nat]; exact q H1 (Ex.refl H1)⟩
theorem ok_gcd {f : Addr} {fd : FuncData} (F : Fun K "_law_gcd" "_law_gcd" sGcd f fd) (T : LTxt mg) : FnOk P w K mg base CX0 1 f fd ["_law_one", "_law_other"] spGcd := by
  refine F.ok scGcd (fun vs H Q E h => ?_) (fun cdv A outer s H vs Q E hr h => ?_)
  · obtain ⟨D, ⟨a, b, rfl, _⟩, _⟩ := h
    rfl
  · obtain ⟨D, ⟨a, b, rfl, rfl⟩, k⟩ := h
    have nd := scGcd.nd
    refine ⟨_, pss_cons (ps_par rfl nd (i := 2) (j := 3) rfl rfl (by decide) rfl rfl (pa_cons (pe_callB call_abs (by rfl) T.abs (by rfl) (pa_cons (pv 0) pa_nil)) (pa_cons (pe_callB call_abs (by rfl) T.abs (by rfl) (pa_cons (pv 1) pa_nil)) pa_nil)) (by rfl))
      (pss_cons (ps_while PassesOwn.never (pt_cmpR op_gt (pv 3) pe_int (nomark _)) (pss_one (ps_par rfl nd (i := 2) (j := 3) rfl rfl (by decide) rfl rfl (pa_cons (pv 3) (pa_cons (pe_op op_mod (pe_callTy call_int1 (by rfl) T.int (by rfl) (pa_cons (pv 2) pa_nil)) (pv 3)) pa_nil)) (by rfl))))
      (pss_one (ps_ret (pv 2)))), ?_⟩
    refine q_par (Da := Is (.int (a.natAbs : Nat))) (Db := Is (.int (b.natAbs : Nat))) (yd_ev (ev_abs (ev_var rfl))) (yd_ev (ev_abs (ev_var rfl))) (fun v u H1 e1 d1 d2 => ?_)
    have d1' : v = .int (a.natAbs : Nat) := d1
    have d2' : u = .int (b.natAbs : Nat) := d2
    subst d1' d2'
    refine q_while (fun m σ' H' => ∃ x y : Nat, σ' = [some (.int a), some (.int b), some (.int (x : Int)), some (.int (y : Int))] ∧ y = m ∧ Nat.gcd x y = Nat.gcd a.natAbs b.natAbs ∧ Ex H H') b.natAbs ⟨_, _, rfl, rfl, rfl, e1⟩ (fun m σ' H' z => ?_)
    obtain ⟨x, y, rfl, rfl, hg, e⟩ := z
    refine ⟨decide ((0 : Int) < y), et_test (ev_op (ev_var rfl) ev_c rv_I0), fun z H2 e2 => ?_, fun z H2 e2 => ?_⟩
    · have y0 : 0 < y := by
        have := of_decide_eq_true z
        omega
      refine ⟨fun σ2 H3 => ∃ x' y' : Nat, σ2 = [some (.int a), some (.int b), some (.int (x' : Int)), some (.int (y' : Int))] ∧ y' < y ∧ Nat.gcd x' y' = Nat.gcd a.natAbs b.natAbs ∧ Ex H H3, fun σ2 H3 q => ?_, ?_⟩
      · obtain ⟨x', y', rfl, lt, g', e'⟩ := q
        exact ⟨y', lt, x', y', rfl, rfl, g', e'⟩
      · refine s_par (Da := Is (.int (y : Int))) (Db := Is (.int ((x % y : Nat) : Int))) (yd_ev (ev_var rfl)) (yd_ev (ev_is (ev_op (ev_int1 (ev_var rfl)) (ev_var rfl) (rv_I (show (0 : Int) < y by omega))) (by rfl))) (fun v u H3 e3 d1 d2 => ?_)
        have d1' : v = .int (y : Int) := d1
        have d2' : u = .int ((x % y : Nat) : Int) := d2
        subst d1' d2'
        exact ⟨y, x % y, rfl, Nat.mod_lt _ y0, by rw [← hg, Nat.gcd_comm y, ← Nat.gcd_rec, Nat.gcd_comm], (e.trans e2).trans e3⟩
    · have y0 : y = 0 := by
        have := of_decide_eq_false z
        omega
      subst y0
      refine s_ret (ev_var rfl) (fun H3 e3 => k _ H3 ((e.trans e2).trans e3) ?_)
      show V.int (x : Int) = V.int (Nat.gcd a.natAbs b.natAbs : Nat)
      rw [← hg, Nat.gcd_zero_right]
/-- lowest terms -/
def TupQ (q : Rat) : DV := TupOf [.int q.num, .int (q.den : Int)]
instance {q : Rat} : Mn (TupQ q) := inferInstanceAs (Mn (TupOf _))
def spLow : Sp := spD fun vs H D => ∃ t b : Int, vs = [.int t, .int b] ∧ b ≠ 0 ∧ b.natAbs < 2 ^ 9000 ∧ D = TupQ (Rat.divInt t b)
theorem scLow : FnScope ["_law_top", "_law_bottom", "_law_shared"] ["_law_top", "_law_bottom"] (defScope sLow) := ⟨rfl, rfl, rfl, by decide +kernel, rfl, by decide +kernel, by decide +kernel⟩
theorem ok_low {f g : Addr} {fd gd : FuncData} (F : Fun K "_law_low" "_law_low" sLow f fd) (G : Fun K "_law_gcd" "_law_gcd" sGcd g gd) (mG : mg "_law_gcd" = some (.ref g)) (bG : Binds K gd ["_law_one", "_law_other"] []) (T : LTxt mg) : FnOk P w K mg base CX0 2 f fd ["_law_top", "_law_bottom"] spLow := by
  refine F.ok scLow (fun vs H Q E h => ?_) (fun cdv A outer s H vs Q E hr h => ?_)
  · obtain ⟨D, ⟨t, b, rfl, _⟩, _⟩ := h
    rfl
  · obtain ⟨D, ⟨t, b, rfl, hb, hz, rfl⟩, k⟩ := h
    refine ⟨_, pss_cons (ps_set (i := 2) scLow.nd rfl (.inl rfl) (pe_ifExp (pt_cmpR op_gt (pv 1) pe_int (nomark _)) (pe_call (ok_gcd G T) hr rfl mG G.kp bG .nil pass0 (pa_cons (pv 0) (pa_cons (pv 1) pa_nil)))
        (pe_op op_sub pe_int (pe_call (ok_gcd G T) hr rfl mG G.kp bG .nil pass0 (pa_cons (pv 0) (pa_cons (pv 1) pa_nil))))))
      (pss_one (ps_ret (pe_tup (pa_cons (pe_op op_fdivX (pv 0) (pv 2)) (pa_cons (pe_op op_fdivX (pv 1) (pv 2)) pa_nil))))), ?_⟩
    have gp := gcd_pos_bottom (t := t) hb
    have gl := gcd_le_bottom (t := t) hb
    have cg : ∀ {σ : L2.St} {H1 : Hp}, σ[0]? = some (some (.int t)) → σ[1]? = some (some (.int b)) → Ev (tCall spGcd [] E0 (tCons (tVar 0) (tCons (tVar 1) tNil))) σ H1 (.int (Nat.gcd t.natAbs b.natAbs : Nat)) := fun h0 h1 =>
      ev_yd (yd_call (ya_ev (ea_cons (ev_var h0) (ea_cons (ev_var h1) ea_nil))) fun vs H2 _ p => by
        subst p
        exact spD_y fun _ _ => ⟨t, b, rfl, rfl⟩)
    refine q_asg (v := .int (if 0 < b then (Nat.gcd t.natAbs b.natAbs : Nat) else -((Nat.gcd t.natAbs b.natAbs : Nat) : Int))) (ev_if (b := decide (0 < b)) (et_test (ev_op (ev_var rfl) ev_c rv_I0)) (fun z => ev_is (cg rfl rfl) ?_) (fun z => ev_is (ev_op ev_c (cg rfl rfl) rv_I0) ?_)) (fun H1 e1 => ?_)
    · rw [if_pos (of_decide_eq_true z)]
    · rw [if_neg (of_decide_eq_false z), Int.zero_sub]
    have dv : ∀ i, CDivX i (if 0 < b then (Nat.gcd t.natAbs b.natAbs : Nat) else -((Nat.gcd t.natAbs b.natAbs : Nat) : Int)) := fun i => by
      split
      · exact ⟨by omega, by omega⟩
      · exact ⟨by omega, by omega⟩
    have et : t.fdiv (if 0 < b then ((Nat.gcd t.natAbs b.natAbs : Nat) : Int) else -((Nat.gcd t.natAbs b.natAbs : Nat) : Int)) = (Rat.divInt t b).num := by
      split
      · exact top_div (by assumption)
      · exact top_div_neg (by omega)
    have eb : b.fdiv (if 0 < b then ((Nat.gcd t.natAbs b.natAbs : Nat) : Int) else -((Nat.gcd t.natAbs b.natAbs : Nat) : Int)) = ((Rat.divInt t b).den : Int) := by
      split
      · exact bottom_div (by assumption)
      · exact bottom_div_neg (by omega)
    refine s_retU (eu_tup (ea_cons (ev_is (ev_op (ev_var rfl) (ev_var rfl) (rv_I (dv _))) (by rw [et])) (ea_cons (ev_is (ev_op (ev_var rfl) (ev_var rfl) (rv_I (dv _))) (by rw [eb])) ea_nil)) (by show 2 ≤ 100000; decide)) (fun p H2 _ e2 h2 => k _ H2 (e1.trans e2) ⟨p, rfl, h2⟩)
theorem spLow_y {t b : Int} {H : Hp} {E : XK} {q : Rat} (h0 : b ≠ 0) (hz : b.natAbs < 2 ^ 9000) (e : Rat.divInt t b = q) : SpY spLow [.int t, .int b] H E (TupQ q) := spD_y fun _ _ => ⟨t, b, rfl, h0, hz, by rw [e]⟩
end
end PF
/-! This law's look at one Ratio; a drawn fraction. -/
namespace PF
open PySem PySem.Spec PyProof.Rows L2 Evl
section
variable {P : Program} {w : World} {K : PySem.W.Frag} {mg : Str → Option Value} {base : Heap} {C : Addr}
/-- where the law's own defs stand -/
structure L11 (K : PySem.W.Frag) (mg : Str → Option Value) (C : Addr) where
  T : LTxt mg
  repr : mg "repr" = none
  all : mg "all" = none
  list : mg "list" = none
  zip : mg "zip" = none
  fPot : Addr
  dPot : FuncData
  FPot : Fun K "_law_pot" "_law_pot" sPot fPot dPot
  mPot : mg "_law_pot" = some (.ref fPot)
  bPot : Binds K dPot ["_law_script", "_law_k"] []
  fDraw : Addr
  dDraw : FuncData
  FDraw : Fun K "_law_draw" "_law_draw" sDraw fDraw dDraw
  mDraw : mg "_law_draw" = some (.ref fDraw)
  bDraw : Binds K dDraw ["_law_pot_here", "_law_sides"] []
  fGcd : Addr
  dGcd : FuncData
  FGcd : Fun K "_law_gcd" "_law_gcd" sGcd fGcd dGcd
  mGcd : mg "_law_gcd" = some (.ref fGcd)
  bGcd : Binds K dGcd ["_law_one", "_law_other"] []
  fLow : Addr
  dLow : FuncData
  FLow : Fun K "_law_low" "_law_low" sLow fLow dLow
  mLow : mg "_law_low" = some (.ref fLow)
  bLow : Binds K dLow ["_law_top", "_law_bottom"] []
  fIs : Addr
  dIs : FuncData
  FIs : Fun K "_law_is" "_law_is" sIs fIs dIs
  mIs : mg "_law_is" = some (.ref fIs)
  bIs : Binds K dIs ["_law_told", "_law_due"] []
  fDrawn : Addr
  dDrawn : FuncData
  FDrawn : Fun K "_law_drawn" "_law_drawn" sDrawn fDrawn dDrawn
  mDrawn : mg "_law_drawn" = some (.ref fDrawn)
  bDrawn : Binds K dDrawn ["_law_pot_here"] []
  fSums : Addr
  dSums : FuncData
  FSums : Fun K "_law_sums_right" "_law_sums_right" sSums fSums dSums
  mSums : mg "_law_sums_right" = some (.ref fSums)
  bSums : Binds K dSums ["_law_one", "_law_other", "_law_near", "_law_far", "_law_whole"] []
  fRt : Addr
  dRt : FuncData
  FRt : Fun K "_law_right" "_law_right" sRight fRt dRt
  mRt : mg "_law_right" = some (.ref fRt)
  bRt : Binds K dRt ["_law_pot_here"] []
  pSg : Addr
  gSg : Addr
  dSg : FuncData
  PSg : Pr K C "sign" "Ratio.sign" (m_ 3) pSg gSg dSg
  pWh : Addr
  gWh : Addr
  dWh : FuncData
  PWh : Pr K C "is_whole" "Ratio.is_whole" (m_ 4) pWh gWh dWh
theorem ev_cat {σ : L2.St} {H : Hp} {ta tb : TE} {x y : Str} (ha : Ev ta σ H (.str x)) (hb : Ev tb σ H (.str y)) (l : x.length + y.length ≤ sizeLine) : Ev (tOp (fun x y H Q => ∃ i j, x = .str i ∧ y = .str j ∧ i.length + j.length ≤ sizeLine ∧ Q (.str (i ++ j)) H) ta tb) σ H (.str (x ++ y)) :=
  ev_op ha hb fun H1 _ Q q => ⟨x, y, rfl, rfl, l, q H1 (Ex.refl H1)⟩
theorem ev_strI {σ : L2.St} {H : Hp} {ta : TE} {i : Int} (h : Ev ta σ H (.int i)) (l : i.natAbs.log2 < 1920) : Ev (tCB (fun xs H Q => ∃ i, xs = [.int i] ∧ i.natAbs.log2 < 1920 ∧ Q (.str (toString i)) H) (tCons ta tNil)) σ H (.str (tS i)) :=
  ev_cb (ea_cons h ea_nil) fun H1 _ Q q => ⟨i, rfl, l, q H1 (Ex.refl H1)⟩
theorem ev_strO {σ : L2.St} {H : Hp} {ta : TE} {a : Addr} {q : Rat} (h : Ev ta σ H (.ref a)) (ha : RatAt C q a H) (z : Sz 1900 q) : Ev (tCB (rStrO (ROof C ratStr)) (tCons ta tNil)) σ H (.str (ratStr q)) :=
  ev_cb (ea_cons h ea_nil) fun H1 e Q k => ⟨a, _, rfl, ⟨q, ha.up e, z, rfl⟩, fun H2 e2 => k H2 e2⟩
theorem ev_intB {σ : L2.St} {H : Hp} {ta : TE} {b : Bool} (h : Ev ta σ H (.bl b)) : Ev (tCB (fun xs H Q => (∃ i, xs = [.int i] ∧ Q (.int i) H) ∨ ∃ k, xs = [.bl k] ∧ Q (.int (if k then 1 else 0)) H) (tCons ta tNil)) σ H (.int (if b then 1 else 0)) :=
  ev_cb (ea_cons h ea_nil) fun H1 _ Q q => .inr ⟨b, rfl, q H1 (Ex.refl H1)⟩
def spIs (C : Addr) : Sp := spD fun vs H D => ∃ v d q, vs = [v, d] ∧ DRat C q v H ∧ TupQ q d H ∧ Sz 1900 q ∧ D = Is (.bl true)
theorem scIs : FnScope ["_law_told", "_law_due", "_law_text", "_law_sign"] ["_law_told", "_law_due"] (defScope sIs) := ⟨rfl, rfl, rfl, by decide +kernel, rfl, by decide +kernel, by decide +kernel⟩
theorem ok_is (R : RA K mg C) (L : L11 K mg C) : FnG P w K mg base CX0 9 L.fIs L.dIs ["_law_told", "_law_due"] (spIs C) := by
  refine bodyG0 L.FIs scIs (fun vs H Q E h => ?_) (fun cdv A outer s H vs Q E hg hr h => ?_)
  · obtain ⟨D, ⟨v, d, q, rfl, _⟩, _⟩ := h
    rfl
  · obtain ⟨D, ⟨v, d, q, rfl, ⟨a, rfl, ha⟩, ⟨p, rfl, hp⟩, z19, rfl⟩, k⟩ := h
    have ok := rok C ratRepr
    have nd := scIs.nd
    have T := R.T
    have rep := fun {X : Cx} (g : X.A.guards = some []) (r : Room 8 X.A) (o : OShow X 2 (ROof C ratRepr)) => call_rep (X := X) (m := 2) (n := 3) g r ok o
    have r3 := hr.mono (show 3 ≤ 8 by decide)
    have r2 := hr.mono (show 2 ≤ 8 by decide)
    have hC : ∀ a x H, ROof C ratStr a x H → ∃ dx fs, H a = some (.ins C dx fs) := fun a x H h => by
      obtain ⟨q, ⟨dx, h⟩, _⟩ := h
      exact ⟨dx, _, h⟩
    refine ⟨_, pss_cons (ps_if (PW.pt (pw_or (pt_not (pt_val (pe_callB call_isi rfl T.isi (by rfl) (pa_cons (pv 0) (pa_cons (pe_glob (v := .ref C) rfl T.mgC rfl) pa_nil)))))
        (pw_or1 (pt_cmpR op_ne (pe_callB (rep hg hr (oshow R rfl rfl rfl rfl rfl)) (by rfl) L.repr (by rfl) (pa_cons (pe_lst (pa_cons (pe_prop (pv 0) T.own.cl R.PT.p R.gTop r2 R.PT.b .nil pass0 rfl) (pa_cons (pe_prop (pv 0) T.own.cl R.PB.p R.gBot r2 R.PB.b .nil pass0 rfl) pa_nil))) pa_nil))
          (pe_callB (rep hg hr (oshow R rfl rfl rfl rfl rfl)) (by rfl) L.repr (by rfl) (pa_cons (pe_callTy call_list_of rfl L.list (by rfl) (pa_cons (pv 1) pa_nil)) pa_nil)) (nomark _))))) pss_never pss_nil)
      (pss_cons (ps_set (i := 2) nd rfl (.inl rfl) (pe_ifExp (pt_cmpR op_eq (pe_ix ix_tup (pv 1) pe_int (fun _ _ => rfl)) pe_int (nomark _)) (pe_callTy call_str_int rfl R.mStr (by rfl) (pa_cons (pe_ix ix_tup (pv 1) pe_int (fun _ _ => rfl)) pa_nil))
          (pe_op op_add_str (pe_op op_add_str (pe_callTy call_str_int rfl R.mStr (by rfl) (pa_cons (pe_ix ix_tup (pv 1) pe_int (fun _ _ => rfl)) pa_nil)) pe_str) (pe_callTy call_str_int rfl R.mStr (by rfl) (pa_cons (pe_ix ix_tup (pv 1) pe_int (fun _ _ => rfl)) pa_nil)))))
      (pss_cons (ps_set (i := 3) nd rfl (.inl rfl) (pe_op op_sub (pe_callTy call_int1 (by rfl) L.T.int (by rfl) (pa_cons (pe_cmpR op_gt (pe_ix ix_tup (pv 1) pe_int (fun _ _ => rfl)) pe_int (nomark _)) pa_nil)) (pe_callTy call_int1 (by rfl) L.T.int (by rfl) (pa_cons (pe_cmpR op_lt (pe_ix ix_tup (pv 1) pe_int (fun _ _ => rfl)) pe_int (nomark _)) pa_nil))))
      (pss_cons (ps_if (PW.pt (pw_or (pt_cmpR op_ne (pe_callTy (call_strO R.MStr.m R.gStr r3 R.MStr.b pass0 hC) rfl R.mStr (by rfl) (pa_cons (pv 0) pa_nil)) (pv 2) (nomark _))
        (pw_or1 (pt_cmpR op_ne (pe_callB (rep hg hr (oshow R rfl rfl rfl rfl rfl)) (by rfl) L.repr (by rfl) (pa_cons (pv 0) pa_nil)) (pe_op op_add_str (pe_op op_add_str (pe_op op_add_str (pe_op op_add_str pe_str (pe_callTy call_str_int rfl R.mStr (by rfl) (pa_cons (pe_ix ix_tup (pv 1) pe_int (fun _ _ => rfl)) pa_nil))) pe_str) (pe_callTy call_str_int rfl R.mStr (by rfl) (pa_cons (pe_ix ix_tup (pv 1) pe_int (fun _ _ => rfl)) pa_nil))) pe_str) (nomark _))))) pss_never pss_nil)
      (pss_one (ps_ret (pe_cmpR op_eq (pe_callB (rep hg hr (oshow R rfl rfl rfl rfl rfl)) (by rfl) L.repr (by rfl) (pa_cons (pe_lst (pa_cons (pe_prop (pv 0) T.own.cl L.PSg.p (ok_sign L.PSg.F T) r2 L.PSg.b .nil pass0 rfl) (pa_cons (pe_prop (pv 0) T.own.cl L.PWh.p (ok_whole L.PWh.F T) r2 L.PWh.b .nil pass0 rfl) pa_nil))) pa_nil))
        (pe_callB (rep hg hr (oshow R rfl rfl rfl rfl rfl)) (by rfl) L.repr (by rfl) (pa_cons (pe_lst (pa_cons (pv 3) (pa_cons (pe_cmpR op_eq (pe_ix ix_tup (pv 1) pe_int (fun _ _ => rfl)) pe_int (nomark _)) pa_nil))) pa_nil)) (nomark _))))))), ?_⟩
    have ln := len_tS z19.1
    have ld := len_tS (sz_den z19)
    have fn := fit_tS z19.1
    have fd := fit_tS (sz_den z19)
    have i0 : ∀ {σ : L2.St} {H1 : Hp}, Ex H H1 → σ[1]? = some (some (.ref p)) → Ev (tOp (rIxT K) (tVar 1) (tC (.int 0))) σ H1 (.int q.num) := fun e h => ev_op (ev_var h) ev_c (rv_ixT (st_of (e _ _ hp)) (atI_nat (j := 0) rfl))
    have i1 : ∀ {σ : L2.St} {H1 : Hp}, Ex H H1 → σ[1]? = some (some (.ref p)) → Ev (tOp (rIxT K) (tVar 1) (tC (.int 1))) σ H1 (.int (q.den : Int)) := fun e h => ev_op (ev_var h) ev_c (rv_ixT (st_of (e _ _ hp)) (atI_nat (j := 1) rfl))
    have shI : ∀ (u : Addr) (H1 : Hp), H1 u = some (.lst [.int q.num, .int (q.den : Int)]) → Rp (ROof C ratRepr) (.ref u) (listText [tS q.num, tS (q.den : Int)]) H1 := fun u H1 h =>
      .inl ⟨.inr (.inl ⟨u, _, _, rfl, h, .cons (Sh.le (n := 0) (Leaf.int _ fn) (by decide)) (.cons (Sh.le (n := 0) (Leaf.int _ fd) (by decide)) .nil), rfl⟩), by rw [len_list2, sz_eq]; omega⟩
    obtain ⟨dx, ea⟩ := id ha
    refine q_when (b := false) (et_is (et_or (a := false) (b := false) (et_is (et_not (et_B (ev_cb (ea_cons (ev_var rfl) (ea_cons ev_c ea_nil)) (fun H1 e Q q => ⟨_, _, _, _, _, rfl, .own C, T.own.ty (e _ _ ea), kit_self, q H1 (Ex.refl H1)⟩)))) rfl)
      (fun _ => et_is (et_test (ev_op (ev_repL ok (el_lst (ea_cons (SpOfR.ev (ev_var rfl) ha) (ea_cons (SpOfR.ev (ev_var rfl) ha) ea_nil)) (by show 2 ≤ 100000; decide)) (fun u H1 _ h => shI u H1 h))
        (ev_repL ok (el_cb (ea_cons (ev_var rfl) ea_nil) (fun H1 e Q k => ⟨p, _, rfl, .inr (st_of (e _ _ hp)), fun l hl => k l _ hl (Ex.new hl) upd_same⟩)) (fun u H1 _ h => shI u H1 h)) (rv_ne rfl))) (by simp))) rfl) (fun z => nomatch z) (fun _ H1 e1 => ?_)
    have ltot : ("/" : Str).length = 1 := rfl
    refine q_asg (v := .str (ratStr q)) (ev_if (b := decide (q.den = 1)) (et_test (ev_is (ev_op (i1 e1 rfl) ev_c (rv_eq rfl)) (by rw [den_one]))) (fun z => ev_is (ev_strI (i0 e1 rfl) fn) ?_) (fun z => ev_is (ev_cat (ev_cat (ev_strI (i0 e1 rfl) fn) ev_c (by rw [sz_eq]; omega)) (ev_strI (i1 e1 rfl) fd) (by rw [Str.length_append, sz_eq]; omega)) ?_)) (fun H2 e2 => ?_)
    · rw [ratStr, if_pos (of_decide_eq_true z)]
    · rw [ratStr, if_neg (of_decide_eq_false z)]
    have e12 := e1.trans e2
    refine q_asg (v := .int (ratSign q)) (ev_is (ev_op (ev_intB (ev_op (i0 e12 rfl) ev_c rv_I0)) (ev_intB (ev_op (i0 e12 rfl) ev_c rv_I0)) rv_I0) ?_) (fun H3 e3 => ?_)
    · congr 1
      unfold ratSign
      by_cases h0 : q.num = 0
      · rw [h0]
        decide
      · by_cases h1 : 0 < q.num
        · rw [if_neg h0, if_pos h1, decide_eq_true h1, decide_eq_false (show ¬ q.num < 0 by omega)]
          rfl
        · rw [if_neg h0, if_neg h1, decide_eq_false h1, decide_eq_true (show q.num < 0 by omega)]
          rfl
    have e13 := e12.trans e3
    have lR : ("Ratio(" : Str).length = 6 := rfl
    have lC : (", " : Str).length = 2 := rfl
    have lP : (")" : Str).length = 1 := rfl
    have hx : Rp (ROof C ratRepr) (.ref a) (ratRepr q) H3 := .inl ⟨sh_rat (ha.up e13) z19, by have := len_ratRepr z19; rw [sz_eq]; omega⟩
    refine q_when (b := false) (et_is (et_or (a := false) (b := false) (et_is (et_test (ev_op (ev_strO (ev_var rfl) (ha.up e13) z19) (ev_var rfl) (rv_ne rfl))) (by simp))
      (fun _ => et_is (et_test (ev_op (ev_rep ok (ev_var rfl) hx) (ev_cat (ev_cat (ev_cat (ev_cat ev_c (ev_strI (i0 e13 rfl) fn) (by rw [sz_eq]; omega)) ev_c (by rw [Str.length_append, sz_eq]; omega)) (ev_strI (i1 e13 rfl) fd) (by rw [Str.length_append, Str.length_append, sz_eq]; omega)) ev_c (by rw [Str.length_append, Str.length_append, Str.length_append, sz_eq]; omega)) (rv_ne rfl))) (by
          rw [← ratRepr]
          simp))) rfl) (fun z => nomatch z) (fun _ H4 e4 => ?_)
    have e14 := e13.trans e4
    have fs : (ratSign q).natAbs.log2 < 1920 := by
      unfold ratSign
      split
      · decide
      · split <;> decide
    have shS : ∀ (u : Addr) (H1 : Hp), H1 u = some (.lst [.int (ratSign q), .bl (decide (q.den = 1))]) → Rp (ROof C ratRepr) (.ref u) (listText [tS (ratSign q), tb (decide (q.den = 1))]) H1 := fun u H1 h =>
      .inl ⟨.inr (.inl ⟨u, _, _, rfl, h, .cons (Sh.le (n := 0) (Leaf.int _ fs) (by decide)) (.cons (Sh.le (n := 0) (Leaf.bl _) (by decide)) .nil), rfl⟩), by
        rw [len_list2, sz_eq]
        have : (tS (ratSign q)).length ≤ 1901 := len_tS (by
          refine pow_up (n := 10) ?_ (by decide)
          unfold ratSign
          split
          · decide
          · split <;> decide)
        have : (tb (decide (q.den = 1))).length ≤ 5 := by
          cases (decide (q.den = 1)) <;> decide
        omega⟩
    exact s_ret (ev_is (ev_op (ev_repL ok (el_lst (ea_cons (SpOfR.ev (ev_var rfl) (ha.up e14)) (ea_cons (SpOfR.ev (ev_var rfl) (ha.up e14)) ea_nil)) (by show 2 ≤ 100000; decide)) (fun u H1 _ h => shS u H1 h))
      (ev_repL ok (el_lst (ea_cons (ev_var rfl) (ea_cons (ev_is (ev_op (i1 e14 rfl) ev_c (rv_eq rfl)) (by rw [den_one])) ea_nil)) (by show 2 ≤ 100000; decide)) (fun u H1 _ h => shS u H1 h)) (rv_eq rfl)) (by simp)) (fun H5 e5 => k _ H5 (e14.trans e5) rfl)
end
end PF
/-! A drawn fraction. -/
namespace PF
open PySem PySem.Spec PyProof.Rows L2 Evl
section
variable {σ : L2.St} {H : Hp} {ta tb tc : TE} {tz : TS} {D' : Ends} {D : V → Prop} {i : Nat} {p : Addr}
theorem ydp_if (ht : YdP p tc σ H (fun v => ∃ b, v = .bl b)) (h1 : YdP p ta σ H D) (h2 : YdP p tb σ H D) : YdP p (tIf (tTest tc) ta tb) σ H D := fun H1 e hp Q q =>
  ht H1 e hp _ fun v H2 e2 p2 d => by
    obtain ⟨b, rfl⟩ := d
    refine ⟨b, rfl, ?_⟩
    cases b with
    | true => exact h1 H2 (e.trans e2) p2 Q fun v H3 e3 p3 d => q v H3 (e2.trans e3) p3 d
    | false => exact h2 H2 (e.trans e2) p2 Q fun v H3 e3 p3 d => q v H3 (e2.trans e3) p3 d
theorem q_asgP (hp : PotAt p H) (h : YdP p ta σ H D) (k : ∀ v H1, Exx p H H1 → PotAt p H1 → D v → tz D' (σ.set i (some v)) H1) : tSeq (tAsg ta (gName i)) tz D' σ H := h H (Exx.refl p H) hp _ k
theorem ydp_var {v : V} (h : σ[i]? = some (some v)) : YdP p (tVar i) σ H (fun x => x = v) := fun H1 _ hp Q q => ⟨v, h, q v H1 (Exx.refl p H1) hp rfl⟩
theorem ydp_gt {n : Int} (h : YdP p ta σ H (fun v => ∃ d : Int, v = .int d)) : YdP p (tOp (rI0 fun i j => V.bl (decide (j < i))) ta (tC (.int n))) σ H (fun v => ∃ b, v = .bl b) :=
  ydp_op h ydp_c fun x y H1 dx dy Q q => by
    obtain ⟨d, rfl⟩ := dx
    subst dy
    exact ⟨d, n, rfl, rfl, q _ ⟨_, rfl⟩⟩
/-- an int between -/
def Btw (lo hi : Int) (v : V) : Prop := ∃ d : Int, v = .int d ∧ lo ≤ d ∧ d ≤ hi
theorem ydp_sub {lo hi n : Int} (h : YdP p ta σ H (fun v => ∃ d, v = .int d ∧ lo ≤ d ∧ d < hi)) {lo' hi' : Int} (h1 : lo' ≤ lo - n) (h2 : hi - n ≤ hi' + 1) : YdP p (tOp (rI0 fun i j => V.int (i - j)) ta (tC (.int n))) σ H (Btw lo' hi') :=
  ydp_op h ydp_c fun x y H1 dx dy Q q => by
    obtain ⟨d, rfl, d0, d1⟩ := dx
    subst dy
    exact ⟨d, n, rfl, rfl, q _ ⟨d - n, rfl, by omega, by omega⟩⟩
theorem ydp_add {lo hi n : Int} (h : YdP p ta σ H (fun v => ∃ d, v = .int d ∧ lo ≤ d ∧ d < hi)) {lo' hi' : Int} (h1 : lo' ≤ n + lo) (h2 : n + hi ≤ hi' + 1) : YdP p (tOp (rI0 fun i j => V.int (i + j)) (tC (.int n)) ta) σ H (Btw lo' hi') :=
  ydp_op ydp_c h fun x y H1 dx dy Q q => by
    obtain ⟨d, rfl, d0, d1⟩ := dy
    subst dx
    exact ⟨n, d, rfl, rfl, q _ ⟨n + d, rfl, by omega, by omega⟩⟩
end
section
variable {P : Program} {w : World} {K : PySem.W.Frag} {mg : Str → Option Value} {base : Heap} {C : Addr}
def spDrawn : Sp := fun vs H Q _ => ∃ l, vs = [.ref l] ∧ PotAt l H ∧ ∀ u t b H', Exx l H H' → PotAt l H' → H' u = some (.tup [.int t, .int b]) → -1000 ≤ t → t ≤ 1000 → b ≠ 0 → -12 ≤ b → b ≤ 12 → Q (.ref u) H'
theorem scDrawn : FnScope ["_law_pot_here", "_law_top", "_law_bottom"] ["_law_pot_here"] (defScope sDrawn) := ⟨rfl, rfl, rfl, by decide +kernel, rfl, by decide +kernel, by decide +kernel⟩
theorem ok_drawn (L : L11 K mg C) : FnOk P w K mg base CX0 2 L.fDrawn L.dDrawn ["_law_pot_here"] spDrawn := by
  refine L.FDrawn.ok scDrawn (fun vs H Q E h => ?_) (fun cdv A outer s H vs Q E hr h => ?_)
  · obtain ⟨l, rfl, _⟩ := h
    rfl
  · obtain ⟨l, rfl, hp, k⟩ := h
    have nd := scDrawn.nd
    refine ⟨_, pss_cons (ps_set (i := 1) nd rfl (.inl rfl) (pe_ifExp (pt_cmpR op_gt (pe_call (ok_draw L.FDraw L.T) hr rfl L.mDraw L.FDraw.kp L.bDraw .nil pass0 (pa_cons (pv 0) (pa_cons pe_int pa_nil))) pe_int (nomark _))
        (pe_op op_sub (pe_call (ok_draw L.FDraw L.T) hr rfl L.mDraw L.FDraw.kp L.bDraw .nil pass0 (pa_cons (pv 0) (pa_cons pe_int pa_nil))) pe_int)
        (pe_op op_sub (pe_call (ok_draw L.FDraw L.T) hr rfl L.mDraw L.FDraw.kp L.bDraw .nil pass0 (pa_cons (pv 0) (pa_cons pe_int pa_nil))) pe_int)))
      (pss_cons (ps_set (i := 2) nd rfl (.inl rfl) (pe_op op_add pe_int (pe_call (ok_draw L.FDraw L.T) hr rfl L.mDraw L.FDraw.kp L.bDraw .nil pass0 (pa_cons (pv 0) (pa_cons pe_int pa_nil)))))
      (pss_one (ps_ret (pe_tup (pa_cons (pv 1) (pa_cons (pe_ifExp (pt_cmpR op_gt (pe_call (ok_draw L.FDraw L.T) hr rfl L.mDraw L.FDraw.kp L.bDraw .nil pass0 (pa_cons (pv 0) (pa_cons pe_int pa_nil))) pe_int (nomark _)) (pv 2) (pe_op op_sub pe_int (pv 2))) pa_nil)))))), ?_⟩
    have anyI : ∀ {te : TE} {σ : L2.St} {H : Hp} {lo hi : Int}, YdP l te σ H (fun v => ∃ d, v = .int d ∧ lo ≤ d ∧ d < hi) → YdP l te σ H (fun v => ∃ d : Int, v = .int d) := fun h => ydp_imp h fun v z => by
      obtain ⟨d, e, _⟩ := z
      exact ⟨d, e⟩
    refine q_asgP (D := Btw (-1000) 1000) hp (ydp_if (ydp_gt (anyI (ydp_draw rfl (by decide) (by decide)))) (ydp_sub (ydp_draw rfl (by decide) (by decide)) (by decide) (by decide)) (ydp_sub (ydp_draw rfl (by decide) (by decide)) (by decide) (by decide))) (fun v H1 e1 p1 d1 => ?_)
    obtain ⟨t, rfl, t0, t1⟩ := d1
    refine q_asgP (D := Btw 1 12) p1 (ydp_add (ydp_draw rfl (by decide) (by decide)) (by decide) (by decide)) (fun v H2 e2 p2 d2 => ?_)
    obtain ⟨b, rfl, b0, b1⟩ := d2
    have hb : YdP l (tIf (tTest (tOp (rI0 fun i j => V.bl (decide (j < i))) (tCall spDraw [] E0 (tCons (tVar 0) (tCons (tC (.int 3)) tNil))) (tC (.int 0)))) (tVar 2) (tOp (rI0 fun i j => V.int (i - j)) (tC (.int 0)) (tVar 2))) [some (.ref l), some (.int t), some (.int b)] H2 (fun v => v = .int b ∨ v = .int (0 - b)) :=
      ydp_if (ydp_gt (anyI (ydp_draw rfl (by decide) (by decide)))) (ydp_imp (ydp_var rfl) fun v d => .inl d) (ydp_op ydp_c (ydp_var rfl) fun x y H3 dx dy Q q => by
        subst dx dy
        exact ⟨0, b, rfl, rfl, q _ (.inr rfl)⟩)
    refine ⟨_, rfl, ?_⟩
    refine hb H2 (Exx.refl l H2) p2 _ (fun v H3 e3 p3 d3 => ⟨by show 2 ≤ sizeLine; decide, fun u hu => ?_⟩)
    have ee := ((e1.trans e2).trans e3).trans (Exx.of (Ex.new (o := .tup [.int t, v]) hu))
    rcases d3 with rfl | rfl
    · exact k u t b _ ee (p3.up (Ex.new hu)) upd_same t0 t1 (by omega) (by omega) (by omega)
    · exact k u t (0 - b) _ ee (p3.up (Ex.new hu)) upd_same t0 t1 (by omega) (by omega) (by omega)
end
end PF
/-! Methods called by keywords alone; classmethods; a class in a local name. -/
namespace PF
open PySem PySem.Spec PyProof.Rows L2 Evl
/-- how keywords alone are bound behind the first parameter -/
structure KW1 (K : PySem.W.Frag) (fd : FuncData) (ps ks : List Str) (g : List Value → List Value) (gV : List V → List V) : Prop where
  to : ∀ (s : Shared) (u : Value) (ws : List Value), K.In s.heap → ws.length = ks.length → BindsTo s fd ⟨[u], ks.zip ws⟩ (ps.zip (u :: g ws))
  rel : ∀ {zs : List V} {ws : List Value}, zs.length = ks.length → Vals zs ws → Vals (gV zs) (g ws)
def tMethW (C : Addr) (m : Str) (n : Nat) (sp : Sp) (gV : List V → List V) (E : XK) (ta : TE) (tk : TA) : TE := fun σ H Q => ta σ H fun x H1 => ∃ a dx fs, x = .ref a ∧ H1 a = some (.ins C dx fs) ∧ fs.lookup m = none ∧ tk σ H1 fun zs H2 => zs.length = n ∧ sp (x :: gV zs) H2 Q E
def tCMethW (C : Addr) (n : Nat) (sp : Sp) (gV : List V → List V) (E : XK) (ta : TE) (tk : TA) : TE := fun σ H Q => ta σ H fun x H1 => x = .ref C ∧ tk σ H1 fun zs H2 => zs.length = n ∧ sp (.ref C :: gV zs) H2 Q E
/-- the class at C stands in slot i -/
def tMakeL (i : Nat) (C : Addr) (sp : Sp) (dvs : List V) (E : XK) (t : TA) : TE := fun σ H Q => σ[i]? = some (some (.ref C)) ∧ tMake C sp dvs E t σ H Q
section
variable {X : Cx} {CX : CXT} {k i : Nat} {C f p : Addr} {mc : Value} {fd : FuncData} {ps ks : List Str} {sp : Sp} {E : XK} {m x : Str} {pos apos ppos : Pos} {o e : Expr} {es : List Expr} {kws : List Keyword} {ta : TE} {t tk : TA} {g : List Value → List Value} {gV : List V → List V} {pl : Sem Bool} {dvs : List V} {ds : List Value}
theorem run_k1 {pins : List (Addr × Obj)} {σ : L2.St} {H : Hp} {s : Shared} {Q : VK} {a : Addr} {ws : List Value} {zs : List V} (F : FnOk X.prog X.w X.K X.mg X.base CX k f fd ps sp) (hr : Room k X.A) (hb : KW1 X.K fd ps ks g gV) (hx : Passes CX X E) (I : Inv X pins σ H s) (r : Vals zs ws) (l : zs.length = ks.length)
    (q : sp (.ref a :: gV zs) H Q E) : codeAny (model X.prog X.w) X.A (.call (.ref f) ⟨[.ref a], ks.zip ws⟩) (callEnd (L2.EP X pins σ Q) X.xe) s := by
  have rv : Vals (V.ref a :: gV zs) (Value.ref a :: g ws) := .cons rfl (hb.rel l r)
  refine codeAny_mono (F.run X.A X.stack s H ⟨[.ref a], ks.zip ws⟩ (Value.ref a :: g ws) (V.ref a :: gV zs) Q E hr I.env0 (hb.to s (.ref a) ws I.kIn (r.length.symm.trans l)) rv q) fun res s' z => ?_
  match res, z with
  | .error er, z => exact hx pins σ H s er s' I z
  | .ok (.ret u), z => exact I.after z
  | .ok .next, z => exact z.elim
  | .ok .brk, z => exact z.elim
  | .ok .cont, z => exact z.elim
/-- o.m(k = v, ..) -/
theorem pe_methW (he : PE X o ta) (c : Cls X.K C) (hm : Meth X.K C m f) (F : FnOk X.prog X.w X.K X.mg X.base CX k f fd ps sp) (hr : Room k X.A) (hb : KW1 X.K fd ps ks g gV) (hx : Passes CX X E) (hkw : PK X kws tk)
    (hall : (backToKw pos (keywordEach kws X.env)).all (·.1.isSome) = true := by rfl) (hks : (backToKw pos (keywordEach kws X.env)).filterMap (·.1) = ks := by rfl)
    (hpl : ((backTo pos (starEach [] X.env)).any (·.1) || (backToKw pos (keywordEach kws X.env)).any (·.1.isNone)) = false := by rfl)
    (ht : eval (.Call (.Attribute o m apos) [] kws pos) X.env = (do
      let ov ← eval o X.env
      standAt apos.atName
      let (f, first) ← holding [ov] (getMethod ov m pl)
      callWith pos f first (backTo pos (starEach [] X.env)) (backToKw pos (keywordEach kws X.env))) := by rfl) :
    PE X (.Call (.Attribute o m apos) [] kws pos) (tMethW C m ks.length sp gV E ta tk) := by
  refine ⟨fun pins s σ H Q I h => PySem.W.methodCall_KW (pl := pl) (thn (he.run pins s σ H _ I h) fun u s1 z => ?_) ht⟩
  obtain ⟨x, H1, I1, rx, a, dx, fs, rfl, ea, l, q⟩ := z
  cases rx
  refine getmeth_ok I1 ea c hm l (PySem.W.callWith_KW0 (h₀ := X.base) (first := [.ref a]) I.ok.mod.kin hm.kp hall (thn (hkw.run pos pins s1 σ H1 _ I1 q) fun ws s2 z => ?_) hpl)
  obtain ⟨zs, H2, I2, rz, l2, q2⟩ := z
  refine ⟨I2.kIn, ?_⟩
  rw [hks]
  exact wpAny_call (run_k1 F hr hb hx I2 rz l2 q2)
/-- C.m(k = v, ..), m a classmethod -/
theorem pe_cmethW (he : PE X o ta) (r : ClX.CRead X.K C mc) (c : ClX.CMet X.K C mc m p f) (F : FnOk X.prog X.w X.K X.mg X.base CX k f fd ps sp) (hr : Room k X.A) (hb : KW1 X.K fd ps ks g gV) (hx : Passes CX X E) (hkw : PK X kws tk)
    (hall : (backToKw pos (keywordEach kws X.env)).all (·.1.isSome) = true := by rfl) (hks : (backToKw pos (keywordEach kws X.env)).filterMap (·.1) = ks := by rfl)
    (hpl : ((backTo pos (starEach [] X.env)).any (·.1) || (backToKw pos (keywordEach kws X.env)).any (·.1.isNone)) = false := by rfl)
    (ht : eval (.Call (.Attribute o m apos) [] kws pos) X.env = (do
      let ov ← eval o X.env
      standAt apos.atName
      let (f, first) ← holding [ov] (getMethod ov m pl)
      callWith pos f first (backTo pos (starEach [] X.env)) (backToKw pos (keywordEach kws X.env))) := by rfl) :
    PE X (.Call (.Attribute o m apos) [] kws pos) (tCMethW C ks.length sp gV E ta tk) := by
  refine ⟨fun pins s σ H Q I h => PySem.W.methodCall_KW (pl := pl) (thn (he.run pins s σ H _ I h) fun u s1 z => ?_) ht⟩
  obtain ⟨x, H1, I1, rx, rfl, q⟩ := z
  cases rx
  refine ClX.getmethcm_ok I1 r c fun s2 I2 => ?_
  refine PySem.W.callWith_of (P := PySem.W.MethP X.K s1.heap.objs.size f (.ref C)) hpl (PySem.W.keeps_M c.fi) (evalArgs_kw2_nil hall (thn (hkw.run pos _ s2 σ H1 _ I2 q) fun ws s3 z => ?_))
  obtain ⟨zs, H2, I3, rz, l2, q2⟩ := z
  refine ⟨⟨ClX.pin_at I3, I3.kIn⟩, ?_⟩
  rw [hks]
  have w : wpAny (model X.prog X.w) X.A (call (.ref s1.heap.objs.size) ([] ++ []) (ks.zip ws)) (L2.EP X ((s1.heap.objs.size, PySem.W.methodObj (.ref f) (.ref C)) :: pins) σ Q) X.xe s3 :=
    wpAny_call (PySem.W.method_call (ClX.pin_at I3) (run_k1 F hr hb hx I3 rz l2 q2))
  exact thn w fun _ _ y => ClX.unpinE y
/-- by places alone -/
theorem toR (F : FnOk X.prog X.w X.K X.mg X.base CX k f fd ps sp) (hb : Binds X.K fd ps []) : FnR X.prog X.w X.K X.mg X.base CX k f sp := fun A outer s H us vs Q E hr e0 r hs => by
  have b := hb s us (e0.mod.kin.keeps fun b o z => (e0.bs b o z).1) (by rw [List.append_nil, ← r.length]; exact F.len _ _ _ _ hs)
  rw [List.append_nil] at b
  exact F.run A outer s H ⟨us, []⟩ us vs Q E hr e0 b r hs
theorem pe_makeL (M : Mk X.K C f) (F : FnOk X.prog X.w X.K X.mg X.base CX k f fd ps sp) (hr : Room (k + 1) X.A) (hN : X.N[i]? = some x) (hv : Vis X.env.scope x) (hb : Binds X.K fd ps ds) (hd : Vals dvs ds) (hx : Passes CX X E) (ha : PA X (e :: es) t)
    (hdb : (x == ("__debug__" : Str)) = false := by decide) (hcd : (x == ("__classdict__" : Str)) = false := by decide) (he : starEach (e :: es) X.env = (false, eval e X.env) :: starEach es X.env := by rfl) (hpl : (backTo pos (starEach es X.env)).any (·.1) = false := by rfl) :
    PE X (.Call (.Name x ppos) (e :: es) [] pos) (tMakeL i C sp dvs E t) := by
  refine ⟨fun pins s σ H Q I h => ?_⟩
  obtain ⟨hs, ht⟩ := h
  refine wpAny_Call_Name_kw (thn ((pe_var (pos := ppos) hN hv hdb hcd).run pins s σ H (fun v H1 => v = .ref C ∧ H1 = H) I ⟨.ref C, hs, rfl, rfl⟩) fun u s1 z => ?_)
  obtain ⟨v, H1, I1, r1, rfl, rfl⟩ := z
  cases r1
  refine PySem.W.callWith_K (h₀ := X.base) I.ok.mod.kin M.kp (thn (ha.run pos pins s1 σ _ _ I1 ht) fun us s2 z => ?_) he hpl
  obtain ⟨vs, H2, I2, r, q⟩ := z
  exact ⟨I2.kIn, run_make M F hr hb hd hx I2 r q⟩
end
section
variable {σ : L2.St} {H : Hp} {ta : TE} {t tk : TA} {P : List V → Hp → Prop} {C a dx : Addr} {fs : List (Str × V)} {m : Str} {n : Nat} {sp : Sp} {gV : List V → List V} {E : XK} {D : DV}
theorem yd_methW (ho : Ev ta σ H (.ref a)) (h : H a = some (.ins C dx fs)) (l : fs.lookup m = none) (hk : YdA tk σ H P) (hs : ∀ vs H1, Ex H H1 → P vs H1 → vs.length = n ∧ SpY sp (.ref a :: gV vs) H1 E D) : Yd (tMethW C m n sp gV E ta tk) σ H D := fun H1 e Q q =>
  ho H1 e _ fun H2 e2 => ⟨a, dx, fs, rfl, e2 _ _ (e _ _ h), l, hk H2 (e.trans e2) _ fun vs H3 e3 p => by
    obtain ⟨z, y⟩ := hs vs H3 ((e.trans e2).trans e3) p
    exact ⟨z, y H3 (Ex.refl H3) Q fun v H4 e4 d => q v H4 ((e2.trans e3).trans e4) d⟩⟩
theorem yd_cmethW (ho : Ev ta σ H (.ref C)) (hk : YdA tk σ H P) (hs : ∀ vs H1, Ex H H1 → P vs H1 → vs.length = n ∧ SpY sp (.ref C :: gV vs) H1 E D) : Yd (tCMethW C n sp gV E ta tk) σ H D := fun H1 e Q q =>
  ho H1 e _ fun H2 e2 => ⟨rfl, hk H2 (e.trans e2) _ fun vs H3 e3 p => by
    obtain ⟨z, y⟩ := hs vs H3 ((e.trans e2).trans e3) p
    exact ⟨z, y H3 (Ex.refl H3) Q fun v H4 e4 d => q v H4 ((e2.trans e3).trans e4) d⟩⟩
theorem yd_cmeth (ho : Ev ta σ H (.ref C)) (ha : YdA t σ H P) (hs : ∀ vs H1, Ex H H1 → P vs H1 → SpY sp (.ref C :: vs) H1 E D) : Yd (ClX.tCMeth C sp E ta t) σ H D := fun H1 e Q q =>
  ho H1 e _ fun H2 e2 => ⟨rfl, ha H2 (e.trans e2) _ fun vs H3 e3 p => hs vs H3 ((e.trans e2).trans e3) p H3 (Ex.refl H3) Q fun v H4 e4 d => q v H4 ((e2.trans e3).trans e4) d⟩
end
end PF
/-! Ratio.total. -/
namespace PF
open PySem PySem.Spec PyProof.Rows L2 Evl
def ratSum (qs : List Rat) : Rat := qs.foldl (· + ·) 0
theorem ratSum_snoc (qs : List Rat) (q : Rat) : ratSum (qs ++ [q]) = ratSum qs + q := by
  unfold ratSum
  rw [List.foldl_append]
  rfl
section
variable {P : Program} {w : World} {K : PySem.W.Frag} {mg : Str → Option Value} {base : Heap} {C : Addr}
/-- the sum of a list or tuple of numbers -/
def spTot (C : Addr) : Sp := spD fun vs H D => ∃ a xs qs, vs = [.ref C, .ref a] ∧ (H a = some (.lst xs) ∨ H a = some (.tup xs)) ∧ Paired (fun x q => DNum C q x H) xs qs ∧ xs.length ≤ 1000 ∧ (∀ q ∈ qs, Sz 4000 q) ∧ (∀ i, i ≤ qs.length → Sz 4000 (ratSum (qs.take i))) ∧ D = DRat C (ratSum qs)
structure TotAt (K : PySem.W.Frag) (mg : Str → Option Value) (C p g : Addr) (d : FuncData) : Prop where
  F : Fun K "total" "Ratio.total" (m_ 17) g d
  b : Binds K d ["cls", "numbers"] []
  w : KW1 K d ["cls", "numbers"] ["numbers"] id id
  c : ClX.CMet K C (.type "type") "total" p g
  list : mg "list" = none
  tuple : mg "tuple" = none
abbrev NTot : List Str := ["cls", "numbers", "result", "number"]
theorem scTot : FnScope NTot ["cls", "numbers"] (defScope (m_ 17)) := ⟨rfl, rfl, rfl, by decide +kernel, rfl, by decide +kernel, by decide +kernel⟩
theorem kit_lt {t : String} (h : t = "list" ∨ t = "tuple") : PySem.W.kitAny K (.type t) [.type "list", .type "tuple"] = some true := by
  rcases h with rfl | rfl
  · exact kitAny_cons (b := true) (kit_ty (by decide +kernel)) (fun z => nomatch z) (fun _ => rfl)
  · exact kitAny_cons (b := false) (kit_ty (by decide +kernel)) (fun _ => kitAny_cons (b := true) (kit_ty (by decide +kernel)) (fun z => nomatch z) (fun _ => rfl)) (fun z => nomatch z)
theorem paired_take {α β : Type} {F : α → β → Prop} : ∀ {l : List α} {r : List β} {i : Nat} {a : α}, Paired F l r → l[i]? = some a → ∃ b, r[i]? = some b ∧ r.take (i + 1) = r.take i ++ [b] ∧ F a b
  | _, _, 0, _, .cons f _, e => by
    cases e
    exact ⟨_, rfl, rfl, f⟩
  | _, _, i + 1, a, .cons _ t, e => by
    obtain ⟨b, h1, h2, h3⟩ := paired_take (i := i) t e
    exact ⟨b, h1, by rw [List.take_succ_cons, h2]; rfl, h3⟩
theorem paired_len {α β : Type} {F : α → β → Prop} : ∀ {l : List α} {r : List β}, Paired F l r → l.length = r.length
  | _, _, .nil => rfl
  | _, _, .cons _ t => by rw [List.length_cons, List.length_cons, paired_len t]
/-- what is known within the loop -/
def TotI (C a : Addr) (H : Hp) (qs : List Rat) (i : Nat) (σ : L2.St) (H' : Hp) : Prop := ∃ r u, σ = [some (.ref C), some (.ref a), some (.ref r), u] ∧ RatAt C (ratSum (qs.take i)) r H' ∧ Ex H H'
theorem ok_tot (R : RA K mg C) {p g : Addr} {d : FuncData} (T : TotAt K mg C p g d) : FnOk P w K mg base CX0 7 g d ["cls", "numbers"] (spTot C) := by
  refine T.F.ok scTot (fun vs H Q E h => ?_) (fun cdv A outer s H vs Q E hr h => ?_)
  · obtain ⟨D, ⟨a, xs, qs, rfl, _⟩, _⟩ := h
    rfl
  · obtain ⟨D, ⟨a, xs, qs, rfl, ha, hq, hl, sq, sp, rfl⟩, k⟩ := h
    have nd := scTot.nd
    have r5 := hr.mono (show 5 ≤ 6 by decide)
    have r3 := hr.mono (show 3 ≤ 6 by decide)
    obtain ⟨ds, hd, bd⟩ := R.bIn1
    have lq := paired_len hq
    have turn : ∀ {σ' : L2.St} {H' : Hp} {i : Nat} {x : V} {E : XK}, xs[i]? = some x → TotI C a H qs i σ' H' → Yd (tOp (rOwn K C .Add (spBin C (· + ·)) E) (tVar 2) (tVar 3)) (σ'.set 3 (some x)) H' (DRat C (ratSum (qs.take (i + 1)))) := fun {σ' H' i x E} hx z => by
      obtain ⟨r, u, rfl, hr, e⟩ := z
      obtain ⟨q, h1, h2, h3⟩ := paired_take hq hx
      have hi : i < qs.length := (List.getElem?_eq_some_iff.mp h1).1
      rw [h2, ratSum_snoc]
      exact yd_bin (g := (· + ·)) R.T bt_add_int (yd_var rfl ⟨r, rfl, hr⟩) (yd_var rfl (Mn.mono e h3)) (sp i (by omega)) (sq q (List.mem_of_getElem? h1))
    have start0 : ∀ (r : Addr) (H1 : Hp), Ex H H1 → DRat C (0 : Int) (.ref r) H1 → TotI C a H qs 0 [some (.ref C), some (.ref a), some (.ref r), none] H1 := fun r H1 e d => by
      obtain ⟨r', e', h⟩ := d
      cases e'
      exact ⟨r, none, rfl, h, e⟩
    have fin : ∀ {σ' : L2.St} {H' : Hp}, TotI C a H qs xs.length σ' H' → tRet (tVar 2) { nx := fun _ H' => Q .non H', rt := Q } σ' H' := fun z => by
      obtain ⟨r, u, rfl, hr, e⟩ := z
      rw [lq, List.take_length] at hr
      exact s_ret (ev_var rfl) fun H2 e2 => k _ H2 (e.trans e2) ⟨r, rfl, hr.up e2⟩
    have isT : ∀ {t : String}, (t = "list" ∨ t = "tuple") → (∀ H1, Ex H H1 → TyX K H1 (.ref a) (.type t)) → ∀ {E : XK}, Ev (tCB (rIsiT K) (tCons (tVar 1) (tCons (tTup (tCons (tC (.ty "list")) (tCons (tC (.ty "tuple")) tNil))) tNil))) (start NTot [.ref C, .ref a]) H (.bl true) := fun {t} ht ty {E} =>
      ev_yd (yd_cb (ya_cons (D := Is (.ref a)) (yd_ev (ev_var rfl)) (ya1 (D := TupOf [.ty "list", .ty "tuple"]) (yd_u (eu_tup (ea_cons ev_c (ea_cons ev_c ea_nil)) (by show 2 ≤ 100000; decide)) fun p H1 _ h => ⟨p, rfl, h⟩))) fun vs H1 e p Q q => by
        obtain ⟨x, ys, rfl, (rfl : x = .ref a), y, rfl, u, rfl, hu⟩ := p
        exact ⟨.ref a, u, _, _, _, true, rfl, hu, .cons (.ty "list") (.cons (.ty "tuple") .nil), ty H1 e, kit_lt ht, q _ H1 (Ex.refl H1) rfl⟩)
    rcases ha with ha | ha
    · refine ⟨_, pss_cons (ps_if (pt_not (pt_val (pe_callB call_isiT rfl R.T.isi (by rfl) (pa_cons (pv 1) (pa_cons (pe_tup (pa_cons (pe_bltn (v := .ty "list") rfl T.list (by rfl) rfl) (pa_cons (pe_bltn (v := .ty "tuple") rfl T.tuple (by rfl) rfl) pa_nil))) pa_nil))))) pss_never pss_nil)
        (pss_cons (ps_set (i := 2) nd rfl (.inl rfl) (pe_makeL (i := 0) R.M R.gIn r3 rfl (.inl rfl) bd hd pass0 (pa_cons pe_int pa_nil)))
        (pss_cons (ps_for PassesOwn.never rfl (pi_list (pv 1)) (pg_name (i := 3) nd rfl (.inl rfl)) (pss_one (ps_set (i := 2) nd rfl (.inl rfl) (pe_op (op_own (op := .Add) R.T.own R.MAdd.m R.MRadd.m R.gAdd r5 R.MAdd.b pass0) (pv 2) (pv 3))))) (pss_one (ps_ret (pv 2))))), ?_⟩
      refine q_when (b := false) (et_is (et_not (et_B (isT (E := E) (.inl rfl) (fun H1 e => .base (.lst (e _ _ ha)))))) rfl) (fun z => nomatch z) (fun _ H1 e1 => ?_)
      refine q_asgD (D := DRat C (0 : Int)) (fun H2 e2 Q q => ⟨rfl, yd_mk1 ev_c H2 e2 Q q⟩) (fun v H2 e2 dv => ?_)
      obtain ⟨r, rfl, hr⟩ := id dv
      refine q_forLn (j := 3) (ev_var rfl) (sq_of ((e1.trans e2) _ _ ha)) (TotI C a H qs) (fun H3 e3 => start0 r H3 ((e1.trans e2).trans e3) (Mn.mono e3 dv)) (fun i σ' H' _ z => sq_of (z.choose_spec.choose_spec.2.2 _ _ ha)) (fun i x σ' H' hx z => ?_) (fun σ' H' z => fin z)
      refine s_asgD (turn hx z) (fun v H3 e3 dv => ?_)
      obtain ⟨r', u, rfl, hr', e⟩ := z
      obtain ⟨r2, rfl, hr2⟩ := dv
      exact ⟨r2, _, rfl, hr2, e.trans e3⟩
    · refine ⟨_, pss_cons (ps_if (pt_not (pt_val (pe_callB call_isiT rfl R.T.isi (by rfl) (pa_cons (pv 1) (pa_cons (pe_tup (pa_cons (pe_bltn (v := .ty "list") rfl T.list (by rfl) rfl) (pa_cons (pe_bltn (v := .ty "tuple") rfl T.tuple (by rfl) rfl) pa_nil))) pa_nil))))) pss_never pss_nil)
        (pss_cons (ps_set (i := 2) nd rfl (.inl rfl) (pe_makeL (i := 0) R.M R.gIn r3 rfl (.inl rfl) bd hd pass0 (pa_cons pe_int pa_nil)))
        (pss_cons (ps_for PassesOwn.never rfl (pi_tup (pv 1)) (pg_name (i := 3) nd rfl (.inl rfl)) (pss_one (ps_set (i := 2) nd rfl (.inl rfl) (pe_op (op_own (op := .Add) R.T.own R.MAdd.m R.MRadd.m R.gAdd r5 R.MAdd.b pass0) (pv 2) (pv 3))))) (pss_one (ps_ret (pv 2))))), ?_⟩
      refine q_when (b := false) (et_is (et_not (et_B (isT (E := E) (.inr rfl) (fun H1 e => .base (.tup (e _ _ ha)))))) rfl) (fun z => nomatch z) (fun _ H1 e1 => ?_)
      refine q_asgD (D := DRat C (0 : Int)) (fun H2 e2 Q q => ⟨rfl, yd_mk1 ev_c H2 e2 Q q⟩) (fun v H2 e2 dv => ?_)
      obtain ⟨r, rfl, hr⟩ := id dv
      refine q_forT (ev_var rfl) (st_of ((e1.trans e2) _ _ ha)) (TotI C a H qs) (fun H3 e3 => start0 r H3 ((e1.trans e2).trans e3) (Mn.mono e3 dv)) (fun i σ' H' _ z => st_of (z.choose_spec.choose_spec.2.2 _ _ ha)) (fun i x σ' H' hx z => ?_) (fun σ' H' z => fin z)
      refine s_asgD (turn hx z) (fun v H3 e3 dv => ?_)
      obtain ⟨r', u, rfl, hr', e⟩ := z
      obtain ⟨r2, rfl, hr2⟩ := dv
      exact ⟨r2, _, rfl, hr2, e.trans e3⟩
end
end PF
/-! Lists of Ratios, lists of pairs of ints; a comprehension over zip. -/
namespace PF
open PySem PySem.Spec PyProof.Rows L2 Evl
theorem el_lcZ {K : PySem.W.Frag} {σ : L2.St} {H : Hp} {ta : TA} {g : TG} {te : TE} {vs : List Nat} {a b : Addr} {xs ys : List V} (h : EvA ta σ H [.ref a, .ref b]) (hx : H a = some (.lst xs)) (hy : H b = some (.lst ys)) (hl : xs.length = ys.length) (hz : xs.length ≤ 40000)
    (G : ∀ (i : Nat) (x y : V), xs[i]? = some x → ys[i]? = some y → ∃ σ2 : L2.St, (∀ (T : Addr) (H1 : Hp) (R : L2.St → Hp → Prop), Ex H H1 → H1 T = some (.tup [x, y]) → R σ2 H1 → g (.ref T) (wipe σ vs) H1 R) ∧ wipe σ2 vs = wipe σ vs ∧ Ev te σ2 H (.bl true)) :
    EvL (tLc (iZip K ta) g tYes te vs) σ H (given xs.length (fun _ => true) fun _ => .bl true) := fun H0 e Q q => h H0 e _ fun H1 e1 => by
  have e01 := e.trans e1
  refine ⟨a, b, xs, ys, rfl, sq_of (e01 _ _ hx), sq_of (e01 _ _ hy), fun Dl hD => ?_⟩
  refine ⟨fun i m H' => m = xs.length - i ∧ i ≤ xs.length ∧ Cw H1 (fun _ => true) (fun _ => .bl true) Dl i H', ⟨xs.length, rfl, Nat.zero_le _, hD, Ex.new hD, upd_same⟩, ?_⟩
  rintro i m H' ⟨rfl, hi, p⟩
  have px := sq_of (K := K) (p.2.1 _ _ (e01 _ _ hx))
  have py := sq_of (K := K) (p.2.1 _ _ (e01 _ _ hy))
  by_cases hlt : i < xs.length
  · have hx1 : xs[i]? = some xs[i] := List.getElem?_eq_getElem hlt
    have hy1 : ys[i]? = some (ys[i]'(by omega)) := List.getElem?_eq_getElem (by omega)
    refine .inr ⟨⟨xs, ys, _, _, px, py, hx1, hy1⟩, fun H2 => Cw H1 (fun _ => true) (fun _ => .bl true) Dl (i + 1) H2, fun H2 z => ⟨xs.length - (i + 1), by omega, rfl, hlt, z⟩, fun v H2 y => ?_⟩
    obtain ⟨T, x', y', rfl, hT, rfl, f1, f2⟩ := y
    obtain ⟨σ2, g1, g2, g3⟩ := G i x' y' (f1 xs px) (f2 ys py)
    have nT : Dl ≠ T := fun z => by
      subst z
      rw [p.2.2] at hT
      cases hT
    have p2 : Cw H1 (fun _ => true) (fun _ => .bl true) Dl i (upd H' T (.tup [x', y'])) := ⟨p.1, p.2.1.trans (Ex.new hT), by rw [upd_ne nT]; exact p.2.2⟩
    refine g1 T _ _ (e01.trans p2.2.1) upd_same ⟨g2, ?_⟩
    exact cw_turn p2 (by omega) (fun H e Q q => q H (Ex.refl H)) (fun _ => g3.mono e01)
  · have e' : i = xs.length := by omega
    subst e'
    exact .inl ⟨⟨xs, ys, px, py, Or.inl (Nat.le_refl _)⟩, q Dl H' (fresh_back e1 p.1) (e1.trans p.2.1) p.2.2⟩
/-- items described one by one -/
def DL {α : Type} (F : α → DV) (qs : List α) : List V → Hp → Prop := fun vs H => Paired (fun v q => F q v H) vs qs
theorem DL.up {α : Type} {F : α → DV} [∀ a, Mn (F a)] {qs : List α} {vs : List V} {H H' : Hp} (e : Ex H H') (h : DL F qs vs H) : DL F qs vs H' := pairedMap (fun _ _ z => Mn.mono e z) h
theorem yaL_nil {α : Type} {F : α → DV} {σ : L2.St} {H : Hp} : YdA tNil σ H (DL F []) := fun H1 _ Q q => q [] H1 (Ex.refl H1) .nil
theorem yaL_cons {α : Type} {F : α → DV} [∀ a, Mn (F a)] {σ : L2.St} {H : Hp} {te : TE} {ta : TA} {q : α} {qs : List α} (h : Yd te σ H (F q)) (r : YdA ta σ H (DL F qs)) : YdA (tCons te ta) σ H (DL F (q :: qs)) := fun H1 e Q k =>
  ya_cons h r H1 e Q fun vs H2 e2 p => by
    obtain ⟨x, xs, rfl, d, l⟩ := p
    exact k _ H2 e2 (.cons d l)
theorem DL.len {α : Type} {F : α → DV} {qs : List α} {vs : List V} {H : Hp} (h : DL F qs vs H) : vs.length = qs.length := paired_len h
theorem paired_app {α β : Type} {F : α → β → Prop} : ∀ {l : List α} {r : List β} {l2 : List α} {r2 : List β}, Paired F l r → Paired F l2 r2 → Paired F (l ++ l2) (r ++ r2)
  | _, _, _, _, .nil, h => h
  | _, _, _, _, .cons a t, h => .cons a (paired_app t h)
/-- a new list of such items -/
def LstD {α : Type} (F : α → DV) (qs : List α) : DV := fun v H => ∃ p vs, v = .ref p ∧ H p = some (.lst vs) ∧ DL F qs vs H
instance {α : Type} {F : α → DV} [∀ a, Mn (F a)] {qs : List α} : Mn (LstD F qs) := ⟨fun e h => by
  obtain ⟨p, vs, h1, h2, h3⟩ := h
  exact ⟨p, vs, h1, e _ _ h2, h3.up e⟩⟩
theorem yd_lstD {α : Type} {F : α → DV} [∀ a, Mn (F a)] {qs : List α} {σ : L2.St} {H : Hp} {ta : TA} (h : YdA ta σ H (DL F qs)) (hl : qs.length ≤ 100000) : Yd (tLst ta) σ H (LstD F qs) :=
  Yd.imp (yd_lst h fun vs H1 p => by rw [DL.len p]; exact hl) fun v H1 _ d => by
    obtain ⟨p, vs, H0, rfl, _, hp, e, dl⟩ := d
    exact ⟨p, vs, rfl, hp, dl.up e⟩
theorem yd_catD {α : Type} {F : α → DV} [∀ a, Mn (F a)] {qs rs : List α} {σ : L2.St} {H : Hp} {ta tb : TE} (h1 : Yd ta σ H (LstD F qs)) (h2 : Yd tb σ H (LstD F rs)) (hl : qs.length + rs.length ≤ 100000) : Yd (tOp rCat ta tb) σ H (LstD F (qs ++ rs)) :=
  yd_op h1 h2 fun x y H1 e dx dy Q k => by
    obtain ⟨p, vs, rfl, hp, dp⟩ := dx
    obtain ⟨r, us, rfl, hr, dr⟩ := dy
    exact ⟨p, r, vs, us, rfl, rfl, hp, hr, by rw [DL.len dp, DL.len dr]; exact sz_of hl, fun u hu => k _ _ (Ex.new hu) ⟨u, _, rfl, upd_same, paired_app (DL.up (Ex.new hu) dp) (DL.up (Ex.new hu) dr)⟩⟩
theorem pairedAt {α β : Type} {F : α → β → Prop} : ∀ {l : List α} {r : List β} {i : Nat} {b : β}, Paired F l r → r[i]? = some b → ∃ a, l[i]? = some a ∧ F a b
  | _, _, 0, _, .cons f _, e => by
    cases e
    exact ⟨_, rfl, f⟩
  | _, _, i + 1, b, .cons _ t, e => pairedAt (i := i) t e
/-- a pair of ints in a new tuple -/
abbrev Pr2 (p : Int × Int) : DV := TupOf [.int p.1, .int p.2]
/-- t over b is q -/
def OverIs (q : Rat) (p : Int × Int) : Prop := p.2 ≠ 0 ∧ p.2.natAbs < 2 ^ 9000 ∧ Rat.divInt p.1 p.2 = q ∧ Sz 1900 q
end PF
/-! This law's sums. -/
namespace PF
open PySem PySem.Spec PyProof.Rows L2 Evl
theorem sub_made (p q : Rat) : Rat.divInt (p.num * q.den - q.num * p.den) (p.den * q.den) = p + -q := by
  rw [← add_made, Rat.neg_num, Rat.neg_den]
  congr 1
  rw [Int.neg_mul]
  rfl
theorem addI_made (p : Rat) (w : Int) : Rat.divInt (p.num + w * p.den) p.den = p + (w : Rat) := by
  rw [← add_made, Rat.num_intCast, Rat.den_intCast]
  congr 1
  · show _ = p.num * ((1 : Nat) : Int) + _
    omega
  · show _ = _ * ((1 : Nat) : Int)
    omega
theorem subI_made (p : Rat) (w : Int) : Rat.divInt (p.num - w * p.den) p.den = p + -(w : Rat) := by
  rw [← Rat.intCast_neg, ← addI_made, Int.neg_mul]
  rfl
theorem mulI_made (p : Rat) (w : Int) : Rat.divInt (p.num * w) p.den = p * (w : Rat) := by
  rw [← mul_made, Rat.num_intCast, Rat.den_intCast]
  congr 1
  show _ = _ * ((1 : Nat) : Int)
  omega
theorem rsubI_made (p : Rat) (w : Int) : Rat.divInt (w * p.den - p.num) p.den = (w : Rat) + -p := by
  rw [Rat.add_comm, ← addI_made, Rat.neg_num, Rat.neg_den]
  congr 1
  omega
theorem negz_made (p : Rat) : Rat.divInt (0 - p.num) p.den = -p := by
  rw [Int.zero_sub]
  exact neg_made p
theorem absI_made (p : Rat) : Rat.divInt (p.num.natAbs : Nat) p.den = ratAbs p := by
  unfold ratAbs
  split
  · rw [← neg_made]
    congr 1
    omega
  · have e : ((p.num.natAbs : Nat) : Int) = p.num := by omega
    rw [e]
    exact Rat.num_divInt_den p
theorem Sz.abs {n : Nat} {q : Rat} (h : Sz n q) : Sz n (ratAbs q) := by
  unfold ratAbs
  split
  · exact h.neg
  · exact h
theorem Sz.over {n m : Nat} {p q : Rat} (hp : Sz n p) (hq : Sz m q) (h0 : q.num ≠ 0) : Sz (n + m) (p * q⁻¹) := by
  rw [← over_made]
  refine ⟨Nat.lt_of_le_of_lt (divInt_num_le _ _) ?_, Nat.lt_of_le_of_lt (divInt_den_le _ _ (Int.mul_ne_zero (den_ne p) h0)) ?_⟩
  · rw [Int.natAbs_mul, Int.natAbs_natCast]
    exact prod_lt hp.1 hq.2
  · rw [Int.natAbs_mul, Int.natAbs_natCast]
    exact prod_lt hp.2 hq.1
section
variable {σ : L2.St} {H : Hp} {ta tb : TE} {C : Addr} {q : Rat} {E : XK} {t b : Int}
theorem yd_isT (h1 : Yd ta σ H (DRat C q)) (h2 : Yd tb σ H (TupQ q)) (z : Sz 1900 q) : Yd (tCall (spIs C) [] E (tCons ta (tCons tb tNil))) σ H (Is (.bl true)) :=
  yd_call (ya_cons h1 (ya1 h2)) fun vs H1 _ p => by
    obtain ⟨v, xs, rfl, d1, w, rfl, d2⟩ := p
    exact spD_y fun _ e => ⟨v, w, q, rfl, Mn.mono e d1, Mn.mono e d2, z, rfl⟩
theorem yd_low (ha : Ev ta σ H (.int t)) (hb : Ev tb σ H (.int b)) (o : OverIs q (t, b)) : Yd (tCall spLow [] E (tCons ta (tCons tb tNil))) σ H (TupQ q) :=
  yd_call (ya_ev (ea_cons ha (ea_cons hb ea_nil))) fun vs H1 _ p => by
    subst p
    exact spLow_y o.1 o.2.1 o.2.2.1
theorem yd_pr (ha : Ev ta σ H (.int t)) (hb : Ev tb σ H (.int b)) : Yd (tTup (tCons ta (tCons tb tNil))) σ H (Pr2 (t, b)) := yd_u (eu_tup (ea_cons ha (ea_cons hb ea_nil)) (by show 2 ≤ 100000; decide)) fun p H1 _ h => ⟨p, rfl, h⟩
end
section
variable {P : Program} {w : World} {K : PySem.W.Frag} {mg : Str → Option Value} {base : Heap} {C : Addr}
abbrev NSums : List Str := ["_law_one", "_law_other", "_law_near", "_law_far", "_law_whole", "_law_a", "_law_b", "_law_c", "_law_d", "_law_told", "_law_due", "_law_mine", "_law_top", "_law_bottom"]
theorem scSums : FnScope NSums ["_law_one", "_law_other", "_law_near", "_law_far", "_law_whole"] (defScope sSums) := ⟨rfl, rfl, rfl, by decide +kernel, rfl, by decide +kernel, by decide +kernel⟩
def spSums (C : Addr) : Sp := spD fun vs H D => ∃ v1 v2 v3 v4 p q i, vs = [v1, v2, v3, v4, .int i] ∧ DRat C p v1 H ∧ DRat C q v2 H ∧ TupQ p v3 H ∧ TupQ q v4 H ∧ Sz 10 p ∧ Sz 10 q ∧ i.natAbs < 1024 ∧ D = Is (.bl true)
theorem ok_sums (R : RA K mg C) (B : RB K mg C) (L : L11 K mg C) (wO : KW1 K B.dOver ["self", "other"] ["other"] id id) : FnG P w K mg base CX0 10 L.fSums L.dSums ["_law_one", "_law_other", "_law_near", "_law_far", "_law_whole"] (spSums C) := by
  refine bodyG0 L.FSums scSums (fun vs H Q E h => ?_) (fun cdv A outer s H vs Q E hg hr h => ?_)
  · obtain ⟨D, ⟨v1, v2, v3, v4, p, q, i, rfl, _⟩, _⟩ := h
    rfl
  · obtain ⟨D, ⟨v1, v2, v3, v4, p, q, i, rfl, ⟨a1, rfl, h1⟩, ⟨a2, rfl, h2⟩, ⟨a3, rfl, h3⟩, ⟨a4, rfl, h4⟩, sp, sq, si, rfl⟩, k⟩ := h
    have nd := scSums.nd
    have T := R.T
    have r6 := hr.mono (show 6 ≤ 9 by decide)
    have r5 := hr.mono (show 5 ≤ 9 by decide)
    have r4 := hr.mono (show 4 ≤ 9 by decide)
    have r2 := hr.mono (show 2 ≤ 9 by decide)
    refine ⟨_, pss_cons (ps_asg (pv 2) (pg_tup rfl (pgs_cons (pg_name (i := 5) nd rfl (.inl rfl)) (pgs_cons (pg_name (i := 6) nd rfl (.inl rfl)) pgs_nil))))
      (pss_cons (ps_asg (pv 3) (pg_tup rfl (pgs_cons (pg_name (i := 7) nd rfl (.inl rfl)) (pgs_cons (pg_name (i := 8) nd rfl (.inl rfl)) pgs_nil))))
      (pss_cons (ps_set (i := 9) nd rfl (.inl rfl) (pe_lst (pa_cons (pe_op (op_own (op := .Add) T.own R.MAdd.m R.MRadd.m R.gAdd r5 R.MAdd.b pass0) (pv 0) (pv 1)) (pa_cons (pe_op (op_own (op := .Sub) T.own B.MSub.m B.MRsub.m (ok_sub R B) r6 B.MSub.b pass0) (pv 0) (pv 1)) (pa_cons (pe_op (op_own (op := .Mult) T.own B.MMul.m B.MRmul.m (ok_mul R B.MMul) r5 B.MMul.b pass0) (pv 0) (pv 1))
          (pa_cons (pe_op (op_own (op := .Add) T.own R.MAdd.m R.MRadd.m R.gAdd r5 R.MAdd.b pass0) (pv 0) (pv 4)) (pa_cons (pe_op (op_own (op := .Sub) T.own B.MSub.m B.MRsub.m (ok_sub R B) r6 B.MSub.b pass0) (pv 0) (pv 4)) (pa_cons (pe_op (op_own (op := .Mult) T.own B.MMul.m B.MRmul.m (ok_mul R B.MMul) r5 B.MMul.b pass0) (pv 0) (pv 4))
          (pa_cons (pe_op (op_addR T.own R.MRadd.m R.MAdd.m R.gRadd r6 R.MRadd.b pass0) (pv 4) (pv 0)) (pa_cons (pe_op (op_subR T.own B.MRsub.m B.MSub.m (ok_rsub R B) r6 B.MRsub.b pass0) (pv 4) (pv 0)) (pa_cons (pe_op (op_mulR T.own B.MRmul.m B.MMul.m (ok_rmul R B) r6 B.MRmul.b pass0) (pv 4) (pv 0))
          (pa_cons (pe_un (un_own R.MNeg.m R.gNeg r4 R.MNeg.b pass0) (pv 0)) (pa_cons (pe_meth0 (pv 0) T.own.cl B.MUns.m (ok_uns R B) r4 B.MUns.b .nil pass0) pa_nil)))))))))))))
      (pss_cons (ps_set (i := 10) nd rfl (.inl rfl) (pe_lst (pa_cons (pe_tup (pa_cons (pe_op op_add (pe_op op_mul (pv 5) (pv 8)) (pe_op op_mul (pv 7) (pv 6))) (pa_cons (pe_op op_mul (pv 6) (pv 8)) pa_nil))) (pa_cons (pe_tup (pa_cons (pe_op op_sub (pe_op op_mul (pv 5) (pv 8)) (pe_op op_mul (pv 7) (pv 6))) (pa_cons (pe_op op_mul (pv 6) (pv 8)) pa_nil)))
          (pa_cons (pe_tup (pa_cons (pe_op op_mul (pv 5) (pv 7)) (pa_cons (pe_op op_mul (pv 6) (pv 8)) pa_nil))) (pa_cons (pe_tup (pa_cons (pe_op op_add (pv 5) (pe_op op_mul (pv 4) (pv 6))) (pa_cons (pv 6) pa_nil))) (pa_cons (pe_tup (pa_cons (pe_op op_sub (pv 5) (pe_op op_mul (pv 4) (pv 6))) (pa_cons (pv 6) pa_nil)))
          (pa_cons (pe_tup (pa_cons (pe_op op_mul (pv 5) (pv 4)) (pa_cons (pv 6) pa_nil))) (pa_cons (pe_tup (pa_cons (pe_op op_add (pv 5) (pe_op op_mul (pv 4) (pv 6))) (pa_cons (pv 6) pa_nil))) pa_nil)))))))))
      (pss_cons (ps_set (i := 10) nd rfl (.inl rfl) (pe_op op_cat (pv 10) (pe_lst (pa_cons (pe_tup (pa_cons (pe_op op_sub (pe_op op_mul (pv 4) (pv 6)) (pv 5)) (pa_cons (pv 6) pa_nil))) (pa_cons (pe_tup (pa_cons (pe_op op_mul (pv 5) (pv 4)) (pa_cons (pv 6) pa_nil)))
          (pa_cons (pe_tup (pa_cons (pe_op op_sub pe_int (pv 5)) (pa_cons (pv 6) pa_nil))) (pa_cons (pe_tup (pa_cons (pe_callB call_abs (by rfl) L.T.abs (by rfl) (pa_cons (pv 5) pa_nil)) (pa_cons (pv 6) pa_nil))) pa_nil)))))))
      (pss_cons (ps_if (pt_not (pt_val (pe_callB (cr_all rfl) (by rfl) L.all (by rfl) (pa_cons (pe_lc (own := [("_law_mine", 11), ("_law_top", 12), ("_law_bottom", 13)]) (g := gTup K 2 (gCons (gName 11) (gCons (gTup K 2 (gCons (gName 12) (gCons (gName 13) gNil))) gNil))) (tt := tYes) rfl nd (pi_zip (by rfl) L.zip (pa_cons (pv 9) (pa_cons (pv 10) pa_nil))) (blkOk_by (N := NSums) (sc := defScope sSums) (by decide +kernel))
          (fun _ _ _ _ _ => pg_tup rfl (pgs_cons (pg_name (i := 11) nd rfl (Or.inl rfl)) (pgs_cons (pg_tup rfl (pgs_cons (pg_name (i := 12) nd rfl (Or.inl rfl)) (pgs_cons (pg_name (i := 13) nd rfl (Or.inl rfl)) pgs_nil))) pgs_nil))) (fun _ _ _ _ _ => pts_nil)
          (fun _ _ _ _ _ => pe_callG hg (ok_is R L) hr rfl L.mIs L.FIs.kp L.bIs pass0 (pa_cons (pv 11) (pa_cons (pe_call (ok_low L.FLow L.FGcd L.mGcd L.bGcd L.T) r2 rfl L.mLow L.FLow.kp L.bLow .nil pass0 (pa_cons (pv 12) (pa_cons (pv 13) pa_nil))) pa_nil)))) pa_nil)))) pss_never pss_nil)
      (pss_cons (ps_if (PW.pt (pw_and (pt_cmpR op_ne (pv 7) pe_int (nomark _)) (pw_and1 (pt_not (pt_val (pe_callG hg (ok_is R L) hr rfl L.mIs L.FIs.kp L.bIs pass0 (pa_cons (pe_meth (pv 0) T.own.cl B.MOver.m (ok_over R B) r5 B.MOver.b .nil pass0 (pa_cons (pv 1) pa_nil))
          (pa_cons (pe_call (ok_low L.FLow L.FGcd L.mGcd L.bGcd L.T) r2 rfl L.mLow L.FLow.kp L.bLow .nil pass0 (pa_cons (pe_op op_mul (pv 5) (pv 8)) (pa_cons (pe_op op_mul (pv 6) (pv 7)) pa_nil))) pa_nil)))))))) pss_never pss_nil)
      (pss_one (ps_ret (pe_or (pe_cmpR op_eq (pv 4) pe_int (nomark _)) (pe_one (pe_callG hg (ok_is R L) hr rfl L.mIs L.FIs.kp L.bIs pass0 (pa_cons (pe_methW (pv 0) T.own.cl B.MOver.m (ok_over R B) r5 wO pass0 (pk_cons (pv 4) pk_nil))
          (pa_cons (pe_call (ok_low L.FLow L.FGcd L.mGcd L.bGcd L.T) r2 rfl L.mLow L.FLow.kp L.bLow .nil pass0 (pa_cons (pv 5) (pa_cons (pe_op op_mul (pv 6) (pv 4)) pa_nil))) pa_nil))))))))))))), ?_⟩
    have pn : p.num.natAbs < 1024 := sp.1
    have pd : p.den < 1024 := sp.2
    have qn : q.num.natAbs < 1024 := sq.1
    have qd : q.den < 1024 := sq.2
    have zi : Sz 10 (i : Rat) := sz_int (by decide) si
    have up4 : ∀ {r : Rat} {n : Nat}, n ≤ 4000 → Sz n r → Sz 4000 r := fun l h => h.le l
    have p4 := up4 (by decide) sp
    have q4 := up4 (by decide) sq
    have i4 := up4 (by decide) zi
    refine q_to (D := Is (.ref a3)) (yd_ev (ev_var rfl)) (fun v H1 e1 d => ?_)
    have d' : v = .ref a3 := d
    subst d'
    refine ⟨a3, _, rfl, st_of (e1 _ _ h3), rfl, _, _, rfl, _, _, rfl, rfl, ?_⟩
    refine q_to (D := Is (.ref a4)) (yd_ev (ev_var rfl)) (fun v H2 e2 d => ?_)
    have d' : v = .ref a4 := d
    subst d'
    refine ⟨a4, _, rfl, st_of ((e1.trans e2) _ _ h4), rfl, _, _, rfl, _, _, rfl, rfl, ?_⟩
    have e12 := e1.trans e2
    have h1' := h1.up e12
    obtain ⟨x1, k1⟩ := id h1'
    have d1 : DRat C p (.ref a1) H2 := ⟨a1, rfl, h1'⟩
    have d2 : DNum C q (.ref a2) H2 := .inr ⟨a2, rfl, h2.up e12⟩
    have d3 : DNum C (i : Rat) (.int i) H2 := .inl ⟨i, rfl, rfl⟩
    refine q_asgD (D := LstD (DRat C) [p + q, p + -q, p * q, p + (i : Rat), p + -(i : Rat), p * (i : Rat), (i : Rat) + p, (i : Rat) + -p, (i : Rat) * p, -p, ratAbs p])
      (yd_lstD (yaL_cons (yd_bin (g := (· + ·)) T bt_add_int (yd_var rfl d1) (yd_var rfl d2) p4 q4) (yaL_cons (yd_bin (g := fun p q => p + -q) T bt_sub_int (yd_var rfl d1) (yd_var rfl d2) p4 q4) (yaL_cons (yd_bin (g := (· * ·)) T bt_mul_int (yd_var rfl d1) (yd_var rfl d2) p4 q4)
        (yaL_cons (yd_bin (g := (· + ·)) T bt_add_int (yd_var rfl d1) (yd_var rfl d3) p4 i4) (yaL_cons (yd_bin (g := fun p q => p + -q) T bt_sub_int (yd_var rfl d1) (yd_var rfl d3) p4 i4) (yaL_cons (yd_bin (g := (· * ·)) T bt_mul_int (yd_var rfl d1) (yd_var rfl d3) p4 i4)
        (yaL_cons (yd_binR (g := fun p q => q + p) (yd_ev (ev_var rfl)) (yd_var rfl d1) p4 i4) (yaL_cons (yd_binR (g := fun p q => q + -p) (yd_ev (ev_var rfl)) (yd_var rfl d1) p4 i4) (yaL_cons (yd_binR (g := fun p q => q * p) (yd_ev (ev_var rfl)) (yd_var rfl d1) p4 i4)
        (yaL_cons (yd_neg (g := fun p => -p) (yd_var rfl d1) p4) (yaL_cons (yd_meth0 (ev_var rfl) k1 (rf_no (by decide +kernel) (by decide +kernel)) (spD_y fun _ e => ⟨a1, p, rfl, h1'.up e, p4, rfl⟩)) yaL_nil))))))))))) (by show 11 ≤ 100000; decide)) (fun v9 H3 e3 l9 => ?_)
    refine q_asgD (D := LstD Pr2 [(p.num * q.den + q.num * p.den, (p.den : Int) * q.den), (p.num * q.den - q.num * p.den, (p.den : Int) * q.den), (p.num * q.num, (p.den : Int) * q.den), (p.num + i * p.den, p.den), (p.num - i * p.den, p.den), (p.num * i, p.den), (p.num + i * p.den, p.den)])
      (yd_lstD (yaL_cons (yd_pr (ev_op (ev_op (ev_var rfl) (ev_var rfl) (rv_I (.inl ⟨by omega, by omega⟩))) (ev_op (ev_var rfl) (ev_var rfl) (rv_I (.inl ⟨by omega, by omega⟩))) rv_I0) (ev_op (ev_var rfl) (ev_var rfl) (rv_I (.inl ⟨by omega, by omega⟩))))
        (yaL_cons (yd_pr (ev_op (ev_op (ev_var rfl) (ev_var rfl) (rv_I (.inl ⟨by omega, by omega⟩))) (ev_op (ev_var rfl) (ev_var rfl) (rv_I (.inl ⟨by omega, by omega⟩))) rv_I0) (ev_op (ev_var rfl) (ev_var rfl) (rv_I (.inl ⟨by omega, by omega⟩))))
        (yaL_cons (yd_pr (ev_op (ev_var rfl) (ev_var rfl) (rv_I (.inl ⟨by omega, by omega⟩))) (ev_op (ev_var rfl) (ev_var rfl) (rv_I (.inl ⟨by omega, by omega⟩))))
        (yaL_cons (yd_pr (ev_op (ev_var rfl) (ev_op (ev_var rfl) (ev_var rfl) (rv_I (.inl ⟨by omega, by omega⟩))) rv_I0) (ev_var rfl))
        (yaL_cons (yd_pr (ev_op (ev_var rfl) (ev_op (ev_var rfl) (ev_var rfl) (rv_I (.inl ⟨by omega, by omega⟩))) rv_I0) (ev_var rfl))
        (yaL_cons (yd_pr (ev_op (ev_var rfl) (ev_var rfl) (rv_I (.inl ⟨by omega, by omega⟩))) (ev_var rfl))
        (yaL_cons (yd_pr (ev_op (ev_var rfl) (ev_op (ev_var rfl) (ev_var rfl) (rv_I (.inl ⟨by omega, by omega⟩))) rv_I0) (ev_var rfl)) yaL_nil))))))) (by show 7 ≤ 100000; decide)) (fun v10 H4 e4 l10 => ?_)
    refine q_asgD (D := LstD Pr2 ([(p.num * q.den + q.num * p.den, (p.den : Int) * q.den), (p.num * q.den - q.num * p.den, (p.den : Int) * q.den), (p.num * q.num, (p.den : Int) * q.den), (p.num + i * p.den, p.den), (p.num - i * p.den, p.den), (p.num * i, p.den), (p.num + i * p.den, p.den)]
        ++ [(i * p.den - p.num, (p.den : Int)), (p.num * i, p.den), (0 - p.num, p.den), ((p.num.natAbs : Nat), p.den)]))
      (yd_catD (yd_var rfl l10) (yd_lstD (yaL_cons (yd_pr (ev_op (ev_op (ev_var rfl) (ev_var rfl) (rv_I (.inl ⟨by omega, by omega⟩))) (ev_var rfl) rv_I0) (ev_var rfl))
        (yaL_cons (yd_pr (ev_op (ev_var rfl) (ev_var rfl) (rv_I (.inl ⟨by omega, by omega⟩))) (ev_var rfl)) (yaL_cons (yd_pr (ev_op ev_c (ev_var rfl) rv_I0) (ev_var rfl)) (yaL_cons (yd_pr (ev_abs (ev_var rfl)) (ev_var rfl)) yaL_nil)))) (by show 4 ≤ 100000; decide)) (by show 7 + 4 ≤ 100000; decide)) (fun v11 H5 e5 l11 => ?_)
    have z19 : ∀ {r : Rat} {n : Nat}, n ≤ 1900 → Sz n r → Sz 1900 r := fun l h => h.le l
    have dz : ((p.den : Int) * (q.den : Int)).natAbs < 2 ^ 9000 := dens_small p4 q4
    have dn := dens_ne p q
    have pz : ((p.den : Int)).natAbs < 2 ^ 9000 := pow_up (n := 10) (by rw [Int.natAbs_natCast]; exact sp.2) (by decide)
    have pe := den_ne p
    have ov : Paired OverIs [p + q, p + -q, p * q, p + (i : Rat), p + -(i : Rat), p * (i : Rat), (i : Rat) + p, (i : Rat) + -p, (i : Rat) * p, -p, ratAbs p]
        ([(p.num * q.den + q.num * p.den, (p.den : Int) * q.den), (p.num * q.den - q.num * p.den, (p.den : Int) * q.den), (p.num * q.num, (p.den : Int) * q.den), (p.num + i * p.den, (p.den : Int)), (p.num - i * p.den, (p.den : Int)), (p.num * i, (p.den : Int)), (p.num + i * p.den, (p.den : Int))]
          ++ [(i * p.den - p.num, (p.den : Int)), (p.num * i, (p.den : Int)), (0 - p.num, (p.den : Int)), (((p.num.natAbs : Nat) : Int), (p.den : Int))]) :=
      .cons ⟨dn, dz, add_made p q, z19 (by decide) (sp.add sq)⟩ (.cons ⟨dn, dz, sub_made p q, z19 (by decide) (sp.add sq.neg)⟩ (.cons ⟨dn, dz, mul_made p q, z19 (by decide) (sp.mul sq)⟩
        (.cons ⟨pe, pz, addI_made p i, z19 (by decide) (sp.add zi)⟩ (.cons ⟨pe, pz, subI_made p i, z19 (by decide) (sp.add zi.neg)⟩ (.cons ⟨pe, pz, mulI_made p i, z19 (by decide) (sp.mul zi)⟩
        (.cons ⟨pe, pz, by rw [Rat.add_comm]; exact addI_made p i, z19 (by decide) (zi.add sp)⟩ (.cons ⟨pe, pz, rsubI_made p i, z19 (by decide) (zi.add sp.neg)⟩ (.cons ⟨pe, pz, by rw [Rat.mul_comm]; exact mulI_made p i, z19 (by decide) (zi.mul sp)⟩
        (.cons ⟨pe, pz, negz_made p, z19 (by decide) sp.neg⟩ (.cons ⟨pe, pz, absI_made p, z19 (by decide) sp.abs⟩ .nil))))))))))
    obtain ⟨u9, xs, rfl, g9, m9⟩ := (Mn.mono (e4.trans e5) l9 : LstD (DRat C) _ v9 H5)
    obtain ⟨u11, ys, rfl, g11, m11⟩ := l11
    have lx := DL.len m9
    have ly := DL.len m11
    refine q_when (b := false) (et_is (et_not (et_B (ev_allT (n := xs.length) (el_lcZ (ea_cons (ev_var rfl) (ea_cons (ev_var rfl) ea_nil)) g9 g11 (by rw [lx, ly]; rfl) (by rw [lx]; show 11 ≤ 40000; decide) (fun j x y hx hy => ?_))))) rfl) (fun z => nomatch z) (fun _ H6 e6 => ?_)
    · obtain ⟨r, hr, dx⟩ := pairedGet m9 hx
      obtain ⟨pr, hpr, dy⟩ := pairedGet m11 hy
      obtain ⟨pr', hpr', ho⟩ := pairedGet ov hr
      have epr : pr = pr' := Option.some.inj (hpr.symm.trans hpr')
      subst epr
      obtain ⟨u, rfl, hu⟩ := dy
      refine ⟨[some (.ref a1), some (.ref a2), some (.ref a3), some (.ref a4), some (.int i), some (.int p.num), some (.int (p.den : Int)), some (.int q.num), some (.int (q.den : Int)), some (.ref u9), some (.ref u11), some x, some (.int pr.1), some (.int pr.2)], fun T H1 R' e hT r' => ?_, rfl, ?_⟩
      · exact ⟨T, _, rfl, st_of hT, rfl, _, _, rfl, _, _, rfl, u, _, rfl, st_of (e _ _ hu), rfl, _, _, rfl, _, _, rfl, rfl, rfl, r'⟩
      · exact ev_yd (yd_isT (yd_var rfl dx) (yd_low (ev_var rfl) (ev_var rfl) ho) ho.2.2.2)
    have e36 := (((e12.trans e3).trans e4).trans e5).trans e6
    have h6 := h1.up e36
    obtain ⟨x6, k6⟩ := id h6
    have q6 : DNum C q (.ref a2) H6 := .inr ⟨a2, rfl, h2.up e36⟩
    have lk : (rf p).lookup ("over" : Str) = none := rf_no (by decide +kernel) (by decide +kernel)
    refine q_when (b := false) (et_is (et_and (a := !decide (q.num = 0)) (b := false) (et_is (et_test (ev_op (ev_var rfl) ev_c (rv_ne rfl))) (by rw [int_eq_iff])) (fun z => ?_)) (by simp)) (fun z => nomatch z) (fun _ H7 e7 => ?_)
    · have q0 : q.num ≠ 0 := by simpa using z
      refine et_is (et_not (et_yd (yd_isT (q := p * q⁻¹) (yd_meth (ev_var rfl) k6 lk (ya1 (yd_var rfl q6)) (fun vs H8 e8 pv => ?_)) (yd_low (ev_op (ev_var rfl) (ev_var rfl) (rv_I (.inl ⟨by omega, by omega⟩))) (ev_op (ev_var rfl) (ev_var rfl) (rv_I (.inl ⟨by omega, by omega⟩)))
        ⟨Int.mul_ne_zero pe q0, ?_, over_made p q, z19 (by decide) (sp.over sq q0)⟩) (z19 (by decide) (sp.over sq q0))))) rfl
      · obtain ⟨v, rfl, dv⟩ := pv
        exact spD_y fun _ e9 => ⟨a1, p, v, q, rfl, (h6.up e8).up e9, Mn.mono e9 dv, p4, q4, q0, rfl⟩
      · rw [Int.natAbs_mul, Int.natAbs_natCast]
        exact pow_up (prod_lt sp.2 sq.1) (by decide)
    have h7 := h6.up e7
    obtain ⟨x7, k7⟩ := id h7
    have i7 : DNum C (i : Rat) (.int i) H7 := .inl ⟨i, rfl, rfl⟩
    refine s_ret (v := .bl true) (ev_is (ev_orV (a := decide (i = 0)) (b := true) (ev_is (ev_op (ev_var rfl) ev_c (rv_eq rfl)) (by rw [int_eq_iff])) (fun z => ?_)) (by simp)) (fun H8 e8 => k _ H8 ((e36.trans e7).trans e8) rfl)
    have i0 : (i : Rat).num ≠ 0 := by
      rw [Rat.num_intCast]
      simpa using z
    have i0' : i ≠ 0 := by simpa using z
    refine ev_yd (yd_isT (q := p * (i : Rat)⁻¹) (yd_methW (ev_var rfl) k7 lk (ya1 (yd_var rfl i7)) (fun vs H8 e8 pv => ?_)) (yd_low (ev_var rfl) (ev_op (ev_var rfl) (ev_var rfl) (rv_I (.inl ⟨by omega, by omega⟩)))
        ⟨Int.mul_ne_zero pe i0', ?_, ?_, z19 (by decide) (sp.over zi i0)⟩) (z19 (by decide) (sp.over zi i0)))
    · obtain ⟨v, rfl, dv⟩ := pv
      exact ⟨rfl, spD_y fun _ e9 => ⟨a1, p, v, i, rfl, (h7.up e8).up e9, Mn.mono e9 dv, p4, i4, i0, rfl⟩⟩
    · rw [Int.natAbs_mul, Int.natAbs_natCast]
      exact pow_up (n := 20) (prod_lt (n := 10) (m := 10) sp.2 si) (by decide)
    · rw [← over_made, Rat.num_intCast, Rat.den_intCast]
      congr 1
      show _ = _ * ((1 : Nat) : Int)
      omega
end
end PF
/-! This law's judging of one cell. -/
namespace PF
open PySem PySem.Spec PyProof.Rows L2 Evl
theorem len_lt {ts : List Str} {n : Nat} (h : ∀ t ∈ ts, t.length ≤ n) : (listText ts).length ≤ (n + 2) * ts.length + 2 := by
  have go : ∀ (ts : List Str) (k : Nat) (acc : Str), (∀ t ∈ ts, t.length ≤ n) → (textFrom k acc ts).length ≤ acc.length + (n + 2) * ts.length := by
    intro ts
    induction ts with
    | nil => intro k acc _; exact Nat.le_refl _
    | cons t r ih =>
      intro k acc h
      have h1 := ih (k + 1) (acc ++ (if k > 0 then ", " else "" : String) ++ t) fun x hx => h x (List.mem_cons_of_mem _ hx)
      have h2 := h t (List.mem_cons_self ..)
      have e : (acc ++ (if k > 0 then ", " else "" : String) ++ t).length ≤ acc.length + 2 + t.length := by
        rw [Str.length_append, Str.length_append]
        have a1 : ("" : Str).length = 0 := rfl
        have a2 : (", " : Str).length = 2 := rfl
        split <;> omega
      have e2 : (n + 2) * (t :: r).length = (n + 2) * r.length + (n + 2) := by
        rw [List.length_cons, Nat.mul_succ]
      show (textFrom (k + 1) _ r).length ≤ _
      omega
  have h0 := go ts 0 "[" h
  have a1 : ("[" : Str).length = 1 := rfl
  have a2 : ("]" : Str).length = 1 := rfl
  unfold listText
  rw [Str.length_append]
  omega
theorem rpB {O : RO} {H : Hp} {p : Addr} (bs : List Bool) (h : H p = some (.lst (bs.map V.bl))) (l : bs.length ≤ 1000) : Rp O (.ref p) (listText (bs.map tb)) H := by
  refine .inl ⟨.inr (.inl ⟨p, _, _, rfl, h, ?_, rfl⟩), ?_⟩
  · have go : ∀ bs : List Bool, Paired (Sh O H 2) (bs.map V.bl) (bs.map tb) := by
      intro bs
      induction bs with
      | nil => exact .nil
      | cons b r ih => exact .cons (Sh.le (n := 0) (Leaf.bl b) (by decide)) ih
    exact go bs
  · have := len_lt (ts := bs.map tb) (n := 5) fun t ht => by
      obtain ⟨b, _, rfl⟩ := List.mem_map.mp ht
      cases b <;> decide
    rw [List.length_map] at this
    rw [sz_eq]
    omega
section
variable {σ : L2.St} {H : Hp} {ta tb' tc : TE} {tz : TS} {D' : Ends} {Da Db : DV} {Dc : V → Prop} {l : Addr}
theorem q_par3E {i j k : Nat} [Mn Da] [Mn Db] (hp : PotAt l H) (h1 : Yd ta σ H Da) (h2 : Yd tb' σ H Db) (h3 : YdP l tc σ H Dc) (kk : ∀ u v w H1 H2, Ex H H1 → Da u H1 → Db v H1 → Exx l H1 H2 → PotAt l H1 → PotAt l H2 → Dc w → tz D' (((σ.set i (some u)).set j (some v)).set k (some w)) H2) :
    tSeq (tPar3 i j k (tCons ta (tCons tb' (tCons tc tNil)))) tz D' σ H := by
  unfold tSeq tPar3
  refine h1 H (Ex.refl H) _ fun u H1 e1 d1 => h2 H1 e1 _ fun v H2 e2 d2 => h3 H2 (Exx.of (e1.trans e2)) (hp.up (e1.trans e2)) _ fun w H3 e3 p3 d3 => ?_
  exact ⟨u, v, w, rfl, kk u v w H2 H3 (e1.trans e2) (Mn.mono e2 d1) d2 e3 (hp.up (e1.trans e2)) p3 d3⟩
end
theorem pot_ne {l a : Addr} {H : Hp} {o : HO} (hp : PotAt l H) (h : H a = some o) (n : ∀ xs, o ≠ .lst xs) : a ≠ l := fun e => by
  obtain ⟨c, m, h1, _⟩ := hp
  subst e
  rw [h1] at h
  exact n _ (Option.some.inj h).symm
theorem ratAt_x {C l a : Addr} {q : Rat} {H H' : Hp} (h : RatAt C q a H) (hp : PotAt l H) (e : Exx l H H') : RatAt C q a H' := by
  obtain ⟨dx, h⟩ := h
  exact ⟨dx, e _ _ (pot_ne hp h fun _ z => nomatch z) h⟩
theorem tup_x {l a : Addr} {xs : List V} {H H' : Hp} (h : H a = some (.tup xs)) (hp : PotAt l H) (e : Exx l H H') : H' a = some (.tup xs) := e _ _ (pot_ne hp h fun _ z => nomatch z) h
section
variable {K : PySem.W.Frag} {mg : Str → Option Value} {σ : L2.St} {H : Hp} {ta tb' : TE} {C fII a dx : Addr} {p q r : Rat} {E : XK} {m : Str} {g : Rat → Rat → Bool} {t b i : Int}
theorem yd_cmp (ho : Ev ta σ H (.ref a)) (h : RatAt C p a H) (l : (rf p).lookup m = none) (hb : Yd tb' σ H (DNum C q)) (s1 : Sz 4000 p) (s2 : Sz 4000 q) : Yd (tMeth C m (spCmp C g) [] E ta (tCons tb' tNil)) σ H (Is (.bl (g p q))) := by
  obtain ⟨dx, ea⟩ := id h
  refine yd_meth ho ea l (ya1 hb) fun vs H1 e pv => ?_
  obtain ⟨v, rfl, dv⟩ := pv
  exact spD_y fun _ e2 => ⟨a, p, v, q, rfl, (h.up e).up e2, Mn.mono e2 dv, s1, s2, rfl⟩
theorem yd_cmpW (ho : Ev ta σ H (.ref a)) (h : RatAt C p a H) (l : (rf p).lookup m = none) (hb : Yd tb' σ H (DNum C q)) (s1 : Sz 4000 p) (s2 : Sz 4000 q) : Yd (tMethW C m 1 (spCmp C g) id E ta (tCons tb' tNil)) σ H (Is (.bl (g p q))) := by
  obtain ⟨dx, ea⟩ := id h
  refine yd_methW ho ea l (ya1 hb) fun vs H1 e pv => ?_
  obtain ⟨v, rfl, dv⟩ := pv
  exact ⟨rfl, spD_y fun _ e2 => ⟨a, p, v, q, rfl, (h.up e).up e2, Mn.mono e2 dv, s1, s2, rfl⟩⟩
theorem yd_makeK2 (hb : Ev tb' σ H (.int b)) (ht : Ev ta σ H (.int t)) (h0 : b ≠ 0) (hz : b.natAbs < 2 ^ 9000) (e : Rat.divInt t b = q) : Yd (tMakeK C 0 2 (spInit C) (fun vs zs => vs ++ zs.reverse) E tNil (tCons tb' (tCons ta tNil))) σ H (DRat C q) := fun H1 e1 Q k => by
  unfold tMakeK
  refine ea_nil H1 (Ex.refl H1) _ fun H0 e0 => ea_cons hb (ea_cons ht ea_nil) H0 (e1.trans e0) _ fun H2 e2 => ?_
  exact ⟨rfl, rfl, fun x dx hx hdx _ => ⟨H2, x, dx, t, b, rfl, Ex.mut (Ex.new hdx) hx, hx, upd_same, h0, hz, fun H3 e3 z => ⟨rfl, k _ _ ((e0.trans e2).trans e3) ⟨x, rfl, by rw [← e]; exact z⟩⟩⟩⟩
/-- an int == own -/
theorem yd_eqRI (T : RTxt K mg C fII) (ha : Ev ta σ H (.int i)) (hb : Yd tb' σ H (DRat C q)) : Yd (tOp (rEqR C (spEq K C) E) ta tb') σ H (Is (.bl false)) :=
  yd_op (Da := Is (.int i)) (yd_ev ha) hb fun x y H1 e dx dy Q k => by
    have dx' : x = .int i := dx
    subst dx'
    obtain ⟨c, rfl, h⟩ := dy
    obtain ⟨d, ec⟩ := id h
    exact ⟨i, c, d, _, rfl, rfl, ec, _, ⟨c, q, _, rfl, h, .inr ⟨_, .base (.int i), T.kit_in sub_int, rfl⟩⟩, k⟩
theorem el_rep {ta : TE} {xs : List V} {n : Int} (ha : EvL ta σ H xs) (hb : Ev tb' σ H (.int n)) (h1 : -(2 ^ 63) ≤ n) (h2 : n < 2 ^ 63) (hl : xs.length * n.toNat ≤ 100000) : EvL (tOp L2.rRep ta tb') σ H (List.replicate n.toNat xs).flatten := fun H1 e Q q =>
  ha H1 e _ fun u H2 hu e2 g2 => hb H2 (e.trans e2) _ fun H3 e3 => ⟨u, n, xs, rfl, rfl, e3 _ _ g2, h1, h2, sz_of hl, fun r hr => q r _ (fresh_back (e2.trans e3) hr) ((e2.trans e3).trans (Ex.new hr)) upd_same⟩
end
theorem tq_int (i : Int) : Pr2 (i, 1) = TupQ (i : Rat) := by
  unfold TupQ
  rw [Rat.num_intCast, Rat.den_intCast]
  rfl
theorem sum3_made (p q : Rat) (i : Int) : Rat.divInt (p.num * q.den + i * p.den * q.den + q.num * p.den) (p.den * q.den) = ratSum [p, (i : Rat), q] := by
  show _ = 0 + p + (i : Rat) + q
  rw [Rat.zero_add, ← addI_made p i]
  have e := Rat.divInt_add_divInt (p.num + i * p.den) q.num (den_ne p) (den_ne q)
  rw [Rat.num_divInt_den q] at e
  rw [e, Int.add_mul]
section
variable {P : Program} {w : World} {K : PySem.W.Frag} {mg : Str → Option Value} {base : Heap} {C : Addr}
abbrev NRt : List Str := ["_law_pot_here", "_law_pairs", "_law_near", "_law_far", "_law_one", "_law_other", "_law_whole", "_law_gap", "_law_step", "_law_told"]
theorem scRt : FnScope NRt ["_law_pot_here"] (defScope sRight) := ⟨rfl, rfl, rfl, by decide +kernel, rfl, by decide +kernel, by decide +kernel⟩
def spRt : Sp := fun vs H Q _ => ∃ l, vs = [.ref l] ∧ PotAt l H ∧ ∀ H', Exx l H H' → Q (.bl true) H'
/-- keywords' bindings that the law uses -/
structure W11 (K : PySem.W.Frag) (mg : Str → Option Value) (C : Addr) (R : RA K mg C) (B : RB K mg C) where
  wO : KW1 K B.dOver ["self", "other"] ["other"] id id
  wA : KW1 K B.dAtm ["self", "other"] ["other"] id id
  wI : ∃ its : List Value, KBn K R.dIn ["self", "top", "bottom"] 1 ["bottom", "top"] (fun us ws => us ++ ws.reverse) (fun vs zs => vs ++ zs.reverse)
  pTot : Addr
  gTot : Addr
  dTot : FuncData
  tot : TotAt K mg C pTot gTot dTot
  rd : ClX.CRead K C (.type "type")
theorem ok_right (R : RA K mg C) (B : RB K mg C) (L : L11 K mg C) (W : W11 K mg C R B) : FnG P w K mg base CX0 11 L.fRt L.dRt ["_law_pot_here"] spRt := by
  refine bodyG0 L.FRt scRt (fun vs H Q E h => ?_) (fun cdv A outer s H vs Q E hg hr h => ?_)
  · obtain ⟨l, rfl, _⟩ := h
    rfl
  · obtain ⟨l, rfl, hp, k⟩ := h
    have ok := rok C ratRepr
    have nd := scRt.nd
    have T := R.T
    have rep := fun {X : Cx} (g : X.A.guards = some []) (r : Room 8 X.A) (o : OShow X 2 (ROof C ratRepr)) => call_rep (X := X) (m := 2) (n := 3) g r ok o
    have hC : ∀ a x H, ROof C ratStr a x H → ∃ dx fs, H a = some (.ins C dx fs) := fun a x H h => by
      obtain ⟨q, ⟨dx, h⟩, _⟩ := h
      exact ⟨dx, _, h⟩
    obtain ⟨ds, hd, bd⟩ := R.bIn1
    obtain ⟨its, wI⟩ := W.wI
    have r9 := hr.mono (show 9 ≤ 10 by decide)
    have r8 := hr.mono (show 8 ≤ 10 by decide)
    have r7 := hr.mono (show 7 ≤ 10 by decide)
    have r5 := hr.mono (show 5 ≤ 10 by decide)
    have r3 := hr.mono (show 3 ≤ 10 by decide)
    have r2 := hr.mono (show 2 ≤ 10 by decide)
    have r1 := hr.mono (show 1 ≤ 10 by decide)
    refine ⟨_, pss_cons (ps_set (i := 1) nd rfl (.inl rfl) (pe_lst (pa_cons (pe_call (ok_drawn L) r2 rfl L.mDrawn L.FDrawn.kp L.bDrawn .nil pass0 (pa_cons (pv 0) pa_nil)) (pa_cons (pe_call (ok_drawn L) r2 rfl L.mDrawn L.FDrawn.kp L.bDrawn .nil pass0 (pa_cons (pv 0) pa_nil)) pa_nil))))
      (pss_cons (ps_par rfl nd (i := 2) (j := 3) rfl rfl (by decide) rfl rfl
        (pa_cons (pe_call (ok_low L.FLow L.FGcd L.mGcd L.bGcd L.T) r2 rfl L.mLow L.FLow.kp L.bLow .nil pass0 (pa_cons (pe_ix ix_tup (pe_ix ix_list (pv 1) pe_int (fun _ _ => rfl)) pe_int (fun _ _ => rfl)) (pa_cons (pe_ix ix_tup (pe_ix ix_list (pv 1) pe_int (fun _ _ => rfl)) pe_int (fun _ _ => rfl)) pa_nil)))
        (pa_cons (pe_call (ok_low L.FLow L.FGcd L.mGcd L.bGcd L.T) r2 rfl L.mLow L.FLow.kp L.bLow .nil pass0 (pa_cons (pe_ix ix_tup (pe_ix ix_list (pv 1) pe_int (fun _ _ => rfl)) pe_int (fun _ _ => rfl)) (pa_cons (pe_ix ix_tup (pe_ix ix_list (pv 1) pe_int (fun _ _ => rfl)) pe_int (fun _ _ => rfl)) pa_nil))) pa_nil)) (by rfl))
      (pss_cons (ps_par3 rfl nd (i := 4) (j := 5) (l := 6) rfl rfl rfl (by decide) (by decide) (by decide) rfl rfl rfl
        (pa_cons (pe_make R.M R.gIn r3 rfl T.mgC R.bIn .nil pass0 (pa_cons (pe_ix ix_tup (pe_ix ix_list (pv 1) pe_int (fun _ _ => rfl)) pe_int (fun _ _ => rfl)) (pa_cons (pe_ix ix_tup (pe_ix ix_list (pv 1) pe_int (fun _ _ => rfl)) pe_int (fun _ _ => rfl)) pa_nil)))
        (pa_cons (pe_makeK0 R.M R.gIn r3 rfl T.mgC wI pass0 (pk_cons (pe_ix ix_tup (pe_ix ix_list (pv 1) pe_int (fun _ _ => rfl)) pe_int (fun _ _ => rfl)) (pk_cons (pe_ix ix_tup (pe_ix ix_list (pv 1) pe_int (fun _ _ => rfl)) pe_int (fun _ _ => rfl)) pk_nil)))
        (pa_cons (pe_op op_sub (pe_call (ok_draw L.FDraw L.T) r1 rfl L.mDraw L.FDraw.kp L.bDraw .nil pass0 (pa_cons (pv 0) (pa_cons pe_int pa_nil))) pe_int) pa_nil))) (by rfl))
      (pss_cons (ps_if (PW.pt (pw_or (pt_not (pt_val (pe_callG hg (ok_is R L) r9 rfl L.mIs L.FIs.kp L.bIs pass0 (pa_cons (pv 4) (pa_cons (pv 2) pa_nil))))) (pw_or (pt_not (pt_val (pe_callG hg (ok_is R L) r9 rfl L.mIs L.FIs.kp L.bIs pass0 (pa_cons (pv 5) (pa_cons (pv 3) pa_nil)))))
        (pw_or (pt_not (pt_val (pe_callG hg (ok_is R L) r9 rfl L.mIs L.FIs.kp L.bIs pass0 (pa_cons (pe_make R.M R.gIn r3 rfl T.mgC bd hd pass0 (pa_cons (pv 6) pa_nil)) (pa_cons (pe_tup (pa_cons (pv 6) (pa_cons pe_int pa_nil))) pa_nil)))))
        (pw_or1 (pt_not (pt_val (pe_callG hg (ok_sums R B L W.wO) hr rfl L.mSums L.FSums.kp L.bSums pass0 (pa_cons (pv 4) (pa_cons (pv 5) (pa_cons (pv 2) (pa_cons (pv 3) (pa_cons (pv 6) pa_nil))))))))))))) pss_never pss_nil)
      (pss_cons (ps_par rfl nd (i := 7) (j := 8) rfl rfl (by decide) rfl rfl
        (pa_cons (pe_op op_sub (pe_op op_mul (pe_ix ix_tup (pv 2) pe_int (fun _ _ => rfl)) (pe_ix ix_tup (pv 3) pe_int (fun _ _ => rfl))) (pe_op op_mul (pe_ix ix_tup (pv 3) pe_int (fun _ _ => rfl)) (pe_ix ix_tup (pv 2) pe_int (fun _ _ => rfl))))
        (pa_cons (pe_op op_sub (pe_ix ix_tup (pv 2) pe_int (fun _ _ => rfl)) (pe_op op_mul (pv 6) (pe_ix ix_tup (pv 2) pe_int (fun _ _ => rfl)))) pa_nil)) (by rfl))
      (pss_cons (ps_set (i := 9) nd rfl (.inl rfl) (pe_lst (pa_cons (pe_meth (pv 4) T.own.cl B.MBel.m (ok_bel R B) r5 B.MBel.b .nil pass0 (pa_cons (pv 5) pa_nil)) (pa_cons (pe_methW (pv 4) T.own.cl B.MAtm.m (ok_atm R B) r5 W.wA pass0 (pk_cons (pv 5) pk_nil))
        (pa_cons (pe_meth (pv 4) T.own.cl B.MBel.m (ok_bel R B) r5 B.MBel.b .nil pass0 (pa_cons (pv 6) pa_nil)) (pa_cons (pe_meth (pv 4) T.own.cl B.MAtm.m (ok_atm R B) r5 B.MAtm.b .nil pass0 (pa_cons (pv 6) pa_nil))
        (pa_cons (pe_cmpR (op_eqO R.MEq.m R.gEq r1 R.MEq.b pass0) (pv 4) (pv 5) (nomark _)) (pa_cons (pe_cmpR (op_neO T.own R.MEq.m R.gEq r2 R.MEq.b pass0) (pv 4) (pv 5) (nomark _)) (pa_cons (pe_cmpR (op_eqO R.MEq.m R.gEq r1 R.MEq.b pass0) (pv 4) (pv 4) (nomark _)) pa_nil)))))))))
      (pss_cons (ps_if (pt_cmpR op_ne (pe_callB (rep hg r8 (oshow R rfl rfl rfl rfl rfl)) (by rfl) L.repr (by rfl) (pa_cons (pv 9) pa_nil)) (pe_callB (rep hg r8 (oshow R rfl rfl rfl rfl rfl)) (by rfl) L.repr (by rfl) (pa_cons (pe_lst (pa_cons (pe_cmpR op_lt (pv 7) pe_int (nomark _)) (pa_cons (pe_cmpR op_le (pv 7) pe_int (nomark _)) (pa_cons (pe_cmpR op_lt (pv 8) pe_int (nomark _)) (pa_cons (pe_cmpR op_le (pv 8) pe_int (nomark _))
        (pa_cons (pe_cmpR op_eq (pv 7) pe_int (nomark _)) (pa_cons (pe_cmpR op_ne (pv 7) pe_int (nomark _)) (pa_cons pe_bl pa_nil)))))))) pa_nil)) (nomark _)) pss_never pss_nil)
      (pss_cons (ps_if (pt_cmpR (op_neD hr.units) (pe_lst (pa_cons (pe_cmpR (op_eqO R.MEq.m R.gEq r1 R.MEq.b pass0) (pe_make R.M R.gIn r3 rfl T.mgC bd hd pass0 (pa_cons (pv 6) pa_nil)) (pv 6) (nomark _)) (pa_cons (pe_cmpR (op_eqR T.own R.MEq.m R.gEq r1 R.MEq.b pass0) (pv 6) (pe_make R.M R.gIn r3 rfl T.mgC bd hd pass0 (pa_cons (pv 6) pa_nil)) (nomark _))
        (pa_cons (pe_cmpR (op_eqO R.MEq.m R.gEq r1 R.MEq.b pass0) (pv 4) pe_non (nomark _)) (pa_cons (pe_cmpR (op_eqO R.MEq.m R.gEq r1 R.MEq.b pass0) (pv 4) (pe_callTy (call_strO R.MStr.m R.gStr r3 R.MStr.b pass0 hC) rfl R.mStr (by rfl) (pa_cons (pv 4) pa_nil)) (nomark _))
        (pa_cons (pe_cmpR (op_eqO R.MEq.m R.gEq r1 R.MEq.b pass0) (pv 4) (pe_tup (pa_cons (pe_prop (pv 4) T.own.cl R.PT.p R.gTop r2 R.PT.b .nil pass0 rfl) (pa_cons (pe_prop (pv 4) T.own.cl R.PB.p R.gBot r2 R.PB.b .nil pass0 rfl) pa_nil))) (nomark _)) pa_nil)))))) (pe_op op_rep (pe_lst (pa_cons pe_bl pa_nil)) pe_int) (nomark _)) pss_never pss_nil)
      (pss_cons (ps_if (pt_not (pt_val (pe_callG hg (ok_is R L) r9 rfl L.mIs L.FIs.kp L.bIs pass0 (pa_cons (ClX.pe_cmeth (pe_glob (v := .ref C) rfl T.mgC rfl) W.rd W.tot.c (toR (ok_tot R W.tot) W.tot.b) r7 pass0 (pa_cons (pe_lst (pa_cons (pv 4) (pa_cons (pv 6) (pa_cons (pv 5) pa_nil)))) pa_nil))
        (pa_cons (pe_call (ok_low L.FLow L.FGcd L.mGcd L.bGcd L.T) r2 rfl L.mLow L.FLow.kp L.bLow .nil pass0 (pa_cons (pe_op op_add (pe_op op_add (pe_op op_mul (pe_ix ix_tup (pv 2) pe_int (fun _ _ => rfl)) (pe_ix ix_tup (pv 3) pe_int (fun _ _ => rfl))) (pe_op op_mul (pe_op op_mul (pv 6) (pe_ix ix_tup (pv 2) pe_int (fun _ _ => rfl))) (pe_ix ix_tup (pv 3) pe_int (fun _ _ => rfl))))
          (pe_op op_mul (pe_ix ix_tup (pv 3) pe_int (fun _ _ => rfl)) (pe_ix ix_tup (pv 2) pe_int (fun _ _ => rfl)))) (pa_cons (pe_op op_mul (pe_ix ix_tup (pv 2) pe_int (fun _ _ => rfl)) (pe_ix ix_tup (pv 3) pe_int (fun _ _ => rfl))) pa_nil))) pa_nil))))) pss_never pss_nil)
      (pss_one (ps_ret (pe_and (pe_callG hg (ok_is R L) r9 rfl L.mIs L.FIs.kp L.bIs pass0 (pa_cons (pe_cmethW (pe_glob (v := .ref C) rfl T.mgC rfl) W.rd W.tot.c (ok_tot R W.tot) r7 W.tot.w pass0 (pk_cons (pe_tup pa_nil) pk_nil)) (pa_cons (pe_tup (pa_cons pe_int (pa_cons pe_int pa_nil))) pa_nil)))
        (pe_and (pe_callG hg (ok_is R L) r9 rfl L.mIs L.FIs.kp L.bIs pass0 (pa_cons (pv 4) (pa_cons (pv 2) pa_nil))) (pe_one (pe_callG hg (ok_is R L) r9 rfl L.mIs L.FIs.kp L.bIs pass0 (pa_cons (pv 5) (pa_cons (pv 3) pa_nil)))))))))))))))), ?_⟩
    refine ⟨_, rfl, l, rfl, hp, fun u1 t1 b1 H1 e1 p1 g1 a1 a2 a3 a4 a5 => ?_⟩
    refine ⟨_, rfl, l, rfl, p1, fun u2 t2 b2 H2 e2 p2 g2 c1 c2 c3 c4 c5 => ?_⟩
    refine ⟨by show 2 ≤ sizeLine; decide, fun lp hlp => ?_⟩
    have g1' := tup_x g1 p1 e2
    have f1 : upd H2 lp (.lst [.ref u1, .ref u2]) u1 = some (.tup [.int t1, .int b1]) := Ex.new hlp _ _ g1'
    have f2 : upd H2 lp (.lst [.ref u1, .ref u2]) u2 = some (.tup [.int t2, .int b2]) := Ex.new hlp _ _ g2
    have f3 : upd H2 lp (.lst [.ref u1, .ref u2]) lp = some (.lst [.ref u1, .ref u2]) := upd_same
    have fp : PotAt l (upd H2 lp (.lst [.ref u1, .ref u2])) := p2.up (Ex.new hlp)
    have fe : Exx l H (upd H2 lp (.lst [.ref u1, .ref u2])) := (e1.trans e2).trans (Exx.of (Ex.new hlp))
    refine (show tSeq _ _ _ [some (.ref l), some (.ref lp), none, none, none, none, none, none, none, none] (upd H2 lp (.lst [.ref u1, .ref u2])) from ?_)
    generalize upd H2 lp (.lst [.ref u1, .ref u2]) = H3 at f1 f2 f3 fp fe ⊢
    clear g1' hlp g2 p2 e2 g1 p1 e1
    have oz : ∀ {t b : Int}, -1000 ≤ t → t ≤ 1000 → b ≠ 0 → -12 ≤ b → b ≤ 12 → Sz 10 (Rat.divInt t b) ∧ b.natAbs < 2 ^ 9000 := fun {t b} x1 x2 x3 x4 x5 =>
      ⟨⟨Nat.lt_of_le_of_lt (divInt_num_le _ _) (by show t.natAbs < 1024; omega), Nat.lt_of_le_of_lt (divInt_den_le _ _ x3) (by show b.natAbs < 1024; omega)⟩, pow_up (n := 10) (by show b.natAbs < 1024; omega) (by omega)⟩
    obtain ⟨zp, zb⟩ := oz a1 a2 a3 a4 a5
    obtain ⟨zq, zc⟩ := oz c1 c2 c3 c4 c5
    have z19 : ∀ {r : Rat} {n : Nat}, n ≤ 1900 → Sz n r → Sz 1900 r := fun l h => h.le l
    have i00 : ∀ {σ : L2.St} {H4 : Hp}, Ex H3 H4 → σ[1]? = some (some (.ref lp)) → Ev (tOp (rIxT K) (tOp (rIxL K) (tVar 1) (tC (.int 0))) (tC (.int 0))) σ H4 (.int t1) := fun e h => ev_op (ev_op (ev_var h) ev_c (rv_ixL (sq_of (e _ _ f3)) (atI_nat (j := 0) rfl))) ev_c (rv_ixT (st_of (e _ _ f1)) (atI_nat (j := 0) rfl))
    have i01 : ∀ {σ : L2.St} {H4 : Hp}, Ex H3 H4 → σ[1]? = some (some (.ref lp)) → Ev (tOp (rIxT K) (tOp (rIxL K) (tVar 1) (tC (.int 0))) (tC (.int 1))) σ H4 (.int b1) := fun e h => ev_op (ev_op (ev_var h) ev_c (rv_ixL (sq_of (e _ _ f3)) (atI_nat (j := 0) rfl))) ev_c (rv_ixT (st_of (e _ _ f1)) (atI_nat (j := 1) rfl))
    have i10 : ∀ {σ : L2.St} {H4 : Hp}, Ex H3 H4 → σ[1]? = some (some (.ref lp)) → Ev (tOp (rIxT K) (tOp (rIxL K) (tVar 1) (tC (.int 1))) (tC (.int 0))) σ H4 (.int t2) := fun e h => ev_op (ev_op (ev_var h) ev_c (rv_ixL (sq_of (e _ _ f3)) (atI_nat (j := 1) rfl))) ev_c (rv_ixT (st_of (e _ _ f2)) (atI_nat (j := 0) rfl))
    have i11 : ∀ {σ : L2.St} {H4 : Hp}, Ex H3 H4 → σ[1]? = some (some (.ref lp)) → Ev (tOp (rIxT K) (tOp (rIxL K) (tVar 1) (tC (.int 1))) (tC (.int 1))) σ H4 (.int b2) := fun e h => ev_op (ev_op (ev_var h) ev_c (rv_ixL (sq_of (e _ _ f3)) (atI_nat (j := 1) rfl))) ev_c (rv_ixT (st_of (e _ _ f2)) (atI_nat (j := 1) rfl))
    refine q_par (Da := TupQ (Rat.divInt t1 b1)) (Db := TupQ (Rat.divInt t2 b2)) (yd_low (i00 (Ex.refl _) rfl) (i01 (Ex.refl _) rfl) ⟨a3, zb, rfl, z19 (by decide) zp⟩) (yd_low (i10 (Ex.refl _) rfl) (i11 (Ex.refl _) rfl) ⟨c3, zc, rfl, z19 (by decide) zq⟩) (fun nv fv H4 e4 dn df => ?_)
    refine q_par3E (Da := DRat C (Rat.divInt t1 b1)) (Db := DRat C (Rat.divInt t2 b2)) (Dc := Btw (-6) 6) (fp.up e4) (yd_mk2 (i00 e4 rfl) (i01 e4 rfl) a3 zb rfl) (yd_makeK2 (i11 e4 rfl) (i10 e4 rfl) c3 zc rfl) (ydp_sub (ydp_draw rfl (by decide) (by decide)) (by decide) (by decide)) (fun v1 v2 v3 H5 H6 e5 d1 d2 e6 p5 p6 d3 => ?_)
    obtain ⟨m1, rfl, r1⟩ := d1
    obtain ⟨m2, rfl, r2'⟩ := d2
    obtain ⟨i, rfl, x1, x2⟩ := d3
    obtain ⟨m3, rfl, h3⟩ := dn
    obtain ⟨m4, rfl, h4⟩ := df
    have h1 := ratAt_x r1 p5 e6
    have h2 := ratAt_x r2' p5 e6
    have h3' := tup_x (e5 _ _ h3) p5 e6
    have h4' := tup_x (e5 _ _ h4) p5 e6
    have k1 : ∀ H', Ex H6 H' → Q (.bl true) H' := fun H' e => k H' ((((fe.trans (Exx.of e4)).trans (Exx.of e5)).trans e6).trans (Exx.of e))
    clear k fe fp f1 f2 f3 i00 i01 i10 i11 r1 r2' h3 h4 e4 e5 e6 p5 p6 hp oz zb zc
    generalize Rat.divInt t1 b1 = p at h1 h3' zp
    generalize Rat.divInt t2 b2 = q at h2 h4' zq
    have pn : p.num.natAbs < 1024 := zp.1
    have pd : p.den < 1024 := zp.2
    have qn : q.num.natAbs < 1024 := zq.1
    have qd : q.den < 1024 := zq.2
    have zi : Sz 10 (i : Rat) := sz_int (by decide) (show i.natAbs < 1024 by omega)
    have p4 := zp.le (show 10 ≤ 4000 by decide)
    have q4 := zq.le (show 10 ≤ 4000 by decide)
    have i4 := zi.le (show 10 ≤ 4000 by decide)
    have p19 := z19 (by decide) zp
    have q19 := z19 (by decide) zq
    have dP : ∀ {H7 : Hp}, Ex H6 H7 → DRat C p (.ref m1) H7 := fun e => ⟨m1, rfl, h1.up e⟩
    have dQ : ∀ {H7 : Hp}, Ex H6 H7 → DRat C q (.ref m2) H7 := fun e => ⟨m2, rfl, h2.up e⟩
    have dI : ∀ {H7 : Hp}, DNum C (i : Rat) (.int i) H7 := .inl ⟨i, rfl, rfl⟩
    have tP : ∀ {H7 : Hp}, Ex H6 H7 → TupQ p (.ref m3) H7 := fun e => ⟨m3, rfl, e _ _ h3'⟩
    have tQ : ∀ {H7 : Hp}, Ex H6 H7 → TupQ q (.ref m4) H7 := fun e => ⟨m4, rfl, e _ _ h4'⟩
    refine q_when (b := false) (et_is (et_or (a := false) (b := false) (et_is (et_not (et_yd (yd_isT (yd_var rfl (dP (Ex.refl _))) (yd_var rfl (tP (Ex.refl _))) p19))) rfl) (fun _ => et_is (et_or (a := false) (b := false) (et_is (et_not (et_yd (yd_isT (yd_var rfl (dQ (Ex.refl _))) (yd_var rfl (tQ (Ex.refl _))) q19))) rfl)
      (fun _ => et_is (et_or (a := false) (b := false) (et_is (et_not (et_yd (yd_isT (q := (i : Rat)) (yd_mk1 (ev_var rfl)) (Yd.imp (yd_pr (ev_var rfl) ev_c) (fun v H7 _ d => by rw [← tq_int]; exact d)) (z19 (by decide) zi)))) rfl)
      (fun _ => et_is (et_not (et_yd (b := true) (yd_call (D := Is (.bl true)) (ya_cons (yd_var rfl (dP (Ex.refl _))) (ya_cons (yd_var rfl (dQ (Ex.refl _))) (ya_cons (yd_var rfl (tP (Ex.refl _))) (ya_cons (yd_var rfl (tQ (Ex.refl _))) (ya1 (D := Is (.int i)) (yd_ev (ev_var rfl))))))) (fun vs H7 _ pv => ?_)))) rfl)) rfl)) rfl)) rfl) (fun z => nomatch z) (fun _ H7 e7 => ?_)
    · obtain ⟨w1, y1, rfl, g1, w2, y2, rfl, g2, w3, y3, rfl, g3, w4, y4, rfl, g4, w5, rfl, (rfl : w5 = .int i)⟩ := pv
      exact spD_y fun _ e8 => ⟨w1, w2, w3, w4, p, q, i, rfl, Mn.mono e8 g1, Mn.mono e8 g2, Mn.mono e8 g3, Mn.mono e8 g4, zp, zq, by omega, rfl⟩
    have n0 : ∀ {σ : L2.St} {H8 : Hp}, Ex H6 H8 → σ[2]? = some (some (.ref m3)) → Ev (tOp (rIxT K) (tVar 2) (tC (.int 0))) σ H8 (.int p.num) := fun e h => ev_op (ev_var h) ev_c (rv_ixT (st_of (e _ _ h3')) (atI_nat (j := 0) rfl))
    have n1 : ∀ {σ : L2.St} {H8 : Hp}, Ex H6 H8 → σ[2]? = some (some (.ref m3)) → Ev (tOp (rIxT K) (tVar 2) (tC (.int 1))) σ H8 (.int (p.den : Int)) := fun e h => ev_op (ev_var h) ev_c (rv_ixT (st_of (e _ _ h3')) (atI_nat (j := 1) rfl))
    have f0 : ∀ {σ : L2.St} {H8 : Hp}, Ex H6 H8 → σ[3]? = some (some (.ref m4)) → Ev (tOp (rIxT K) (tVar 3) (tC (.int 0))) σ H8 (.int q.num) := fun e h => ev_op (ev_var h) ev_c (rv_ixT (st_of (e _ _ h4')) (atI_nat (j := 0) rfl))
    have f1 : ∀ {σ : L2.St} {H8 : Hp}, Ex H6 H8 → σ[3]? = some (some (.ref m4)) → Ev (tOp (rIxT K) (tVar 3) (tC (.int 1))) σ H8 (.int (q.den : Int)) := fun e h => ev_op (ev_var h) ev_c (rv_ixT (st_of (e _ _ h4')) (atI_nat (j := 1) rfl))
    refine q_par (Da := Is (.int (p.num * q.den - q.num * p.den))) (Db := Is (.int (p.num - i * p.den))) (yd_ev (ev_op (ev_op (n0 e7 rfl) (f1 e7 rfl) (rv_I (.inl ⟨by omega, by omega⟩))) (ev_op (f0 e7 rfl) (n1 e7 rfl) (rv_I (.inl ⟨by omega, by omega⟩))) rv_I0))
      (yd_ev (ev_op (n0 e7 rfl) (ev_op (ev_var rfl) (n1 e7 rfl) (rv_I (.inl ⟨by omega, by omega⟩))) rv_I0)) (fun v1 v2 H8 e8 g1 g2 => ?_)
    have g1' : v1 = .int (p.num * q.den - q.num * p.den) := g1
    have g2' : v2 = .int (p.num - i * p.den) := g2
    subst g1' g2'
    have e68 := e7.trans e8
    have lb : (rf p).lookup ("is_below" : Str) = none := rf_no (by decide +kernel) (by decide +kernel)
    have la : (rf p).lookup ("is_at_most" : Str) = none := rf_no (by decide +kernel) (by decide +kernel)
    have h8 := h1.up e68
    have c1 : decide (p.num * q.den - q.num * p.den < 0) = decide (p.num * q.den < q.num * p.den) := decide_eq_decide.mpr (by omega)
    have c2 : decide (p.num * q.den - q.num * p.den ≤ 0) = decide (p.num * q.den ≤ q.num * p.den) := decide_eq_decide.mpr (by omega)
    have c3 : decide (p.num - i * p.den < 0) = decide (p.num * ((i : Rat).den : Int) < (i : Rat).num * p.den) := decide_eq_decide.mpr (by
      rw [Rat.num_intCast, Rat.den_intCast]
      omega)
    have c4 : decide (p.num - i * p.den ≤ 0) = decide (p.num * ((i : Rat).den : Int) ≤ (i : Rat).num * p.den) := decide_eq_decide.mpr (by
      rw [Rat.num_intCast, Rat.den_intCast]
      omega)
    have c5 : decide (p.num * q.den - q.num * p.den = 0) = decide (p = q) := decide_eq_decide.mpr (by
      rw [Rat.eq_iff_mul_eq_mul]
      omega)
    refine q_asgL (xs := [decide (p.num * q.den < q.num * p.den), decide (p.num * q.den ≤ q.num * p.den), decide (p.num * ((i : Rat).den : Int) < (i : Rat).num * p.den), decide (p.num * ((i : Rat).den : Int) ≤ (i : Rat).num * p.den), decide (p = q), !decide (p = q), true].map V.bl)
      (el_lst (ea_cons (ev_yd (yd_cmp (g := fun p q => decide (p.num * q.den < q.num * p.den)) (ev_var rfl) h8 lb (yd_num (yd_var rfl (dQ e68))) p4 q4)) (ea_cons (ev_yd (yd_cmpW (g := fun p q => decide (p.num * q.den ≤ q.num * p.den)) (ev_var rfl) h8 la (yd_num (yd_var rfl (dQ e68))) p4 q4))
        (ea_cons (ev_yd (yd_cmp (g := fun p q => decide (p.num * q.den < q.num * p.den)) (ev_var rfl) h8 lb (yd_var rfl dI) p4 i4)) (ea_cons (ev_yd (yd_cmp (g := fun p q => decide (p.num * q.den ≤ q.num * p.den)) (ev_var rfl) h8 la (yd_var rfl dI) p4 i4))
        (ea_cons (ev_yd (yd_eq T (yd_var rfl (dP e68)) (yd_var rfl (dQ e68)))) (ea_cons (ev_yd (yd_ne T (yd_var rfl (dP e68)) (yd_var rfl (dQ e68)))) (ea_cons (ev_is (ev_yd (yd_eq T (yd_var rfl (dP e68)) (yd_var rfl (dP e68)))) (by simp)) ea_nil))))))) (by show 7 ≤ 100000; decide)) (fun u9 H9 _ e9 g9 => ?_)
    have e69 := e68.trans e9
    refine q_when (b := false) (et_is (et_test (ev_op (ev_rep ok (ev_var rfl) (rpB _ g9 (by show 7 ≤ 1000; decide))) (ev_repL ok (xs := [decide (p.num * q.den < q.num * p.den), decide (p.num * q.den ≤ q.num * p.den), decide (p.num * ((i : Rat).den : Int) < (i : Rat).num * p.den), decide (p.num * ((i : Rat).den : Int) ≤ (i : Rat).num * p.den), decide (p = q), !decide (p = q), true].map V.bl)
      (el_lst (ea_cons (ev_is (ev_op (ev_var rfl) ev_c rv_I0) (by rw [c1])) (ea_cons (ev_is (ev_op (ev_var rfl) ev_c rv_I0) (by rw [c2])) (ea_cons (ev_is (ev_op (ev_var rfl) ev_c rv_I0) (by rw [c3])) (ea_cons (ev_is (ev_op (ev_var rfl) ev_c rv_I0) (by rw [c4]))
        (ea_cons (ev_is (ev_op (ev_var rfl) ev_c (rv_eq rfl)) (by rw [int_eq_iff, c5])) (ea_cons (ev_is (ev_op (ev_var rfl) ev_c (rv_ne rfl)) (by rw [int_eq_iff, c5])) (ea_cons ev_c ea_nil))))))) (by show 7 ≤ 100000; decide)) (fun u10 H10 _ g10 => rpB _ g10 (by show 7 ≤ 1000; decide))) (rv_ne rfl))) (by simp)) (fun z => nomatch z) (fun _ H10 e10 => ?_)
    have e610 := e69.trans e10
    have dpAll : ∀ {H : Hp}, DpAll K H [V.bl false, V.bl false, V.bl false, V.bl false, V.bl false] [.bool false, .bool false, .bool false, .bool false, .bool false] := .cons (.bl _) (.cons (.bl _) (.cons (.bl _) (.cons (.bl _) (.cons (.bl _) .nil))))
    refine q_when (b := false) (et_is (et_test (ev_opLL (z := .bl false) (xs := [.bl false, .bl false, .bl false, .bl false, .bl false]) (ys := (List.replicate (5 : Int).toNat [V.bl false]).flatten) (el_lst (ea_cons (ev_yd (yd_eqB (D := Is (.int i)) sub_int T (yd_mk1 (ev_var rfl)) (yd_ev (ev_var rfl)) (fun v H1 d => by
            have d' : v = .int i := d
            subst d'
            exact .base (.int i)))) (ea_cons (ev_yd (yd_eqRI T (ev_var rfl) (yd_mk1 (ev_var rfl))))
        (ea_cons (ev_yd (yd_eqB (D := Is .non) sub_none T (yd_var rfl (dP e610)) (yd_ev ev_c) (fun v H1 d => by
            have d' : v = .non := d
            subst d'
            exact .base .non))) (ea_cons (ev_yd (yd_eqB (D := Is (.str (ratStr p))) sub_str T (yd_var rfl (dP e610)) (yd_ev (ev_strO (ev_var rfl) (h1.up e610) p19)) (fun v H1 d => by
            have d' : v = .str (ratStr p) := d
            subst d'
            exact .base (.str _))))
        (ea_cons (ev_yd (yd_eqB (D := Pr2 (p.num, (p.den : Int))) sub_tuple T (yd_var rfl (dP e610)) (yd_pr (SpOfR.ev (ev_var rfl) (h1.up e610)) (SpOfR.ev (ev_var rfl) (h1.up e610))) (fun v H1 d => by
            obtain ⟨u, rfl, hu⟩ := d
            exact .base (.tup hu)))) ea_nil))))) (by show 5 ≤ 100000; decide)) (el_rep (el_lst (ea_cons ev_c ea_nil) (by show 1 ≤ 100000; decide)) ev_c (by decide) (by decide) (by show 1 * 5 ≤ 100000; decide))
      (fun a b H11 ga gb e11 => fun H12 e12 Q q => ⟨.list [.bool false, .bool false, .bool false, .bool false, .bool false], .list [.bool false, .bool false, .bool false, .bool false, .bool false], .lst (sq_of (e12 _ _ ga)) dpAll, .lst (sq_of (e12 _ _ gb)) dpAll, by decide +kernel, by decide +kernel, q H12 (Ex.refl H12)⟩))) rfl) (fun z => nomatch z) (fun _ H11 e11 => ?_)
    have e611 := e610.trans e11
    have dz : ((p.den : Int) * (q.den : Int)).natAbs < 2 ^ 9000 := dens_small p4 q4
    have s0 : Sz 10 (0 : Rat) := ⟨by decide, by decide⟩
    have s1 := s0.add zp
    have s2 := s1.add zi
    have s3 := s2.add zq
    have ov3 : OverIs (ratSum [p, (i : Rat), q]) (p.num * q.den + i * p.den * q.den + q.num * p.den, (p.den : Int) * q.den) := ⟨dens_ne p q, dz, sum3_made p q i, s3.le (by decide)⟩
    have n4000 : ∀ {r : Rat} {n : Nat}, n ≤ 4000 → Sz n r → Sz 4000 r := fun l h => h.le l
    refine q_when (b := false) (et_is (et_not (a := true) (et_yd (yd_isT (q := ratSum [p, (i : Rat), q]) (yd_cmeth ev_c (ya1 (D := LstD (DNum C) [p, (i : Rat), q]) (yd_lstD (yaL_cons (yd_num (yd_var rfl (dP e611))) (yaL_cons (yd_var rfl dI) (yaL_cons (yd_num (yd_var rfl (dQ e611))) yaL_nil))) (by show 3 ≤ 100000; decide))) (fun vs H12 e12 pv => ?_))
      (yd_low (ev_op (ev_op (ev_op (n0 e611 rfl) (f1 e611 rfl) (rv_I (.inl ⟨by omega, by omega⟩))) (ev_op (ev_op (ev_var rfl) (n1 e611 rfl) (rv_I (.inl ⟨by omega, by omega⟩))) (f1 e611 rfl) (rv_I (.inr ⟨by omega, by omega⟩))) rv_I0) (ev_op (f0 e611 rfl) (n1 e611 rfl) (rv_I (.inl ⟨by omega, by omega⟩))) rv_I0) (ev_op (n1 e611 rfl) (f1 e611 rfl) (rv_I (.inl ⟨by omega, by omega⟩))) ov3) (s3.le (by decide))))) rfl) (fun z => nomatch z) (fun _ H12 e12 => ?_)
    · obtain ⟨v, rfl, u, xs, rfl, hu, dl⟩ := pv
      refine spD_y fun _ e13 => ⟨u, xs, [p, (i : Rat), q], rfl, .inl (e13 _ _ hu), dl.up e13, by rw [dl.len]; show 3 ≤ 1000; decide, fun r hr => ?_, fun j hj => ?_, rfl⟩
      · rcases List.mem_cons.mp hr with rfl | hr
        · exact p4
        · rcases List.mem_cons.mp hr with rfl | hr
          · exact i4
          · rcases List.mem_cons.mp hr with rfl | hr
            · exact q4
            · cases hr
      · have hj' : j ≤ 3 := hj
        rcases (show j = 0 ∨ j = 1 ∨ j = 2 ∨ j = 3 by omega) with rfl | rfl | rfl | rfl
        · exact n4000 (by decide) s0
        · exact n4000 (by decide) s1
        · exact n4000 (by decide) s2
        · exact n4000 (by decide) s3
    have e612 := e611.trans e12
    refine s_ret (v := .bl true) (ev_is (ev_andV (a := true) (b := true) (ev_yd (yd_isT (q := ratSum []) (yd_cmethW ev_c (ya1 (D := TupOf []) (yd_u (eu_tup ea_nil (by decide)) fun u H13 _ h => ⟨u, rfl, h⟩)) (fun vs H13 e13 pv => ?_)) (yd_pr ev_c ev_c) ⟨by decide, by decide⟩))
      (fun _ => ev_is (ev_andV (a := true) (b := true) (ev_yd (yd_isT (yd_var rfl (dP e612)) (yd_var rfl (tP e612)) p19)) (fun _ => ev_yd (yd_isT (yd_var rfl (dQ e612)) (yd_var rfl (tQ e612)) q19))) rfl)) rfl) (fun H13 e13 => k1 _ (e612.trans e13))
    obtain ⟨v, rfl, u, rfl, hu⟩ := pv
    refine ⟨rfl, spD_y fun _ e14 => ⟨u, [], [], rfl, .inr (e14 _ _ hu), .nil, by decide, fun r hr => (nomatch hr), fun j hj => ?_, rfl⟩⟩
    rw [List.take_nil]
    exact n4000 (by decide) s0
end
end PF
/-! The law k11: its def. -/
namespace PF
open PySem PySem.Spec PyProof.Rows L2 Evl
section
variable {P : Program} {w : World} {K : PySem.W.Frag} {mg : Str → Option Value} {base : Heap} {C : Addr}
def spLaw (K : PySem.W.Frag) : Sp := fun vs H Q _ => ∃ (a : Addr) (ns : List Int), vs = [.ref a] ∧ SqL K H a (ns.map V.int) ∧ ns.length ≤ 63 ∧ ∀ H', Q (.bl true) H'
abbrev NLaw : List Str := ["_law_script", "_law_k"]
theorem scLaw : FnScope NLaw ["_law_script"] (defScope sLaw) := ⟨rfl, rfl, rfl, by decide +kernel, rfl, by decide +kernel, by decide +kernel⟩
theorem ok_law (R : RA K mg C) (B : RB K mg C) (L : L11 K mg C) (W : W11 K mg C R B) (mr : mg "range" = none) (mn : mg "min" = none) {f : Addr} {fd : FuncData} (F : Fun K "law" "law" sLaw f fd) : FnG P w K mg base CX0 12 f fd ["_law_script"] (spLaw K) := by
  refine bodyG0 F scLaw (fun vs H Q E h => ?_) (fun cdv A outer s H vs Q E hg hr h => ?_)
  · obtain ⟨a, ns, rfl, _⟩ := h
    rfl
  · obtain ⟨a, ns, rfl, hS, _, k⟩ := h
    have nd := scLaw.nd
    refine ⟨_, pss_one (ps_ret (pe_callB (cr_all rfl) (by rfl) L.all (by rfl) (pa_cons (pe_lc (own := [("_law_k", 1)]) (g := gName 1) (tt := tYes) rfl nd
      (pi_range1 (by rfl) mr (pa_cons (pe_callB (call_max2 rfl) (by rfl) L.T.max (by rfl) (pa_cons pe_int (pa_cons (pe_callB (call_min2 rfl) (by rfl) mn (by rfl) (pa_cons pe_int (pa_cons (pe_callB call_len_seq (by rfl) L.T.len PySem.boot_len (pa_cons (pv 0) pa_nil)) pa_nil))) pa_nil))) pa_nil))
      (blkOk_by (N := NLaw) (sc := defScope sLaw) (by decide +kernel)) (fun _ _ _ _ _ => pg_name (i := 1) nd rfl (Or.inl rfl)) (fun _ _ _ _ _ => pts_nil)
      (fun _ _ _ _ _ => pe_callG hg (ok_right R B L W) hr rfl L.mRt L.FRt.kp L.bRt pass0 (pa_cons (pe_call (ok_pot L.FPot L.T) (hr.mono (by decide)) rfl L.mPot L.FPot.kp L.bPot .nil pass0 (pa_cons (pv 0) (pa_cons (pv 1) pa_nil))) pa_nil))) pa_nil))), ?_⟩
    let m : Int := if ((ns.map V.int).length : Int) < 3 then ((ns.map V.int).length : Int) else 3
    let n : Int := if m > 1 then m else 1
    have hn : 0 ≤ n ∧ n ≤ 3 := by
      show 0 ≤ (if m > 1 then m else 1) ∧ (if m > 1 then m else 1) ≤ 3
      have hm : m ≤ 3 := by
        show (if ((ns.map V.int).length : Int) < 3 then ((ns.map V.int).length : Int) else 3) ≤ 3
        split <;> omega
      split <;> omega
    refine s_ret (v := .bl true) (ev_allT (n := n.toNat) (el_lcR1 (n := n) (j := 1) (fun _ => true) (fun _ => .bl true) (ea_cons (ev_cb (ea_cons ev_c (ea_cons (ev_cb (ea_cons ev_c (ea_cons (ev_len (ev_var rfl) hS) ea_nil)) (z := .int m) (fun H1 _ Q q => ⟨_, _, rfl, q H1 (Ex.refl H1)⟩)) ea_nil)) (z := .int n) (fun H1 _ Q q => ⟨_, _, rfl, q H1 (Ex.refl H1)⟩)) ea_nil)
      ⟨hn.1, by omega⟩ (fun _ => rfl) (fun _ _ _ _ => fun H e Q q => q H (Ex.refl H)) (fun i H1 e1 hi _ => ?_))) (fun H1 _ => k H1)
    intro H2 e2 Q' q'
    refine ⟨_, rfl, _, rfl, a, (i : Int), ns, rfl, ex_l (e1.trans e2) hS, by omega, by omega, fun l H3 hl e3 hp => ⟨l, rfl, hp, fun H4 e4 => q' H4 fun b o h => e4 b o (fun z => ?_) (e3 b o h)⟩⟩
    subst z
    rw [hl] at h
    cases h
theorem kw1_of {x qual : Str} {st : Stmt} {f : Addr} {fd : FuncData} {ps ks : List Str} {g : List Value → List Value} {gV : List V → List V} (F : Fun K x qual st f fd)
    (h : ∀ (kV doc pm : Value) (an : Option Addr) (cdv ct u : Value) (ws : List Value), ws.length = ks.length → bindArgs (PySem.W.fnOf x qual (defArgs st) (defBody st) (defScope st) .none kV doc pm an cdv ct) ⟨[u], ks.zip ws⟩ = pure (ps.zip (u :: g ws)))
    (r : ∀ {zs : List V} {ws : List Value}, zs.length = ks.length → Vals zs ws → Vals (gV zs) (g ws)) : KW1 K fd ps ks g gV := by
  obtain ⟨oc, od, kV, doc, pm, an, cdv, ct, osl, rfl, lk, hcd⟩ := F.ex
  exact ⟨fun s u ws _ l => .of_eq (h kV doc pm an cdv ct u ws l), r⟩
theorem vals_app : ∀ {a : List V} {b : List Value} {c : List V} {d : List Value}, Vals a b → Vals c d → Vals (a ++ c) (b ++ d)
  | _, _, _, _, .nil, h => h
  | _, _, _, _, .cons x t, h => .cons x (vals_app t h)
theorem vals_back : ∀ {a : List V} {b : List Value}, Vals a b → Vals a.reverse b.reverse
  | _, _, .nil => .nil
  | _, _, .cons x t => by
    rw [List.reverse_cons, List.reverse_cons]
    exact vals_app (vals_back t) (.cons x .nil)
end
end PF
namespace PF
open PySem PySem.Spec PyProof.Rows L2 Evl
theorem all_mk {l : PySem.W.OpenLaw} {w : World} {K : PySem.W.Frag} {h : Heap} {mg : Str → Option Value} {fa C fIn tD fII fA fT pT fB pB fAdd fRadd fSub fRsub fMul fRmul fNeg fOver fUns fBel fAtm fEq fTot pTot fStr fRepr fPot fDraw fGcd fLow fIs fDrawn fSums fSg pSg fWh pWh fRt fLaw : Addr} (X : K.In h) (G : h.Ns mainGlobals mg) (hfa : mg "law" = some (.ref fa))
    {ocII kVII dcII pmII cdII ctII : Value} {odII anII : Option Addr} {slII : Array (Option Value)}
    {ocA kVA dcA pmA cdA ctA : Value} {odA anA : Option Addr} {slA : Array (Option Value)}
    {rsT : List Value}
    {ocT kVT dcT pmT cdT ctT : Value} {odT anT : Option Addr} {slT : Array (Option Value)}
    {rsB : List Value}
    {ocB kVB dcB pmB cdB ctB : Value} {odB anB : Option Addr} {slB : Array (Option Value)}
    {ocAdd kVAdd dcAdd pmAdd cdAdd ctAdd : Value} {odAdd anAdd : Option Addr} {slAdd : Array (Option Value)}
    {ocRadd kVRadd dcRadd pmRadd cdRadd ctRadd : Value} {odRadd anRadd : Option Addr} {slRadd : Array (Option Value)}
    {ocSub kVSub dcSub pmSub cdSub ctSub : Value} {odSub anSub : Option Addr} {slSub : Array (Option Value)}
    {ocRsub kVRsub dcRsub pmRsub cdRsub ctRsub : Value} {odRsub anRsub : Option Addr} {slRsub : Array (Option Value)}
    {ocMul kVMul dcMul pmMul cdMul ctMul : Value} {odMul anMul : Option Addr} {slMul : Array (Option Value)}
    {ocRmul kVRmul dcRmul pmRmul cdRmul ctRmul : Value} {odRmul anRmul : Option Addr} {slRmul : Array (Option Value)}
    {ocNeg kVNeg dcNeg pmNeg cdNeg ctNeg : Value} {odNeg anNeg : Option Addr} {slNeg : Array (Option Value)}
    {ocOver kVOver dcOver pmOver cdOver ctOver : Value} {odOver anOver : Option Addr} {slOver : Array (Option Value)}
    {ocUns kVUns dcUns pmUns cdUns ctUns : Value} {odUns anUns : Option Addr} {slUns : Array (Option Value)}
    {ocBel kVBel dcBel pmBel cdBel ctBel : Value} {odBel anBel : Option Addr} {slBel : Array (Option Value)}
    {ocAtm kVAtm dcAtm pmAtm cdAtm ctAtm : Value} {odAtm anAtm : Option Addr} {slAtm : Array (Option Value)}
    {ocEq kVEq dcEq pmEq cdEq ctEq : Value} {odEq anEq : Option Addr} {slEq : Array (Option Value)}
    {rsTot : List Value}
    {ocTot kVTot dcTot pmTot cdTot ctTot : Value} {odTot anTot : Option Addr} {slTot : Array (Option Value)}
    {ocStr kVStr dcStr pmStr cdStr ctStr : Value} {odStr anStr : Option Addr} {slStr : Array (Option Value)}
    {ocRepr kVRepr dcRepr pmRepr cdRepr ctRepr : Value} {odRepr anRepr : Option Addr} {slRepr : Array (Option Value)}
    {ocPot kVPot dcPot pmPot cdPot ctPot : Value} {odPot anPot : Option Addr} {slPot : Array (Option Value)}
    {ocDraw kVDraw dcDraw pmDraw cdDraw ctDraw : Value} {odDraw anDraw : Option Addr} {slDraw : Array (Option Value)}
    {ocGcd kVGcd dcGcd pmGcd cdGcd ctGcd : Value} {odGcd anGcd : Option Addr} {slGcd : Array (Option Value)}
    {ocLow kVLow dcLow pmLow cdLow ctLow : Value} {odLow anLow : Option Addr} {slLow : Array (Option Value)}
    {ocIs kVIs dcIs pmIs cdIs ctIs : Value} {odIs anIs : Option Addr} {slIs : Array (Option Value)}
    {ocDrawn kVDrawn dcDrawn pmDrawn cdDrawn ctDrawn : Value} {odDrawn anDrawn : Option Addr} {slDrawn : Array (Option Value)}
    {ocSums kVSums dcSums pmSums cdSums ctSums : Value} {odSums anSums : Option Addr} {slSums : Array (Option Value)}
    {rsSg : List Value}
    {ocSg kVSg dcSg pmSg cdSg ctSg : Value} {odSg anSg : Option Addr} {slSg : Array (Option Value)}
    {rsWh : List Value}
    {ocWh kVWh dcWh pmWh cdWh ctWh : Value} {odWh anWh : Option Addr} {slWh : Array (Option Value)}
    {ocRt kVRt dcRt pmRt cdRt ctRt : Value} {odRt anRt : Option Addr} {slRt : Array (Option Value)}
    {ocLaw kVLaw dcLaw pmLaw cdLaw ctLaw : Value} {odLaw anLaw : Option Addr} {slLaw : Array (Option Value)}
    {ocIn kVIn dcIn pmIn cdIn ctIn : Value} {odIn anIn : Option Addr} {slIn : Array (Option Value)}
    {ocD : Value} {odD : Option Addr} {nD : Nat} {slD : Array (Option Value)} {tkD : Tok}
    (haII : PySem.W.nsIn K mainGlobals "is_integer" = some (some (.ref fII)))
    (hlII : K.lookup fII = some ⟨ocII, odII, .func (PySem.W.fnOf "is_integer" "is_integer" (defArgs sIsInt) (defBody sIsInt) (defScope sIsInt) .none kVII dcII pmII anII cdII ctII), slII⟩)
    (hcII : PySem.W.codeIn K cdII "is_integer" = true)
    (hkII : PySem.W.keepIn K (.ref fII) = true)
    (haA : PySem.W.nsIn K mainGlobals "as_ratio" = some (some (.ref fA)))
    (hlA : K.lookup fA = some ⟨ocA, odA, .func (PySem.W.fnOf "as_ratio" "as_ratio" (defArgs sAsRatio) (defBody sAsRatio) (defScope sAsRatio) .none kVA dcA pmA anA cdA ctA), slA⟩)
    (hcA : PySem.W.codeIn K cdA "as_ratio" = true)
    (hkA : PySem.W.keepIn K (.ref fA) = true)
    (haT : PySem.W.findIn K (.ref C) "top" = some (some (.ref pT)))
    (hgT : PySem.W.specialIn K (.ref pT) "__get__" = some (some (.builtin "property.__get__")))
    (htT : PySem.W.takesIn K (.ref pT) = some true)
    (hrT : PySem.W.recIn K pT "property" = some (.ref fT :: rsT))
    (hlT : K.lookup fT = some ⟨ocT, odT, .func (PySem.W.fnOf "top" "Ratio.top" (defArgs (m_ 1)) (defBody (m_ 1)) (defScope (m_ 1)) .none kVT dcT pmT anT cdT ctT), slT⟩)
    (hcT : PySem.W.codeIn K cdT "Ratio.top" = true)
    (hkT : PySem.W.keepIn K (.ref fT) = true)
    (haB : PySem.W.findIn K (.ref C) "bottom" = some (some (.ref pB)))
    (hgB : PySem.W.specialIn K (.ref pB) "__get__" = some (some (.builtin "property.__get__")))
    (htB : PySem.W.takesIn K (.ref pB) = some true)
    (hrB : PySem.W.recIn K pB "property" = some (.ref fB :: rsB))
    (hlB : K.lookup fB = some ⟨ocB, odB, .func (PySem.W.fnOf "bottom" "Ratio.bottom" (defArgs (m_ 2)) (defBody (m_ 2)) (defScope (m_ 2)) .none kVB dcB pmB anB cdB ctB), slB⟩)
    (hcB : PySem.W.codeIn K cdB "Ratio.bottom" = true)
    (hkB : PySem.W.keepIn K (.ref fB) = true)
    (haAdd : PySem.W.findIn K (.ref C) "__add__" = some (some (.ref fAdd)))
    (hiAdd : PySem.W.isFn K (.ref fAdd) = true)
    (hlAdd : K.lookup fAdd = some ⟨ocAdd, odAdd, .func (PySem.W.fnOf "__add__" "Ratio.__add__" (defArgs (m_ 5)) (defBody (m_ 5)) (defScope (m_ 5)) .none kVAdd dcAdd pmAdd anAdd cdAdd ctAdd), slAdd⟩)
    (hcAdd : PySem.W.codeIn K cdAdd "Ratio.__add__" = true)
    (hkAdd : PySem.W.keepIn K (.ref fAdd) = true)
    (haRadd : PySem.W.findIn K (.ref C) "__radd__" = some (some (.ref fRadd)))
    (hiRadd : PySem.W.isFn K (.ref fRadd) = true)
    (hlRadd : K.lookup fRadd = some ⟨ocRadd, odRadd, .func (PySem.W.fnOf "__radd__" "Ratio.__radd__" (defArgs (m_ 6)) (defBody (m_ 6)) (defScope (m_ 6)) .none kVRadd dcRadd pmRadd anRadd cdRadd ctRadd), slRadd⟩)
    (hcRadd : PySem.W.codeIn K cdRadd "Ratio.__radd__" = true)
    (hkRadd : PySem.W.keepIn K (.ref fRadd) = true)
    (haSub : PySem.W.findIn K (.ref C) "__sub__" = some (some (.ref fSub)))
    (hiSub : PySem.W.isFn K (.ref fSub) = true)
    (hlSub : K.lookup fSub = some ⟨ocSub, odSub, .func (PySem.W.fnOf "__sub__" "Ratio.__sub__" (defArgs (m_ 7)) (defBody (m_ 7)) (defScope (m_ 7)) .none kVSub dcSub pmSub anSub cdSub ctSub), slSub⟩)
    (hcSub : PySem.W.codeIn K cdSub "Ratio.__sub__" = true)
    (hkSub : PySem.W.keepIn K (.ref fSub) = true)
    (haRsub : PySem.W.findIn K (.ref C) "__rsub__" = some (some (.ref fRsub)))
    (hiRsub : PySem.W.isFn K (.ref fRsub) = true)
    (hlRsub : K.lookup fRsub = some ⟨ocRsub, odRsub, .func (PySem.W.fnOf "__rsub__" "Ratio.__rsub__" (defArgs (m_ 8)) (defBody (m_ 8)) (defScope (m_ 8)) .none kVRsub dcRsub pmRsub anRsub cdRsub ctRsub), slRsub⟩)
    (hcRsub : PySem.W.codeIn K cdRsub "Ratio.__rsub__" = true)
    (hkRsub : PySem.W.keepIn K (.ref fRsub) = true)
    (haMul : PySem.W.findIn K (.ref C) "__mul__" = some (some (.ref fMul)))
    (hiMul : PySem.W.isFn K (.ref fMul) = true)
    (hlMul : K.lookup fMul = some ⟨ocMul, odMul, .func (PySem.W.fnOf "__mul__" "Ratio.__mul__" (defArgs (m_ 9)) (defBody (m_ 9)) (defScope (m_ 9)) .none kVMul dcMul pmMul anMul cdMul ctMul), slMul⟩)
    (hcMul : PySem.W.codeIn K cdMul "Ratio.__mul__" = true)
    (hkMul : PySem.W.keepIn K (.ref fMul) = true)
    (haRmul : PySem.W.findIn K (.ref C) "__rmul__" = some (some (.ref fRmul)))
    (hiRmul : PySem.W.isFn K (.ref fRmul) = true)
    (hlRmul : K.lookup fRmul = some ⟨ocRmul, odRmul, .func (PySem.W.fnOf "__rmul__" "Ratio.__rmul__" (defArgs (m_ 10)) (defBody (m_ 10)) (defScope (m_ 10)) .none kVRmul dcRmul pmRmul anRmul cdRmul ctRmul), slRmul⟩)
    (hcRmul : PySem.W.codeIn K cdRmul "Ratio.__rmul__" = true)
    (hkRmul : PySem.W.keepIn K (.ref fRmul) = true)
    (haNeg : PySem.W.findIn K (.ref C) "__neg__" = some (some (.ref fNeg)))
    (hiNeg : PySem.W.isFn K (.ref fNeg) = true)
    (hlNeg : K.lookup fNeg = some ⟨ocNeg, odNeg, .func (PySem.W.fnOf "__neg__" "Ratio.__neg__" (defArgs (m_ 11)) (defBody (m_ 11)) (defScope (m_ 11)) .none kVNeg dcNeg pmNeg anNeg cdNeg ctNeg), slNeg⟩)
    (hcNeg : PySem.W.codeIn K cdNeg "Ratio.__neg__" = true)
    (hkNeg : PySem.W.keepIn K (.ref fNeg) = true)
    (haOver : PySem.W.findIn K (.ref C) "over" = some (some (.ref fOver)))
    (hiOver : PySem.W.isFn K (.ref fOver) = true)
    (hlOver : K.lookup fOver = some ⟨ocOver, odOver, .func (PySem.W.fnOf "over" "Ratio.over" (defArgs (m_ 12)) (defBody (m_ 12)) (defScope (m_ 12)) .none kVOver dcOver pmOver anOver cdOver ctOver), slOver⟩)
    (hcOver : PySem.W.codeIn K cdOver "Ratio.over" = true)
    (hkOver : PySem.W.keepIn K (.ref fOver) = true)
    (haUns : PySem.W.findIn K (.ref C) "unsigned" = some (some (.ref fUns)))
    (hiUns : PySem.W.isFn K (.ref fUns) = true)
    (hlUns : K.lookup fUns = some ⟨ocUns, odUns, .func (PySem.W.fnOf "unsigned" "Ratio.unsigned" (defArgs (m_ 13)) (defBody (m_ 13)) (defScope (m_ 13)) .none kVUns dcUns pmUns anUns cdUns ctUns), slUns⟩)
    (hcUns : PySem.W.codeIn K cdUns "Ratio.unsigned" = true)
    (hkUns : PySem.W.keepIn K (.ref fUns) = true)
    (haBel : PySem.W.findIn K (.ref C) "is_below" = some (some (.ref fBel)))
    (hiBel : PySem.W.isFn K (.ref fBel) = true)
    (hlBel : K.lookup fBel = some ⟨ocBel, odBel, .func (PySem.W.fnOf "is_below" "Ratio.is_below" (defArgs (m_ 14)) (defBody (m_ 14)) (defScope (m_ 14)) .none kVBel dcBel pmBel anBel cdBel ctBel), slBel⟩)
    (hcBel : PySem.W.codeIn K cdBel "Ratio.is_below" = true)
    (hkBel : PySem.W.keepIn K (.ref fBel) = true)
    (haAtm : PySem.W.findIn K (.ref C) "is_at_most" = some (some (.ref fAtm)))
    (hiAtm : PySem.W.isFn K (.ref fAtm) = true)
    (hlAtm : K.lookup fAtm = some ⟨ocAtm, odAtm, .func (PySem.W.fnOf "is_at_most" "Ratio.is_at_most" (defArgs (m_ 15)) (defBody (m_ 15)) (defScope (m_ 15)) .none kVAtm dcAtm pmAtm anAtm cdAtm ctAtm), slAtm⟩)
    (hcAtm : PySem.W.codeIn K cdAtm "Ratio.is_at_most" = true)
    (hkAtm : PySem.W.keepIn K (.ref fAtm) = true)
    (haEq : PySem.W.findIn K (.ref C) "__eq__" = some (some (.ref fEq)))
    (hiEq : PySem.W.isFn K (.ref fEq) = true)
    (hlEq : K.lookup fEq = some ⟨ocEq, odEq, .func (PySem.W.fnOf "__eq__" "Ratio.__eq__" (defArgs (m_ 16)) (defBody (m_ 16)) (defScope (m_ 16)) .none kVEq dcEq pmEq anEq cdEq ctEq), slEq⟩)
    (hcEq : PySem.W.codeIn K cdEq "Ratio.__eq__" = true)
    (hkEq : PySem.W.keepIn K (.ref fEq) = true)
    (haTot : PySem.W.findCls K (.ref C) (.type "type") "total" = some (.get (.builtin "classmethod.__get__") (.ref pTot) .none (.ref C)))
    (hrTot : PySem.W.recIn K pTot "classmethod" = some (.ref fTot :: rsTot))
    (hiTot : PySem.W.fnIn K fTot = true)
    (hlTot : K.lookup fTot = some ⟨ocTot, odTot, .func (PySem.W.fnOf "total" "Ratio.total" (defArgs (m_ 17)) (defBody (m_ 17)) (defScope (m_ 17)) .none kVTot dcTot pmTot anTot cdTot ctTot), slTot⟩)
    (hcTot : PySem.W.codeIn K cdTot "Ratio.total" = true)
    (hkTot : PySem.W.keepIn K (.ref fTot) = true)
    (haStr : PySem.W.findIn K (.ref C) "__str__" = some (some (.ref fStr)))
    (hiStr : PySem.W.isFn K (.ref fStr) = true)
    (hlStr : K.lookup fStr = some ⟨ocStr, odStr, .func (PySem.W.fnOf "__str__" "Ratio.__str__" (defArgs (m_ 18)) (defBody (m_ 18)) (defScope (m_ 18)) .none kVStr dcStr pmStr anStr cdStr ctStr), slStr⟩)
    (hcStr : PySem.W.codeIn K cdStr "Ratio.__str__" = true)
    (hkStr : PySem.W.keepIn K (.ref fStr) = true)
    (haRepr : PySem.W.findIn K (.ref C) "__repr__" = some (some (.ref fRepr)))
    (hiRepr : PySem.W.isFn K (.ref fRepr) = true)
    (hlRepr : K.lookup fRepr = some ⟨ocRepr, odRepr, .func (PySem.W.fnOf "__repr__" "Ratio.__repr__" (defArgs (m_ 19)) (defBody (m_ 19)) (defScope (m_ 19)) .none kVRepr dcRepr pmRepr anRepr cdRepr ctRepr), slRepr⟩)
    (hcRepr : PySem.W.codeIn K cdRepr "Ratio.__repr__" = true)
    (hkRepr : PySem.W.keepIn K (.ref fRepr) = true)
    (haPot : PySem.W.nsIn K mainGlobals "_law_pot" = some (some (.ref fPot)))
    (hlPot : K.lookup fPot = some ⟨ocPot, odPot, .func (PySem.W.fnOf "_law_pot" "_law_pot" (defArgs sPot) (defBody sPot) (defScope sPot) .none kVPot dcPot pmPot anPot cdPot ctPot), slPot⟩)
    (hcPot : PySem.W.codeIn K cdPot "_law_pot" = true)
    (hkPot : PySem.W.keepIn K (.ref fPot) = true)
    (haDraw : PySem.W.nsIn K mainGlobals "_law_draw" = some (some (.ref fDraw)))
    (hlDraw : K.lookup fDraw = some ⟨ocDraw, odDraw, .func (PySem.W.fnOf "_law_draw" "_law_draw" (defArgs sDraw) (defBody sDraw) (defScope sDraw) .none kVDraw dcDraw pmDraw anDraw cdDraw ctDraw), slDraw⟩)
    (hcDraw : PySem.W.codeIn K cdDraw "_law_draw" = true)
    (hkDraw : PySem.W.keepIn K (.ref fDraw) = true)
    (haGcd : PySem.W.nsIn K mainGlobals "_law_gcd" = some (some (.ref fGcd)))
    (hlGcd : K.lookup fGcd = some ⟨ocGcd, odGcd, .func (PySem.W.fnOf "_law_gcd" "_law_gcd" (defArgs sGcd) (defBody sGcd) (defScope sGcd) .none kVGcd dcGcd pmGcd anGcd cdGcd ctGcd), slGcd⟩)
    (hcGcd : PySem.W.codeIn K cdGcd "_law_gcd" = true)
    (hkGcd : PySem.W.keepIn K (.ref fGcd) = true)
    (haLow : PySem.W.nsIn K mainGlobals "_law_low" = some (some (.ref fLow)))
    (hlLow : K.lookup fLow = some ⟨ocLow, odLow, .func (PySem.W.fnOf "_law_low" "_law_low" (defArgs sLow) (defBody sLow) (defScope sLow) .none kVLow dcLow pmLow anLow cdLow ctLow), slLow⟩)
    (hcLow : PySem.W.codeIn K cdLow "_law_low" = true)
    (hkLow : PySem.W.keepIn K (.ref fLow) = true)
    (haIs : PySem.W.nsIn K mainGlobals "_law_is" = some (some (.ref fIs)))
    (hlIs : K.lookup fIs = some ⟨ocIs, odIs, .func (PySem.W.fnOf "_law_is" "_law_is" (defArgs sIs) (defBody sIs) (defScope sIs) .none kVIs dcIs pmIs anIs cdIs ctIs), slIs⟩)
    (hcIs : PySem.W.codeIn K cdIs "_law_is" = true)
    (hkIs : PySem.W.keepIn K (.ref fIs) = true)
    (haDrawn : PySem.W.nsIn K mainGlobals "_law_drawn" = some (some (.ref fDrawn)))
    (hlDrawn : K.lookup fDrawn = some ⟨ocDrawn, odDrawn, .func (PySem.W.fnOf "_law_drawn" "_law_drawn" (defArgs sDrawn) (defBody sDrawn) (defScope sDrawn) .none kVDrawn dcDrawn pmDrawn anDrawn cdDrawn ctDrawn), slDrawn⟩)
    (hcDrawn : PySem.W.codeIn K cdDrawn "_law_drawn" = true)
    (hkDrawn : PySem.W.keepIn K (.ref fDrawn) = true)
    (haSums : PySem.W.nsIn K mainGlobals "_law_sums_right" = some (some (.ref fSums)))
    (hlSums : K.lookup fSums = some ⟨ocSums, odSums, .func (PySem.W.fnOf "_law_sums_right" "_law_sums_right" (defArgs sSums) (defBody sSums) (defScope sSums) .none kVSums dcSums pmSums anSums cdSums ctSums), slSums⟩)
    (hcSums : PySem.W.codeIn K cdSums "_law_sums_right" = true)
    (hkSums : PySem.W.keepIn K (.ref fSums) = true)
    (haSg : PySem.W.findIn K (.ref C) "sign" = some (some (.ref pSg)))
    (hgSg : PySem.W.specialIn K (.ref pSg) "__get__" = some (some (.builtin "property.__get__")))
    (htSg : PySem.W.takesIn K (.ref pSg) = some true)
    (hrSg : PySem.W.recIn K pSg "property" = some (.ref fSg :: rsSg))
    (hlSg : K.lookup fSg = some ⟨ocSg, odSg, .func (PySem.W.fnOf "sign" "Ratio.sign" (defArgs (m_ 3)) (defBody (m_ 3)) (defScope (m_ 3)) .none kVSg dcSg pmSg anSg cdSg ctSg), slSg⟩)
    (hcSg : PySem.W.codeIn K cdSg "Ratio.sign" = true)
    (hkSg : PySem.W.keepIn K (.ref fSg) = true)
    (haWh : PySem.W.findIn K (.ref C) "is_whole" = some (some (.ref pWh)))
    (hgWh : PySem.W.specialIn K (.ref pWh) "__get__" = some (some (.builtin "property.__get__")))
    (htWh : PySem.W.takesIn K (.ref pWh) = some true)
    (hrWh : PySem.W.recIn K pWh "property" = some (.ref fWh :: rsWh))
    (hlWh : K.lookup fWh = some ⟨ocWh, odWh, .func (PySem.W.fnOf "is_whole" "Ratio.is_whole" (defArgs (m_ 4)) (defBody (m_ 4)) (defScope (m_ 4)) .none kVWh dcWh pmWh anWh cdWh ctWh), slWh⟩)
    (hcWh : PySem.W.codeIn K cdWh "Ratio.is_whole" = true)
    (hkWh : PySem.W.keepIn K (.ref fWh) = true)
    (haRt : PySem.W.nsIn K mainGlobals "_law_right" = some (some (.ref fRt)))
    (hlRt : K.lookup fRt = some ⟨ocRt, odRt, .func (PySem.W.fnOf "_law_right" "_law_right" (defArgs sRight) (defBody sRight) (defScope sRight) .none kVRt dcRt pmRt anRt cdRt ctRt), slRt⟩)
    (hcRt : PySem.W.codeIn K cdRt "_law_right" = true)
    (hkRt : PySem.W.keepIn K (.ref fRt) = true)
    (haLaw : PySem.W.nsIn K mainGlobals "law" = some (some (.ref fLaw)))
    (hlLaw : K.lookup fLaw = some ⟨ocLaw, odLaw, .func (PySem.W.fnOf "law" "law" (defArgs sLaw) (defBody sLaw) (defScope sLaw) .none kVLaw dcLaw pmLaw anLaw cdLaw ctLaw), slLaw⟩)
    (hcLaw : PySem.W.codeIn K cdLaw "law" = true)
    (hkLaw : PySem.W.keepIn K (.ref fLaw) = true)
    (haC : PySem.W.nsIn K mainGlobals "Ratio" = some (some (.ref C)))
    (haIn : PySem.W.findIn K (.ref C) "__init__" = some (some (.ref fIn)))
    (hiIn : PySem.W.isFn K (.ref fIn) = true)
    (hlIn : K.lookup fIn = some ⟨ocIn, odIn, .func (PySem.W.fnOf "__init__" "Ratio.__init__" (defArgs (m_ 0)) (defBody (m_ 0)) (defScope (m_ 0)) (.ref tD) kVIn dcIn pmIn anIn cdIn ctIn), slIn⟩)
    (hcIn : PySem.W.codeIn K cdIn "Ratio.__init__" = true)
    (hkIn : PySem.W.keepIn K (.ref fIn) = true)
    (hlD : K.lookup tD = some ⟨ocD, odD, .seq #[.int 1 tkD] nD, slD⟩)
    (h_pg : PySem.W.plainGet K C Str.empty = true)
    (h_hd : PySem.W.hasDictIn K C = true)
    (h_po : PySem.W.plainOver K C = true)
    (h_sa : PySem.W.findIn K (.ref C) "__setattr__" = some (some (.builtin "object.__setattr__")))
    (h_mk : PySem.W.makesIn K C = true)
    (h_kc : PySem.W.keepIn K (.ref C) = true)
    (h_sf : PySem.W.selfFirst K C = true)
    (h_ha : PySem.W.findIn K (.ref C) "__class__" = some (some (.builtin "object.__class__")))
    (h_hn : PySem.W.specialIn K (.builtin "object.__class__") "__get__" = some (some (.builtin "getset_descriptor.__get__")))
    (h_ht : PySem.W.takesIn K (.builtin "object.__class__") = some true)
    (h_hm : PySem.W.mroIn K C (.type "object") = some true)
    (h_mi : PySem.W.mroIn K C (.type "int") = some false)
    (h_mb : PySem.W.mroIn K C (.type "bool") = some false)
    (h_ms : PySem.W.mroIn K C (.type "str") = some false)
    (h_mn : PySem.W.mroIn K C (.type "NoneType") = some false)
    (h_ne : PySem.W.findIn K (.ref C) "__ne__" = some (some (.builtin "object.__ne__")))
    (h_nT : PySem.W.findIn K (.ref C) "_top" = some none)
    (h_nB : PySem.W.findIn K (.ref C) "_bottom" = some none)
    (h_ty : PySem.W.typeIn K (.ref C) = some (.type "type"))
    (h_rd : PySem.W.readsIn K C (.type "type") = true)
    (h_ga : PySem.W.specialIn K (.ref C) "__getattribute__" = some (some (.builtin "type.__getattribute__")))
    (h_gc : PySem.W.nsIn K mainGlobals "gcd" = some (some (.builtin "math.gcd")))
    (hzisinstance : PySem.W.nsIn K mainGlobals "isinstance" = some none)
    (hzint : PySem.W.nsIn K mainGlobals "int" = some none)
    (hzbool : PySem.W.nsIn K mainGlobals "bool" = some none)
    (hzstr : PySem.W.nsIn K mainGlobals "str" = some none)
    (hzabs : PySem.W.nsIn K mainGlobals "abs" = some none)
    (hzlen : PySem.W.nsIn K mainGlobals "len" = some none)
    (hzmax : PySem.W.nsIn K mainGlobals "max" = some none)
    (hzdivmod : PySem.W.nsIn K mainGlobals "divmod" = some none)
    (hzrepr : PySem.W.nsIn K mainGlobals "repr" = some none)
    (hzall : PySem.W.nsIn K mainGlobals "all" = some none)
    (hzlist : PySem.W.nsIn K mainGlobals "list" = some none)
    (hztuple : PySem.W.nsIn K mainGlobals "tuple" = some none)
    (hzzip : PySem.W.nsIn K mainGlobals "zip" = some none)
    (hzrange : PySem.W.nsIn K mainGlobals "range" = some none)
    (hzmin : PySem.W.nsIn K mainGlobals "min" = some none)
    : ∃ fd : FuncData, (∀ (s : Shared) (v : Value), BindsTo s fd ⟨[v], []⟩ [("_law_script", v)]) ∧ ∀ base : Heap, K.In base → base.Ns mainGlobals mg → FnG l.prog w K mg base CX0 12 fa fd ["_law_script"] (spLaw K) := by
  have e := hfa.symm.trans (PySem.W.mg_of X G haLaw)
  cases e
  have FII := fun_mk (st := sIsInt) hlII hcII hkII
  have bII := FII.binds (ps := ["value"]) fun _ _ _ _ _ _ us hl => match us, hl with | [_], _ => rfl
  have FA := fun_mk (st := sAsRatio) hlA hcA hkA
  have bA := FA.binds (ps := ["number"]) fun _ _ _ _ _ _ us hl => match us, hl with | [_], _ => rfl
  have FT := fun_mk (st := (m_ 1)) hlT hcT hkT
  have bT := FT.binds (ps := ["self"]) fun _ _ _ _ _ _ us hl => match us, hl with | [_], _ => rfl
  have FB := fun_mk (st := (m_ 2)) hlB hcB hkB
  have bB := FB.binds (ps := ["self"]) fun _ _ _ _ _ _ us hl => match us, hl with | [_], _ => rfl
  have FAdd := fun_mk (st := (m_ 5)) hlAdd hcAdd hkAdd
  have bAdd := FAdd.binds (ps := ["self", "other"]) fun _ _ _ _ _ _ us hl => match us, hl with | [_, _], _ => rfl
  have FRadd := fun_mk (st := (m_ 6)) hlRadd hcRadd hkRadd
  have bRadd := FRadd.binds (ps := ["self", "other"]) fun _ _ _ _ _ _ us hl => match us, hl with | [_, _], _ => rfl
  have FSub := fun_mk (st := (m_ 7)) hlSub hcSub hkSub
  have bSub := FSub.binds (ps := ["self", "other"]) fun _ _ _ _ _ _ us hl => match us, hl with | [_, _], _ => rfl
  have FRsub := fun_mk (st := (m_ 8)) hlRsub hcRsub hkRsub
  have bRsub := FRsub.binds (ps := ["self", "other"]) fun _ _ _ _ _ _ us hl => match us, hl with | [_, _], _ => rfl
  have FMul := fun_mk (st := (m_ 9)) hlMul hcMul hkMul
  have bMul := FMul.binds (ps := ["self", "other"]) fun _ _ _ _ _ _ us hl => match us, hl with | [_, _], _ => rfl
  have FRmul := fun_mk (st := (m_ 10)) hlRmul hcRmul hkRmul
  have bRmul := FRmul.binds (ps := ["self", "other"]) fun _ _ _ _ _ _ us hl => match us, hl with | [_, _], _ => rfl
  have FNeg := fun_mk (st := (m_ 11)) hlNeg hcNeg hkNeg
  have bNeg := FNeg.binds (ps := ["self"]) fun _ _ _ _ _ _ us hl => match us, hl with | [_], _ => rfl
  have FOver := fun_mk (st := (m_ 12)) hlOver hcOver hkOver
  have bOver := FOver.binds (ps := ["self", "other"]) fun _ _ _ _ _ _ us hl => match us, hl with | [_, _], _ => rfl
  have FUns := fun_mk (st := (m_ 13)) hlUns hcUns hkUns
  have bUns := FUns.binds (ps := ["self"]) fun _ _ _ _ _ _ us hl => match us, hl with | [_], _ => rfl
  have FBel := fun_mk (st := (m_ 14)) hlBel hcBel hkBel
  have bBel := FBel.binds (ps := ["self", "other"]) fun _ _ _ _ _ _ us hl => match us, hl with | [_, _], _ => rfl
  have FAtm := fun_mk (st := (m_ 15)) hlAtm hcAtm hkAtm
  have bAtm := FAtm.binds (ps := ["self", "other"]) fun _ _ _ _ _ _ us hl => match us, hl with | [_, _], _ => rfl
  have FEq := fun_mk (st := (m_ 16)) hlEq hcEq hkEq
  have bEq := FEq.binds (ps := ["self", "other"]) fun _ _ _ _ _ _ us hl => match us, hl with | [_, _], _ => rfl
  have FTot := fun_mk (st := (m_ 17)) hlTot hcTot hkTot
  have bTot := FTot.binds (ps := ["cls", "numbers"]) fun _ _ _ _ _ _ us hl => match us, hl with | [_, _], _ => rfl
  have FStr := fun_mk (st := (m_ 18)) hlStr hcStr hkStr
  have bStr := FStr.binds (ps := ["self"]) fun _ _ _ _ _ _ us hl => match us, hl with | [_], _ => rfl
  have FRepr := fun_mk (st := (m_ 19)) hlRepr hcRepr hkRepr
  have bRepr := FRepr.binds (ps := ["self"]) fun _ _ _ _ _ _ us hl => match us, hl with | [_], _ => rfl
  have FPot := fun_mk (st := sPot) hlPot hcPot hkPot
  have bPot := FPot.binds (ps := ["_law_script", "_law_k"]) fun _ _ _ _ _ _ us hl => match us, hl with | [_, _], _ => rfl
  have FDraw := fun_mk (st := sDraw) hlDraw hcDraw hkDraw
  have bDraw := FDraw.binds (ps := ["_law_pot_here", "_law_sides"]) fun _ _ _ _ _ _ us hl => match us, hl with | [_, _], _ => rfl
  have FGcd := fun_mk (st := sGcd) hlGcd hcGcd hkGcd
  have bGcd := FGcd.binds (ps := ["_law_one", "_law_other"]) fun _ _ _ _ _ _ us hl => match us, hl with | [_, _], _ => rfl
  have FLow := fun_mk (st := sLow) hlLow hcLow hkLow
  have bLow := FLow.binds (ps := ["_law_top", "_law_bottom"]) fun _ _ _ _ _ _ us hl => match us, hl with | [_, _], _ => rfl
  have FIs := fun_mk (st := sIs) hlIs hcIs hkIs
  have bIs := FIs.binds (ps := ["_law_told", "_law_due"]) fun _ _ _ _ _ _ us hl => match us, hl with | [_, _], _ => rfl
  have FDrawn := fun_mk (st := sDrawn) hlDrawn hcDrawn hkDrawn
  have bDrawn := FDrawn.binds (ps := ["_law_pot_here"]) fun _ _ _ _ _ _ us hl => match us, hl with | [_], _ => rfl
  have FSums := fun_mk (st := sSums) hlSums hcSums hkSums
  have bSums := FSums.binds (ps := ["_law_one", "_law_other", "_law_near", "_law_far", "_law_whole"]) fun _ _ _ _ _ _ us hl => match us, hl with | [_, _, _, _, _], _ => rfl
  have FSg := fun_mk (st := (m_ 3)) hlSg hcSg hkSg
  have bSg := FSg.binds (ps := ["self"]) fun _ _ _ _ _ _ us hl => match us, hl with | [_], _ => rfl
  have FWh := fun_mk (st := (m_ 4)) hlWh hcWh hkWh
  have bWh := FWh.binds (ps := ["self"]) fun _ _ _ _ _ _ us hl => match us, hl with | [_], _ => rfl
  have FRt := fun_mk (st := sRight) hlRt hcRt hkRt
  have bRt := FRt.binds (ps := ["_law_pot_here"]) fun _ _ _ _ _ _ us hl => match us, hl with | [_], _ => rfl
  have FLaw := fun_mk (st := sLaw) hlLaw hcLaw hkLaw
  have bLaw := FLaw.binds (ps := ["_law_script"]) fun _ _ _ _ _ _ us hl => match us, hl with | [_], _ => rfl
  have FIn : FunD K "__init__" "Ratio.__init__" (defArgs (m_ 0)) (defBody (m_ 0)) (defScope (m_ 0)) [.int 1] [] fIn _ := ⟨⟨_, _, _, _, _, _, _, _, _, _, rfl, hlIn, hcIn, .inr ⟨by simp, tD, _, [.int 1 tkD], nD, rfl, hlD, rfl, .cons ⟨tkD, rfl⟩ .nil⟩, .inl rfl⟩, hkIn⟩
  have bIn1 := FIn.binds1 (ps := ["self", "top", "bottom"]) 2 0 (by simp) rfl fun _ _ _ _ _ _ _ us its h1 h2 => match us, its, h1, h2 with | [_, _], [_], _, _ => ⟨_, rfl, rfl⟩
  obtain ⟨d3, v3, bIn3⟩ := FIn.binds1 (ps := ["self", "top", "bottom"]) 3 1 (by simp) rfl fun _ _ _ _ _ _ _ us its h1 h2 => match us, its, h1, h2 with | [_, _, _], [_], _, _ => ⟨_, rfl, rfl⟩
  have e3 : d3 = [] := by cases v3; rfl
  subst e3
  have T : RTxt K mg C fII := ⟨⟨⟨h_pg, h_hd, h_po, h_sa⟩, h_sf, h_ha, h_hn, h_ht, h_hm, h_mi, h_mb, h_ms, h_mn, h_ne⟩, h_nT, h_nB, h_ty, PySem.W.mg_of X G haC, PySem.W.mg_of X G haII, hkII, PySem.W.mg_none_of X G hzisinstance, PySem.W.mg_none_of X G hzint, PySem.W.mg_none_of X G hzbool, PySem.W.mg_of X G h_gc⟩
  let R : RA K mg C := { fII := fII, dII := _, T := T, FII := FII, bII := bII, fIn := fIn, dIn := _, FIn := FIn, M := ⟨h_mk, haIn, hiIn, h_kc⟩, bIn := bIn3, bIn1 := bIn1, fA := fA, dA := _, FA := FA, mA := PySem.W.mg_of X G haA, kA := hkA, bA := bA, pT := pT, gT := fT, dT := _, PT := ⟨FT, ⟨haT, hgT, htT, ⟨_, hrT⟩⟩, bT⟩, pB := pB, gB := fB, dB := _, PB := ⟨FB, ⟨haB, hgB, htB, ⟨_, hrB⟩⟩, bB⟩, fAdd := fAdd, dAdd := _, MAdd := ⟨FAdd, ⟨haAdd, hiAdd, hkAdd⟩, bAdd⟩, fRadd := fRadd, dRadd := _, MRadd := ⟨FRadd, ⟨haRadd, hiRadd, hkRadd⟩, bRadd⟩, fNeg := fNeg, dNeg := _, MNeg := ⟨FNeg, ⟨haNeg, hiNeg, hkNeg⟩, bNeg⟩, fEq := fEq, dEq := _, MEq := ⟨FEq, ⟨haEq, hiEq, hkEq⟩, bEq⟩, fStr := fStr, dStr := _, MStr := ⟨FStr, ⟨haStr, hiStr, hkStr⟩, bStr⟩, fRepr := fRepr, dRepr := _, MRepr := ⟨FRepr, ⟨haRepr, hiRepr, hkRepr⟩, bRepr⟩, mStr := PySem.W.mg_none_of X G hzstr }
  let B : RB K mg C := { fSub := fSub, dSub := _, MSub := ⟨FSub, ⟨haSub, hiSub, hkSub⟩, bSub⟩, fRsub := fRsub, dRsub := _, MRsub := ⟨FRsub, ⟨haRsub, hiRsub, hkRsub⟩, bRsub⟩, fMul := fMul, dMul := _, MMul := ⟨FMul, ⟨haMul, hiMul, hkMul⟩, bMul⟩, fRmul := fRmul, dRmul := _, MRmul := ⟨FRmul, ⟨haRmul, hiRmul, hkRmul⟩, bRmul⟩, fOver := fOver, dOver := _, MOver := ⟨FOver, ⟨haOver, hiOver, hkOver⟩, bOver⟩, fUns := fUns, dUns := _, MUns := ⟨FUns, ⟨haUns, hiUns, hkUns⟩, bUns⟩, fBel := fBel, dBel := _, MBel := ⟨FBel, ⟨haBel, hiBel, hkBel⟩, bBel⟩, fAtm := fAtm, dAtm := _, MAtm := ⟨FAtm, ⟨haAtm, hiAtm, hkAtm⟩, bAtm⟩, mAbs := PySem.W.mg_none_of X G hzabs }
  let L : L11 K mg C := { T := ⟨PySem.W.mg_none_of X G hzabs, PySem.W.mg_none_of X G hzlen, PySem.W.mg_none_of X G hzmax, PySem.W.mg_none_of X G hzint, PySem.W.mg_none_of X G hzdivmod⟩, repr := PySem.W.mg_none_of X G hzrepr, all := PySem.W.mg_none_of X G hzall, list := PySem.W.mg_none_of X G hzlist, zip := PySem.W.mg_none_of X G hzzip, fPot := fPot, dPot := _, FPot := FPot, mPot := PySem.W.mg_of X G haPot, bPot := bPot, fDraw := fDraw, dDraw := _, FDraw := FDraw, mDraw := PySem.W.mg_of X G haDraw, bDraw := bDraw, fGcd := fGcd, dGcd := _, FGcd := FGcd, mGcd := PySem.W.mg_of X G haGcd, bGcd := bGcd, fLow := fLow, dLow := _, FLow := FLow, mLow := PySem.W.mg_of X G haLow, bLow := bLow, fIs := fIs, dIs := _, FIs := FIs, mIs := PySem.W.mg_of X G haIs, bIs := bIs, fDrawn := fDrawn, dDrawn := _, FDrawn := FDrawn, mDrawn := PySem.W.mg_of X G haDrawn, bDrawn := bDrawn, fSums := fSums, dSums := _, FSums := FSums, mSums := PySem.W.mg_of X G haSums, bSums := bSums, fRt := fRt, dRt := _, FRt := FRt, mRt := PySem.W.mg_of X G haRt, bRt := bRt, pSg := pSg, gSg := fSg, dSg := _, PSg := ⟨FSg, ⟨haSg, hgSg, htSg, ⟨_, hrSg⟩⟩, bSg⟩, pWh := pWh, gWh := fWh, dWh := _, PWh := ⟨FWh, ⟨haWh, hgWh, htWh, ⟨_, hrWh⟩⟩, bWh⟩ }
  let W : W11 K mg C R B := { wO := kw1_of FOver (fun _ _ _ _ _ _ _ ws hl => match ws, hl with | [_], _ => rfl) (fun _ r => r), wA := kw1_of FAtm (fun _ _ _ _ _ _ _ ws hl => match ws, hl with | [_], _ => rfl) (fun _ r => r), wI := FIn.kbindsD 1 ["bottom", "top"] (fun us _ ws => us ++ ws.reverse) (by simp) (fun h1 _ h3 => vals_app h1 (vals_back h3)) fun _ _ _ _ _ _ _ us its ws h1 h2 h3 => match us, its, ws, h1, h2, h3 with | [_], [_], [_, _], _, _, _ => ⟨_, rfl, rfl⟩, pTot := pTot, gTot := fTot, dTot := _, tot := ⟨FTot, bTot, kw1_of FTot (fun _ _ _ _ _ _ _ ws hl => match ws, hl with | [_], _ => rfl) (fun _ r => r), ⟨haTot, ⟨_, hrTot⟩, hiTot⟩, PySem.W.mg_none_of X G hzlist, PySem.W.mg_none_of X G hztuple⟩, rd := ⟨h_rd, h_ga⟩ }
  exact ⟨_, fun s v => .of_eq rfl, fun base _ _ => ok_law R B L W (PySem.W.mg_none_of X G hzrange) (PySem.W.mg_none_of X G hzmin) FLaw⟩
end PF

open PySem PySem.W PyProof.Rows in
set_option maxRecDepth 100000 in
set_option maxHeartbeats 0 in
theorem PySem.Challenge.cw_pairsfree_k11_ratios_reckoned_holds : PySem.Challenge.rw_pairsfree_k11_ratios_reckoned.Holds := by
  w_on; o_law; k_head; (case hw => w_witness2)
  k_fill
  refine PF.walkG (l := PySem.Challenge.rw_pairsfree_k11_ratios_reckoned) (n := 63) (k := 12) (x := "_law_script") (CX := L2.CX0) (sp := fun K => PF.spLaw K) rfl (by decide) rfl ⟨rfl, by decide, by decide⟩ (fun w h Y => PySem.W.kIn_of Y) ?F (fun K H a ns hl _ hS => ⟨a, ns, rfl, hS, hl, fun _ => rfl⟩) (fun _ _ _ _ z => z)
  case F =>
    intro w mg fa h KX G hmg
    refine' PF.all_mk KX G hmg ?haII ?hlII ?hcII ?hkII ?haA ?hlA ?hcA ?hkA ?haT ?hgT ?htT ?hrT ?hlT ?hcT ?hkT ?haB ?hgB ?htB ?hrB ?hlB ?hcB ?hkB ?haAdd ?hiAdd ?hlAdd ?hcAdd ?hkAdd ?haRadd ?hiRadd ?hlRadd ?hcRadd ?hkRadd ?haSub ?hiSub ?hlSub ?hcSub ?hkSub ?haRsub ?hiRsub ?hlRsub ?hcRsub ?hkRsub ?haMul ?hiMul ?hlMul ?hcMul ?hkMul ?haRmul ?hiRmul ?hlRmul ?hcRmul ?hkRmul ?haNeg ?hiNeg ?hlNeg ?hcNeg ?hkNeg ?haOver ?hiOver ?hlOver ?hcOver ?hkOver ?haUns ?hiUns ?hlUns ?hcUns ?hkUns ?haBel ?hiBel ?hlBel ?hcBel ?hkBel ?haAtm ?hiAtm ?hlAtm ?hcAtm ?hkAtm ?haEq ?hiEq ?hlEq ?hcEq ?hkEq ?haTot ?hrTot ?hiTot ?hlTot ?hcTot ?hkTot ?haStr ?hiStr ?hlStr ?hcStr ?hkStr ?haRepr ?hiRepr ?hlRepr ?hcRepr ?hkRepr ?haPot ?hlPot ?hcPot ?hkPot ?haDraw ?hlDraw ?hcDraw ?hkDraw ?haGcd ?hlGcd ?hcGcd ?hkGcd ?haLow ?hlLow ?hcLow ?hkLow ?haIs ?hlIs ?hcIs ?hkIs ?haDrawn ?hlDrawn ?hcDrawn ?hkDrawn ?haSums ?hlSums ?hcSums ?hkSums ?haSg ?hgSg ?htSg ?hrSg ?hlSg ?hcSg ?hkSg ?haWh ?hgWh ?htWh ?hrWh ?hlWh ?hcWh ?hkWh ?haRt ?hlRt ?hcRt ?hkRt ?haLaw ?hlLaw ?hcLaw ?hkLaw ?haC ?haIn ?hiIn ?hlIn ?hcIn ?hkIn ?hlD ?h_pg ?h_hd ?h_po ?h_sa ?h_mk ?h_kc ?h_sf ?h_ha ?h_hn ?h_ht ?h_hm ?h_mi ?h_mb ?h_ms ?h_mn ?h_ne ?h_nT ?h_nB ?h_ty ?h_rd ?h_ga ?h_gc ?hzisinstance ?hzint ?hzbool ?hzstr ?hzabs ?hzlen ?hzmax ?hzdivmod ?hzrepr ?hzall ?hzlist ?hztuple ?hzzip ?hzrange ?hzmin
    (case haC => k_is)
    (case haII => k_is)
    (case hlII => k_is)
    (case hcII => k_is)
    (case hkII => k_is)
    (case haA => k_is)
    (case hlA => k_is)
    (case hcA => k_is)
    (case hkA => k_is)
    (case haT => k_is)
    (case hgT => k_is)
    (case htT => k_is)
    (case hrT => k_is)
    (case hlT => k_is)
    (case hcT => k_is)
    (case hkT => k_is)
    (case haB => k_is)
    (case hgB => k_is)
    (case htB => k_is)
    (case hrB => k_is)
    (case hlB => k_is)
    (case hcB => k_is)
    (case hkB => k_is)
    (case haAdd => k_is)
    (case hiAdd => k_is)
    (case hlAdd => k_is)
    (case hcAdd => k_is)
    (case hkAdd => k_is)
    (case haRadd => k_is)
    (case hiRadd => k_is)
    (case hlRadd => k_is)
    (case hcRadd => k_is)
    (case hkRadd => k_is)
    (case haSub => k_is)
    (case hiSub => k_is)
    (case hlSub => k_is)
    (case hcSub => k_is)
    (case hkSub => k_is)
    (case haRsub => k_is)
    (case hiRsub => k_is)
    (case hlRsub => k_is)
    (case hcRsub => k_is)
    (case hkRsub => k_is)
    (case haMul => k_is)
    (case hiMul => k_is)
    (case hlMul => k_is)
    (case hcMul => k_is)
    (case hkMul => k_is)
    (case haRmul => k_is)
    (case hiRmul => k_is)
    (case hlRmul => k_is)
    (case hcRmul => k_is)
    (case hkRmul => k_is)
    (case haNeg => k_is)
    (case hiNeg => k_is)
    (case hlNeg => k_is)
    (case hcNeg => k_is)
    (case hkNeg => k_is)
    (case haOver => k_is)
    (case hiOver => k_is)
    (case hlOver => k_is)
    (case hcOver => k_is)
    (case hkOver => k_is)
    (case haUns => k_is)
    (case hiUns => k_is)
    (case hlUns => k_is)
    (case hcUns => k_is)
    (case hkUns => k_is)
    (case haBel => k_is)
    (case hiBel => k_is)
    (case hlBel => k_is)
    (case hcBel => k_is)
    (case hkBel => k_is)
    (case haAtm => k_is)
    (case hiAtm => k_is)
    (case hlAtm => k_is)
    (case hcAtm => k_is)
    (case hkAtm => k_is)
    (case haEq => k_is)
    (case hiEq => k_is)
    (case hlEq => k_is)
    (case hcEq => k_is)
    (case hkEq => k_is)
    (case haTot => k_is)
    (case hrTot => k_is)
    (case hiTot => k_is)
    (case hlTot => k_is)
    (case hcTot => k_is)
    (case hkTot => k_is)
    (case haStr => k_is)
    (case hiStr => k_is)
    (case hlStr => k_is)
    (case hcStr => k_is)
    (case hkStr => k_is)
    (case haRepr => k_is)
    (case hiRepr => k_is)
    (case hlRepr => k_is)
    (case hcRepr => k_is)
    (case hkRepr => k_is)
    (case haPot => k_is)
    (case hlPot => k_is)
    (case hcPot => k_is)
    (case hkPot => k_is)
    (case haDraw => k_is)
    (case hlDraw => k_is)
    (case hcDraw => k_is)
    (case hkDraw => k_is)
    (case haGcd => k_is)
    (case hlGcd => k_is)
    (case hcGcd => k_is)
    (case hkGcd => k_is)
    (case haLow => k_is)
    (case hlLow => k_is)
    (case hcLow => k_is)
    (case hkLow => k_is)
    (case haIs => k_is)
    (case hlIs => k_is)
    (case hcIs => k_is)
    (case hkIs => k_is)
    (case haDrawn => k_is)
    (case hlDrawn => k_is)
    (case hcDrawn => k_is)
    (case hkDrawn => k_is)
    (case haSums => k_is)
    (case hlSums => k_is)
    (case hcSums => k_is)
    (case hkSums => k_is)
    (case haSg => k_is)
    (case hgSg => k_is)
    (case htSg => k_is)
    (case hrSg => k_is)
    (case hlSg => k_is)
    (case hcSg => k_is)
    (case hkSg => k_is)
    (case haWh => k_is)
    (case hgWh => k_is)
    (case htWh => k_is)
    (case hrWh => k_is)
    (case hlWh => k_is)
    (case hcWh => k_is)
    (case hkWh => k_is)
    (case haRt => k_is)
    (case hlRt => k_is)
    (case hcRt => k_is)
    (case hkRt => k_is)
    (case haLaw => k_is)
    (case hlLaw => k_is)
    (case hcLaw => k_is)
    (case hkLaw => k_is)
    (case haIn => k_is)
    (case hiIn => k_is)
    (case hlIn => k_is)
    (case hcIn => k_is)
    (case hkIn => k_is)
    (case hlD => k_is)
    (case h_pg => k_is)
    (case h_hd => k_is)
    (case h_po => k_is)
    (case h_sa => k_is)
    (case h_mk => k_is)
    (case h_kc => k_is)
    (case h_sf => k_is)
    (case h_ha => k_is)
    (case h_hn => k_is)
    (case h_ht => k_is)
    (case h_hm => k_is)
    (case h_mi => k_is)
    (case h_mb => k_is)
    (case h_ms => k_is)
    (case h_mn => k_is)
    (case h_ne => k_is)
    (case h_nT => k_is)
    (case h_nB => k_is)
    (case h_ty => k_is)
    (case h_rd => k_is)
    (case h_ga => k_is)
    (case h_gc => k_is)
    (case hzisinstance => k_is)
    (case hzint => k_is)
    (case hzbool => k_is)
    (case hzstr => k_is)
    (case hzabs => k_is)
    (case hzlen => k_is)
    (case hzmax => k_is)
    (case hzdivmod => k_is)
    (case hzrepr => k_is)
    (case hzall => k_is)
    (case hzlist => k_is)
    (case hztuple => k_is)
    (case hzzip => k_is)
    (case hzrange => k_is)
    (case hzmin => k_is)
#print axioms PySem.Challenge.cw_pairsfree_k11_ratios_reckoned_holds
