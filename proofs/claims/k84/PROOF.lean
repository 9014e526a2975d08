import PyProof.Rows.All
import Wide.All
import OpenK.AllK
import Wide.FinOn
import HandS.ForMost
import HandS.Property
import HandS.OwnEq
import HandS.IsInst
import HandS.Evl
import HandS.Defaults
import HandS.MakeKw
import HandS.ClsMeth
import HandS.Gcd
import HandS.FStr
import HandS.Zip
import HandS.Wide
import KE.KOpsOwn
import KE.KFmtOwn
import HandS.Star
import HandS.SetFor
import HandS.Strs
import HandS.MakeKwOnly
import HandS.Style
import HandS.TupLe
import HandS.NoneIn
import HandS.Conv
import HandS.HeadNt
import HandS.Head3
import HandS.OwnEq
import KE.DataFind
import HandS.Deep
import KE.SortData
import HandS.Sort
import KE.GoesMore
import KE.GoesEnum
import PyProof.StrLawsRepr
import PySem.Challenge.RW_pairsfree_k84_whole_frames_and_their_tab
set_option Elab.async false
set_option linter.all false
set_option maxRecDepth 100000
set_option maxHeartbeats 4000000
namespace TLH
open PySem PySem.Spec PyProof.Rows L2
abbrev Frag := PySem.W.Frag
abbrev Fc := Frag → Bool
open He (ga ma eqO eqO_ok ba)
open He5 (DefA fnA wf wrapB wrapB_ok)
def ot (b : Bool) (a : Option Bool) : Bool := match a with
  | some c => c == b
  | none => false
theorem ot_ok {b : Bool} {a : Option Bool} (h : ot b a = true) : a = some b := by
  cases a with
  | none => cases h
  | some c => rw [eq_of_beq (show (c == b) = true from h)]
def ov (v : Value) (a : Option Value) : Bool := decide (a = some v)
theorem ov_ok {v : Value} {a : Option Value} (h : ov v a = true) : a = some v := of_decide_eq_true h
def fGlob (x : Str) : Fc := fun K => eqO (PySem.W.nsIn K mainGlobals x) (some (some (.ref (ga K x))))
def fNone (x : Str) : Fc := fun K => eqO (PySem.W.nsIn K mainGlobals x) (some none)
def fBltn (x : Str) (b : String) : Fc := fun K => eqO (PySem.W.nsIn K mainGlobals x) (some (some (.builtin b)))
def fInt (x : Str) (i : Int) : Fc := fun K => (match PySem.W.nsIn K mainGlobals x with
  | some (some (.int j _)) => decide (j = i)
  | _ => false)
def fMeth (x m : Str) : Fc := fun K => eqO (PySem.W.findIn K (.ref (ga K x)) m) (some (some (.ref (ma K (ga K x) m)))) && PySem.W.isFn K (.ref (ma K (ga K x) m))
def pf (K : Frag) (x m : Str) : Addr := wf K (ga K x) "property" m
def fProp (x m : Str) : Fc := fun K => eqO (PySem.W.findIn K (.ref (ga K x)) m) (some (some (.ref (ma K (ga K x) m)))) && (eqO (PySem.W.specialIn K (.ref (ma K (ga K x) m)) "__get__") (some (some (.builtin "property.__get__"))) && (ot true (PySem.W.takesIn K (.ref (ma K (ga K x) m))) && (match PySem.W.recIn K (ma K (ga K x) m) "property" with
  | some (.ref _ :: _) => true
  | _ => false)))
def fNoAt (x a : Str) : Fc := fun K => eqO (PySem.W.findIn K (.ref (ga K x)) a) (some none)
def fCls (x : Str) : Fc := fun K => PySem.W.plainGet K (ga K x) Str.empty && (PySem.W.hasDictIn K (ga K x) && (PySem.W.plainOver K (ga K x) && (eqO (PySem.W.findIn K (.ref (ga K x)) "__setattr__") (some (some (.builtin "object.__setattr__"))) && (PySem.W.makesIn K (ga K x) && (PySem.W.keepIn K (.ref (ga K x)) &&
  (PySem.W.selfFirst K (ga K x) && (eqO (PySem.W.findIn K (.ref (ga K x)) "__class__") (some (some (.builtin "object.__class__"))) && (eqO (PySem.W.specialIn K (.builtin "object.__class__") "__get__") (some (some (.builtin "getset_descriptor.__get__"))) && (ot true (PySem.W.takesIn K (.builtin "object.__class__")) &&
  (ot true (PySem.W.mroIn K (ga K x) (.type "object")) && (ot false (PySem.W.mroIn K (ga K x) (.type "int")) && (ot false (PySem.W.mroIn K (ga K x) (.type "bool")) && (ot false (PySem.W.mroIn K (ga K x) (.type "str")) && (ot false (PySem.W.mroIn K (ga K x) (.type "NoneType")) &&
  (eqO (PySem.W.findIn K (.ref (ga K x)) "__ne__") (some (some (.builtin "object.__ne__"))) && (ot false (PySem.W.mroIn K (ga K x) (.type "list")) && (ot false (PySem.W.mroIn K (ga K x) (.type "tuple")) && (ot false (PySem.W.mroIn K (ga K x) (.type "dict")) && ov (.type "type") (PySem.W.typeIn K (.ref (ga K x)))))))))))))))))))))
section
variable {K : Frag} {x m a : Str}
theorem fGlob_ok (c : fGlob x K = true) : PySem.W.nsIn K mainGlobals x = some (some (.ref (ga K x))) := eqO_ok c
theorem fNone_ok (c : fNone x K = true) : PySem.W.nsIn K mainGlobals x = some none := eqO_ok c
theorem fBltn_ok {b : String} (c : fBltn x b K = true) : PySem.W.nsIn K mainGlobals x = some (some (.builtin b)) := eqO_ok c
theorem fInt_ok {i : Int} (c : fInt x i K = true) : ∃ t, PySem.W.nsIn K mainGlobals x = some (some (.int i t)) := by
  unfold fInt at c
  split at c
  · rename_i j t e
    exact ⟨t, by rw [e, of_decide_eq_true c]⟩
  · cases c
theorem fMeth_ok (c : fMeth x m K = true) : PySem.W.findIn K (.ref (ga K x)) m = some (some (.ref (ma K (ga K x) m))) ∧ PySem.W.isFn K (.ref (ma K (ga K x) m)) = true := ⟨eqO_ok (ba c).1, (ba c).2⟩
theorem fProp_ok (c : fProp x m K = true) : PySem.W.findIn K (.ref (ga K x)) m = some (some (.ref (ma K (ga K x) m))) ∧ PySem.W.specialIn K (.ref (ma K (ga K x) m)) "__get__" = some (some (.builtin "property.__get__")) ∧ PySem.W.takesIn K (.ref (ma K (ga K x) m)) = some true ∧
    ∃ rest, PySem.W.recIn K (ma K (ga K x) m) "property" = some (.ref (pf K x m) :: rest) := by
  obtain ⟨h1, c⟩ := ba c
  obtain ⟨h2, c⟩ := ba c
  obtain ⟨h3, h4⟩ := ba c
  refine ⟨eqO_ok h1, eqO_ok h2, ot_ok h3, ?_⟩
  unfold pf wf
  split at h4
  · rename_i f r e
    exact ⟨r, by rw [e]⟩
  · cases h4
theorem fNoAt_ok (c : fNoAt x a K = true) : PySem.W.findIn K (.ref (ga K x)) a = some none := eqO_ok c
end
def obsC (fn : List DefA) (K : Frag) : He.AlD := (fn.all fun d => d.ok K, fn.map fun d => fnA K (d.at_ K))
def valC (fn : List DefA) : He.AlD := (true, fn.map DefA.val)
abbrev AlH : Type := Bool × List He.AlD
def obsF (fc : List (List Fc)) (K : Frag) : Bool := fc.all fun l => l.all fun f => f K
def obsH (fc : List (List Fc)) (fn : List (List DefA)) (K : Frag) : AlH := (obsF fc K, fn.map fun l => obsC l K)
def valH (fn : List (List DefA)) : AlH := (true, fn.map valC)
def SaysH (fc : List (List Fc)) (fn : List (List DefA)) (K : Frag) : Prop := obsH fc fn K = valH fn
def obsHG (as : List Addr) (fc : List (List Fc)) (fn : List (List DefA)) (g : Addr → Option Obj) : AlH := obsH fc fn (He.frG g as)
def hookH (as : List Addr) (fc : List (List Fc)) (fn : List (List DefA)) : PySem.W.Hook where
  α := AlH
  obs := fun s => obsHG as fc fn s.heap.get?
  val := fun _ => valH fn
  says := fun _ h => ∃ K : Frag, K.In h ∧ SaysH fc fn K
  of := fun _ _ e => ⟨_, He.frG_in, e⟩
  keeps := fun _ _ _ ⟨K, hK, c⟩ k => ⟨K, PySem.W.Frag.In.keeps hK k, c⟩
theorem obsHG_eq {as : List Addr} {fc : List (List Fc)} {fn : List (List DefA)} {g : Addr → Option Obj} {s : Shared} (h : ∀ a, g a = s.heap.get? a) : obsHG as fc fn g = (hookH as fc fn).obs s := by
  have e : g = s.heap.get? := funext h
  rw [e] <;> rfl
section
variable {fc : List (List Fc)} {fn : List (List DefA)} {K : Frag}
theorem SaysH.fact (c : SaysH fc fn K) (i j : Nat) {l : List Fc} {f : Fc} (h : fc[i]? = some l := by rfl) (h2 : l[j]? = some f := by rfl) : f K = true := by
  have c1 : (fc.all fun l => l.all fun f => f K) = true := congrArg (fun z : AlH => z.1) c
  have c2 := List.all_eq_true.mp c1 l (List.mem_of_getElem? h)
  exact List.all_eq_true.mp c2 f (List.mem_of_getElem? h2)
theorem SaysH.def_ (c : SaysH fc fn K) (i j : Nat) {l : List DefA} {d : DefA} (h : fn[i]? = some l := by rfl) (h2 : l[j]? = some d := by rfl) : ∃ fd, L2.FunD K d.name d.qual d.params d.body d.scope (d.dvs K) (d.kws K) (d.at_ K) fd := by
  have e0 : (fn.map fun l => obsC l K) = fn.map valC := congrArg (fun z : AlH => z.2) c
  have e1 : (fn.map fun l => obsC l K)[i]? = (fn.map valC)[i]? := by rw [e0]
  rw [List.getElem?_map, List.getElem?_map, h] at e1
  have e3 : obsC l K = valC l := Option.some.inj e1
  have c2 : (l.all fun d => d.ok K) = true := congrArg (fun z : He.AlD => z.1) e3
  have e : l.map (fun d => fnA K (d.at_ K)) = l.map DefA.val := congrArg (fun z : He.AlD => z.2) e3
  have e2 : (l.map fun d => fnA K (d.at_ K))[j]? = (l.map DefA.val)[j]? := by rw [e]
  rw [List.getElem?_map, List.getElem?_map, h2] at e2
  exact DefA.funD (Option.some.inj e2) (List.all_eq_true.mp c2 d (List.mem_of_getElem? h2))
end
end TLH
namespace TL
open PySem PySem.Spec PyProof.Rows L2
def top (i : Nat) : Stmt := PySem.Challenge.pw_pairsfree_k84_whole_frames_and_their_tab.main.body.getD i (.Pass ⟨0, 0, 0, 0⟩)
abbrev s_is_integer : Stmt := top 3
abbrev s_is_count : Stmt := top 4
abbrev s_Ratio_init : Stmt := inClass (top 15) 0
abbrev s_Ratio_top : Stmt := inClass (top 15) 1
abbrev s_Ratio_bottom : Stmt := inClass (top 15) 2
abbrev s_Ratio_add : Stmt := inClass (top 15) 5
abbrev s_Ratio_radd : Stmt := inClass (top 15) 6
abbrev s_Ratio_sub : Stmt := inClass (top 15) 7
abbrev s_Ratio_rsub : Stmt := inClass (top 15) 8
abbrev s_Ratio_mul : Stmt := inClass (top 15) 9
abbrev s_Ratio_rmul : Stmt := inClass (top 15) 10
abbrev s_Ratio_neg : Stmt := inClass (top 15) 11
abbrev s_Ratio_eq : Stmt := inClass (top 15) 16
abbrev s_Ratio_repr : Stmt := inClass (top 15) 19
abbrev s_is_number : Stmt := top 16
abbrev s_as_ratio : Stmt := top 17
abbrev s_ratio_row : Stmt := top 18
abbrev s_is_list : Stmt := top 20
abbrev s_is_row : Stmt := top 21
abbrev s_are_rows : Stmt := top 22
abbrev s_is_position : Stmt := top 23
abbrev s_is_positions : Stmt := top 24
abbrev s_is_rising : Stmt := top 25
abbrev s_is_rising_tuple : Stmt := top 26
abbrev s_check_size : Stmt := top 27
abbrev s_Pairs_init : Stmt := inClass (top 31) 0
abbrev s_Pairs_size : Stmt := inClass (top 31) 1
abbrev s_Pairs_eq : Stmt := inClass (top 31) 6
abbrev s_is_pair : Stmt := top 32
abbrev s_copied_pair : Stmt := top 33
abbrev s_Frame_init : Stmt := inClass (top 37) 0
abbrev s_Frame_many : Stmt := inClass (top 37) 1
abbrev s_Frame_points : Stmt := inClass (top 37) 2
abbrev s_Frame_bars : Stmt := inClass (top 37) 3
abbrev s_Frame_eq : Stmt := inClass (top 37) 4
abbrev s_Frame_repr : Stmt := inClass (top 37) 5
abbrev s_bar_table : Stmt := top 38
abbrev s_frame_pairs : Stmt := top 39
abbrev s_check_frame : Stmt := top 40
abbrev s_is_point : Stmt := top 41
abbrev s_bar_row : Stmt := top 42
abbrev s_column : Stmt := top 43
abbrev s_law_pot : Stmt := top 45
abbrev s_law_draw : Stmt := top 46
abbrev s_law_pick : Stmt := top 47
abbrev s_law_frame : Stmt := top 48
abbrev s_law_made : Stmt := top 49
abbrev s_law_table : Stmt := top 50
abbrev s_law_halves : Stmt := top 51
abbrev s_law_told_right : Stmt := top 52
abbrev s_law_new_right : Stmt := top 53
abbrev s_law_right : Stmt := top 54
abbrev s_law : Stmt := top 55
def dd_Frame_bars : He5.DefA := { at_ := fun K => He.ma K (He.ga K "Frame") "bars", name := "bars", qual := "Frame.bars", params := defArgs s_Frame_bars, body := defBody s_Frame_bars, scope := defScope s_Frame_bars, dfl := [], kwd := [] }
def dd_Frame_eq : He5.DefA := { at_ := fun K => He.ma K (He.ga K "Frame") "__eq__", name := "__eq__", qual := "Frame.__eq__", params := defArgs s_Frame_eq, body := defBody s_Frame_eq, scope := defScope s_Frame_eq, dfl := [], kwd := [] }
def dd_Frame_init : He5.DefA := { at_ := fun K => He.ma K (He.ga K "Frame") "__init__", name := "__init__", qual := "Frame.__init__", params := defArgs s_Frame_init, body := defBody s_Frame_init, scope := defScope s_Frame_init, dfl := [], kwd := [] }
def dd_Frame_many : He5.DefA := { at_ := fun K => TLH.pf K "Frame" "many", name := "many", qual := "Frame.many", params := defArgs s_Frame_many, body := defBody s_Frame_many, scope := defScope s_Frame_many, dfl := [], kwd := [] }
def dd_Frame_points : He5.DefA := { at_ := fun K => He.ma K (He.ga K "Frame") "points", name := "points", qual := "Frame.points", params := defArgs s_Frame_points, body := defBody s_Frame_points, scope := defScope s_Frame_points, dfl := [], kwd := [] }
def dd_Frame_repr : He5.DefA := { at_ := fun K => He.ma K (He.ga K "Frame") "__repr__", name := "__repr__", qual := "Frame.__repr__", params := defArgs s_Frame_repr, body := defBody s_Frame_repr, scope := defScope s_Frame_repr, dfl := [], kwd := [] }
def dd_Pairs_eq : He5.DefA := { at_ := fun K => He.ma K (He.ga K "Pairs") "__eq__", name := "__eq__", qual := "Pairs.__eq__", params := defArgs s_Pairs_eq, body := defBody s_Pairs_eq, scope := defScope s_Pairs_eq, dfl := [], kwd := [] }
def dd_Pairs_init : He5.DefA := { at_ := fun K => He.ma K (He.ga K "Pairs") "__init__", name := "__init__", qual := "Pairs.__init__", params := defArgs s_Pairs_init, body := defBody s_Pairs_init, scope := defScope s_Pairs_init, dfl := [], kwd := [] }
def dd_Pairs_size : He5.DefA := { at_ := fun K => TLH.pf K "Pairs" "size", name := "size", qual := "Pairs.size", params := defArgs s_Pairs_size, body := defBody s_Pairs_size, scope := defScope s_Pairs_size, dfl := [], kwd := [] }
def dd_Ratio_add : He5.DefA := { at_ := fun K => He.ma K (He.ga K "Ratio") "__add__", name := "__add__", qual := "Ratio.__add__", params := defArgs s_Ratio_add, body := defBody s_Ratio_add, scope := defScope s_Ratio_add, dfl := [], kwd := [] }
def dd_Ratio_bottom : He5.DefA := { at_ := fun K => TLH.pf K "Ratio" "bottom", name := "bottom", qual := "Ratio.bottom", params := defArgs s_Ratio_bottom, body := defBody s_Ratio_bottom, scope := defScope s_Ratio_bottom, dfl := [], kwd := [] }
def dd_Ratio_eq : He5.DefA := { at_ := fun K => He.ma K (He.ga K "Ratio") "__eq__", name := "__eq__", qual := "Ratio.__eq__", params := defArgs s_Ratio_eq, body := defBody s_Ratio_eq, scope := defScope s_Ratio_eq, dfl := [], kwd := [] }
def dd_Ratio_init : He5.DefA := { at_ := fun K => He.ma K (He.ga K "Ratio") "__init__", name := "__init__", qual := "Ratio.__init__", params := defArgs s_Ratio_init, body := defBody s_Ratio_init, scope := defScope s_Ratio_init, dfl := [.int 1], kwd := [] }
def dd_Ratio_mul : He5.DefA := { at_ := fun K => He.ma K (He.ga K "Ratio") "__mul__", name := "__mul__", qual := "Ratio.__mul__", params := defArgs s_Ratio_mul, body := defBody s_Ratio_mul, scope := defScope s_Ratio_mul, dfl := [], kwd := [] }
def dd_Ratio_neg : He5.DefA := { at_ := fun K => He.ma K (He.ga K "Ratio") "__neg__", name := "__neg__", qual := "Ratio.__neg__", params := defArgs s_Ratio_neg, body := defBody s_Ratio_neg, scope := defScope s_Ratio_neg, dfl := [], kwd := [] }
def dd_Ratio_radd : He5.DefA := { at_ := fun K => He.ma K (He.ga K "Ratio") "__radd__", name := "__radd__", qual := "Ratio.__radd__", params := defArgs s_Ratio_radd, body := defBody s_Ratio_radd, scope := defScope s_Ratio_radd, dfl := [], kwd := [] }
def dd_Ratio_repr : He5.DefA := { at_ := fun K => He.ma K (He.ga K "Ratio") "__repr__", name := "__repr__", qual := "Ratio.__repr__", params := defArgs s_Ratio_repr, body := defBody s_Ratio_repr, scope := defScope s_Ratio_repr, dfl := [], kwd := [] }
def dd_Ratio_rmul : He5.DefA := { at_ := fun K => He.ma K (He.ga K "Ratio") "__rmul__", name := "__rmul__", qual := "Ratio.__rmul__", params := defArgs s_Ratio_rmul, body := defBody s_Ratio_rmul, scope := defScope s_Ratio_rmul, dfl := [], kwd := [] }
def dd_Ratio_rsub : He5.DefA := { at_ := fun K => He.ma K (He.ga K "Ratio") "__rsub__", name := "__rsub__", qual := "Ratio.__rsub__", params := defArgs s_Ratio_rsub, body := defBody s_Ratio_rsub, scope := defScope s_Ratio_rsub, dfl := [], kwd := [] }
def dd_Ratio_sub : He5.DefA := { at_ := fun K => He.ma K (He.ga K "Ratio") "__sub__", name := "__sub__", qual := "Ratio.__sub__", params := defArgs s_Ratio_sub, body := defBody s_Ratio_sub, scope := defScope s_Ratio_sub, dfl := [], kwd := [] }
def dd_Ratio_top : He5.DefA := { at_ := fun K => TLH.pf K "Ratio" "top", name := "top", qual := "Ratio.top", params := defArgs s_Ratio_top, body := defBody s_Ratio_top, scope := defScope s_Ratio_top, dfl := [], kwd := [] }
def dd_are_rows : He5.DefA := { at_ := fun K => He.ga K "are_rows", name := "are_rows", qual := "are_rows", params := defArgs s_are_rows, body := defBody s_are_rows, scope := defScope s_are_rows, dfl := [], kwd := [] }
def dd_as_ratio : He5.DefA := { at_ := fun K => He.ga K "as_ratio", name := "as_ratio", qual := "as_ratio", params := defArgs s_as_ratio, body := defBody s_as_ratio, scope := defScope s_as_ratio, dfl := [], kwd := [] }
def dd_bar_row : He5.DefA := { at_ := fun K => He.ga K "bar_row", name := "bar_row", qual := "bar_row", params := defArgs s_bar_row, body := defBody s_bar_row, scope := defScope s_bar_row, dfl := [], kwd := [] }
def dd_bar_table : He5.DefA := { at_ := fun K => He.ga K "bar_table", name := "bar_table", qual := "bar_table", params := defArgs s_bar_table, body := defBody s_bar_table, scope := defScope s_bar_table, dfl := [], kwd := [] }
def dd_check_frame : He5.DefA := { at_ := fun K => He.ga K "check_frame", name := "check_frame", qual := "check_frame", params := defArgs s_check_frame, body := defBody s_check_frame, scope := defScope s_check_frame, dfl := [], kwd := [] }
def dd_check_size : He5.DefA := { at_ := fun K => He.ga K "check_size", name := "check_size", qual := "check_size", params := defArgs s_check_size, body := defBody s_check_size, scope := defScope s_check_size, dfl := [], kwd := [] }
def dd_column : He5.DefA := { at_ := fun K => He.ga K "column", name := "column", qual := "column", params := defArgs s_column, body := defBody s_column, scope := defScope s_column, dfl := [], kwd := [] }
def dd_copied_pair : He5.DefA := { at_ := fun K => He.ga K "copied_pair", name := "copied_pair", qual := "copied_pair", params := defArgs s_copied_pair, body := defBody s_copied_pair, scope := defScope s_copied_pair, dfl := [], kwd := [] }
def dd_frame_pairs : He5.DefA := { at_ := fun K => He.ga K "frame_pairs", name := "frame_pairs", qual := "frame_pairs", params := defArgs s_frame_pairs, body := defBody s_frame_pairs, scope := defScope s_frame_pairs, dfl := [], kwd := [] }
def dd_is_count : He5.DefA := { at_ := fun K => He.ga K "is_count", name := "is_count", qual := "is_count", params := defArgs s_is_count, body := defBody s_is_count, scope := defScope s_is_count, dfl := [], kwd := [] }
def dd_is_integer : He5.DefA := { at_ := fun K => He.ga K "is_integer", name := "is_integer", qual := "is_integer", params := defArgs s_is_integer, body := defBody s_is_integer, scope := defScope s_is_integer, dfl := [], kwd := [] }
def dd_is_list : He5.DefA := { at_ := fun K => He.ga K "is_list", name := "is_list", qual := "is_list", params := defArgs s_is_list, body := defBody s_is_list, scope := defScope s_is_list, dfl := [], kwd := [] }
def dd_is_number : He5.DefA := { at_ := fun K => He.ga K "is_number", name := "is_number", qual := "is_number", params := defArgs s_is_number, body := defBody s_is_number, scope := defScope s_is_number, dfl := [], kwd := [] }
def dd_is_pair : He5.DefA := { at_ := fun K => He.ga K "is_pair", name := "is_pair", qual := "is_pair", params := defArgs s_is_pair, body := defBody s_is_pair, scope := defScope s_is_pair, dfl := [], kwd := [] }
def dd_is_point : He5.DefA := { at_ := fun K => He.ga K "is_point", name := "is_point", qual := "is_point", params := defArgs s_is_point, body := defBody s_is_point, scope := defScope s_is_point, dfl := [], kwd := [] }
def dd_is_position : He5.DefA := { at_ := fun K => He.ga K "is_position", name := "is_position", qual := "is_position", params := defArgs s_is_position, body := defBody s_is_position, scope := defScope s_is_position, dfl := [], kwd := [] }
def dd_is_positions : He5.DefA := { at_ := fun K => He.ga K "is_positions", name := "is_positions", qual := "is_positions", params := defArgs s_is_positions, body := defBody s_is_positions, scope := defScope s_is_positions, dfl := [], kwd := [] }
def dd_is_rising : He5.DefA := { at_ := fun K => He.ga K "is_rising", name := "is_rising", qual := "is_rising", params := defArgs s_is_rising, body := defBody s_is_rising, scope := defScope s_is_rising, dfl := [], kwd := [] }
def dd_is_rising_tuple : He5.DefA := { at_ := fun K => He.ga K "is_rising_tuple", name := "is_rising_tuple", qual := "is_rising_tuple", params := defArgs s_is_rising_tuple, body := defBody s_is_rising_tuple, scope := defScope s_is_rising_tuple, dfl := [], kwd := [] }
def dd_is_row : He5.DefA := { at_ := fun K => He.ga K "is_row", name := "is_row", qual := "is_row", params := defArgs s_is_row, body := defBody s_is_row, scope := defScope s_is_row, dfl := [], kwd := [] }
def dd_law : He5.DefA := { at_ := fun K => He.ga K "law", name := "law", qual := "law", params := defArgs s_law, body := defBody s_law, scope := defScope s_law, dfl := [], kwd := [] }
def dd_law_draw : He5.DefA := { at_ := fun K => He.ga K "_law_draw", name := "_law_draw", qual := "_law_draw", params := defArgs s_law_draw, body := defBody s_law_draw, scope := defScope s_law_draw, dfl := [], kwd := [] }
def dd_law_frame : He5.DefA := { at_ := fun K => He.ga K "_law_frame", name := "_law_frame", qual := "_law_frame", params := defArgs s_law_frame, body := defBody s_law_frame, scope := defScope s_law_frame, dfl := [], kwd := [] }
def dd_law_halves : He5.DefA := { at_ := fun K => He.ga K "_law_halves", name := "_law_halves", qual := "_law_halves", params := defArgs s_law_halves, body := defBody s_law_halves, scope := defScope s_law_halves, dfl := [], kwd := [] }
def dd_law_made : He5.DefA := { at_ := fun K => He.ga K "_law_made", name := "_law_made", qual := "_law_made", params := defArgs s_law_made, body := defBody s_law_made, scope := defScope s_law_made, dfl := [], kwd := [] }
def dd_law_new_right : He5.DefA := { at_ := fun K => He.ga K "_law_new_right", name := "_law_new_right", qual := "_law_new_right", params := defArgs s_law_new_right, body := defBody s_law_new_right, scope := defScope s_law_new_right, dfl := [], kwd := [] }
def dd_law_pick : He5.DefA := { at_ := fun K => He.ga K "_law_pick", name := "_law_pick", qual := "_law_pick", params := defArgs s_law_pick, body := defBody s_law_pick, scope := defScope s_law_pick, dfl := [], kwd := [] }
def dd_law_pot : He5.DefA := { at_ := fun K => He.ga K "_law_pot", name := "_law_pot", qual := "_law_pot", params := defArgs s_law_pot, body := defBody s_law_pot, scope := defScope s_law_pot, dfl := [], kwd := [] }
def dd_law_right : He5.DefA := { at_ := fun K => He.ga K "_law_right", name := "_law_right", qual := "_law_right", params := defArgs s_law_right, body := defBody s_law_right, scope := defScope s_law_right, dfl := [], kwd := [] }
def dd_law_table : He5.DefA := { at_ := fun K => He.ga K "_law_table", name := "_law_table", qual := "_law_table", params := defArgs s_law_table, body := defBody s_law_table, scope := defScope s_law_table, dfl := [], kwd := [] }
def dd_law_told_right : He5.DefA := { at_ := fun K => He.ga K "_law_told_right", name := "_law_told_right", qual := "_law_told_right", params := defArgs s_law_told_right, body := defBody s_law_told_right, scope := defScope s_law_told_right, dfl := [], kwd := [] }
def dd_ratio_row : He5.DefA := { at_ := fun K => He.ga K "ratio_row", name := "ratio_row", qual := "ratio_row", params := defArgs s_ratio_row, body := defBody s_ratio_row, scope := defScope s_ratio_row, dfl := [], kwd := [] }
def fc0 : List TLH.Fc := [TLH.fGlob "law", TLH.fCls "Ratio", TLH.fCls "Pairs", TLH.fCls "Frame", TLH.fGlob "Ratio", TLH.fNoAt "Ratio" "_top", TLH.fNoAt "Ratio" "_bottom", TLH.fGlob "Pairs", TLH.fNoAt "Pairs" "_size", TLH.fNoAt "Pairs" "_rows", TLH.fGlob "Frame", TLH.fNoAt "Frame" "_points", TLH.fNoAt "Frame" "_bars", TLH.fInt "MOST_PAIRS" 8, TLH.fInt "MOST_POINTS" 5, TLH.fInt "MOST_BARS" 8, TLH.fGlob "is_integer", TLH.fGlob "is_count", TLH.fMeth "Ratio" "__init__", TLH.fProp "Ratio" "top", TLH.fProp "Ratio" "bottom", TLH.fMeth "Ratio" "__add__", TLH.fMeth "Ratio" "__radd__", TLH.fMeth "Ratio" "__sub__", TLH.fMeth "Ratio" "__rsub__"]
def fc1 : List TLH.Fc := [TLH.fMeth "Ratio" "__mul__", TLH.fMeth "Ratio" "__rmul__", TLH.fMeth "Ratio" "__neg__", TLH.fMeth "Ratio" "__eq__", TLH.fMeth "Ratio" "__repr__", TLH.fGlob "is_number", TLH.fGlob "as_ratio", TLH.fGlob "ratio_row", TLH.fGlob "is_list", TLH.fGlob "is_row", TLH.fGlob "are_rows", TLH.fGlob "is_position", TLH.fGlob "is_positions", TLH.fGlob "is_rising", TLH.fGlob "is_rising_tuple", TLH.fGlob "check_size", TLH.fMeth "Pairs" "__init__", TLH.fProp "Pairs" "size", TLH.fMeth "Pairs" "__eq__", TLH.fGlob "is_pair", TLH.fGlob "copied_pair", TLH.fMeth "Frame" "__init__", TLH.fProp "Frame" "many", TLH.fMeth "Frame" "points", TLH.fMeth "Frame" "bars"]
def fc2 : List TLH.Fc := [TLH.fMeth "Frame" "__eq__", TLH.fMeth "Frame" "__repr__", TLH.fGlob "bar_table", TLH.fGlob "frame_pairs", TLH.fGlob "check_frame", TLH.fGlob "is_point", TLH.fGlob "bar_row", TLH.fGlob "column", TLH.fGlob "_law_pot", TLH.fGlob "_law_draw", TLH.fGlob "_law_pick", TLH.fGlob "_law_frame", TLH.fGlob "_law_made", TLH.fGlob "_law_table", TLH.fGlob "_law_halves", TLH.fGlob "_law_told_right", TLH.fGlob "_law_new_right", TLH.fGlob "_law_right", TLH.fNone "abs", TLH.fNone "all", TLH.fNone "bool", TLH.fNone "divmod", TLH.fNone "int", TLH.fNone "isinstance", TLH.fNone "len"]
def fc3 : List TLH.Fc := [TLH.fNone "list", TLH.fNone "max", TLH.fNone "range", TLH.fNone "repr", TLH.fNone "set", TLH.fNone "sorted", TLH.fNone "tuple", TLH.fBltn "gcd" "math.gcd"]
def fcs : List (List TLH.Fc) := [fc0, fc1, fc2, fc3]
def fn0 : List He5.DefA := [dd_Frame_bars, dd_Frame_eq, dd_Frame_init, dd_Frame_many, dd_Frame_points, dd_Frame_repr, dd_Pairs_eq, dd_Pairs_init, dd_Pairs_size, dd_Ratio_add, dd_Ratio_bottom, dd_Ratio_eq, dd_Ratio_init, dd_Ratio_mul, dd_Ratio_neg, dd_Ratio_radd, dd_Ratio_repr, dd_Ratio_rmul, dd_Ratio_rsub, dd_Ratio_sub, dd_Ratio_top, dd_are_rows, dd_as_ratio, dd_bar_row, dd_bar_table, dd_check_frame, dd_check_size, dd_column, dd_copied_pair, dd_frame_pairs, dd_is_count, dd_is_integer, dd_is_list, dd_is_number, dd_is_pair, dd_is_point, dd_is_position, dd_is_positions, dd_is_rising, dd_is_rising_tuple, dd_is_row, dd_law, dd_law_draw, dd_law_frame, dd_law_halves, dd_law_made, dd_law_new_right, dd_law_pick]
def fn1 : List He5.DefA := [dd_law_pot, dd_law_right, dd_law_table, dd_law_told_right, dd_ratio_row]
def fns : List (List He5.DefA) := [fn0, fn1]
section
open PySem PySem.W PySem.Calls PyProof.Rows
def as0 : List Addr := [2, 3, 43, 45, 46, 48, 49, 50, 52, 53, 55, 56, 57, 59, 60, 62, 63, 64, 71, 72, 73, 74, 77, 84, 86, 87, 89, 90, 91, 92, 93, 96, 103, 105, 106, 108, 109, 110, 111, 112, 115, 122, 124, 125, 127, 128, 129, 130, 131, 134, 141, 143, 144, 146, 147, 148, 149, 150, 153, 160]
def as1 : List Addr := [162, 163, 165, 166, 167, 168, 169, 172, 179, 181, 182, 184, 185, 186, 187, 188, 191, 198, 200, 201, 203, 204, 205, 206, 207, 217, 218, 220, 221, 223, 224, 225, 227, 228, 230, 231, 232, 233, 235, 236, 238, 239, 240, 241, 243, 244, 246, 247, 248, 249, 251, 252, 254, 255, 256, 257, 259, 260, 262, 263]
def as2 : List Addr := [264, 266, 267, 269, 270, 271, 273, 274, 276, 277, 278, 280, 281, 283, 284, 285, 287, 288, 290, 291, 292, 294, 295, 297, 298, 299, 301, 302, 304, 305, 306, 308, 309, 311, 312, 313, 315, 316, 318, 319, 320, 322, 323, 325, 326, 327, 329, 330, 332, 333, 334, 336, 337, 339, 340, 341, 343, 344, 346, 347]
def as3 : List Addr := [348, 349, 350, 351, 353, 354, 356, 357, 358, 360, 361, 363, 364, 365, 366, 367, 368, 369, 372, 374, 375, 377, 378, 379, 381, 382, 384, 385, 386, 389, 390, 391, 393, 394, 396, 397, 398, 401, 402, 403, 406, 407, 408, 410, 411, 413, 414, 415, 418, 419, 420, 422, 423, 425, 426, 427, 429, 430, 432, 433]
def as4 : List Addr := [434, 436, 437, 439, 440, 441, 443, 444, 446, 447, 455, 458, 459, 460, 462, 463, 465, 466, 467, 468, 470, 471, 473, 474, 475, 476, 478, 479, 481, 482, 483, 485, 486, 488, 489, 490, 492, 493, 495, 496, 497, 499, 500, 502, 503, 504, 506, 507, 509, 510, 511, 512, 513, 514, 515, 518, 520, 521, 523, 524]
def as5 : List Addr := [525, 527, 528, 530, 531, 539, 542, 543, 544, 546, 547, 549, 550, 551, 552, 554, 555, 557, 558, 559, 561, 562, 564, 565, 566, 568, 569, 571, 572, 573, 575, 576, 578, 579, 580, 581, 582, 583, 584, 587, 590, 591, 592, 595, 596, 597, 599, 600, 602, 603, 604, 606, 607, 609, 610, 611, 613, 614, 616, 617]
def as6 : List Addr := [618, 621, 622, 623, 625, 626, 628, 629, 630, 632, 633, 635, 636, 637, 639, 640, 642, 643, 644, 647, 648, 649, 652, 653, 654, 656, 657, 659, 660, 661, 663, 664, 666, 667, 668, 671, 672, 673, 675, 676, 678, 679, 680, 682, 683, 685, 686, 687, 689, 690, 692, 693]
def asL : List Addr := as0 ++ (as1 ++ (as2 ++ (as3 ++ (as4 ++ (as5 ++ (as6))))))
def nms0 : List PySem.Str := ["_wall", "is_integer", "is_count", "RowError", "InvalidFrame", "InvalidNumber", "InvalidPlace", "InvalidRows", "InvalidSize", "InvalidBars", "InvalidPoints", "Ratio", "is_number", "as_ratio", "ratio_row", "is_list", "is_row", "are_rows", "is_position", "is_positions", "is_rising", "is_rising_tuple", "check_size", "check_place", "MOST_PAIRS", "Pairs", "is_pair", "copied_pair", "MOST_POINTS", "MOST_BARS"]
def nms1 : List PySem.Str := ["Frame", "bar_table", "frame_pairs", "check_frame", "is_point", "bar_row", "column", "_law_pot", "_law_draw", "_law_pick", "_law_frame", "_law_made", "_law_table", "_law_halves", "_law_told_right", "_law_new_right", "_law_right"]
def nms : List PySem.Str := nms0 ++ (nms1)
abbrev hdR : OpenRow := OpenLaw.row PySem.Challenge.rw_pairsfree_k84_whole_frames_and_their_tab
abbrev hdQ : Program := view hdR.prog [0, 55]
abbrev hdH : Hook := TLH.hookH asL fcs fns
def hdO (s : SharedT) : TLH.AlH := TLH.obsHG asL fcs fns (HandSHeadRun.getT s)
theorem hdO_eq (s : SharedT) : hdO s = hdH.obs s.abs := TLH.obsHG_eq (HandSHeadRun.getT_eq s)
noncomputable def hdW (w : World) : Option (Shared × SharedT) := HandSHeadRun.wholeF (fun p => HandSHeadRun.stepQ (HandSHeadRun.denQ HandSHeadRun.tabQ) p w) HandSHeadRun.fenceQ 40000 hdR.prog
set_option maxRecDepth 100000 in
set_option maxHeartbeats 0 in
theorem hd_run0 (w : World) : (hdW w).map (fun x => (HandSHeadRun.looksF hdR.prog x.1.heap x.2.abs, HandSHeadRun.seenQ hdQ nms (importedModules hdR.prog.main.body) (fun s => xlAt hdQ [] s && recOk hdR.toRowW.records s) x.2.abs, TLH.obsF fcs (He.frG (HandSHeadRun.getT x.2) asL))) = some (true, openGood hdQ nms, true) := by
  kernel_rfl
set_option maxRecDepth 100000 in
set_option maxHeartbeats 0 in
theorem hd_runF0 (w : World) : (hdW w).map (fun x => TLH.obsC fn0 (He.frG (HandSHeadRun.getT x.2) asL)) = some (TLH.valC fn0) := by
  kernel_rfl
set_option maxRecDepth 100000 in
set_option maxHeartbeats 0 in
theorem hd_runF1 (w : World) : (hdW w).map (fun x => TLH.obsC fn1 (He.frG (HandSHeadRun.getT x.2) asL)) = some (TLH.valC fn1) := by
  kernel_rfl
theorem hd_run (w : World) : HandSHeadRun.RunEqI hdR hdQ hdH hdO 40000 nms w := by
  obtain ⟨x, hx, e0⟩ := Option.map_eq_some_iff.mp (hd_run0 w)
  obtain ⟨e1, e2, e3⟩ : _ ∧ _ ∧ _ := by simpa only [Prod.mk.injEq] using e0
  have f0 : TLH.obsC fn0 (He.frG (HandSHeadRun.getT x.2) asL) = TLH.valC fn0 := by
    have z := hd_runF0 w
    rw [hx] at z
    exact Option.some.inj z
  have f1 : TLH.obsC fn1 (He.frG (HandSHeadRun.getT x.2) asL) = TLH.valC fn1 := by
    have z := hd_runF1 w
    rw [hx] at z
    exact Option.some.inj z
  show (hdW w).map _ = _
  rw [hx]
  refine congrArg some (Prod.ext e1 (Prod.ext e2 (Prod.ext e3 ?_)))
  show [TLH.obsC fn0 (He.frG (HandSHeadRun.getT x.2) asL), TLH.obsC fn1 (He.frG (HandSHeadRun.getT x.2) asL)] = _
  rw [f0, f1]
  rfl
end
end TL
namespace PF
open PySem L2 Evl
abbrev DV := V → Hp → Prop
class Mn (D : DV) : Prop where
  mono : ∀ {v : V} {H H' : Hp}, Ex H H' → D v H → D v H'
/-- e gives a value of the description -/
def Yd (te : TE) (σ : L2.St) (H : Hp) (D : DV) : Prop := ∀ H1, Ex H H1 → ∀ Q : VK, (∀ v H2, Ex H1 H2 → D v H2 → Q v H2) → te σ H1 Q
def YdA (ta : TA) (σ : L2.St) (H : Hp) (P : List V → Hp → Prop) : Prop := ∀ H1, Ex H H1 → ∀ Q : List V → Hp → Prop, (∀ vs H2, Ex H1 H2 → P vs H2 → Q vs H2) → ta σ H1 Q
/-- a value as it stands -/
def Is (w : V) : DV := fun v _ => v = w
instance : Mn (Is w) := ⟨fun _ h => h⟩
class MnA (P : List V → Hp → Prop) : Prop where
  mono : ∀ {vs : List V} {H H' : Hp}, Ex H H' → P vs H → P vs H'
def ANil : List V → Hp → Prop := fun vs _ => vs = []
def ACons (D : DV) (P : List V → Hp → Prop) : List V → Hp → Prop := fun vs H => ∃ x xs, vs = x :: xs ∧ D x H ∧ P xs H
instance : MnA ANil := ⟨fun _ h => h⟩
instance [Mn D] [MnA P] : MnA (ACons D P) := ⟨fun e h => by
  obtain ⟨x, xs, e1, h1, h2⟩ := h
  exact ⟨x, xs, e1, Mn.mono e h1, MnA.mono e h2⟩⟩
section
variable {K : PySem.W.Frag} {σ : L2.St} {H H' : Hp} {ta tb te tx : TE} {t u : TT} {x y z v : V} {r : R2} {D Da Db : DV} {P : List V → Hp → Prop}
theorem Yd.up (e : Ex H H') (h : Yd te σ H D) : Yd te σ H' D := fun H1 a Q q => h H1 (e.trans a) Q q
theorem YdA.up {ta : TA} (e : Ex H H') (h : YdA ta σ H P) : YdA ta σ H' P := fun H1 a Q q => h H1 (e.trans a) Q q
theorem Yd.imp (h : Yd te σ H Da) (hd : ∀ v H1, Ex H H1 → Da v H1 → D v H1) : Yd te σ H D := fun H1 a Q q => h H1 a Q fun v H2 e d => q v H2 e (hd v H2 (a.trans e) d)
theorem yd_ev (h : Ev te σ H v) : Yd te σ H (Is v) := fun H1 a Q q => h H1 a Q fun H2 e => q v H2 e rfl
theorem ya_ev {ta : TA} {vs : List V} (h : EvA ta σ H vs) : YdA ta σ H (fun ws _ => ws = vs) := fun H1 e Q q => h H1 e Q fun H2 e2 => q vs H2 e2 rfl
theorem yd_cb {r : List V → Hp → VK → Prop} {ta : TA} (h : YdA ta σ H P) (hr : ∀ vs H1, Ex H H1 → P vs H1 → ∀ Q : VK, (∀ v H2, Ex H1 H2 → D v H2 → Q v H2) → r vs H1 Q) : Yd (tCB r ta) σ H D := fun H1 e Q q =>
  h H1 e _ fun vs H2 e2 p => hr vs H2 (e.trans e2) p Q fun v H3 e3 d => q v H3 (e2.trans e3) d
variable {D' : Ends} {tu tw tz : TS}
theorem s_asgD {i : Nat} (h : Yd te σ H D) (k : ∀ v H1, Ex H H1 → D v H1 → D'.nx (σ.set i (some v)) H1) : tAsg te (gName i) D' σ H := h H (Ex.refl H) _ fun v H1 e d => k v H1 e d
theorem q_asgD {i : Nat} (h : Yd te σ H D) (k : ∀ v H1, Ex H H1 → D v H1 → tz D' (σ.set i (some v)) H1) : tSeq (tAsg te (gName i)) tz D' σ H := s_asgD (D' := { D' with nx := tz D' }) h k
end
end PF
namespace PFW
open PySem PySem.W PySem.Calls PyProof.Rows
section
variable {prog : Program} {w : World} {M : Model} {A : Around} {E : Value → Shared → Prop} {s : Shared} {K : Frag} {x C f : Addr} {ox : Obj} {od : Option Obj} {nm T : String}
/-- own op y, y of a built-in type that may have a slot of its own: ours is asked first -/
theorem own_bin {op : Operator} {y : Value} {mine theirs back : Option Value} {Q : Value → Shared → Prop} (kin : K.In s.heap) (I : InstAt s.heap x ox C od) (ty : Looks (model prog w) s.heap (typeOf y) (.type T)) (own : selfFirst K C = true)
    (slot : findIn K (.ref C) (PySem.dunder op.info.2) = some (some (.ref f))) (fn : isFn K (.ref f) = true) (rslot : findIn K (.ref C) (dunderR op.info.2) = some back) (plain : back = none ∨ ∃ g : Addr, back = some (.ref g))
    (t1 : findIn K (.type T) (PySem.dunder op.info.2) = some mine) (t2 : findIn K (.type T) (dunderR op.info.2) = some theirs) (apart : subIn K (.type T) (.ref C) = some false)
    (run : wpAny (model prog w) A (call (.ref f) [.ref x, y]) (W.CmpBack Q) E s) : wpAny (model prog w) A (binaryOp op (.ref x) y) Q E s := by
  obtain ⟨cd, more, hcd, first⟩ := ksp_first own
  rcases e : op.info with ⟨sign, word⟩
  simp only [e] at slot rslot t1 t2
  have tried := ksp_try kin I slot fn run
  have answered : ∀ (k : Option Value → Sem (Option Value)), (∀ v, k (some v) = pure (some v)) → wpAny (model prog w) A (tryMethod (.ref x) (PySem.dunder word) y >>= k) (fun r s' => ∃ v, r = some v ∧ Q v s') E s := fun k hk =>
    wpAny_bind (wpAny_mono tried (fun r s' z => by
      obtain ⟨v, rfl, q⟩ := z
      rw [hk]
      exact wpAny_pure ⟨v, rfl, q⟩) fun _ _ z => z)
  have unlike : (Value.ref C == Value.type T) = false := by
    rw [beq_eq_false_iff_ne]
    exact fun z => nomatch z
  have one : wpAny (model prog w) A (binaryOp1 word (.ref x) y) (fun r s' => ∃ v, r = some v ∧ Q v s') E s := by
    unfold binaryOp1
    refine wpAny_bind (I.type.here (wpAny_bind (ty.here (wpAny_bind ((fills_K kin hcd first slot).here ?_)))))
    rw [unlike]
    refine wpAny_bind ((ksp_fillsT kin t1 t2).here ?_)
    cases hr : ((mine.isSome && !isSeqSlot mine) || (theirs.isSome && !isSeqSlot theirs)) with
    | false =>
      simp only [Bool.and_false, Bool.false_and, Bool.false_eq_true, if_false, if_true]
      refine wpAny_bind (wpAny_pure ?_)
      simp only [Bool.false_eq_true, if_false]
      exact answered _ fun v => rfl
    | true =>
      simp only [Bool.and_self, if_true]
      refine wpAny_bind ((looks_subIn kin apart).here ?_)
      simp only [Bool.false_eq_true, if_false, Bool.not_false, if_true]
      refine wpAny_bind ((ksp_inPy kin slot rslot plain).here ?_)
      simp only [if_true]
      refine wpAny_bind (m := numberSlotInPython (.type T) word) (wpAny_pure ?_)
      simp only [Bool.not_false, if_true]
      refine wpAny_bind ((looks_findIn kin t2).here ?_)
      exact answered _ fun v => rfl
  unfold binaryOp
  rw [e]
  refine wpAny_holding (wpAny_bind (wpAny_mono one (fun r s' z => ?_) fun _ _ z => z))
  obtain ⟨v, rfl, q⟩ := z
  exact wpAny_pure q
/-- a builtin slot of an int declines an instance -/
theorem int_declines {Bi : Builtin} {id : String} {name : Str} {f : Int → Int → Sem Fin} {i : Int} {t : Tok} {Q : Value → Shared → Prop} {n : String} (slot : Slot "int" name id) (entry : entryFor table id = some Bi) (hB : Bi = PySem.Builtin.Int.intBinary n f)
    (args : argsOk id ⟨[.int i t, .ref x], []⟩) (I : s.heap.get? x = some ox) (hd : ox.data = .plain) (h : Q .notImplemented s) : wpAny (model prog w) A (call (.builtin id) [.int i t, .ref x]) Q E s := by
  refine GQ.call_here slot (typeIs_int s i t) entry args ?_
  subst hB
  obtain ⟨hh, g, d, tt, os⟩ := s
  obtain ⟨oc, od', dt, sl⟩ := ox
  simp only at hd
  subst hd
  unfold PySem.Builtin.Int.intBinary
  refine wpAny_bind (wpAny_pure ?_)
  refine wpAny_bind (wpAny_pure ?_)
  refine wpAny_bind (m := asInt? (.ref x)) (wpAny_bind (wpAny_load I (wpAny_pure ?_)))
  exact wpAny_bind (wpAny_rule (wpAny_pure h))
/-- int op own: int's slot declines, the own reflected one answers -/
theorem own_rbin {op : Operator} {Bi : Builtin} {id n : String} {fi : Int → Int → Sem Fin} {i : Int} {t : Tok} {g : Addr} {Q : Value → Shared → Prop} (X : K.In s.heap) (I : InstAt s.heap x ox C od) (hpl : ox.data = .plain) (hc : selfFirst K C = true)
    (hs : findIn K (.ref C) (PySem.dunder op.info.2) = some (some (.ref g))) (hr : findIn K (.ref C) (dunderR op.info.2) = some (some (.ref f))) (hf : isFn K (.ref f) = true)
    (hm : mroIn K C (.type "int") = some false) (slot : Slot "int" (PySem.dunder op.info.2) id) (entry : entryFor table id = some Bi) (hB : Bi = PySem.Builtin.Int.intBinary n fi) (args : argsOk id ⟨[.int i t, .ref x], []⟩)
    (hfi : fillsNumberSlot (.type "int") op.info.2 = pure true)
    (h : wpAny (model prog w) A (call (.ref f) [.ref x, .int i t]) (W.CmpBack Q) E s) : wpAny (model prog w) A (binaryOp op (.int i t) (.ref x)) Q E s := by
  obtain ⟨cd, rest, hcd, hmr⟩ := ksp_first hc
  rcases hi : op.info with ⟨sym, nm'⟩
  rw [hi] at hs hr slot hfi
  dsimp only at hs hr slot hfi
  have one := ksp_try X I hr hf h
  have dec : wpAny (model prog w) A (tryMethod (.int i t) (PySem.dunder nm') (.ref x)) (fun r s' => r = none ∧ s' = s) E s :=
    wpAny_tryMethod_declines (typeIs_int s i t) slot (int_declines slot entry hB args I.at_ hpl ⟨rfl, rfl, rfl⟩)
  have L1 : Looks (model prog w) s.heap (typeOf (.ref x)) (.ref C) := I.type
  have L2 : Looks (model prog w) s.heap (typeOf (.int i t)) (.type "int") := Looks.of_pure rfl
  have L3 : Looks (model prog w) s.heap (fillsNumberSlot (.ref C) nm') true := fills_K X hcd hmr hs
  have L4 : Looks (model prog w) s.heap (fillsNumberSlot (.type "int") nm') true := Looks.of_pure hfi
  have L5 : Looks (model prog w) s.heap (isSubtype (.ref C) (.type "int")) false := looks_mroIn X hm
  have L7 : Looks (model prog w) s.heap (numberSlotInPython (.type "int") nm') false := Looks.of_pure rfl
  have hne : (Value.type "int" == Value.ref C) = false := Bool.eq_false_iff.mpr fun q => by cases beq_iff_eq.mp q
  simp only [binaryOp, hi]
  refine wpAny_holding (wpAny_bind ?_)
  unfold binaryOp1
  refine wpAny_bind (L2.here (wpAny_bind (L1.here (wpAny_bind (L4.here ?_)))))
  simp only [hne, Bool.false_eq_true, if_false]
  refine wpAny_bind (L3.here ?_)
  simp only [Bool.and_self, Bool.true_and, if_true]
  refine wpAny_bind (L5.here ?_)
  simp only [Bool.false_eq_true, if_false, Bool.not_false, if_true]
  refine wpAny_bind (L7.here ?_)
  simp only [Bool.false_eq_true, if_false]
  refine wpAny_bind (wpAny_mono dec (fun r s' hr' => ?_) fun _ _ e => e)
  obtain ⟨rfl, rfl⟩ := hr'
  simp only []
  refine wpAny_bind (wpAny_mono one (fun r s'' hr'' => ?_) fun _ _ e => e)
  obtain ⟨v, rfl, hq⟩ := hr''
  refine wpAny_bind (wpAny_rule (wpAny_pure ?_))
  exact wpAny_pure hq
/-- own != another, by object.__ne__ and the own == -/
theorem own_ne {b tb : Value} {Q : Value → Shared → Prop} (hu : A.units + 1 < cLine) (X : K.In s.heap) (I : InstAt s.heap x ox C od) (hb : Looks (model prog w) s.heap (typeOf b) tb) (hn : notFirst K C tb = true)
    (hne : findIn K (.ref C) "__ne__" = some (some (.builtin "object.__ne__"))) (hm : mroIn K C (.type "object") = some true)
    (hs : findIn K (.ref C) "__eq__" = some (some (.ref f))) (hf : isFn K (.ref f) = true)
    (h : wpAny (model prog w) A.in1 (call (.ref f) [.ref x, b]) (fun v s' => ∃ k, v = .bool k ∧ Q (.bool (!k)) s') E s) : wpAny (model prog w) A (richCompare .NotEq (.ref x) b) Q E s := by
  have body : wpAny (model prog w) A (call (.builtin "object.__ne__") [.ref x, b]) (fun v s' => ∃ k, v = .bool k ∧ Q v s') E s := by
    refine wpAny_call (codeAny_call_builtin PySem.F.cmp_object.ne.plain PySem.F.cmpEntry_ne (check_slot (i := "object.__ne__") (owner := "object") (n := "__ne__") PySem.F.cmpKind_ne PySem.F.cmpSplit_ne (I.type.andThen (looks_mroIn X hm)) (PySem.F.cmpArgs_ne _ _) ?_))
    unfold Builtin.«object.__ne__»
    refine wpAny_bind (m := slotArgs "__ne__" 1 _) (wpAny_pure ?_)
    refine wpAny_bind (wpAny_cRoomFor (by exact hu) ?_)
    refine wpAny_bind (m := callSpecialIfBound? (.ref x) (Str.ofString "__eq__") [b]) (ifBound_K X I hs hf (wpAny_mono h (fun v s' hv => ?_) fun _ _ e => e))
    obtain ⟨k, rfl, hq⟩ := hv
    refine wpAny_bind (wpAny_truthy_bool ?_)
    exact wpAny_pure ⟨!k, rfl, hq⟩
  have one : wpAny (model prog w) A (tryCompare (.ref x) "__ne__" b) (fun r s' => ∃ v, r = some v ∧ Q v s') E s := by
    unfold tryCompare
    have sp : wpAny (model prog w) A (callSpecialIfBound? (.ref x) "__ne__" [b]) (fun r s' => ∃ k, r = some (.bool k) ∧ Q (.bool k) s') E s := by
      simp only [callSpecialIfBound?, bindSpecialIfBound?]
      refine wpAny_holding (wpAny_bind (wpAny_bind (wpAny_bind (I.type.here ((looks_findIn X hne).here ?_)))))
      refine wpAny_bind (wpAny_askSetting (wpAny_ite ?_))
      have fin : wpAny (model prog w) A (call (.builtin "object.__ne__") ([.ref x] ++ [b]) >>= fun v => pure (some v)) (fun r s' => ∃ k, r = some (.bool k) ∧ Q (.bool k) s') E s := wpAny_bind (wpAny_mono body (fun v s' h' => by
        obtain ⟨k, rfl, hq⟩ := h'
        exact wpAny_pure ⟨k, rfl, hq⟩) fun _ _ h' => h')
      have bs : bindSpecial (.builtin "object.__ne__") (.ref x) = pure (.builtin "object.__ne__", [.ref x]) := PySem.F.cmp_object.ne.bind _
      split
      · exact wpAny_bind (wpAny_of_eq bs (wpAny_pure (by exact fin)))
      · exact wpAny_tryCatch (wpAny_bind (wpAny_of_eq bs (wpAny_pure (by exact fin))))
    refine wpAny_bind (wpAny_mono sp (fun r s' hr => ?_) fun _ _ e => e)
    obtain ⟨k, rfl, hq⟩ := hr
    exact wpAny_pure ⟨_, rfl, hq⟩
  unfold richCompare
  simp only [oneThing_ref]
  refine wpAny_holding (wpAny_bind (wpAny_cRoomFor (Nat.lt_of_succ_lt hu) ?_))
  refine wpAny_bind (I.type.here (wpAny_bind (hb.here ?_)))
  have nf : (Value.ref C != tb) = true → Looks (model prog w) s.heap (isSubtype tb (.ref C)) false := fun q => by
    unfold notFirst at hn
    rw [Bool.or_eq_true] at hn
    rcases hn with e | e
    · rw [bne_iff_ne] at q
      exact absurd (beq_iff_eq.mp e).symm q
    · exact looks_subIn X (beq_iff_eq.mp e)
  split
  · rename_i q
    refine wpAny_bind ((nf q).here ?_)
    simp only [Bool.false_eq_true, if_false]
    refine wpAny_bind (wpAny_mono one (fun r s' hr => ?_) fun _ _ e => e)
    obtain ⟨v, rfl, hq⟩ := hr
    exact wpAny_pure hq
  · refine wpAny_bind (wpAny_pure ?_)
    simp only [Bool.false_eq_true, if_false]
    refine wpAny_bind (wpAny_mono one (fun r s' hr => ?_) fun _ _ e => e)
    obtain ⟨v, rfl, hq⟩ := hr
    exact wpAny_pure hq
end
end PFW
namespace PF
open PySem PySem.Spec PyProof.Rows L2 Evl
/-- what of the text an own class with operators must have -/
structure Own (K : PySem.W.Frag) (C : Addr) : Prop where
  cl : Cls K C
  sf : PySem.W.selfFirst K C = true
  ha : PySem.W.findIn K (.ref C) "__class__" = some (some (.builtin "object.__class__"))
  hn : PySem.W.specialIn K (.builtin "object.__class__") "__get__" = some (some (.builtin "getset_descriptor.__get__"))
  ht : PySem.W.takesIn K (.builtin "object.__class__") = some true
  hm : PySem.W.mroIn K C (.type "object") = some true
  mi : PySem.W.mroIn K C (.type "int") = some false
  mb : PySem.W.mroIn K C (.type "bool") = some false
  ms : PySem.W.mroIn K C (.type "str") = some false
  mn : PySem.W.mroIn K C (.type "NoneType") = some false
  ne : PySem.W.findIn K (.ref C) "__ne__" = some (some (.builtin "object.__ne__"))
theorem Own.ty {K : PySem.W.Frag} {C : Addr} (o : Own K C) {H : Hp} {a dx : Addr} {fs : List (Str × V)} (h : H a = some (.ins C dx fs)) : TyX K H (.ref a) (.ref C) := .base (.ins h o.cl o.ha o.hn o.ht o.hm)
section
variable {X : Cx} {pins : List (Addr × Obj)} {σ : L2.St} {H : Hp} {s : Shared}
theorem looksTy {x : V} {u t : Value} (I : Inv X pins σ H s) (rx : RelV x u) (ty : TyX X.K H x t) : PySem.W.Looks (model X.prog X.w) s.heap (typeOf u) t := by
  obtain ⟨P, Z, p, _⟩ := kit_of I rx ty
  exact Z.ty _ _ I.kIn p
theorem ep_back {Q : VK} {v : Value} {s' : Shared} (h : L2.EP X pins σ Q v s') : PySem.W.CmpBack (L2.EP X pins σ Q) v s' := by
  obtain ⟨w, H', I, r, q⟩ := id h
  cases w with
  | non => cases r; exact h
  | bl _ => cases r; exact h
  | int _ => obtain ⟨_, rfl⟩ := r; exact h
  | str _ => obtain ⟨_, rfl⟩ := r; exact h
  | byt _ => obtain ⟨_, rfl⟩ := r; exact h
  | flt _ => obtain ⟨_, rfl⟩ := r; exact h
  | ref _ => cases r; exact h
  | ty _ => cases r; exact h
/-- the callee runs, somewhere below -/
theorem run_at {CX : CXT} {k : Nat} {f : Addr} {fd : FuncData} {ps : List Str} {sp : Sp} {E : XK} {A : Around} {Q : VK} {us : List Value} {vs : List V} (F : FnOk X.prog X.w X.K X.mg X.base CX k f fd ps sp) (sb : Sub X k A) (hb : Binds X.K fd ps [])
    (hx : Passes CX X E) (I : Inv X pins σ H s) (r : Vals vs us) (h : sp vs H Q E) : wpAny (model X.prog X.w) A (call (.ref f) us) (L2.EP X pins σ Q) X.xe s := by
  have e0 : Env0 X.prog X.w X.K X.mg X.base A X.stack s H := by
    have e := I.env0
    exact ⟨by rw [sb.fr]; exact e.frames, e.mod, e.bs, e.bsz, e.funs, e.frf, e.hok, e.bare⟩
  have hl : us.length = ps.length := by rw [← r.length]; exact F.len _ _ _ _ h
  refine wpAny_call (codeAny_mono (F.run A X.stack s H ⟨us, []⟩ us vs Q E sb.room e0 (by
    have := hb s us I.kIn (by simpa using hl)
    simpa using this) r h) fun r s' hq => ?_)
  cases r with
  | error e => exact hx pins σ H s e s' I hq
  | ok fl =>
    cases fl with
    | ret w => exact I.after hq
    | next => exact False.elim hq
    | brk => exact False.elim hq
    | cont => exact False.elim hq
theorem inst_at {a C dx : Addr} {fs : List (Str × V)} (I : Inv X pins σ H s) (e : H a = some (.ins C dx fs)) : ∃ od, PySem.W.InstAt s.heap a (PySem.W.instObj C dx) C (some od) := by
  obtain ⟨mA, J, _⟩ := ins_get I.hok e
  obtain ⟨od, J, _⟩ := J.look
  exact ⟨od, J⟩
end
/-- a built-in type beside the own one, for an operator -/
structure BinT (C : Addr) (op : Operator) (T : String) : Prop where
  fo : ∃ fo, PySem.W.findIn [] (.type T) (PySem.dunder op.info.2) = some fo
  ro : ∃ ro, PySem.W.findIn [] (.type T) (dunderR op.info.2) = some ro
  sub : PySem.W.subIn [] (.type T) (.ref C) = some false
theorem sub_type {T : String} {l : List Value} {C : Addr} (e : fastBuiltinMro T = some l) (h : l.all (fun v => match v with | .ref _ => false | _ => true) = true) : PySem.W.subIn [] (.type T) (.ref C) = some false := by
  show (fastBuiltinMro T).map (·.contains (.ref C)) = some false
  rw [e]
  show some (l.contains (.ref C)) = some false
  congr 1
  rw [List.contains_eq_any_beq, List.any_eq_false]
  intro v hv q
  have := List.all_eq_true.mp h v hv
  have e2 := beq_iff_eq.mp q
  subst e2
  simp at this
theorem sub_int {C : Addr} : PySem.W.subIn [] (.type "int") (.ref C) = some false := sub_type (l := (fastBuiltinMro "int").getD []) (by decide +kernel) (by decide +kernel)
theorem sub_bool {C : Addr} : PySem.W.subIn [] (.type "bool") (.ref C) = some false := sub_type (l := (fastBuiltinMro "bool").getD []) (by decide +kernel) (by decide +kernel)
theorem sub_str {C : Addr} : PySem.W.subIn [] (.type "str") (.ref C) = some false := sub_type (l := (fastBuiltinMro "str").getD []) (by decide +kernel) (by decide +kernel)
theorem sub_none {C : Addr} : PySem.W.subIn [] (.type "NoneType") (.ref C) = some false := sub_type (l := (fastBuiltinMro "NoneType").getD []) (by decide +kernel) (by decide +kernel)
theorem sub_list {C : Addr} : PySem.W.subIn [] (.type "list") (.ref C) = some false := sub_type (l := (fastBuiltinMro "list").getD []) (by decide +kernel) (by decide +kernel)
theorem sub_tuple {C : Addr} : PySem.W.subIn [] (.type "tuple") (.ref C) = some false := sub_type (l := (fastBuiltinMro "tuple").getD []) (by decide +kernel) (by decide +kernel)
theorem sub_dict {C : Addr} : PySem.W.subIn [] (.type "dict") (.ref C) = some false := sub_type (l := (fastBuiltinMro "dict").getD []) (by decide +kernel) (by decide +kernel)
theorem some_of {α : Type} {o : Option α} (h : o.isSome = true) : ∃ a, o = some a := Option.isSome_iff_exists.mp h
theorem binT_of {C : Addr} {op : Operator} {T : String} (h1 : (PySem.W.findIn [] (.type T) (PySem.dunder op.info.2)).isSome = true) (h2 : (PySem.W.findIn [] (.type T) (dunderR op.info.2)).isSome = true) (h3 : PySem.W.subIn [] (.type T) (.ref C) = some false) : BinT C op T :=
  ⟨some_of h1, some_of h2, h3⟩
theorem bt_add_int {C : Addr} : BinT C .Add "int" := binT_of (by decide +kernel) (by decide +kernel) sub_int
theorem bt_sub_int {C : Addr} : BinT C .Sub "int" := binT_of (by decide +kernel) (by decide +kernel) sub_int
theorem bt_mul_int {C : Addr} : BinT C .Mult "int" := binT_of (by decide +kernel) (by decide +kernel) sub_int
/-- own op y -/
def rOwn (K : PySem.W.Frag) (C : Addr) (op : Operator) (sp : Sp) (E : XK) : R2 := fun x y H Q => ∃ a dx fs t, x = .ref a ∧ H a = some (.ins C dx fs) ∧ TyX K H y t ∧ (t = .ref C ∨ ∃ T, t = .type T ∧ BinT C op T) ∧ sp [x, y] H Q E
section
variable {X : Cx} {CX : CXT} {k : Nat} {C f g : Addr} {fd : FuncData} {ps : List Str} {sp : Sp} {E : XK}
theorem op_own {op : Operator} (o : Own X.K C) (m : Meth X.K C (PySem.dunder op.info.2) f) (m2 : Meth X.K C (dunderR op.info.2) g) (F : FnOk X.prog X.w X.K X.mg X.base CX k f fd ps sp) (hr : Room k X.A) (hb : Binds X.K fd ps []) (hx : Passes CX X E) :
    OpR X (binaryOp op) (rOwn X.K C op sp E) := by
  intro pins s σ H x y v u Q I rx ry h
  obtain ⟨a, dx, fs, t, rfl, ea, ty, ht, h⟩ := h
  cases rx
  obtain ⟨od, J⟩ := inst_at I ea
  have L := looksTy I ry ty
  have r2 : Vals [V.ref a, y] [Value.ref a, u] := .cons rfl (.cons ry .nil)
  have run := thn (run_at F ⟨hr, rfl⟩ hb hx I r2 h) fun v s' q => ep_back q
  rcases ht with rfl | ⟨T, rfl, b⟩
  · obtain ⟨m0, hF⟩ := I.fr
    exact PySem.W.binop_K hF I.ok.mod.kin J L o.sf m.at_ m.fn run
  · obtain ⟨fo, h1⟩ := b.fo
    obtain ⟨ro, h2⟩ := b.ro
    exact PFW.own_bin I.kIn J L o.sf m.at_ m.fn m2.at_ (.inr ⟨_, rfl⟩) h1 h2 b.sub run
/-- int op own -/
def rOwnR (C : Addr) (sp : Sp) (E : XK) : R2 := fun x y H Q => ∃ i a dx fs, x = .int i ∧ y = .ref a ∧ H a = some (.ins C dx fs) ∧ sp [y, x] H Q E
theorem op_ownR {op : Operator} {Bi : Builtin} {id n : String} {fi : Int → Int → Sem Fin} (o : Own X.K C) (m : Meth X.K C (dunderR op.info.2) f) (m2 : Meth X.K C (PySem.dunder op.info.2) g) (F : FnOk X.prog X.w X.K X.mg X.base CX k f fd ps sp) (hr : Room k X.A) (hb : Binds X.K fd ps []) (hx : Passes CX X E)
    (slot : Slot "int" (PySem.dunder op.info.2) id) (entry : entryFor table id = some Bi) (hB : Bi = PySem.Builtin.Int.intBinary n fi) (args : ∀ x y, argsOk id ⟨[x, y], []⟩) (hfi : fillsNumberSlot (.type "int") op.info.2 = pure true) :
    OpR X (binaryOp op) (rOwnR C sp E) := by
  intro pins s σ H x y v u Q I rx ry h
  obtain ⟨i, a, dx, fs, rfl, rfl, ea, h⟩ := h
  cases ry
  obtain ⟨t, rfl⟩ := rx
  obtain ⟨od, J⟩ := inst_at I ea
  have r2 : Vals [V.ref a, V.int i] [Value.ref a, Value.int i t] := .cons rfl (.cons ⟨_, rfl⟩ .nil)
  have run := thn (run_at F ⟨hr, rfl⟩ hb hx I r2 h) fun v s' q => ep_back q
  exact PFW.own_rbin I.kIn J rfl o.sf m2.at_ m.at_ m.fn o.mi slot entry hB (args _ _) hfi run
theorem op_addR (o : Own X.K C) (m : Meth X.K C "__radd__" f) (m2 : Meth X.K C "__add__" g) (F : FnOk X.prog X.w X.K X.mg X.base CX k f fd ps sp) (hr : Room k X.A) (hb : Binds X.K fd ps []) (hx : Passes CX X E) : OpR X (binaryOp .Add) (rOwnR C sp E) :=
  op_ownR (op := .Add) o m m2 F hr hb hx PySem.F.slot_int_add PySem.F.entry_int_add rfl PySem.F.args_int_add_2 PySem.F.fills_int_add
theorem op_subR (o : Own X.K C) (m : Meth X.K C "__rsub__" f) (m2 : Meth X.K C "__sub__" g) (F : FnOk X.prog X.w X.K X.mg X.base CX k f fd ps sp) (hr : Room k X.A) (hb : Binds X.K fd ps []) (hx : Passes CX X E) : OpR X (binaryOp .Sub) (rOwnR C sp E) :=
  op_ownR (op := .Sub) o m m2 F hr hb hx PySem.F.slot_int_sub PySem.F.entry_int_sub rfl PySem.F.args_int_sub_2 PySem.F.fills_int_sub
theorem op_mulR (o : Own X.K C) (m : Meth X.K C "__rmul__" f) (m2 : Meth X.K C "__mul__" g) (F : FnOk X.prog X.w X.K X.mg X.base CX k f fd ps sp) (hr : Room k X.A) (hb : Binds X.K fd ps []) (hx : Passes CX X E) : OpR X (binaryOp .Mult) (rOwnR C sp E) :=
  op_ownR (op := .Mult) o m m2 F hr hb hx PySem.F.slot_int_mul PySem.F.entry_int_mul rfl PySem.F.args_int_mul_2 PySem.F.fills_int_mul
/-- -own -/
def rNegO (C : Addr) (sp : Sp) (E : XK) : V → Hp → VK → Prop := fun x H Q => ∃ a dx fs, x = .ref a ∧ H a = some (.ins C dx fs) ∧ sp [x] H Q E
theorem un_own (m : Meth X.K C "__neg__" f) (F : FnOk X.prog X.w X.K X.mg X.base CX k f fd ps sp) (hr : Room k X.A) (hb : Binds X.K fd ps []) (hx : Passes CX X E) : UnR X (unaryOp .USub) (rNegO C sp E) := by
  intro pins s σ H x v Q I rx h
  obtain ⟨a, dx, fs, rfl, ea, h⟩ := h
  cases rx
  obtain ⟨od, J⟩ := inst_at I ea
  obtain ⟨m0, hF⟩ := I.fr
  have r2 : Vals [V.ref a] [Value.ref a] := .cons rfl .nil
  exact PySem.W.ksp_neg hF I.ok.mod.kin J m.at_ m.fn (run_at F ⟨hr, rfl⟩ hb hx I r2 h)
/-- own == y -/
def rEqO (K : PySem.W.Frag) (C : Addr) (sp : Sp) (E : XK) : R2 := fun x y H Q => ∃ a dx fs t, x = .ref a ∧ H a = some (.ins C dx fs) ∧ TyX K H y t ∧ (t = .ref C ∨ ∃ T, t = .type T ∧ PySem.W.subIn [] (.type T) (.ref C) = some false) ∧ sp [x, y] H Q E
theorem nf_of {t : Value} (h : t = .ref C ∨ ∃ T, t = .type T ∧ PySem.W.subIn [] (.type T) (.ref C) = some false) : PySem.W.notFirst X.K C t = true := by
  rcases h with rfl | ⟨T, rfl, e⟩
  · simp [PySem.W.notFirst]
  · have e' : PySem.W.subIn X.K (.type T) (.ref C) = some false := e
    simp [PySem.W.notFirst, e']
theorem op_eqO (m : Meth X.K C "__eq__" f) (F : FnOk X.prog X.w X.K X.mg X.base CX k f fd ps sp) (hr : Room k X.A) (hb : Binds X.K fd ps []) (hx : Passes CX X E) : OpR X (compareOp .Eq) (rEqO X.K C sp E) := by
  intro pins s σ H x y v u Q I rx ry h
  obtain ⟨a, dx, fs, t, rfl, ea, ty, ht, h⟩ := h
  cases rx
  obtain ⟨od, J⟩ := inst_at I ea
  obtain ⟨m0, hF⟩ := I.fr
  have L := looksTy I ry ty
  have r2 : Vals [V.ref a, y] [Value.ref a, u] := .cons rfl (.cons ry .nil)
  show wpAny _ _ (richCompare .Eq _ _) _ _ _
  exact PySem.W.cmp_K (op := .Eq) hr.units0 hF I.ok.mod.kin J L (nf_of ht) m.at_ m.fn (thn (run_at F ⟨hr, rfl⟩ hb hx I r2 h) fun v s' q => ep_back q)
/-- own != y -/
def rNeO (K : PySem.W.Frag) (C : Addr) (sp : Sp) (E : XK) : R2 := fun x y H Q => ∃ a dx fs t, x = .ref a ∧ H a = some (.ins C dx fs) ∧ TyX K H y t ∧ (t = .ref C ∨ ∃ T, t = .type T ∧ PySem.W.subIn [] (.type T) (.ref C) = some false) ∧ sp [x, y] H (fun v H1 => ∃ b, v = .bl b ∧ Q (.bl (!b)) H1) E
theorem op_neO (o : Own X.K C) (m : Meth X.K C "__eq__" f) (F : FnOk X.prog X.w X.K X.mg X.base CX k f fd ps sp) (hr : Room (k + 1) X.A) (hb : Binds X.K fd ps []) (hx : Passes CX X E) : OpR X (compareOp .NotEq) (rNeO X.K C sp E) := by
  intro pins s σ H x y v u Q I rx ry h
  obtain ⟨a, dx, fs, t, rfl, ea, ty, ht, h⟩ := h
  cases rx
  obtain ⟨od, J⟩ := inst_at I ea
  have L := looksTy I ry ty
  have r2 : Vals [V.ref a, y] [Value.ref a, u] := .cons rfl (.cons ry .nil)
  show wpAny _ _ (richCompare .NotEq _ _) _ _ _
  refine PFW.own_ne (by have := hr.units; omega) I.kIn J L (nf_of ht) o.ne o.hm m.at_ m.fn (thn (run_at F ⟨hr.in1, rfl⟩ hb hx I r2 h) fun v s' q => ?_)
  obtain ⟨w, H', I', r, b, rfl, q⟩ := q
  cases r
  exact ⟨b, rfl, .bl (!b), H', I', rfl, q⟩
end
end PF
namespace PF
open PySem PySem.Spec PyProof.Rows L2 Evl
/-- a promise that is kept where the running guards are known to be none -/
structure FnG (P : Program) (w : World) (K : PySem.W.Frag) (mg : Str → Option Value) (base : Heap) (CX : CXT) (k : Nat) (f : Addr) (fd : FuncData) (ps : List Str) (sp : Sp) : Prop where
  len : ∀ vs H Q E, sp vs H Q E → vs.length = ps.length
  run : ∀ (A : Around) (outer : List Env) (s : Shared) (H : Hp) (args : Args) (us : List Value) (vs : List V) (Q : VK) (E : XK), A.guards = some [] → Room k A → Env0 P w K mg base A outer s H → BindsTo s fd args (ps.zip us) →
    Vals vs us → sp vs H Q E → codeAny (model P w) A (.call (.ref f) args) (CR CX outer P w H s Q E) s
section
variable {P : Program} {w : World} {K : PySem.W.Frag} {mg : Str → Option Value} {base : Heap} {CX : CXT} {j k : Nat} {f : Addr} {fd : FuncData} {ps : List Str} {sp : Sp}
theorem FnG.mono (F : FnG P w K mg base CX j f fd ps sp) (h : j ≤ k) : FnG P w K mg base CX k f fd ps sp :=
  ⟨F.len, fun A outer s H args us vs Q E g hr => F.run A outer s H args us vs Q E g (hr.mono h)⟩
/-- the body, as a term of rules, at each entry -/
theorem bodyG {x qual : Str} {st : Stmt} {N : List Str} (F : Fun K x qual st f fd) (S : FnScope N ps (defScope st)) (len : ∀ vs H Q E, sp vs H Q E → vs.length = ps.length)
    (hbody : ∀ (cdv : Value) (A : Around) (outer : List Env) (s : Shared) (H : Hp) (vs : List V) (Q : VK) (E : XK), A.guards = some [] → Room k (A.deeper (envOfC qual (defScope st) s.heap.objs.size f cdv)) → sp vs H Q E →
      ∃ t, PSs (cxOf CX P w K mg base N qual (defScope st) f cdv A outer s H E) (defBody st) t ∧ t { nx := fun _ H' => Q .non H', rt := Q } (start N vs) H) : FnG P w K mg base CX (k + 1) f fd ps sp := by
  obtain ⟨oc, od, kV, doc, pm, an, cdv, ct, osl, e, lk, hcd⟩ := F.ex
  subst e
  refine ⟨len, fun A outer s H args us vs Q E hg hr e0 hb rv hsp => ?_⟩
  obtain ⟨t, der, rd⟩ := hbody cdv A outer s H vs Q E hg (hr.deeper _) hsp
  have old : ∀ b o, base.get? b = some o → s.heap.get? b = some o := fun b o z => (e0.bs b o z).1
  have kn := e0.mod.kin.keeps old
  refine codeAny_call_function hr.depth (kn _ _ lk) rfl S.co S.gen rfl (PySem.W.codeRec_of kn hcd) (hb _ _ _ _ (wpAny_newFunctionEnv_cells S.kind (fun p hp => ?_) fun env he s1 ic => ?_))
  · obtain ⟨n, v⟩ := p
    cases S.par n (List.of_mem_zip hp).1 with
    | inl q => exact .inl q
    | inr q => exact .inr ⟨q, PySem.W.cellsFrom_some _ _ _ (.inl q)⟩
  · subst he
    refine ⟨(e0.mod.nolimit.keeps old).keeps ic.toInCall.keep, codeAny_func ?_⟩
    refine wpAny_mono (der.run [] s1 (start N vs) H _ (inv_start S hr.hd e0 (len _ _ _ _ hsp) rv ic) rd) (fun fl s' z => ?_) fun _ _ z => z
    cases fl with
    | ret u =>
      obtain ⟨v, _, H', J, r, q⟩ := z
      exact ⟨v, H', J.os, J.bare, J.base, J.hok, r, q⟩
    | next =>
      obtain ⟨_, H', J, q⟩ := z
      exact ⟨V.non, H', J.os, J.bare, J.base, J.hok, rfl, q⟩
    | brk =>
      obtain ⟨_, _, _, q⟩ := z
      exact (show False from q).elim
    | cont =>
      obtain ⟨_, _, _, q⟩ := z
      exact (show False from q).elim
/-- .. of a def out of which nothing is raised -/
theorem bodyG0 {x qual : Str} {st : Stmt} {N : List Str} (F : Fun K x qual st f fd) (S : FnScope N ps (defScope st)) (len : ∀ vs H Q E, sp vs H Q E → vs.length = ps.length)
    (hbody : ∀ (cdv : Value) (A : Around) (outer : List Env) (s : Shared) (H : Hp) (vs : List V) (Q : VK) (E : XK), A.guards = some [] → Room k (A.deeper (envOfC qual (defScope st) s.heap.objs.size f cdv)) → sp vs H Q E →
      ∃ t, PSs (cxOf CX0 P w K mg base N qual (defScope st) f cdv A outer s H E).nox (defBody st) t ∧ t { nx := fun _ H' => Q .non H', rt := Q } (start N vs) H) : FnG P w K mg base CX0 (k + 1) f fd ps sp :=
  bodyG F S len fun cdv A outer s H vs Q E hg hr hsp => by
    obtain ⟨t, h, q⟩ := hbody cdv A outer s H vs Q E hg hr hsp
    exact ⟨t, h.nox, q⟩
end
section
variable {X : Cx} {CX : CXT} {k : Nat} {f C : Addr} {fd : FuncData} {ps : List Str} {sp : Sp} {dvs : List V} {ds : List Value} {E : XK} {x m : Str} {p pos apos : Pos} {e o : Expr} {es : List Expr} {ta : TE} {t : TA}
theorem run_g {pins : List (Addr × Obj)} {σ : L2.St} {H : Hp} {s : Shared} {Q : VK} {us : List Value} {vs : List V} (hg : X.A.guards = some []) (F : FnG X.prog X.w X.K X.mg X.base CX k f fd ps sp) (hr : Room k X.A) (hb : Binds X.K fd ps []) (hx : Passes CX X E)
    (I : Inv X pins σ H s) (r : Vals vs us) (h : sp vs H Q E) : wpAny (model X.prog X.w) X.A (call (.ref f) us) (L2.EP X pins σ Q) X.xe s := by
  have hl : (us ++ []).length = ps.length := by rw [List.append_nil, ← r.length]; exact F.len _ _ _ _ h
  have b0 := hb s us I.kIn hl
  rw [List.append_nil] at b0
  refine wpAny_call (codeAny_mono (F.run X.A X.stack s H ⟨us, []⟩ us vs Q E hg hr I.env0 b0 r h) fun res s' z => ?_)
  match res, z with
  | .error er, z => exact hx pins σ H s er s' I z
  | .ok (.ret u), z => exact I.after z
  | .ok .next, z => exact z.elim
  | .ok .brk, z => exact z.elim
  | .ok .cont, z => exact z.elim
/-- f(e, ..) -/
theorem pe_callG (hg : X.A.guards = some []) (F : FnG X.prog X.w X.K X.mg X.base CX k f fd ps sp) (hr : Room k X.A) (gl : Gl X x) (hm : X.mg x = some (.ref f)) (hk : PySem.W.keepIn X.K (.ref f) = true) (hb : Binds X.K fd ps []) (hx : Passes CX X E)
    (ha : PA X (e :: es) t) (hdb : (x == ("__debug__" : Str)) = false := by decide) (he : starEach (e :: es) X.env = (false, eval e X.env) :: starEach es X.env := by rfl) (hpl : (backTo pos (starEach es X.env)).any (·.1) = false := by rfl) :
    PE X (.Call (.Name x p) (e :: es) [] pos) (tCall sp [] E t) := by
  refine ⟨fun pins s σ H Q I h => wpAny_Call_Name_kw (ld_glob I gl hm ?_ hdb)⟩
  refine PySem.W.callWith_K (h₀ := X.base) I.ok.mod.kin hk (thn (ha.run pos pins s σ H _ I h) fun us s1 z => ?_) he hpl
  obtain ⟨vs, H1, I1, r, q⟩ := z
  rw [List.append_nil] at q
  exact ⟨I1.kIn, run_g hg F hr hb hx I1 r q⟩
end
/-- the law's call, from such a promise -/
theorem law_callG {P : Program} {w : World} {K : PySem.W.Frag} {mg mb : Str → Option Value} {CX : CXT} {k : Nat} {fa a : Addr} {fd : FuncData} {x : Str} {sp : Sp} {s1 : Shared} {vs : List Value} {ns : List Int}
    (kx : K.In s1.heap) (hns : s1.heap.Ns mainGlobals mg) (hb : s1.heap.Ns builtinsNs mb) (hbb : ∀ x : Str, x ≠ "__name__" → mb x = bootBuiltins x) (hlim : s1.heap.NoLimit) (hg : s1.gens = #[])
    (ha : s1.heap.get? a = some { cls := .type "list", data := .seq vs.toArray }) (hi : IntsAre vs ns) (hl : ns.length ≤ sizeLine) (hr : Room k callerA)
    (F : ∀ base : Heap, K.In base → base.Ns mainGlobals mg → FnG P w K mg base CX k fa fd [x] sp) (hbind : ∀ (s : Shared) (u : Value), BindsTo s fd ⟨[u], []⟩ [(x, u)])
    (hsp : ∀ H : Hp, Only H → SqL K H a (ns.map V.int) → sp [.ref a] H (fun v _ => v = .bl true) fun _ _ _ => False)
    (hCX : ∀ H e s', CX [] H s1 (fun _ _ _ => False) e s' → False) :
    codeAny (model P w) callerA (.call (.ref fa) ⟨[.ref a], []⟩) (fun r s' => r = .ok (.ret (.bool true)) ∧ OldK s1.heap s'.heap ∧ s'.os = s1.os ∧ AllBare s'.gens) s1 := by
  have rv := vals_ints hi
  have len := hi.length
  -- what is tracked: nothing, or the script alone, where it is no object of the module
  have go : ∀ H : Hp, Only H → SqL K H a (ns.map V.int) → HOk P w H s1.heap → (∀ b, H b ≠ none → b = a ∧ K.lookup a = none) → codeAny (model P w) callerA (.call (.ref fa) ⟨[.ref a], []⟩)
      (fun r s' => r = .ok (.ret (.bool true)) ∧ OldK s1.heap s'.heap ∧ s'.os = s1.os ∧ AllBare s'.gens) s1 := fun H hO hS hok hA => by
    have free : ∀ {b : Addr} {o : Obj}, s1.heap.get? b = some o → (b = a → False) → H b = none := fun {b o} _ n => by
      cases q : H b with
      | none => rfl
      | some u => exact (n (hA b (by rw [q]; exact fun z => nomatch z)).1).elim
    have nsK : ∀ {b : Addr} {m : Str → Option Value}, s1.heap.Ns b m → (hidT s1.heap H).Ns b m := fun {b m} ⟨o, es, ep, z, d, r⟩ =>
      ⟨o, es, ep, hidT_get z (free z fun e => by
        subst e
        rw [ha] at z
        cases z
        exact nomatch (show Data.seq vs.toArray _ = Data.dict es ep from d)), d, r⟩
    have kb : K.In (hidT s1.heap H) := fun b o z => by
      refine hidT_get (kx b o z) ?_
      cases q : H b with
      | none => rfl
      | some u =>
        obtain ⟨e1, e2⟩ := hA b (by rw [q]; exact fun y => nomatch y)
        subst e1
        rw [e2] at z
        cases z
    have md : Mod K mg (hidT s1.heap H) := ⟨kb, nsK hns, ⟨mb, nsK hb, hbb⟩, by obtain ⟨mc, h1, h2⟩ := hlim; exact ⟨mc, nsK h1, h2⟩⟩
    have e0 : Env0 P w K mg (hidT s1.heap H) callerA [] s1 H := ⟨rfl, md, fun b o z => of_hidT z, Nat.le_of_eq (hidT_size _ _), True.intro, (fun b z => by cases z), hok, .of_eq hg⟩
    refine codeAny_mono ((F _ kb (nsK hns)).run callerA [] s1 H ⟨[.ref a], []⟩ [.ref a] [.ref a] _ _ rfl hr e0 (hbind s1 (.ref a)) (.cons rfl .nil) (hsp H hO hS)) fun r s' z => ?_
    match r, z with
    | .error e, z => exact (hCX H e s' z).elim
    | .ok .next, z => exact z.elim
    | .ok .brk, z => exact z.elim
    | .ok .cont, z => exact z.elim
    | .ok (.ret u), z =>
      obtain ⟨v, H', os, bare, un, hok', r', q⟩ := z
      have q' : v = .bl true := q
      subst q'
      have r'' : u = Value.bool true := r'
      subst r''
      refine ⟨rfl, OldK.of_keep fun b o z => ?_, os, bare⟩
      rcases hO b with n | ⟨ob, xs, n⟩
      · exact un.keep b o z n (fun y => by cases y) (fun y => by cases y)
      · have e1 := (hok b _ n).1
        have e2 := (hok' b _ (un.frzs b ob _ n)).1
        rw [z] at e1
        cases e1
        exact e2
  cases hk : K.lookup a with
  | some o =>
    have e := kx a o hk
    rw [ha] at e
    cases e
    exact go (fun _ => none) (fun _ => .inl rfl) (.inr ⟨_, vs.toArray, _, hk, rfl, rfl, rfl, by rw [List.size_toArray, len]; exact hl, by simpa using rv⟩) (fun b u z => nomatch (show (none : Option HO) = some u from z)) fun b z => absurd rfl z
  | none =>
    have at_a : (fun b => if b = a then some (HO.frz { cls := .type "list", data := .seq vs.toArray } (.lst (ns.map V.int))) else none : Hp) a = some (HO.frz { cls := .type "list", data := .seq vs.toArray } (.lst (ns.map V.int))) := if_pos rfl
    refine go (fun b => if b = a then some (.frz { cls := .type "list", data := .seq vs.toArray } (.lst (ns.map V.int))) else none) (fun b => ?_) (.inl (.inr ⟨_, at_a⟩)) (fun b u z => ?_) fun b z => ?_
    · by_cases h : b = a
      · exact .inr ⟨_, _, if_pos h⟩
      · exact .inl (if_neg h)
    · by_cases h : b = a
      · subst h
        have z' := at_a.symm.trans z
        cases z'
        exact ⟨ha, by rw [List.length_map]; exact hl, vs, _, rv, ha⟩
      · have z' := (if_neg h).symm.trans z
        cases z'
    · by_cases h : b = a
      · exact ⟨h, hk⟩
      · exact absurd (if_neg h) z
end PF
namespace PF
open PySem PySem.Spec PyProof.Rows L2 Evl
/-- which instances show what -/
abbrev RO := Addr → Str → Hp → Prop
structure ROk (O : RO) : Prop where
  up : ∀ {a : Addr} {x : Str} {H H' : Hp}, Ex H H' → O a x H → O a x H'
  ins : ∀ {a : Addr} {x : Str} {H : Hp}, O a x H → ∃ C dx fs, H a = some (.ins C dx fs)
  one : ∀ {a : Addr} {x y : Str} {H : Hp}, O a x H → O a y H → x = y
inductive Leaf (O : RO) (H : Hp) : V → Str → Prop where
  | non : Leaf O H .non "None"
  | bl (b : Bool) : Leaf O H (.bl b) (if b then "True" else "False")
  | int (i : Int) (h : i.natAbs.log2 < 1920) : Leaf O H (.int i) (toString i)
  | str (x : Str) (h : (reprText x).length ≤ sizeLine) : Leaf O H (.str x) (reprText x)
  | own (a : Addr) (x : Str) (h : O a x H) : Leaf O H (.ref a) x
/-- v is shown as x, nested at most n deep -/
def Sh (O : RO) (H : Hp) : Nat → V → Str → Prop
  | 0, v, x => Leaf O H v x
  | n + 1, v, x => Leaf O H v x ∨ (∃ a vs ts, v = .ref a ∧ H a = some (.lst vs) ∧ Paired (Sh O H n) vs ts ∧ x = listText ts) ∨ (∃ a vs ts, v = .ref a ∧ H a = some (.tup vs) ∧ Paired (Sh O H n) vs ts ∧ x = tupleText ts)
section
variable {O : RO} {H H' : Hp}
theorem pairedMap {α β : Type} {F G : α → β → Prop} (h : ∀ a b, F a b → G a b) : ∀ {l : List α} {r : List β}, Paired F l r → Paired G l r
  | _, _, .nil => .nil
  | _, _, .cons a b => .cons (h _ _ a) (pairedMap h b)
theorem pairedGet {α β : Type} {F : α → β → Prop} : ∀ {l : List α} {r : List β} {i : Nat} {a : α}, Paired F l r → l[i]? = some a → ∃ b, r[i]? = some b ∧ F a b
  | _, _, 0, _, .cons f _, e => by
    cases e
    exact ⟨_, rfl, f⟩
  | _, _, i + 1, a, .cons _ t, e => pairedGet (i := i) t e
theorem Leaf.sh {v : V} {x : Str} (h : Leaf O H v x) : ∀ n, Sh O H n v x
  | 0 => h
  | _ + 1 => .inl h
theorem Sh.step {v : V} {x : Str} : ∀ {n : Nat}, Sh O H n v x → Sh O H (n + 1) v x
  | 0, h => .inl h
  | n + 1, h => by
    rcases h with h | ⟨a, vs, ts, e, ha, p, ex⟩ | ⟨a, vs, ts, e, ha, p, ex⟩
    · exact .inl h
    · exact .inr (.inl ⟨a, vs, ts, e, ha, pairedMap (fun _ _ => Sh.step) p, ex⟩)
    · exact .inr (.inr ⟨a, vs, ts, e, ha, pairedMap (fun _ _ => Sh.step) p, ex⟩)
theorem Sh.le {v : V} {x : Str} {n m : Nat} (h : Sh O H n v x) (hm : n ≤ m) : Sh O H m v x := by
  induction hm with
  | refl => exact h
  | step _ ih => exact ih.step
theorem Leaf.up (k : ROk O) (e : Ex H H') {v : V} {x : Str} (h : Leaf O H v x) : Leaf O H' v x := by
  cases h with
  | non => exact .non
  | bl b => exact .bl b
  | int i h => exact .int i h
  | str x h => exact .str x h
  | own a x h => exact .own a x (k.up e h)
theorem Sh.up (k : ROk O) (e : Ex H H') : ∀ {n : Nat} {v : V} {x : Str}, Sh O H n v x → Sh O H' n v x
  | 0, _, _, h => Leaf.up k e h
  | n + 1, _, _, h => by
    rcases h with h | ⟨a, vs, ts, q, ha, p, ex⟩ | ⟨a, vs, ts, q, ha, p, ex⟩
    · exact .inl (h.up k e)
    · exact .inr (.inl ⟨a, vs, ts, q, e _ _ ha, pairedMap (fun _ _ => Sh.up k e) p, ex⟩)
    · exact .inr (.inr ⟨a, vs, ts, q, e _ _ ha, pairedMap (fun _ _ => Sh.up k e) p, ex⟩)
theorem pairedOne {F G : V → Str → Prop} (h : ∀ v x y, F v x → G v y → x = y) : ∀ {vs : List V} {xs ys : List Str}, Paired F vs xs → Paired G vs ys → xs = ys
  | _, _, _, .nil, .nil => rfl
  | _, _, _, .cons a b, .cons c d => by rw [h _ _ _ a c, pairedOne h b d]
theorem Leaf.one (k : ROk O) {v : V} {x y : Str} (h : Leaf O H v x) (h' : Leaf O H v y) : x = y := by
  cases h with
  | non => cases h'; rfl
  | bl b => cases h'; rfl
  | int i h => cases h'; rfl
  | str x h => cases h'; rfl
  | own a x h =>
    cases h' with
    | own _ _ h' => exact k.one h h'
theorem leaf_no (k : ROk O) {a : Addr} {x : Str} {o : HO} (h : Leaf O H (.ref a) x) (ha : H a = some o) (hn : ∀ C dx fs, o ≠ .ins C dx fs) : False := by
  cases h with
  | own _ _ h =>
    obtain ⟨C, dx, fs, e⟩ := k.ins h
    rw [ha] at e
    exact hn C dx fs (Option.some.inj e)
theorem Sh.one (k : ROk O) : ∀ (n m : Nat) (v : V) (x y : Str), Sh O H n v x → Sh O H m v y → x = y
  | 0, 0, _, _, _, h, h' => Leaf.one k h h'
  | 0, m + 1, v, x, y, h, h' => by
    rcases h' with h' | ⟨a, vs, ts, rfl, ha, _⟩ | ⟨a, vs, ts, rfl, ha, _⟩
    · exact Leaf.one k h h'
    · exact (leaf_no k h ha fun _ _ _ z => nomatch z).elim
    · exact (leaf_no k h ha fun _ _ _ z => nomatch z).elim
  | n + 1, 0, v, x, y, h, h' => by
    rcases h with h | ⟨a, vs, ts, rfl, ha, _⟩ | ⟨a, vs, ts, rfl, ha, _⟩
    · exact Leaf.one k h h'
    · exact (leaf_no k h' ha fun _ _ _ z => nomatch z).elim
    · exact (leaf_no k h' ha fun _ _ _ z => nomatch z).elim
  | n + 1, m + 1, v, x, y, h, h' => by
    rcases h with h | ⟨a, vs, ts, rfl, ha, p, ex⟩ | ⟨a, vs, ts, rfl, ha, p, ex⟩ <;> rcases h' with h' | ⟨b, ws, us, e, hb, q, ey⟩ | ⟨b, ws, us, e, hb, q, ey⟩
    · exact Leaf.one k h h'
    · subst e
      exact (leaf_no k h hb fun _ _ _ z => nomatch z).elim
    · subst e
      exact (leaf_no k h hb fun _ _ _ z => nomatch z).elim
    · exact (leaf_no k h' ha fun _ _ _ z => nomatch z).elim
    · cases e
      rw [ha] at hb
      cases hb
      rw [ex, ey, pairedOne (fun v x y => Sh.one k n m v x y) p q]
    · cases e
      rw [ha] at hb
      cases hb
    · exact (leaf_no k h' ha fun _ _ _ z => nomatch z).elim
    · cases e
      rw [ha] at hb
      cases hb
    · cases e
      rw [ha] at hb
      cases hb
      rw [ex, ey, pairedOne (fun v x y => Sh.one k n m v x y) p q]
end
/-- the running guards are of none that is shown so deep -/
def NotIn (O : RO) (H : Hp) (n : Nat) (g : List Code) : Prop := ∀ id a rest kw, Code.builtin id ⟨.ref a :: rest, kw⟩ ∈ g → ∀ y, ¬ Sh O H n (.ref a) y
theorem NotIn.clear {O : RO} {H : Hp} {n : Nat} {g : List Code} {a : Addr} {x : Str} (h : NotIn O H n g) (s : Sh O H n (.ref a) x) : Clear g a := fun id v rest kw hm e => by
  subst e
  exact h id a rest kw hm x s
theorem NotIn.less {O : RO} {H : Hp} {n : Nat} {g : List Code} (h : NotIn O H (n + 1) g) : NotIn O H n g := fun id a rest kw hm y s => h id a rest kw hm y s.step
theorem NotIn.more {O : RO} {H : Hp} {n : Nat} {g : List Code} {a : Addr} {id : String} {rest : List Value} (h : NotIn O H n g) (s : ∀ y, ¬ Sh O H n (.ref a) y) : NotIn O H n (.builtin id ⟨.ref a :: rest, []⟩ :: g) := fun id' a' rest' kw hm y => by
  rcases List.mem_cons.mp hm with e | hm
  · cases e
    exact s y
  · exact h id' a' rest' kw hm y
/-- what is left behind: the text, and a heap with more in it -/
def After (X : Cx) (pins : List (Addr × Obj)) (σ : L2.St) (H : Hp) (s' : Shared) : Prop := ∃ H', Inv X pins σ H' s' ∧ Ex H H'
/-- the own instances show what O says, wherever -/
def OShow (X : Cx) (m : Nat) (O : RO) : Prop := ∀ (A : Around) (pins : List (Addr × Obj)) (s : Shared) (σ : L2.St) (H : Hp) (a : Addr) (x : Str), Sub X m A → Inv X pins σ H s → O a x H →
  wpAny (model X.prog X.w) A (call (.builtin "repr") [.ref a]) (fun v s' => (∃ t, v = .str x t) ∧ After X pins σ H s') X.xe s ∧ ∀ base, wpAny (model X.prog X.w) A (pyReprObjUnder base (.ref a)) (fun v s' => (∃ t, v = .str x t) ∧ After X pins σ H s') X.xe s
theorem OShow.more {X : Cx} {m n : Nat} {O : RO} (h : OShow X m O) (hm : m ≤ n) : OShow X n O := fun A pins s σ H a x sb => h A pins s σ H a x (sb.mono hm)
section
variable {X : Cx} {pins : List (Addr × Obj)} {σ : L2.St} {H : Hp} {s : Shared}
theorem After.trans {H1 : Hp} {s' : Shared} (e : Ex H H1) (h : After X pins σ H1 s') : After X pins σ H s' := by
  obtain ⟨H', I, e'⟩ := h
  exact ⟨H', I, e.trans e'⟩
theorem After.tok {t : Nat} {s' : Shared} (h : After X pins σ H s') : After X pins σ H { s' with toks := t } := by
  obtain ⟨H', I, e'⟩ := h
  exact ⟨H', I.tok t, e'⟩
theorem room_loop {n : Nat} {A : Around} {id : String} {args : Args} (r : Room (n + 1) A) (hd : (A.under (.builtin id args)).depth ≤ A.depth + 1) (hu : (A.under (.builtin id args)).units = A.units + 1) : Room n (A.under (.builtin id args)) :=
  ⟨r.hd, by have := r.dp; omega, by have := r.un; rw [hu]; omega⟩
theorem depth_loop {A : Around} {id : String} {args : Args} (h : (Code.builtin id args).weight ≤ 1) : (A.under (.builtin id args)).depth ≤ A.depth + 1 := by
  show A.depth + (Code.builtin id args).weight ≤ A.depth + 1
  omega
theorem sub_loop {n : Nat} {A : Around} {id : String} {args : Args} (sb : Sub X (n + 1) A) (hd : (Code.builtin id args).weight ≤ 1) (hu : (A.under (.builtin id args)).units = A.units + 1) (hf : (A.under (.builtin id args)).frames = A.frames) : Sub X n (A.under (.builtin id args)) :=
  ⟨room_loop sb.room (depth_loop hd) hu, hf.trans sb.fr⟩
/-- a record of ours, beyond all that the invariant knows -/
structure Part (X : Cx) (pins : List (Addr × Obj)) (P : Addr) : Prop where
  ab : X.s_0.heap.objs.size ≤ P
  loc : P ≠ X.env.locals
  np : ∀ p ∈ X.pn ++ pins, p.1 ≠ P
  cl : ∀ x c, X.env.cells.lookup x = some c → c ≠ P
  fs : P ∉ X.fs
theorem part_new (I : Inv X pins σ H s) : Part X pins s.heap.objs.size where
  ab := I.sz
  loc := Nat.ne_of_gt I.lt
  np := fun p hp => Nat.ne_of_lt (Heap.lt_size (I.pin p hp).1)
  cl := fun x c e => by
    obtain ⟨v, o, ho, _⟩ := I.cell x c e
    exact Nat.ne_of_lt (Heap.lt_size ho)
  fs := I.nofs (Nat.le_refl _)
/-- our record is turned -/
theorem part_turn {P : Addr} {o o' : Obj} {h' : Heap} {t' : Nat} (p : Part X pins P) (I : Inv X ((P, o) :: pins) σ H s) (k : ∀ b u, b ≠ P → s.heap.get? b = some u → h'.get? b = some u) (ho : h'.get? P = some o') (hc : ∀ v, o'.data ≠ .cell v) :
    Inv X ((P, o') :: pins) σ H { s with heap := h', toks := t' } := by
  have n := ClX.pin_un I
  have I1 := (ClX.unpin I).turned (t' := t') k n p.loc (.inr p.ab) p.cl p.np
  refine I1.pins_of fun q hq => ?_
  rcases List.mem_cons.mp hq with e | e
  · subst e
    exact ⟨ho, n, p.loc, p.fs, hc⟩
  · exact I1.pin q (List.mem_append_right _ e)
end
end PF
namespace PF
open PySem PySem.Spec PyProof.Rows L2 Evl
theorem weight_le {id : String} {args : Args} (e1 : (Code.builtin id args).isCreation = false := by rfl) (e2 : (Code.builtin id args).isCaller = false := by rfl) (e3 : (Code.builtin id args).frames = 0 := by rfl) : (Code.builtin id args).weight ≤ 1 := by
  unfold Code.weight
  rw [e1, e2, e3]
  cases (Code.builtin id args).isGuard <;> decide
section
variable {X : Cx} {O : RO} {H0 : Hp}
/-- each of these is shown by pyReprUnder -/
def Shows (X : Cx) (O : RO) (H0 : Hp) (m n : Nat) : Prop := ∀ (v : V) (x : Str), Sh O H0 n v x → ∀ (A : Around) (g : List Code) (pins : List (Addr × Obj)) (s : Shared) (σ : L2.St) (H : Hp) (u : Value) (b : Nat), Sub X (m + n) A → A.guards = some g → NotIn O H0 n g → Ex H0 H → Inv X pins σ H s → RelV v u →
  b + x.length ≤ sizeLine → wpAny (model X.prog X.w) A (pyReprUnder b u) (fun r s' => r = x ∧ After X pins σ H s') X.xe s
/-- what a builtin's body that writes a text leaves -/
def TextR (X : Cx) (pins : List (Addr × Obj)) (σ : L2.St) (H : Hp) (x : Str) (r : Result) (s' : Shared) : Prop :=
  match r with
  | .ok (.ret v) => (∃ t, v = .str x t) ∧ After X pins σ H s'
  | .ok _ => False
  | .error e => X.xe e s'
theorem list_loop {m n : Nat} (ih : Shows X O H0 m n) {a P : Addr} {vs : List V} {ts : List Str} (ha : H0 a = some (.lst vs)) (p : Paired (Sh O H0 n) vs ts) (no : ∀ y, ¬ Sh O H0 n (.ref a) y)
    {A : Around} {g : List Code} {pins : List (Addr × Obj)} {σ : L2.St} {H : Hp} (sb : Sub X (m + (n + 1)) A) (hg : A.guards = some g) (hn : NotIn O H0 n g) (pt : Part X pins P) (b : Nat) (hsz : b + (listText ts).length ≤ sizeLine) :
    ∀ (left i : Nat) (s : Shared) (H1 : Hp) (acc : Array Value) (c : Nat) (done : List (Str × Tok)), left = vs.length - i → i ≤ vs.length → Ex H H1 → Ex H0 H1 → Inv X ((P, { cls := .type "list", dict := none, data := .seq acc c, slots := #[] }) :: pins) σ H1 s →
      acc.toList = strValues done → done.map (·.1) = ts.take i →
      codeAny (model X.prog X.w) A (.builtin "list.__repr__.loop" ⟨[.ref a, rawInt i, .ref P, rawInt ((b + piled (ts.take i) : Nat) : Int)], []⟩) (TextR X pins σ H (listText ts)) s := by
  have lens : ts.length = vs.length := (Paired.length p).symm
  have tl := textFrom_len ts 0 "["
  have wl : (listText ts).length = (textFrom 0 "[" ts).length + 1 := by
    show (textFrom 0 "[" ts ++ ("]" : Str)).length = (textFrom 0 "[" ts).length + 1
    rw [strLen_append]
    rfl
  have few : vs.length ≤ sizeLine := by
    have z := tl.1
    rw [if_neg (Nat.lt_irrefl 0)] at z
    omega
  have pl := piled_le_listText ts
  intro left
  induction left with
  | zero =>
    intro i s H1 acc c done hl hi e1 e0 I hacc hdone
    have at_end : i = vs.length := by omega
    obtain ⟨z, its, k, r, ea⟩ := I.hok a _ (e0 _ _ ha)
    refine codeAny_builtin PySem.F.entry_list_repr_loop ?_
    show wpAny _ _ (Builtin.«list.__repr__.loop» ⟨[.ref a, .int i 0, .ref P, .int ((b + piled (ts.take i) : Nat) : Int) 0], []⟩) _ _ s
    rw [repr_loop_tree]
    refine wpAny_bind (wpAny_listItems ea rfl ?_)
    have none_left : its.toArray[(i : Int).toNat]? = none := by
      rw [Int.toNat_natCast]
      simp [at_end, r.length]
    rw [none_left]
    show wpAny _ _ (reprEnd (.ref P)) _ _ s
    unfold reprEnd
    refine wpAny_bind (wpAny_listItems (ClX.pin_at I) rfl ?_)
    rw [hacc, repr_fold]
    have all : done.map (·.1) = ts := by rw [hdone, at_end, ← lens, List.take_length]
    rw [all]
    refine wpAny_bind (wpAny_pure (wpAny_bind (wpAny_mkStr (wpAny_pure ?_) (show (listText ts).length ≤ sizeLine by omega))))
    exact ⟨⟨_, rfl⟩, H1, (ClX.unpin I).tok _, e1⟩
  | succ left go =>
    intro i s H1 acc c done hl hi e1 e0 I hacc hdone
    have lt : i < vs.length := by omega
    obtain ⟨z, its, k, r, ea⟩ := I.hok a _ (e0 _ _ ha)
    obtain ⟨u, hu, ru⟩ := r.get (List.getElem?_eq_getElem lt)
    obtain ⟨t, ht, sh⟩ := pairedGet p (List.getElem?_eq_getElem lt)
    have p1 := piled_take_succ ht
    have p2 := piled_take_le ts (i + 1)
    have tsz : t.length ≤ sizeLine := by have := tl.2.1 t (List.mem_of_getElem? ht); omega
    refine codeAny_builtin PySem.F.entry_list_repr_loop ?_
    show wpAny _ _ (Builtin.«list.__repr__.loop» ⟨[.ref a, .int i 0, .ref P, .int ((b + piled (ts.take i) : Nat) : Int) 0], []⟩) _ _ s
    rw [repr_loop_tree]
    refine wpAny_bind (wpAny_listItems ea rfl ?_)
    have item : its.toArray[(i : Int).toNat]? = some u := by
      rw [Int.toNat_natCast]
      simpa using hu
    rw [item]
    have sb1 : Sub X (m + n) (A.under (.builtin "list.__repr__.loop" ⟨[.ref a, rawInt i, .ref P, rawInt ((b + piled (ts.take i) : Nat) : Int)], []⟩)) := sub_loop (n := m + n) sb weight_le (units_under_list_loop _ _) rfl
    refine wpAny_bind (wpAny_holding (wpAny_mono (ih _ t sh _ _ _ s σ H1 u (b + piled (ts.take i) + 1) sb1 (guards_under_guard (isGuard_list_loop _) hg) (hn.more no) e0 I ru (by omega)) (fun q s2 z2 => ?_) fun _ _ z => z))
    obtain ⟨rfl, H2, I2, e2⟩ := z2
    refine wpAny_bind (wpAny_mkStr (wpAny_bind ?_) tsz)
    have accsz : acc.size ≤ sizeLine := by
      have a1 : acc.size = done.length := by
        rw [← Array.length_toList, hacc]
        simp [strValues]
      have a2 : done.length ≤ i := by
        rw [← List.length_map (f := (·.1)), hdone, List.length_take]
        omega
      omega
    show wpAny _ _ (updateSeq P _) _ _ _
    refine wpAny_updateSeq (ClX.pin_at (I2.tok _)) rfl (wpAny_pure ⟨PySem.F.quiet_list_repr_loop _, ?_⟩) accsz
    have n1 : (i : Int) + 1 = ((i + 1 : Nat) : Int) := by omega
    have n2 : b + piled (ts.take i) + (q.length + 2) = b + piled (ts.take (i + 1)) := by omega
    rw [n1]
    show codeAny _ _ (.builtin "list.__repr__.loop" ⟨[.ref a, rawInt ((i + 1 : Nat) : Int), .ref P, rawInt (((b + piled (ts.take i) + (q.length + 2) : Nat)) : Int)], []⟩) _ _
    rw [n2]
    refine go (i + 1) _ H2 (acc.push (.str q s2.toks)) _ (done ++ [(q, s2.toks)]) (by omega) lt (e1.trans e2) (e0.trans e2)
      (part_turn (t' := s2.toks + 1) pt (I2.tok (s2.toks + 1)) (fun b u hb e => (Heap.get?_update_other _ _ (fun z => hb z.symm)).trans e) (Heap.get?_update_self _ (ClX.pin_at I2) rfl) (fun v z => nomatch z)) (by simp [hacc, strValues]) (by simp [List.take_add_one, ht, hdone])
/-- the body of list.__repr__ -/
theorem list_at {m n : Nat} (ih : Shows X O H0 m n) {a : Addr} {vs : List V} {ts : List Str} (ha : H0 a = some (.lst vs)) (p : Paired (Sh O H0 n) vs ts) (no : ∀ y, ¬ Sh O H0 n (.ref a) y)
    {A : Around} {g : List Code} {pins : List (Addr × Obj)} {s : Shared} {σ : L2.St} {H : Hp} (sb : Sub X (m + (n + 1)) A) (hg : A.guards = some g) (hn : NotIn O H0 (n + 1) g) (e0 : Ex H0 H) (I : Inv X pins σ H s) (b : Nat) (hsz : b + (listText ts).length ≤ sizeLine) :
    wpAny (model X.prog X.w) A.in1 (Builtin.listReprAt b ⟨[.ref a], []⟩) (fun fin s' => match fin with | .done f => TextR X pins σ H (listText ts) (.ok f) s' | .again c' => c'.quiet = true ∧ codeAny (model X.prog X.w) A c' (TextR X pins σ H (listText ts)) s')
      (fun e s' => TextR X pins σ H (listText ts) (.error e) s') s := by
  obtain ⟨z, its, k, r, ea⟩ := I.hok a _ (e0 _ _ ha)
  cases p with
  | nil =>
    cases r
    refine wpAny_list_repr_empty (n := k) ea rfl ?_
    exact ⟨⟨_, by rw [listText_nil]⟩, H, I.tok _, Ex.refl H⟩
  | @cons v t vs' ts' h1 h2 =>
    obtain ⟨u, us, rfl⟩ : ∃ u us, its = u :: us := by
      cases r with
      | cons _ _ => exact ⟨_, _, rfl⟩
    have cl : Clear g a := hn.clear (x := listText (t :: ts')) (.inr (.inl ⟨a, _, _, rfl, ha, .cons h1 h2, rfl⟩))
    refine wpAny_list_repr_head (A := A.in1) hg (fun w rest kw hm => listSameRef_of_ne (cl _ _ _ _ hm)) ea rfl (wpAny_bind (m := newList []) (wpAny_newObj_type (wpAny_pure ⟨PySem.F.quiet_list_repr_loop _, ?_⟩)))
    have pt := part_new I
    have I1 : Inv X ((s.heap.objs.size, { cls := .type "list", dict := none, data := .seq #[] 0, slots := #[] }) :: pins) σ H { s with heap := s.heap.push { cls := .type "list", dict := none, data := .seq #[] 0 } } :=
      ClX.pin_new (t' := s.toks) I (fun _ _ q => Heap.get?_push_of_some _ q) (Nat.le_refl _) (Heap.get?_push_size _ rfl) (fun v q => nomatch q)
    exact list_loop ih ha (.cons h1 h2) no sb hg hn.less pt b hsz _ 0 _ H #[] 0 [] rfl (Nat.zero_le _) (Ex.refl H) e0 I1 rfl rfl
/-- a flat thing, an instance -/
theorem leafU {m : Nat} (k : ROk O) (own : OShow X m O) {v : V} {x : Str} (h : Leaf O H0 v x) {A : Around} {pins : List (Addr × Obj)} {s : Shared} {σ : L2.St} {H : Hp} {u : Value} {b : Nat} (sb : Sub X m A) (e0 : Ex H0 H) (I : Inv X pins σ H s) (r : RelV v u) (sz : b + x.length ≤ sizeLine) :
    wpAny (model X.prog X.w) A (pyReprUnder b u) (fun r s' => r = x ∧ After X pins σ H s') X.xe s := by
  cases h with
  | non => cases r; exact ReprIs.none b sz A _ s _ fun tk => ⟨rfl, H, I.tok tk, Ex.refl H⟩
  | bl c => cases r; exact ReprIs.bool c b sz A _ s _ fun tk => ⟨rfl, H, I.tok tk, Ex.refl H⟩
  | int i hi => obtain ⟨t, rfl⟩ := r; exact ReprIs.int t hi b sz A _ s _ fun tk => ⟨rfl, H, I.tok tk, Ex.refl H⟩
  | str y hy => obtain ⟨t, rfl⟩ := r; exact ReprIs.str y t hy b sz A _ s _ fun tk => ⟨rfl, H, I.tok tk, Ex.refl H⟩
  | own a y ha =>
    cases r
    refine wpAny_pyReprUnder_ref (by omega) (wpAny_mono ((own A pins s σ H a x sb I (k.up e0 ha)).2 b) (fun w s' q => ?_) fun _ _ q => q)
    obtain ⟨⟨t, rfl⟩, af⟩ := q
    exact ⟨x, t, rfl, rfl, af⟩
/-- from the wish of a body to the wish of its call -/
theorem text_end {pins : List (Addr × Obj)} {s : Shared} {σ : L2.St} {H : Hp} {x : Str} {A A' : Around} {t : Sem Fin}
    (h : wpAny (model X.prog X.w) A' t (fun fin s' => match fin with | .done f => TextR X pins σ H x (.ok f) s' | .again c' => c'.quiet = true ∧ codeAny (model X.prog X.w) A c' (TextR X pins σ H x) s') (fun e s' => TextR X pins σ H x (.error e) s') s) :
    wpAny (model X.prog X.w) A' t (fun fin s' => match fin with | .done f => callEnd (fun w s' => (∃ t, w = .str x t) ∧ After X pins σ H s') X.xe (.ok f) s' | .again c' => c'.quiet = true ∧ codeAny (model X.prog X.w) A c' (callEnd (fun w s' => (∃ t, w = .str x t) ∧ After X pins σ H s') X.xe) s')
      (fun e s' => callEnd (fun w s' => (∃ t, w = .str x t) ∧ After X pins σ H s') X.xe (.error e) s') s := by
  have go : ∀ r s', TextR X pins σ H x r s' → callEnd (fun w s' => (∃ t, w = .str x t) ∧ After X pins σ H s') X.xe r s' := fun r s' q => by
    match r, q with
    | .ok (.ret v), q => exact q
    | .ok .next, q => exact q
    | .ok .brk, q => exact q
    | .ok .cont, q => exact q
    | .error e, q => exact q
  refine wpAny_mono h (fun fin s' q => ?_) fun e s' q => q
  match fin, q with
  | .done f, q => exact go _ _ q
  | .again c, q => exact ⟨q.1, codeAny_mono q.2 go⟩
theorem text_endO {pins : List (Addr × Obj)} {s : Shared} {σ : L2.St} {H : Hp} {x : Str} {A : Around} {c : Code} {t : Sem Fin}
    (h : wpOwn (model X.prog X.w) A c t (fun fin s' => match fin with | .done f => TextR X pins σ H x (.ok f) s' | .again c' => c'.quiet = true ∧ codeAny (model X.prog X.w) A c' (TextR X pins σ H x) s') (fun e s' => TextR X pins σ H x (.error e) s') s) :
    wpOwn (model X.prog X.w) A c t (fun fin s' => match fin with | .done f => callEnd (fun w s' => (∃ t, w = .str x t) ∧ After X pins σ H s') X.xe (.ok f) s' | .again c' => c'.quiet = true ∧ codeAny (model X.prog X.w) A c' (callEnd (fun w s' => (∃ t, w = .str x t) ∧ After X pins σ H s') X.xe) s')
      (fun e s' => callEnd (fun w s' => (∃ t, w = .str x t) ∧ After X pins σ H s') X.xe (.error e) s') s := by
  have go : ∀ r s', TextR X pins σ H x r s' → callEnd (fun w s' => (∃ t, w = .str x t) ∧ After X pins σ H s') X.xe r s' := fun r s' q => by
    match r, q with
    | .ok (.ret v), q => exact q
    | .ok .next, q => exact q
    | .ok .brk, q => exact q
    | .ok .cont, q => exact q
    | .error e, q => exact q
  intro Γ p hc hb
  refine Sem.wp_mono _ _ _ (fun fin _ s' q => ?_) (fun e _ s' q => q) _ _ (h Γ p hc hb)
  match fin, q with
  | .done f, q => exact go _ _ q
  | .again c, q => exact ⟨q.1, codeAny_mono q.2 go⟩
/-- the fold over a tuple's items -/
theorem tup_fold {m n : Nat} (ih : Shows X O H0 m n) {A : Around} {g : List Code} {pins : List (Addr × Obj)} {σ : L2.St} (sb : Sub X (m + n) A) (hg : A.guards = some g) (hn : NotIn O H0 n g) : ∀ (vs : List V) (us : List Value) (ts : List Str) (acc : Array Str) (k : Nat) (s : Shared) (H : Hp)
    (Q : (Array Str × Nat) → Shared → Prop), Vals vs us → Paired (Sh O H0 n) vs ts → Ex H0 H → Inv X pins σ H s → k + piled ts ≤ sizeLine → (∀ s', After X pins σ H s' → Q ⟨acc ++ ts.toArray, k + piled ts⟩ s') → wpAny (model X.prog X.w) A (forIn us (⟨acc, k⟩ : (Array Str × Nat)) tupBody) Q X.xe s
  | _, _, _, acc, k, s, H, Q, .nil, .nil, _, I, _, q => by
    rw [List.forIn_nil]
    have z := q s ⟨H, I, Ex.refl H⟩
    exact wpAny_pure (by simpa [piled] using z)
  | _, _, _, acc, k, s, H, Q, @Paired.cons _ _ _ v u vs us r rs, @Paired.cons _ _ _ _ t _ ts h hs, e, I, sz, q => by
    rw [piled_cons] at sz
    rw [List.forIn_cons]
    refine wpAny_bind (wpAny_bind (wpAny_mono (ih v t h A g pins s σ H u (k + 1) sb hg hn e I r (by omega)) (fun x s1 z => wpAny_pure ?_) fun _ _ z => z))
    obtain ⟨rfl, H1, I1, e1⟩ := z
    refine tup_fold ih sb hg hn vs us ts (acc.push x) (k + (x.length + 2)) s1 H1 Q rs hs (e.trans e1) I1 (by omega) fun s' a => ?_
    have z := q s' (a.trans e1)
    have n1 : k + piled (x :: ts) = k + (x.length + 2) + piled ts := by rw [piled_cons]; omega
    rw [n1] at z
    simpa using z
/-- the body of tuple.__repr__ -/
theorem tuple_at {m n : Nat} (ih : Shows X O H0 m n) {a : Addr} {vs : List V} {ts : List Str} (ha : H0 a = some (.tup vs)) (p : Paired (Sh O H0 n) vs ts) (no : ∀ y, ¬ Sh O H0 n (.ref a) y)
    {A : Around} {g : List Code} {pins : List (Addr × Obj)} {s : Shared} {σ : L2.St} {H : Hp} (sb : Sub X (m + (n + 1)) A) (hg : A.guards = some g) (hn : NotIn O H0 (n + 1) g) (e0 : Ex H0 H) (I : Inv X pins σ H s) (b : Nat) (hsz : b + (tupleText ts).length ≤ sizeLine)
    {id : String} {rest : List Value} (h1 : (Code.builtin id ⟨.ref a :: rest, []⟩).isGuard = true) (h2 : (A.under (.builtin id ⟨.ref a :: rest, []⟩)).units = A.units + 1) (h3 : (Code.builtin id ⟨.ref a :: rest, []⟩).weight ≤ 1) (h4 : (A.under (.builtin id ⟨.ref a :: rest, []⟩)).frames = A.frames) :
    wpOwn (model X.prog X.w) A (.builtin id ⟨.ref a :: rest, []⟩) (Builtin.tupleReprAt b ⟨[.ref a], []⟩) (fun fin s' => match fin with | .done f => TextR X pins σ H (tupleText ts) (.ok f) s' | .again c' => c'.quiet = true ∧ codeAny (model X.prog X.w) A c' (TextR X pins σ H (tupleText ts)) s')
      (fun e s' => TextR X pins σ H (tupleText ts) (.error e) s') s := by
  have cl : Clear g a := hn.clear (x := tupleText ts) (.inr (.inr ⟨a, _, _, rfl, ha, p, rfl⟩))
  obtain ⟨z, its, r, o, ea, ec, k, ed⟩ := I.hok a _ (e0 _ _ ha)
  have lens : ts.length = its.toArray.size := by
    rw [List.size_toArray, ← r.length]
    exact (Paired.length p).symm
  have pl := piled_le_tupleText ts
  rw [tuple_repr_tree, tupleReprUnderWay_eq]
  refine wpOwn_bind (wpOwn_stackTailAny hg (tupGuardF_off _) (tupGuardF_pos _) ?_)
  have off : (g.any fun c => tupGuardF (.ref a) (c, default)) = false := List.any_eq_false.mpr fun c hc => by
    rw [tupGuardF_of_clear cl c hc]
    decide
  rw [off]
  refine wpOwn_of_wpAny ?_
  show wpAny _ _ (tupleReprRest b (.ref a)) _ _ s
  unfold tupleReprRest Builtin.Tuple.tupleItemsOf
  refine wpAny_bind (wpAny_bind (wpAny_seqItems ea ed (wpAny_pure ?_)))
  rw [← Array.forIn_toList]
  have sb1 : Sub X (m + n) (A.under (.builtin id ⟨.ref a :: rest, []⟩)) := sub_loop (n := m + n) sb h3 h2 h4
  refine wpAny_bind (tup_fold ih sb1 (guards_under_guard h1 hg) (hn.less.more no) vs its ts #[] b s H _ r p e0 I (by omega) fun s' af => ?_)
  refine wpAny_bind (wpAny_mkStr (wpAny_pure ?_) (by simpa [tupleText, lens] using (show (tupleText ts).length ≤ sizeLine by omega)))
  exact ⟨⟨_, by simp [tupleText, lens]; rfl⟩, af.tok⟩
/-- THE THEOREM: what is shown is written so -/
theorem shows_all {m : Nat} (k : ROk O) (own : OShow X m O) (n : Nat) : Shows X O H0 m n := by
  induction n with
  | zero =>
    intro v x h A g pins s σ H u b sb hg hn e0 I r sz
    exact leafU k own h (sb.mono (Nat.le_refl _)) e0 I r sz
  | succ n ih =>
    intro v x h A g pins s σ H u b sb hg hn e0 I r sz
    by_cases low : ∃ y, Sh O H0 n v y
    · obtain ⟨y, hy⟩ := low
      have e := Sh.one k n (n + 1) v y x hy h
      subst e
      exact ih v y hy A g pins s σ H u b (sb.mono (by omega)) hg hn.less e0 I r sz
    · have no : ∀ y, ¬ Sh O H0 n v y := fun y hy => low ⟨y, hy⟩
      rcases h with h | ⟨a, vs, ts, rfl, ha, p, rfl⟩ | ⟨a, vs, ts, rfl, ha, p, rfl⟩
      · exact (no x (h.sh n)).elim
      · cases r
        obtain ⟨z, its, kk, rr, ea⟩ := I.hok a _ (e0 _ _ ha)
        have body := list_at ih ha p no sb hg hn e0 I b sz
        refine wpAny_pyReprUnder_ref (by omega) (wpAny_pyReprObjUnder_twin (twin := "list.__repr__.under") ⟨_, ea, rfl⟩ PySem.F.slot_list_repr.toG rfl sb.room.units0 ?_)
        refine wpAny_mono (call_twin_plain (Q := fun w s' => (∃ t, w = .str (listText ts) t) ∧ After X pins σ H s') (E := X.xe) PySem.F.plain_list_repr_under PySem.F.entry_list_repr_under PySem.F.check_list_repr_under ⟨_, ea, rfl⟩ PySem.F.slot_list_repr.toG (PySem.F.args_list_repr_1 _) (text_end body)) (fun w s' q => ?_) fun _ _ q => q
        obtain ⟨⟨t, rfl⟩, af⟩ := q
        exact ⟨⟨_, _, rfl⟩, _, _, rfl, rfl, af⟩
      · cases r
        obtain ⟨z, its, rr, o, ea, ec, kk, ed⟩ := I.hok a _ (e0 _ _ ha)
        have body := tuple_at ih ha p no sb hg hn e0 I b sz (id := "tuple.__repr__.under") (rest := [rawInt b]) (isGuard_tuple_repr_under _) (units_under_tuple_repr_under _ _) weight_le rfl
        refine wpAny_pyReprUnder_ref (by omega) (wpAny_pyReprObjUnder_twin (twin := "tuple.__repr__.under") ⟨_, ea, ec⟩ PySem.F.slot_tuple_repr rfl sb.room.units0 ?_)
        refine wpAny_mono (call_twin_own (Q := fun w s' => (∃ t, w = .str (tupleText ts) t) ∧ After X pins σ H s') (E := X.xe) (PySem.F.quiet_tuple_repr_under _) PySem.F.entry_tuple_repr_under PySem.F.check_tuple_repr_under ⟨_, ea, ec⟩ PySem.F.slot_tuple_repr (PySem.F.args_tuple_repr_1 _) (text_endO body)) (fun w s' q => ?_) fun _ _ q => q
        obtain ⟨⟨t, rfl⟩, af⟩ := q
        exact ⟨⟨_, _, rfl⟩, _, _, rfl, rfl, af⟩
end
end PF
namespace PF
open PySem PySem.Spec PyProof.Rows L2 Evl
section
variable {prog : Program} {w : World} {A : Around} {E : Value → Shared → Prop} {s : Shared}
/-- repr(v) by the slot of v's type -/
theorem repr_slot {T id : String} {v : Value} {Q : Value → Shared → Prop} (hT : s.TypeIs v T) (slot : SlotG T (Str.ofString "__repr__") id) (hu : A.in1.units < cLine)
    (h : wpAny (model prog w) A.in1 (call (.builtin id) [v]) (fun r s' => (∃ x t, r = .str x t) ∧ Q r s') E s) : wpAny (model prog w) A (call (.builtin "repr") [v]) Q E s := by
  refine Calls.call_function_entry PySem.F.kind_repr PySem.F.plain_repr PySem.F.entry_repr (PySem.F.args_repr1 _) ?_
  unfold Builtin.«repr»
  refine wpAny_bind (m := oneArg "repr" ⟨[v], []⟩) (wpAny_pure (wpAny_bind (wpAny_cRoomFor hu ?_)))
  refine wpAny_bind (wpAny_specialOf (name := Str.ofString "__repr__") hT slot.lookup ?_)
  refine wpAny_bind (m := callSpecialIfBound? v (Str.ofString "__repr__")) (wpAny_callSpecialIfBound?_slotG (name := Str.ofString "__repr__") hT slot (wpAny_mono h (fun r s' z => ?_) fun _ _ z => z))
  obtain ⟨⟨x, t, rfl⟩, q⟩ := z
  exact wpAny_bind (wpAny_isInstance (T := "str") (b := true) rfl isSubtype_str_str (wpAny_pure ⟨_, rfl, q⟩))
theorem bound_by {K : PySem.W.Frag} {x C f : Addr} {ox : Obj} {od : Option Obj} {name : Str} {last : Value → List Value → Sem Value} {Q : Option Value → Shared → Prop} (X : K.In s.heap) (I : PySem.W.InstAt s.heap x ox C od) (hs : PySem.W.findIn K (.ref C) name = some (some (.ref f)))
    (hf : PySem.W.isFn K (.ref f) = true) (h : wpAny (model prog w) A (last (.ref f) [.ref x]) (fun v => Q (some v)) E s) : wpAny (model prog w) A (callSpecialIfBoundBy? last (.ref x) name) Q E s := by
  have go : wpAny (model prog w) A (last (.ref f) [.ref x] >>= fun v => pure (some v)) Q E s := wpAny_bind (wpAny_mono h (fun _ _ z => wpAny_pure z) fun _ _ z => z)
  unfold callSpecialIfBoundBy? bindSpecialIfBound?
  refine wpAny_holding (wpAny_bind (wpAny_bind (wpAny_bind (I.type.here ((PySem.W.looks_findIn X hs).here (wpAny_bind (wpAny_askSetting (wpAny_ite ?_))))))))
  split
  · exact wpAny_bind ((PySem.W.bind_fn X (.ref x) (beq_iff_eq.mp hf)).here (wpAny_pure go))
  · exact wpAny_tryCatch (wpAny_bind ((PySem.W.bind_fn X (.ref x) (beq_iff_eq.mp hf)).here (wpAny_pure go)))
end
section
variable {X : Cx}
theorem leafC {O : RO} {m : Nat} {H : Hp} (own : OShow X m O) {v : V} {x : Str} (h : Leaf O H v x) (sb : Sub X (m + 1) X.A) {pins : List (Addr × Obj)} {s : Shared} {σ : L2.St} {u : Value} (I : Inv X pins σ H s) (r : RelV v u) :
    wpAny (model X.prog X.w) X.A (call (.builtin "repr") [u]) (fun v s' => (∃ t, v = .str x t) ∧ After X pins σ H s') X.xe s := by
  cases h with
  | non => cases r; exact PySem.P.repr_of_none ⟨⟨_, rfl⟩, H, I.tok _, Ex.refl H⟩
  | bl c => cases r; exact PySem.P.repr_of_bool ⟨⟨_, rfl⟩, H, I.tok _, Ex.refl H⟩
  | int i hi => obtain ⟨t, rfl⟩ := r; exact PySem.P.repr_of_int hi ⟨⟨_, rfl⟩, H, I.tok _, Ex.refl H⟩
  | str y hy => obtain ⟨t, rfl⟩ := r; exact PySem.P.repr_of_str ⟨⟨_, rfl⟩, H, I.tok _, Ex.refl H⟩ hy
  | own a y ha =>
    cases r
    exact (own X.A pins s σ H a x (sb.mono (Nat.le_succ _)) I ha).1
end
/-- an own text's promise -/
def spText (R : RO) : Sp := fun vs H Q _ => ∃ a x, vs = [.ref a] ∧ R a x H ∧ ∀ H', Ex H H' → Q (.str x) H'
section
variable {X : Cx} {CX : CXT} {k : Nat} {C f : Addr} {fd : FuncData} {ps : List Str} {R : RO} {E : XK}
theorem oshow_of (m : Meth X.K C "__repr__" f) (F : FnOk X.prog X.w X.K X.mg X.base CX k f fd ps (spText R)) (hb : Binds X.K fd ps []) (hx : Passes CX X E) (hC : ∀ a x H, R a x H → ∃ dx fs, H a = some (.ins C dx fs)) : OShow X (k + 1) R := by
  intro A pins s σ H a x sb I r
  obtain ⟨dx, fs, ea⟩ := hC a x H r
  obtain ⟨od, J⟩ := inst_at I ea
  have r2 : Vals [V.ref a] [Value.ref a] := .cons rfl .nil
  have hsp : spText R [.ref a] H (fun v H' => v = .str x ∧ Ex H H') E := ⟨a, x, rfl, r, fun H' e => ⟨rfl, e⟩⟩
  have run : ∀ {B : Around}, Sub X k B → wpAny (model X.prog X.w) B (call (.ref f) [.ref a]) (fun v s' => (∃ t, v = .str x t) ∧ After X pins σ H s') X.xe s := fun {B} sb' =>
    thn (run_at F sb' hb hx I r2 hsp) fun v s' z => by
      obtain ⟨w, H', I', rw', ew, e⟩ := z
      subst ew
      exact ⟨rw', H', I', e⟩
  obtain ⟨m0, hF⟩ := I.fr
  refine ⟨PySem.W.repr_K (by have := sb.in1.room.units; omega) hF I.ok.mod.kin J m.at_ m.fn (thn (run sb.in1) fun v s' z => ?_), fun base => ?_⟩
  · obtain ⟨⟨t, rfl⟩, af⟩ := z
    exact ⟨⟨t, rfl⟩, af⟩
  · unfold pyReprObjUnder pyReprObjBy
    have fin : wpAny (model X.prog X.w) A (call (.ref f) ([.ref a] ++ [])) (fun v s' => (∃ t, v = .str x t) ∧ After X pins σ H s') X.xe s := run (sb.mono (Nat.le_succ _))
    refine wpAny_bind (wpAny_cRoomFor sb.room.units0 (wpAny_bind (wpAny_bind (J.type.here ((PySem.W.looks_findIn I.kIn m.at_).here ?_)))))
    show wpAny _ _ (do
      let r ← callSpecialIfBoundBy? _ (.ref a) (Str.ofString "__repr__")
      _) _ _ _
    refine wpAny_bind (bound_by I.kIn J m.at_ m.fn (wpAny_mono fin (fun v s' z => ?_) fun _ _ z => z))
    obtain ⟨⟨t, rfl⟩, af⟩ := z
    exact wpAny_bind (wpAny_isInstance (T := "str") (b := true) rfl isSubtype_str_str (wpAny_pure ⟨⟨t, rfl⟩, af⟩))
/-- repr(x) -/
def rRepr (O : RO) (n : Nat) : List V → Hp → VK → Prop := fun xs H Q => ∃ v x, xs = [v] ∧ Sh O H n v x ∧ x.length ≤ sizeLine ∧ ∀ H', Ex H H' → Q (.str x) H'
theorem call_repr {O : RO} {m n : Nat} (hg : X.A.guards = some []) (hr : Room (m + n + 3) X.A) (k : ROk O) (own : OShow X m O) : CallR X (.builtin "repr") (rRepr O n) := by
  intro pins s σ H xs us Q I r h
  obtain ⟨v, x, rfl, sh, sz, q⟩ := h
  obtain ⟨u, rfl, ru⟩ := vals1 r
  have sb : Sub X (m + n + 3) X.A := ⟨hr, rfl⟩
  suffices z : wpAny (model X.prog X.w) X.A (call (.builtin "repr") [u]) (fun v s' => (∃ t, v = .str x t) ∧ After X pins σ H s') X.xe s from
    thn z fun v s' z => by
      obtain ⟨⟨t, rfl⟩, H', I', e⟩ := z
      exact ⟨.str x, H', I', ⟨t, rfl⟩, q H' e⟩
  clear q
  induction n with
  | zero => exact leafC own sh (sb.mono (by omega)) I ru
  | succ n ih =>
    by_cases low : Sh O H n v x
    · exact ih (hr.mono (by omega)) low (sb.mono (by omega))
    · have no : ∀ y, ¬ Sh O H n v y := fun y hy => low (by rw [Sh.one k (n + 1) n v x y sh hy]; exact hy)
      have nog : ∀ n, NotIn O H n [] := fun n id a rest kw hm => by cases hm
      rcases sh with h | ⟨a, vs, ts, rfl, ha, p, rfl⟩ | ⟨a, vs, ts, rfl, ha, p, rfl⟩
      · exact leafC own h (sb.mono (by omega)) I ru
      · cases ru
        obtain ⟨z, its, kk, rr, ea⟩ := I.hok a _ ha
        have sb1 : Sub X (m + (n + 1)) X.A.in1 := Sub.mono (n := m + n + 3) (Sub.in1 (n := m + n + 3) sb) (by omega)
        have body := list_at (shows_all k own n) ha p no sb1 hg (nog _) (Ex.refl H) I 0 (by omega)
        refine repr_slot ⟨_, ea, rfl⟩ PySem.F.slot_list_repr.toG (by have := sb1.room.units; omega) (wpAny_mono (Q := fun w s' => (∃ t, w = .str (listText ts) t) ∧ After X pins σ H s') ?_ (fun w s' z => ?_) fun _ _ z => z)
        · exact wpAny_call (codeAny_call_builtin PySem.F.slot_list_repr.plain PySem.F.entry_list_repr (PySem.F.slot_list_repr.check _ _ _ _ _ _ _ _ ⟨_, ea, rfl⟩ (PySem.F.args_list_repr_1 _) (text_end body)))
        · obtain ⟨⟨t, rfl⟩, af⟩ := z
          exact ⟨⟨_, t, rfl⟩, ⟨t, rfl⟩, af⟩
      · cases ru
        obtain ⟨z, its, rr, o, ea, ec, kk, ed⟩ := I.hok a _ ha
        have sb1 : Sub X (m + (n + 1)) X.A.in1 := Sub.mono (n := m + n + 3) (Sub.in1 (n := m + n + 3) sb) (by omega)
        have body := tuple_at (shows_all k own n) ha p no sb1 hg (nog _) (Ex.refl H) I 0 (by omega) (id := "tuple.__repr__") (rest := []) (isGuard_tuple_repr _) (units_under_tuple_repr _ _) weight_le rfl
        refine repr_slot ⟨_, ea, ec⟩ PySem.F.slot_tuple_repr (by have := sb1.room.units; omega) (wpAny_mono (Q := fun w s' => (∃ t, w = .str (tupleText ts) t) ∧ After X pins σ H s') ?_ (fun w s' z => ?_) fun _ _ z => z)
        · exact wpAny_call (codeAny_call_builtin_own (Code.quiet_builtin _ (by decide +kernel)) PySem.F.entry_tuple_repr (PySem.F.slot_tuple_repr.check _ _ _ _ _ _ _ _ ⟨_, ea, ec⟩ (PySem.F.args_tuple_repr_1 _) (text_endO body)))
        · obtain ⟨⟨t, rfl⟩, af⟩ := z
          exact ⟨⟨_, t, rfl⟩, ⟨t, rfl⟩, af⟩
/-- str(x), x an instance with its own __str__ -/
def rStrO (R : RO) : List V → Hp → VK → Prop := fun xs H Q => ∃ a x, xs = [.ref a] ∧ R a x H ∧ ∀ H', Ex H H' → Q (.str x) H'
end
end PF
namespace PF
open PySem PySem.Spec PyProof.Rows L2 Evl
def rf (q : Rat) : List (Str × V) := putF "_bottom" (.int (q.den : Int)) (putF "_top" (.int q.num) [])
def RatAt (C : Addr) (q : Rat) (a : Addr) (H : Hp) : Prop := ∃ dx, H a = some (.ins C dx (rf q))
def DRat (C : Addr) (q : Rat) : DV := fun v H => ∃ a, v = .ref a ∧ RatAt C q a H
theorem RatAt.up {C a : Addr} {q : Rat} {H H' : Hp} (e : Ex H H') (h : RatAt C q a H) : RatAt C q a H' := by
  obtain ⟨dx, h⟩ := h
  exact ⟨dx, e _ _ h⟩
instance {C : Addr} {q : Rat} : Mn (DRat C q) := ⟨fun e h => by
  obtain ⟨a, h1, h2⟩ := h
  exact ⟨a, h1, h2.up e⟩⟩
/-- an INTEGER or a Ratio -/
def DNum (C : Addr) (q : Rat) : DV := fun v H => (∃ i : Int, v = .int i ∧ q = (i : Rat)) ∨ DRat C q v H
instance {C : Addr} {q : Rat} : Mn (DNum C q) := ⟨fun e h => by
  rcases h with h | h
  · exact .inl h
  · exact .inr (Mn.mono e h)⟩
theorem DRat.num {C : Addr} {q : Rat} {v : V} {H : Hp} (h : DRat C q v H) : DNum C q v H := .inr h
/-- no more than n binary digits -/
def Sz (n : Nat) (q : Rat) : Prop := q.num.natAbs < 2 ^ n ∧ q.den < 2 ^ n
theorem Sz.le {n m : Nat} {q : Rat} (h : Sz n q) (l : n ≤ m) : Sz m q :=
  ⟨Nat.lt_of_lt_of_le h.1 (Nat.pow_le_pow_right (by decide) l), Nat.lt_of_lt_of_le h.2 (Nat.pow_le_pow_right (by decide) l)⟩
theorem gcd_swap (t b : Int) : ((Nat.gcd t.natAbs b.natAbs : Nat) : Int) = (b.gcd t : Nat) := by
  show ((Nat.gcd t.natAbs b.natAbs : Nat) : Int) = ((Nat.gcd b.natAbs t.natAbs : Nat) : Int)
  rw [Nat.gcd_comm]
/-- exact division by what has the bottom's sign -/
theorem top_div {t b : Int} (h : 0 < b) : t.fdiv (Nat.gcd t.natAbs b.natAbs : Nat) = (Rat.divInt t b).num := by
  rw [gcd_swap, Rat.num_divInt, Int.sign_eq_one_of_pos h, Int.one_mul, Int.fdiv_eq_ediv_of_nonneg _ (Int.natCast_nonneg _)]
theorem top_div_neg {t b : Int} (h : b < 0) : t.fdiv (-((Nat.gcd t.natAbs b.natAbs : Nat) : Int)) = (Rat.divInt t b).num := by
  have d : ((b.gcd t : Nat) : Int) ∣ t := Int.gcd_dvd_right ..
  rw [gcd_swap, Rat.num_divInt, Int.sign_eq_neg_one_of_neg h, Int.fdiv_eq_ediv_of_dvd (Int.neg_dvd.mpr d), Int.ediv_neg, Int.neg_mul, Int.one_mul, Int.neg_ediv_of_dvd d]
theorem bottom_div {t b : Int} (h : 0 < b) : b.fdiv (Nat.gcd t.natAbs b.natAbs : Nat) = ((Rat.divInt t b).den : Int) := by
  rw [gcd_swap, Rat.den_divInt, if_neg (by omega), Int.fdiv_eq_ediv_of_nonneg _ (Int.natCast_nonneg _), Int.natCast_ediv, Int.natAbs_of_nonneg (by omega)]
theorem bottom_div_neg {t b : Int} (h : b < 0) : b.fdiv (-((Nat.gcd t.natAbs b.natAbs : Nat) : Int)) = ((Rat.divInt t b).den : Int) := by
  have d : ((b.gcd t : Nat) : Int) ∣ b := Int.gcd_dvd_left ..
  rw [gcd_swap, Rat.den_divInt, if_neg (by omega), Int.fdiv_eq_ediv_of_dvd (Int.neg_dvd.mpr d), Int.ediv_neg, Int.natCast_ediv, ← Int.neg_ediv_of_dvd d]
  congr 1
  omega
theorem divInt_num_le (t b : Int) : (Rat.divInt t b).num.natAbs ≤ t.natAbs := by
  rw [Rat.num_divInt, Int.natAbs_ediv_of_dvd (Int.dvd_mul_of_dvd_right (Int.gcd_dvd_right ..)), Int.natAbs_mul]
  refine Nat.le_trans (Nat.div_le_self _ _) ?_
  have : b.sign.natAbs ≤ 1 := by
    rw [Int.natAbs_sign]
    split <;> omega
  calc b.sign.natAbs * t.natAbs ≤ 1 * t.natAbs := Nat.mul_le_mul_right _ this
    _ = t.natAbs := Nat.one_mul _
theorem divInt_den_le (t b : Int) (h : b ≠ 0) : (Rat.divInt t b).den ≤ b.natAbs := by
  rw [Rat.den_divInt, if_neg h]
  exact Nat.div_le_self _ _
theorem gcd_le_bottom {t b : Int} (h : b ≠ 0) : Nat.gcd t.natAbs b.natAbs ≤ b.natAbs := Nat.gcd_le_right _ (by omega)
theorem gcd_pos_bottom {t b : Int} (h : b ≠ 0) : 0 < Nat.gcd t.natAbs b.natAbs := Nat.gcd_pos_of_pos_right _ (by omega)
/-- sums and products of Ratios, as the program makes them -/
theorem den_ne (q : Rat) : (q.den : Int) ≠ 0 := by
  have := q.den_pos
  omega
theorem den_pos (q : Rat) : 0 < (q.den : Int) := by
  have := q.den_pos
  omega
theorem add_made (p q : Rat) : Rat.divInt (p.num * q.den + q.num * p.den) (p.den * q.den) = p + q := by
  rw [← Rat.divInt_add_divInt _ _ (den_ne p) (den_ne q), Rat.num_divInt_den, Rat.num_divInt_den]
theorem neg_made (p : Rat) : Rat.divInt (-p.num) p.den = -p := by
  rw [← Rat.neg_divInt, Rat.num_divInt_den]
theorem int_made (i : Int) : Rat.divInt i 1 = (i : Rat) := by
  have h := Rat.divInt_ofNat i 1
  rw [Rat.mkRat_one] at h
  exact h
theorem Sz.neg {n : Nat} {q : Rat} (h : Sz n q) : Sz n (-q) := by
  refine ⟨?_, ?_⟩
  · rw [Rat.neg_num, Int.natAbs_neg]
    exact h.1
  · rw [Rat.neg_den]
    exact h.2
theorem prod_lt {a b n m : Nat} (ha : a < 2 ^ n) (hb : b < 2 ^ m) : a * b < 2 ^ (n + m) := by
  rw [Nat.pow_add]
  exact Nat.mul_lt_mul'' ha hb
theorem Sz.add {n m : Nat} {p q : Rat} (hp : Sz n p) (hq : Sz m q) : Sz (n + m + 1) (p + q) := by
  have h2 : (2 : Nat) ^ (n + m + 1) = 2 ^ (n + m) + 2 ^ (n + m) := by
    rw [Nat.pow_succ]
    omega
  rw [← add_made]
  refine ⟨Nat.lt_of_le_of_lt (divInt_num_le _ _) ?_, Nat.lt_of_le_of_lt (divInt_den_le _ _ ?_) ?_⟩
  · refine Nat.lt_of_le_of_lt (Int.natAbs_add_le _ _) ?_
    rw [Int.natAbs_mul, Int.natAbs_mul, Int.natAbs_natCast, Int.natAbs_natCast]
    have a1 := prod_lt hp.1 hq.2
    have a2 := prod_lt hq.1 hp.2
    rw [Nat.add_comm m n] at a2
    omega
  · exact Int.mul_ne_zero (den_ne p) (den_ne q)
  · rw [Int.natAbs_mul, Int.natAbs_natCast, Int.natAbs_natCast]
    have a1 := prod_lt hp.2 hq.2
    omega
theorem log_lt {a n : Nat} (h : a < 2 ^ n) (h0 : 0 < n) : a.log2 < n := by
  by_cases z : a = 0
  · subst z
    rw [Nat.log2_zero]
    exact h0
  · exact (Nat.log2_lt z).mpr h
/-- // by any number but 0 of less than 9000 binary digits -/
def CDivX (_ j : Int) : Prop := j ≠ 0 ∧ j.natAbs < 2 ^ 9000
theorem op_fdivX {X : Cx} : OpR X (binaryOp .FloorDiv) (rI CDivX fun i j => .int (i.fdiv j)) := opI fun i j _ _ _ _ _ hc q => floordiv_int hc.1 q (.inl (PyProof.noPylong_of_log2 (log_lt hc.2 (by decide))))
/-- * of numbers of less than 400000 binary digits -/
def CMulY (i j : Int) : Prop := i.natAbs < 2 ^ 400000 ∧ j.natAbs < 2 ^ 400000
theorem op_mulY {X : Cx} : OpR X (binaryOp .Mult) (rI CMulY fun i j => .int (i * j)) := opI fun i j _ _ _ _ _ hc q => mul_int q (CMulW.ok (by
  have a := log_lt hc.1 (by decide)
  have b := log_lt hc.2 (by decide)
  unfold CMulW
  omega))
section
variable {K : PySem.W.Frag} {σ : L2.St} {H : Hp} {ta tv : TE} {t : TA} {tz : TS} {D' : Ends} {C a dx : Addr} {fs : List (Str × V)} {f m : Str} {v : V} {D : DV} {P : List V → Hp → Prop} {sp : Sp} {dvs : List V} {E : XK}
theorem ev_fld (ho : Ev ta σ H (.ref a)) (h : H a = some (.ins C dx fs)) (c : Cls K C) (n : NoAttr K C f) (l : fs.lookup f = some v) : Ev (tFld K ta f) σ H v := fun H1 e Q q =>
  ho H1 e _ fun H2 e2 => ⟨a, C, dx, fs, v, rfl, e2 _ _ (e _ _ h), c, n, l, q H2 e2⟩
end
end PF
namespace PF
open PySem PySem.Spec PyProof.Rows L2 Evl
/-- the source, at l -/
def PotAt (l : Addr) (H : Hp) : Prop := ∃ c m : Int, H l = some (.lst [.int c, .int m]) ∧ 0 ≤ m ∧ m < 2147483648
/-- all but what is at l is as it was -/
def Exx (l : Addr) (H H' : Hp) : Prop := ∀ b o, b ≠ l → H b = some o → H' b = some o
theorem Exx.of {l : Addr} {H H' : Hp} (e : Ex H H') : Exx l H H' := fun b o _ h => e b o h
theorem Exx.trans {l : Addr} {H H1 H2 : Hp} (a : Exx l H H1) (b : Exx l H1 H2) : Exx l H H2 := fun x o n h => b x o n (a x o n h)
theorem Exx.mut {l : Addr} {H H' : Hp} {o : HO} (a : Exx l H H') : Exx l H (upd H' l o) := fun x u n h => by
  rw [upd_ne n]
  exact a x u n h
theorem PotAt.up {l : Addr} {H H' : Hp} (e : Ex H H') (h : PotAt l H) : PotAt l H' := by
  obtain ⟨c, m, h1, h2⟩ := h
  exact ⟨c, m, e _ _ h1, h2⟩
section
variable {P : Program} {w : World} {K : PySem.W.Frag} {mg : Str → Option Value} {base : Heap}
theorem ru_int {i : Int} {H : Hp} : RC (fun xs H Q => (∃ i, xs = [.int i] ∧ Q (.int i) H) ∨ ∃ k, xs = [.bl k] ∧ Q (.int (if k then 1 else 0)) H) [.int i] H (.int i) := fun H1 _ Q q => .inl ⟨i, rfl, q H1 (Ex.refl H1)⟩
theorem ev_int1 {σ : L2.St} {H : Hp} {ta : TE} {i : Int} (h : Ev ta σ H (.int i)) : Ev (tCB (fun xs H Q => (∃ i, xs = [.int i] ∧ Q (.int i) H) ∨ ∃ k, xs = [.bl k] ∧ Q (.int (if k then 1 else 0)) H) (tCons ta tNil)) σ H (.int i) := ev_cb (ea_cons h ea_nil) ru_int
/-- an assignment to any targets -/
theorem q_to {te : TE} {g : TG} {tz : TS} {D' : Ends} {σ : L2.St} {H : Hp} {D : DV} (h : Yd te σ H D) (k : ∀ v H1, Ex H H1 → D v H1 → g v σ H1 (tz D')) : tSeq (tAsg te g) tz D' σ H := h H (Ex.refl H) _ k
/-- a new tuple of these -/
def TupOf (xs : List V) : DV := fun v H => ∃ p, v = .ref p ∧ H p = some (.tup xs)
instance {xs : List V} : Mn (TupOf xs) := ⟨fun e h => by
  obtain ⟨p, h1, h2⟩ := h
  exact ⟨p, h1, e _ _ h2⟩⟩
end
end PF
namespace PF
open PySem PySem.Spec PyProof.Rows L2 Evl
abbrev tS (i : Int) : Str := Str.ofString (toString i)
theorem len_tS {i : Int} (h : i.natAbs < 2 ^ 1900) : (tS i).length ≤ 1901 := by
  have e := int_text_length_le (a := i) (k := 1900) (by decide) (log_lt h (by decide))
  unfold tS
  rw [PySem.ofString_length]
  exact e
theorem fit_tS {i : Int} (h : i.natAbs < 2 ^ 1900) : i.natAbs.log2 < 1920 := Nat.lt_of_lt_of_le (log_lt h (by decide)) (by decide)
/-- an f-string's parts -/
theorem yd_join {ts : List TE} {σ : L2.St} {H : Hp} {x : Str} (h : ∀ H1, Ex H H1 → ∀ Q : Str → Hp → Prop, (∀ H2, Ex H1 H2 → Q x H2) → tJs ts Str.empty σ H1 Q) : Ev (fun σ H Q => tJs ts Str.empty σ H fun out H1 => Q (.str out) H1) σ H (.str x) := fun H1 e Q q => h H1 e _ q
theorem js_nil {σ : L2.St} {H : Hp} {acc : Str} {Q : Str → Hp → Prop} (q : Q acc H) : tJs [] acc σ H Q := q
theorem js_c {ts : List TE} {σ : L2.St} {H H0 : Hp} {acc y : Str} {Q : Str → Hp → Prop} {t : TE} (e : Ex H0 H) (h : Ev t σ H0 (.str y)) (l : (acc ++ y).length ≤ sizeLine) (k : ∀ H1, Ex H H1 → tJs ts (acc ++ y) σ H1 Q) : tJs (t :: ts) acc σ H Q :=
  h H e _ fun H1 e1 => ⟨y, rfl, l, k H1 e1⟩
theorem ev_fmtI {σ : L2.St} {H : Hp} {te : TE} {i : Int} (h : Ev te σ H (.int i)) (l : i.natAbs.log2 < 1920) : Ev (tFmt te) σ H (.str (tS i)) := fun H1 e Q q => h H1 e _ fun H2 e2 => .inr ⟨i, rfl, l, q H2 e2⟩
end PF
namespace PF
open PySem PySem.Spec PyProof.Rows L2 Evl
def kvI (l : List (Int × Int)) : List (Key × V) := l.map fun p => (Sum.inl p.1, V.int p.2)
def dText (l : List (Int × Int)) : Str := dictText (l.map fun p => tS p.1 ++ ": " ++ tS p.2)
def smallI (l : List (Int × Int)) : Prop := ∀ p ∈ l, p.1.natAbs.log2 < 1920 ∧ p.2.natAbs.log2 < 1920
theorem pairs_repr {P : Program} {w : World} {h : Heap} : ∀ {l : List (Int × Int)} {vs : List (Key × Value)} {es : List DictEntry}, smallI l → KV (kvI l) vs → Pairs (mixKind P w) es vs → ReprEntriesK P w [] h 0 es (l.map fun p => tS p.1 ++ ": " ++ tS p.2)
  | [], vs, es, _, r, q => by
    have r' : Paired (fun (p : Key × V) (q : Key × Value) => p.1 = q.1 ∧ RelV p.2 q.2) [] vs := r
    cases r'
    cases q
    exact .nil
  | p :: l, vs, es, s, r, q => by
    have r' : Paired (fun (p : Key × V) (q : Key × Value) => p.1 = q.1 ∧ RelV p.2 q.2) ((Sum.inl p.1, V.int p.2) :: kvI l) vs := r
    cases r' with
    | @cons _ b _ bs hd tl =>
      cases q with
      | @cons e kv es kvs h1 h2 t =>
        obtain ⟨e1, e2⟩ := hd
        obtain ⟨z1, z2⟩ := s p (List.mem_cons_self ..)
        have h1' : keyIs b.1 e.key = true := h1
        rw [← e1] at h1'
        rcases keyIs_shape h1' with ⟨i, u, ei, ek⟩ | ⟨x, u, ei, ek⟩
        · have ei' : p.1 = i := Sum.inl.inj ei
          subst ei'
          obtain ⟨u2, ev⟩ : ∃ u2, b.2 = Value.int p.2 u2 := e2
          have k1 : ReprK P w [] h 0 e.key (tS p.1) := by
            rw [ek]
            exact ReprK.of_is (ReprIs.int u z1) [] h 0
          have k2 : ReprK P w [] h 0 e.val (tS p.2) := by
            rw [h2, ev]
            exact ReprK.of_is (ReprIs.int u2 z2) [] h 0
          exact .cons k1 k2 (pairs_repr (fun q hq => s q (List.mem_cons_of_mem _ hq)) tl t)
        · cases ei
section
variable {X : Cx}
def rReprD : List V → Hp → VK → Prop := fun xs H Q => ∃ a l, xs = [.ref a] ∧ H a = some (.dK (kvI l)) ∧ smallI l ∧ (dText l).length ≤ sizeLine ∧ ∀ H', Ex H H' → Q (.str (dText l)) H'
theorem call_reprD (hg : X.A.guards = some []) (hr : Room 3 X.A) : CallR X (.builtin "repr") rReprD := by
  intro pins s σ H xs us Q I r h
  obtain ⟨a, l, rfl, ea, sm, sz, q⟩ := h
  obtain ⟨u, rfl, ru⟩ := vals1 r
  cases ru
  obtain ⟨_, ns, vs, kv, o, es, ep, h1, h2, h3, _, h5, _⟩ := (show ObjOk X.prog X.w H s.heap a (.dK (kvI l)) from I.hok a _ ea)
  have hc : o.cls = .type "dict" := h2.1
  have sb : Sub X 3 X.A := ⟨hr, rfl⟩
  refine repr_slot ⟨o, h1, hc⟩ PySem.F.slot_dict_repr (by have := sb.in1.room.units; omega) (call_dict_reprK (as := []) (d := 0) h1 hc h3 ns (by simp) (pairs_repr sm kv h5) (g := []) hg (fun b _ id x rest kw hm => by cases hm) (by have := sb.in1.room.units; omega) (fun b o z => z) (fun h' u tk k => ?_) sz)
  exact ⟨⟨_, _, rfl⟩, .str (dText l), H, I.kept k, ⟨_, rfl⟩, q H (Ex.refl H)⟩
/-- repr of whatever is shown, a dict of ints too -/
def rRep (O : RO) (n : Nat) : List V → Hp → VK → Prop := fun xs H Q => rRepr O n xs H Q ∨ rReprD xs H Q
theorem call_rep {O : RO} {m n : Nat} (hg : X.A.guards = some []) (hr : Room (m + n + 3) X.A) (k : ROk O) (own : OShow X m O) : CallR X (.builtin "repr") (rRep O n) := by
  intro pins s σ H xs us Q I r h
  rcases h with h | h
  · exact call_repr hg hr k own pins s σ H xs us Q I r h
  · exact call_reprD hg (hr.mono (by omega)) pins s σ H xs us Q I r h
end
end PF
namespace TL
open PySem PySem.Spec PyProof.Rows L2 Evl PF
/-- how keywords alone are bound -/
structure KW0 (K : PySem.W.Frag) (fd : FuncData) (ps ks : List Str) (g : List Value → List Value) (gV : List V → List V) : Prop where
  to : ∀ (s : Shared) (ws : List Value), K.In s.heap → ws.length = ks.length → BindsTo s fd ⟨[], ks.zip ws⟩ (ps.zip (g ws))
  rel : ∀ {zs : List V} {ws : List Value}, zs.length = ks.length → Vals zs ws → Vals (gV zs) (g ws)
def tCallW (m : Nat) (sp : Sp) (gV : List V → List V) (E : XK) (tk : TA) : TE := fun σ H Q => tk σ H fun zs H2 => zs.length = m ∧ sp (gV zs) H2 Q E
section
variable {X : Cx} {CX : CXT} {k : Nat} {f : Addr} {fd : FuncData} {ps ks : List Str} {sp : Sp} {E : XK} {x : Str} {p pos : Pos} {kws : List Keyword} {tk : TA} {g : List Value → List Value} {gV : List V → List V}
theorem pe_callW (F : FnOk X.prog X.w X.K X.mg X.base CX k f fd ps sp) (hr : Room k X.A) (gl : Gl X x) (hm : X.mg x = some (.ref f)) (hk : PySem.W.keepIn X.K (.ref f) = true) (hb : KW0 X.K fd ps ks g gV) (hx : Passes CX X E) (hkw : PK X kws tk)
    (hall : (backToKw pos (keywordEach kws X.env)).all (·.1.isSome) = true := by rfl) (hks : (backToKw pos (keywordEach kws X.env)).filterMap (·.1) = ks := by rfl) (hdb : (x == ("__debug__" : Str)) = false := by decide)
    (hpl : ((backTo pos (starEach [] X.env)).any (·.1) || (backToKw pos (keywordEach kws X.env)).any (·.1.isNone)) = false := by rfl) :
    PE X (.Call (.Name x p) [] kws pos) (tCallW ks.length sp gV E tk) := by
  refine ⟨fun pins s σ H Q I h => wpAny_Call_Name_kw (ld_glob I gl hm ?_ hdb)⟩
  refine PySem.W.callWith_KW0 (h₀ := X.base) I.ok.mod.kin hk hall (thn (hkw.run pos pins s σ H _ I h) fun ws s2 z => ?_) hpl
  obtain ⟨zs, H2, I2, rz, l, q⟩ := z
  refine ⟨I2.kIn, ?_⟩
  rw [hks]
  refine wpAny_call (codeAny_mono (F.run X.A X.stack s2 H2 ⟨[], ks.zip ws⟩ (g ws) (gV zs) Q E hr I2.env0 (hb.to s2 ws I2.kIn (rz.length.symm.trans l)) (hb.rel l rz) q) fun res s' z => ?_)
  match res, z with
  | .error er, z => exact hx pins σ H2 s2 er s' I2 z
  | .ok (.ret u), z => exact I2.after z
  | .ok .next, z => exact z.elim
  | .ok .brk, z => exact z.elim
  | .ok .cont, z => exact z.elim
end
end TL
namespace TL
open PySem PySem.Spec PyProof.Rows L2 Evl PF
/-- a value as a tree: lists and tuples by their items, instances by their class's number and their attributes -/
inductive T where
  | non | bl (b : Bool) | int (i : Int) | str (s : Str) | lst (l : List T) | tup (l : List T) | ins (c : Nat) (l : List T) | pot | dct (l : List (Int × Int)) | cls (c : Nat) | rng (lo hi : Int)
/-- which addresses lists, and others, may have -/
abbrev GD := Bool → Addr → Prop
/-- the program's own classes: where they stand, their attributes -/
structure Wd where
  K : PySem.W.Frag
  C : Nat → Addr
  nm : Nat → List Str
/-- an own class of which is known that it is no list, tuple or dict -/
structure OwnX (K : PySem.W.Frag) (C : Addr) : Prop extends Own K C where
  ml : PySem.W.mroIn K C (.type "list") = some false
  mt : PySem.W.mroIn K C (.type "tuple") = some false
  md : PySem.W.mroIn K C (.type "dict") = some false
  ty1 : PySem.W.typeIn K (.ref C) = some (.type "type")
def kvT (l : List (Int × Int)) : List (Key × V) := l.map fun p => (Sum.inl p.1, V.int p.2)
mutual
def Rep (W : Wd) (p : Addr) (G : GD) (H : Hp) : T → V → Prop
  | .non, v => v = .non
  | .bl b, v => v = .bl b
  | .int i, v => v = .int i
  | .str s, v => v = .str s
  | .lst l, v => ∃ a vs, v = .ref a ∧ G true a ∧ H a = some (.lst vs) ∧ Reps W p G H l vs
  | .tup l, v => ∃ a vs, v = .ref a ∧ G false a ∧ H a = some (.tup vs) ∧ Reps W p G H l vs
  | .ins c l, v => ∃ a dx vs, v = .ref a ∧ G false a ∧ OwnX W.K (W.C c) ∧ H a = some (.ins (W.C c) dx ((W.nm c).zip vs)) ∧ vs.length = (W.nm c).length ∧ Reps W p G H l vs
  | .pot, v => v = .ref p
  | .cls c, v => v = .ref (W.C c)
  | .rng lo hi, v => ∃ a, v = .ref a ∧ G false a ∧ H a = some (.rng lo hi)
  | .dct l, v => ∃ a, v = .ref a ∧ G false a ∧ H a = some (.dK (kvT l))
def Reps (W : Wd) (p : Addr) (G : GD) (H : Hp) : List T → List V → Prop
  | [], vs => vs = []
  | t :: ts, vs => ∃ v r, vs = v :: r ∧ Rep W p G H t v ∧ Reps W p G H ts r
end
section
variable {W : Wd} {p : Addr} {G G' : GD} {H H' : Hp} {t : T} {v : V} {ts us : List T} {vs ws : List V}
theorem reps_nil : Reps W p G H [] [] := by rw [Reps]
theorem reps_cons (h : Rep W p G H t v) (r : Reps W p G H ts vs) : Reps W p G H (t :: ts) (v :: vs) := by
  rw [Reps]
  exact ⟨v, vs, rfl, h, r⟩
theorem reps_nil_iff : Reps W p G H [] vs ↔ vs = [] := by rw [Reps]
theorem reps_cons_iff : Reps W p G H (t :: ts) vs ↔ ∃ v r, vs = v :: r ∧ Rep W p G H t v ∧ Reps W p G H ts r := by rw [Reps]
mutual
theorem Rep.mono (g : ∀ k a, G k a → G' k a) (h : ∀ k a o, G k a → H a = some o → H' a = some o) : ∀ (t : T) (v : V), Rep W p G H t v → Rep W p G' H' t v
  | .non, v, z => by rw [Rep] at z ⊢; exact z
  | .bl b, v, z => by rw [Rep] at z ⊢; exact z
  | .int i, v, z => by rw [Rep] at z ⊢; exact z
  | .str s, v, z => by rw [Rep] at z ⊢; exact z
  | .pot, v, z => by rw [Rep] at z ⊢; exact z
  | .cls c, v, z => by rw [Rep] at z ⊢; exact z
  | .rng lo hi, v, z => by
    rw [Rep] at z ⊢
    obtain ⟨a, e, ga, ha⟩ := z
    exact ⟨a, e, g _ _ ga, h _ _ _ ga ha⟩
  | .dct l, v, z => by
    rw [Rep] at z ⊢
    obtain ⟨a, e, ga, ha⟩ := z
    exact ⟨a, e, g _ _ ga, h _ _ _ ga ha⟩
  | .lst l, v, z => by
    rw [Rep] at z ⊢
    obtain ⟨a, vs, e, ga, ha, r⟩ := z
    exact ⟨a, vs, e, g _ _ ga, h _ _ _ ga ha, Reps.mono g h l vs r⟩
  | .tup l, v, z => by
    rw [Rep] at z ⊢
    obtain ⟨a, vs, e, ga, ha, r⟩ := z
    exact ⟨a, vs, e, g _ _ ga, h _ _ _ ga ha, Reps.mono g h l vs r⟩
  | .ins c l, v, z => by
    rw [Rep] at z ⊢
    obtain ⟨a, dx, vs, e, ga, o, ha, hl, r⟩ := z
    exact ⟨a, dx, vs, e, g _ _ ga, o, h _ _ _ ga ha, hl, Reps.mono g h l vs r⟩
theorem Reps.mono (g : ∀ k a, G k a → G' k a) (h : ∀ k a o, G k a → H a = some o → H' a = some o) : ∀ (ts : List T) (vs : List V), Reps W p G H ts vs → Reps W p G' H' ts vs
  | [], vs, z => by rw [Reps] at z ⊢; exact z
  | t :: ts, vs, z => by
    rw [Reps] at z ⊢
    obtain ⟨v, r, e, z1, z2⟩ := z
    exact ⟨v, r, e, Rep.mono g h t v z1, Reps.mono g h ts r z2⟩
end
theorem Rep.up (g : ∀ k a, G k a → G' k a) (h : ∀ k a o, G k a → H a = some o → H' a = some o) (z : Rep W p G H t v) : Rep W p G' H' t v := Rep.mono g h t v z
theorem Reps.up (g : ∀ k a, G k a → G' k a) (h : ∀ k a o, G k a → H a = some o → H' a = some o) (z : Reps W p G H ts vs) : Reps W p G' H' ts vs := Reps.mono g h ts vs z
theorem Rep.sub (g : ∀ k a, G k a → G' k a) (z : Rep W p G H t v) : Rep W p G' H t v := z.up g fun _ _ _ _ h => h
theorem Reps.sub (g : ∀ k a, G k a → G' k a) (z : Reps W p G H ts vs) : Reps W p G' H ts vs := z.up g fun _ _ _ _ h => h
theorem Reps.length : ∀ {ts : List T} {vs : List V}, Reps W p G H ts vs → vs.length = ts.length
  | [], vs, z => by rw [Reps] at z; rw [z]; rfl
  | t :: ts, vs, z => by
    rw [Reps] at z
    obtain ⟨v, r, e, _, z2⟩ := z
    rw [e, List.length_cons, List.length_cons, Reps.length z2]
theorem Reps.get : ∀ {ts : List T} {vs : List V} {i : Nat} {t : T}, Reps W p G H ts vs → ts[i]? = some t → ∃ v, vs[i]? = some v ∧ Rep W p G H t v
  | [], _, _, _, _, e => by simp at e
  | t :: ts, vs, 0, t', z, e => by
    rw [Reps] at z
    obtain ⟨v, r, rfl, z1, _⟩ := z
    simp at e
    subst e
    exact ⟨v, rfl, z1⟩
  | t :: ts, vs, i + 1, t', z, e => by
    rw [Reps] at z
    obtain ⟨v, r, rfl, _, z2⟩ := z
    exact Reps.get (i := i) z2 (by simpa using e)
theorem Reps.append : ∀ {ts us : List T} {vs ws : List V}, Reps W p G H ts vs → Reps W p G H us ws → Reps W p G H (ts ++ us) (vs ++ ws)
  | [], us, vs, ws, z, y => by
    rw [Reps] at z
    subst z
    exact y
  | t :: ts, us, vs, ws, z, y => by
    rw [Reps] at z
    obtain ⟨v, r, rfl, z1, z2⟩ := z
    exact reps_cons z1 (Reps.append z2 y)
theorem reps_of : ∀ {ts : List T} {vs : List V}, vs.length = ts.length → (∀ (i : Nat) t v, ts[i]? = some t → vs[i]? = some v → Rep W p G H t v) → Reps W p G H ts vs
  | [], [], _, _ => reps_nil
  | [], _ :: _, h, _ => by simp at h
  | _ :: _, [], h, _ => by simp at h
  | t :: ts, v :: vs, h, k => reps_cons (k 0 t v rfl rfl) (reps_of (by simpa using h) fun i t v h1 h2 => k (i + 1) t v h1 h2)
end
/-- the law's source of numbers -/
abbrev Pot := Option (Int × Int)
abbrev M (α : Type) := Pot → Option (α × Pot)
def PotR (p : Addr) (pot : Pot) (H : Hp) : Prop := match pot with
  | none => True
  | some (c, m) => H p = some (.lst [.int c, .int m])
/-- the next state: all but the source is kept -/
structure Nx (p : Addr) (pot : Pot) (H : Hp) (pot' : Pot) (H' : Hp) : Prop where
  kept : ∀ b o, H b = some o → (pot = none ∨ b ≠ p) → H' b = some o
  at_ : PotR p pot' H'
  non : pot = none ↔ pot' = none
  dom : ∀ b, H b ≠ none → H' b ≠ none
theorem Nx.refl {p : Addr} {pot : Pot} {H : Hp} (h : PotR p pot H) : Nx p pot H pot H := ⟨fun _ _ z _ => z, h, Iff.rfl, fun _ z => z⟩
theorem Nx.trans {p : Addr} {pot pot1 pot2 : Pot} {H H1 H2 : Hp} (a : Nx p pot H pot1 H1) (b : Nx p pot1 H1 pot2 H2) : Nx p pot H pot2 H2 :=
  ⟨fun c o z n => b.kept c o (a.kept c o z n) (n.imp_left a.non.mp), b.at_, a.non.trans b.non, fun c z => b.dom c (a.dom c z)⟩
theorem Nx.of {p : Addr} {pot : Pot} {H H' : Hp} (h : PotR p pot H) (e : Ex H H') : Nx p pot H pot H' :=
  ⟨fun c o z _ => e c o z, by
    cases pot with
    | none => trivial
    | some q => exact e _ _ h, Iff.rfl, fun c z => by
      cases q : H c with
      | none => exact absurd q z
      | some o => rw [e c o q]; exact fun y => nomatch y⟩
/-- where a call stands: the source, what may be rested on (G1 by what is handed back, G2 by what is passed), what is new may be -/
structure Ct (p : Addr) (pot : Pot) (G1 G2 : GD) (H : Hp) : Prop where
  pt : PotR p pot H
  pin : pot = none ∨ H p ≠ none
  nw : ∀ k b, H b = none → G1 k b
  sub : ∀ k b, G1 k b → G2 k b
  np : pot = none ∨ ∀ k, ¬ G2 k p
  ins : ∀ b, G2 false b → G1 false b
theorem Nx.new {p : Addr} {pot pot' : Pot} {H H' : Hp} (n : Nx p pot H pot' H') {b : Addr} (h : H' b = none) : H b = none := by
  cases q : H b with
  | none => rfl
  | some o => exact absurd h (n.dom b (by rw [q]; exact fun y => nomatch y))
theorem Ct.step {p : Addr} {pot pot' : Pot} {G1 G2 : GD} {H H' : Hp} (c : Ct p pot G1 G2 H) (n : Nx p pot H pot' H') : Ct p pot' G1 G2 H' :=
  ⟨n.at_, c.pin.imp n.non.mp (n.dom p), fun k b h => c.nw k b (n.new h), c.sub, c.np.imp_left n.non.mp, c.ins⟩
theorem Ct.keep {p : Addr} {pot pot' : Pot} {G1 G2 : GD} {H H' : Hp} (c : Ct p pot G1 G2 H) (n : Nx p pot H pot' H') : ∀ k a o, G2 k a → H a = some o → H' a = some o :=
  fun k a o g h => n.kept a o h (c.np.imp_right fun z e => z k (e ▸ g))
theorem Ct.keep1 {p : Addr} {pot pot' : Pot} {G1 G2 : GD} {H H' : Hp} (c : Ct p pot G1 G2 H) (n : Nx p pot H pot' H') : ∀ k a o, G1 k a → H a = some o → H' a = some o :=
  fun k a o g h => c.keep n k a o (c.sub k a g) h
theorem Rep.nx {W : Wd} {p : Addr} {pot pot' : Pot} {G1 G2 : GD} {H H' : Hp} {t : T} {v : V} (z : Rep W p G1 H t v) (c : Ct p pot G1 G2 H) (n : Nx p pot H pot' H') : Rep W p G1 H' t v := z.up (fun _ _ h => h) (c.keep1 n)
theorem Reps.nx {W : Wd} {p : Addr} {pot pot' : Pot} {G1 G2 : GD} {H H' : Hp} {t : List T} {v : List V} (z : Reps W p G1 H t v) (c : Ct p pot G1 G2 H) (n : Nx p pot H pot' H') : Reps W p G1 H' t v := z.up (fun _ _ h => h) (c.keep1 n)
/-- a label: rests on what is passed only; may rest on an owned list -/
abbrev Lab := Bool × Bool
def Lab.le (a b : Lab) : Bool := (!a.1 || b.1) && (!a.2 || b.2)
/-- a slot -/
inductive Sl where
  | no | val (t : T) | own (l : List T) | obj (c : Nat) (l : List T)
/-- a body's entry: the source, the two kinds of goodness, the heap, whether there is a source -/
structure Bd where
  p : Addr
  G1 : GD
  G2 : GD
  H0 : Hp
  none : Prop
  self : Addr
structure Bd.Ok (B : Bd) : Prop where
  nw : ∀ k b, B.H0 b = Option.none → B.G1 k b
  sub : ∀ k b, B.G1 k b → B.G2 k b
  np : B.none ∨ ∀ k, ¬ B.G2 k B.p
  ins : ∀ b, B.G2 false b → B.G1 false b
abbrev Ows := Nat → Option Addr
def gd (B : Bd) (O : Ows) (l : Lab) : GD := fun k a => (if l.1 = true then B.G2 k a else B.G1 k a) ∧ ((l.2 = true ∧ k = true) ∨ ∀ i, O i ≠ some a)
theorem gd_ins {B : Bd} (hB : B.Ok) {O : Ows} {l m : Lab} {a : Addr} (h : gd B O m false a) : gd B O l false a := by
  obtain ⟨h1, h2⟩ := h
  have z : B.G2 false a := by
    split at h1
    · exact h1
    · exact hB.sub _ _ h1
  refine ⟨?_, .inr ?_⟩
  · split
    · exact z
    · exact hB.ins _ z
  · exact h2.elim (fun y => nomatch y.2) id
theorem gd_le {B : Bd} (hB : B.Ok) {O : Ows} {l m : Lab} (h : l.le m = true) : ∀ k a, gd B O l k a → gd B O m k a := by
  intro k a ⟨h1, h2⟩
  obtain ⟨l1, l2⟩ := l
  obtain ⟨m1, m2⟩ := m
  refine ⟨?_, ?_⟩
  · cases l1 <;> cases m1 <;> simp_all [Lab.le]
    exact hB.sub k a h1
  · cases l2 <;> cases m2 <;> simp_all [Lab.le]
abbrev ltop : Lab := (true, true)
theorem le_top (l : Lab) : l.le ltop = true := by
  obtain ⟨a, b⟩ := l
  cases a <;> cases b <;> rfl
/-- what stands in a slot -/
def SlR (W : Wd) (B : Bd) (O : Ows) (H : Hp) (i : Nat) (l : Lab) (s : Sl) (x : Option V) : Prop := match s with
  | .no => O i = Option.none
  | .val t => O i = Option.none ∧ ∃ v, x = some v ∧ Rep W B.p (gd B O l) H t v
  | .own ts => ∃ a vs, O i = some a ∧ x = some (.ref a) ∧ H a = some (.lst vs) ∧ Reps W B.p (gd B O l) H ts vs
  | .obj c ts => ∃ a dx vs, (O i = some a ∧ a = B.self) ∧ x = some (.ref a) ∧ OwnX W.K (W.C c) ∧ H a = some (.ins (W.C c) dx ((W.nm c).zip vs)) ∧ ts.length ≤ (W.nm c).length ∧ Reps W B.p (gd B O l) H ts vs
structure EnvR (W : Wd) (B : Bd) (ls : List Lab) (τ : List Sl) (pot : Pot) (O : Ows) (σ : L2.St) (H : Hp) : Prop where
  pt : PotR B.p pot H
  non : B.none ↔ pot = Option.none
  ow : ∀ i a, O i = some a → H a ≠ Option.none ∧ B.H0 a = Option.none
  inj : ∀ i j a, O i = some a → O j = some a → i = j
  fin : ∃ n, σ.length ≤ n ∧ ∀ i, n ≤ i → O i = Option.none
  hp : B.none ∨ B.H0 B.p ≠ Option.none
  kp : ∀ b o, B.H0 b = some o → (B.none ∨ b ≠ B.p) → H b = some o
  dom : ∀ b, B.H0 b ≠ Option.none → H b ≠ Option.none
  l1 : τ.length = σ.length
  l2 : ls.length = σ.length
  sl : ∀ (i : Nat) l s x, ls[i]? = some l → τ[i]? = some s → σ[i]? = some x → SlR W B O H i l s x
section
variable {W : Wd} {B : Bd} {ls : List Lab} {τ : List Sl} {pot pot' : Pot} {O : Ows} {σ : L2.St} {H H' : Hp}
theorem EnvR.ct (hB : B.Ok) (E : EnvR W B ls τ pot O σ H) (l : Lab) : Ct B.p pot (gd B O l) (gd B O ltop) H := by
  refine ⟨E.pt, E.hp.imp E.non.mp (E.dom _), fun k b h => ?_, gd_le hB (le_top l), hB.np.imp E.non.mp (fun y k z => y k z.1), fun _ => gd_ins hB⟩
  have h0 : B.H0 b = Option.none := by
    cases q : B.H0 b with
    | none => rfl
    | some o => exact absurd h (E.dom b (by rw [q]; exact fun y => nomatch y))
  refine ⟨?_, .inr fun i e => (E.ow i b e).1 h⟩
  split
  · exact hB.sub k b (hB.nw k b h0)
  · exact hB.nw k b h0
theorem EnvR.pne (E : EnvR W B ls τ pot O σ H) {i : Nat} {a : Addr} (h : O i = some a) : pot = Option.none ∨ a ≠ B.p := E.hp.imp E.non.mp fun z e => z (e ▸ (E.ow i a h).2)
theorem EnvR.pne0 (E : EnvR W B ls τ pot O σ H) {i : Nat} {a : Addr} (h : O i = some a) : B.none ∨ a ≠ B.p := E.hp.imp id fun z e => z (e ▸ (E.ow i a h).2)
theorem EnvR.step (hB : B.Ok) (E : EnvR W B ls τ pot O σ H) (n : Nx B.p pot H pot' H') : EnvR W B ls τ pot' O σ H' where
  pt := n.at_
  non := E.non.trans n.non
  ow := fun i a h => ⟨n.dom a (E.ow i a h).1, (E.ow i a h).2⟩
  inj := E.inj
  fin := E.fin
  hp := E.hp
  kp := fun b o h z => n.kept b o (E.kp b o h z) (z.imp_left E.non.mp)
  dom := fun b h => n.dom b (E.dom b h)
  l1 := E.l1
  l2 := E.l2
  sl := fun i l s x h1 h2 h3 => by
    have z := E.sl i l s x h1 h2 h3
    have c := E.ct hB l
    cases s with
    | no => exact z
    | val t =>
      obtain ⟨z0, v, e, r⟩ := z
      exact ⟨z0, v, e, r.nx c n⟩
    | own ts =>
      obtain ⟨a, vs, e1, e2, e3, r⟩ := z
      exact ⟨a, vs, e1, e2, n.kept a _ e3 (E.pne e1), r.nx c n⟩
    | obj c2 ts =>
      obtain ⟨a, dx, vs, e1, e2, o, e3, hl, r⟩ := z
      exact ⟨a, dx, vs, e1, e2, o, n.kept a _ e3 (E.pne e1.1), hl, r.nx c n⟩
end
end TL
namespace TLH
open PySem PySem.Spec PyProof.Rows L2 Evl PF
open He (ga ma eqO eqO_ok ba)
section
variable {K : Frag} {x m a : Str}
structure ClsF (K : Frag) (C : Addr) : Prop where
  own : TL.OwnX K C
  mks : PySem.W.makesIn K C = true
  kc : PySem.W.keepIn K (.ref C) = true
  hd : PySem.W.hasDictIn K C = true
theorem fCls_ok (c : fCls x K = true) : ClsF K (ga K x) := by
  obtain ⟨h1, c⟩ := ba c
  obtain ⟨h2, c⟩ := ba c
  obtain ⟨h3, c⟩ := ba c
  obtain ⟨h4, c⟩ := ba c
  obtain ⟨h5, c⟩ := ba c
  obtain ⟨h6, c⟩ := ba c
  obtain ⟨h7, c⟩ := ba c
  obtain ⟨h8, c⟩ := ba c
  obtain ⟨h9, c⟩ := ba c
  obtain ⟨h10, c⟩ := ba c
  obtain ⟨h11, c⟩ := ba c
  obtain ⟨h12, c⟩ := ba c
  obtain ⟨h13, c⟩ := ba c
  obtain ⟨h14, c⟩ := ba c
  obtain ⟨h15, c⟩ := ba c
  obtain ⟨h16, c⟩ := ba c
  obtain ⟨h17, c⟩ := ba c
  obtain ⟨h18, c⟩ := ba c
  obtain ⟨h19, h20⟩ := ba c
  exact ⟨⟨⟨⟨h1, h2, h3, eqO_ok h4⟩, h7, eqO_ok h8, eqO_ok h9, ot_ok h10, ot_ok h11, ot_ok h12, ot_ok h13, ot_ok h14, ot_ok h15, eqO_ok h16⟩, ot_ok h17, ot_ok h18, ot_ok h19, ov_ok h20⟩, h5, h6, h2⟩
end
/-- the goal that the head leaves, from the law's promise (walkG, the part of the heap found behind the head) -/
theorem walkGE {l : PySem.W.OpenLaw} {n k : Nat} {q : Program} {loose : List Str} {XP : (Str → Option Value) → Heap → Prop} {YP : World → Heap → Prop} {d : DefRec} {CX : CXT} {sp : PySem.W.Frag → Sp} {x : Str}
    (hn : l.most = some n) (hn2 : n ≤ sizeLine) (hdf : d.params.defaults = []) (hr : Room k callerA)
    (F : ∀ (w : World) (mg : Str → Option Value) (fa : Addr) (h : Heap), YP w h → h.Ns mainGlobals mg → mg d.name = some (.ref fa) →
      ∃ (K : Frag) (fd : FuncData), K.In h ∧ (∀ (s : Shared) (u : Value), BindsTo s fd ⟨[u], []⟩ [(x, u)]) ∧
        ∀ base : Heap, K.In base → base.Ns mainGlobals mg → FnG l.prog w K mg base CX k fa fd [x] (sp K))
    (hsp : ∀ (K : PySem.W.Frag) (H : Hp) (a : Addr) (ns : List Int), ns.length ≤ n → Only H → SqL K H a (ns.map V.int) → sp K [.ref a] H (fun v _ => v = .bl true) fun _ _ _ => False)
    (hCX : ∀ (H : Hp) (s : Shared) (e : Value) (s' : Shared), CX [] H s (fun _ _ _ => False) e s' → False) :
    PySem.W.WalkO q loose XP YP l.row.toRowW d [] (fun f vs => PySem.call f vs) :=
  Att.attach_call hn hdf fun w s0 s1 mg mb fa o pm cd doc a vs ns G Y ho hd hcd hmg hobj hints hlen hg => by
    obtain ⟨K, fd, kx, hb, hF⟩ := F w mg fa _ Y G.T.g hmg
    exact law_callG kx G.T.g G.T.b G.T.builtins G.T.nolimit hg hobj hints (Nat.le_trans hlen hn2) hr hF hb (fun H hO hS => hsp _ H a ns hlen hO hS) fun H e s' => hCX H s1 e s'
end TLH
namespace TL
open PySem PySem.Spec PyProof.Rows L2 Evl PF
abbrev FE := List Sl → M T
abbrev FI := List Sl → M (List T)
abbrev FB := List Sl → M Bool
/-- e's value is the tree that F tells; it rests on what the label lets -/
def Sm (W : Wd) (te : TE) (ls : List Lab) (F : FE) (l : Lab) : Prop := ∀ (B : Bd), B.Ok → ∀ τ pot O σ H, EnvR W B ls τ pot O σ H → ∀ t pot', F τ pot = some (t, pot') →
  ∀ Q : VK, (∀ v H', Nx B.p pot H pot' H' → Rep W B.p (gd B O l) H' t v → Q v H') → te σ H Q
/-- a list or tuple, of which the items are told; the thing itself may be any that stands still -/
def Seqq (H : Hp) (a : Addr) (k : Bool) (vs : List V) : Prop := if k = true then H a = some (.lst vs) else H a = some (.tup vs)
def mkSeq : Bool → List T → T
  | true, l => .lst l
  | false, l => .tup l
def SmI (W : Wd) (te : TE) (ls : List Lab) (F : FE) (l : Lab) : Prop := ∀ (B : Bd), B.Ok → ∀ τ pot O σ H, EnvR W B ls τ pot O σ H → ∀ k us pot', F τ pot = some (mkSeq k us, pot') →
  ∀ Q : VK, (∀ a vs H', Nx B.p pot H pot' H' → (B.none ∨ a ≠ B.p) → Seqq H' a k vs → Reps W B.p (gd B O l) H' us vs → Q (.ref a) H') → te σ H Q
def gx (G : GD) (a : Addr) : GD := fun k b => G k b ∧ b ≠ a
/-- a new list -/
def SmF (W : Wd) (te : TE) (ls : List Lab) (F : FI) (l : Lab) : Prop := ∀ (B : Bd), B.Ok → ∀ τ pot O σ H, EnvR W B ls τ pot O σ H → ∀ t pot', F τ pot = some (t, pot') →
  ∀ Q : VK, (∀ a vs H', Nx B.p pot H pot' H' → H a = none → H' a = some (.lst vs) → Reps W B.p (gx (gd B O l) a) H' t vs → Q (.ref a) H') → te σ H Q
def SmT (W : Wd) (tt : TT) (ls : List Lab) (F : FB) : Prop := ∀ (B : Bd), B.Ok → ∀ τ pot O σ H, EnvR W B ls τ pot O σ H → ∀ b pot', F τ pot = some (b, pot') →
  ∀ Q : Bool → Hp → Prop, (∀ H', Nx B.p pot H pot' H' → Q b H') → tt σ H Q
/-- arguments, each with its label -/
def ArgR (W : Wd) (p : Addr) (g : Lab → GD) (H : Hp) : List Lab → List T → List V → Prop
  | [], [], [] => True
  | l :: ls, t :: ts, v :: vs => Rep W p (g l) H t v ∧ ArgR W p g H ls ts vs
  | _, _, _ => False
def SmA (W : Wd) (ta : TA) (ls : List Lab) (F : FI) (ms : List Lab) : Prop := ∀ (B : Bd), B.Ok → ∀ τ pot O σ H, EnvR W B ls τ pot O σ H → ∀ t pot', F τ pot = some (t, pot') →
  ∀ Q : List V → Hp → Prop, (∀ vs H', Nx B.p pot H pot' H' → ArgR W B.p (gd B O) H' ms t vs → Q vs H') → ta σ H Q
def isAtom : T → Bool
  | .non => true
  | .bl _ => true
  | .int _ => true
  | .str _ => true
  | _ => false
section
variable {W : Wd} {p : Addr} {G G' : GD} {H H' : Hp} {t : T} {v : V}
theorem Rep.atom (h : isAtom t = true) (z : Rep W p G H t v) : Rep W p G' H' t v := by
  cases t with
  | non => rw [Rep] at z ⊢; exact z
  | bl b => rw [Rep] at z ⊢; exact z
  | int i => rw [Rep] at z ⊢; exact z
  | str s => rw [Rep] at z ⊢; exact z
  | lst _ => cases h
  | tup _ => cases h
  | ins _ _ => cases h
  | pot => cases h
  | dct _ => cases h
  | cls _ => cases h
  | rng _ _ => cases h
theorem rep_int {i : Int} : Rep W p G H (.int i) (.int i) := by rw [Rep]
theorem rep_bl {b : Bool} : Rep W p G H (.bl b) (.bl b) := by rw [Rep]
theorem rep_non : Rep W p G H .non .non := by rw [Rep]
theorem rep_str {s : Str} : Rep W p G H (.str s) (.str s) := by rw [Rep]
theorem rep_int_iff {i : Int} : Rep W p G H (.int i) v ↔ v = .int i := by rw [Rep]
theorem rep_bl_iff {b : Bool} : Rep W p G H (.bl b) v ↔ v = .bl b := by rw [Rep]
theorem rep_str_iff {b : Str} : Rep W p G H (.str b) v ↔ v = .str b := by rw [Rep]
theorem rep_non_iff : Rep W p G H .non v ↔ v = .non := by rw [Rep]
theorem rep_pot_iff : Rep W p G H .pot v ↔ v = .ref p := by rw [Rep]
theorem rep_lst_iff {l : List T} : Rep W p G H (.lst l) v ↔ ∃ a vs, v = .ref a ∧ G true a ∧ H a = some (.lst vs) ∧ Reps W p G H l vs := by rw [Rep]
theorem rep_tup_iff {l : List T} : Rep W p G H (.tup l) v ↔ ∃ a vs, v = .ref a ∧ G false a ∧ H a = some (.tup vs) ∧ Reps W p G H l vs := by rw [Rep]
theorem rep_ins_iff {c : Nat} {l : List T} : Rep W p G H (.ins c l) v ↔ ∃ a dx vs, v = .ref a ∧ G false a ∧ OwnX W.K (W.C c) ∧ H a = some (.ins (W.C c) dx ((W.nm c).zip vs)) ∧ vs.length = (W.nm c).length ∧ Reps W p G H l vs := by rw [Rep]
end
section
variable {W : Wd} {te ta tb : TE} {tx : TA} {tt tu : TT} {ls : List Lab} {F Fa Fb : FE} {FL FM : FI} {Ft Fu : FB} {l m : Lab} {ms : List Lab}
theorem Sm.le (h : Sm W te ls F l) (e : l.le m = true) : Sm W te ls F m := fun B hB τ pot O σ H E t pot' f Q q => h B hB τ pot O σ H E t pot' f Q fun v H' n r => q v H' n (r.sub (gd_le hB e))
theorem SmI.le (h : SmI W te ls F l) (e : l.le m = true) : SmI W te ls F m := fun B hB τ pot O σ H E k t pot' f Q q => h B hB τ pot O σ H E k t pot' f Q fun a vs H' n z y r => q a vs H' n z y (r.sub (gd_le hB e))
/-- the items of a value -/
def fItems (F : FE) : FI := fun τ pot => match F τ pot with
  | some (.lst l, pot') => some (l, pot')
  | some (.tup l, pot') => some (l, pot')
  | _ => none
theorem gd_np {B : Bd} (hB : B.Ok) {O : Ows} {k : Bool} {a : Addr} (g : gd B O l k a) : B.none ∨ a ≠ B.p := hB.np.imp_right fun z e => z k (by
  have := g.1
  rw [e] at this
  split at this
  · exact this
  · exact hB.sub _ _ this)
theorem smI_of (h : Sm W te ls F l) : SmI W te ls F l := fun B hB τ pot O σ H E k us pot' f Q q => by
  refine h B hB τ pot O σ H E _ _ f Q fun v H' n r => ?_
  cases k with
  | true =>
    have r' : Rep W B.p (gd B O l) H' (.lst us) v := r
    rw [rep_lst_iff] at r'
    obtain ⟨a, vs, rfl, ga, ha, rs⟩ := r'
    exact q a vs H' n (gd_np hB ga) ha rs
  | false =>
    have r' : Rep W B.p (gd B O l) H' (.tup us) v := r
    rw [rep_tup_iff] at r'
    obtain ⟨a, vs, rfl, ga, ha, rs⟩ := r'
    exact q a vs H' n (gd_np hB ga) ha rs
/-- a list that is told -/
def fLst (F : FI) : FE := fun τ pot => match F τ pot with
  | some (l, pot') => some (.lst l, pot')
  | none => none
theorem EnvR.pin {B : Bd} {τ : List Sl} {pot : Pot} {O : Ows} {σ : L2.St} {H : Hp} (E : EnvR W B ls τ pot O σ H) : B.none ∨ H B.p ≠ none := E.hp.imp_right (E.dom _)
theorem smF_I (h : SmF W te ls FL l) : SmI W te ls (fLst FL) l := fun B hB τ pot O σ H E k us pot' f Q q => by
  unfold fLst at f
  split at f
  · rename_i l' p1 e
    cases k with
    | false => cases f
    | true =>
      cases f
      exact h B hB τ pot O σ H E _ _ e Q fun a vs H' n hn ha r => q a vs H' n (E.pin.imp_right fun z e => z (e ▸ hn)) ha (r.sub fun _ _ z => z.1)
  · cases f
theorem gd_new {B : Bd} {τ : List Sl} {pot : Pot} {O : Ows} {σ : L2.St} {H : Hp} (hB : B.Ok) (E : EnvR W B ls τ pot O σ H) {a : Addr} (h : H a = none) (l : Lab) (k : Bool) : gd B O l k a := (E.ct hB l).nw k a h
theorem smF_E (h : SmF W te ls FL l) : Sm W te ls (fLst FL) l := fun B hB τ pot O σ H E t pot' f Q q => by
  unfold fLst at f
  split at f
  · rename_i l' p1 e
    cases f
    refine h B hB τ pot O σ H E _ _ e Q fun a vs H' n hn ha r => q _ H' n ?_
    rw [rep_lst_iff]
    exact ⟨a, vs, rfl, gd_new hB E hn l true, ha, r.sub fun _ _ z => z.1⟩
  · cases f
theorem SmF.le (h : SmF W te ls FL l) (e : l.le m = true) : SmF W te ls FL m := fun B hB τ pot O σ H E t pot' f Q q => h B hB τ pot O σ H E t pot' f Q fun a vs H' n z y r => q a vs H' n z y (r.sub fun k b w => ⟨gd_le hB e k b w.1, w.2⟩)
def fVar (i : Nat) : FE := fun τ pot => match τ[i]? with
  | some (.val t) => some (t, pot)
  | _ => none
theorem sl_at {B : Bd} {τ : List Sl} {pot : Pot} {O : Ows} {σ : L2.St} {H : Hp} (E : EnvR W B ls τ pot O σ H) {i : Nat} {s : Sl} (h : τ[i]? = some s) (hl : ls[i]? = some m) : ∃ x, σ[i]? = some x ∧ SlR W B O H i m s x := by
  have hi : i < σ.length := by rw [← E.l1]; exact (List.getElem?_eq_some_iff.mp h).1
  exact ⟨σ[i], List.getElem?_eq_getElem hi, E.sl i m s _ hl h (List.getElem?_eq_getElem hi)⟩
theorem sm_var {i : Nat} (hl : ls[i]? = some m) (e : m.le l = true) : Sm W (tVar i) ls (fVar i) l := fun B hB τ pot O σ H E t pot' f Q q => by
  unfold fVar at f
  split at f
  · rename_i t' h
    cases f
    obtain ⟨x, hx, z⟩ := sl_at E h hl
    obtain ⟨_, v, rfl, r⟩ := z
    exact ⟨v, hx, q v H (Nx.refl E.pt) (r.sub (gd_le hB e))⟩
  · cases f
/-- an owned list, as a value -/
def fOwn (i : Nat) : FI := fun τ pot => match τ[i]? with
  | some (.own l) => some (l, pot)
  | _ => none
theorem smI_own {i : Nat} (hl : ls[i]? = some m) (e : m.le l = true) : SmI W (tVar i) ls (fLst (fOwn i)) l := fun B hB τ pot O σ H E k us pot' f Q q => by
  unfold fLst fOwn at f
  split at f
  · rename_i l' p1 h0
    cases k with
    | false => cases f
    | true =>
      cases f
      split at h0
      · rename_i t' h
        cases h0
        obtain ⟨x, hx, z⟩ := sl_at E h hl
        obtain ⟨a, vs, e1, rfl, e3, r⟩ := z
        exact ⟨_, hx, q a vs H (Nx.refl E.pt) (E.pne0 e1) e3 (r.sub (gd_le hB e))⟩
      · cases h0
  · cases f
theorem sm_own {i : Nat} (hl : ls[i]? = some m) (e : Lab.le (m.1, true) l = true) : Sm W (tVar i) ls (fLst (fOwn i)) l := fun B hB τ pot O σ H E t pot' f Q q => by
  unfold fLst fOwn at f
  split at f
  · rename_i l' p1 h0
    cases f
    split at h0
    · rename_i t' h
      cases h0
      obtain ⟨x, hx, z⟩ := sl_at E h hl
      obtain ⟨a, vs, e1, rfl, e3, r⟩ := z
      refine ⟨_, hx, q _ H (Nx.refl E.pt) ?_⟩
      rw [rep_lst_iff]
      have le2 : m.le l = true := by
        obtain ⟨m1, m2⟩ := m
        obtain ⟨l1, l2⟩ := l
        cases m1 <;> cases m2 <;> cases l1 <;> cases l2 <;> simp_all [Lab.le]
      have l2 : l.2 = true := by
        obtain ⟨m1, m2⟩ := m
        obtain ⟨l1, l2⟩ := l
        cases m1 <;> cases l1 <;> cases l2 <;> simp_all [Lab.le]
      refine ⟨a, vs, rfl, ⟨?_, .inl ⟨l2, rfl⟩⟩, e3, r.sub (gd_le hB le2)⟩
      have g1 := hB.nw true a (E.ow i a e1).2
      split
      · exact hB.sub _ _ g1
      · exact g1
    · cases h0
  · cases f
def fC (t : T) : FE := fun _ pot => some (t, pot)
theorem sm_c {v : V} {t : T} (h : ∀ (p : Addr) (G : GD) (H : Hp), Rep W p G H t v) : Sm W (tC v) ls (fC t) l := fun B hB τ pot O σ H E t' pot' f Q q => by
  cases f
  exact q v H (Nx.refl E.pt) (h _ _ _)
theorem sm_int {i : Int} : Sm W (tC (.int i)) ls (fC (.int i)) l := sm_c fun _ _ _ => rep_int
theorem sm_bl {b : Bool} : Sm W (tC (.bl b)) ls (fC (.bl b)) l := sm_c fun _ _ _ => rep_bl
theorem sm_non : Sm W (tC .non) ls (fC .non) l := sm_c fun _ _ _ => rep_non
theorem sm_str {s : Str} : Sm W (tC (.str s)) ls (fC (.str s)) l := sm_c fun _ _ _ => rep_str
def OpS (W : Wd) (r : R2) (g : T → T → M T) : Prop := ∀ p pot G1 G2 H, Ct p pot G1 G2 H → ∀ x y a b, Rep W p G1 H a x → Rep W p G1 H b y → ∀ t pot', g a b pot = some (t, pot') → ∀ Q : VK, (∀ v H', Nx p pot H pot' H' → Rep W p G1 H' t v → Q v H') → r x y H Q
/-- .. of which the answer is true or false, or a number -/
def AtS (g : T → T → M T) : Prop := ∀ a b pot t pot', g a b pot = some (t, pot') → isAtom t = true
def fOp (g : T → T → M T) (Fa Fb : FE) : FE := fun τ pot => match Fa τ pot with
  | some (a, p1) => match Fb τ p1 with
    | some (b, p2) => g a b p2
    | none => none
  | none => none
theorem sm_op2 {r : R2} {g : T → T → M T} (ho : OpS W r g) (ha : Sm W ta ls Fa m) (hb : Sm W tb ls Fb m) (hr : ∀ B, B.Ok → ∀ O p H pot t v (_ : ∃ a b, ∃ p0, g a b p0 = some (t, pot)), Rep W p (gd B O m) H t v → Rep W p (gd B O l) H t v) : Sm W (tOp r ta tb) ls (fOp g Fa Fb) l := fun B hB τ pot O σ H E t pot' f Q q => by
  unfold fOp at f
  split at f
  · rename_i a p1 ea
    split at f
    · rename_i b p2 eb
      refine ha B hB τ pot O σ H E a p1 ea _ fun x H1 n1 r1 => ?_
      have E1 := E.step hB n1
      refine hb B hB τ p1 O σ H1 E1 b p2 eb _ fun y H2 n2 r2 => ?_
      have E2 := E1.step hB n2
      refine ho B.p p2 _ _ H2 (E2.ct hB m) x y a b (r1.nx (E1.ct hB m) n2) r2 t pot' f Q fun v H3 n3 r3 => ?_
      exact q v H3 ((n1.trans n2).trans n3) (hr B hB O _ _ _ _ _ ⟨a, b, p2, f⟩ r3)
    · cases f
  · cases f
theorem sm_op {r : R2} {g : T → T → M T} (ho : OpS W r g) (ha : Sm W ta ls Fa l) (hb : Sm W tb ls Fb l) : Sm W (tOp r ta tb) ls (fOp g Fa Fb) l := sm_op2 ho ha hb fun _ _ _ _ _ _ _ _ _ h => h
theorem sm_opA {r : R2} {g : T → T → M T} (ho : OpS W r g) (at_ : AtS g) (ha : Sm W ta ls Fa ltop) (hb : Sm W tb ls Fb ltop) : Sm W (tOp r ta tb) ls (fOp g Fa Fb) l := sm_op2 ho ha hb fun _ _ _ _ _ _ _ _ h z => by
  obtain ⟨a, b, p0, e⟩ := h
  exact z.atom (at_ a b p0 _ _ e)
def UnS (W : Wd) (r : V → Hp → VK → Prop) (g : T → M T) : Prop := ∀ p pot G1 G2 H, Ct p pot G1 G2 H → ∀ x a, Rep W p G1 H a x → ∀ t pot', g a pot = some (t, pot') → ∀ Q : VK, (∀ v H', Nx p pot H pot' H' → Rep W p G1 H' t v → Q v H') → r x H Q
def fUn (g : T → M T) (Fa : FE) : FE := fun τ pot => match Fa τ pot with
  | some (a, p1) => g a p1
  | none => none
theorem sm_un {r : V → Hp → VK → Prop} {g : T → M T} (ho : UnS W r g) (ha : Sm W ta ls Fa l) : Sm W (tUn r ta) ls (fUn g Fa) l := fun B hB τ pot O σ H E t pot' f Q q => by
  unfold fUn at f
  split at f
  · rename_i a p1 ea
    refine ha B hB τ pot O σ H E a p1 ea _ fun x H1 n1 r1 => ?_
    have E1 := E.step hB n1
    exact ho B.p p1 _ _ H1 (E1.ct hB l) x a r1 t pot' f Q fun v H3 n3 r3 => q v H3 (n1.trans n3) r3
  · cases f
theorem OpS.or {r r' : R2} {g g' : T → T → M T} (h : OpS W r g) (h' : OpS W r' g') : OpS W (fun x y H Q => r x y H Q ∨ r' x y H Q) (fun a b pot => match g a b pot with
    | some z => some z
    | none => g' a b pot) := fun p pot G1 G2 H c x y a b ra rb t pot' f Q q => by
  replace f : (match g a b pot with
    | some z => some z
    | none => g' a b pot) = some (t, pot') := f
  split at f
  · rename_i z e
    cases f
    exact .inl (h p pot G1 G2 H c x y a b ra rb t pot' e Q q)
  · exact .inr (h' p pot G1 G2 H c x y a b ra rb t pot' f Q q)
theorem opR_or {X : Cx} {f : Value → Value → Sem Value} {r r' : R2} (h : OpR X f r) (h' : OpR X f r') : OpR X f (fun x y H Q => r x y H Q ∨ r' x y H Q) := fun pins s σ H x y v u Q I rx ry z =>
  z.elim (fun z => h pins s σ H x y v u Q I rx ry z) fun z => h' pins s σ H x y v u Q I rx ry z
theorem unR_or {X : Cx} {f : Value → Sem Value} {r r' : V → Hp → VK → Prop} (h : UnR X f r) (h' : UnR X f r') : UnR X f (fun x H Q => r x H Q ∨ r' x H Q) := fun pins s σ H x v Q I rx z =>
  z.elim (fun z => h pins s σ H x v Q I rx z) fun z => h' pins s σ H x v Q I rx z
def fTest (F : FE) : FB := fun τ pot => match F τ pot with
  | some (.bl b, p1) => some (b, p1)
  | _ => none
theorem smT_test (h : Sm W te ls F ltop) : SmT W (tTest te) ls (fTest F) := fun B hB τ pot O σ H E t pot' f Q q => by
  unfold fTest at f
  split at f
  · rename_i b p1 e
    cases f
    refine h B hB τ pot O σ H E _ _ e _ fun v H' n r => ?_
    rw [rep_bl_iff] at r
    exact ⟨_, r, q H' n⟩
  · cases f
theorem smT_b (h : Sm W te ls F ltop) : SmT W (tB te) ls (fTest F) := smT_test h
def fNot (F : FB) : FB := fun τ pot => match F τ pot with
  | some (b, p1) => some (!b, p1)
  | none => none
theorem smT_not (h : SmT W tt ls Ft) : SmT W (tNot tt) ls (fNot Ft) := fun B hB τ pot O σ H E t pot' f Q q => by
  unfold fNot at f
  split at f
  · rename_i b p1 e
    cases f
    exact h B hB τ pot O σ H E _ _ e _ fun H' n => q H' n
  · cases f
def fAnd (F G : FB) : FB := fun τ pot => match F τ pot with
  | some (true, p1) => G τ p1
  | some (false, p1) => some (false, p1)
  | none => none
theorem smT_and (h : SmT W tt ls Ft) (h2 : SmT W tu ls Fu) : SmT W (tAnd tt tu) ls (fAnd Ft Fu) := fun B hB τ pot O σ H E t pot' f Q q => by
  unfold fAnd at f
  split at f
  · rename_i p1 e
    refine h B hB τ pot O σ H E _ _ e _ fun H' n => ?_
    rw [if_pos rfl]
    exact h2 B hB τ p1 O σ H' (E.step hB n) t pot' f Q fun H2 n2 => q H2 (n.trans n2)
  · rename_i p1 e
    cases f
    refine h B hB τ pot O σ H E _ _ e _ fun H' n => ?_
    rw [if_neg Bool.false_ne_true]
    exact q H' n
  · cases f
def fOr (F G : FB) : FB := fun τ pot => match F τ pot with
  | some (false, p1) => G τ p1
  | some (true, p1) => some (true, p1)
  | none => none
theorem smT_or (h : SmT W tt ls Ft) (h2 : SmT W tu ls Fu) : SmT W (tOr tt tu) ls (fOr Ft Fu) := fun B hB τ pot O σ H E t pot' f Q q => by
  unfold fOr at f
  split at f
  · rename_i p1 e
    refine h B hB τ pot O σ H E _ _ e _ fun H' n => ?_
    rw [if_neg Bool.false_ne_true]
    exact h2 B hB τ p1 O σ H' (E.step hB n) t pot' f Q fun H2 n2 => q H2 (n.trans n2)
  · rename_i p1 e
    cases f
    refine h B hB τ pot O σ H E _ _ e _ fun H' n => ?_
    rw [if_pos rfl]
    exact q H' n
  · cases f
/-- and, or, not as values -/
def fAndV (F G : FE) : FE := fun τ pot => match F τ pot with
  | some (.bl true, p1) => G τ p1
  | some (.bl false, p1) => some (.bl false, p1)
  | _ => none
theorem sm_andV (h : Sm W ta ls Fa ltop) (h2 : Sm W tb ls Fb l) : Sm W (tAndV ta tb) ls (fAndV Fa Fb) l := fun B hB τ pot O σ H E t pot' f Q q => by
  unfold fAndV at f
  split at f
  · rename_i p1 e
    refine h B hB τ pot O σ H E _ _ e _ fun v H' n r => ?_
    rw [rep_bl_iff] at r
    refine ⟨true, r, ?_⟩
    rw [if_pos rfl]
    exact h2 B hB τ p1 O σ H' (E.step hB n) t pot' f Q fun v2 H2 n2 r2 => q v2 H2 (n.trans n2) r2
  · rename_i p1 e
    cases f
    refine h B hB τ pot O σ H E _ _ e _ fun v H' n r => ?_
    rw [rep_bl_iff] at r
    refine ⟨false, r, ?_⟩
    rw [if_neg Bool.false_ne_true]
    exact q _ H' n rep_bl
  · cases f
def fOrV (F G : FE) : FE := fun τ pot => match F τ pot with
  | some (.bl false, p1) => G τ p1
  | some (.bl true, p1) => some (.bl true, p1)
  | _ => none
theorem sm_orV (h : Sm W ta ls Fa ltop) (h2 : Sm W tb ls Fb l) : Sm W (tOrV ta tb) ls (fOrV Fa Fb) l := fun B hB τ pot O σ H E t pot' f Q q => by
  unfold fOrV at f
  split at f
  · rename_i p1 e
    refine h B hB τ pot O σ H E _ _ e _ fun v H' n r => ?_
    rw [rep_bl_iff] at r
    refine ⟨false, r, ?_⟩
    rw [if_neg Bool.false_ne_true]
    exact h2 B hB τ p1 O σ H' (E.step hB n) t pot' f Q fun v2 H2 n2 r2 => q v2 H2 (n.trans n2) r2
  · rename_i p1 e
    cases f
    refine h B hB τ pot O σ H E _ _ e _ fun v H' n r => ?_
    rw [rep_bl_iff] at r
    refine ⟨true, r, ?_⟩
    rw [if_pos rfl]
    exact q _ H' n rep_bl
  · cases f
def fNotV (F : FE) : FE := fun τ pot => match F τ pot with
  | some (.bl b, p1) => some (.bl (!b), p1)
  | _ => none
theorem sm_notV (h : Sm W ta ls Fa ltop) : Sm W (tNotV ta) ls (fNotV Fa) l := fun B hB τ pot O σ H E t pot' f Q q => by
  unfold fNotV at f
  split at f
  · rename_i b p1 e
    cases f
    refine h B hB τ pot O σ H E _ _ e _ fun v H' n r => ?_
    rw [rep_bl_iff] at r
    exact ⟨b, r, q _ H' n rep_bl⟩
  · cases f
def fIf (C : FB) (F G : FE) : FE := fun τ pot => match C τ pot with
  | some (true, p1) => F τ p1
  | some (false, p1) => G τ p1
  | none => none
theorem sm_if (h : SmT W tt ls Ft) (ha : Sm W ta ls Fa l) (hb : Sm W tb ls Fb l) : Sm W (tIf tt ta tb) ls (fIf Ft Fa Fb) l := fun B hB τ pot O σ H E t pot' f Q q => by
  unfold fIf at f
  split at f
  · rename_i p1 e
    refine h B hB τ pot O σ H E _ _ e _ fun H' n => ?_
    rw [if_pos rfl]
    exact ha B hB τ p1 O σ H' (E.step hB n) t pot' f Q fun v2 H2 n2 r2 => q v2 H2 (n.trans n2) r2
  · rename_i p1 e
    refine h B hB τ pot O σ H E _ _ e _ fun H' n => ?_
    rw [if_neg Bool.false_ne_true]
    exact hb B hB τ p1 O σ H' (E.step hB n) t pot' f Q fun v2 H2 n2 r2 => q v2 H2 (n.trans n2) r2
  · cases f
def fNil : FI := fun _ pot => some ([], pot)
def fCons (F : FE) (G : FI) : FI := fun τ pot => match F τ pot with
  | some (a, p1) => match G τ p1 with
    | some (b, p2) => some (a :: b, p2)
    | none => none
  | none => none
theorem smA_nil : SmA W tNil ls fNil [] := fun B hB τ pot O σ H E t pot' f Q q => by
  cases f
  exact q [] H (Nx.refl E.pt) trivial
theorem smA_cons (h : Sm W te ls F l) (r : SmA W tx ls FL ms) : SmA W (tCons te tx) ls (fCons F FL) (l :: ms) := fun B hB τ pot O σ H E t pot' f Q q => by
  unfold fCons at f
  split at f
  · rename_i a p1 ea
    split at f
    · rename_i b p2 eb
      cases f
      refine h B hB τ pot O σ H E a p1 ea _ fun x H1 n1 r1 => ?_
      have E1 := E.step hB n1
      refine r B hB τ p1 O σ H1 E1 b _ eb _ fun y H2 n2 r2 => ?_
      exact q _ H2 (n1.trans n2) ⟨r1.nx (E1.ct hB l) n2, r2⟩
    · cases f
  · cases f
/-- items of one label -/
def SmL (W : Wd) (ta : TA) (ls : List Lab) (F : FI) (l : Lab) : Prop := ∀ (B : Bd), B.Ok → ∀ τ pot O σ H, EnvR W B ls τ pot O σ H → ∀ t pot', F τ pot = some (t, pot') →
  ∀ Q : List V → Hp → Prop, (∀ vs H', Nx B.p pot H pot' H' → Reps W B.p (gd B O l) H' t vs → Q vs H') → ta σ H Q
theorem smL_nil : SmL W tNil ls fNil l := fun B hB τ pot O σ H E t pot' f Q q => by
  cases f
  exact q [] H (Nx.refl E.pt) reps_nil
theorem smL_cons (h : Sm W te ls F l) (r : SmL W tx ls FL l) : SmL W (tCons te tx) ls (fCons F FL) l := fun B hB τ pot O σ H E t pot' f Q q => by
  unfold fCons at f
  split at f
  · rename_i a p1 ea
    split at f
    · rename_i b p2 eb
      cases f
      refine h B hB τ pot O σ H E a p1 ea _ fun x H1 n1 r1 => ?_
      have E1 := E.step hB n1
      refine r B hB τ p1 O σ H1 E1 b _ eb _ fun y H2 n2 r2 => ?_
      exact q _ H2 (n1.trans n2) (reps_cons (r1.nx (E1.ct hB l) n2) r2)
    · cases f
  · cases f
def maxLen : Nat := 40000
def fLen (F : FI) : FI := fun τ pot => match F τ pot with
  | some (a, p1) => if a.length ≤ maxLen then some (a, p1) else none
  | none => none
/-- a new object, and what was described ahead of it -/
theorem nx_new {p : Addr} {pot : Pot} {H : Hp} {a : Addr} {o : HO} (h : PotR p pot H) (ha : H a = none) : Nx p pot H pot (upd H a o) := Nx.of h (Ex.new ha)
mutual
theorem rep_dom {G : GD} {H : Hp} {p : Addr} : ∀ (t : T) (v : V), Rep W p G H t v → Rep W p (fun k b => G k b ∧ H b ≠ none) H t v
  | .non, v, z => by rw [Rep] at z ⊢; exact z
  | .bl b, v, z => by rw [Rep] at z ⊢; exact z
  | .int i, v, z => by rw [Rep] at z ⊢; exact z
  | .str s, v, z => by rw [Rep] at z ⊢; exact z
  | .pot, v, z => by rw [Rep] at z ⊢; exact z
  | .cls _, v, z => by rw [Rep] at z ⊢; exact z
  | .rng lo hi, v, z => by
    rw [Rep] at z ⊢
    obtain ⟨a, e, g, ha⟩ := z
    exact ⟨a, e, ⟨g, by rw [ha]; exact fun y => (nomatch y)⟩, ha⟩
  | .dct l, v, z => by
    rw [Rep] at z ⊢
    obtain ⟨a, e, g, ha⟩ := z
    exact ⟨a, e, ⟨g, by rw [ha]; exact fun y => (nomatch y)⟩, ha⟩
  | .lst l, v, z => by
    rw [Rep] at z ⊢
    obtain ⟨a, vs, e, g, ha, r⟩ := z
    exact ⟨a, vs, e, ⟨g, by rw [ha]; exact fun y => (nomatch y)⟩, ha, reps_dom l vs r⟩
  | .tup l, v, z => by
    rw [Rep] at z ⊢
    obtain ⟨a, vs, e, g, ha, r⟩ := z
    exact ⟨a, vs, e, ⟨g, by rw [ha]; exact fun y => (nomatch y)⟩, ha, reps_dom l vs r⟩
  | .ins c l, v, z => by
    rw [Rep] at z ⊢
    obtain ⟨a, dx, vs, e, g, o, ha, hl, r⟩ := z
    exact ⟨a, dx, vs, e, ⟨g, by rw [ha]; exact fun y => (nomatch y)⟩, o, ha, hl, reps_dom l vs r⟩
theorem reps_dom {G : GD} {H : Hp} {p : Addr} : ∀ (ts : List T) (vs : List V), Reps W p G H ts vs → Reps W p (fun k b => G k b ∧ H b ≠ none) H ts vs
  | [], vs, z => by rw [Reps] at z ⊢; exact z
  | t :: ts, vs, z => by
    rw [Reps] at z ⊢
    obtain ⟨v, r, e, z1, z2⟩ := z
    exact ⟨v, r, e, rep_dom t v z1, reps_dom ts r z2⟩
end
theorem reps_new {G : GD} {H : Hp} {p a : Addr} {o : HO} {ts : List T} {vs : List V} (z : Reps W p G H ts vs) (ha : H a = none) : Reps W p (gx G a) (upd H a o) ts vs :=
  (reps_dom ts vs z).up (fun k b w => ⟨w.1, fun e => w.2 (e ▸ ha)⟩) fun k b o w h => Ex.new ha b o h
theorem smF_lst (h : SmL W tx ls FL l) : SmF W (tLst tx) ls (fLen FL) l := fun B hB τ pot O σ H E t pot' f Q q => by
  unfold fLen at f
  split at f
  · rename_i b p1 e
    split at f
    · rename_i hl
      cases f
      refine h B hB τ pot O σ H E _ _ e _ fun vs H1 n r => ⟨sz_of (by rw [r.length]; exact Nat.le_trans hl (by decide)), fun a ha => ?_⟩
      exact q a vs _ (n.trans (nx_new n.at_ ha)) (n.new ha) upd_same (reps_new r ha)
    · cases f
  · cases f
def fTup (F : FI) : FE := fun τ pot => match F τ pot with
  | some (a, p1) => if a.length ≤ maxLen then some (.tup a, p1) else none
  | none => none
theorem sm_tup (h : SmL W tx ls FL l) : Sm W (tTup tx) ls (fTup FL) l := fun B hB τ pot O σ H E t pot' f Q q => by
  unfold fTup at f
  split at f
  · rename_i b p1 e
    split at f
    · rename_i hl
      cases f
      refine h B hB τ pot O σ H E _ _ e _ fun vs H1 n r => ⟨sz_of (by rw [r.length]; exact Nat.le_trans hl (by decide)), fun a ha => q _ _ (n.trans (nx_new n.at_ ha)) ?_⟩
      rw [rep_tup_iff]
      exact ⟨a, vs, rfl, gd_new hB E (n.new ha) l false, upd_same, (reps_new r ha).sub fun _ _ z => z.1⟩
    · cases f
  · cases f
end
end TL
namespace TL
open PySem PySem.Spec PyProof.Rows L2 Evl PF
inductive Out where
  | nx (τ : List Sl) | rt (t : T)
abbrev FS := List Sl → M Out
structure Stp (p : Addr) (pot : Pot) (O : Ows) (H : Hp) (pot' : Pot) (O' : Ows) (H' : Hp) : Prop where
  kept : ∀ b o, H b = some o → (pot = none ∨ b ≠ p) → (∀ i, O i ≠ some b) → H' b = some o
  own : ∀ i a, O' i = some a → (∃ j, O j = some a) ∨ H a = none
  non : pot = none ↔ pot' = none
  dom : ∀ b, H b ≠ none → H' b ≠ none
theorem Stp.trans {p : Addr} {pot pot1 pot2 : Pot} {O O1 O2 : Ows} {H H1 H2 : Hp} (a : Stp p pot O H pot1 O1 H1) (b : Stp p pot1 O1 H1 pot2 O2 H2) : Stp p pot O H pot2 O2 H2 where
  kept := fun c o h n hn => b.kept c o (a.kept c o h n hn) (n.imp_left a.non.mp) fun i e => by
    rcases a.own i c e with ⟨j, z⟩ | z
    · exact hn j z
    · rw [h] at z; cases z
  own := fun i c e => by
    rcases b.own i c e with ⟨j, z⟩ | z
    · exact a.own j c z
    · cases q : H c with
      | none => exact .inr rfl
      | some o => exact absurd z (a.dom c (by rw [q]; exact fun y => nomatch y))
  non := a.non.trans b.non
  dom := fun c h => b.dom c (a.dom c h)
theorem Stp.of {p : Addr} {pot pot' : Pot} {O : Ows} {H H' : Hp} (n : Nx p pot H pot' H') : Stp p pot O H pot' O H' := ⟨fun b o h z _ => n.kept b o h z, fun i a h => .inl ⟨i, h⟩, n.non, n.dom⟩
/-- what a body hands back -/
abbrev RR_ := Wd → Bd → Hp → T → V → Prop
def RetE : RR_ := fun W B H' t v => Rep W B.p B.G1 H' t v
/-- a new list -/
def RetN : RR_ := fun W B H' t v => ∃ a vs l, t = .lst l ∧ v = .ref a ∧ B.H0 a = none ∧ H' a = some (.lst vs) ∧ Reps W B.p (gx B.G1 a) H' l vs
structure RetR (R : RR_) (W : Wd) (B : Bd) (pot' : Pot) (H' : Hp) (t : T) (v : V) : Prop where
  kept : ∀ b o, B.H0 b = some o → (B.none ∨ b ≠ B.p) → H' b = some o
  pt : PotR B.p pot' H'
  non : B.none ↔ pot' = Option.none
  dom : ∀ b, B.H0 b ≠ Option.none → H' b ≠ Option.none
  rep : R W B H' t v
def OutR (R : RR_) (W : Wd) (B : Bd) (ls' : List Lab) (pot : Pot) (O : Ows) (H : Hp) (D : Ends) (pot' : Pot) : Out → Prop
  | .nx τ' => ∀ O' σ' H', Stp B.p pot O H pot' O' H' → EnvR W B ls' τ' pot' O' σ' H' → D.nx σ' H'
  | .rt t => ∀ v H', RetR R W B pot' H' t v → D.rt v H'
def SmS (W : Wd) (R : RR_) (tb : TS) (ls : List Lab) (F : FS) (ls' : List Lab) : Prop := ∀ (B : Bd), B.Ok → ∀ τ pot O σ H, EnvR W B ls τ pot O σ H → ∀ o pot', F τ pot = some (o, pot') →
  ∀ D : Ends, OutR R W B ls' pot O H D pot' o → tb D σ H
section
variable {W : Wd} {R : RR_} {te ta tb : TE} {tx : TA} {tt : TT} {ts tu : TS} {ls ls1 ls2 : List Lab} {F Fa : FE} {FL : FI} {Ft : FB} {Fs Fu : FS} {l m : Lab} {ms : List Lab} {i j : Nat}
theorem EnvR.wk {B : Bd} {τ : List Sl} {pot : Pot} {O : Ows} {σ : L2.St} {H : Hp} (hB : B.Ok) (E : EnvR W B ls τ pot O σ H) (h : ls1.length = ls.length) (le : ∀ (i : Nat) l m, ls[i]? = some l → ls1[i]? = some m → l.le m = true) : EnvR W B ls1 τ pot O σ H :=
  { E with
    l2 := h.trans E.l2
    sl := fun i m s x h1 h2 h3 => by
      have hi : i < ls.length := by rw [← h]; exact (List.getElem?_eq_some_iff.mp h1).1
      have e := List.getElem?_eq_getElem hi
      have z := E.sl i _ s x e h2 h3
      have g := gd_le hB (O := O) (le i _ m e h1)
      cases s with
      | no => exact z
      | val t =>
        obtain ⟨z0, v, e, r⟩ := z
        exact ⟨z0, v, e, r.sub g⟩
      | own ts =>
        obtain ⟨a, vs, e1, e2, e3, r⟩ := z
        exact ⟨a, vs, e1, e2, e3, r.sub g⟩
      | obj c ts =>
        obtain ⟨a, dx, vs, e1, e2, o, e3, hl, r⟩ := z
        exact ⟨a, dx, vs, e1, e2, o, e3, hl, r.sub g⟩ }
def lsle : List Lab → List Lab → Bool
  | [], [] => true
  | a :: as, b :: bs => Lab.le a b && lsle as bs
  | _, _ => false
theorem lsle_len : ∀ {a b : List Lab}, lsle a b = true → b.length = a.length
  | [], [], _ => rfl
  | [], _ :: _, h => by cases h
  | _ :: _, [], h => by cases h
  | a :: as, b :: bs, h => by
    simp only [lsle, Bool.and_eq_true] at h
    rw [List.length_cons, List.length_cons, lsle_len h.2]
theorem lsle_at : ∀ {a b : List Lab}, lsle a b = true → ∀ (i : Nat) l m, a[i]? = some l → b[i]? = some m → Lab.le l m = true
  | [], [], _, i, l, m, h, _ => by simp at h
  | [], _ :: _, h, _, _, _, _, _ => by cases h
  | _ :: _, [], h, _, _, _, _, _ => by cases h
  | a :: as, b :: bs, h, 0, l, m, h1, h2 => by
    simp only [lsle, Bool.and_eq_true] at h
    simp at h1 h2
    subst h1 h2
    exact h.1
  | a :: as, b :: bs, h, i + 1, l, m, h1, h2 => by
    simp only [lsle, Bool.and_eq_true] at h
    exact lsle_at h.2 i l m (by simpa using h1) (by simpa using h2)
/-- labels may be raised ahead, and behind -/
theorem SmS.wk (h : SmS W R ts ls1 Fs ls2) (e : lsle ls ls1 = true) : SmS W R ts ls Fs ls2 := fun B hB τ pot O σ H E o pot' f D d => h B hB τ pot O σ H (E.wk hB (lsle_len e) (lsle_at e)) o pot' f D d
theorem SmS.up (h : SmS W R ts ls Fs ls1) (e : lsle ls1 ls2 = true) : SmS W R ts ls Fs ls2 := fun B hB τ pot O σ H E o pot' f D d => h B hB τ pot O σ H E o pot' f D (by
  cases o with
  | rt t => exact d
  | nx τ' => exact fun O' σ' H' s E' => d O' σ' H' s (E'.wk hB (lsle_len e) (lsle_at e)))
def fNext : FS := fun τ pot => some (.nx τ, pot)
def fSeq (F G : FS) : FS := fun τ pot => match F τ pot with
  | some (.nx τ', p1) => G τ' p1
  | some (.rt t, p1) => some (.rt t, p1)
  | none => none
theorem Stp.refl {p : Addr} {pot : Pot} {O : Ows} {H : Hp} : Stp p pot O H pot O H := ⟨fun _ _ z _ _ => z, fun i a h => .inl ⟨i, h⟩, Iff.rfl, fun _ z => z⟩
theorem smS_next : SmS W R tNext ls fNext ls := fun B hB τ pot O σ H E o pot' f D d => by
  cases f
  exact d O σ H .refl E
theorem smS_seq (h : SmS W R ts ls Fs ls1) (g : SmS W R tu ls1 Fu ls2) : SmS W R (tSeq ts tu) ls (fSeq Fs Fu) ls2 := fun B hB τ pot O σ H E o pot' f D d => by
  unfold fSeq at f
  split at f
  · rename_i τ' p1 e
    refine h B hB τ pot O σ H E _ _ e _ ?_
    intro O' σ' H' s E'
    refine g B hB τ' p1 O' σ' H' E' o pot' f D ?_
    cases o with
    | rt t => exact d
    | nx τ2 => exact fun O2 σ2 H2 s2 E2 => d O2 σ2 H2 (s.trans s2) E2
  · rename_i t p1 e
    cases f
    exact h B hB τ pot O σ H E _ _ e _ d
  · cases f
/-- a raise that is not come to -/
def fNever : FS := fun _ _ => none
theorem smS_nvr {t : TS} : SmS W R t ls fNever ls1 := fun B hB τ pot O σ H E o pot' f D d => nomatch f
def fIfS (C : FB) (F G : FS) : FS := fun τ pot => match C τ pot with
  | some (true, p1) => F τ p1
  | some (false, p1) => G τ p1
  | none => none
theorem OutR.back {B : Bd} {pot p1 pot' : Pot} {O : Ows} {H H1 : Hp} {D : Ends} {o : Out} (n : Nx B.p pot H p1 H1) (d : OutR R W B ls1 pot O H D pot' o) : OutR R W B ls1 p1 O H1 D pot' o := by
  cases o with
  | rt t => exact d
  | nx τ' => exact fun O' σ' H' s E' => d O' σ' H' ((Stp.of n).trans s) E'
theorem smS_if (h : SmT W tt ls Ft) (ha : SmS W R ts ls Fs ls1) (hb : SmS W R tu ls Fu ls1) : SmS W R (tIfS tt ts tu) ls (fIfS Ft Fs Fu) ls1 := fun B hB τ pot O σ H E o pot' f D d => by
  unfold fIfS at f
  split at f
  · rename_i p1 e
    refine h B hB τ pot O σ H E _ _ e _ fun H' n => ?_
    rw [if_pos rfl]
    exact ha B hB τ p1 O σ H' (E.step hB n) o pot' f D (d.back n)
  · rename_i p1 e
    refine h B hB τ pot O σ H E _ _ e _ fun H' n => ?_
    rw [if_neg Bool.false_ne_true]
    exact hb B hB τ p1 O σ H' (E.step hB n) o pot' f D (d.back n)
  · cases f
def fDrop (F : FE) : FS := fun τ pot => match F τ pot with
  | some (_, p1) => some (.nx τ, p1)
  | none => none
theorem smS_drop (h : Sm W te ls F ltop) : SmS W R (tDrop te) ls (fDrop F) ls := fun B hB τ pot O σ H E o pot' f D d => by
  unfold fDrop at f
  split at f
  · rename_i t p1 e
    cases f
    exact h B hB τ pot O σ H E _ _ e _ fun v H' n r => d O σ H' (.of n) (E.step hB n)
  · cases f
def fRet (F : FE) : FS := fun τ pot => match F τ pot with
  | some (t, p1) => some (.rt t, p1)
  | none => none
theorem EnvR.ret {B : Bd} {τ : List Sl} {pot : Pot} {O : Ows} {σ : L2.St} {H : Hp} {t : T} {v : V} (E : EnvR W B ls τ pot O σ H) (r : R W B H t v) : RetR R W B pot H t v := ⟨E.kp, E.pt, E.non, E.dom, r⟩
theorem smS_ret (h : Sm W te ls F (false, true)) : SmS W RetE (tRet te) ls (fRet F) ls1 := fun B hB τ pot O σ H E o pot' f D d => by
  unfold fRet at f
  split at f
  · rename_i t p1 e
    cases f
    exact h B hB τ pot O σ H E _ _ e _ fun v H' n r => d v H' ((E.step hB n).ret (r.sub fun k a z => z.1))
  · cases f
theorem smS_retF (h : SmF W te ls FL (false, true)) : SmS W RetN (tRet te) ls (fRet (fLst FL)) ls1 := fun B hB τ pot O σ H E o pot' f D d => by
  unfold fRet fLst at f
  split at f
  · rename_i t p1 e
    cases f
    split at e
    · rename_i l' p2 e2
      cases e
      refine h B hB τ pot O σ H E _ _ e2 _ fun a vs H' n hn ha r => d _ H' ((E.step hB n).ret ⟨a, vs, _, rfl, rfl, ?_, ha, r.sub fun k b z => ⟨z.1.1, z.2⟩⟩)
      cases q : B.H0 a with
      | none => rfl
      | some o => exact absurd hn (E.dom a (by rw [q]; exact fun y => nomatch y))
    · cases e
  · cases f
/-- an owned list is handed back -/
theorem smS_retO (hl : ls[i]? = some (false, false)) : SmS W RetN (tRet (tVar i)) ls (fRet (fLst (fOwn i))) ls1 := fun B hB τ pot O σ H E o pot' f D d => by
  unfold fRet fLst fOwn at f
  split at f
  · rename_i t p1 e
    cases f
    split at e
    · rename_i l' p2 e2
      cases e
      split at e2
      · rename_i t' h
        cases e2
        obtain ⟨x, hx, z⟩ := sl_at E h hl
        obtain ⟨a, vs, e1, rfl, e3, r⟩ := z
        exact ⟨_, hx, d _ H (E.ret ⟨a, vs, _, rfl, rfl, (E.ow i a e1).2, e3, r.sub fun k b z => ⟨z.1, fun e => z.2.elim (fun y => nomatch y) fun y => y i (e ▸ e1)⟩⟩)⟩
      · cases e2
    · cases e
  · cases f
def fRetN : FS := fun _ pot => some (.rt .non, pot)
def clr (O : Ows) (i : Nat) : Ows := fun j => if j = i then none else O j
theorem gd_clr {B : Bd} {O : Ows} (i : Nat) (l : Lab) : ∀ k a, gd B O l k a → gd B (clr O i) l k a := fun k a ⟨h1, h2⟩ => ⟨h1, h2.imp_right fun h j => by
  unfold clr
  split
  · exact fun y => nomatch y
  · exact h j⟩
theorem SlR.clr {B : Bd} {O : Ows} {H : Hp} {s : Sl} {x : Option V} {l : Lab} (h : SlR W B O H j l s x) (n : j ≠ i) : SlR W B (clr O i) H j l s x := by
  have e : TL.clr O i j = O j := if_neg n
  cases s with
  | no => exact e.trans h
  | val t =>
    obtain ⟨z0, v, e1, r⟩ := h
    exact ⟨e.trans z0, v, e1, r.sub (gd_clr i l)⟩
  | own ts =>
    obtain ⟨a, vs, e1, e2, e3, r⟩ := h
    exact ⟨a, vs, e.trans e1, e2, e3, r.sub (gd_clr i l)⟩
  | obj c ts =>
    obtain ⟨a, dx, vs, e1, e2, o, e3, hl, r⟩ := h
    exact ⟨a, dx, vs, ⟨e.trans e1.1, e1.2⟩, e2, o, e3, hl, r.sub (gd_clr i l)⟩
/-- slot i gets a value -/
theorem EnvR.put {B : Bd} {τ : List Sl} {pot : Pot} {O : Ows} {σ : L2.St} {H : Hp} {t : T} {v : V} (E : EnvR W B ls τ pot O σ H) (hi : i < ls.length) (r : Rep W B.p (gd B O l) H t v) : EnvR W B (ls.set i l) (τ.set i (.val t)) pot (clr O i) (σ.set i (some v)) H where
  pt := E.pt
  non := E.non
  ow := fun j a h => E.ow j a (by
    unfold clr at h
    split at h
    · cases h
    · exact h)
  inj := fun j k a h1 h2 => by
    unfold clr at h1 h2
    split at h1
    · cases h1
    · split at h2
      · cases h2
      · exact E.inj j k a h1 h2
  fin := by
    obtain ⟨n, h1, h2⟩ := E.fin
    exact ⟨n, by rw [List.length_set]; exact h1, fun j hj => by
      unfold clr
      split
      · rfl
      · exact h2 j hj⟩
  hp := E.hp
  kp := E.kp
  dom := E.dom
  l1 := by rw [List.length_set, List.length_set]; exact E.l1
  l2 := by rw [List.length_set, List.length_set]; exact E.l2
  sl := fun j m s x h1 h2 h3 => by
    by_cases e : j = i
    · subst e
      rw [List.getElem?_set_self (by omega)] at h1
      rw [List.getElem?_set_self (by have := E.l1; have := E.l2; omega)] at h2
      rw [List.getElem?_set_self (by have := E.l2; omega)] at h3
      cases h1
      cases h2
      cases h3
      exact ⟨if_pos rfl, v, rfl, r.sub (gd_clr j l)⟩
    · rw [List.getElem?_set_ne (Ne.symm e)] at h1 h2 h3
      exact (E.sl j m s x h1 h2 h3).clr e
theorem Stp.clr {p : Addr} {pot pot' : Pot} {O O' : Ows} {H H' : Hp} (s : Stp p pot O H pot' O' H') (i : Nat) : Stp p pot O H pot' (clr O' i) H' := by
  refine ⟨s.kept, fun j a h => ?_, s.non, s.dom⟩
  unfold TL.clr at h
  split at h
  · cases h
  · exact s.own j a h
def fAsg (F : FE) (i : Nat) : FS := fun τ pot => match F τ pot with
  | some (t, p1) => some (.nx (τ.set i (.val t)), p1)
  | none => none
theorem smS_asg (h : Sm W te ls F l) (hi : i < ls.length) : SmS W R (tAsg te (gName i)) ls (fAsg F i) (ls.set i l) := fun B hB τ pot O σ H E o pot' f D d => by
  unfold fAsg at f
  split at f
  · rename_i t p1 e
    cases f
    exact h B hB τ pot O σ H E _ _ e _ fun v H' n r => d _ _ H' ((Stp.of n).clr i) ((E.step hB n).put hi r)
  · cases f
/-- slot i gets a list of its own -/
def ownAt (O : Ows) (i : Nat) (a : Addr) : Ows := fun j => if j = i then some a else O j
theorem EnvR.putO {B : Bd} {τ : List Sl} {pot : Pot} {O : Ows} {σ : L2.St} {H : Hp} {ts : List T} {vs : List V} {a : Addr} (E : EnvR W B ls τ pot O σ H) (hi : i < ls.length) (hO : ∀ j, O j ≠ some a) (h0 : B.H0 a = none) (ha : H a = some (.lst vs))
    (hfar : ∀ (j : Nat) m s x, ls[j]? = some m → τ[j]? = some s → σ[j]? = some x → j ≠ i → SlR W B (ownAt O i a) H j m s x)
    (r : Reps W B.p (gx (gd B O l) a) H ts vs) : EnvR W B (ls.set i l) (τ.set i (.own ts)) pot (ownAt O i a) (σ.set i (some (.ref a))) H where
  pt := E.pt
  non := E.non
  ow := fun j b h => by
    unfold ownAt at h
    split at h
    · cases h
      exact ⟨by rw [ha]; exact fun y => (nomatch y), h0⟩
    · exact E.ow j b h
  inj := fun j k b h1 h2 => by
    unfold ownAt at h1 h2
    split at h1
    · rename_i e1
      cases h1
      split at h2
      · rename_i e2
        rw [e1, e2]
      · exact absurd h2 (hO k)
    · split at h2
      · cases h2
        exact absurd h1 (hO j)
      · exact E.inj j k b h1 h2
  fin := by
    obtain ⟨n, h1, h2⟩ := E.fin
    exact ⟨n, by rw [List.length_set]; exact h1, fun j hj => by
      unfold ownAt
      split
      · have := E.l2; omega
      · exact h2 j hj⟩
  hp := E.hp
  kp := E.kp
  dom := E.dom
  l1 := by rw [List.length_set, List.length_set]; exact E.l1
  l2 := by rw [List.length_set, List.length_set]; exact E.l2
  sl := fun j m s x h1 h2 h3 => by
    by_cases e : j = i
    · subst e
      rw [List.getElem?_set_self (by omega)] at h1
      rw [List.getElem?_set_self (by have := E.l1; have := E.l2; omega)] at h2
      rw [List.getElem?_set_self (by have := E.l2; omega)] at h3
      cases h1
      cases h2
      cases h3
      refine ⟨a, vs, if_pos rfl, rfl, ha, r.sub fun k b z => ⟨z.1.1, z.1.2.imp_right fun y k => ?_⟩⟩
      unfold ownAt
      split
      · exact fun q => z.2 (Option.some.inj q).symm
      · exact y k
    · rw [List.getElem?_set_ne (Ne.symm e)] at h1 h2 h3
      exact hfar j m s x h1 h2 h3 e
def fAsgO (F : FI) (i : Nat) : FS := fun τ pot => match F τ pot with
  | some (t, p1) => some (.nx (τ.set i (.own t)), p1)
  | none => none
/-- a description made ahead of a new address does not rest on it -/
theorem rep_far {p a : Addr} {G : GD} {H H' : Hp} (hn : H a = none) (n : ∀ k b o, G k b → H b = some o → H' b = some o) {t : T} {v : V} (z : Rep W p G H t v) : Rep W p (gx G a) H' t v := by
  have z1 : Reps W p G H [t] [v] := reps_cons z reps_nil
  have z2 := reps_new (o := .lst []) z1 hn
  rw [reps_cons_iff] at z2
  obtain ⟨v', r, e, z3, _⟩ := z2
  cases e
  exact z3.up (fun k b w => w) fun k b o w h => n k b o w.1 (by rw [upd_ne w.2] at h; exact h)
theorem reps_far {p a : Addr} {G : GD} {H H' : Hp} (hn : H a = none) (n : ∀ k b o, G k b → H b = some o → H' b = some o) {t : List T} {v : List V} (z : Reps W p G H t v) : Reps W p (gx G a) H' t v :=
  (reps_new (o := .lst []) z hn).up (fun k b w => w) fun k b o w h => n k b o w.1 (by rw [upd_ne w.2] at h; exact h)
theorem SlR.far {B : Bd} {pot pot' : Pot} {O : Ows} {H H' : Hp} {τ : List Sl} {σ : L2.St} (hB : B.Ok) (E : EnvR W B ls τ pot O σ H) {a : Addr} (hn : H a = none) (n : Nx B.p pot H pot' H') {s : Sl} {x : Option V} (h : SlR W B O H j l s x) (e : j ≠ i) : SlR W B (ownAt O i a) H' j l s x := by
  have e0 : ownAt O i a j = O j := if_neg e
  have c := E.ct hB l
  have g : ∀ k b, gx (gd B O l) a k b → gd B (ownAt O i a) l k b := fun k b z => ⟨z.1.1, z.1.2.imp_right fun y q => by
    unfold ownAt
    split
    · exact fun w => z.2 (Option.some.inj w).symm
    · exact y q⟩
  cases s with
  | no => exact e0.trans h
  | val t =>
    obtain ⟨z0, v, e1, r⟩ := h
    exact ⟨e0.trans z0, v, e1, (rep_far hn (c.keep1 n) r).sub g⟩
  | own ts =>
    obtain ⟨b, vs, e1, e2, e3, r⟩ := h
    exact ⟨b, vs, e0.trans e1, e2, n.kept b _ e3 (E.pne e1), (reps_far hn (c.keep1 n) r).sub g⟩
  | obj c2 ts =>
    obtain ⟨b, dx, vs, e1, e2, o, e3, hl, r⟩ := h
    exact ⟨b, dx, vs, ⟨e0.trans e1.1, e1.2⟩, e2, o, n.kept b _ e3 (E.pne e1.1), hl, (reps_far hn (c.keep1 n) r).sub g⟩
theorem smS_asgO (h : SmF W te ls FL l) (hi : i < ls.length) : SmS W R (tAsg te (gName i)) ls (fAsgO FL i) (ls.set i l) := fun B hB τ pot O σ H E o pot' f D d => by
  unfold fAsgO at f
  split at f
  · rename_i t p1 e
    cases f
    refine h B hB τ pot O σ H E _ _ e _ fun a vs H' n hn ha r => ?_
    have E1 := E.step hB n
    have hO : ∀ j, O j ≠ some a := fun j z => (E.ow j a z).1 hn
    have h0 : B.H0 a = none := by
      cases q : B.H0 a with
      | none => rfl
      | some o => exact absurd hn (E.dom a (by rw [q]; exact fun y => nomatch y))
    refine d _ _ H' ⟨fun b o h z _ => n.kept b o h z, fun j b h => ?_, n.non, n.dom⟩ (E1.putO hi hO h0 ha (fun j m s x h1 h2 h3 hj => SlR.far hB E hn n (E.sl j m s x h1 h2 h3) hj) r)
    unfold ownAt at h
    split at h
    · cases h
      exact .inr hn
    · exact .inl ⟨j, h⟩
  · cases f
/-- an owned list is from now on a value -/
def frz (i : Nat) (τ : List Sl) : List Sl := match τ[i]? with
  | some (.own l) => τ.set i (.val (.lst l))
  | _ => τ
def fFrz (i : Nat) (F : FS) : FS := fun τ pot => F (frz i τ) pot
theorem EnvR.frz {B : Bd} {τ : List Sl} {pot : Pot} {O : Ows} {σ : L2.St} {H : Hp} (hB : B.Ok) (E : EnvR W B ls τ pot O σ H) (i : Nat) : ∃ O', EnvR W B ls (frz i τ) pot O' σ H ∧ ∀ j a, O' j = some a → O j = some a := by
  unfold TL.frz
  split
  · rename_i l h
    have hi : i < ls.length := by
      have := (List.getElem?_eq_some_iff.mp h).1
      have := E.l1
      have := E.l2
      omega
    have el := List.getElem?_eq_getElem hi
    obtain ⟨x, hx, z⟩ := sl_at E h el
    obtain ⟨a, vs, e1, rfl, e3, r⟩ := z
    have r' : Rep W B.p (gd B (clr O i) ls[i]) H (.lst l) (.ref a) := by
      rw [rep_lst_iff]
      refine ⟨a, vs, rfl, ⟨?_, .inr fun j e => ?_⟩, e3, r.sub (gd_clr i _)⟩
      · have g1 := hB.nw true a (E.ow i a e1).2
        split
        · exact hB.sub _ _ g1
        · exact g1
      · unfold clr at e
        split at e
        · cases e
        · rename_i hne
          exact hne (E.inj j i a e e1)
    refine ⟨clr O i, ?_, fun j a h => by
      unfold clr at h
      split at h
      · cases h
      · exact h⟩
    exact
      { pt := E.pt
        non := E.non
        ow := fun j b h => E.ow j b (by
          unfold clr at h
          split at h
          · cases h
          · exact h)
        inj := fun j k b h1 h2 => by
          unfold clr at h1 h2
          split at h1
          · cases h1
          · split at h2
            · cases h2
            · exact E.inj j k b h1 h2
        fin := by
          obtain ⟨n, h1, h2⟩ := E.fin
          exact ⟨n, h1, fun j hj => by
            unfold clr
            split
            · rfl
            · exact h2 j hj⟩
        hp := E.hp
        kp := E.kp
        dom := E.dom
        l1 := by rw [List.length_set]; exact E.l1
        l2 := E.l2
        sl := fun j m s x h1 h2 h3 => by
          by_cases e : j = i
          · subst e
            rw [List.getElem?_set_self (by have := E.l1; have := E.l2; omega)] at h2
            cases h2
            rw [el] at h1
            cases h1
            rw [hx] at h3
            cases h3
            exact ⟨if_pos rfl, _, rfl, r'⟩
          · rw [List.getElem?_set_ne (Ne.symm e)] at h2
            exact (E.sl j m s x h1 h2 h3).clr e }
  · exact ⟨O, E, fun _ _ h => h⟩
theorem smS_frz (i : Nat) (h : SmS W R ts ls Fs ls1) : SmS W R ts ls (fFrz i Fs) ls1 := fun B hB τ pot O σ H E o pot' f D d => by
  obtain ⟨O', E', sub⟩ := E.frz hB i
  refine h B hB _ pot O' σ H E' o pot' f D ?_
  cases o with
  | rt t => exact d
  | nx τ' => exact fun O2 σ2 H2 s E2 => d O2 σ2 H2 ⟨fun b o h z y => s.kept b o h z fun k e => y k (sub k b e), fun k b e => (s.own k b e).imp_left fun ⟨q, z⟩ => ⟨q, sub q b z⟩, s.non, s.dom⟩ E2
end
end TL
namespace TL
open PySem PySem.Spec PyProof.Rows L2 Evl PF
/-- flags: does the parameter flow into what is handed back -/
def flab (fl : List Bool) : List Lab := fl.map fun f => (!f, false)
def g2 (G1 G2 : GD) : Lab → GD := fun l => if l.1 = true then G2 else G1
/-- a def's promise: F of its arguments -/
def spT (W : Wd) (F : List T → M T) (fl : List Bool) : Sp := fun vs H Q _ => ∃ p pot G1 G2 ts t pot', Ct p pot G1 G2 H ∧ ArgR W p (g2 G1 G2) H (flab fl) ts vs ∧ F ts pot = some (t, pot') ∧
  ∀ v H', Nx p pot H pot' H' → Rep W p G1 H' t v → Q v H'
/-- .. that hands back a new list -/
def spN (W : Wd) (F : List T → M T) (fl : List Bool) : Sp := fun vs H Q _ => ∃ p pot G1 G2 ts t pot', Ct p pot G1 G2 H ∧ ArgR W p (g2 G1 G2) H (flab fl) ts vs ∧ F ts pot = some (t, pot') ∧
  ∀ a us l H', Nx p pot H pot' H' → t = .lst l → H a = none → H' a = some (.lst us) → Reps W p (gx G1 a) H' l us → Q (.ref a) H'
def runB (FB : FS) (k : Nat) : List T → M T := fun ts pot => match FB (ts.map .val ++ List.replicate k .no) pot with
  | some (.rt t, p) => some (t, p)
  | some (.nx _, p) => some (.non, p)
  | none => none
section
variable {W : Wd} {p : Addr} {g : Lab → GD} {H : Hp}
theorem ArgR.len : ∀ {ls : List Lab} {ts : List T} {vs : List V}, ArgR W p g H ls ts vs → ts.length = ls.length ∧ vs.length = ls.length
  | [], [], [], _ => ⟨rfl, rfl⟩
  | [], [], _ :: _, h => by simp [ArgR] at h
  | [], _ :: _, _, h => by simp [ArgR] at h
  | _ :: _, [], _, h => by simp [ArgR] at h
  | _ :: _, _ :: _, [], h => by simp [ArgR] at h
  | l :: ls, t :: ts, v :: vs, h => by
    have h' : Rep W p (g l) H t v ∧ ArgR W p g H ls ts vs := h
    have := ArgR.len h'.2
    simp [this.1, this.2]
theorem ArgR.at : ∀ {ls : List Lab} {ts : List T} {vs : List V} {i : Nat} {l : Lab} {t : T} {v : V}, ArgR W p g H ls ts vs → ls[i]? = some l → ts[i]? = some t → vs[i]? = some v → Rep W p (g l) H t v
  | [], _, _, _, _, _, _, _, h1, _, _ => by simp at h1
  | _ :: _, [], _, _, _, _, _, h, _, _, _ => by simp [ArgR] at h
  | _ :: _, _ :: _, [], _, _, _, _, h, _, _, _ => by simp [ArgR] at h
  | l :: ls, t :: ts, v :: vs, 0, _, _, _, h, h1, h2, h3 => by
    have h' : Rep W p (g l) H t v ∧ ArgR W p g H ls ts vs := h
    simp at h1 h2 h3
    subst h1 h2 h3
    exact h'.1
  | l :: ls, t :: ts, v :: vs, i + 1, _, _, _, h, h1, h2, h3 => by
    have h' : Rep W p (g l) H t v ∧ ArgR W p g H ls ts vs := h
    exact ArgR.at (i := i) h'.2 (by simpa using h1) (by simpa using h2) (by simpa using h3)
theorem ArgR.map {g' : Lab → GD} {H' : Hp} (h : ∀ l ∈ ls, ∀ t v, Rep W p (g l) H t v → Rep W p (g' l) H' t v) : ∀ {ts : List T} {vs : List V}, ArgR W p g H ls ts vs → ArgR W p g' H' ls ts vs := by
  induction ls with
  | nil =>
    intro ts vs z
    match ts, vs, z with
    | [], [], _ => trivial
  | cons l ls ih =>
    intro ts vs z
    match ts, vs, z with
    | t :: ts, v :: vs, z => exact ⟨h l (List.mem_cons_self ..) t v z.1, ih (fun m hm => h m (List.mem_cons_of_mem _ hm)) z.2⟩
end
/-- at a body's start -/
def bd (p : Addr) (G1 G2 : GD) (H : Hp) (pot : Pot) : Bd := ⟨p, G1, G2, H, pot = none, p⟩
theorem bd_ok {p : Addr} {pot : Pot} {G1 G2 : GD} {H : Hp} (c : Ct p pot G1 G2 H) : (bd p G1 G2 H pot).Ok := ⟨c.nw, c.sub, c.np, c.ins⟩
theorem start_at {N : List Str} {vs : List V} {i : Nat} {x : Option V} (h : (start N vs)[i]? = some x) : (∃ v, vs[i]? = some v ∧ x = some v) ∨ (vs.length ≤ i ∧ x = none) := by
  unfold L2.start at h
  by_cases hi : i < vs.length
  · rw [List.getElem?_append_left (by simpa using hi), List.getElem?_map] at h
    rw [List.getElem?_eq_getElem hi] at h
    exact .inl ⟨vs[i], List.getElem?_eq_getElem hi, (Option.some.inj h).symm⟩
  · rw [List.getElem?_append_right (by simpa using hi), List.getElem?_replicate] at h
    split at h
    · exact .inr ⟨by omega, (Option.some.inj h).symm⟩
    · cases h
theorem env_start {W : Wd} {p : Addr} {pot : Pot} {G1 G2 : GD} {H : Hp} {fl : List Bool} {N : List Str} {ts : List T} {vs : List V} {k : Nat} (c : Ct p pot G1 G2 H) (h : ArgR W p (g2 G1 G2) H (flab fl) ts vs) (hk : N.length = fl.length + k) :
    EnvR W (bd p G1 G2 H pot) (flab fl ++ List.replicate k (false, false)) (ts.map .val ++ List.replicate k .no) pot (fun _ => none) (start N vs) H := by
  obtain ⟨l1, l2⟩ := h.len
  have lf : (flab fl).length = fl.length := by unfold flab; rw [List.length_map]
  have ls : (start N vs).length = fl.length + k := by
    unfold L2.start
    rw [List.length_append, List.length_map, List.length_replicate]
    omega
  refine ⟨c.pt, Iff.rfl, fun i a z => (nomatch z), fun i j a z => (nomatch z), ⟨_, Nat.le_refl _, fun _ _ => rfl⟩, c.pin, fun b o z _ => z, fun b z => z, ?_, ?_, fun i l s x h1 h2 h3 => ?_⟩
  · rw [List.length_append, List.length_map, List.length_replicate, ls]
    omega
  · rw [List.length_append, List.length_replicate, ls]
    omega
  · rcases start_at h3 with ⟨v, e, rfl⟩ | ⟨hi, rfl⟩
    · have hi := (List.getElem?_eq_some_iff.mp e).1
      rw [List.getElem?_append_left (by omega)] at h1
      rw [List.getElem?_append_left (by rw [List.length_map]; omega), List.getElem?_map] at h2
      have ht : i < ts.length := by omega
      rw [List.getElem?_eq_getElem ht] at h2
      cases h2
      refine ⟨rfl, v, rfl, (h.at h1 (List.getElem?_eq_getElem ht) e).sub fun k a z => ?_⟩
      refine ⟨?_, .inr fun j => (fun y => nomatch y)⟩
      unfold g2 at z
      split at z
      · rename_i e1; rw [if_pos e1]; exact z
      · rename_i e1; rw [if_neg e1]; exact z
    · rw [List.getElem?_append_right (by rw [List.length_map]; omega), List.getElem?_replicate] at h2
      split at h2
      · cases h2; rfl
      · cases h2
section
variable {W : Wd} {tb : TS} {fl : List Bool} {k : Nat} {FB : FS} {ls1 : List Lab} {N : List Str}
/-- the body keeps the promise -/
theorem spT_body (h : SmS W RetE tb (flab fl ++ List.replicate k (false, false)) FB ls1) (hk : N.length = fl.length + k) {vs : List V} {H : Hp} {Q : VK} {E : XK} (z : spT W (runB FB k) fl vs H Q E) : tb { nx := fun _ H' => Q .non H', rt := Q } (start N vs) H := by
  obtain ⟨p, pot, G1, G2, ts, t, pot', c, a, f, q⟩ := z
  unfold runB at f
  have En := env_start (N := N) c a hk
  split at f
  · rename_i t1 p1 e
    cases f
    refine h _ (bd_ok c) _ pot _ _ H En _ _ e _ ?_
    intro v H' r
    exact q v H' ⟨fun b o z n => r.kept b o z n, r.pt, r.non, r.dom⟩ r.rep
  · rename_i τ1 p1 e
    cases f
    refine h _ (bd_ok c) _ pot _ _ H En _ _ e _ ?_
    intro O' σ' H' s E'
    exact q .non H' ⟨fun b o z n => E'.kp b o z n, E'.pt, s.non, s.dom⟩ rep_non
  · cases f
theorem spN_body (h : SmS W RetN tb (flab fl ++ List.replicate k (false, false)) FB ls1) (hn : ∀ (ts : List T) (pot : Pot) (τ : List Sl) (p1 : Pot), FB (ts.map .val ++ List.replicate k .no) pot ≠ some (.nx τ, p1)) (hk : N.length = fl.length + k) {vs : List V} {H : Hp} {Q : VK} {E : XK} (z : spN W (runB FB k) fl vs H Q E) :
    tb { nx := fun _ H' => Q .non H', rt := Q } (start N vs) H := by
  obtain ⟨p, pot, G1, G2, ts, t, pot', c, a, f, q⟩ := z
  unfold runB at f
  have En := env_start (N := N) c a hk
  split at f
  · rename_i t1 p1 e
    cases f
    refine h _ (bd_ok c) _ pot _ _ H En _ _ e _ ?_
    intro v H' r
    obtain ⟨b, us, l, e1, e2, e3, e4, e5⟩ := r.rep
    subst e2
    exact q b us l H' ⟨fun b o z n => r.kept b o z n, r.pt, r.non, r.dom⟩ e1 e3 e4 e5
  · rename_i τ1 p1 e
    exact absurd e (hn _ _ _ _)
  · cases f
theorem spT_len {F : List T → M T} {vs : List V} {H : Hp} {Q : VK} {E : XK} (h : spT W F fl vs H Q E) : vs.length = fl.length := by
  obtain ⟨p, pot, G1, G2, ts, t, pot', _, a, _⟩ := h
  rw [a.len.2]
  unfold flab
  rw [List.length_map]
theorem spN_len {F : List T → M T} {vs : List V} {H : Hp} {Q : VK} {E : XK} (h : spN W F fl vs H Q E) : vs.length = fl.length := by
  obtain ⟨p, pot, G1, G2, ts, t, pot', _, a, _⟩ := h
  rw [a.len.2]
  unfold flab
  rw [List.length_map]
end
/-- labels of arguments that may be passed -/
def lok (l : Lab) : List Bool → List Lab → Bool
  | [], [] => true
  | f :: fl, m :: ms => (!f || Lab.le m l) && lok l fl ms
  | _, _ => false
section
variable {W : Wd} {tx tk : TA} {te : TE} {ls ms : List Lab} {Fs Fk : FI} {l : Lab} {fl : List Bool} {F : List T → M T} {E : XK}
theorem argR_pass {B : Bd} (hB : B.Ok) {O : Ows} {H : Hp} : ∀ {fl : List Bool} {ms : List Lab} {ts : List T} {vs : List V}, lok l fl ms = true → ArgR W B.p (gd B O) H ms ts vs → ArgR W B.p (g2 (gd B O l) (gd B O ltop)) H (flab fl) ts vs
  | [], [], [], [], _, _ => trivial
  | [], [], [], _ :: _, _, h => by simp [ArgR] at h
  | [], [], _ :: _, _, _, h => by simp [ArgR] at h
  | [], _ :: _, _, _, h, _ => by cases h
  | _ :: _, [], _, _, h, _ => by cases h
  | _ :: _, _ :: _, [], _, _, h => by simp [ArgR] at h
  | _ :: _, _ :: _, _ :: _, [], _, h => by simp [ArgR] at h
  | f :: fl, m :: ms, t :: ts, v :: vs, e, h => by
    have h' : Rep W B.p (gd B O m) H t v ∧ ArgR W B.p (gd B O) H ms ts vs := h
    have e' : ((!f || Lab.le m l) && lok l fl ms) = true := e
    rw [Bool.and_eq_true] at e'
    refine ⟨?_, argR_pass hB e'.2 h'.2⟩
    cases f with
    | false => exact h'.1.sub (gd_le hB (le_top m))
    | true => exact h'.1.sub (gd_le hB (by simpa using e'.1))
def fCall (F : List T → M T) (Fs : FI) : FE := fun τ pot => match Fs τ pot with
  | some (ts, p1) => F ts p1
  | none => none
theorem sm_call (h : SmA W tx ls Fs ms) (e : lok l fl ms = true) : Sm W (tCall (spT W F fl) [] E tx) ls (fCall F Fs) l := fun B hB τ pot O σ H En t pot' f Q q => by
  unfold fCall at f
  split at f
  · rename_i ts p1 e1
    refine h B hB τ pot O σ H En _ _ e1 _ fun vs H1 n r => ?_
    have E1 := En.step hB n
    rw [List.append_nil]
    exact ⟨B.p, p1, gd B O l, gd B O ltop, ts, t, pot', E1.ct hB l, argR_pass hB e r, f, fun v H2 n2 r2 => q v H2 (n.trans n2) r2⟩
  · cases f
/-- the items of what a def hands back -/
def fLstI (F : FE) : FI := fun τ pot => match F τ pot with
  | some (.lst l, p1) => some (l, p1)
  | _ => none
theorem sm_callN (h : SmA W tx ls Fs ms) (e : lok l fl ms = true) : SmF W (tCall (spN W F fl) [] E tx) ls (fLstI (fCall F Fs)) l := fun B hB τ pot O σ H En t pot' f Q q => by
  unfold fLstI at f
  split at f
  · rename_i l' p0 e0
    cases f
    unfold fCall at e0
    split at e0
    · rename_i ts p1 e1
      refine h B hB τ pot O σ H En _ _ e1 _ fun vs H1 n r => ?_
      have E1 := En.step hB n
      rw [List.append_nil]
      refine ⟨B.p, p1, gd B O l, gd B O ltop, ts, _, _, E1.ct hB l, argR_pass hB e r, e0, fun a us l2 H2 n2 et hn ha r2 => ?_⟩
      cases et
      exact q a us H2 (n.trans n2) (n.new hn) ha r2
    · cases e0
  · cases f
/-- keywords alone, put into the parameters' order -/
def perm (is : List Nat) (ts : List T) : List T := is.filterMap fun i => ts[i]?
def permV (is : List Nat) (vs : List V) : List V := is.filterMap fun i => vs[i]?
def permL (is : List Nat) (ms : List Lab) : List Lab := is.filterMap fun i => ms[i]?
theorem argR_perm {p : Addr} {g : Lab → GD} {H : Hp} {ts : List T} {vs : List V} (h : ArgR W p g H ms ts vs) : ∀ (is : List Nat), (∀ i ∈ is, i < ms.length) → ArgR W p g H (permL is ms) (perm is ts) (permV is vs)
  | [], _ => trivial
  | i :: is, hi => by
    have l := h.len
    have h1 : i < ms.length := hi i (List.mem_cons_self ..)
    have e1 := List.getElem?_eq_getElem h1
    have e2 := List.getElem?_eq_getElem (show i < ts.length by omega)
    have e3 := List.getElem?_eq_getElem (show i < vs.length by omega)
    unfold permL perm permV
    rw [List.filterMap_cons, List.filterMap_cons, List.filterMap_cons, e1, e2, e3]
    exact ⟨h.at e1 e2 e3, argR_perm h is fun j hj => hi j (List.mem_cons_of_mem _ hj)⟩
def fPerm (is : List Nat) (Fs : FI) : FI := fun τ pot => match Fs τ pot with
  | some (ts, p1) => some (perm is ts, p1)
  | none => none
theorem sm_callW {m : Nat} {is : List Nat} (h : SmA W tx ls Fs ms) (hm : ms.length = m) (hi : ∀ i ∈ is, i < ms.length) (e : lok l fl (permL is ms) = true) : Sm W (tCallW m (spT W F fl) (permV is) E tx) ls (fCall F (fPerm is Fs)) l := fun B hB τ pot O σ H En t pot' f Q q => by
  unfold fCall fPerm at f
  split at f
  · rename_i ts p1 e1
    split at e1
    · rename_i ts0 p0 e0
      cases e1
      refine h B hB τ pot O σ H En _ _ e0 _ fun vs H1 n r => ⟨r.len.2.trans hm, ?_⟩
      have E1 := En.step hB n
      exact ⟨B.p, _, gd B O l, gd B O ltop, _, t, pot', E1.ct hB l, argR_pass hB e (argR_perm r is hi), f, fun v H2 n2 r2 => q v H2 (n.trans n2) r2⟩
    · cases e1
  · cases f
end
end TL
namespace TL
open PySem PySem.Spec PyProof.Rows L2 Evl PF
/-- the place of an attribute -/
def fFld (c i : Nat) (F : FE) : FE := fun τ pot => match F τ pot with
  | some (.ins d l, p1) => if d = c then (match l[i]? with
    | some t => some (t, p1)
    | none => none) else none
  | _ => none
theorem lookup_zip {n : Str} : ∀ {ns : List Str} {vs : List V} {i : Nat} {v : V}, ns.Nodup → ns[i]? = some n → vs[i]? = some v → (ns.zip vs).lookup n = some v
  | [], _, _, _, _, h, _ => by simp at h
  | _ :: _, [], _, _, _, _, h => by simp at h
  | m :: ns, w :: vs, 0, v, _, h1, h2 => by
    simp at h1 h2
    subst h1 h2
    show (((m, w) :: ns.zip vs).lookup m) = some w
    rw [List.lookup_cons, beq_self_eq_true]
  | m :: ns, w :: vs, i + 1, v, nd, h1, h2 => by
    have h1' : ns[i]? = some n := by simpa using h1
    have hne : n ≠ m := fun e => (List.nodup_cons.mp nd).1 (e ▸ List.mem_of_getElem? h1')
    show (((m, w) :: ns.zip vs).lookup n) = some v
    rw [List.lookup_cons, beq_false_of_ne hne]
    exact lookup_zip (List.nodup_cons.mp nd).2 h1' (by simpa using h2)
theorem lookup_zip_none {n : Str} : ∀ {ns : List Str} {vs : List V}, n ∉ ns → (ns.zip vs).lookup n = none
  | [], _, _ => by simp
  | _ :: _, [], _ => by simp
  | m :: ns, w :: vs, h => by
    have hne : n ≠ m := fun e => h (e ▸ List.mem_cons_self ..)
    show (((m, w) :: ns.zip vs).lookup n) = none
    rw [List.lookup_cons, beq_false_of_ne hne]
    exact lookup_zip_none fun z => h (List.mem_cons_of_mem _ z)
section
variable {W : Wd} {te : TE} {tx : TA} {ls ms : List Lab} {Fe : FE} {Fs : FI} {l m : Lab} {fl : List Bool} {F : List T → M T} {E : XK} {c i : Nat} {n : Str}
theorem sm_fld (h : Sm W te ls Fe l) (hn : (W.nm c)[i]? = some n) (nd : (W.nm c).Nodup) (na : NoAttr W.K (W.C c) n) : Sm W (tFld W.K te n) ls (fFld c i Fe) l := fun B hB τ pot O σ H En t pot' f Q q => by
  unfold fFld at f
  split at f
  · rename_i d l' p1 e
    split at f
    · rename_i ed
      subst ed
      split at f
      · rename_i t' et
        cases f
        refine h B hB τ pot O σ H En _ _ e _ fun v H' nx r => ?_
        rw [rep_ins_iff] at r
        obtain ⟨a, dx, vs, rfl, _, o, ha, hl, rs⟩ := r
        obtain ⟨v, hv, rv⟩ := rs.get et
        exact ⟨a, _, dx, _, v, rfl, ha, o.cl, na, lookup_zip nd hn hv, q v H' nx rv⟩
      · cases f
    · cases f
  · cases f
/-- a property -/
def fProp (c : Nat) (F : List T → M T) (Fe : FE) : FE := fun τ pot => match Fe τ pot with
  | some (.ins d l, p1) => if d = c then F [.ins d l] p1 else none
  | _ => none
theorem sm_prop (h : Sm W te ls Fe l) : Sm W (tProp (W.C c) (spT W F [true]) [] E te) ls (fProp c F Fe) l := fun B hB τ pot O σ H En t pot' f Q q => by
  unfold fProp at f
  split at f
  · rename_i d l' p1 e
    split at f
    · rename_i ed
      subst ed
      refine h B hB τ pot O σ H En _ _ e _ fun v H1 n r => ?_
      have E1 := En.step hB n
      have r0 := r
      rw [rep_ins_iff] at r
      obtain ⟨a, dx, vs, rfl, _, o, ha, hl, rs⟩ := r
      exact ⟨a, dx, _, rfl, ha, B.p, p1, gd B O l, gd B O ltop, [.ins d l'], t, pot', E1.ct hB l, ⟨r0, trivial⟩, f, fun v H2 n2 r2 => q v H2 (n.trans n2) r2⟩
    · cases f
  · cases f
/-- a method -/
def fMeth (c : Nat) (F : List T → M T) (Fe : FE) (Fs : FI) : FE := fun τ pot => match Fe τ pot with
  | some (.ins d l, p1) => if d = c then (match Fs τ p1 with
    | some (ts, p2) => F (.ins d l :: ts) p2
    | none => none) else none
  | _ => none
theorem sm_meth (h : Sm W te ls Fe m) (ha : SmA W tx ls Fs ms) (e : lok l fl (m :: ms) = true) (hn : n ∉ W.nm c) : Sm W (tMeth (W.C c) n (spT W F fl) [] E te tx) ls (fMeth c F Fe Fs) l := fun B hB τ pot O σ H En t pot' f Q q => by
  unfold fMeth at f
  split at f
  · rename_i d l' p1 e1
    split at f
    · rename_i ed
      subst ed
      split at f
      · rename_i ts p2 e2
        refine h B hB τ pot O σ H En _ _ e1 _ fun v H1 n1 r => ?_
        have E1 := En.step hB n1
        have r0 := r
        rw [rep_ins_iff] at r
        obtain ⟨a, dx, vs, rfl, _, o, h1, hl, rs⟩ := r
        refine ⟨a, dx, _, rfl, h1, lookup_zip_none hn, ha B hB τ p1 O σ H1 E1 _ _ e2 _ fun vs2 H2 n2 r2 => ?_⟩
        have E2 := E1.step hB n2
        rw [List.append_nil]
        exact ⟨B.p, p2, gd B O l, gd B O ltop, .ins d l' :: ts, t, pot', E2.ct hB l, argR_pass hB e ⟨r0.nx (E1.ct hB m) n2, r2⟩, f, fun v H3 n3 r3 => q v H3 ((n1.trans n2).trans n3) r3⟩
      · cases f
    · cases f
  · cases f
/-- __init__'s promise: F of the arguments is the whole instance -/
def spI (W : Wd) (c : Nat) (F : List T → M T) (fl : List Bool) : Sp := fun vs H Q _ => ∃ p pot G1 G2 x dx H0 args ts t pot', vs = .ref x :: args ∧ H0 x = none ∧ H0 dx = none ∧ dx ≠ x ∧ H = upd (upd H0 dx (.own x)) x (.ins (W.C c) dx []) ∧
  OwnX W.K (W.C c) ∧ Ct p pot G1 G2 H0 ∧ ArgR W p (g2 G1 G2) H0 (flab fl) ts args ∧ F ts pot = some (t, pot') ∧ ∀ H', Nx p pot H0 pot' H' → Rep W p G1 H' t (.ref x) → Q .non H'
theorem sm_make (o : OwnX W.K (W.C c)) (h : SmA W tx ls Fs ms) (e : lok l fl ms = true) : Sm W (tMake (W.C c) (spI W c F fl) [] E tx) ls (fCall F Fs) l := fun B hB τ pot O σ H En t pot' f Q q => by
  unfold fCall at f
  split at f
  · rename_i ts p1 e1
    refine h B hB τ pot O σ H En _ _ e1 _ fun vs H1 n r x dx hx hdx ne => ?_
    have E1 := En.step hB n
    rw [List.append_nil]
    exact ⟨B.p, p1, gd B O l, gd B O ltop, x, dx, H1, vs, ts, t, pot', rfl, hx, hdx, ne, rfl, o, E1.ct hB l, argR_pass hB e r, f, fun H2 n2 r2 => ⟨rfl, q _ H2 (n.trans n2) r2⟩⟩
  · cases f
/-- with defaults dvs that are fixed -/
theorem sm_makeD {dvs : List V} {dts : List T} {fd : List Bool} (o : OwnX W.K (W.C c)) (h : SmA W tx ls Fs ms) (e : lok l fl ms = true) (hd : ∀ (p : Addr) (g : Lab → GD) (H : Hp), ArgR W p g H (flab fd) dts dvs) :
    Sm W (tMake (W.C c) (spI W c F (fl ++ fd)) dvs E tx) ls (fCall (fun ts => F (ts ++ dts)) Fs) l := fun B hB τ pot O σ H En t pot' f Q q => by
  unfold fCall at f
  split at f
  · rename_i ts p1 e1
    refine h B hB τ pot O σ H En _ _ e1 _ fun vs H1 n r x dx hx hdx ne => ?_
    have E1 := En.step hB n
    have app : ∀ {l1 l2 : List Lab} {t1 t2 : List T} {v1 v2 : List V} {g : Lab → GD}, ArgR W B.p g H1 l1 t1 v1 → ArgR W B.p g H1 l2 t2 v2 → ArgR W B.p g H1 (l1 ++ l2) (t1 ++ t2) (v1 ++ v2) := by
      intro l1
      induction l1 with
      | nil =>
        intro l2 t1 t2 v1 v2 g z1 z2
        match t1, v1, z1 with
        | [], [], _ => exact z2
      | cons a l1 ih =>
        intro l2 t1 t2 v1 v2 g z1 z2
        match t1, v1, z1 with
        | _ :: _, _ :: _, z1 => exact ⟨z1.1, ih z1.2 z2⟩
    have fe : flab (fl ++ fd) = flab fl ++ flab fd := by unfold flab; rw [List.map_append]
    exact ⟨B.p, p1, gd B O l, gd B O ltop, x, dx, H1, _, _, t, pot', rfl, hx, hdx, ne, rfl, o, E1.ct hB l, by rw [fe]; exact app (argR_pass hB e r) (hd _ _ _), f, fun H2 n2 r2 => ⟨rfl, q _ H2 (n.trans n2) r2⟩⟩
  · cases f
theorem spI_len {vs : List V} {H : Hp} {Q : VK} (h : spI W c F fl vs H Q E) : vs.length = fl.length + 1 := by
  obtain ⟨p, pot, G1, G2, x, dx, H0, args, ts, t, pot', rfl, _, _, _, _, _, _, a, _⟩ := h
  rw [List.length_cons, a.len.2]
  unfold flab
  rw [List.length_map]
def runI (c n : Nat) (FB : FS) (k : Nat) : List T → M T := fun ts pot => match FB (.obj c [] :: (ts.map .val ++ List.replicate k .no)) pot with
  | some (Out.nx (Sl.obj d l :: _), p) => if d = c ∧ l.length = n then some (.ins c l, p) else none
  | _ => none
theorem putF_zip {n : Str} {v : V} : ∀ {ns : List Str} {vs : List V}, ns.Nodup → ns[vs.length]? = some n → putF n v (ns.zip vs) = ns.zip (vs ++ [v])
  | [], vs, _, h => by simp at h
  | m :: ns, [], nd, h => by
    simp at h
    subst h
    show putF m v [] = _
    simp [putF]
  | m :: ns, w :: vs, nd, h => by
    have h' : ns[vs.length]? = some n := by simpa using h
    have hne : m ≠ n := fun e => (List.nodup_cons.mp nd).1 (e ▸ List.mem_of_getElem? h')
    show (if m = n then (m, v) :: ns.zip vs else (m, w) :: putF n v (ns.zip vs)) = (m, w) :: ns.zip (vs ++ [v])
    rw [if_neg hne, putF_zip (List.nodup_cons.mp nd).2 h']
end
end TL
namespace TL
open PySem PySem.Spec PyProof.Rows L2 Evl PF
/-- no label that may rest on an owned list -/
def cln (ls : List Lab) : Bool := ls.all fun l => !l.2
theorem cln_at {ls : List Lab} (h : cln ls = true) {i : Nat} {l : Lab} (e : ls[i]? = some l) : l.2 = false := by
  have := List.all_eq_true.mp h l (List.mem_of_getElem? e)
  simpa using this
theorem gd_cln {B : Bd} {O : Ows} {l : Lab} {k : Bool} {a : Addr} {i : Nat} (h : l.2 = false) (e : O i = some a) : ¬ gd B O l k a := fun z => z.2.elim (fun y => by have y := y.1; rw [h] at y; cases y) fun y => y i e
section
variable {W : Wd} {B : Bd} {ls : List Lab} {τ : List Sl} {pot : Pot} {O : Ows} {σ : L2.St} {H : Hp} {i : Nat} {a : Addr} {o o' : HO}
theorem EnvR.far (E : EnvR W B ls τ pot O σ H) (hO : O i = some a) {j : Nat} {b : Addr} (n : ¬ j = i) (e1 : O j = some b) : b ≠ a := fun z => by
  subst z
  exact n (E.inj j i b e1 hO)
/-- the owned thing of slot i is changed -/
theorem EnvR.mut (hB : B.Ok) (E : EnvR W B ls τ pot O σ H) (hc : cln ls = true) (hO : O i = some a) {s' : Sl} (hs : ∀ l x, ls[i]? = some l → σ[i]? = some x → SlR W B O (upd H a o') i l s' x) : EnvR W B ls (τ.set i s') pot O σ (upd H a o') where
  pt := by
    have hp := E.pne hO
    have z := E.pt
    cases pot with
    | none => trivial
    | some q =>
      obtain ⟨c, m⟩ := q
      show upd H a o' B.p = _
      rw [upd_ne (Ne.symm (hp.resolve_left fun z => nomatch z))]
      exact z
  non := E.non
  ow := fun j b h => ⟨by
    by_cases e : b = a
    · rw [e, upd_same]; exact fun y => (nomatch y)
    · rw [upd_ne e]; exact (E.ow j b h).1, (E.ow j b h).2⟩
  inj := E.inj
  fin := E.fin
  hp := E.hp
  kp := fun b o h n => by
    have e : b ≠ a := fun z => by
      rw [z, (E.ow i a hO).2] at h; cases h
    rw [upd_ne e]
    exact E.kp b o h n
  dom := fun b h => by
    by_cases e : b = a
    · rw [e, upd_same]; exact fun y => (nomatch y)
    · rw [upd_ne e]; exact E.dom b h
  l1 := by rw [List.length_set]; exact E.l1
  l2 := E.l2
  sl := fun j l s x h1 h2 h3 => by
    by_cases e : j = i
    · subst e
      rw [List.getElem?_set_self (by have := E.l1; have := (List.getElem?_eq_some_iff.mp h3).1; omega)] at h2
      cases h2
      exact hs l x h1 h3
    · rw [List.getElem?_set_ne (Ne.symm e)] at h2
      have z := E.sl j l s x h1 h2 h3
      have cl := cln_at hc h1
      have kp : ∀ k b o, gd B O l k b → H b = some o → upd H a o' b = some o := fun k b o g h => by
        rw [upd_ne fun e => gd_cln cl hO (e ▸ g)]
        exact h
      cases s with
      | no => exact z
      | val t =>
        obtain ⟨z0, v, e1, r⟩ := z
        exact ⟨z0, v, e1, r.up (fun _ _ h => h) kp⟩
      | own ts =>
        obtain ⟨b, vs, e1, e2, e3, r⟩ := z
        exact ⟨b, vs, e1, e2, by rw [upd_ne (E.far hO e e1)]; exact e3, r.up (fun _ _ h => h) kp⟩
      | obj c2 ts =>
        obtain ⟨b, dx, vs, e1, e2, o2, e3, hl, r⟩ := z
        exact ⟨b, dx, vs, e1, e2, o2, by rw [upd_ne (E.far hO e e1.1)]; exact e3, hl, r.up (fun _ _ h => h) kp⟩
theorem Stp.mut (E : EnvR W B ls τ pot O σ H) (hO : O i = some a) : Stp B.p pot O H pot O (upd H a o') :=
  ⟨fun b o h n hn => by rw [upd_ne fun e => hn i (by rw [e]; exact hO)]; exact h, fun j b h => .inl ⟨j, h⟩, Iff.rfl, fun b h => by
    by_cases e : b = a
    · rw [e, upd_same]; exact fun y => (nomatch y)
    · rw [upd_ne e]; exact h⟩
/-- what is described under a clean label does not see the change -/
theorem Rep.mut {l : Lab} (hl : l.2 = false) (hO : O i = some a) {t : T} {v : V} (r : Rep W B.p (gd B O l) H t v) : Rep W B.p (gd B O l) (upd H a o') t v :=
  r.up (fun _ _ h => h) fun k b o g h => by rw [upd_ne fun e => gd_cln hl hO (e ▸ g)]; exact h
theorem Reps.mut {l : Lab} (hl : l.2 = false) (hO : O i = some a) {t : List T} {v : List V} (r : Reps W B.p (gd B O l) H t v) : Reps W B.p (gd B O l) (upd H a o') t v :=
  r.up (fun _ _ h => h) fun k b o g h => by rw [upd_ne fun e => gd_cln hl hO (e ▸ g)]; exact h
end
section
variable {W : Wd} {R : RR_} {te : TE} {ls ls1 : List Lab} {Fe : FE} {l : Lab} {c k n : Nat} {nm : Str} {fl : List Bool} {FB : FS} {tb : TS} {N : List Str} {E : XK}
def bi (p : Addr) (G1 G2 : GD) (H : Hp) (pot : Pot) (x : Addr) : Bd := ⟨p, G1, G2, H, pot = none, x⟩
theorem bi_ok {p : Addr} {pot : Pot} {G1 G2 : GD} {H : Hp} {x : Addr} (c : Ct p pot G1 G2 H) : (bi p G1 G2 H pot x).Ok := ⟨c.nw, c.sub, c.np, c.ins⟩
/-- self.a = e -/
def fSetA (c j : Nat) (Fe : FE) : FS := fun τ pot => match Fe τ pot with
  | some (t, p1) => (match τ[(0 : Nat)]? with
    | some (.obj d l) => if d = c ∧ l.length = j then some (.nx (τ.set 0 (.obj c (l ++ [t]))), p1) else none
    | _ => none)
  | none => none
theorem smS_setA {j : Nat} (h : Sm W te ls Fe l) (h0 : ls[(0 : Nat)]? = some l) (hc : cln ls = true) (hn : (W.nm c)[j]? = some nm) (nd : (W.nm c).Nodup) (na : NoAttr W.K (W.C c) nm) (hs : (W.nm c).length < 1000) :
    SmS W R (sFld W.K (tVar 0) te nm) ls (fSetA c j Fe) ls := fun B hB τ pot O σ H En o pot' f D d => by
  unfold fSetA at f
  split at f
  · rename_i t p1 e
    split at f
    · rename_i d' l' h'
      split at f
      · rename_i hd
        cases f
        obtain ⟨rfl, rfl⟩ := hd
        refine h B hB τ pot O σ H En _ _ e _ fun v H' nx r => ?_
        have E1 := En.step hB nx
        obtain ⟨x, hx, z⟩ := sl_at E1 h' h0
        obtain ⟨a, dx, vs, ⟨e1, es⟩, rfl, ow, e3, hl, rs⟩ := z
        have lv := rs.length
        have cl := cln_at hc h0
        refine ⟨.ref a, hx, a, _, dx, _, rfl, e3, ow.cl, na, by rw [List.length_zip]; omega, ?_⟩
        rw [putF_zip nd (by rw [lv]; exact hn)]
        refine d O σ _ ((Stp.of nx).trans (Stp.mut E1 e1)) (E1.mut hB hc e1 fun m x h1 h2 => ?_)
        rw [h0] at h1
        cases h1
        rw [hx] at h2
        cases h2
        have hj := (List.getElem?_eq_some_iff.mp hn).1
        exact ⟨a, dx, vs ++ [v], ⟨e1, es⟩, rfl, ow, upd_same, by rw [List.length_append]; show l'.length + 1 ≤ _; omega, (rs.append (reps_cons r reps_nil)).mut cl e1⟩
      · cases f
    · cases f
  · cases f
theorem spI_body (h : SmS W RetE tb ((false, false) :: (flab fl ++ List.replicate k (false, false))) FB ls1) (h0 : ls1[(0 : Nat)]? = some (false, false)) (hk : N.length = fl.length + 1 + k) (hn : (W.nm c).length = n) {vs : List V} {H : Hp} {Q : VK} (z : spI W c (runI c n FB k) fl vs H Q E) :
    tb { nx := fun _ H' => Q .non H', rt := Q } (L2.start N vs) H := by
  obtain ⟨p, pot, G1, G2, x, dx, H0, args, ts, t, pot', rfl, hx, hdx, ne, rfl, ow, ct, a, f, q⟩ := z
  unfold runI at f
  split at f
  · rename_i d l τ1 p1 e
    split at f
    · rename_i hd
      cases f
      obtain ⟨rfl, rfl⟩ := hd
      have nx : x ≠ dx := Ne.symm ne
      have ex0 : Ex H0 (upd H0 dx (.own x)) := Ex.new hdx
      have hx1 : upd H0 dx (.own x) x = none := by rw [upd_ne nx]; exact hx
      have c1 : Ct p pot G1 G2 (upd H0 dx (.own x)) := ct.step (Nx.of ct.pt ex0)
      have a1 : ArgR W p (g2 G1 G2) (upd (upd H0 dx (.own x)) x (.ins (W.C d) dx [])) (flab fl) ts args := a.map fun m _ t v r => r.up (fun _ _ h => h) fun k b o _ h => Ex.new hx1 b o (ex0 b o h)
      have obj : SlR W (bi p G1 G2 (upd H0 dx (.own x)) pot x) (ownAt (fun _ => none) 0 x) (upd (upd H0 dx (.own x)) x (.ins (W.C d) dx [])) 0 (false, false) (.obj d []) (some (.ref x)) :=
        ⟨x, dx, [], ⟨if_pos rfl, rfl⟩, rfl, ow, by rw [upd_same]; simp, Nat.zero_le _, reps_nil⟩
      have ct2 : Ct p pot G1 G2 (upd (upd H0 dx (.own x)) x (.ins (W.C d) dx [])) := c1.step (Nx.of c1.pt (Ex.new hx1))
      obtain ⟨l1, l2⟩ := a.len
      have lf : (flab fl).length = fl.length := by unfold flab; rw [List.length_map]
      have base := env_start (N := N.tail) (k := k) ct2 a1 (by rw [List.length_tail]; omega)
      have lst : L2.start N (.ref x :: args) = some (.ref x) :: L2.start N.tail args := by
        unfold L2.start
        rw [List.map_cons, List.cons_append, List.length_tail, List.length_cons]
        congr 2
        congr 1
        omega
      have far : ∀ (b : Addr), (∃ i, ownAt (fun _ => none) 0 x i = some b) → b = x := fun b ⟨i, h⟩ => by
        unfold ownAt at h
        split at h
        · exact (Option.some.inj h).symm
        · cases h
      have En : EnvR W (bi p G1 G2 (upd H0 dx (.own x)) pot x) ((false, false) :: (flab fl ++ List.replicate k (false, false))) (.obj d [] :: (ts.map .val ++ List.replicate k .no)) pot (ownAt (fun _ => none) 0 x) (L2.start N (.ref x :: args)) (upd (upd H0 dx (.own x)) x (.ins (W.C d) dx [])) := by
        rw [lst]
        refine ⟨ct2.pt, Iff.rfl, fun i b h => ?_, fun i j b h1 h2 => ?_, ⟨_, Nat.le_refl _, fun i h => if_neg (by rw [List.length_cons] at h; omega)⟩, c1.pin, fun b o z _ => Ex.new hx1 b o z, fun b z => ?_, ?_, ?_, fun i l s x' h1 h2 h3 => ?_⟩
        · have := far b ⟨i, h⟩
          subst this
          exact ⟨by rw [upd_same]; exact fun y => (nomatch y), hx1⟩
        · unfold ownAt at h1 h2
          split at h1
          · split at h2
            · rename_i q1 q2; rw [q1, q2]
            · cases h2
          · cases h1
        · cases q : upd H0 dx (.own x) b with
          | none => exact absurd q z
          | some o => rw [Ex.new hx1 b o q]; exact fun y => (nomatch y)
        · have := base.l1; rw [List.length_cons, List.length_cons, this]
        · have := base.l2; rw [List.length_cons, List.length_cons, this]
        · match i, h1, h2, h3 with
          | 0, h1, h2, h3 =>
            cases h1
            cases h2
            cases h3
            exact obj
          | i + 1, h1, h2, h3 =>
            have z := base.sl i l s x' (by simpa using h1) (by simpa using h2) (by simpa using h3)
            have zero : ownAt (fun _ => none) 0 x (i + 1) = none := if_neg (by omega)
            cases s with
            | no => exact zero
            | own us => obtain ⟨_, _, w, _⟩ := z; cases w
            | obj _ _ => obtain ⟨_, _, _, ⟨w, _⟩, _⟩ := z; cases w
            | val t =>
              obtain ⟨_, v, e1, r⟩ := z
              -- what was passed does not rest on x
              have hi : i < args.length := by
                rcases start_at (by simpa using h3) with ⟨v', e', _⟩ | ⟨_, e'⟩
                · exact (List.getElem?_eq_some_iff.mp e').1
                · rw [e'] at e1; cases e1
              have hm : (flab fl ++ List.replicate k (false, false))[i]? = some l := by simpa using h1
              rw [List.getElem?_append_left (by omega)] at hm
              have ht : i < ts.length := by omega
              have et : (ts.map Sl.val ++ List.replicate k Sl.no)[i]? = some (.val t) := by simpa using h2
              rw [List.getElem?_append_left (by rw [List.length_map]; omega), List.getElem?_map, List.getElem?_eq_getElem ht] at et
              cases et
              have hv : (L2.start N.tail args)[i]? = some x' := by simpa using h3
              have hv2 : args[i]? = some v := by
                rcases start_at hv with ⟨v', e', e2⟩ | ⟨_, e'⟩
                · rw [e2] at e1; cases e1; exact e'
                · rw [e'] at e1; cases e1
              have r0 : Rep W p (g2 G1 G2 l) H0 ts[i] v := a.at hm (List.getElem?_eq_getElem ht) hv2
              have r1 := rep_far hx (H' := upd (upd H0 dx (.own x)) x (.ins (W.C d) dx [])) (fun k b o _ h => Ex.new hx1 b o (ex0 b o h)) r0
              refine ⟨zero, v, e1, r1.sub fun k b w => ⟨?_, .inr fun j h => w.2 (far b ⟨j, h⟩)⟩⟩
              have w1 := w.1
              unfold g2 at w1
              split at w1
              · rename_i y; rw [if_pos y]; exact w1
              · rename_i y; rw [if_neg y]; exact w1
      refine h _ (bi_ok c1) _ pot _ _ _ En _ _ e _ ?_
      intro O' σ' H' s E'
      have hσ : 0 < σ'.length := by rw [← E'.l1]; exact Nat.succ_pos _
      have z := E'.sl 0 _ _ _ h0 rfl (List.getElem?_eq_getElem hσ)
      obtain ⟨b, dx', us, ⟨o1, ob⟩, o2, _, o4, o5, o6⟩ := z
      have ob' : b = x := ob
      subst ob'
      have lu := o6.length
      refine q H' ⟨fun b o h n => ?_, E'.pt, s.non, fun b h => ?_⟩ ?_
      · exact E'.kp b o (ex0 b o h) n
      · exact E'.dom b (by
          cases w : H0 b with
          | none => exact absurd w h
          | some o =>
            intro y
            have y' := (ex0 b o w).symm.trans y
            cases y')
      · rw [rep_ins_iff]
        refine ⟨b, dx', us, rfl, ct.nw false b hx, ow, o4, by rw [lu, hn], o6.sub fun k b w => ?_⟩
        exact (show G1 k b from w.1)
    · cases f
  · cases f
end
end TL
namespace TL
open PySem PySem.Spec PyProof.Rows L2 Evl PF
/-- list or tuple, walked -/
def iSeq (K : PySem.W.Frag) (tl : TE) : TI := fun σ H R => tl σ H fun x H1 => ∃ a, x = .ref a ∧ ((∃ xs, H1 a = some (.lst xs)) ∧ R (Itl K a) H1 ∨ (∃ xs, H1 a = some (.tup xs)) ∧ R (Itt K a) H1)
theorem pi_seq {X : Cx} {tg l : Expr} {tl : TE} (hl : PE X l tl) : PI X tg l (iSeq X.K tl) := by
  refine ⟨fun pins s σ H R I h => ?_⟩
  refine thn (hl.run pins s σ H _ I h) fun v s1 ⟨x, H1, I1, r1, q1⟩ => ?_
  obtain ⟨a, e, q⟩ := q1
  subst e
  cases r1
  rcases q with ⟨⟨xs, hq⟩, q⟩ | ⟨⟨xs, hq⟩, q⟩
  · obtain ⟨its, rv, p, hz⟩ := I1.list (sq_of hq)
    refine wpAny_pyIter_list p.isList ?_
    refine ⟨s1.heap.objs.size, [s1.heap.objs.size], _, _, H1, rfl, I1.kept (t' := s1.toks) fun b o e => Heap.get?_push_of_some _ e, turn_list a _, ⟨_, Heap.get?_push_size _ rfl, rfl, rfl⟩, fun b hb => ?_, q⟩
    have e : b = s1.heap.objs.size := by simpa using hb
    subst e
    exact I1.fpOk (Nat.le_refl _) (I1.hok.fresh (Nat.le_refl _))
  · obtain ⟨its, rv, p, hz⟩ := I1.tuple (st_of hq)
    refine wpAny_pyIter_tuple (show s1.heap.IsTuple a its.toArray from p) ?_
    refine ⟨s1.heap.objs.size, [s1.heap.objs.size], _, _, H1, rfl, I1.kept (t' := s1.toks) fun b o e => Heap.get?_push_of_some _ e, turn_tuple a _, ⟨_, Heap.get?_push_size _ rfl, rfl, rfl⟩, fun b hb => ?_, q⟩
    have e : b = s1.heap.objs.size := by simpa using hb
    subst e
    exact I1.fpOk (Nat.le_refl _) (I1.hok.fresh (Nat.le_refl _))
/-- which may change while it is walked: the source; within statements the owned lists too -/
def Xc (B : Bd) (O : Ows) (st : Bool) (b : Addr) : Prop := (¬ B.none ∧ b = B.p) ∨ (st = true ∧ ∃ i, O i = some b)
theorem xc_kept {B : Bd} {O : Ows} {st : Bool} {b : Addr} {pot : Pot} (non : B.none ↔ pot = Option.none) (hx : ¬ Xc B O st b) : pot = Option.none ∨ b ≠ B.p := by
  by_cases h : B.none
  · exact .inl (non.mp h)
  · exact .inr fun e => hx (.inl ⟨h, e⟩)
def KeptX (X : Addr → Prop) (H H' : Hp) : Prop := ∀ b o, H b = some o → ¬ X b → H' b = some o
/-- J yields these, whatever else changes -/
def ItsR (W : Wd) (p : Addr) (G : GD) (X : Addr → Prop) (J : It) (items : List T) (H : Hp) : Prop := ∀ H' (G' : GD), KeptX X H H' → (∀ k b, G k b → H b ≠ none → G' k b) → (∀ k b, H' b = none → G' k b) → (∀ k b, G k b → ¬ X b) →
  (∀ (i : Nat) t, items[i]? = some t → J.go i H' ∧ ∀ x H2, J.yld i H' x H2 → Ex H' H2 ∧ Rep W p G' H2 t x) ∧ J.stop items.length H'
/-- a description, in a later heap, by what stood -/
theorem rep_later {W : Wd} {p : Addr} {G G' : GD} {X : Addr → Prop} {H H' : Hp} {t : T} {v : V} (kp : KeptX X H H') (sub : ∀ k b, G k b → H b ≠ none → G' k b) (np : ∀ k b, G k b → ¬ X b) (r : Rep W p G H t v) : Rep W p G' H' t v :=
  (rep_dom t v r).up (fun k b w => sub k b w.1 w.2) fun k b o w h => kp b o h (np k b w.1)
def SmIt (W : Wd) (wi : TI) (ls : List Lab) (F : FI) (l : Lab) (st : Bool) : Prop := ∀ (B : Bd), B.Ok → ∀ τ pot O σ H, EnvR W B ls τ pot O σ H → ∀ its pot', F τ pot = some (its, pot') →
  ∀ R : It → Hp → Prop, (∀ J H', Nx B.p pot H pot' H' → ItsR W B.p (gd B O l) (Xc B O st) J its H' → R J H') → wi σ H R
section
variable {W : Wd} {te ta tb : TE} {tx : TA} {tt : TT} {ls : List Lab} {Fe : FE} {FL : FI} {l m : Lab}
/-- how a list that stands is yielded -/
theorem its_seq {p a : Addr} {G : GD} {X : Addr → Prop} {H : Hp} {k : Bool} {vs : List V} {ts : List T} (hs : Seqq H a k vs) (hx : ¬ X a) (r : Reps W p G H ts vs) : ItsR W p G X (if k = true then Itl W.K a else Itt W.K a) ts H := fun H' G' kp sub _ np => by
  have lv := r.length
  have at_ : ∀ (i : Nat) t, ts[i]? = some t → ∃ v, vs[i]? = some v ∧ Rep W p G' H' t v := fun i t e => by
    obtain ⟨v, h1, h2⟩ := r.get e
    exact ⟨v, h1, rep_later kp sub np h2⟩
  unfold Seqq at hs
  cases k with
  | true =>
    have h1 : H' a = some (.lst vs) := kp a _ hs hx
    refine ⟨fun i t e => ?_, ⟨vs, sq_of h1, by omega⟩⟩
    obtain ⟨v, e1, e2⟩ := at_ i t e
    refine ⟨⟨vs, v, sq_of h1, e1⟩, fun x H2 y => ?_⟩
    obtain ⟨e3, e4⟩ := y
    subst e3
    have e5 := e4 vs (sq_of h1)
    rw [e1] at e5
    cases e5
    exact ⟨Ex.refl _, e2⟩
  | false =>
    have h1 : H' a = some (.tup vs) := kp a _ hs hx
    refine ⟨fun i t e => ?_, ⟨vs, st_of h1, by omega⟩⟩
    obtain ⟨v, e1, e2⟩ := at_ i t e
    refine ⟨⟨vs, v, st_of h1, e1⟩, fun x H2 y => ?_⟩
    obtain ⟨e3, e4⟩ := y
    subst e3
    have e5 := e4 vs (st_of h1)
    rw [e1] at e5
    cases e5
    exact ⟨Ex.refl _, e2⟩
theorem smIt_I (h : SmI W te ls Fe l) : SmIt W (iSeq W.K te) ls (fItems Fe) l false := fun B hB τ pot O σ H E its pot' f R q => by
  unfold fItems at f
  split at f
  · rename_i l' p1 e
    cases f
    exact h B hB τ pot O σ H E true _ _ e _ fun a vs H' n hp hs r => ⟨a, rfl, .inl ⟨⟨vs, hs⟩, q _ H' n (its_seq (k := true) (X := Xc B O false) hs (fun y => y.elim (fun y => hp.elim y.1 fun n => n y.2) fun y => nomatch y.1) r)⟩⟩
  · rename_i l' p1 e
    cases f
    exact h B hB τ pot O σ H E false _ _ e _ fun a vs H' n hp hs r => ⟨a, rfl, .inr ⟨⟨vs, hs⟩, q _ H' n (its_seq (k := false) (X := Xc B O false) hs (fun y => y.elim (fun y => hp.elim y.1 fun n => n y.2) fun y => nomatch y.1) r)⟩⟩
  · cases f
theorem smIt_E (h : Sm W te ls Fe l) (hl : l.2 = false) : SmIt W (iSeq W.K te) ls (fItems Fe) l true := fun B hB τ pot O σ H E its pot' f R q => by
  unfold fItems at f
  have far : ∀ k a, gd B O l k a → ¬ Xc B O true a := fun k a g y => by
    rcases y with y | ⟨_, i, y⟩
    · exact (gd_np hB g).elim y.1 fun n => n y.2
    · exact gd_cln hl y g
  split at f
  · rename_i l' p1 e
    cases f
    refine h B hB τ pot O σ H E _ _ e _ fun v H' n r => ?_
    rw [rep_lst_iff] at r
    obtain ⟨a, vs, rfl, ga, ha, rs⟩ := r
    exact ⟨a, rfl, .inl ⟨⟨vs, ha⟩, q _ H' n (its_seq (k := true) ha (far _ _ ga) rs)⟩⟩
  · rename_i l' p1 e
    cases f
    refine h B hB τ pot O σ H E _ _ e _ fun v H' n r => ?_
    rw [rep_tup_iff] at r
    obtain ⟨a, vs, rfl, ga, ha, rs⟩ := r
    exact ⟨a, rfl, .inr ⟨⟨vs, ha⟩, q _ H' n (its_seq (k := false) ha (far _ _ ga) rs)⟩⟩
  · cases f
theorem smIt_F {st : Bool} (h : SmF W te ls FL l) : SmIt W (iSeq W.K te) ls FL l st := fun B hB τ pot O σ H E its pot' f R q => h B hB τ pot O σ H E its pot' f _ fun a vs H' n hn ha r => by
  refine ⟨a, rfl, .inl ⟨⟨vs, ha⟩, q _ H' n (its_seq (k := true) ha (fun y => ?_) (r.sub fun _ _ z => z.1))⟩⟩
  rcases y with y | ⟨_, i, y⟩
  · exact E.pin.elim y.1 fun z => z (y.2 ▸ hn)
  · exact (E.ow i a y).1 hn
/-- range(n) -/
def intsT (lo : Int) (n : Nat) : List T := (List.range n).map fun (i : Nat) => T.int (lo + ((i : Nat) : Int))
theorem intsT_at {lo : Int} {n i : Nat} {t : T} (h : (intsT lo n)[i]? = some t) : i < n ∧ t = .int (lo + i) := by
  unfold intsT at h
  rw [List.getElem?_map] at h
  by_cases hi : i < n
  · rw [List.getElem?_range hi] at h
    exact ⟨hi, (Option.some.inj h).symm⟩
  · rw [List.getElem?_eq_none_iff.mpr (by simpa using hi)] at h
    cases h
theorem its_rng {p : Addr} {G : GD} {X : Addr → Prop} {H : Hp} {lo : Int} {n : Nat} : ItsR W p G X (Itr lo n) (intsT lo n) H := fun H' _ _ _ _ _ => by
  refine ⟨fun i t e => ?_, ?_⟩
  · obtain ⟨hi, rfl⟩ := intsT_at e
    refine ⟨hi, fun x H2 y => ?_⟩
    obtain ⟨e1, e2⟩ := y
    subst e1 e2
    exact ⟨Ex.refl _, rep_int⟩
  · show n ≤ (intsT lo n).length
    unfold intsT
    simp
def fRange1 (F : FI) : FI := fun τ pot => match F τ pot with
  | some ([.int j], p1) => if -(2 ^ 62) ≤ j ∧ j < 2 ^ 62 then some (intsT 0 j.toNat, p1) else none
  | _ => none
theorem argR_cons {p : Addr} {g : Lab → GD} {H : Hp} {t : T} {m : Lab} {ms : List Lab} {ts : List T} {vs : List V} (h : ArgR W p g H (m :: ms) (t :: ts) vs) : ∃ v r, vs = v :: r ∧ Rep W p (g m) H t v ∧ ArgR W p g H ms ts r := by
  match vs, h with
  | v :: r, h => exact ⟨v, r, rfl, h⟩
theorem argR_nil {p : Addr} {g : Lab → GD} {H : Hp} {vs : List V} (h : ArgR W p g H [] [] vs) : vs = [] := by
  match vs, h with
  | [], _ => rfl
theorem smIt_range1 {st : Bool} {m : Lab} (h : SmA W tx ls FL [m]) : SmIt W (iRng1 tx) ls (fRange1 FL) l st := fun B hB τ pot O σ H E its pot' f R q => by
  unfold fRange1 at f
  split at f
  · rename_i j p1 e
    split at f
    · rename_i hj
      cases f
      refine h B hB τ pot O σ H E _ _ e _ fun vs H' n r => ?_
      obtain ⟨v, r', rfl, r1, r2⟩ := argR_cons r
      rw [rep_int_iff] at r1
      subst r1
      cases argR_nil r2
      exact ⟨j, rfl, hj.1, hj.2, q _ H' n its_rng⟩
    · cases f
  · cases f
def fRange2 (F : FI) : FI := fun τ pot => match F τ pot with
  | some ([.int i, .int j], p1) => if -(2 ^ 62) ≤ i ∧ i < 2 ^ 62 ∧ -(2 ^ 62) ≤ j ∧ j < 2 ^ 62 then some (intsT i (j - i).toNat, p1) else none
  | _ => none
theorem smIt_range2 {st : Bool} {m1 m2 : Lab} (h : SmA W tx ls FL [m1, m2]) : SmIt W (iRng2 tx) ls (fRange2 FL) l st := fun B hB τ pot O σ H E its pot' f R q => by
  unfold fRange2 at f
  split at f
  · rename_i i j p1 e
    split at f
    · rename_i hj
      cases f
      refine h B hB τ pot O σ H E _ _ e _ fun vs H' n r => ?_
      obtain ⟨v, r', rfl, r1, r2⟩ := argR_cons r
      obtain ⟨v2, r3, rfl, r4, r5⟩ := argR_cons r2
      rw [rep_int_iff] at r1 r4
      subst r1 r4
      cases argR_nil r5
      exact ⟨i, j, rfl, hj, q _ H' n its_rng⟩
    · cases f
  · cases f
/-- enumerate(list) -/
def fEnum (F : FI) : FI := fun τ pot => match F τ pot with
  | some ([.lst ts], p1) => some ((List.range ts.length).zipWith (fun i t => .tup [.int (i : Nat), t]) ts, p1)
  | _ => none
end
end TL
namespace TL
open PySem PySem.Spec PyProof.Rows L2 Evl PF
/-- a target: the items of the slots that it sets, from one value -/
inductive Tg where
  | nm (i : Nat) | tp (is : List Nat)
  | tq (i : Nat) (is : List Nat)   -- i, (a, b)
  | tu (is : List Nat)   -- a list or a tuple
def Tg.vars : Tg → List Nat
  | .nm i => [i]
  | .tp is => is
  | .tq i is => i :: is
  | .tu is => is
def setAll : List Nat → List T → List Sl → Option (List Sl)
  | [], [], τ => some τ
  | i :: is, t :: ts, τ => setAll is ts (τ.set i (.val t))
  | _, _, _ => none
def Tg.put (g : Tg) (t : T) (τ : List Sl) : Option (List Sl) := match g, t with
  | .nm i, t => some (τ.set i (.val t))
  | .tp is, .tup ts => setAll is ts τ
  | .tq i is, .tup [a, .tup ts] => setAll is ts (τ.set i (.val a))
  | .tu is, .tup ts => setAll is ts τ
  | .tu is, .lst ts => setAll is ts τ
  | _, _ => none
def setL : List Nat → Lab → List Lab → List Lab
  | [], _, ls => ls
  | i :: is, l, ls => setL is l (ls.set i l)
def clrs : List Nat → Ows → Ows
  | [], O => O
  | i :: is, O => clrs is (clr O i)
theorem clrs_sub : ∀ {is : List Nat} {O : Ows} {j : Nat} {a : Addr}, clrs is O j = some a → O j = some a
  | [], _, _, _, h => h
  | i :: is, O, j, a, h => by
    have := clrs_sub (is := is) h
    unfold clr at this
    split at this
    · cases this
    · exact this
/-- the term of such a target, its slots being names -/
def gNames (is : List Nat) : TGs := match is with
  | [] => gNil
  | i :: is => gCons (gName i) (gNames is)
def gOrG (g g' : TG) : TG := fun v σ H Q => g v σ H Q ∨ g' v σ H Q
theorem pg_or {X : Cx} {tg : Expr} {g g' : TG} (h : PG X tg g) (h' : PG X tg g') : PG X tg (gOrG g g') := by
  refine ⟨fun pins s σ H v u Q I r hw => ?_⟩
  rcases hw with hw | hw
  · exact h.run pins s σ H v u Q I r hw
  · exact h'.run pins s σ H v u Q I r hw
def tgT (K : PySem.W.Frag) : Tg → TG
  | .nm i => gName i
  | .tp is => gTup K is.length (gNames is)
  | .tq i is => gTup K 2 (gCons (gName i) (gCons (gTup K is.length (gNames is)) gNil))
  | .tu is => gOrG (gTup K is.length (gNames is)) (gUnl K is.length (gNames is))
theorem wipe_set {i : Nat} {x : Option V} {σ : L2.St} : ∀ {ws : List Nat}, i ∈ ws → wipe (σ.set i x) ws = wipe σ ws
  | w :: ws, h => by
    unfold wipe
    by_cases e : i ∈ ws
    · rw [wipe_set e]
    · have ew : i = w := (List.mem_cons.mp h).resolve_right e
      subst ew
      have z : ∀ {us : List Nat} {σ : L2.St}, i ∉ us → wipe (σ.set i x) us = (wipe σ us).set i x := by
        intro us
        induction us with
        | nil => intro σ _; rfl
        | cons u us ih =>
          intro σ hu
          unfold wipe
          rw [ih fun q => hu (List.mem_cons_of_mem _ q), List.set_comm _ _ (fun q => hu (by rw [q]; exact List.mem_cons_self ..))]
      rw [z e, List.set_set]
section
variable {W : Wd} {B : Bd} {ls : List Lab} {τ τ' : List Sl} {pot : Pot} {O : Ows} {σ : L2.St} {H : Hp} {l : Lab}
theorem names_put : ∀ {is : List Nat} {ts : List T} {vs : List V} {ls : List Lab} {τ τ' : List Sl} {O : Ows} {σ : L2.St}, EnvR W B ls τ pot O σ H → (∀ i ∈ is, i < ls.length) → Reps W B.p (gd B O l) H ts vs → setAll is ts τ = some τ' →
    ∀ (Q : L2.St → Hp → Prop), (∀ σ', EnvR W B (setL is l ls) τ' pot (clrs is O) σ' H → (∀ ws, (∀ i ∈ is, i ∈ ws) → wipe σ' ws = wipe σ ws) → Q σ' H) → gNames is vs σ H Q
  | [], [], vs, ls, τ, τ', O, σ, E, _, r, e, Q, q => by
    rw [reps_nil_iff] at r
    cases e
    exact ⟨r, q σ E fun _ _ => rfl⟩
  | [], _ :: _, _, _, _, _, _, _, _, _, _, e, _, _ => nomatch e
  | _ :: _, [], _, _, _, _, _, _, _, _, _, e, _, _ => nomatch e
  | i :: is, t :: ts, vs, ls, τ, τ', O, σ, E, hi, r, e, Q, q => by
    rw [reps_cons_iff] at r
    obtain ⟨v, w, rfl, r1, r2⟩ := r
    have E1 := E.put (hi i (List.mem_cons_self ..)) r1
    exact ⟨v, w, rfl, names_put E1 (fun j hj => by rw [List.length_set]; exact hi j (List.mem_cons_of_mem _ hj)) (r2.sub (gd_clr i l)) e Q fun σ' E' hw => q σ' E' fun ws h => (hw ws fun j hj => h j (List.mem_cons_of_mem _ hj)).trans (wipe_set (h i (List.mem_cons_self ..)))⟩
theorem setAll_len : ∀ {is : List Nat} {ts : List T} {τ τ' : List Sl}, setAll is ts τ = some τ' → ts.length = is.length
  | [], [], _, _, _ => rfl
  | [], _ :: _, _, _, h => nomatch h
  | _ :: _, [], _, _, h => nomatch h
  | i :: is, t :: ts, τ, τ', h => by
    have := setAll_len (is := is) (ts := ts) h
    rw [List.length_cons, List.length_cons, this]
theorem tg_put {g : Tg} {t : T} {v : V} (E : EnvR W B ls τ pot O σ H) (hi : ∀ i ∈ g.vars, i < ls.length) (r : Rep W B.p (gd B O l) H t v) (e : g.put t τ = some τ') (Q : L2.St → Hp → Prop)
    (q : ∀ σ', EnvR W B (setL g.vars l ls) τ' pot (clrs g.vars O) σ' H → (∀ ws, (∀ i ∈ g.vars, i ∈ ws) → wipe σ' ws = wipe σ ws) → Q σ' H) : tgT W.K g v σ H Q := by
  unfold Tg.put at e
  split at e
  · rename_i t i
    cases e
    exact q _ (E.put (hi i (List.mem_cons_self ..)) r) fun ws h => wipe_set (h i (List.mem_cons_self ..))
  · rename_i is ts
    rw [rep_tup_iff] at r
    obtain ⟨a, vs, rfl, _, ha, rs⟩ := r
    exact ⟨a, vs, rfl, st_of ha, by rw [rs.length, setAll_len e], names_put E hi rs e Q q⟩
  · rename_i i is a0 ts
    rw [rep_tup_iff] at r
    obtain ⟨a, vs, rfl, _, ha, rs⟩ := r
    rw [reps_cons_iff] at rs
    obtain ⟨v1, w1, rfl, r1, r2⟩ := rs
    rw [reps_cons_iff] at r2
    obtain ⟨v2, w2, rfl, r3, r4⟩ := r2
    rw [reps_nil_iff] at r4
    subst r4
    rw [rep_tup_iff] at r3
    obtain ⟨b, us, rfl, gb, hb, r5⟩ := r3
    have E1 := E.put (hi i (List.mem_cons_self ..)) r1
    refine ⟨a, _, rfl, st_of ha, rfl, v1, _, rfl, _, _, rfl, ⟨b, us, rfl, st_of hb, by rw [r5.length, setAll_len e], ?_⟩⟩
    exact names_put E1 (fun j hj => by rw [List.length_set]; exact hi j (List.mem_cons_of_mem _ hj)) (r5.sub (gd_clr i l)) e _ fun σ' E' hw => ⟨rfl, q σ' E' fun ws h => (hw ws fun j hj => h j (List.mem_cons_of_mem _ hj)).trans (wipe_set (h i (List.mem_cons_self ..)))⟩
  · rename_i is ts
    rw [rep_tup_iff] at r
    obtain ⟨a, vs, rfl, _, ha, rs⟩ := r
    exact .inl ⟨a, vs, rfl, st_of ha, by rw [rs.length, setAll_len e], names_put E hi rs e Q q⟩
  · rename_i is ts
    rw [rep_lst_iff] at r
    obtain ⟨a, vs, rfl, _, ha, rs⟩ := r
    exact .inr ⟨a, vs, rfl, sq_of ha, by rw [rs.length, setAll_len e], names_put E hi rs e Q q⟩
  · cases e
/-- slots that a comprehension has for itself -/
def isFree : Sl → Bool
  | .no => true
  | .val _ => true
  | _ => false
def wipeT : List Nat → List Sl → Option (List Sl)
  | [], τ => some τ
  | i :: is, τ => match wipeT is τ with
    | some τ1 => (match τ1[i]? with
      | some s => if isFree s = true then some (τ1.set i .no) else none
      | none => none)
    | none => none
theorem EnvR.wipe1 {i : Nat} {s : Sl} (E : EnvR W B ls τ pot O σ H) (h : τ[i]? = some s) (hf : isFree s = true) : EnvR W B ls (τ.set i .no) pot O (σ.set i none) H :=
  { E with
    fin := by rw [List.length_set]; exact E.fin
    l1 := by rw [List.length_set, List.length_set]; exact E.l1
    l2 := by rw [List.length_set]; exact E.l2
    sl := fun j m s' x h1 h2 h3 => by
      by_cases e : j = i
      · subst e
        have hj : j < σ.length := by have := (List.getElem?_eq_some_iff.mp h).1; have := E.l1; omega
        rw [List.getElem?_set_self (by have := E.l1; omega)] at h2
        cases h2
        have z := E.sl j m s _ h1 h (List.getElem?_eq_getElem hj)
        cases s with
        | no => exact z
        | val t => exact z.1
        | own _ => cases hf
        | obj _ _ => cases hf
      · rw [List.getElem?_set_ne (Ne.symm e)] at h2 h3
        exact E.sl j m s' x h1 h2 h3 }
end
theorem env_wipe {W : Wd} {B : Bd} {ls : List Lab} {pot : Pot} {O : Ows} {H : Hp} : ∀ {is : List Nat} {τ τ' : List Sl} {σ : L2.St}, EnvR W B ls τ pot O σ H → wipeT is τ = some τ' → EnvR W B ls τ' pot O (wipe σ is) H
  | [], τ, τ', σ, E, h => by cases h; exact E
  | i :: is, τ, τ', σ, E, h => by
    unfold wipeT at h
    split at h
    · rename_i τ1 e1
      split at h
      · rename_i s e2
        split at h
        · rename_i e3
          cases h
          exact (env_wipe E e1).wipe1 e2 e3
        · cases h
      · cases h
    · cases h
end TL
namespace TL
open PySem PySem.Spec PyProof.Rows L2 Evl PF
def lcGo (g : Tg) (Ft : FB) (Fe : FE) (τ : List Sl) : List T → M (List T)
  | [], pot => some ([], pot)
  | x :: xs, pot => match g.put x τ with
    | none => none
    | some τ1 => match Ft τ1 pot with
      | none => none
      | some (false, p1) => lcGo g Ft Fe τ xs p1
      | some (true, p1) => match Fe τ1 p1 with
        | none => none
        | some (t, p2) => match lcGo g Ft Fe τ xs p2 with
          | none => none
          | some (r, p3) => some (t :: r, p3)
def fLc (FL : FI) (g : Tg) (vs : List Nat) (Ft : FB) (Fe : FE) : FI := fun τ pot => match FL τ pot with
  | some (its, p1) => (match wipeT vs τ with
    | some τw => if its.length ≤ maxLen then lcGo g Ft Fe τw its p1 else none
    | none => none)
  | none => none
def fYes : FB := fun _ pot => some (true, pot)
section
variable {W : Wd} {wi : TI} {te : TE} {tt : TT} {ls : List Lab} {FL : FI} {Ft : FB} {Fe : FE} {l li : Lab} {g : Tg} {vs : List Nat} {st : Bool}
theorem smT_yes : SmT W tYes ls fYes := fun B hB τ pot O σ H E b pot' f Q q => by
  cases f
  exact q H (Nx.refl E.pt)
/-- a new list, that nobody knows, is laid -/
theorem EnvR.lay {B : Bd} {τ : List Sl} {pot : Pot} {O : Ows} {σ : L2.St} {H : Hp} {D : Addr} {o : HO} {n : Nat} (hB : B.Ok) (E : EnvR W B ls τ pot O σ H) (hD : H D = none) (hn : σ.length ≤ n) (hz : ∀ i, n ≤ i → O i = none) :
    EnvR W B ls τ pot (ownAt O n D) σ (upd H D o) := by
  have nx : Nx B.p pot H pot (upd H D o) := nx_new E.pt hD
  have E1 := E.step hB nx
  have h0 : B.H0 D = none := by
    cases q : B.H0 D with
    | none => rfl
    | some o => exact absurd hD (E.dom D (by rw [q]; exact fun y => (nomatch y)))
  exact
    { pt := E1.pt
      non := E1.non
      ow := fun j b h => by
        unfold ownAt at h
        split at h
        · cases h
          exact ⟨by rw [upd_same]; exact fun y => (nomatch y), h0⟩
        · exact E1.ow j b h
      inj := fun j k b h1 h2 => by
        unfold ownAt at h1 h2
        split at h1
        · rename_i e1
          cases h1
          split at h2
          · rename_i e2
            rw [e1, e2]
          · exact absurd hD (E.ow k D h2).1
        · split at h2
          · cases h2
            exact absurd hD (E.ow j D h1).1
          · exact E.inj j k b h1 h2
      fin := ⟨n + 1, by omega, fun i hi => by
        unfold ownAt
        rw [if_neg (by omega)]
        exact hz i (by omega)⟩
      hp := E1.hp
      kp := E1.kp
      dom := E1.dom
      l1 := E1.l1
      l2 := E1.l2
      sl := fun j m s x h1 h2 h3 => by
        have hj := (List.getElem?_eq_some_iff.mp h3).1
        exact SlR.far hB E hD nx (E.sl j m s x h1 h2 h3) (by omega) }
theorem clrs_none : ∀ {is : List Nat} {O : Ows}, (∀ i ∈ is, O i = none) → clrs is O = O
  | [], _, _ => rfl
  | i :: is, O, h => by
    have e : clr O i = O := by
      funext j
      unfold clr
      split
      · rename_i e
        rw [e, h i (List.mem_cons_self ..)]
      · rfl
    show clrs is (clr O i) = O
    rw [e]
    exact clrs_none fun j hj => h j (List.mem_cons_of_mem _ hj)
theorem wipeT_no : ∀ {is : List Nat} {τ τ' : List Sl}, wipeT is τ = some τ' → ∀ {i : Nat}, i ∈ is → τ'[i]? = some .no
  | [], _, _, _, _, hi => by cases hi
  | j :: is, τ, τ', h, i, hi => by
    unfold wipeT at h
    split at h
    · rename_i τ1 e1
      split at h
      · rename_i s e2
        split at h
        · cases h
          by_cases e : i = j
          · subst e
            rw [List.getElem?_set_self (List.getElem?_eq_some_iff.mp e2).1]
          · rw [List.getElem?_set_ne (Ne.symm e)]
            exact wipeT_no e1 ((List.mem_cons.mp hi).resolve_left e)
        · cases h
      · cases h
    · cases h
theorem smF_lc (hit : SmIt W wi ls FL li st) (hli : li.2 = false) (hc : cln ls = true) (hg : ∀ i ∈ g.vars, i < ls.length) (hw : ∀ i ∈ g.vars, i ∈ vs) (ht : SmT W tt (setL g.vars li ls) Ft) (he : Sm W te (setL g.vars li ls) Fe l) (hl : l.2 = false) :
    SmF W (tLc wi (tgT W.K g) tt te vs) ls (fLc FL g vs Ft Fe) l := fun B hB τ pot O σ H E t pot' f Q q => by
  unfold fLc at f
  split at f
  case h_2 => cases f
  rename_i its p1 e1
  split at f
  case h_2 => cases f
  rename_i τw ew
  split at f
  case isFalse => cases f
  rename_i hlen
  refine hit B hB τ pot O σ H E its p1 e1 _ fun J H1 n1 it D hD => ?_
  have E1 := E.step hB n1
  have Ew := env_wipe E1 ew
  obtain ⟨n, hn, hz⟩ := Ew.fin
  have E0 := Ew.lay (o := .lst []) hB hD hn hz
  have hOn : ownAt O n D n = some D := if_pos rfl
  have subO : ∀ (lb : Lab) k b, lb.2 = false → gd B O lb k b → H1 b ≠ none → gd B (ownAt O n D) lb k b := fun lb k b hlb z hb => ⟨z.1, .inr fun i e => by
    unfold ownAt at e
    split at e
    · cases e; exact hb hD
    · exact z.2.elim (fun y => by have y := y.1; rw [hlb] at y; cases y) (fun y => y i e)⟩
  have npx : ∀ k b, gd B O li k b → ¬ Xc B O st b := fun k b z y => by
    rcases y with y | ⟨_, i, y⟩
    · exact (gd_np hB z).elim y.1 fun n => n y.2
    · exact gd_cln hli y z
  let Wv : Nat → Nat → Hp → Prop := fun i m H => m = its.length - i ∧ i ≤ its.length ∧ ∃ pi done acc rest, Nx B.p p1 H1 pi H ∧ EnvR W B ls τw pi (ownAt O n D) (wipe σ vs) H ∧ H D = some (.lst acc) ∧ Reps W B.p (gd B (ownAt O n D) l) H done acc ∧ done.length ≤ i ∧
    lcGo g Ft Fe τw (its.drop i) pi = some (rest, pot') ∧ done ++ rest = t
  refine ⟨Wv, ⟨its.length, by simp, Nat.zero_le _, p1, [], [], t, nx_new n1.at_ hD, E0, upd_same, reps_nil, Nat.le_refl _, by simpa using f, rfl⟩, ?_⟩
  rintro i m H2 ⟨rfl, hi, pi, done, acc, rest, n2, E2, hacc, racc, hdl, hgo, hdr⟩
  have kx : KeptX (Xc B O st) H1 H2 := fun b o h hx => n2.kept b o h (xc_kept E1.non hx)
  have itr := it H2 (gd B (ownAt O n D) li) kx (fun k b z hb => subO li k b hli z hb) (fun k b hb => (E2.ct hB li).nw k b hb) npx
  by_cases hlt : i < its.length
  · right
    obtain ⟨go, yl⟩ := itr.1 i its[i] (List.getElem?_eq_getElem hlt)
    refine ⟨go, fun H' => ∃ m', m' < its.length - i ∧ Wv (i + 1) m' H', fun _ z => z, fun x H3 y => ?_⟩
    obtain ⟨ex3, r3⟩ := yl x H3 y
    have n3 : Nx B.p pi H2 pi H3 := Nx.of E2.pt ex3
    have E3 := E2.step hB n3
    rw [List.drop_eq_getElem_cons hlt] at hgo
    unfold lcGo at hgo
    split at hgo
    · cases hgo
    · rename_i τ1 hput
      refine tg_put E3 hg r3 hput _ fun σ' E4 hwp => ⟨(hwp vs hw).trans (by
        have : ∀ (us : List Nat) (σ : L2.St), wipe (wipe σ us) us = wipe σ us := by
          intro us
          induction us with
          | nil => intro σ; rfl
          | cons u us ih =>
            intro σ
            show (wipe ((wipe σ us).set u none) us).set u none = (wipe σ us).set u none
            by_cases hu : u ∈ us
            · rw [wipe_set hu, ih]
            · have z : ∀ {ws : List Nat} {σ : L2.St}, u ∉ ws → wipe (σ.set u none) ws = (wipe σ ws).set u none := by
                intro ws
                induction ws with
                | nil => intro σ _; rfl
                | cons w ws ih2 =>
                  intro σ hw2
                  show (wipe (σ.set u none) ws).set w none = ((wipe σ ws).set w none).set u none
                  rw [ih2 fun q => hw2 (List.mem_cons_of_mem _ q), List.set_comm _ _ (fun q => hw2 (by rw [q]; exact List.mem_cons_self ..))]
              rw [z hu, ih, List.set_set]
        exact this vs σ), ?_⟩
      -- the slots of the target are none's
      split at hgo
      · cases hgo
      · rename_i p2 ht2
        refine ht B hB τ1 pi _ σ' H3 E4 _ _ ht2 _ fun H4 n4 => ?_
        rw [if_neg Bool.false_ne_true]
        have E5 := E2.step hB (n3.trans n4)
        refine ⟨its.length - (i + 1), by omega, rfl, hlt, p2, done, acc, rest, (n2.trans n3).trans n4, E5, (n3.trans n4).kept D _ hacc (E2.pne hOn), racc.nx (E2.ct hB l) (n3.trans n4), by omega, hgo, hdr⟩
      · rename_i p2 ht2
        refine ht B hB τ1 pi _ σ' H3 E4 _ _ ht2 _ fun H4 n4 => ?_
        rw [if_pos rfl]
        have E4' := E4.step hB n4
        split at hgo
        · cases hgo
        · rename_i u p3 he2
          split at hgo
          · cases hgo
          · rename_i r p4 hgo2
            cases hgo
            refine he B hB τ1 p2 _ σ' H4 E4' _ _ he2 _ fun y H5 n5 ry => ?_
            have nn := (n3.trans n4).trans n5
            have E5 := E2.step hB nn
            have hD5 : H5 D = some (.lst acc) := nn.kept D _ hacc (E2.pne hOn)
            have la := racc.length
            refine ⟨acc, hD5, sz_lt (by have : maxLen = 40000 := rfl; omega), its.length - (i + 1), by omega, rfl, hlt, p3, done ++ [u], acc ++ [y], r, ?_, ?_, upd_same, ?_, by rw [List.length_append]; show done.length + 1 ≤ _; omega, hgo2, by rw [← hdr]; simp⟩
            · have n6 := (n2.trans nn)
              refine ⟨fun b o hb z => ?_, ?_, n6.non, fun b hb => ?_⟩
              · rw [upd_ne fun e => by rw [e, hD] at hb; cases hb]
                exact n6.kept b o hb z
              · have z := n6.at_
                have hpD := E5.pne hOn
                cases p3 with
                | none => trivial
                | some c =>
                  obtain ⟨c1, c2⟩ := c
                  show upd H5 D _ B.p = _
                  rw [upd_ne (Ne.symm (hpD.resolve_left fun z => nomatch z))]
                  exact z
              · by_cases e : b = D
                · rw [e, upd_same]; exact fun y => (nomatch y)
                · rw [upd_ne e]; exact n6.dom b hb
            · have E6 := E5.mut (o' := .lst (acc ++ [y])) (s' := .no) hB hc hOn (fun l x h1 h2 => by
                have := (List.getElem?_eq_some_iff.mp h2).1
                omega)
              have : τw.set n Sl.no = τw := List.set_eq_of_length_le (by rw [E5.l1]; exact hn)
              rw [this] at E6
              exact E6
            · have ry' : Rep W B.p (gd B (ownAt O n D) l) H5 u y := by
                have e0 : clrs g.vars (ownAt O n D) = ownAt O n D := clrs_none fun j hj => by
                  have hjl := hg j hj
                  have e3 := wipeT_no ew (hw j hj)
                  have hjs : j < (wipe σ vs).length := by rw [← E2.l2]; exact hjl
                  exact E2.sl j _ _ _ (List.getElem?_eq_getElem hjl) e3 (List.getElem?_eq_getElem hjs)
                rw [e0] at ry
                exact ry
              exact ((racc.nx (E2.ct hB l) nn).append (reps_cons ry' reps_nil)).mut hl hOn
  · have e : i = its.length := by omega
    subst e
    left
    refine ⟨itr.2, ?_⟩
    rw [List.drop_length] at hgo
    unfold lcGo at hgo
    cases hgo
    rw [List.append_nil] at hdr
    subst hdr
    have nx2 := n1.trans n2
    refine q D acc H2 nx2 (n1.new hD) hacc (racc.sub fun k b z => ⟨⟨z.1, ?_⟩, fun e => ?_⟩)
    · rcases z.2 with y | y
      · exact .inl y
      · refine .inr fun j e => y j ?_
        unfold ownAt
        split
        · rename_i e2
          rw [e2] at e
          rw [hz n (Nat.le_refl _)] at e
          cases e
        · exact e
    · subst e
      exact gd_cln hl hOn z
def forGo (g : Tg) (Fb : FS) : List T → FS
  | [], τ, pot => some (.nx τ, pot)
  | x :: xs, τ, pot => match g.put x τ with
    | none => none
    | some τ1 => match Fb τ1 pot with
      | none => none
      | some (.rt t, p1) => some (.rt t, p1)
      | some (.nx τ2, p1) => forGo g Fb xs τ2 p1
def fFor (FL : FI) (g : Tg) (Fb : FS) : FS := fun τ pot => match FL τ pot with
  | some (its, p1) => forGo g Fb its τ p1
  | none => none
variable {R : RR_} {tb : TS} {Fb : FS}
theorem smS_for (hit : SmIt W wi ls FL li true) (hli : li.2 = false) (hg : ∀ i ∈ g.vars, i < ls.length) (hb : SmS W R tb (setL g.vars li ls) Fb ls) :
    SmS W R (tFor wi (tgT W.K g) tb) ls (fFor FL g Fb) ls := fun B hB τ pot O σ H E o pot' f D d => by
  unfold fFor at f
  split at f
  case h_2 => cases f
  rename_i its p1 e1
  refine hit B hB τ pot O σ H E its p1 e1 _ fun J H1 n1 it => ?_
  have E1 := E.step hB n1
  have npx : ∀ k b, gd B O li k b → ¬ Xc B O true b := fun k b z y => by
    rcases y with y | ⟨_, i, y⟩
    · exact (gd_np hB z).elim y.1 fun n => n y.2
    · exact gd_cln hli y z
  let Wv : Nat → Nat → L2.St → Hp → Prop := fun i m σ2 H2 => m = its.length - i ∧ i ≤ its.length ∧ ∃ τ2 p2 O2, Stp B.p p1 O H1 p2 O2 H2 ∧ EnvR W B ls τ2 p2 O2 σ2 H2 ∧ forGo g Fb (its.drop i) τ2 p2 = some (o, pot')
  refine ⟨Wv, ⟨its.length, by simp, Nat.zero_le _, τ, p1, O, .refl, E1, by simpa using f⟩, ?_⟩
  rintro i m σ2 H2 ⟨rfl, hi, τ2, p2, O2, s2, E2, hgo⟩
  have kx : KeptX (Xc B O true) H1 H2 := fun b o h hx => s2.kept b o h (xc_kept E1.non hx) fun j e => hx (.inr ⟨rfl, j, e⟩)
  have own2 : ∀ k b, gd B O li k b → H1 b ≠ none → gd B O2 li k b := fun k b z hb => ⟨z.1, .inr fun j e => by
    rcases s2.own j b e with ⟨j2, y⟩ | y
    · exact gd_cln hli y z
    · exact hb y⟩
  have itr := it H2 (gd B O2 li) kx own2 (fun k b hb => (E2.ct hB li).nw k b hb) npx
  by_cases hlt : i < its.length
  · right
    obtain ⟨go, yl⟩ := itr.1 i its[i] (List.getElem?_eq_getElem hlt)
    refine ⟨go, fun σ' H' => ∃ m', m' < its.length - i ∧ Wv (i + 1) m' σ' H', fun _ _ z => z, fun x H3 y => ?_⟩
    obtain ⟨ex3, r3⟩ := yl x H3 y
    have n3 : Nx B.p p2 H2 p2 H3 := Nx.of E2.pt ex3
    have E3 := E2.step hB n3
    rw [List.drop_eq_getElem_cons hlt] at hgo
    unfold forGo at hgo
    split at hgo
    · cases hgo
    · rename_i τ1 hput
      refine tg_put E3 hg r3 hput _ fun σ' E4 _ => ?_
      have s3 : Stp B.p p1 O H1 p2 (clrs g.vars O2) H3 := by
        have z := s2.trans (Stp.of n3)
        exact { z with own := fun j b h => z.own j b (clrs_sub h) }
      split at hgo
      · cases hgo
      · rename_i t p3 hb3
        cases hgo
        exact hb B hB τ1 p2 _ σ' H3 E4 _ _ hb3 _ d
      · rename_i τ3 p3 hb3
        refine hb B hB τ1 p2 _ σ' H3 E4 _ _ hb3 _ ?_
        intro O' σ'' H' s4 E5
        exact ⟨its.length - (i + 1), by omega, rfl, hlt, τ3, p3, O', s3.trans s4, E5, hgo⟩
  · have e : i = its.length := by omega
    subst e
    left
    refine ⟨itr.2, ?_⟩
    rw [List.drop_length] at hgo
    unfold forGo at hgo
    cases hgo
    exact d O2 σ2 H2 ((Stp.of n1).trans s2) E2
end
end TL
namespace TL
open PySem PySem.Spec PyProof.Rows L2 Evl PF
def gI (c : Int → Int → Bool) (g : Int → Int → T) : T → T → M T := fun a b pot => match a, b with
  | .int i, .int j => if c i j = true then some (g i j, pot) else none
  | _, _ => none
section
variable {W : Wd}
theorem opS_I {C : Int → Int → Prop} {c : Int → Int → Bool} {gv : Int → Int → V} {gt : Int → Int → T} (hc : ∀ i j, c i j = true → C i j) (hg : ∀ i j (p : Addr) (G : GD) (H : Hp), Rep W p G H (gt i j) (gv i j)) : OpS W (rI C gv) (gI c gt) :=
  fun p pot G1 G2 H ct x y a b ra rb t pot' f Q q => by
    unfold gI at f
    split at f
    · rename_i i j
      split at f
      · rename_i h
        cases f
        rw [rep_int_iff] at ra rb
        subst ra rb
        exact ⟨i, j, rfl, rfl, hc i j h, q _ H (Nx.refl ct.pt) (hg i j _ _ _)⟩
      · cases f
    · cases f
theorem opS_I0 {gv : Int → Int → V} {gt : Int → Int → T} (hg : ∀ i j (p : Addr) (G : GD) (H : Hp), Rep W p G H (gt i j) (gv i j)) : OpS W (rI0 gv) (gI (fun _ _ => true) gt) :=
  fun p pot G1 G2 H ct x y a b ra rb t pot' f Q q => by
    unfold gI at f
    split at f
    · rename_i i j
      cases f
      rw [rep_int_iff] at ra rb
      subst ra rb
      exact ⟨i, j, rfl, rfl, q _ H (Nx.refl ct.pt) (hg i j _ _ _)⟩
    · cases f
theorem atS_I {c : Int → Int → Bool} {gt : Int → Int → T} (h : ∀ i j, isAtom (gt i j) = true) : AtS (gI c gt) := fun a b pot t pot' f => by
  unfold gI at f
  split at f
  · split at f
    · cases f; exact h _ _
    · cases f
  · cases f
abbrev gAdd : T → T → M T := gI (fun _ _ => true) fun i j => .int (i + j)
abbrev gSub : T → T → M T := gI (fun _ _ => true) fun i j => .int (i - j)
abbrev gLt : T → T → M T := gI (fun _ _ => true) fun i j => .bl (decide (i < j))
abbrev gLe : T → T → M T := gI (fun _ _ => true) fun i j => .bl (decide (i ≤ j))
abbrev gGt : T → T → M T := gI (fun _ _ => true) fun i j => .bl (decide (j < i))
abbrev gGe : T → T → M T := gI (fun _ _ => true) fun i j => .bl (decide (j ≤ i))
theorem opS_add : OpS W (rI0 fun i j => .int (i + j)) gAdd := opS_I0 fun _ _ _ _ _ => rep_int
theorem opS_sub : OpS W (rI0 fun i j => .int (i - j)) gSub := opS_I0 fun _ _ _ _ _ => rep_int
theorem opS_lt : OpS W (rI0 fun i j => .bl (decide (i < j))) gLt := opS_I0 fun _ _ _ _ _ => rep_bl
theorem opS_le : OpS W (rI0 fun i j => .bl (decide (i ≤ j))) gLe := opS_I0 fun _ _ _ _ _ => rep_bl
theorem opS_gt : OpS W (rI0 fun i j => .bl (decide (j < i))) gGt := opS_I0 fun _ _ _ _ _ => rep_bl
theorem opS_ge : OpS W (rI0 fun i j => .bl (decide (j ≤ i))) gGe := opS_I0 fun _ _ _ _ _ => rep_bl
/-- a * b of numbers of at most so many bits -/
def small (n : Nat) (i : Int) : Bool := decide (i.natAbs < 2 ^ n)
end
def toV : T → V
  | .bl b => .bl b
  | .int i => .int i
  | .str s => .str s
  | _ => .non
theorem rep_toV {W : Wd} {p : Addr} {G : GD} {H : Hp} {t : T} {v : V} (h : isAtom t = true) (r : Rep W p G H t v) : v = toV t := by
  cases t with
  | non => rw [rep_non_iff] at r; exact r
  | bl b => rw [rep_bl_iff] at r; exact r
  | int i => rw [rep_int_iff] at r; exact r
  | str s => rw [rep_str_iff] at r; exact r
  | lst _ => cases h
  | tup _ => cases h
  | ins _ _ => cases h
  | pot => cases h
  | dct _ => cases h
  | cls _ => cases h
  | rng _ _ => cases h
def gEqA (neg : Bool) : T → T → M T := fun a b pot => if isAtom a = true ∧ isAtom b = true ∧ scal (toV a) (toV b) = true then some (.bl (if neg then !decide (toV a = toV b) else decide (toV a = toV b)), pot) else none
section
variable {W : Wd}
theorem opS_eqA : OpS W rEq (gEqA false) := fun p pot G1 G2 H ct x y a b ra rb t pot' f Q q => by
  unfold gEqA at f
  split at f
  · rename_i h
    cases f
    rw [rep_toV h.1 ra, rep_toV h.2.1 rb]
    exact ⟨h.2.2, q _ H (Nx.refl ct.pt) rep_bl⟩
  · cases f
theorem opS_neA : OpS W rNe (gEqA true) := fun p pot G1 G2 H ct x y a b ra rb t pot' f Q q => by
  unfold gEqA at f
  split at f
  · rename_i h
    cases f
    rw [rep_toV h.1 ra, rep_toV h.2.1 rb]
    exact ⟨h.2.2, q _ H (Nx.refl ct.pt) rep_bl⟩
  · cases f
theorem atS_eqA {n : Bool} : AtS (gEqA n) := fun a b pot t pot' f => by
  unfold gEqA at f
  split at f
  · cases f; rfl
  · cases f
mutual
def toD : T → Option PyData
  | .non => some .none
  | .bl b => some (.bool b)
  | .int i => some (.int i)
  | .str s => some (.str s)
  | .lst l => (toDs l).map .list
  | .tup l => (toDs l).map .tuple
  | .ins _ _ => none
  | .pot => none
  | .dct _ => none
  | .cls _ => none
  | .rng _ _ => none
def toDs : List T → Option (List PyData)
  | [] => some []
  | t :: ts => match toD t, toDs ts with
    | some d, some ds => some (d :: ds)
    | _, _ => none
end
mutual
theorem dp_of {p : Addr} {G : GD} {H : Hp} : ∀ (t : T) (v : V) (d : PyData), Rep W p G H t v → toD t = some d → Dp W.K H v d
  | .non, v, d, r, h => by rw [rep_non_iff] at r; rw [toD] at h; cases h; subst r; exact .non
  | .bl b, v, d, r, h => by rw [rep_bl_iff] at r; rw [toD] at h; cases h; subst r; exact .bl b
  | .int i, v, d, r, h => by rw [rep_int_iff] at r; rw [toD] at h; cases h; subst r; exact .int i
  | .str s, v, d, r, h => by rw [rep_str_iff] at r; rw [toD] at h; cases h; subst r; exact .str s
  | .ins _ _, v, d, r, h => by rw [toD] at h; cases h
  | .pot, v, d, r, h => by rw [toD] at h; cases h
  | .dct _, v, d, r, h => by rw [toD] at h; cases h
  | .cls _, v, d, r, h => by rw [toD] at h; cases h
  | .rng _ _, v, d, r, h => by rw [toD] at h; cases h
  | .lst l, v, d, r, h => by
    rw [toD] at h
    rw [rep_lst_iff] at r
    obtain ⟨a, vs, rfl, _, ha, rs⟩ := r
    cases e : toDs l with
    | none => rw [e] at h; cases h
    | some ds =>
      rw [e] at h
      cases h
      exact .lst (sq_of ha) (dps_of l vs ds rs e)
  | .tup l, v, d, r, h => by
    rw [toD] at h
    rw [rep_tup_iff] at r
    obtain ⟨a, vs, rfl, _, ha, rs⟩ := r
    cases e : toDs l with
    | none => rw [e] at h; cases h
    | some ds =>
      rw [e] at h
      cases h
      exact .tup (st_of ha) (dps_of l vs ds rs e)
theorem dps_of {p : Addr} {G : GD} {H : Hp} : ∀ (ts : List T) (vs : List V) (ds : List PyData), Reps W p G H ts vs → toDs ts = some ds → DpAll W.K H vs ds
  | [], vs, ds, r, h => by
    rw [reps_nil_iff] at r
    rw [toDs] at h
    cases h
    subst r
    exact .nil
  | t :: ts, vs, ds, r, h => by
    rw [reps_cons_iff] at r
    obtain ⟨v, w, rfl, r1, r2⟩ := r
    rw [toDs] at h
    split at h
    · rename_i d ds' e1 e2
      cases h
      exact .cons (dp_of t v d r1 e1) (dps_of ts w ds' r2 e2)
    · cases h
end
def gEqD (neg : Bool) : T → T → M T := fun a b pot => match toD a, toD b with
  | some d, some e => if SeqAt.shaped d = true ∧ SeqAt.shaped e = true then some (.bl (if neg then !PyData.eqv d e else PyData.eqv d e), pot) else none
  | _, _ => none
theorem opS_eqD : OpS W (rEqD W.K) (gEqD false) := fun p pot G1 G2 H ct x y a b ra rb t pot' f Q q => by
  unfold gEqD at f
  split at f
  · rename_i d e h1 h2
    split at f
    · rename_i h
      cases f
      exact ⟨d, e, dp_of a x d ra h1, dp_of b y e rb h2, h.1, h.2, q _ H (Nx.refl ct.pt) rep_bl⟩
    · cases f
  · cases f
theorem opS_neD : OpS W (rNeD W.K) (gEqD true) := fun p pot G1 G2 H ct x y a b ra rb t pot' f Q q => by
  unfold gEqD at f
  split at f
  · rename_i d e h1 h2
    split at f
    · rename_i h
      cases f
      exact ⟨d, e, dp_of a x d ra h1, dp_of b y e rb h2, h.1, h.2, q _ H (Nx.refl ct.pt) rep_bl⟩
    · cases f
  · cases f
theorem atS_eqD {n : Bool} : AtS (gEqD n) := fun a b pot t pot' f => by
  unfold gEqD at f
  split at f
  · split at f
    · cases f; rfl
    · cases f
  · cases f
end
/-- one rule, then another -/
def gOr (g g' : T → T → M T) : T → T → M T := fun a b pot => match g a b pot with
  | some z => some z
  | none => g' a b pot
def rOr2 (r r' : R2) : R2 := fun x y H Q => r x y H Q ∨ r' x y H Q
theorem OpS.or2 {W : Wd} {r r' : R2} {g g' : T → T → M T} (h : OpS W r g) (h' : OpS W r' g') : OpS W (rOr2 r r') (gOr g g') := OpS.or h h'
theorem opR_or2 {X : Cx} {f : Value → Value → Sem Value} {r r' : R2} (h : OpR X f r) (h' : OpR X f r') : OpR X f (rOr2 r r') := opR_or h h'
theorem AtS.or2 {g g' : T → T → M T} (h : AtS g) (h' : AtS g') : AtS (gOr g g') := fun a b pot t pot' f => by
  unfold gOr at f
  split at f
  · rename_i z e
    cases f
    exact h a b pot _ _ e
  · exact h' a b pot _ _ f
section
variable {W : Wd} {te ta tb : TE} {tx : TA} {ls ms : List Lab} {F Fa Fb : FE} {FL : FI} {l m : Lab}
theorem seqq_sq {K : PySem.W.Frag} {H : Hp} {a : Addr} {k : Bool} {vs : List V} (h : Seqq H a k vs) : SqL K H a vs ∨ SqT K H a vs := by
  unfold Seqq at h
  cases k with
  | true => exact .inl (sq_of h)
  | false => exact .inr (st_of h)
def seqT : T → Option (Bool × List T)
  | .lst l => some (true, l)
  | .tup l => some (false, l)
  | _ => none
theorem seqT_mk {t : T} {k : Bool} {l : List T} (h : seqT t = some (k, l)) : t = mkSeq k l := by
  cases t <;> simp [seqT] at h
  · obtain ⟨rfl, rfl⟩ := h; rfl
  · obtain ⟨rfl, rfl⟩ := h; rfl
/-- x[i] -/
def fIx (Fa Fb : FE) : FE := fun τ pot => match Fa τ pot with
  | some (a, p1) => (match seqT a with
    | some (_, us) => (match Fb τ p1 with
      | some (.int i, p2) => (match atI us i with
        | some t => some (t, p2)
        | none => none)
      | _ => none)
    | none => none)
  | none => none
theorem atI_reps {p : Addr} {G : GD} {H : Hp} {us : List T} {vs : List V} {i : Int} {t : T} (r : Reps W p G H us vs) (h : atI us i = some t) : ∃ v, atI vs i = some v ∧ Rep W p G H t v := by
  unfold atI at h ⊢
  rw [r.length]
  cases e : ixN us.length i with
  | none => rw [e] at h; cases h
  | some j =>
    rw [e] at h
    exact r.get h
theorem sm_ix (h : SmI W ta ls Fa l) (hb : Sm W tb ls Fb ltop) : Sm W (tOp (rIx W.K) ta tb) ls (fIx Fa Fb) l := fun B hB τ pot O σ H E t pot' f Q q => by
  unfold fIx at f
  split at f
  case h_2 => cases f
  rename_i a p1 e1
  split at f
  case h_2 => cases f
  rename_i k us e2
  split at f
  case h_2 => cases f
  rename_i i p2 e3
  split at f
  case h_2 => cases f
  rename_i t' e4
  cases f
  rw [seqT_mk e2] at e1
  refine h B hB τ pot O σ H E k us p1 e1 _ fun ad vs H1 n1 hp hs r => ?_
  have E1 := E.step hB n1
  refine hb B hB τ p1 O σ H1 E1 _ _ e3 _ fun y H2 n2 ry => ?_
  rw [rep_int_iff] at ry
  subst ry
  have r2 := r.nx (E1.ct hB l) n2
  obtain ⟨v, hv, rv⟩ := atI_reps r2 e4
  have fin := q v H2 (n1.trans n2) rv
  unfold Seqq at hs
  cases k with
  | true => exact .inl ⟨ad, vs, i, v, rfl, rfl, sq_of (n2.kept ad _ hs (hp.imp_left E1.non.mp)), hv, fin⟩
  | false => exact .inr (.inl ⟨ad, vs, i, v, rfl, rfl, st_of (n2.kept ad _ hs (hp.imp_left E1.non.mp)), hv, fin⟩)
/-- a built-in of one sequence -/
def fSq1 (g : Bool → List T → Option T) (F : FE) : FE := fun τ pot => match F τ pot with
  | some (a, p1) => (match seqT a with
    | some (k, us) => (match g k us with
      | some t => some (t, p1)
      | none => none)
    | none => none)
  | none => none
def SqS (W : Wd) (r : List V → Hp → VK → Prop) (g : Bool → List T → Option T) : Prop := ∀ p (G : GD) (H : Hp) a k us vs, Seqq H a k vs → Reps W p G H us vs → ∀ t, g k us = some t → isAtom t = true ∧ ∀ Q : VK, Q (toV t) H → r [.ref a] H Q
theorem sm_sq1 {r : List V → Hp → VK → Prop} {g : Bool → List T → Option T} (hr : SqS W r g) (h : SmI W te ls F ltop) : Sm W (tCB r (tCons te tNil)) ls (fSq1 g F) l := fun B hB τ pot O σ H E t pot' f Q q => by
  unfold fSq1 at f
  split at f
  case h_2 => cases f
  rename_i a p1 e1
  split at f
  case h_2 => cases f
  rename_i k us e2
  split at f
  case h_2 => cases f
  rename_i t' e3
  cases f
  rw [seqT_mk e2] at e1
  refine h B hB τ pot O σ H E k us _ e1 _ fun ad vs H1 n1 hp hs r => ?_
  obtain ⟨at_, k⟩ := hr B.p _ H1 ad k us vs hs r t e3
  refine k Q (q _ H1 n1 ?_)
  cases t with
  | non => exact rep_non
  | bl b => exact rep_bl
  | int i => exact rep_int
  | str s => exact rep_str
  | lst _ => cases at_
  | tup _ => cases at_
  | ins _ _ => cases at_
  | pot => cases at_
  | dct _ => cases at_
  | cls _ => cases at_
  | rng _ _ => cases at_
def rLen (K : PySem.W.Frag) : List V → Hp → VK → Prop := fun xs H Q => ∃ p ys, xs = [.ref p] ∧ (SqL K H p ys ∨ SqT K H p ys) ∧ Q (.int ys.length) H
def gLen : Bool → List T → Option T := fun _ us => some (.int us.length)
theorem sqS_len : SqS W (rLen W.K) gLen := fun p G H a k us vs hs r t e => by
  cases e
  refine ⟨rfl, fun Q q => ⟨a, vs, rfl, seqq_sq hs, ?_⟩⟩
  rw [r.length]
  exact q
def blOf : T → Option Bool
  | .bl b => some b
  | _ => none
def intOf : T → Option Int
  | .int i => some i
  | _ => none
def allM {α : Type} (f : T → Option α) : List T → Option (List α)
  | [] => some []
  | t :: ts => match f t, allM f ts with
    | some a, some as => some (a :: as)
    | _, _ => none
theorem reps_bl {p : Addr} {G : GD} {H : Hp} : ∀ {us : List T} {vs : List V} {bs : List Bool}, Reps W p G H us vs → allM blOf us = some bs → vs = bs.map V.bl
  | [], vs, bs, r, h => by rw [reps_nil_iff] at r; cases h; exact r
  | t :: us, vs, bs, r, h => by
    rw [reps_cons_iff] at r
    obtain ⟨v, w, rfl, r1, r2⟩ := r
    unfold allM at h
    split at h
    · rename_i a as e1 e2
      cases h
      unfold blOf at e1
      split at e1
      · cases e1
        rw [rep_bl_iff] at r1
        rw [r1, reps_bl r2 e2]
        rfl
      · cases e1
    · cases h
theorem reps_int {p : Addr} {G : GD} {H : Hp} : ∀ {us : List T} {vs : List V} {bs : List Int}, Reps W p G H us vs → allM intOf us = some bs → vs = bs.map V.int
  | [], vs, bs, r, h => by rw [reps_nil_iff] at r; cases h; exact r
  | t :: us, vs, bs, r, h => by
    rw [reps_cons_iff] at r
    obtain ⟨v, w, rfl, r1, r2⟩ := r
    unfold allM at h
    split at h
    · rename_i a as e1 e2
      cases h
      unfold intOf at e1
      split at e1
      · cases e1
        rw [rep_int_iff] at r1
        rw [r1, reps_int r2 e2]
        rfl
      · cases e1
    · cases h
def gAll : Bool → List T → Option T := fun k us => if k = true then (allM blOf us).map fun bs => .bl (bs.all id) else none
theorem sqS_all : SqS W (rAll W.K) gAll := fun p G H a k us vs hs r t e => by
  unfold gAll at e
  split at e
  · rename_i hk
    subst hk
    cases e2 : allM blOf us with
    | none => rw [e2] at e; cases e
    | some bs =>
      rw [e2] at e
      cases e
      refine ⟨rfl, fun Q q => ⟨a, bs, rfl, ?_, q⟩⟩
      rw [← reps_bl r e2]
      exact sq_of hs
  · cases e
/-- list(x): a new list of the same items -/
def fSeq2 (F : FE) : FI := fun τ pot => match F τ pot with
  | some (a, p1) => (match seqT a with
    | some (_, us) => if us.length ≤ maxLen then some (us, p1) else none
    | none => none)
  | none => none
def rListOf (K : PySem.W.Frag) : List V → Hp → VK → Prop := fun xs H Q => ∃ p ys, xs = [.ref p] ∧ (SqL K H p ys ∨ SqT K H p ys) ∧ ∀ l, H l = none → Q (.ref l) (upd H l (.lst ys))
theorem smF_list (h : SmI W te ls F l) : SmF W (tCB (rListOf W.K) (tCons te tNil)) ls (fSeq2 F) l := fun B hB τ pot O σ H E t pot' f Q q => by
  unfold fSeq2 at f
  split at f
  case h_2 => cases f
  rename_i a p1 e1
  split at f
  case h_2 => cases f
  rename_i k us e2
  split at f
  case isFalse => cases f
  cases f
  rw [seqT_mk e2] at e1
  refine h B hB τ pot O σ H E k _ _ e1 _ fun ad vs H1 n1 hp hs r => ⟨ad, vs, rfl, seqq_sq hs, fun b hb => ?_⟩
  exact q b vs _ (n1.trans (nx_new n1.at_ hb)) (n1.new hb) upd_same (reps_new r hb)
/-- tuple(list) -/
def fTupOf (F : FE) : FE := fun τ pot => match F τ pot with
  | some (.lst us, p1) => some (.tup us, p1)
  | _ => none
def rTupOf (K : PySem.W.Frag) : List V → Hp → VK → Prop := fun xs H Q => ∃ p ys, xs = [.ref p] ∧ ((SqL K H p ys ∧ ∀ l, H l = none → Q (.ref l) (upd H l (.tup ys))) ∨ (SqT K H p ys ∧ Q (.ref p) H))
theorem sm_tupOf (h : SmI W te ls F l) : Sm W (tCB (rTupOf W.K) (tCons te tNil)) ls (fTupOf F) l := fun B hB τ pot O σ H E t pot' f Q q => by
  unfold fTupOf at f
  split at f
  · rename_i us p1 e1
    cases f
    refine h B hB τ pot O σ H E true us _ e1 _ fun ad vs H1 n1 hp hs r => ⟨ad, vs, rfl, .inl ⟨sq_of hs, fun b hb => ?_⟩⟩
    refine q _ _ (n1.trans (nx_new n1.at_ hb)) ?_
    rw [rep_tup_iff]
    exact ⟨b, vs, rfl, gd_new hB E (n1.new hb) l false, upd_same, (reps_new r hb).sub fun _ _ z => z.1⟩
  · cases f
/-- lists joined -/
def fCat (F G : FE) : FI := fun τ pot => match F τ pot with
  | some (.lst us, p1) => (match G τ p1 with
    | some (.lst ws, p2) => if us.length + ws.length ≤ maxLen then some (us ++ ws, p2) else none
    | _ => none)
  | _ => none
/-- list * int -/
def fRepL (F G : FE) : FI := fun τ pot => match F τ pot with
  | some (.lst us, p1) => (match G τ p1 with
    | some (.int k, p2) => if -(2 ^ 62) ≤ k ∧ k < 2 ^ 62 ∧ us.length * k.toNat ≤ maxLen then some ((List.replicate k.toNat us).flatten, p2) else none
    | _ => none)
  | _ => none
end
end TL
namespace TL
open PySem PySem.Spec PyProof.Rows L2 Evl PF
section
variable {W : Wd} {R : RR_} {te ta tb : TE} {tx : TA} {tt : TT} {tl th : TO} {ls ls1 ms : List Lab} {F Fa Fb : FE} {FL : FI} {Ft : FB} {Fs : FS} {l m : Lab} {i : Nat}
/-- list * int -/
theorem smF_rep (h : SmI W ta ls Fa l) (h2 : Sm W tb ls Fb ltop) : SmF W (tOp rRep ta tb) ls (fRepL Fa Fb) l := fun B hB τ pot O σ H E t pot' f Q q => by
  unfold fRepL at f
  split at f
  case h_2 => cases f
  rename_i us p1 e1
  split at f
  case h_2 => cases f
  rename_i k p2 e2
  split at f
  case isFalse => cases f
  rename_i hl
  cases f
  refine h B hB τ pot O σ H E true us _ e1 _ fun a vs H1 n1 hp hs r => ?_
  have E1 := E.step hB n1
  refine h2 B hB τ p1 O σ H1 E1 _ _ e2 _ fun y H2 n2 ry => ?_
  rw [rep_int_iff] at ry
  subst ry
  have r1 := r.nx (E1.ct hB l) n2
  have n12 := n1.trans n2
  have rr : ∀ n : Nat, Reps W B.p (gd B O l) H2 (List.replicate n us).flatten (List.replicate n vs).flatten := by
    intro n
    induction n with
    | zero => exact reps_nil
    | succ n ih =>
      rw [List.replicate_succ, List.replicate_succ, List.flatten_cons, List.flatten_cons]
      exact r1.append ih
  refine ⟨a, k, vs, rfl, rfl, n2.kept a _ hs (hp.imp_left E1.non.mp), by omega, by omega, sz_of (by rw [r1.length]; have : maxLen = 40000 := rfl; omega), fun c hc => ?_⟩
  exact q c _ _ (n12.trans (nx_new n2.at_ hc)) (n12.new hc) upd_same (reps_new (rr k.toNat) hc)
/-- x in xs -/
def fIn (neg : Bool) (Fa Fb : FE) : FE := fun τ pot => match Fa τ pot with
  | some (a, p1) => (match Fb τ p1 with
    | some (b, p2) => (match seqT b with
      | some (_, us) => if isAtom a = true ∧ us.all isAtom = true then some (.bl (if neg then !inV (toV a) (us.map toV) else inV (toV a) (us.map toV)), p2) else none
      | none => none)
    | none => none)
  | none => none
/-- a built-in of atoms -/
def CbA (r : List V → Hp → VK → Prop) (g : List T → Option T) : Prop := ∀ ts t, g ts = some t → ts.all isAtom = true ∧ isAtom t = true ∧ ∀ (H : Hp) (Q : VK), Q (toV t) H → r (ts.map toV) H Q
def fCbA (g : List T → Option T) (FL : FI) : FE := fun τ pot => match FL τ pot with
  | some (ts, p1) => (match g ts with
    | some t => some (t, p1)
    | none => none)
  | none => none
theorem argR_toV {p : Addr} {g : Lab → GD} {H : Hp} : ∀ {ms : List Lab} {ts : List T} {vs : List V}, ts.all isAtom = true → ArgR W p g H ms ts vs → vs = ts.map toV
  | [], [], [], _, _ => rfl
  | [], [], _ :: _, _, h => by simp [ArgR] at h
  | [], _ :: _, _, _, h => by simp [ArgR] at h
  | _ :: _, [], _, _, h => by simp [ArgR] at h
  | _ :: _, _ :: _, [], _, h => by simp [ArgR] at h
  | m :: ms, t :: ts, v :: vs, e, h => by
    have h' : Rep W p (g m) H t v ∧ ArgR W p g H ms ts vs := h
    rw [List.all_cons, Bool.and_eq_true] at e
    rw [List.map_cons, rep_toV e.1 h'.1, argR_toV e.2 h'.2]
theorem rep_atom {p : Addr} {G : GD} {H : Hp} {t : T} (h : isAtom t = true) : Rep W p G H t (toV t) := by
  cases t with
  | non => exact rep_non
  | bl b => exact rep_bl
  | int i => exact rep_int
  | str s => exact rep_str
  | lst _ => cases h
  | tup _ => cases h
  | ins _ _ => cases h
  | pot => cases h
  | dct _ => cases h
  | cls _ => cases h
  | rng _ _ => cases h
theorem sm_cbA {r : List V → Hp → VK → Prop} {g : List T → Option T} (hr : CbA r g) (h : SmA W tx ls FL ms) : Sm W (tCB r tx) ls (fCbA g FL) l := fun B hB τ pot O σ H E t pot' f Q q => by
  unfold fCbA at f
  split at f
  case h_2 => cases f
  rename_i ts p1 e1
  split at f
  case h_2 => cases f
  rename_i t' e2
  cases f
  obtain ⟨h1, h2, h3⟩ := hr _ _ e2
  refine h B hB τ pot O σ H E _ _ e1 _ fun vs H1 n1 r => ?_
  rw [argR_toV h1 r]
  exact h3 H1 Q (q _ H1 n1 (rep_atom h2))
inductive Cl where
  | ty (n : String) | own (c : Nat)
def tyT : T → Option (String ⊕ Nat)
  | .non => some (.inl "NoneType")
  | .bl _ => some (.inl "bool")
  | .int _ => some (.inl "int")
  | .str _ => some (.inl "str")
  | .lst _ => some (.inl "list")
  | .tup _ => some (.inl "tuple")
  | .dct _ => some (.inl "dict")
  | .ins c _ => some (.inr c)
  | .pot => none
  | .cls _ => none
  | .rng _ _ => none
def tyVal (W : Wd) : String ⊕ Nat → Value
  | .inl n => .type n
  | .inr c => .ref (W.C c)
theorem tyX_of {p : Addr} {G : GD} {H : Hp} {t : T} {v : V} {y : String ⊕ Nat} (r : Rep W p G H t v) (h : tyT t = some y) : TyX W.K H v (tyVal W y) := by
  cases t with
  | non => rw [rep_non_iff] at r; cases h; subst r; exact .base .non
  | bl b => rw [rep_bl_iff] at r; cases h; subst r; exact .base (.bl b)
  | int i => rw [rep_int_iff] at r; cases h; subst r; exact .base (.int i)
  | str s => rw [rep_str_iff] at r; cases h; subst r; exact .base (.str s)
  | lst l => rw [rep_lst_iff] at r; cases h; obtain ⟨a, vs, rfl, _, ha, _⟩ := r; exact .base (.lst ha)
  | tup l => rw [rep_tup_iff] at r; cases h; obtain ⟨a, vs, rfl, _, ha, _⟩ := r; exact .base (.tup ha)
  | ins c l => rw [rep_ins_iff] at r; cases h; obtain ⟨a, dx, vs, rfl, _, o, ha, _⟩ := r; exact o.toOwn.ty ha
  | pot => cases h
  | cls _ => cases h
  | rng _ _ => cases h
  | dct l => rw [Rep] at r; cases h; obtain ⟨a, rfl, _, ha⟩ := r; exact .base (.dK ha)
/-- is it of this class -/
def isiT (t : T) (c : Cl) : Option Bool := match tyT t, c with
  | some (.inl n), .ty m => if n = m then some true else if n = "bool" ∧ m = "int" then some true else some false
  | some (.inl _), .own _ => some false
  | some (.inr c), .own d => if c = d then some true else none
  | some (.inr _), .ty _ => some false
  | _, _ => none
def okTy (m : String) : Bool := m == "int" || m == "bool" || m == "str" || m == "list" || m == "tuple"
def clVal (W : Wd) : Cl → Value
  | .ty n => .type n
  | .own c => .ref (W.C c)
theorem kit_out {C : Addr} {n : String} (ty1 : PySem.W.typeIn W.K (.ref C) = some (.type "type")) (cl : (PySem.W.clsIn W.K C).isSome = true) (h : PySem.W.subIn [] (.type n) (.ref C) = some false) : PySem.W.kitOne W.K (.type n) (.ref C) = some false := by
  show (if ((Value.type n == Value.ref C) = true) then some true else if ((PySem.W.clsIn W.K C).isSome && PySem.W.typeIn W.K (.ref C) == some (.type "type")) = true then PySem.W.subIn W.K (.type n) (.ref C) else none) = some false
  rw [if_neg (by simp), cl, ty1, if_pos (by simp)]
  exact h
theorem sub_nt {C : Addr} {n : String} (h : ∃ m ∈ ["NoneType", "bool", "int", "str", "list", "tuple", "dict"], n = m) : PySem.W.subIn [] (.type n) (.ref C) = some false := by
  obtain ⟨m, hm, rfl⟩ := h
  simp only [List.mem_cons, List.mem_nil_iff, or_false] at hm
  rcases hm with rfl | rfl | rfl | rfl | rfl | rfl | rfl
  · exact sub_none
  · exact sub_bool
  · exact sub_int
  · exact sub_str
  · exact sub_list
  · exact sub_tuple
  · exact sub_dict
/-- what stands of a class that is asked -/
structure ClOk (W : Wd) (c : Nat) : Prop where
  ty1 : PySem.W.typeIn W.K (.ref (W.C c)) = some (.type "type")
  cl : (PySem.W.clsIn W.K (W.C c)).isSome = true
theorem kit_own {C : Addr} {T : String} (h : PySem.W.mroIn W.K C (.type T) = some false) (hk : PySem.W.kitMeta T = true) : PySem.W.kitOne W.K (.ref C) (.type T) = some false := by
  show (if ((Value.ref C == Value.type T) = true) then some true else if PySem.W.kitMeta T = true then PySem.W.subIn W.K (.ref C) (.type T) else none) = some false
  rw [if_pos hk]
  exact h
theorem kit_self {C : Addr} : PySem.W.kitOne W.K (.ref C) (.ref C) = some true := by
  unfold PySem.W.kitOne
  rw [if_pos (by simp)]
theorem isiT_ty {t : T} {c : Cl} {b : Bool} (h : isiT t c = some b) : ∃ y, tyT t = some y := by
  unfold isiT at h
  cases e : tyT t with
  | none => rw [e] at h; cases c <;> cases h
  | some y => exact ⟨y, rfl⟩
theorem kit_isi {p : Addr} {G : GD} {H : Hp} {t : T} {v : V} {c : Cl} {b : Bool} {y : String ⊕ Nat} (r : Rep W p G H t v) (e : tyT t = some y) (h : isiT t c = some b) (hc : match c with
    | .ty m => okTy m = true
    | .own d => ClOk W d) : PySem.W.kitOne W.K (tyVal W y) (clVal W c) = some b := by
    unfold isiT at h
    rw [e] at h
    have mem : ∀ n, y = .inl n → n ∈ ["NoneType", "bool", "int", "str", "list", "tuple", "dict"] := fun n hn => by
      subst hn
      cases t <;> simp [tyT] at e <;> subst e <;> simp
    cases y with
    | inl n =>
      have hm := mem n rfl
      cases c with
      | ty m =>
        have hc' : okTy m = true := hc
        have hmm : m = "int" ∨ m = "bool" ∨ m = "str" ∨ m = "list" ∨ m = "tuple" := by
          unfold okTy at hc'
          simp only [Bool.or_eq_true, beq_iff_eq] at hc'
          rcases hc' with (((h | h) | h) | h) | h <;> simp [h]
        simp only [List.mem_cons, List.mem_nil_iff, or_false] at hm
        rcases hmm with rfl | rfl | rfl | rfl | rfl <;> rcases hm with rfl | rfl | rfl | rfl | rfl | rfl | rfl <;> simp at h <;> subst h <;> exact kit_ty (by decide +kernel)
      | own d =>
        have hc' : ClOk W d := hc
        cases h
        exact kit_out hc'.ty1 hc'.cl (sub_nt ⟨n, hm, rfl⟩)
    | inr d =>
      have o : OwnX W.K (W.C d) := by
        cases t <;> simp [tyT] at e
        subst e
        rw [rep_ins_iff] at r
        obtain ⟨_, _, _, _, _, o, _⟩ := r
        exact o
      cases c with
      | ty m =>
        have hc' : okTy m = true := hc
        have hmm : m = "int" ∨ m = "bool" ∨ m = "str" ∨ m = "list" ∨ m = "tuple" := by
          unfold okTy at hc'
          simp only [Bool.or_eq_true, beq_iff_eq] at hc'
          rcases hc' with (((h | h) | h) | h) | h <;> simp [h]
        cases h
        rcases hmm with rfl | rfl | rfl | rfl | rfl
        · exact kit_own o.mi (by decide +kernel)
        · exact kit_own o.mb (by decide +kernel)
        · exact kit_own o.ms (by decide +kernel)
        · exact kit_own o.ml (by decide +kernel)
        · exact kit_own o.mt (by decide +kernel)
      | own d2 =>
        have h' : (if d = d2 then some true else none) = some b := h
        split at h'
        · rename_i ed
          subst ed
          cases h'
          exact kit_self
        · cases h'
def fIsi (c : Cl) (F : FE) : FE := fun τ pot => match F τ pot with
  | some (t, p1) => (match isiT t c with
    | some b => some (.bl b, p1)
    | none => none)
  | none => none
theorem sm_isi_ty {n : String} (h : Sm W te ls F ltop) (hn : okTy n = true) : Sm W (tCB (rIsi W.K) (tCons te (tCons (tC (.ty n)) tNil))) ls (fIsi (.ty n) F) l := fun B hB τ pot O σ H E t pot' f Q q => by
  unfold fIsi at f
  split at f
  case h_2 => cases f
  rename_i a p1 e1
  split at f
  case h_2 => cases f
  rename_i b e2
  cases f
  refine h B hB τ pot O σ H E _ _ e1 _ fun v H1 n1 r => ?_
  obtain ⟨y, ey⟩ := isiT_ty e2
  have ty := tyX_of r ey
  have k := kit_isi r ey e2 hn
  exact ⟨v, .ty n, _, .type n, b, rfl, .ty n, ty, k, q _ H1 n1 rep_bl⟩
theorem sm_isi_own {c : Nat} (h : Sm W te ls F ltop) (hc : ClOk W c) : Sm W (tCB (rIsi W.K) (tCons te (tCons (tC (.ref (W.C c))) tNil))) ls (fIsi (.own c) F) l := fun B hB τ pot O σ H E t pot' f Q q => by
  unfold fIsi at f
  split at f
  case h_2 => cases f
  rename_i a p1 e1
  split at f
  case h_2 => cases f
  rename_i b e2
  cases f
  refine h B hB τ pot O σ H E _ _ e1 _ fun v H1 n1 r => ?_
  obtain ⟨y, ey⟩ := isiT_ty e2
  have ty := tyX_of r ey
  have k := kit_isi r ey e2 hc
  exact ⟨v, .ref (W.C c), _, .ref (W.C c), b, rfl, .own _, ty, k, q _ H1 n1 rep_bl⟩
/-- isinstance(x, (list, tuple)) -/
def fIsiT (F : FE) : FE := fun τ pot => match F τ pot with
  | some (t, p1) => (match isiT t (.ty "list"), isiT t (.ty "tuple") with
    | some b, some c => some (.bl (b || c), p1)
    | _, _ => none)
  | none => none
theorem sm_isiT (h : Sm W te ls F ltop) : Sm W (tCB (rIsiT W.K) (tCons te (tCons (tTup (tCons (tC (.ty "list")) (tCons (tC (.ty "tuple")) tNil))) tNil))) ls (fIsiT F) l := fun B hB τ pot O σ H E t pot' f Q q => by
  unfold fIsiT at f
  split at f
  case h_2 => cases f
  rename_i a p1 e1
  split at f
  case h_2 => cases f
  rename_i b c e2 e3
  cases f
  refine h B hB τ pot O σ H E _ _ e1 _ fun v H1 n1 r => ⟨sz_of (by decide), fun tp htp => ?_⟩
  have r' := r.up (fun _ _ z => z) fun k a o _ h => Ex.new (o := .tup [.ty "list", .ty "tuple"]) htp a o h
  obtain ⟨y, ey⟩ := isiT_ty e2
  have k1 : PySem.W.kitOne W.K (tyVal W y) (.type "list") = some b := kit_isi r' ey e2 rfl
  have k2 : PySem.W.kitOne W.K (tyVal W y) (.type "tuple") = some c := kit_isi r' ey e3 rfl
  refine ⟨v, tp, _, _, [.type "list", .type "tuple"], b || c, rfl, upd_same, .cons (.ty _) (.cons (.ty _) .nil), tyX_of r' ey, ?_, q _ _ (n1.trans (nx_new n1.at_ htp)) rep_bl⟩
  unfold PySem.W.kitAny
  rw [k1]
  cases b with
  | true => rfl
  | false =>
    show PySem.W.kitAny W.K (tyVal W y) [.type "tuple"] = _
    unfold PySem.W.kitAny
    rw [k2]
    cases c <;> rfl
end
end TL
namespace TL
open PySem PySem.Spec PyProof.Rows L2 Evl PF
section
variable {W : Wd} {R : RR_} {te ta tb ti : TE} {tx : TA} {tt : TT} {tl th : TO} {ts : TS} {ls ls1 ms : List Lab} {F Fa Fb Fe Fi : FE} {FL : FI} {Ft : FB} {Fs : FS} {l l1 l2 m : Lab} {i j : Nat}
/-- xs.append(e) -/
def fApp (i : Nat) (Fe : FE) : FS := fun τ pot => match Fe τ pot with
  | some (t, p1) => (match τ[i]? with
    | some (.own us) => if us.length < maxLen then some (.nx (τ.set i (.own (us ++ [t]))), p1) else none
    | _ => none)
  | none => none
theorem ty_lst {K : PySem.W.Frag} {H : Hp} {a : Addr} {vs : List V} (h : H a = some (.lst vs)) : tyV K "list" (.ref a) H := .inl ⟨rfl, _, .inl (.inl h)⟩
theorem smS_app (hi : ls[i]? = some l) (h : Sm W te ls Fe l) (hc : cln ls = true) : SmS W R (tDrop (tBM W.K "list" rAppend (tVar i) (tCons te tNil))) ls (fApp i Fe) ls := fun B hB τ pot O σ H E o pot' f D d => by
  unfold fApp at f
  split at f
  case h_2 => cases f
  rename_i t p1 e1
  split at f
  case h_2 => cases f
  rename_i us e2
  split at f
  case isFalse => cases f
  rename_i hl
  cases f
  obtain ⟨x, hx, z⟩ := sl_at E e2 hi
  obtain ⟨a, vs, o1, rfl, o3, r⟩ := z
  refine ⟨_, hx, ty_lst o3, h B hB τ pot O σ H E _ _ e1 _ fun v H1 n1 rv => ?_⟩
  have E1 := E.step hB n1
  have ha : H1 a = some (.lst vs) := n1.kept a _ o3 (E.pne o1)
  have cl := cln_at hc hi
  have r1 := r.nx (E.ct hB l) n1
  refine ⟨a, vs, v, rfl, rfl, ha, sz_lt (by rw [r.length]; have : maxLen = 40000 := rfl; omega), ?_⟩
  refine d O σ _ ((Stp.of n1).trans (Stp.mut E1 o1)) (E1.mut hB hc o1 fun m x h1 h2 => ?_)
  rw [hi] at h1
  cases h1
  rw [hx] at h2
  cases h2
  exact ⟨a, vs ++ [v], o1, rfl, upd_same, (r1.append (reps_cons rv reps_nil)).mut cl o1⟩
/-- xs.extend(e) -/
def fExt (i : Nat) (Fe : FE) : FS := fun τ pot => match Fe τ pot with
  | some (.lst ws, p1) => (match τ[i]? with
    | some (.own us) => if us.length + ws.length < maxLen then some (.nx (τ.set i (.own (us ++ ws))), p1) else none
    | _ => none)
  | _ => none
theorem smS_ext (hi : ls[i]? = some l) (h : SmI W te ls Fe l) (hc : cln ls = true) : SmS W R (tDrop (tBM W.K "list" rExtend (tVar i) (tCons te tNil))) ls (fExt i Fe) ls := fun B hB τ pot O σ H E o pot' f D d => by
  unfold fExt at f
  split at f
  case h_2 => cases f
  rename_i ws p1 e1
  split at f
  case h_2 => cases f
  rename_i us e2
  split at f
  case isFalse => cases f
  rename_i hl
  cases f
  obtain ⟨x, hx, z⟩ := sl_at E e2 hi
  obtain ⟨a, vs, o1, rfl, o3, r⟩ := z
  refine ⟨_, hx, ty_lst o3, h B hB τ pot O σ H E true ws _ e1 _ fun b ys H1 n1 hp hs rv => ?_⟩
  have E1 := E.step hB n1
  have ha : H1 a = some (.lst vs) := n1.kept a _ o3 (E.pne o1)
  have cl := cln_at hc hi
  have r1 := r.nx (E.ct hB l) n1
  refine ⟨a, b, vs, ys, rfl, rfl, ha, hs, sz_of (by rw [r.length, rv.length]; have : maxLen = 40000 := rfl; omega), ?_⟩
  refine d O σ _ ((Stp.of n1).trans (Stp.mut E1 o1)) (E1.mut hB hc o1 fun m x h1 h2 => ?_)
  rw [hi] at h1
  cases h1
  rw [hx] at h2
  cases h2
  exact ⟨a, vs ++ ys, o1, rfl, upd_same, (r1.append rv).mut cl o1⟩
/-- xs[k] = e -/
def fSet (i : Nat) (Fi Fe : FE) : FS := fun τ pot => match Fe τ pot with
  | some (t, p1) => (match Fi τ p1 with
    | some (.int k, p2) => (match τ[i]? with
      | some (.own us) => (match ixN us.length k with
        | some j => some (.nx (τ.set i (.own (us.set j t))), p2)
        | none => none)
      | _ => none)
    | _ => none)
  | none => none
theorem Reps.set {p : Addr} {G : GD} {H : Hp} {t : T} {v : V} (rv : Rep W p G H t v) : ∀ {us : List T} {vs : List V} (j : Nat), Reps W p G H us vs → Reps W p G H (us.set j t) (vs.set j v)
  | [], vs, j, r => by rw [reps_nil_iff] at r; subst r; exact reps_nil
  | u :: us, vs, 0, r => by
    rw [reps_cons_iff] at r
    obtain ⟨w, ws, rfl, _, r2⟩ := r
    exact reps_cons rv r2
  | u :: us, vs, j + 1, r => by
    rw [reps_cons_iff] at r
    obtain ⟨w, ws, rfl, r1, r2⟩ := r
    exact reps_cons r1 (Reps.set rv j r2)
theorem smS_set (hi : ls[i]? = some l) (h : Sm W te ls Fe l) (hk : Sm W ti ls Fi ltop) (hc : cln ls = true) : SmS W R (tAsg te (L2.gSub (tVar i) ti rSetL)) ls (fSet i Fi Fe) ls := fun B hB τ pot O σ H E o pot' f D d => by
  unfold fSet at f
  split at f
  case h_2 => cases f
  rename_i t p1 e1
  split at f
  case h_2 => cases f
  rename_i k p2 e2
  split at f
  case h_2 => cases f
  rename_i us e3
  split at f
  case h_2 => cases f
  rename_i jj e4
  cases f
  refine h B hB τ pot O σ H E _ _ e1 _ fun v H1 n1 rv => ?_
  have E1 := E.step hB n1
  obtain ⟨x, hx, z⟩ := sl_at E1 e3 hi
  obtain ⟨a, vs, o1, rfl, o3, r⟩ := z
  refine ⟨_, hx, hk B hB τ p1 O σ H1 E1 _ _ e2 _ fun y H2 n2 ry => ?_⟩
  rw [rep_int_iff] at ry
  subst ry
  have E2 := E1.step hB n2
  have ha : H2 a = some (.lst vs) := n2.kept a _ o3 (E1.pne o1)
  have cl := cln_at hc hi
  have r1 := r.nx (E1.ct hB l) n2
  have rv1 := rv.nx (E1.ct hB l) n2
  refine ⟨a, vs, k, jj, rfl, rfl, ha, by rw [r.length]; exact e4, ?_⟩
  refine d O σ _ ((Stp.of (n1.trans n2)).trans (Stp.mut E2 o1)) (E2.mut hB hc o1 fun m x h1 h2 => ?_)
  rw [hi] at h1
  cases h1
  rw [hx] at h2
  cases h2
  exact ⟨a, vs.set jj v, o1, rfl, upd_same, (Reps.set rv1 jj r1).mut cl o1⟩
/-- slices of lists -/
def SmO (W : Wd) (to : TO) (ls : List Lab) (F : List Sl → M (Option Int)) : Prop := ∀ (B : Bd), B.Ok → ∀ τ pot O σ H, EnvR W B ls τ pot O σ H → ∀ t pot', F τ pot = some (t, pot') →
  ∀ Q : Option Int → Hp → Prop, (∀ H', Nx B.p pot H pot' H' → Q t H') → to σ H Q
def fNoPart : List Sl → M (Option Int) := fun _ pot => some (none, pot)
def fPart (F : FE) : List Sl → M (Option Int) := fun τ pot => match F τ pot with
  | some (.int i, p1) => some (some i, p1)
  | _ => none
theorem smO_none : SmO W tNoPart ls fNoPart := fun B hB τ pot O σ H E t pot' f Q q => by
  cases f
  exact q H (Nx.refl E.pt)
theorem smO_some (h : Sm W te ls F ltop) : SmO W (tPart te) ls (fPart F) := fun B hB τ pot O σ H E t pot' f Q q => by
  unfold fPart at f
  split at f
  · rename_i k p1 e
    cases f
    refine h B hB τ pot O σ H E _ _ e _ fun v H' n r => ?_
    rw [rep_int_iff] at r
    exact ⟨k, r, q H' n⟩
  · cases f
def cutT (xs : List T) (lo hi : Option Int) : List T := (xs.drop (HT.sIx xs.length 0 lo)).take (HT.sIx xs.length xs.length hi - HT.sIx xs.length 0 lo)
theorem reps_drop {p : Addr} {G : GD} {H : Hp} : ∀ {us : List T} {vs : List V} (n : Nat), Reps W p G H us vs → Reps W p G H (us.drop n) (vs.drop n)
  | us, vs, 0, r => r
  | [], vs, n + 1, r => by rw [reps_nil_iff] at r; subst r; exact reps_nil
  | u :: us, vs, n + 1, r => by
    rw [reps_cons_iff] at r
    obtain ⟨w, ws, rfl, _, r2⟩ := r
    exact reps_drop n r2
theorem reps_take {p : Addr} {G : GD} {H : Hp} : ∀ {us : List T} {vs : List V} (n : Nat), Reps W p G H us vs → Reps W p G H (us.take n) (vs.take n)
  | us, vs, 0, r => reps_nil
  | [], vs, n + 1, r => by rw [reps_nil_iff] at r; subst r; exact reps_nil
  | u :: us, vs, n + 1, r => by
    rw [reps_cons_iff] at r
    obtain ⟨w, ws, rfl, r1, r2⟩ := r
    exact reps_cons r1 (reps_take n r2)
theorem reps_cut {p : Addr} {G : GD} {H : Hp} {us : List T} {vs : List V} {lo hi : Option Int} (r : Reps W p G H us vs) : Reps W p G H (cutT us lo hi) (cutV vs lo hi) := by
  unfold cutT cutV
  rw [r.length]
  exact reps_take _ (reps_drop _ r)
def fSl (F : FE) (Fl Fh : List Sl → M (Option Int)) : FI := fun τ pot => match F τ pot with
  | some (.lst us, p1) => (match Fl τ p1 with
    | some (lo, p2) => (match Fh τ p2 with
      | some (hi, p3) => some (cutT us lo hi, p3)
      | none => none)
    | none => none)
  | _ => none
theorem smF_sl {Fl Fh : List Sl → M (Option Int)} (h : SmI W te ls F l) (hl : SmO W tl ls Fl) (hh : SmO W th ls Fh) : SmF W (tSl (rSlL W.K) te tl th) ls (fSl F Fl Fh) l := fun B hB τ pot O σ H E t pot' f Q q => by
  unfold fSl at f
  split at f
  case h_2 => cases f
  rename_i us p1 e1
  split at f
  case h_2 => cases f
  rename_i lo p2 e2
  split at f
  case h_2 => cases f
  rename_i hi p3 e3
  cases f
  refine h B hB τ pot O σ H E true us _ e1 _ fun a vs H1 n1 hp hs r => ?_
  have E1 := E.step hB n1
  refine hl B hB τ p1 O σ H1 E1 _ _ e2 _ fun H2 n2 => ?_
  have E2 := E1.step hB n2
  refine hh B hB τ p2 O σ H2 E2 _ _ e3 _ fun H3 n3 => ?_
  have nn := n2.trans n3
  have r3 := r.nx (E1.ct hB l) nn
  refine ⟨a, vs, rfl, sq_of (nn.kept a _ hs (hp.imp_left E1.non.mp)), fun c hc => ?_⟩
  exact q c _ _ ((n1.trans nn).trans (nx_new nn.at_ hc)) ((n1.trans nn).new hc) upd_same (reps_new (reps_cut r3) hc)
end
end TL
namespace TL
open PySem PySem.Spec PyProof.Rows L2 Evl PF
abbrev lc : Lab := (false, false)
section
variable {W : Wd}
/-- own op y -/
def isNumT (c : Nat) : T → Bool
  | .int _ => true
  | .ins d _ => d == c
  | _ => false
def gOwn (c : Nat) (F : List T → M T) : T → T → M T := fun a b pot => match a with
  | .ins d _ => if d = c ∧ isNumT c b = true then F [a, b] pot else none
  | _ => none
def gOwnR (c : Nat) (F : List T → M T) : T → T → M T := fun a b pot => match a, b with
  | .int _, .ins d _ => if d = c then F [b, a] pot else none
  | _, _ => none
theorem opS_own {c : Nat} {op : Operator} {F : List T → M T} {E : XK} (hb : BinT (W.C c) op "int") : OpS W (rOwn W.K (W.C c) op (spT W F [true, true]) E) (gOwn c F) := fun p pot G1 G2 H ct x y a b ra rb t pot' f Q q => by
  unfold gOwn at f
  split at f
  · rename_i d l
    split at f
    · rename_i h
      obtain ⟨rfl, hn⟩ := h
      have r0 := ra
      rw [rep_ins_iff] at ra
      obtain ⟨ad, dx, vs, rfl, _, o, ha, _⟩ := ra
      have ty : ∃ t, TyX W.K H y t ∧ (t = .ref (W.C d) ∨ ∃ T, t = .type T ∧ BinT (W.C d) op T) := by
        cases b <;> simp [isNumT] at hn
        · exact ⟨_, tyX_of rb rfl, .inr ⟨_, rfl, hb⟩⟩
        · subst hn
          exact ⟨_, tyX_of rb rfl, .inl rfl⟩
      obtain ⟨ty, h1, h2⟩ := ty
      exact ⟨ad, dx, _, ty, rfl, ha, h1, h2, p, pot, G1, G2, [.ins d l, b], t, pot', ct, ⟨r0, rb, trivial⟩, f, q⟩
    · cases f
  · cases f
theorem opS_ownR {c : Nat} {F : List T → M T} {E : XK} : OpS W (rOwnR (W.C c) (spT W F [true, true]) E) (gOwnR c F) := fun p pot G1 G2 H ct x y a b ra rb t pot' f Q q => by
  unfold gOwnR at f
  split at f
  · rename_i i d l
    split at f
    · rename_i h
      subst h
      have r0 := rb
      rw [rep_ins_iff] at rb
      obtain ⟨ad, dx, vs, rfl, _, o, ha, _⟩ := rb
      have r1 := ra
      rw [rep_int_iff] at ra
      subst ra
      exact ⟨i, ad, dx, _, rfl, rfl, ha, p, pot, G1, G2, [.ins d l, .int i], t, pot', ct, ⟨r0, r1, trivial⟩, f, q⟩
    · cases f
  · cases f
def gNegI : T → M T := fun a pot => match a with
  | .int i => some (.int (-i), pot)
  | _ => none
theorem unS_neg : UnS W (rU fun i => .int (-i)) gNegI := fun p pot G1 G2 H ct x a ra t pot' f Q q => by
  unfold gNegI at f
  split at f
  · cases f
    rw [rep_int_iff] at ra
    subst ra
    exact ⟨_, rfl, q _ H (Nx.refl ct.pt) rep_int⟩
  · cases f
def gNegO (c : Nat) (F : List T → M T) : T → M T := fun a pot => match a with
  | .ins d _ => if d = c then F [a] pot else none
  | _ => none
theorem unS_own {c : Nat} {F : List T → M T} {E : XK} : UnS W (rNegO (W.C c) (spT W F [true]) E) (gNegO c F) := fun p pot G1 G2 H ct x a ra t pot' f Q q => by
  unfold gNegO at f
  split at f
  · rename_i d l
    split at f
    · rename_i h
      subst h
      have r0 := ra
      rw [rep_ins_iff] at ra
      obtain ⟨ad, dx, vs, rfl, _, o, ha, _⟩ := ra
      exact ⟨ad, dx, _, rfl, ha, p, pot, G1, G2, [.ins d l], t, pot', ct, ⟨r0, trivial⟩, f, q⟩
    · cases f
  · cases f
def gOr1 (g g' : T → M T) : T → M T := fun a pot => match g a pot with
  | some z => some z
  | none => g' a pot
def rOr1 (r r' : V → Hp → VK → Prop) : V → Hp → VK → Prop := fun x H Q => r x H Q ∨ r' x H Q
theorem UnS.or1 {r r' : V → Hp → VK → Prop} {g g' : T → M T} (h : UnS W r g) (h' : UnS W r' g') : UnS W (rOr1 r r') (gOr1 g g') := fun p pot G1 G2 H ct x a ra t pot' f Q q => by
  unfold gOr1 at f
  split at f
  · rename_i z e
    cases f
    exact .inl (h p pot G1 G2 H ct x a ra t pot' e Q q)
  · exact .inr (h' p pot G1 G2 H ct x a ra t pot' f Q q)
theorem unR_or1 {X : Cx} {f : Value → Sem Value} {r r' : V → Hp → VK → Prop} (h : UnR X f r) (h' : UnR X f r') : UnR X f (rOr1 r r') := unR_or h h'
/-- own == y -/
def eqTy (c : Nat) (b : T) : Bool := match tyT b with
  | some (.inl _) => true
  | some (.inr d) => d == c
  | none => false
theorem eqTy_of {c : Nat} {p : Addr} {G : GD} {H : Hp} {b : T} {y : V} (h : eqTy c b = true) (rb : Rep W p G H b y) : ∃ t, TyX W.K H y t ∧ (t = .ref (W.C c) ∨ ∃ T, t = .type T ∧ PySem.W.subIn [] (.type T) (.ref (W.C c)) = some false) := by
  unfold eqTy at h
  split at h
  · rename_i n e
    refine ⟨_, tyX_of rb e, .inr ⟨n, rfl, sub_nt ⟨n, ?_, rfl⟩⟩⟩
    cases b <;> simp [tyT] at e <;> subst e <;> simp
  · rename_i d e
    have h' : d = c := by simpa using h
    subst h'
    exact ⟨_, tyX_of rb e, .inl rfl⟩
  · cases h
def gEqO (c : Nat) (F : List T → M T) : T → T → M T := fun a b pot => match a with
  | .ins d _ => if d = c then (if eqTy c b = true then F [a, b] pot else none) else none
  | _ => none
theorem opS_eqO {c : Nat} {F : List T → M T} {E : XK} : OpS W (rEqO W.K (W.C c) (spT W F [true, true]) E) (gEqO c F) := fun p pot G1 G2 H ct x y a b ra rb t pot' f Q q => by
  unfold gEqO at f
  split at f
  · rename_i d l
    split at f
    · rename_i h
      subst h
      split at f
      · rename_i hn
        have r0 := ra
        rw [rep_ins_iff] at ra
        obtain ⟨ad, dx, vs, rfl, _, o, ha, _⟩ := ra
        obtain ⟨ty, h1, h2⟩ := eqTy_of hn rb
        exact ⟨ad, dx, _, ty, rfl, ha, h1, h2, p, pot, G1, G2, [.ins d l, b], t, pot', ct, ⟨r0, rb, trivial⟩, f, q⟩
      · cases f
    · cases f
  · cases f
end
structure GFun (K : PySem.W.Frag) (mg : Str → Option Value) (x : Str) (st : Stmt) (ps : List Str) where
  f : Addr
  d : FuncData
  F : Fun K x x st f d
  m : mg x = some (.ref f)
  b : Binds K d ps []
structure MFun (K : PySem.W.Frag) (C : Addr) (m qual : Str) (st : Stmt) (ps : List Str) where
  f : Addr
  d : FuncData
  F : Fun K m qual st f d
  M : Meth K C m f
  b : Binds K d ps []
structure PFun (K : PySem.W.Frag) (C : Addr) (x qual : Str) (st : Stmt) where
  p : Addr
  f : Addr
  d : FuncData
  F : Fun K x qual st f d
  P : PropOf K C x p f
  b : Binds K d ["self"] []
structure IFun (K : PySem.W.Frag) (C : Addr) (qual : Str) (st : Stmt) (ps : List Str) where
  f : Addr
  d : FuncData
  F : Fun K "__init__" qual st f d
  M : Mk K C f
  b : Binds K d ps []
/-- with one default, an int -/
structure IFunD (K : PySem.W.Frag) (C : Addr) (qual : Str) (st : Stmt) (ps : List Str) (dv : Int) where
  f : Addr
  d : FuncData
  F : FunD K "__init__" qual (defArgs st) (defBody st) (defScope st) [.int dv] [] f d
  M : Mk K C f
  b : Binds K d ps []
  b1 : ∃ ds, Vals [V.int dv] ds ∧ Binds K d ps ds
section
variable {W : Wd} {ls ms : List Lab} {FL : FI} {l : Lab} {tx : TA} {c : Nat} {F : List T → M T} {E : XK} {n : Nat} {fl : List Bool}
theorem sm_makeI {dv : Int} (o : OwnX W.K (W.C c)) (h : SmA W tx ls FL ms) (e : lok l fl ms = true) : Sm W (tMake (W.C c) (spI W c F (fl ++ [true])) [.int dv] E tx) ls (fCall (fun ts => F (ts ++ [.int dv])) FL) l :=
  sm_makeD (dts := [.int dv]) (fd := [true]) o h e fun _ _ _ => ⟨rep_int, trivial⟩
end
end TL
namespace TL
open PySem PySem.Spec PyProof.Rows L2 Evl PF
/-- of at most so many binary digits -/
def bits (n : Nat) (i : Int) : Bool := decide (i.natAbs.log2 < n)
theorem bits_lt {n : Nat} {i : Int} (h : bits n i = true) : i.natAbs < 2 ^ n := by
  have h' : i.natAbs.log2 < n := of_decide_eq_true h
  by_cases z : i.natAbs = 0
  · rw [z]; exact Nat.two_pow_pos n
  · exact (Nat.log2_lt z).mp h'
theorem bits_of {n : Nat} {i : Int} (hn : 0 < n) (h : i.natAbs < 2 ^ n) : bits n i = true := by
  refine decide_eq_true ?_
  by_cases z : i.natAbs = 0
  · rw [z]; exact hn
  · exact (Nat.log2_lt z).mpr h
def gMul : T → T → M T := gI (fun i j => bits 400000 i && bits 400000 j) fun i j => .int (i * j)
def gFdiv : T → T → M T := gI (fun _ j => decide (j ≠ 0) && bits 9000 j) fun i j => .int (i.fdiv j)
section
variable {W : Wd}
theorem opS_mul : OpS W (rI CMulY fun i j => .int (i * j)) gMul := opS_I (fun i j h => by
  rw [Bool.and_eq_true] at h
  exact ⟨bits_lt h.1, bits_lt h.2⟩) fun _ _ _ _ _ => rep_int
theorem opS_fdiv : OpS W (rI CDivX fun i j => .int (i.fdiv j)) gFdiv := opS_I (fun i j h => by
  rw [Bool.and_eq_true] at h
  exact ⟨of_decide_eq_true h.1, bits_lt h.2⟩) fun _ _ _ _ _ => rep_int
end
def gGcd : List T → Option T
  | [.int a, .int b] => some (.int ((Nat.gcd a.natAbs b.natAbs : Nat) : Int))
  | _ => none
theorem cbA_gcd : CbA rGcd gGcd := fun ts t e => by
  unfold gGcd at e
  split at e
  · cases e; exact ⟨rfl, rfl, fun H Q q => ⟨_, _, rfl, q⟩⟩
  · cases e
/-- == asks some room -/
theorem eqUnits {k : Nat} {A : Around} (hr : Room k A) : A.units + 64 < cLine := by
  have := hr.units
  omega
end TL
namespace TL
open PySem PySem.Spec PyProof.Rows L2 Evl PF
abbrev lr : Lab := (false, true)
section
variable {W : Wd} {R : RR_} {te ta tb : TE} {tx : TA} {ls ls1 ls2 : List Lab} {F Fa : FE} {FL : FI} {Ft : FB} {Fs Fu : FS} {l m n : Lab} {i j k : Nat} {g : Tg}
def fAsgT (F : FE) (g : Tg) : FS := fun τ pot => match F τ pot with
  | some (t, p1) => (match g.put t τ with
    | some τ' => some (.nx τ', p1)
    | none => none)
  | none => none
theorem Stp.clrs {p : Addr} {pot pot' : Pot} {O O' : Ows} {H H' : Hp} (s : Stp p pot O H pot' O' H') (is : List Nat) : Stp p pot O H pot' (clrs is O') H' := { s with own := fun j b h => s.own j b (clrs_sub h) }
theorem smS_asgT (h : Sm W te ls F l) (hi : ∀ i ∈ g.vars, i < ls.length) : SmS W R (tAsg te (tgT W.K g)) ls (fAsgT F g) (setL g.vars l ls) := fun B hB τ pot O σ H E o pot' f D d => by
  unfold fAsgT at f
  split at f
  · rename_i t p1 e
    split at f
    · rename_i τ' e2
      cases f
      exact h B hB τ pot O σ H E _ _ e _ fun v H' n r => tg_put (E.step hB n) hi r e2 (fun σ' H' => D.nx σ' H') fun σ' E' _ => d _ σ' H' ((Stp.of n).clrs _) E'
    · cases f
  · cases f
/-- a body that does not run out -/
def Nox (F : FS) : Prop := ∀ τ pot τ' p1, F τ pot ≠ some (.nx τ', p1)
theorem nox_ret : Nox (fRet F) := fun τ pot τ' p1 h => by
  unfold fRet at h
  split at h <;> cases h
theorem nox_seq (h : Nox Fu) : Nox (fSeq Fs Fu) := fun τ pot τ' p1 e => by
  unfold fSeq at e
  split at e
  · exact h _ _ _ _ e
  · cases e
  · cases e
end
end TL
namespace TL
open PySem PySem.Spec PyProof.Rows L2 Evl PF
def potOk (m : Int) : Bool := decide (0 ≤ m ∧ m < 2147483648)
/-- a draw: the rest of the digits first, then a row of mixed numbers -/
def drawT (A B P P2 D : Int) : List T → M T := fun ts pot => match ts, pot with
  | [.pot, .int n], some (c, m) => if decide (0 < n ∧ n < 1000000) && potOk m then
      (if 0 < c then some (.int (c % n), some (c / n, m)) else some (.int (((m * A + B) % P * ((m * A + B) % P) % P2 / D) % n), some (c, (m * A + B) % P))) else none
  | _, _ => none
theorem drawT_run {A B P P2 D : Int} {ts : List T} {pot pot' : Pot} {t : T} (h : drawT A B P P2 D ts pot = some (t, pot')) : ∃ n c m, ts = [.pot, .int n] ∧ pot = some (c, m) ∧ (0 < n ∧ n < 1000000) ∧ (0 ≤ m ∧ m < 2147483648) ∧
    ((0 < c ∧ t = .int (c % n) ∧ pot' = some (c / n, m)) ∨ (¬ 0 < c ∧ t = .int (((m * A + B) % P * ((m * A + B) % P) % P2 / D) % n) ∧ pot' = some (c, (m * A + B) % P))) := by
  unfold drawT at h
  split at h
  · rename_i n c m
    split at h
    · rename_i e
      rw [Bool.and_eq_true] at e
      refine ⟨n, c, m, rfl, rfl, of_decide_eq_true e.1, of_decide_eq_true e.2, ?_⟩
      split at h
      · rename_i z
        cases h
        exact .inl ⟨z, rfl, rfl⟩
      · rename_i z
        cases h
        exact .inr ⟨z, rfl, rfl⟩
    · cases h
  · cases h
theorem draw_args {W : Wd} {p : Addr} {g : Lab → GD} {H : Hp} {l1 l2 : Lab} {n : Int} {vs : List V} (h : ArgR W p g H [l1, l2] [.pot, .int n] vs) : vs = [.ref p, .int n] := by
  obtain ⟨v, ws, rfl, r1, r2⟩ := argR_cons h
  obtain ⟨w, xs, rfl, r3, r4⟩ := argR_cons r2
  cases argR_nil r4
  rw [rep_pot_iff] at r1
  rw [rep_int_iff] at r3
  rw [r1, r3]
/-- the source is changed -/
theorem nx_pot {p : Addr} {H H' : Hp} {c m c' m' : Int} (hp : H p ≠ none) (e : Exx p H H') (h : H' p = some (.lst [.int c', .int m'])) : Nx p (some (c, m)) H (some (c', m')) H' := by
  refine ⟨fun b o z n => e b o (n.resolve_left (fun y => nomatch y)) z, h, ⟨(fun y => nomatch y), (fun y => nomatch y)⟩, fun b z => ?_⟩
  by_cases q : b = p
  · rw [q, h]; exact fun y => nomatch y
  · cases w : H b with
    | none => exact absurd w z
    | some o => rw [e b o q w]; exact fun y => nomatch y
end TL
namespace TL
open PySem PySem.Spec PyProof.Rows L2 Evl PF
section
variable {W : Wd} {R : RR_} {te ta tb tc : TE} {tx : TA} {ls ls1 ls2 : List Lab} {F Fa Fb Fc : FE} {FL : FI} {l m n : Lab} {i j k : Nat}
def truT : T → Option Bool
  | .non => some false
  | .bl b => some b
  | .int i => some (i != 0)
  | .str s => if s.length ≤ maxLen then some ((s.length : Int) != 0) else none
  | .lst l => some !l.isEmpty
  | .tup l => some !l.isEmpty
  | _ => none
def fTru (F : FE) : FB := fun τ pot => match F τ pot with
  | some (t, p1) => (match truT t with
    | some b => some (b, p1)
    | none => none)
  | none => none
/-- a new list stands aside, known to this evaluation alone -/
theorem EnvR.adopt {B : Bd} {τ : List Sl} {pot pot' : Pot} {O : Ows} {σ : L2.St} {H H' : Hp} {D : Addr} {o : HO} {q : Nat} (hB : B.Ok) (E : EnvR W B ls τ pot O σ H) (nx : Nx B.p pot H pot' H') (hD : H D = none) (hD' : H' D = some o) (hn : σ.length ≤ q) (hz : ∀ i, q ≤ i → O i = none) :
    EnvR W B ls τ pot' (ownAt O q D) σ H' := by
  have E1 := E.step hB nx
  have h0 : B.H0 D = none := by
    cases q : B.H0 D with
    | none => rfl
    | some o => exact absurd hD (E.dom D (by rw [q]; exact fun y => (nomatch y)))
  exact
    { pt := E1.pt
      non := E1.non
      ow := fun j b h => by
        unfold ownAt at h
        split at h
        · cases h
          exact ⟨by rw [hD']; exact fun y => (nomatch y), h0⟩
        · exact E1.ow j b h
      inj := fun j k b h1 h2 => by
        unfold ownAt at h1 h2
        split at h1
        · rename_i e1
          cases h1
          split at h2
          · rename_i e2
            rw [e1, e2]
          · exact absurd hD (E.ow k D h2).1
        · split at h2
          · cases h2
            exact absurd hD (E.ow j D h1).1
          · exact E.inj j k b h1 h2
      fin := ⟨q + 1, by omega, fun i hi => by
        unfold ownAt
        rw [if_neg (by omega)]
        exact hz i (by omega)⟩
      hp := E1.hp
      kp := E1.kp
      dom := E1.dom
      l1 := E1.l1
      l2 := E1.l2
      sl := fun j m s x h1 h2 h3 => by
        have hj := (List.getElem?_eq_some_iff.mp h3).1
        exact SlR.far hB E hD nx (E.sl j m s x h1 h2 h3) (by omega) }
/-- it goes into slot i -/
def mv (O : Ows) (q i : Nat) : Ows := fun k => if k = i then O q else if k = q then none else O k
theorem mv_sub {O : Ows} {q i k : Nat} {a : Addr} (h : mv O q i k = some a) : ∃ j, O j = some a := by
  unfold mv at h
  split at h
  · exact ⟨q, h⟩
  · split at h
    · cases h
    · exact ⟨k, h⟩
theorem gd_sub {B : Bd} {O O2 : Ows} {l : Lab} (h : ∀ k a, O2 k = some a → ∃ j, O j = some a) : ∀ k a, gd B O l k a → gd B O2 l k a := fun k a ⟨h1, h2⟩ => ⟨h1, h2.imp_right fun y j e => by
  obtain ⟨j2, z⟩ := h j a e
  exact y j2 z⟩
theorem EnvR.take {B : Bd} {τ : List Sl} {pot : Pot} {O : Ows} {σ : L2.St} {H : Hp} {q : Nat} {a : Addr} {ts : List T} {vs : List V} (E : EnvR W B ls τ pot O σ H) (hq : σ.length ≤ q) (ha : O q = some a) (hi : i < ls.length) (hv : H a = some (.lst vs)) (r : Reps W B.p (gd B O l) H ts vs) :
    EnvR W B (ls.set i l) (τ.set i (.own ts)) pot (mv O q i) (σ.set i (some (.ref a))) H := by
  have gs : ∀ m, ∀ k b, gd B O m k b → gd B (mv O q i) m k b := fun m => gd_sub fun k a h => mv_sub h
  have hiq : i ≠ q := by have := E.l2; omega
  refine
    { pt := E.pt
      non := E.non
      ow := fun j b h => by
        obtain ⟨j2, z⟩ := mv_sub h
        exact E.ow j2 b z
      inj := fun j k b h1 h2 => by
        unfold mv at h1 h2
        split at h1
        · rename_i e1
          split at h2
          · rename_i e2; rw [e1, e2]
          · split at h2
            · cases h2
            · rename_i e3 e4
              exact absurd (E.inj q k b h1 h2).symm e4
        · split at h1
          · cases h1
          · rename_i e1 e2
            split at h2
            · exact absurd (E.inj j q b h1 h2) e2
            · split at h2
              · cases h2
              · exact E.inj j k b h1 h2
      fin := by
        obtain ⟨n0, h1, h2⟩ := E.fin
        refine ⟨n0, by rw [List.length_set]; exact h1, fun k hk => ?_⟩
        unfold mv
        rw [if_neg (by have := E.l2; omega)]
        split
        · rfl
        · exact h2 k hk
      hp := E.hp
      kp := E.kp
      dom := E.dom
      l1 := by rw [List.length_set, List.length_set]; exact E.l1
      l2 := by rw [List.length_set, List.length_set]; exact E.l2
      sl := fun j m s x h1 h2 h3 => ?_ }
  by_cases e : j = i
  · subst e
    rw [List.getElem?_set_self (by omega)] at h1
    rw [List.getElem?_set_self (by have := E.l1; have := E.l2; omega)] at h2
    rw [List.getElem?_set_self (by have := E.l2; omega)] at h3
    cases h1
    cases h2
    cases h3
    refine ⟨a, vs, ?_, rfl, hv, r.sub (gs l)⟩
    unfold mv
    rw [if_pos rfl]
    exact ha
  · rw [List.getElem?_set_ne (Ne.symm e)] at h1 h2 h3
    have hj := (List.getElem?_eq_some_iff.mp h3).1
    have e0 : mv O q i j = O j := by
      unfold mv
      rw [if_neg e, if_neg (by omega)]
    have z := E.sl j m s x h1 h2 h3
    cases s with
    | no => exact e0.trans z
    | val t =>
      obtain ⟨z0, v, e1, r⟩ := z
      exact ⟨e0.trans z0, v, e1, r.sub (gs m)⟩
    | own ts =>
      obtain ⟨b, us, e1, e2, e3, r⟩ := z
      exact ⟨b, us, e0.trans e1, e2, e3, r.sub (gs m)⟩
    | obj c ts =>
      obtain ⟨b, dx, us, e1, e2, o, e3, hl, r⟩ := z
      exact ⟨b, dx, us, ⟨e0.trans e1.1, e1.2⟩, e2, o, e3, hl, r.sub (gs m)⟩
theorem rep_dm {p : Addr} {G G' : GD} {H H' : Hp} {t : T} {v : V} (r : Rep W p G H t v) (sub : ∀ k b, G k b → H b ≠ none → G' k b) (kp : ∀ k a o, G k a → H a = some o → H' a = some o) : Rep W p G' H' t v :=
  rep_later (X := fun b => ∀ k, ¬ G k b) (fun b o h x => by
    rcases Classical.not_forall.mp x with ⟨k, y⟩
    exact kp k b o (Classical.not_not.mp y) h) sub (fun k b g x => x k g) r
theorem reps_dm {p : Addr} {G G' : GD} {H H' : Hp} {t : List T} {v : List V} (r : Reps W p G H t v) (sub : ∀ k b, G k b → H b ≠ none → G' k b) (kp : ∀ k a o, G k a → H a = some o → H' a = some o) : Reps W p G' H' t v :=
  reps_of r.length fun i t v h1 h2 => by
    obtain ⟨w, e, z⟩ := r.get h1
    rw [h2] at e
    cases e
    exact rep_dm z sub kp
/-- values and new lists, one after another; the new lists stand aside at the places qs -/
def XR (W : Wd) (B : Bd) (O : Ows) (H : Hp) (w : Nat) : List (Lab × Nat) → List Sl → List V → Prop
  | [], [], [] => True
  | (m, _) :: ms, .val t :: ss, v :: vs => Rep W B.p (gd B O m) H t v ∧ XR W B O H w ms ss vs
  | (m, q) :: ms, .own l :: ss, v :: vs => (∃ a us, v = .ref a ∧ O q = some a ∧ w ≤ q ∧ H a = some (.lst us) ∧ Reps W B.p (gd B O m) H l us) ∧ (∀ y ∈ ms, y.2 ≠ q) ∧ XR W B O H w ms ss vs
  | _, _, _ => False
abbrev FX := List Sl → M (List Sl)
def SmX (W : Wd) (ta : TA) (ls : List Lab) (F : FX) (ms : List Lab) : Prop := ∀ (B : Bd), B.Ok → ∀ τ pot O σ H, EnvR W B ls τ pot O σ H → ∀ b, σ.length ≤ b → (∀ i, b ≤ i → O i = none) → ∀ ss pot', F τ pot = some (ss, pot') →
  ∀ Q : List V → Hp → Prop, (∀ vs H' O' qs, EnvR W B ls τ pot' O' σ H' → Nx B.p pot H pot' H' → (∀ k a, O k = some a → O' k = some a) → (∀ k a, O' k = some a → O k = some a ∨ (b ≤ k ∧ H a = none)) → (∀ q ∈ qs, b ≤ q) → qs.length = ms.length →
    XR W B O' H' σ.length (ms.zip qs) ss vs → Q vs H') → ta σ H Q
def fXNil : FX := fun _ pot => some ([], pot)
def fXVal (F : FE) (G : FX) : FX := fun τ pot => match F τ pot with
  | some (t, p1) => (match G τ p1 with
    | some (ss, p2) => some (.val t :: ss, p2)
    | none => none)
  | none => none
def fXOwn (F : FI) (G : FX) : FX := fun τ pot => match F τ pot with
  | some (t, p1) => (match G τ p1 with
    | some (ss, p2) => some (.own t :: ss, p2)
    | none => none)
  | none => none
theorem smX_nil : SmX W tNil ls fXNil [] := fun B hB τ pot O σ H E b _ _ ss pot' f Q q => by
  cases f
  exact q [] H O [] E (Nx.refl E.pt) (fun _ _ h => h) (fun _ _ h => .inl h) (fun _ h => nomatch h) rfl trivial
theorem smX_val {G : FX} {ms : List Lab} (h : Sm W te ls F l) (hx : SmX W tx ls G ms) : SmX W (tCons te tx) ls (fXVal F G) (l :: ms) := fun B hB τ pot O σ H E b hb hz ss pot' f Q q => by
  unfold fXVal at f
  split at f
  case h_2 => cases f
  rename_i t p1 e1
  split at f
  case h_2 => cases f
  rename_i ss2 p2 e2
  cases f
  refine h B hB τ pot O σ H E _ _ e1 _ fun v H1 n1 r1 => ?_
  refine hx B hB τ p1 O σ H1 (E.step hB n1) b hb hz _ _ e2 _ fun vs H2 O2 qs E2 n2 x1 x2 x3 x4 x5 => ?_
  refine q (v :: vs) H2 O2 (b :: qs) E2 (n1.trans n2) x1 (fun k a h => (x2 k a h).imp_right fun z => ⟨z.1, n1.new z.2⟩) (fun k hk => ?_) (by rw [List.length_cons, List.length_cons, x4]) ?_
  · rcases List.mem_cons.mp hk with rfl | hk
    · exact Nat.le_refl _
    · exact x3 k hk
  · refine ⟨?_, x5⟩
    have E1 := E.step hB n1
    have r2 := r1.nx (E1.ct hB l) n2
    -- nothing that is new lies in it
    refine rep_dm r1 (fun k a g hd => ?_) (fun k a o g h => (E1.ct hB l).keep1 n2 k a o g h)
    refine ⟨g.1, g.2.imp_right fun y j e => ?_⟩
    rcases x2 j a e with z | z
    · exact y j z
    · exact hd z.2
theorem smX_own {G : FX} {ms : List Lab} (h : SmF W te ls FL l) (hl : l.2 = false) (hx : SmX W tx ls G ms) : SmX W (tCons te tx) ls (fXOwn FL G) (l :: ms) := fun B hB τ pot O σ H E b hb hz ss pot' f Q q => by
  unfold fXOwn at f
  split at f
  case h_2 => cases f
  rename_i t p1 e1
  split at f
  case h_2 => cases f
  rename_i ss2 p2 e2
  cases f
  refine h B hB τ pot O σ H E _ _ e1 _ fun a us H1 n1 hn ha r1 => ?_
  have E1 := E.adopt hB n1 hn ha hb hz
  refine hx B hB τ p1 _ σ H1 E1 (b + 1) (by omega) (fun i hi => by
    unfold ownAt
    rw [if_neg (by omega)]
    exact hz i (by omega)) _ _ e2 _ fun vs H2 O2 qs E2 n2 x1 x2 x3 x4 x5 => ?_
  have hOb : ownAt O b a b = some a := if_pos rfl
  have hap : B.none ∨ a ≠ B.p := E.pin.imp_right fun z e => z (e ▸ hn)
  refine q (.ref a :: vs) H2 O2 (b :: qs) E2 (n1.trans n2) (fun k c h => x1 k c ?_) (fun k c h => ?_) (fun k hk => ?_) (by rw [List.length_cons, List.length_cons, x4]) ?_
  · unfold ownAt
    split
    · rename_i e
      have := hz b (Nat.le_refl b)
      rw [← e, h] at this
      cases this
    · exact h
  · rcases x2 k c h with z | z
    · unfold ownAt at z
      split at z
      · rename_i e
        cases z
        exact .inr ⟨by omega, hn⟩
      · exact .inl z
    · exact .inr ⟨by omega, n1.new z.2⟩
  · rcases List.mem_cons.mp hk with rfl | hk
    · omega
    · have := x3 k hk; omega
  · refine ⟨⟨a, us, rfl, x1 b a hOb, hb, n2.kept a _ ha (hap.imp_left E1.non.mp), ?_⟩, fun y hy => ?_, x5⟩
    · have r2 : Reps W B.p (gd B (ownAt O b a) l) H1 t us := r1.sub fun k c z => ⟨z.1.1, z.1.2.imp_right fun y j => by
        unfold ownAt
        split
        · exact fun w => z.2 (Option.some.inj w).symm
        · exact y j⟩
      refine reps_dm r2 (fun k c g hd => ?_) (fun k c o g h => (E1.ct hB l).keep1 n2 k c o g h)
      refine ⟨g.1, g.2.imp_right fun y j e => ?_⟩
      rcases x2 j c e with z | z
      · exact y j z
      · exact hd z.2
    · have := (List.of_mem_zip (show (y.1, y.2) ∈ ms.zip qs from hy)).2
      have := x3 _ this
      omega
def setX : List Nat → List Sl → List Sl → Option (List Sl)
  | [], [], τ => some τ
  | i :: is, s :: ss, τ => setX is ss (τ.set i s)
  | _, _, _ => none
def fParX (F : FX) (is : List Nat) : FS := fun τ pot => match F τ pot with
  | some (ss, p1) => (match setX is ss τ with
    | some τ' => some (.nx τ', p1)
    | none => none)
  | none => none
theorem xr_sub {B : Bd} {O O2 : Ows} {H : Hp} {w : Nat} (hs : ∀ k a, O2 k = some a → ∃ j, O j = some a) : ∀ {ms : List (Lab × Nat)} {ss : List Sl} {vs : List V}, (∀ y ∈ ms, w ≤ y.2 → O2 y.2 = O y.2) → XR W B O H w ms ss vs → XR W B O2 H w ms ss vs
  | [], [], [], _, _ => trivial
  | (m, q) :: ms, .val t :: ss, v :: vs, hq, h => by
    have h' : Rep W B.p (gd B O m) H t v ∧ XR W B O H w ms ss vs := h
    exact ⟨h'.1.sub (gd_sub hs), xr_sub hs (fun y hy => hq y (List.mem_cons_of_mem _ hy)) h'.2⟩
  | (m, q) :: ms, .own l :: ss, v :: vs, hq, h => by
    have h' : (∃ a us, v = .ref a ∧ O q = some a ∧ w ≤ q ∧ H a = some (.lst us) ∧ Reps W B.p (gd B O m) H l us) ∧ (∀ y ∈ ms, y.2 ≠ q) ∧ XR W B O H w ms ss vs := h
    obtain ⟨⟨a, us, e1, e2, e3, e4, e5⟩, n1, n2⟩ := h'
    exact ⟨⟨a, us, e1, (hq (m, q) (List.mem_cons_self ..) e3).trans e2, e3, e4, e5.sub (gd_sub hs)⟩, n1, xr_sub hs (fun y hy => hq y (List.mem_cons_of_mem _ hy)) n2⟩
  | [], [], _ :: _, _, h => h.elim
  | [], _ :: _, _, _, h => h.elim
  | _ :: _, [], _, _, h => h.elim
  | _ :: _, .val _ :: _, [], _, h => h.elim
  | _ :: _, .own _ :: _, [], _, h => h.elim
  | _ :: _, .no :: _, _, _, h => h.elim
  | _ :: _, .obj _ _ :: _, _, _, h => h.elim
/-- one of them goes into its slot -/
theorem xr_put {B : Bd} {τ : List Sl} {pot : Pot} {O : Ows} {σ : L2.St} {H : Hp} {ms : List (Lab × Nat)} {s : Sl} {ss : List Sl} {vs : List V} {q : Nat} (E : EnvR W B ls τ pot O σ H) (hi : i < ls.length) (h : XR W B O H σ.length ((m, q) :: ms) (s :: ss) vs) :
    ∃ v ws O', vs = v :: ws ∧ EnvR W B (ls.set i m) (τ.set i s) pot O' (σ.set i (some v)) H ∧ (∀ k a, O' k = some a → ∃ j, O j = some a) ∧ XR W B O' H (σ.set i (some v)).length ms ss ws := by
  have hw : i < σ.length := by have := E.l2; omega
  cases vs with
  | nil => cases s <;> exact h.elim
  | cons v ws =>
    cases s with
    | no => exact h.elim
    | obj _ _ => exact h.elim
    | val t =>
      have h' : Rep W B.p (gd B O m) H t v ∧ XR W B O H σ.length ms ss ws := h
      have hs : ∀ k a, clr O i k = some a → ∃ j, O j = some a := fun k a e => ⟨k, by
        unfold clr at e
        split at e
        · cases e
        · exact e⟩
      refine ⟨v, ws, clr O i, rfl, E.put hi h'.1, hs, ?_⟩
      rw [List.length_set]
      exact xr_sub hs (fun y _ hy => by
        unfold clr
        rw [if_neg (by omega)]) h'.2
    | own l =>
      have h' : (∃ a us, v = .ref a ∧ O q = some a ∧ σ.length ≤ q ∧ H a = some (.lst us) ∧ Reps W B.p (gd B O m) H l us) ∧ (∀ y ∈ ms, y.2 ≠ q) ∧ XR W B O H σ.length ms ss ws := h
      obtain ⟨⟨a, us, rfl, e2, e3, e4, e5⟩, n1, n2⟩ := h'
      refine ⟨_, ws, mv O q i, rfl, E.take e3 e2 hi e4 e5, fun k a e => mv_sub e, ?_⟩
      rw [List.length_set]
      exact xr_sub (fun k a e => mv_sub e) (fun y hy hw2 => by
        unfold mv
        rw [if_neg (by omega), if_neg (n1 y hy)]) n2
theorem EnvR.bound {B : Bd} {τ : List Sl} {pot : Pot} {O : Ows} {σ : L2.St} {H : Hp} (E : EnvR W B ls τ pot O σ H) : ∃ b, σ.length ≤ b ∧ ∀ i, b ≤ i → O i = none := E.fin
theorem stp_of {p : Addr} {pot pot' : Pot} {O O' : Ows} {H H' : Hp} (nx : Nx p pot H pot' H') (h : ∀ k a, O' k = some a → (∃ j, O j = some a) ∨ H a = none) : Stp p pot O H pot' O' H' := ⟨fun b o z n _ => nx.kept b o z n, h, nx.non, nx.dom⟩
theorem smS_parX {F : FX} (h : SmX W tx ls F [l, m]) (hi : i < ls.length) (hj : j < ls.length) : SmS W R (tPar i j tx) ls (fParX F [i, j]) ((ls.set i l).set j m) := fun B hB τ pot O σ H E o pot' f D d => by
  unfold fParX at f
  split at f
  case h_2 => cases f
  rename_i ss p1 e
  split at f
  case h_2 => cases f
  rename_i τ' e2
  cases f
  obtain ⟨b, hb, hz⟩ := E.bound
  refine h B hB τ pot O σ H E b hb hz _ _ e _ fun vs H' O' qs E1 nx x1 x2 x3 x4 x5 => ?_
  match ss, e2, qs, x4 with
  | [s, t], e2, [q, q2], _ =>
    cases e2
    obtain ⟨v, ws, O1, rfl, E2, s2, y2⟩ := xr_put (i := i) E1 hi x5
    obtain ⟨w, us, O3, rfl, E3, s3, y3⟩ := xr_put (i := j) E2 (by rw [List.length_set]; exact hj) y2
    cases us with
    | cons _ _ => exact y3.elim
    | nil =>
      refine ⟨v, w, rfl, d _ _ H' (stp_of nx fun k a h => ?_) E3⟩
      obtain ⟨j1, z1⟩ := s3 k a h
      obtain ⟨j2, z2⟩ := s2 j1 a z1
      rcases x2 j2 a z2 with z | z
      · exact .inl ⟨_, z⟩
      · exact .inr z.2
end
end TL
namespace TL
open PySem PySem.Spec PyProof.Rows L2 Evl PF
/-- only what is true or false -/
def gB (g : T → T → M T) : T → T → M T := fun a b pot => match g a b pot with
  | some (.bl c, p) => some (.bl c, p)
  | _ => none
def gNeO (c : Nat) (F : List T → M T) : T → T → M T := fun a b pot => match gEqO c F a b pot with
  | some (.bl c, p) => some (.bl (!c), p)
  | _ => none
section
variable {W : Wd} {te ta tb : TE} {tx : TA} {ls ms : List Lab} {F : FE} {FL : FI} {l : Lab} {c i : Nat} {fl : List Bool} {G : List T → M T} {E : XK} {r : R2} {g g' : T → T → M T}
theorem opS_B (h : OpS W r g) : OpS W r (gB g) := fun p pot G1 G2 H ct x y a b ra rb t pot' f Q q => by
  unfold gB at f
  split at f
  · rename_i c p' e
    cases f
    exact h p pot G1 G2 H ct x y a b ra rb _ _ e Q q
  · cases f
theorem atS_B : AtS (gB g) := fun a b pot t pot' f => by
  unfold gB at f
  split at f
  · cases f; rfl
  · cases f
theorem atS_or (h : AtS g) (h' : AtS g') : AtS (gOr g g') := fun a b pot t pot' f => by
  unfold gOr at f
  split at f
  · rename_i z e
    cases f
    exact h _ _ _ _ _ e
  · exact h' _ _ _ _ _ f
theorem opS_neO : OpS W (rNeO W.K (W.C c) (spT W G [true, true]) E) (gNeO c G) := fun p pot G1 G2 H ct x y a b ra rb t pot' f Q q => by
  unfold gNeO at f
  split at f
  · rename_i k p' e
    cases f
    have z : rEqO W.K (W.C c) (spT W G [true, true]) E x y H (fun v H1 => ∃ b, v = .bl b ∧ Q (.bl (!b)) H1) := opS_eqO p pot G1 G2 H ct x y a b ra rb _ _ e _ fun v H' n r => by
      rw [rep_bl_iff] at r
      exact ⟨k, r, q _ H' n rep_bl⟩
    exact z
  · cases f
theorem atS_neO : AtS (gNeO c G) := fun a b pot t pot' f => by
  unfold gNeO at f
  split at f
  · cases f; rfl
  · cases f
end
end TL
namespace TL
open PySem PySem.Spec PyProof.Rows L2 Evl PF
def ratText (t b : Int) : Option Str := if bits 1900 t && bits 1900 b then some (("Ratio(" : Str) ++ tS t ++ ", " ++ tS b ++ ")") else none
def RRat (C : Addr) : RO := fun a x H => ∃ dx t b, H a = some (.ins C dx [("_top", .int t), ("_bottom", .int b)]) ∧ ratText t b = some x
theorem rratOk (C : Addr) : ROk (RRat C) where
  up := fun e h => by
    obtain ⟨dx, t, b, h1, h2⟩ := h
    exact ⟨dx, t, b, e _ _ h1, h2⟩
  ins := fun h => by
    obtain ⟨dx, t, b, h1, h2⟩ := h
    exact ⟨C, dx, _, h1⟩
  one := fun h h' => by
    obtain ⟨dx, t, b, h1, h2⟩ := h
    obtain ⟨dx', t', b', h1', h2'⟩ := h'
    rw [h1] at h1'
    cases h1'
    rw [h2] at h2'
    exact Option.some.inj h2'
def leafT : T → Option Str
  | .non => some "None"
  | .bl b => some (if b then "True" else "False")
  | .int i => if i.natAbs.log2 < 1920 then some (toString i) else none
  | .str x => if (reprText x).length ≤ sizeLine then some (reprText x) else none
  | .ins 0 [.int t, .int b] => ratText t b
  | _ => none
def reprN : Nat → T → Option Str
  | 0, t => leafT t
  | n + 1, .lst l => (allM (reprN n) l).map listText
  | n + 1, .tup l => (allM (reprN n) l).map tupleText
  | _ + 1, t => leafT t
def smallD (l : List (Int × Int)) : Bool := l.all fun p => decide (p.1.natAbs.log2 < 1920) && decide (p.2.natAbs.log2 < 1920)
def reprT : T → Option Str
  | .dct l => if smallD l then some (dText l) else none
  | t => reprN 4 t
def fRepr (F : FE) : FE := fun τ pot => match F τ pot with
  | some (t, p1) => (match reprT t with
    | some x => if x.length ≤ sizeLine then some (.str x, p1) else none
    | none => none)
  | none => none
section
variable {W : Wd} {p : Addr} {G : GD} {H : Hp} {te : TE} {ls : List Lab} {F : FE} {l : Lab}
theorem leaf_ins {c : Nat} {l : List T} {x : Str} (e : leafT (.ins c l) = some x) : ∃ t b, c = 0 ∧ l = [.int t, .int b] ∧ ratText t b = some x := by
  cases c with
  | succ c => cases e
  | zero =>
  cases l with
  | nil => cases e
  | cons a l =>
  cases l with
  | nil => cases a <;> cases e
  | cons b l =>
  cases l with
  | cons d l => cases a <;> cases b <;> cases e
  | nil =>
  cases a with
  | int i => cases b with
    | int j => exact ⟨i, j, rfl, rfl, e⟩
    | _ => cases e
  | _ => cases b <;> cases e
theorem leaf_of (nm : W.nm 0 = (["_top", "_bottom"] : List Str)) {t : T} {v : V} {x : Str} (r : Rep W p G H t v) (e : leafT t = some x) : Leaf (RRat (W.C 0)) H v x := by
  cases t with
  | non => rw [rep_non_iff] at r; subst r; cases e; exact .non
  | bl b => rw [rep_bl_iff] at r; subst r; cases e; exact .bl b
  | int i =>
    rw [rep_int_iff] at r
    subst r
    have e' : (if i.natAbs.log2 < 1920 then some ((toString i : String) : Str) else none) = some x := e
    split at e'
    · rename_i h
      cases e'
      exact .int i h
    · cases e'
  | str y =>
    rw [rep_str_iff] at r
    subst r
    have e' : (if (reprText y).length ≤ sizeLine then some (reprText y) else none) = some x := e
    split at e'
    · rename_i h
      cases e'
      exact .str y h
    · cases e'
  | ins c l =>
    obtain ⟨t, b, rfl, rfl, e⟩ := leaf_ins e
    rw [rep_ins_iff] at r
    obtain ⟨a, dx, vs, rfl, _, _, ha, _, rs⟩ := r
    rw [reps_cons_iff] at rs
    obtain ⟨v1, w1, rfl, r1, r2⟩ := rs
    rw [reps_cons_iff] at r2
    obtain ⟨v2, w2, rfl, r3, r4⟩ := r2
    rw [reps_nil_iff] at r4
    rw [rep_int_iff] at r1 r3
    subst r1 r3 r4
    rw [nm] at ha
    exact .own a x ⟨dx, t, b, ha, e⟩
  | _ => exact absurd e (by intro z; cases z)
theorem sh_of (nm : W.nm 0 = (["_top", "_bottom"] : List Str)) : ∀ (n : Nat) {t : T} {v : V} {x : Str}, Rep W p G H t v → reprN n t = some x → Sh (RRat (W.C 0)) H n v x
  | 0, t, v, x, r, e => leaf_of nm r e
  | n + 1, t, v, x, r, e => by
    have go : ∀ {us : List T} {vs : List V} {ts : List Str}, Reps W p G H us vs → allM (reprN n) us = some ts → Paired (Sh (RRat (W.C 0)) H n) vs ts := by
      intro us
      induction us with
      | nil =>
        intro vs ts r e
        rw [reps_nil_iff] at r
        cases e
        subst r
        exact .nil
      | cons u us ih =>
        intro vs ts r e
        rw [reps_cons_iff] at r
        obtain ⟨v, w, rfl, r1, r2⟩ := r
        unfold allM at e
        split at e
        · rename_i a as e1 e2
          cases e
          exact .cons (sh_of nm n r1 e1) (ih r2 e2)
        · cases e
    cases t with
    | lst us =>
      rw [rep_lst_iff] at r
      obtain ⟨a, vs, rfl, _, ha, rs⟩ := r
      have e' : (allM (reprN n) us).map listText = some x := e
      obtain ⟨ts, e1, rfl⟩ := Option.map_eq_some_iff.mp e'
      exact .inr (.inl ⟨a, vs, ts, rfl, ha, go rs e1, rfl⟩)
    | tup us =>
      rw [rep_tup_iff] at r
      obtain ⟨a, vs, rfl, _, ha, rs⟩ := r
      have e' : (allM (reprN n) us).map tupleText = some x := e
      obtain ⟨ts, e1, rfl⟩ := Option.map_eq_some_iff.mp e'
      exact .inr (.inr ⟨a, vs, ts, rfl, ha, go rs e1, rfl⟩)
    | non => exact .inl (leaf_of nm r e)
    | bl b => exact .inl (leaf_of nm r e)
    | int b => exact .inl (leaf_of nm r e)
    | str b => exact .inl (leaf_of nm r e)
    | ins c l => exact .inl (leaf_of nm r e)
    | pot => exact .inl (leaf_of nm r e)
    | dct b => exact .inl (leaf_of nm r e)
    | cls b => exact .inl (leaf_of nm r e)
    | rng _ _ => exact .inl (leaf_of nm r e)
theorem sm_repr (nm : W.nm 0 = (["_top", "_bottom"] : List Str)) (h : Sm W te ls F ltop) : Sm W (tCB (rRep (RRat (W.C 0)) 4) (tCons te tNil)) ls (fRepr F) l := fun B hB τ pot O σ H E t pot' f Q q => by
  unfold fRepr at f
  split at f
  case h_2 => cases f
  rename_i t1 p1 e1
  split at f
  case h_2 => cases f
  rename_i x e2
  split at f
  case isFalse => cases f
  rename_i hx
  cases f
  refine h B hB τ pot O σ H E _ _ e1 _ fun v H1 n r => ?_
  have E1 := E.step hB n
  have fin : ∀ H', Ex H1 H' → Q (.str x) H' := fun H' e => q _ H' (n.trans (Nx.of E1.pt e)) rep_str
  unfold reprT at e2
  split at e2
  · rename_i d
    split at e2
    · rename_i hs
      cases e2
      rw [Rep] at r
      obtain ⟨a, rfl, _, ha⟩ := r
      refine .inr ⟨a, d, rfl, ha, fun y hy => ?_, hx, fin⟩
      have z := List.all_eq_true.mp hs y hy
      rw [Bool.and_eq_true] at z
      exact ⟨of_decide_eq_true z.1, of_decide_eq_true z.2⟩
    · cases e2
  · exact .inl ⟨v, x, rfl, sh_of nm 4 r e2, hx, fin⟩
end
end TL
namespace TL
open PySem PySem.Spec PyProof.Rows L2 Evl PF
def lc2Go (g : Tg) (Ft : FB) (FL1 : FI) (g1 : Tg) (vs1 : List Nat) (Ft1 : FB) (Fe : FE) (τ : List Sl) : List T → M (List T)
  | [], pot => some ([], pot)
  | x :: xs, pot => match g.put x τ with
    | none => none
    | some τ1 => match Ft τ1 pot with
      | none => none
      | some (false, p1) => lc2Go g Ft FL1 g1 vs1 Ft1 Fe τ xs p1
      | some (true, p1) => match FL1 τ1 p1 with
        | none => none
        | some (its, p2) => match wipeT vs1 τ1 with
          | none => none
          | some τ1w => match lcGo g1 Ft1 Fe τ1w its p2 with
            | none => none
            | some (r, p3) => match lc2Go g Ft FL1 g1 vs1 Ft1 Fe τ xs p3 with
              | none => none
              | some (r2, p4) => some (r ++ r2, p4)
def fLc2 (FL : FI) (g : Tg) (vs : List Nat) (Ft : FB) (FL1 : FI) (g1 : Tg) (vs1 : List Nat) (Ft1 : FB) (Fe : FE) : FI := fun τ pot => match FL τ pot with
  | some (its, p1) => (match wipeT vs τ with
    | some τw => (match lc2Go g Ft FL1 g1 vs1 Ft1 Fe τw its p1 with
      | some (t, p2) => if t.length ≤ maxLen then some (t, p2) else none
      | none => none)
    | none => none)
  | none => none
end TL
namespace TL
open PySem PySem.Spec PyProof.Rows L2 Evl PF
section
variable {W : Wd} {R : RR_} {te : TE} {tx : TA} {ls ms : List Lab} {F : FE} {FL : FI} {l m : Lab} {st : Bool}
theorem reps_ints {p : Addr} {G : GD} {H : Hp} : ∀ (ns : List Int), Reps W p G H (ns.map .int) (ns.map V.int)
  | [] => reps_nil
  | n :: ns => reps_cons rep_int (reps_ints ns)
def gLcm : List T → Option T
  | [.int a, .int b] => if 0 ≤ a ∧ 0 ≤ b ∧ a.toNat < 2 ^ 4000 ∧ b.toNat < 2 ^ 4000 then some (.int (Nat.lcm a.toNat b.toNat : Nat)) else none
  | _ => none
end
end TL
namespace TL
open PySem PySem.Spec PyProof.Rows L2 Evl PF
def spPot (K : PySem.W.Frag) : Sp := fun vs H Q _ => ∃ (a : Addr) (k : Int) (ns : List Int), vs = [.ref a, .int k] ∧ SqL K H a (ns.map V.int) ∧ 0 ≤ k ∧ k ≤ 1000 ∧ ∀ l H', H l = none → Ex H H' → PotAt l H' → Q (.ref l) H'
def spLaw (K : PySem.W.Frag) : Sp := fun vs H Q _ => ∃ (a : Addr) (ns : List Int), vs = [.ref a] ∧ SqL K H a (ns.map V.int) ∧ ns.length ≤ 63 ∧ ∀ H', Q (.bl true) H'
/-- from every source, true -/
def AllTrue (F : List T → M T) : Prop := ∀ c m : Int, 0 ≤ m → m < 2147483648 → ∃ pot', F [.pot] (some (c, m)) = some (.bl true, pot')
theorem sp_true {W : Wd} {F : List T → M T} (h : AllTrue F) {l : Addr} {H : Hp} {Q : VK} {E : XK} (hp : PotAt l H) (q : ∀ H', Q (.bl true) H') : spT W F [true] [.ref l] H Q E := by
  obtain ⟨c, m, hl, m0, m1⟩ := hp
  obtain ⟨pot', e⟩ := h c m m0 m1
  refine ⟨l, some (c, m), fun _ b => b ≠ l, fun _ b => b ≠ l, [.pot], .bl true, pot', ⟨hl, .inr (by rw [hl]; exact fun y => (nomatch y)), fun k b hb e => ?_, fun _ _ h => h, .inr fun _ h => h rfl, fun _ h => h⟩, ⟨by rw [Rep], trivial⟩, e, fun v H' n r => ?_⟩
  · subst e
    rw [hl] at hb
    cases hb
  · rw [rep_bl_iff] at r
    subst r
    exact q H'
theorem kw0_of {K : PySem.W.Frag} {x qual : Str} {st : Stmt} {f : Addr} {fd : FuncData} {ps ks : List Str} {g : List Value → List Value} {gV : List V → List V} (F : Fun K x qual st f fd)
    (h : ∀ (kV doc pm : Value) (an : Option Addr) (cdv ct : Value) (ws : List Value), ws.length = ks.length → bindArgs (PySem.W.fnOf x qual (defArgs st) (defBody st) (defScope st) .none kV doc pm an cdv ct) ⟨[], ks.zip ws⟩ = pure (ps.zip (g ws)))
    (r : ∀ {zs : List V} {ws : List Value}, zs.length = ks.length → Vals zs ws → Vals (gV zs) (g ws)) : KW0 K fd ps ks g gV := by
  obtain ⟨oc, od, kV, doc, pm, an, cdv, ct, osl, rfl, lk, hcd⟩ := F.ex
  exact ⟨fun s ws _ l => .of_eq (h kV doc pm an cdv ct ws l), r⟩
theorem vals_perm {zs : List V} {ws : List Value} (r : Vals zs ws) : ∀ is : List Nat, Vals (permV is zs) (is.filterMap fun i => ws[i]?)
  | [] => .nil
  | i :: is => by
    have ih := vals_perm r is
    unfold permV at ih ⊢
    rw [List.filterMap_cons, List.filterMap_cons]
    cases h : zs[i]? with
    | none =>
      have : ws[i]? = none := by
        rw [List.getElem?_eq_none_iff] at h ⊢
        have := r.length
        omega
      rw [this]
      exact ih
    | some v =>
      obtain ⟨u, e, z⟩ := r.get h
      rw [e]
      exact .cons z ih
theorem cls_some {K : PySem.W.Frag} {C : Addr} (h : PySem.W.hasDictIn K C = true) : (PySem.W.clsIn K C).isSome = true := by
  have h' : (PySem.W.clsIn K C).any (·.hasDict) = true := h
  cases e : PySem.W.clsIn K C with
  | none => rw [e] at h'; cases h'
  | some d => rfl
end TL
namespace TL
open PySem PySem.Spec PyProof.Rows L2 Evl PF
def sqKT : T → Option (Bool × List T)
  | .lst l => some (true, l)
  | .tup l => some (false, l)
  | _ => none
def fZipM (F : FI) : FI := fun τ pot => match F τ pot with
  | some ([a, b], p1) => (match sqKT a, sqKT b with
    | some (_, ts), some (_, us) => some (ts.zipWith (fun t u => .tup [t, u]) us, p1)
    | _, _ => none)
  | _ => none
end TL
namespace TLN
open PySem PySem.SeqAt
open AutoSeq1 (wpAny_loadPart')
open MeetsSeq MeetsSeq2 MeetsSeq3 SeqRoads2
def ListB (P : Program) (w : World) (A : Around) (E : Value → Shared → Prop) (l b : Addr) (N : Nat) (e : Nat → Bool) (I : Nat → Shared → Prop) : Prop :=
  ∀ i s, I i s → ∃ (xs ys : Array Value) (n n2 : Nat), s.heap.get? l = some { cls := .type "list", data := .seq xs n } ∧ s.heap.get? b = some { cls := .type "list", data := .seq ys n2 } ∧ xs.size = N ∧ ys.size = N ∧
    ∀ (h1 : i < xs.size) (h2 : i < ys.size), wpAny (model P w) A.in1 (eqBool xs[i] ys[i]) (fun r s' => r = e i ∧ I (i + 1) s') E s
theorem all_true_of {N : Nat} {e : Nat → Bool} (h : ∀ j, j < N → e j = true) : (List.range N).all e = true := by
  rw [List.all_eq_true]
  intro j hj
  exact h j (List.mem_range.mp hj)
theorem all_false_of {N i : Nat} {e : Nat → Bool} (h : i < N) (he : e i = false) : (List.range N).all e = false := by
  rw [List.all_eq_false]
  exact ⟨i, List.mem_range.mpr h, by rw [he]; decide⟩
section
variable {P : Program} {w : World} {A : Around} {R : Result → Shared → Prop}
theorem turnsE (l b : Addr) (N : Nat) (e : Nat → Bool) (J : Nat → Shared → Prop) (hJ : ListB P w A (fun e z => R (.error e) z) l b N e J) (v : Bool) (hv : (List.range N).all e = v) (last : ∀ i s, J i s → R (.ok (.ret (.bool v))) s) (k : Nat) :
    ∀ i : Nat, N - i = k → i ≤ N → (∀ j, j < i → e j = true) → ∀ s, J i s → wpAny (model P w) A.in1 (Builtin.«list.__eq__.loop» ⟨[.ref l, .ref b, rawInt i, rawInt 2], []⟩) (GQ.FinOf P w A R) (fun e z => R (.error e) z) s := by
  induction k with
  | zero =>
    intro i hk hi he s q
    obtain ⟨xs, ys, n, n2, g1, g2, z1, z2, _⟩ := hJ _ _ q
    have ei : i = N := by omega
    have hv1 : v = true := by rw [← hv]; exact all_true_of (fun j hj => he j (by omega))
    have fin := last i s q
    rw [hv1] at fin
    obtain ⟨hp, g, d, tk, os⟩ := s
    wp_walk using wpAny_loadPart' g1, wpAny_loadPart' g2
    have x1 : xs[((i : Nat) : Int).toNat]? = none := by simp; omega
    have x2 : ys[((i : Nat) : Int).toNat]? = none := by simp; omega
    rw [x1, x2]
    wp_walk using wpAny_loadPart' g1, wpAny_loadPart' g2
    show R (.ok (.ret (.bool (xs.size == ys.size)))) _
    rw [z1, z2]
    simpa using fin
  | succ k ih =>
    intro i hk hi he s q
    obtain ⟨xs, ys, n, n2, g1, g2, z1, z2, one⟩ := hJ _ _ q
    have l1 : i < xs.size := by omega
    have l2 : i < ys.size := by omega
    have h1 := one l1 l2
    obtain ⟨hp, g, d, tk, os⟩ := s
    wp_walk using wpAny_loadPart' g1, wpAny_loadPart' g2
    have x1 : xs[((i : Nat) : Int).toNat]? = some xs[i] := by simp [l1]
    have x2 : ys[((i : Nat) : Int).toNat]? = some ys[i] := by simp [l2]
    have c : ((i : Int) + 1) = ((i + 1 : Nat) : Int) := by omega
    rw [x1, x2]
    refine wpAny_bind (wpAny_mono h1 (fun r s2 y => ?_) fun _ _ x => x)
    obtain ⟨hr, y⟩ := y
    subst hr
    obtain ⟨us, vs, m, m2, f1, f2, w1, w2, _⟩ := hJ _ _ y
    have fin := last _ _ y
    cases hei : e i with
    | true =>
      have back := ih (i + 1) (by omega) (by omega) (fun j hj => by
        rcases Nat.lt_or_ge j i with h | h
        · exact he j h
        · have : j = i := by omega
          rw [this]; exact hei) s2 y
      obtain ⟨hp2, g', d2, tk2, os2⟩ := s2
      wp_walk
      rw [c]
      refine ⟨plainId_quiet plain_eq_loop _, codeAny_builtin entry_eq_loop ?_⟩
      rw [Around.under_plainId plain_eq_loop _]
      exact back
    | false =>
      have hv0 : v = false := by rw [← hv]; exact all_false_of (i := i) (by omega) hei
      rw [hv0] at fin
      have k1 : i < us.size := by omega
      have k2 : i < vs.size := by omega
      obtain ⟨hp2, g', d2, tk2, os2⟩ := s2
      wp_walk using wpAny_loadPart' f1, wpAny_loadPart' f2
      have y1 : us[((i : Nat) : Int).toNat]? = some us[i] := by simp [k1]
      have y2 : vs[((i : Nat) : Int).toNat]? = some vs[i] := by simp [k2]
      rw [y1, y2]
      wp_walk
      exact fin
theorem turnsN (l b : Addr) (N : Nat) (e : Nat → Bool) (J : Nat → Shared → Prop) (hJ : ListB P w A (fun e z => R (.error e) z) l b N e J) (v : Bool) (hv : (List.range N).all e = v) (last : ∀ i s, J i s → R (.ok (.ret (.bool (!v)))) s) (k : Nat) :
    ∀ i : Nat, N - i = k → i ≤ N → (∀ j, j < i → e j = true) → ∀ s, J i s → wpAny (model P w) A.in1 (Builtin.«list.__eq__.loop» ⟨[.ref l, .ref b, rawInt i, rawInt 3], []⟩) (GQ.FinOf P w A R) (fun e z => R (.error e) z) s := by
  induction k with
  | zero =>
    intro i hk hi he s q
    obtain ⟨xs, ys, n, n2, g1, g2, z1, z2, _⟩ := hJ _ _ q
    have ei : i = N := by omega
    have hv1 : v = true := by rw [← hv]; exact all_true_of (fun j hj => he j (by omega))
    have fin := last i s q
    rw [hv1] at fin
    obtain ⟨hp, g, d, tk, os⟩ := s
    wp_walk using wpAny_loadPart' g1, wpAny_loadPart' g2
    have x1 : xs[((i : Nat) : Int).toNat]? = none := by simp; omega
    have x2 : ys[((i : Nat) : Int).toNat]? = none := by simp; omega
    rw [x1, x2]
    wp_walk using wpAny_loadPart' g1, wpAny_loadPart' g2
    show R (.ok (.ret (.bool (xs.size != ys.size)))) _
    rw [z1, z2]
    simpa using fin
  | succ k ih =>
    intro i hk hi he s q
    obtain ⟨xs, ys, n, n2, g1, g2, z1, z2, one⟩ := hJ _ _ q
    have l1 : i < xs.size := by omega
    have l2 : i < ys.size := by omega
    have h1 := one l1 l2
    obtain ⟨hp, g, d, tk, os⟩ := s
    wp_walk using wpAny_loadPart' g1, wpAny_loadPart' g2
    have x1 : xs[((i : Nat) : Int).toNat]? = some xs[i] := by simp [l1]
    have x2 : ys[((i : Nat) : Int).toNat]? = some ys[i] := by simp [l2]
    have c : ((i : Int) + 1) = ((i + 1 : Nat) : Int) := by omega
    rw [x1, x2]
    refine wpAny_bind (wpAny_mono h1 (fun r s2 y => ?_) fun _ _ x => x)
    obtain ⟨hr, y⟩ := y
    subst hr
    obtain ⟨us, vs, m, m2, f1, f2, w1, w2, _⟩ := hJ _ _ y
    have fin := last _ _ y
    cases hei : e i with
    | true =>
      have back := ih (i + 1) (by omega) (by omega) (fun j hj => by
        rcases Nat.lt_or_ge j i with h | h
        · exact he j h
        · have : j = i := by omega
          rw [this]; exact hei) s2 y
      obtain ⟨hp2, g', d2, tk2, os2⟩ := s2
      wp_walk
      rw [c]
      refine ⟨plainId_quiet plain_eq_loop _, codeAny_builtin entry_eq_loop ?_⟩
      rw [Around.under_plainId plain_eq_loop _]
      exact back
    | false =>
      have hv0 : v = false := by rw [← hv]; exact all_false_of (i := i) (by omega) hei
      rw [hv0] at fin
      have k1 : i < us.size := by omega
      have k2 : i < vs.size := by omega
      obtain ⟨hp2, g', d2, tk2, os2⟩ := s2
      wp_walk using wpAny_loadPart' f1, wpAny_loadPart' f2
      have y1 : us[((i : Nat) : Int).toNat]? = some us[i] := by simp [k1]
      have y2 : vs[((i : Nat) : Int).toNat]? = some vs[i] := by simp [k2]
      rw [y1, y2]
      wp_walk
      exact fin
theorem listE (l b : Addr) (N : Nat) (e : Nat → Bool) (J : Nat → Shared → Prop) (hJ : ListB P w A (fun e z => R (.error e) z) l b N e J) (v : Bool) (hv : (List.range N).all e = v) (last : ∀ i s, J i s → R (.ok (.ret (.bool v))) s) {s : Shared} (q : J 0 s) :
    wpAny (model P w) A.in1 (Builtin.«list.__eq__» ⟨[.ref l, .ref b], []⟩) (GQ.FinOf P w A R) (fun e z => R (.error e) z) s := by
  obtain ⟨xs, ys, n, n2, g1, g2, z1, z2, _⟩ := hJ _ _ q
  have back := turnsE (A := A) (R := R) l b N e J hJ v hv last _ 0 rfl (Nat.zero_le _) (fun j hj => absurd hj (Nat.not_lt_zero _)) s q
  obtain ⟨hp, g, d, tk, os⟩ := s
  have sub := AutoSeq1.sub_list_list
  have ne : ¬ (xs.size != ys.size) = true := by simp [z1, z2]
  wp_walk using wpAny_loadPart' g1, wpAny_loadPart' g2
  refine ⟨plainId_quiet plain_eq_loop _, codeAny_builtin entry_eq_loop ?_⟩
  rw [Around.under_plainId plain_eq_loop _]
  exact back
theorem listN (l b : Addr) (N : Nat) (e : Nat → Bool) (J : Nat → Shared → Prop) (hJ : ListB P w A (fun e z => R (.error e) z) l b N e J) (v : Bool) (hv : (List.range N).all e = v) (last : ∀ i s, J i s → R (.ok (.ret (.bool (!v)))) s) {s : Shared} (q : J 0 s) :
    wpAny (model P w) A.in1 (Builtin.«list.__ne__» ⟨[.ref l, .ref b], []⟩) (GQ.FinOf P w A R) (fun e z => R (.error e) z) s := by
  obtain ⟨xs, ys, n, n2, g1, g2, z1, z2, _⟩ := hJ _ _ q
  have back := turnsN (A := A) (R := R) l b N e J hJ v hv last _ 0 rfl (Nat.zero_le _) (fun j hj => absurd hj (Nat.not_lt_zero _)) s q
  obtain ⟨hp, g, d, tk, os⟩ := s
  have sub := AutoSeq1.sub_list_list
  have ne : ¬ (xs.size != ys.size) = true := by simp [z1, z2]
  wp_walk using wpAny_loadPart' g1, wpAny_loadPart' g2
  refine ⟨plainId_quiet plain_eq_loop _, codeAny_builtin entry_eq_loop ?_⟩
  rw [Around.under_plainId plain_eq_loop _]
  exact back
theorem listE0 {l b : Addr} {xs ys : Array Value} {n n2 : Nat} {s : Shared} (g1 : s.heap.get? l = some { cls := .type "list", data := .seq xs n }) (g2 : s.heap.get? b = some { cls := .type "list", data := .seq ys n2 }) (hz : xs.size ≠ ys.size) (fin : R (.ok (.ret (.bool false))) s) :
    wpAny (model P w) A.in1 (Builtin.«list.__eq__» ⟨[.ref l, .ref b], []⟩) (GQ.FinOf P w A R) (fun e z => R (.error e) z) s := by
  obtain ⟨hp, g, d, tk, os⟩ := s
  have sub := AutoSeq1.sub_list_list
  have ne : (xs.size != ys.size) = true := by simp [hz]
  wp_walk using wpAny_loadPart' g1, wpAny_loadPart' g2
  exact fin
theorem listN0 {l b : Addr} {xs ys : Array Value} {n n2 : Nat} {s : Shared} (g1 : s.heap.get? l = some { cls := .type "list", data := .seq xs n }) (g2 : s.heap.get? b = some { cls := .type "list", data := .seq ys n2 }) (hz : xs.size ≠ ys.size) (fin : R (.ok (.ret (.bool true))) s) :
    wpAny (model P w) A.in1 (Builtin.«list.__ne__» ⟨[.ref l, .ref b], []⟩) (GQ.FinOf P w A R) (fun e z => R (.error e) z) s := by
  obtain ⟨hp, g, d, tk, os⟩ := s
  have sub := AutoSeq1.sub_list_list
  have ne : (xs.size != ys.size) = true := by simp [hz]
  wp_walk using wpAny_loadPart' g1, wpAny_loadPart' g2
  exact fin
end
theorem rcE {P : Program} {w : World} {A : Around} {E : Value → Shared → Prop} {s : Shared} {l b : Addr} {N : Nat} {Q : Value → Shared → Prop} (hu : A.units < cLine) (e : Nat → Bool) (J : Nat → Shared → Prop) (hJ : ListB P w A E l b N e J) (v : Bool) (hv : (List.range N).all e = v)
    (last : ∀ i s, J i s → Q (.bool v) s) (q : J 0 s) : wpAny (model P w) A (richCompare .Eq (.ref l) (.ref b)) Q E s := by
  obtain ⟨xs, ys, n, n2, g1, g2, _, _, _⟩ := hJ _ _ q
  refine wpAny_richCompare_same_room (op := .Eq) ⟨_, g1, rfl⟩ ⟨_, g2, rfl⟩ F.slot_list_eq (GQ.call_here F.slot_list_eq ⟨_, g1, rfl⟩ F.entry_list_eq (F.args_list_eq_2 _ _) ?_) hu
  exact listE (R := wants (fun v z => v ≠ .notImplemented ∧ Q v z) E) l b N e J hJ v hv (fun i z y => ⟨(fun x => nomatch x), last i z y⟩) q
theorem rcE0 {P : Program} {w : World} {A : Around} {E : Value → Shared → Prop} {s : Shared} {l b : Addr} {xs ys : Array Value} {n n2 : Nat} {Q : Value → Shared → Prop} (hu : A.units < cLine) (g1 : s.heap.get? l = some { cls := .type "list", data := .seq xs n }) (g2 : s.heap.get? b = some { cls := .type "list", data := .seq ys n2 }) (hz : xs.size ≠ ys.size)
    (q : Q (.bool false) s) : wpAny (model P w) A (richCompare .Eq (.ref l) (.ref b)) Q E s := by
  refine wpAny_richCompare_same_room (op := .Eq) ⟨_, g1, rfl⟩ ⟨_, g2, rfl⟩ F.slot_list_eq (GQ.call_here F.slot_list_eq ⟨_, g1, rfl⟩ F.entry_list_eq (F.args_list_eq_2 _ _) ?_) hu
  exact listE0 (R := wants (fun v z => v ≠ .notImplemented ∧ Q v z) E) g1 g2 hz ⟨(fun x => nomatch x), q⟩
theorem rcN {P : Program} {w : World} {A : Around} {E : Value → Shared → Prop} {s : Shared} {l b : Addr} {N : Nat} {Q : Value → Shared → Prop} (hu : A.units < cLine) (e : Nat → Bool) (J : Nat → Shared → Prop) (hJ : ListB P w A E l b N e J) (v : Bool) (hv : (List.range N).all e = v)
    (last : ∀ i s, J i s → Q (.bool (!v)) s) (q : J 0 s) : wpAny (model P w) A (richCompare .NotEq (.ref l) (.ref b)) Q E s := by
  obtain ⟨xs, ys, n, n2, g1, g2, _, _, _⟩ := hJ _ _ q
  refine wpAny_richCompare_same_room (op := .NotEq) ⟨_, g1, rfl⟩ ⟨_, g2, rfl⟩ F.slot_list_ne (GQ.call_here F.slot_list_ne ⟨_, g1, rfl⟩ F.entry_list_ne (F.args_list_ne_2 _ _) ?_) hu
  exact listN (R := wants (fun v z => v ≠ .notImplemented ∧ Q v z) E) l b N e J hJ v hv (fun i z y => ⟨(fun x => nomatch x), last i z y⟩) q
theorem rcN0 {P : Program} {w : World} {A : Around} {E : Value → Shared → Prop} {s : Shared} {l b : Addr} {xs ys : Array Value} {n n2 : Nat} {Q : Value → Shared → Prop} (hu : A.units < cLine) (g1 : s.heap.get? l = some { cls := .type "list", data := .seq xs n }) (g2 : s.heap.get? b = some { cls := .type "list", data := .seq ys n2 }) (hz : xs.size ≠ ys.size)
    (q : Q (.bool true) s) : wpAny (model P w) A (richCompare .NotEq (.ref l) (.ref b)) Q E s := by
  refine wpAny_richCompare_same_room (op := .NotEq) ⟨_, g1, rfl⟩ ⟨_, g2, rfl⟩ F.slot_list_ne (GQ.call_here F.slot_list_ne ⟨_, g1, rfl⟩ F.entry_list_ne (F.args_list_ne_2 _ _) ?_) hu
  exact listN0 (R := wants (fun v z => v ≠ .notImplemented ∧ Q v z) E) g1 g2 hz ⟨(fun x => nomatch x), q⟩
end TLN
namespace TLN
open PySem PySem.SeqAt
open AutoSeq1 (wpAny_loadPart')
open MeetsSeq MeetsSeq2 MeetsSeq3 SeqRoads2
section
variable {prog : Program} {w : World} {A : Around} {R : Result → Shared → Prop}
theorem tuple_eqB (l b : Addr) (items items2 : Array Value) (n n2 : Nat) (dd dd2 : Option Addr) (sl sl2 : Array (Option Value)) (hsz : items.size = items2.size) (e : Nat → Bool) (I : Nat → Shared → Prop)
    (turn : ∀ i (h1 : i < items.size) (h2 : i < items2.size) s, I i s → wpAny (model prog w) A.in1 (eqBool items[i] items2[i]) (fun r s' => r = e i ∧ I (i + 1) s') (fun e s' => R (.error e) s') s)
    (v : Bool) (hv : (List.range items.size).all e = v) (fin : ∀ i s, I i s → R (.ok (.ret (.bool v))) s) {s : Shared} (hl1 : s.heap.get? l = some { cls := .type "tuple", dict := dd, data := .seq items n, slots := sl }) (hb1 : s.heap.get? b = some { cls := .type "tuple", dict := dd2, data := .seq items2 n2, slots := sl2 }) (h : I 0 s) :
    wpAny (model prog w) A.in1 (Builtin.«tuple.__eq__» ⟨[.ref l, .ref b], []⟩) (GQ.FinOf prog w A R) (fun e s' => R (.error e) s') s := by
  have f2 := AutoSeq1.sub_tuple_tuple
  have hZ : (items.toList.zip items2.toList).length = items.size := by simp [hsz]
  have h0 := h
  obtain ⟨hp, g, d, tk, os⟩ := s
  wp_walk using wpAny_loadPart' hl1, wpAny_loadPart' hb1, wpAny_forIn_list _ (fun rest b s' => b.1 = none ∧ ∃ i, rest = (items.toList.zip items2.toList).drop i ∧ i ≤ items.size ∧ (∀ j, j < i → e j = true) ∧ I i s') _
  case turn =>
    rintro ⟨y, x⟩ rest b s' ⟨hb', i, hz, hi, hall, hI⟩
    have hlt : i < (items.toList.zip items2.toList).length := by
      rcases Nat.lt_or_ge i (items.toList.zip items2.toList).length with h' | h'
      · exact h'
      · rw [List.drop_of_length_le h'] at hz; cases hz
    have h1 : i < items.size := hZ ▸ hlt
    have h2 : i < items2.size := hsz ▸ h1
    rw [List.drop_eq_getElem_cons hlt] at hz
    injection hz with hyx hrest
    have hy : y = items[i] := by have := congrArg Prod.fst hyx; simpa using this
    have hx : x = items2[i] := by have := congrArg Prod.snd hyx; simpa using this
    subst hy hx
    refine wpAny_bind (wpAny_mono (turn i h1 h2 s' hI) (fun r s2 q2 => ?_) fun _ _ x => x)
    obtain ⟨hr, q2⟩ := q2
    subst hr
    have hfin := fin _ _ q2
    cases hei : e i with
    | true =>
      wp_walk
      refine ⟨rfl, i + 1, hrest, h1, fun j hj => ?_, q2⟩
      rcases Nat.lt_or_ge j i with h | h
      · exact hall j h
      · have : j = i := by omega
        rw [this]; exact hei
    | false =>
      have hv0 : v = false := by rw [← hv]; exact all_false_of h1 hei
      rw [hv0] at hfin
      wp_walk
      exact hfin
  case fin =>
    rintro ⟨b1, b2⟩ s' ⟨hb', i, hz, hi, hall, hI⟩
    simp only at hb'
    subst hb'
    have hge : items.size ≤ i := by
      rcases Nat.lt_or_ge i (items.toList.zip items2.toList).length with h' | h'
      · rw [List.drop_eq_getElem_cons h'] at hz; cases hz
      · exact hZ ▸ h'
    have hi' : i = items.size := by omega
    have hv1 : v = true := by rw [← hv]; exact all_true_of (fun j hj => hall j (by omega))
    have hR := fin _ _ hI
    rw [hv1] at hR
    wp_walk
    simpa [Builtin.Tuple.tupleCompareSizes, hsz] using hR
  case h =>
    exact ⟨rfl, 0, rfl, Nat.zero_le _, fun j hj => absurd hj (Nat.not_lt_zero _), h0⟩
end
section
variable {prog : Program} {w : World} {A : Around} {E : Value → Shared → Prop} {s : Shared}
theorem rcT {l b : Addr} {items items2 : Array Value} {Q : Value → Shared → Prop} (hsz : items.size = items2.size) (hu : A.units < cLine) (e : Nat → Bool) (I : Nat → Shared → Prop)
    (hl : s.heap.IsTuple l items) (hb : s.heap.IsTuple b items2)
    (turn : ∀ i (h1 : i < items.size) (h2 : i < items2.size) s, I i s → wpAny (model prog w) A.in1 (eqBool items[i] items2[i]) (fun r s' => r = e i ∧ I (i + 1) s') E s)
    (v : Bool) (hv : (List.range items.size).all e = v) (fin : ∀ i s, I i s → Q (.bool v) s) (h : I 0 s) : wpAny (model prog w) A (richCompare .Eq (.ref l) (.ref b)) Q E s := by
  obtain ⟨⟨cls, dd, data, sl⟩, ho, hc, n, hd⟩ := id hl
  obtain ⟨⟨cls2, dd2, data2, sl2⟩, ho2, hc2, n2, hd2⟩ := id hb
  simp only at hc hd hc2 hd2
  subst hc hd hc2 hd2
  refine wpAny_richCompare_same_room (op := .Eq) ⟨_, ho, rfl⟩ ⟨_, ho2, rfl⟩ F.slot_tuple_eq (GQ.call_here F.slot_tuple_eq ⟨_, ho, rfl⟩ F.entry_tuple_eq (F.args_tuple_eq_2 _ _) ?_) hu
  exact tuple_eqB (R := wants (fun v s' => v ≠ .notImplemented ∧ Q v s') E) l b items items2 n n2 dd dd2 sl sl2 hsz e I turn v hv (fun i s' q => ⟨(fun x => nomatch x), fin i s' q⟩) ho ho2 h
end
end TLN
namespace TL
open PySem PySem.Spec PyProof.Rows L2 Evl PF
abbrev Eqd := V → V → Hp → Bool → Prop
def MonB (D : Eqd) : Prop := ∀ x y H H' r, Ext H H' → D x y H r → D x y H' r
/-- a thing is equal to itself -/
def Rfl (D : Eqd) : Prop := ∀ x H r, D x x H r → r = true
def EqB (X : Cx) (n : Nat) (D : Eqd) : Prop :=
  ∀ (A : Around) (pins : List (Addr × Obj)) (s : Shared) (σ : L2.St) (H : Hp) (x y : V) (u v : Value) (r : Bool), Sub X n A → Inv X pins σ H s → RelV x u → RelV y v → D x y H r →
    wpAny (model X.prog X.w) A (eqBool u v) (fun b s' => b = r ∧ LoopI X pins σ H s') X.xe s
def RcB (X : Cx) (n : Nat) (D : Eqd) : Prop :=
  ∀ (A : Around) (pins : List (Addr × Obj)) (s : Shared) (σ : L2.St) (H : Hp) (x y : V) (u v : Value) (r : Bool), Sub X n A → Inv X pins σ H s → RelV x u → RelV y v → D x y H r →
    wpAny (model X.prog X.w) A (richCompare .Eq u v) (fun b s' => b = .bool r ∧ LoopI X pins σ H s') X.xe s
section
variable {X : Cx} {n m : Nat} {D D' : Eqd}
theorem EqB.mono (h : EqB X n D) (hn : n ≤ m) : EqB X m D := fun A pins s σ H x y u v r sb => h A pins s σ H x y u v r (sb.mono hn)
theorem EqB.or (h : EqB X n D) (h' : EqB X n D') : EqB X n (fun x y H r => D x y H r ∨ D' x y H r) := fun A pins s σ H x y u v r sb I rx ry d => by
  rcases d with d | d
  · exact h A pins s σ H x y u v r sb I rx ry d
  · exact h' A pins s σ H x y u v r sb I rx ry d
theorem MonB.or (h : MonB D) (h' : MonB D') : MonB (fun x y H r => D x y H r ∨ D' x y H r) := fun x y H H' r e d => d.elim (fun d => .inl (h x y H H' r e d)) fun d => .inr (h' x y H H' r e d)
theorem Rfl.or (h : Rfl D) (h' : Rfl D') : Rfl (fun x y H r => D x y H r ∨ D' x y H r) := fun x H r d => d.elim (h x H r) (h' x H r)
def BFlat : Eqd := fun x y _ r => flatV x = true ∧ flatV y = true ∧ eqV x y = r
theorem monB_flat : MonB BFlat := fun _ _ _ _ _ _ d => d
theorem eqB_flat : EqB X 0 BFlat := by
  intro A pins s σ H x y u v r sb I rx ry d
  obtain ⟨fx, fy, e⟩ := d
  have q := eqAt_V (A := A) (s := s) rx ry fx fy
  rw [e] at q
  exact q X.prog X.w X.xe _ ⟨rfl, H, I, Ext.rfl'⟩
def PrB (D : Eqd) (xs ys : List V) (H : Hp) (r : Bool) : Prop := xs.length = ys.length ∧ ∃ e : Nat → Bool, (∀ (i : Nat) x y, xs[i]? = some x → ys[i]? = some y → D x y H (e i)) ∧ (List.range xs.length).all e = r
theorem PrB.mon (hD : MonB D) {xs ys : List V} {H H' : Hp} {r : Bool} (e : Ext H H') (p : PrB D xs ys H r) : PrB D xs ys H' r := by
  obtain ⟨hl, f, h, hr⟩ := p
  exact ⟨hl, f, fun i x y h1 h2 => hD x y H H' _ e (h i x y h1 h2), hr⟩
theorem PrB.nil {H : Hp} : PrB D [] [] H true := ⟨rfl, fun _ => true, fun i x y h _ => by simp at h, rfl⟩
theorem PrB.cons {x y : V} {xs ys : List V} {H : Hp} {a b : Bool} (h : D x y H a) (p : PrB D xs ys H b) : PrB D (x :: xs) (y :: ys) H (a && b) := by
  obtain ⟨hl, f, hf, hr⟩ := p
  refine ⟨by rw [List.length_cons, List.length_cons, hl], fun i => Nat.casesOn i a f, fun i u v h1 h2 => ?_, ?_⟩
  · cases i with
    | zero =>
      simp at h1 h2
      subst h1; subst h2
      exact h
    | succ i =>
      simp at h1 h2
      exact hf i u v h1 h2
  · rw [List.length_cons, List.range_succ_eq_map, List.all_cons, List.all_map, ← hr]
    rfl
theorem PrB.rfl' (hD : Rfl D) {xs : List V} {H : Hp} {r : Bool} (p : PrB D xs xs H r) : r = true := by
  obtain ⟨_, f, hf, hr⟩ := p
  rw [← hr, List.all_eq_true]
  intro i hi
  have hi' : i < xs.length := List.mem_range.mp hi
  exact hD _ _ _ (hf i _ _ (List.getElem?_eq_getElem hi') (List.getElem?_eq_getElem hi'))
theorem turnB (hD : MonB D) (h : EqB X n D) {A : Around} (sb : Sub X (n + 1) A) {pins : List (Addr × Obj)} {σ : L2.St} {H : Hp} {xs ys : List V} {its its2 : List Value} {e : Nat → Bool} (p : ∀ (i : Nat) x y, xs[i]? = some x → ys[i]? = some y → D x y H (e i)) (r : Vals xs its) (r2 : Vals ys its2)
    (i : Nat) (h1 : i < its.toArray.size) (h2 : i < its2.toArray.size) (s' : Shared) (l : LoopI X pins σ H s') :
    wpAny (model X.prog X.w) A.in1 (eqBool its.toArray[i] its2.toArray[i]) (fun r s2 => r = e i ∧ LoopI X pins σ H s2) X.xe s' := by
  obtain ⟨H1, I1, e1⟩ := l
  have g1 : its[i]? = some its.toArray[i] := by
    have h1' : i < its.length := by simpa using h1
    rw [List.getElem?_eq_getElem h1'] <;> simp
  have g2 : its2[i]? = some its2.toArray[i] := by
    have h2' : i < its2.length := by simpa using h2
    rw [List.getElem?_eq_getElem h2'] <;> simp
  have k1 : i < xs.length := by rw [r.length]; simpa using h1
  have k2 : i < ys.length := by rw [r2.length]; simpa using h2
  obtain ⟨u, hu, ru⟩ := r.get (List.getElem?_eq_getElem k1)
  obtain ⟨v, hv, rv⟩ := r2.get (List.getElem?_eq_getElem k2)
  rw [g1] at hu
  rw [g2] at hv
  rw [Option.some.inj hu, Option.some.inj hv]
  refine wpAny_mono (h A.in1 pins s' σ H1 _ _ u v _ sb.in1 I1 ru rv (hD _ _ _ _ _ e1 (p i _ _ (List.getElem?_eq_getElem k1) (List.getElem?_eq_getElem k2)))) (fun r s2 q => ?_) fun _ _ x => x
  obtain ⟨hr, H2, I2, e2⟩ := q
  exact ⟨hr, H2, I2, e1.trans e2⟩
/-- two lists: of one length, item by item, or of unlike lengths -/
def LstB (D : Eqd) : Eqd := fun x y H r => ∃ a b xs ys, x = .ref a ∧ y = .ref b ∧ H a = some (.lst xs) ∧ H b = some (.lst ys) ∧ (PrB D xs ys H r ∨ (xs.length ≠ ys.length ∧ r = false))
def TupB (D : Eqd) : Eqd := fun x y H r => ∃ a b xs ys, x = .ref a ∧ y = .ref b ∧ H a = some (.tup xs) ∧ H b = some (.tup ys) ∧ PrB D xs ys H r
theorem monB_list (hD : MonB D) : MonB (LstB D) := fun x y H H' r e d => by
  obtain ⟨a, b, xs, ys, hx, hy, h1, h2, p⟩ := d
  exact ⟨a, b, xs, ys, hx, hy, e _ _ h1, e _ _ h2, p.imp (fun p => p.mon hD e) id⟩
theorem monB_tup (hD : MonB D) : MonB (TupB D) := fun x y H H' r e d => by
  obtain ⟨a, b, xs, ys, hx, hy, h1, h2, p⟩ := d
  exact ⟨a, b, xs, ys, hx, hy, e _ _ h1, e _ _ h2, p.mon hD e⟩
theorem rfl_list (hD : Rfl D) : Rfl (LstB D) := fun x H r d => by
  obtain ⟨a, b, xs, ys, rfl, hy, h1, h2, p⟩ := d
  cases hy
  rw [h1] at h2
  cases h2
  rcases p with p | ⟨p, _⟩
  · exact p.rfl' hD
  · exact absurd rfl p
theorem rfl_tup (hD : Rfl D) : Rfl (TupB D) := fun x H r d => by
  obtain ⟨a, b, xs, ys, rfl, hy, h1, h2, p⟩ := d
  cases hy
  rw [h1] at h2
  cases h2
  exact p.rfl' hD
theorem rcB_list (hD : MonB D) (h : EqB X n D) : RcB X (n + 1) (LstB D) := by
  intro A pins s σ H x y u v r sb I rx ry d
  obtain ⟨a, b, xs, ys, rfl, rfl, ha, hb, p⟩ := d
  cases rx
  cases ry
  rcases p with p | ⟨p, rfl⟩
  · obtain ⟨hl, e, hf, hr⟩ := p
    refine TLN.rcE (N := xs.length) sb.room.units0 e (fun _ s' => LoopI X pins σ H s') (fun i s' q => ?_) r hr (fun _ s' q => ⟨rfl, q⟩) ⟨H, I, Ext.rfl'⟩
    obtain ⟨H1, I1, e1⟩ := id q
    obtain ⟨z, its, k, r1, f1⟩ := I1.hok a _ (e1 _ _ ha)
    obtain ⟨z2, its2, k2, r2, f2⟩ := I1.hok b _ (e1 _ _ hb)
    exact ⟨its.toArray, its2.toArray, k, k2, f1, f2, by rw [List.size_toArray, ← r1.length], by rw [List.size_toArray, ← r2.length, ← hl], fun h1 h2 => turnB hD h sb hf r1 r2 i h1 h2 s' q⟩
  · obtain ⟨z, its, k, r1, f1⟩ := I.hok a _ ha
    obtain ⟨z2, its2, k2, r2, f2⟩ := I.hok b _ hb
    exact TLN.rcE0 sb.room.units0 f1 f2 (by rw [List.size_toArray, List.size_toArray, ← r1.length, ← r2.length]; exact p) ⟨rfl, H, I, Ext.rfl'⟩
theorem rcB_tup (hD : MonB D) (h : EqB X n D) : RcB X (n + 1) (TupB D) := by
  intro A pins s σ H x y u v r sb I rx ry d
  obtain ⟨a, b, xs, ys, rfl, rfl, ha, hb, hl, e, hf, hr⟩ := d
  cases rx
  cases ry
  obtain ⟨its, r1, f1, z⟩ := I.tuple (.inl (.of ha))
  obtain ⟨its2, r2, f2, z2⟩ := I.tuple (.inl (.of hb))
  have hsz : its.toArray.size = its2.toArray.size := by rw [List.size_toArray, List.size_toArray, ← r1.length, ← r2.length]; exact hl
  have hr' : (List.range its.toArray.size).all e = r := by rw [List.size_toArray, ← r1.length]; exact hr
  exact TLN.rcT hsz sb.room.units0 e (fun _ s' => LoopI X pins σ H s') f1 f2 (fun i h1 h2 s' q => turnB hD h sb hf r1 r2 i h1 h2 s' q) r hr' (fun _ s' q => ⟨rfl, q⟩) ⟨H, I, Ext.rfl'⟩
/-- two Ratios -/
def RatB (C : Addr) (a b : Addr) (H : Hp) (r : Bool) : Prop := ∃ dx dy t d t2 d2, H a = some (.ins C dx [("_top", .int t), ("_bottom", .int d)]) ∧ H b = some (.ins C dy [("_top", .int t2), ("_bottom", .int d2)]) ∧ r = (decide (t = t2) && decide (d = d2))
def BIns (C : Addr) : Eqd := fun x y H r => ∃ a b, x = .ref a ∧ y = .ref b ∧ RatB C a b H r
theorem monB_ins {C : Addr} : MonB (BIns C) := fun x y H H' r e d => by
  obtain ⟨a, b, hx, hy, dx, dy, t, k, t2, k2, h1, h2, hr⟩ := d
  exact ⟨a, b, hx, hy, dx, dy, t, k, t2, k2, e _ _ h1, e _ _ h2, hr⟩
theorem rfl_ins {C : Addr} : Rfl (BIns C) := fun x H r d => by
  obtain ⟨a, b, rfl, hy, dx, dy, t, k, t2, k2, h1, h2, hr⟩ := d
  cases hy
  rw [h1] at h2
  cases h2
  rw [hr]; simp
def spEqB (C : Addr) : Sp := fun vs H Q _ => ∃ a b r, vs = [.ref a, .ref b] ∧ RatB C a b H r ∧ ∀ H', Ext H H' → Q (.bl r) H'
theorem rcB_ins {CX : CXT} {C f : Addr} {fd : FuncData} {ps : List Str} {E : XK} (F : FnOk X.prog X.w X.K X.mg X.base CX n f fd ps (spEqB C))
    (hs : PySem.W.findIn X.K (.ref C) "__eq__" = some (some (.ref f))) (hf : PySem.W.isFn X.K (.ref f) = true) (hb : Binds X.K fd ps []) (hx : Passes CX X E) : RcB X n (BIns C) := by
  intro A pins s σ H x y u v r sb I rx ry d
  obtain ⟨a, b, rfl, rfl, hr⟩ := d
  cases rx
  cases ry
  obtain ⟨dx, dy, t, k, t2, k2, ha, hb', _⟩ := id hr
  obtain ⟨mA, J, _⟩ := ins_get I.hok ha
  obtain ⟨mB, J', _⟩ := ins_get I.hok hb'
  obtain ⟨od, J, _⟩ := J.look
  obtain ⟨od', J', _⟩ := J'.look
  obtain ⟨m, hF⟩ := I.fr
  refine PySem.W.cmp_K (op := .Eq) (tb := .ref C) sb.room.units0 hF I.ok.mod.kin J J'.type (by simp [PySem.W.notFirst]) hs hf ?_
  have hsp : spEqB C [.ref a, .ref b] H (fun v H' => v = .bl r ∧ Ext H H') E := ⟨a, b, r, rfl, hr, fun H' e => ⟨rfl, e⟩⟩
  have e0 : Env0 X.prog X.w X.K X.mg X.base A X.stack s H := by
    have e := I.env0
    exact ⟨by rw [sb.fr]; exact e.frames, e.mod, e.bs, e.bsz, e.funs, e.frf, e.hok, e.bare⟩
  have hl := F.len _ _ _ _ hsp
  have r2 : Vals [V.ref a, V.ref b] [Value.ref a, Value.ref b] := .cons rfl (.cons rfl .nil)
  refine wpAny_call (codeAny_mono (F.run A X.stack s H ⟨[.ref a, .ref b], []⟩ [.ref a, .ref b] [.ref a, .ref b] _ E sb.room e0 (by
    have := hb s [.ref a, .ref b] I.kIn (by simpa using hl)
    simpa using this) r2 hsp) fun z s' hq => ?_)
  cases z with
  | error e => exact hx pins σ H s e s' I hq
  | ok fl =>
    cases fl with
    | ret w =>
      obtain ⟨z, H', I', rz, ez, ex⟩ := I.after hq
      subst ez
      cases rz
      exact ⟨rfl, H', I', ex⟩
    | next => exact False.elim hq
    | brk => exact False.elim hq
    | cont => exact False.elim hq
theorem RcB.eqB (h : RcB X n D) (hR : Rfl D) (hr : ∀ x y H r, D x y H r → ∃ a b, x = .ref a ∧ y = .ref b) : EqB X n D := by
  intro A pins s σ H x y u v r sb I rx ry d
  obtain ⟨a, b, rfl, rfl⟩ := hr _ _ _ _ d
  cases rx
  cases ry
  by_cases hab : a = b
  · subst hab
    have := hR _ _ _ d
    subst this
    exact SeqAt.EqAt.same (A := A) (s := s) (.ref a) X.prog X.w X.xe _ ⟨rfl, H, I, Ext.rfl'⟩
  · refine GQ.eqBool_refG hab (wpAny_mono (h A pins s σ H (.ref a) (.ref b) _ _ r sb I rfl rfl d) (fun z s' q => ?_) fun _ _ x => x)
    obtain ⟨hr', q⟩ := q
    exact ⟨r, hr', rfl, q⟩
theorem eqB_list (hD : MonB D) (hR : Rfl D) (h : EqB X n D) : EqB X (n + 1) (LstB D) := (rcB_list hD h).eqB (rfl_list hR) fun _ _ _ _ d => let ⟨a, b, _, _, hx, hy, _⟩ := d; ⟨a, b, hx, hy⟩
theorem eqB_tup (hD : MonB D) (hR : Rfl D) (h : EqB X n D) : EqB X (n + 1) (TupB D) := (rcB_tup hD h).eqB (rfl_tup hR) fun _ _ _ _ d => let ⟨a, b, _, _, hx, hy, _⟩ := d; ⟨a, b, hx, hy⟩
theorem eqB_ins {CX : CXT} {C f : Addr} {fd : FuncData} {ps : List Str} {E : XK} (F : FnOk X.prog X.w X.K X.mg X.base CX n f fd ps (spEqB C))
    (hs : PySem.W.findIn X.K (.ref C) "__eq__" = some (some (.ref f))) (hf : PySem.W.isFn X.K (.ref f) = true) (hb : Binds X.K fd ps []) (hx : Passes CX X E) : EqB X n (BIns C) :=
  (rcB_ins F hs hf hb hx).eqB rfl_ins fun _ _ _ _ d => let ⟨a, b, hx, hy, _⟩ := d; ⟨a, b, hx, hy⟩
end
def BN (C : Addr) : Nat → Eqd
  | 0 => fun x y H r => BFlat x y H r ∨ BIns C x y H r
  | n + 1 => fun x y H r => BN C n x y H r ∨ (LstB (BN C n) x y H r ∨ TupB (BN C n) x y H r)
theorem mon_BN {C : Addr} : ∀ n, MonB (BN C n)
  | 0 => monB_flat.or monB_ins
  | n + 1 => (mon_BN n).or ((monB_list (mon_BN n)).or (monB_tup (mon_BN n)))
theorem rfl_BN {C : Addr} : ∀ n, Rfl (BN C n)
  | 0 => Rfl.or (D := BFlat) (fun x H r d => by
      obtain ⟨fx, _, e⟩ := d
      rw [← e]
      cases x <;> first | rfl | (simp [flatV] at fx; done) | simp [eqV]) rfl_ins
  | n + 1 => (rfl_BN n).or ((rfl_list (rfl_BN n)).or (rfl_tup (rfl_BN n)))
theorem eqB_BN {X : Cx} {C : Addr} {m : Nat} (h : EqB X m (BIns C)) : ∀ n, EqB X (m + n) (BN C n)
  | 0 => (eqB_flat.mono (Nat.zero_le _)).or h
  | n + 1 => ((eqB_BN h n).mono (Nat.le_succ _)).or ((eqB_list (mon_BN n) (rfl_BN n) (eqB_BN h n)).or (eqB_tup (mon_BN n) (rfl_BN n) (eqB_BN h n)))
inductive FK where
  | non | bl (b : Bool) | int (i : Int) | str (s : Str) | rat (t b : Int)
  deriving DecidableEq
def flatK : T → Option FK
  | .non => some .non
  | .bl b => some (.bl b)
  | .int i => some (.int i)
  | .str s => some (.str s)
  | .ins 0 [.int t, .int b] => some (.rat t b)
  | _ => none
def leafE (t u : T) : Bool := match flatK t, flatK u with
  | some a, some b => decide (a = b)
  | _, _ => false
def FRep (C : Addr) (H : Hp) : FK → V → Prop
  | .non, x => x = .non
  | .bl b, x => x = .bl b
  | .int i, x => x = .int i
  | .str s, x => x = .str s
  | .rat t b, x => ∃ a dx, x = .ref a ∧ H a = some (.ins C dx [("_top", .int t), ("_bottom", .int b)])
def all2 (f : T → T → Bool) : List T → List T → Bool
  | [], [] => true
  | a :: as, b :: bs => f a b && all2 f as bs
  | _, _ => false
def lstT : T → Option (List T)
  | .lst l => some l
  | _ => none
def tupT : T → Option (List T)
  | .tup l => some l
  | _ => none
def eqN : Nat → T → T → Bool
  | 0, a, b => leafE a b
  | n + 1, a, b => match lstT a, lstT b with
    | some l, some m => all2 (eqN n) l m
    | _, _ => match tupT a, tupT b with
      | some l, some m => all2 (eqN n) l m
      | _, _ => leafE a b
def isR : FK → Option (Int × Int)
  | .rat t b => some (t, b)
  | _ => none
def vK : FK → V
  | .non => .non
  | .bl b => .bl b
  | .int i => .int i
  | .str s => .str s
  | .rat _ _ => .non
def kB (a b : FK) : Option Bool := match isR a, isR b with
  | some x, some y => some (decide (x.1 = y.1) && decide (x.2 = y.2))
  | none, none => some (eqV (vK a) (vK b))
  | _, _ => none
def leafB (t u : T) : Option Bool := match flatK t, flatK u with
  | some a, some b => kB a b
  | _, _ => none
def allOB (f : T → T → Option Bool) : List T → List T → Option Bool
  | a :: as, b :: bs => match f a b, allOB f as bs with
    | some x, some y => some (x && y)
    | _, _ => none
  | _, _ => some true
def all2OB (f : T → T → Option Bool) (l m : List T) : Option Bool := if l.length = m.length then allOB f l m else some false
def eqB : Nat → T → T → Option Bool
  | 0, a, b => leafB a b
  | n + 1, a, b => match lstT a, lstT b with
    | some l, some m => all2OB (eqB n) l m
    | _, _ => match tupT a, tupT b with
      | some l, some m => if l.length = m.length then allOB (eqB n) l m else none
      | _, _ => leafB a b
def gEqS : T → T → M T := fun a b pot => match lstT a, lstT b with
  | some l, some m => match all2OB (eqB 2) l m with
    | some r => some (.bl r, pot)
    | none => none
  | _, _ => none
def gNeS : T → T → M T := fun a b pot => match lstT a, lstT b with
  | some l, some m => match all2OB (eqB 2) l m with
    | some r => some (.bl (!r), pot)
    | none => none
  | _, _ => none
theorem lstT_eq {t : T} {l : List T} (h : lstT t = some l) : t = .lst l := by
  unfold lstT at h
  split at h
  · cases h; rfl
  · cases h
theorem tupT_eq {t : T} {l : List T} (h : tupT t = some l) : t = .tup l := by
  unfold tupT at h
  split at h
  · cases h; rfl
  · cases h
theorem eqV_sf {k : FK} (h : isR k = none) : eqV (vK k) (vK k) = true := by
  cases k with
  | non => rfl
  | bl b => exact beq_self_eq_true b
  | int i => exact beq_self_eq_true i
  | str s => exact beq_self_eq_true s
  | rat t b => cases h
theorem kB_self (k : FK) : kB k k = some true := by
  unfold kB
  cases h : isR k with
  | some x => simp
  | none =>
    show some (eqV (vK k) (vK k)) = some true
    rw [eqV_sf h]
theorem leafB_t {t u : T} (e : leafE t u = true) : leafB t u = some true := by
  unfold leafE at e
  unfold leafB
  cases h1 : flatK t with
  | none => rw [h1] at e; cases e
  | some a =>
    cases h2 : flatK u with
    | none => rw [h1, h2] at e; cases e
    | some b =>
      rw [h1, h2] at e
      have e3 : a = b := of_decide_eq_true e
      subst e3
      exact kB_self a
theorem all2_B {f : T → T → Bool} {g : T → T → Option Bool} (h : ∀ t u, f t u = true → g t u = some true) : ∀ {l m : List T}, all2 f l m = true → l.length = m.length ∧ allOB g l m = some true
  | [], [], _ => ⟨rfl, rfl⟩
  | t :: l, u :: m, e => by
    have e' : (f t u && all2 f l m) = true := e
    rw [Bool.and_eq_true] at e'
    obtain ⟨h1, h2⟩ := all2_B h e'.2
    refine ⟨by rw [List.length_cons, List.length_cons, h1], ?_⟩
    show (match g t u, allOB g l m with | some x, some y => some (x && y) | _, _ => none) = some true
    rw [h _ _ e'.1, h2]
    rfl
  | [], _ :: _, e => nomatch e
  | _ :: _, [], e => nomatch e
theorem eqB_t : ∀ (n : Nat) (t u : T), eqN n t u = true → eqB n t u = some true
  | 0, t, u, e => leafB_t e
  | n + 1, t, u, e => by
    have e' : (match lstT t, lstT u with
      | some l, some m => all2 (eqN n) l m
      | _, _ => match tupT t, tupT u with
        | some l, some m => all2 (eqN n) l m
        | _, _ => leafE t u) = true := e
    show (match lstT t, lstT u with
      | some l, some m => all2OB (eqB n) l m
      | _, _ => match tupT t, tupT u with
        | some l, some m => if l.length = m.length then allOB (eqB n) l m else none
        | _, _ => leafB t u) = some true
    split at e'
    · obtain ⟨z1, z2⟩ := all2_B (eqB_t n) e'
      unfold all2OB
      rw [if_pos z1, z2]
    · split at e'
      · obtain ⟨z1, z2⟩ := all2_B (eqB_t n) e'
        rw [if_pos z1, z2]
      · exact leafB_t e'
theorem gEqS_t {l m : List T} {pot : Pot} (e : all2 (eqN 2) l m = true) : gEqS (.lst l) (.lst m) pot = some (.bl true, pot) := by
  obtain ⟨z1, z2⟩ := all2_B (eqB_t 2) e
  show (match all2OB (eqB 2) l m with | some r => some (T.bl r, pot) | none => none) = _
  unfold all2OB
  rw [if_pos z1, z2]
section
variable {W : Wd} {p : Addr} {G : GD} {H : Hp}
theorem frep_of (nm : W.nm 0 = (["_top", "_bottom"] : List Str)) {t : T} {x : V} {k : FK} (r : Rep W p G H t x) (e : flatK t = some k) : FRep (W.C 0) H k x := by
  unfold flatK at e
  split at e
  · cases e; rw [rep_non_iff] at r; exact r
  · cases e; rw [rep_bl_iff] at r; exact r
  · cases e; rw [rep_int_iff] at r; exact r
  · cases e; rw [rep_str_iff] at r; exact r
  · cases e
    rw [rep_ins_iff] at r
    obtain ⟨a, dx, vs, rfl, _, _, ha, _, rs⟩ := r
    rw [reps_cons_iff] at rs
    obtain ⟨v1, w1, rfl, r1, r2⟩ := rs
    rw [reps_cons_iff] at r2
    obtain ⟨v2, w2, rfl, r3, r4⟩ := r2
    rw [reps_nil_iff] at r4
    rw [rep_int_iff] at r1 r3
    subst r1 r3 r4
    rw [nm] at ha
    exact ⟨a, dx, rfl, ha⟩
  · cases e
theorem frep_flat {C : Addr} {k : FK} {x : V} (h : isR k = none) (r : FRep C H k x) : x = vK k ∧ flatV x = true := by
  cases k with
  | non => cases r; exact ⟨rfl, rfl⟩
  | bl b => cases r; exact ⟨rfl, rfl⟩
  | int i => cases r; exact ⟨rfl, rfl⟩
  | str s => cases r; exact ⟨rfl, rfl⟩
  | rat t b => cases h
theorem frep_rat {C : Addr} {k : FK} {x : V} {q : Int × Int} (h : isR k = some q) (r : FRep C H k x) : ∃ a dx, x = .ref a ∧ H a = some (.ins C dx [("_top", .int q.1), ("_bottom", .int q.2)]) := by
  cases k with
  | non => cases h
  | bl b => cases h
  | int i => cases h
  | str s => cases h
  | rat t b => cases h; exact r
theorem frep_B {C : Addr} {k j : FK} {x y : V} {r : Bool} (e : kB k j = some r) (rx : FRep C H k x) (ry : FRep C H j y) : BN C 0 x y H r := by
  unfold kB at e
  cases h1 : isR k with
  | some p =>
    cases h2 : isR j with
    | some q =>
      rw [h1, h2] at e
      cases e
      obtain ⟨a, dx, rfl, ha⟩ := frep_rat h1 rx
      obtain ⟨b, dy, rfl, hb⟩ := frep_rat h2 ry
      exact .inr ⟨a, b, rfl, rfl, dx, dy, _, _, _, _, ha, hb, rfl⟩
    | none => rw [h1, h2] at e; cases e
  | none =>
    cases h2 : isR j with
    | some q => rw [h1, h2] at e; cases e
    | none =>
      rw [h1, h2] at e
      obtain ⟨rfl, fx⟩ := frep_flat h1 rx
      obtain ⟨rfl, fy⟩ := frep_flat h2 ry
      exact .inl ⟨fx, fy, Option.some.inj e⟩
theorem leaf_B (nm : W.nm 0 = (["_top", "_bottom"] : List Str)) {t u : T} {x y : V} {k : Bool} (r : Rep W p G H t x) (r2 : Rep W p G H u y) (e : leafB t u = some k) : BN (W.C 0) 0 x y H k := by
  unfold leafB at e
  split at e
  · rename_i a b e1 e2
    exact frep_B e (frep_of nm r e1) (frep_of nm r2 e2)
  · cases e
theorem bn_up {C : Addr} : ∀ n {x y : V} {k : Bool}, BN C 0 x y H k → BN C n x y H k
  | 0, _, _, _, h => h
  | n + 1, _, _, _, h => .inl (bn_up n h)
theorem prb_of {D : Eqd} {f : T → T → Option Bool} (h : ∀ {t u : T} {x y : V} {k : Bool}, Rep W p G H t x → Rep W p G H u y → f t u = some k → D x y H k) : ∀ {l m : List T} {xs ys : List V} {k : Bool}, Reps W p G H l xs → Reps W p G H m ys → l.length = m.length → allOB f l m = some k → PrB D xs ys H k
  | [], [], xs, ys, k, r, r2, _, e => by
    rw [reps_nil_iff] at r r2
    subst r r2
    cases e
    exact PrB.nil
  | t :: l, u :: m, xs, ys, k, r, r2, hl, e => by
    rw [reps_cons_iff] at r r2
    obtain ⟨v, w, rfl, r1, rs⟩ := r
    obtain ⟨v2, w2, rfl, r3, rs2⟩ := r2
    have e' : (match f t u, allOB f l m with | some x, some y => some (x && y) | _, _ => none) = some k := e
    split at e'
    · rename_i a b e1 e2
      cases e'
      exact PrB.cons (h r1 r3 e1) (prb_of h rs rs2 (by simpa using hl) e2)
    · cases e'
theorem reps_len : ∀ {l : List T} {xs : List V}, Reps W p G H l xs → xs.length = l.length
  | [], xs, r => by rw [reps_nil_iff] at r; subst r; rfl
  | t :: l, xs, r => by
    rw [reps_cons_iff] at r
    obtain ⟨v, w, rfl, _, rs⟩ := r
    rw [List.length_cons, List.length_cons, reps_len rs]
theorem lb_of {D : Eqd} {f : T → T → Option Bool} (h : ∀ {t u : T} {x y : V} {k : Bool}, Rep W p G H t x → Rep W p G H u y → f t u = some k → D x y H k) {l m : List T} {xs ys : List V} {k : Bool} (r : Reps W p G H l xs) (r2 : Reps W p G H m ys) (e : all2OB f l m = some k) : PrB D xs ys H k ∨ (xs.length ≠ ys.length ∧ k = false) := by
  unfold all2OB at e
  split at e
  · rename_i hl
    exact .inl (prb_of h r r2 hl e)
  · rename_i hl
    cases e
    exact .inr ⟨by rw [reps_len r, reps_len r2]; exact hl, rfl⟩
theorem bn_of (nm : W.nm 0 = (["_top", "_bottom"] : List Str)) : ∀ (n : Nat) {t u : T} {x y : V} {k : Bool}, Rep W p G H t x → Rep W p G H u y → eqB n t u = some k → BN (W.C 0) n x y H k
  | 0, t, u, x, y, k, r, r2, e => leaf_B nm r r2 e
  | n + 1, t, u, x, y, k, r, r2, e => by
    have e' : (match lstT t, lstT u with
      | some l, some m => all2OB (eqB n) l m
      | _, _ => match tupT t, tupT u with
        | some l, some m => if l.length = m.length then allOB (eqB n) l m else none
        | _, _ => leafB t u) = some k := e
    split at e'
    · rename_i l m h1 h2
      cases lstT_eq h1
      cases lstT_eq h2
      rw [rep_lst_iff] at r r2
      obtain ⟨a, xs, rfl, _, ha, rs⟩ := r
      obtain ⟨b, ys, rfl, _, hb, rs2⟩ := r2
      exact .inr (.inl ⟨a, b, xs, ys, rfl, rfl, ha, hb, lb_of (fun r1 r3 e => bn_of nm n r1 r3 e) rs rs2 e'⟩)
    · split at e'
      · rename_i l m h1 h2
        cases tupT_eq h1
        cases tupT_eq h2
        split at e'
        · rename_i hl
          rw [rep_tup_iff] at r r2
          obtain ⟨a, xs, rfl, _, ha, rs⟩ := r
          obtain ⟨b, ys, rfl, _, hb, rs2⟩ := r2
          exact .inr (.inr ⟨a, b, xs, ys, rfl, rfl, ha, hb, prb_of (fun r1 r3 e => bn_of nm n r1 r3 e) rs rs2 hl e'⟩)
        · cases e'
      · exact .inl (bn_up n (leaf_B nm r r2 e'))
/-- x == y, x != y as expressions -/
def rEqB (D : Eqd) : R2 := fun x y H Q => ∃ r, D x y H r ∧ ∀ H', Ext H H' → Q (.bl r) H'
def rNeB (D : Eqd) : R2 := fun x y H Q => ∃ r, D x y H r ∧ ∀ H', Ext H H' → Q (.bl (!r)) H'
theorem op_eqB {X : Cx} {n : Nat} {D : Eqd} (hD : MonB D) (h : EqB X n D) (hr : Room (n + 1) X.A) : OpR X (compareOp .Eq) (rEqB (LstB D)) := by
  intro pins s σ H x y v u Q I rx ry hq
  obtain ⟨r, d, q⟩ := hq
  show wpAny (model X.prog X.w) X.A (richCompare .Eq v u) (EP X pins σ Q) X.xe s
  refine wpAny_mono (rcB_list hD h X.A pins s σ H x y v u r ⟨hr, rfl⟩ I rx ry d) (fun b s' z => ?_) fun _ _ x => x
  obtain ⟨hr', H', I', e⟩ := z
  subst hr'
  exact ⟨.bl r, H', I', rfl, q H' e⟩
theorem op_neB {X : Cx} {n : Nat} {D : Eqd} (hD : MonB D) (h : EqB X n D) (hr : Room (n + 1) X.A) : OpR X (compareOp .NotEq) (rNeB (LstB D)) := by
  intro pins s σ H x y v u Q I rx ry hq
  obtain ⟨r, ⟨a, b, xs, ys, rfl, rfl, ha, hb, p⟩, q⟩ := hq
  cases rx
  cases ry
  have sb : Sub X (n + 1) X.A := ⟨hr, rfl⟩
  show wpAny (model X.prog X.w) X.A (richCompare .NotEq (.ref a) (.ref b)) (EP X pins σ Q) X.xe s
  refine wpAny_mono (Q := fun b s' => b = .bool (!r) ∧ LoopI X pins σ H s') ?_ (fun b s' z => ?_) fun _ _ x => x
  · rcases p with p | ⟨p, rfl⟩
    · obtain ⟨hl, e, hf, hr⟩ := p
      refine TLN.rcN (N := xs.length) sb.room.units0 e (fun _ s' => LoopI X pins σ H s') (fun i s' q => ?_) r hr (fun _ s' q => ⟨rfl, q⟩) ⟨H, I, Ext.rfl'⟩
      obtain ⟨H1, I1, e1⟩ := id q
      obtain ⟨z, its, k, r1, f1⟩ := I1.hok a _ (e1 _ _ ha)
      obtain ⟨z2, its2, k2, r2, f2⟩ := I1.hok b _ (e1 _ _ hb)
      exact ⟨its.toArray, its2.toArray, k, k2, f1, f2, by rw [List.size_toArray, ← r1.length], by rw [List.size_toArray, ← r2.length, ← hl], fun h1 h2 => turnB hD h sb hf r1 r2 i h1 h2 s' q⟩
    · obtain ⟨z, its, k, r1, f1⟩ := I.hok a _ ha
      obtain ⟨z2, its2, k2, r2, f2⟩ := I.hok b _ hb
      exact TLN.rcN0 sb.room.units0 f1 f2 (by rw [List.size_toArray, List.size_toArray, ← r1.length, ← r2.length]; exact p) ⟨rfl, H, I, Ext.rfl'⟩
  · obtain ⟨hr', H', I', e⟩ := z
    subst hr'
    exact ⟨.bl (!r), H', I', rfl, q H' e⟩
theorem opS_eqS (nm : W.nm 0 = (["_top", "_bottom"] : List Str)) : OpS W (rEqB (LstB (BN (W.C 0) 2))) gEqS := fun p pot G1 G2 H ct x y a b ra rb t pot' f Q q => by
  unfold gEqS at f
  split at f
  case h_2 => cases f
  rename_i l m h1 h2
  split at f
  case h_2 => cases f
  rename_i k e
  cases f
  cases lstT_eq h1
  cases lstT_eq h2
  rw [rep_lst_iff] at ra rb
  obtain ⟨a, xs, rfl, _, ha, rs⟩ := ra
  obtain ⟨b, ys, rfl, _, hb, rs2⟩ := rb
  exact ⟨k, ⟨a, b, xs, ys, rfl, rfl, ha, hb, lb_of (fun r1 r3 e => bn_of nm 2 r1 r3 e) rs rs2 e⟩, fun H' e => q _ H' (Nx.of ct.pt e) rep_bl⟩
theorem opS_neS (nm : W.nm 0 = (["_top", "_bottom"] : List Str)) : OpS W (rNeB (LstB (BN (W.C 0) 2))) gNeS := fun p pot G1 G2 H ct x y a b ra rb t pot' f Q q => by
  unfold gNeS at f
  split at f
  case h_2 => cases f
  rename_i l m h1 h2
  split at f
  case h_2 => cases f
  rename_i k e
  cases f
  cases lstT_eq h1
  cases lstT_eq h2
  rw [rep_lst_iff] at ra rb
  obtain ⟨a, xs, rfl, _, ha, rs⟩ := ra
  obtain ⟨b, ys, rfl, _, hb, rs2⟩ := rb
  exact ⟨k, ⟨a, b, xs, ys, rfl, rfl, ha, hb, lb_of (fun r1 r3 e => bn_of nm 2 r1 r3 e) rs rs2 e⟩, fun H' e => q _ H' (Nx.of ct.pt e) rep_bl⟩
end
theorem atS_eqS : AtS gEqS := fun a b pot t pot' f => by
  unfold gEqS at f
  split at f
  case h_2 => cases f
  split at f
  case h_2 => cases f
  cases f
  rfl
theorem atS_neS : AtS gNeS := fun a b pot t pot' f => by
  unfold gNeS at f
  split at f
  case h_2 => cases f
  split at f
  case h_2 => cases f
  cases f
  rfl
end TL
namespace TL
open PySem PySem.Spec PyProof.Rows L2 Evl PF
section
variable {W : Wd} {R : RR_} {te ta ti tp : TE} {tx : TA} {ls : List Lab} {F Fi Fp : FE} {FL : FI} {l lo m : Lab} {i j : Nat}
/-- [*x, ..] -/
def fStar (F : FE) (G : FI) : FI := fun τ pot => match F τ pot with
  | some (a, p1) => (match seqT a with
    | some (_, us) => (match G τ p1 with
      | some (ws, p2) => some (us ++ ws, p2)
      | none => none)
    | none => none)
  | none => none
/-- y = xs.pop(e) -/
def fPop (j i : Nat) (Fi : FE) : FS := fun τ pot => match Fi τ pot with
  | some (.int k, p1) => (match τ[i]? with
    | some (.own us) => (match seqIndex? k us.length with
      | some n => (match us[n]? with
        | some t => if -(2 ^ 63) ≤ k ∧ k < 2 ^ 63 then some (.nx ((τ.set i (.own (us.eraseIdx n))).set j (.val t)), p1) else none
        | none => none)
      | none => none)
    | _ => none)
  | _ => none
/-- a def of the source and a list that is changed, that hands back an item -/
def spO (W : Wd) (F : List T → M T) : Sp := fun vs H Q _ => ∃ p pot G1 G2 a ws us t pot', vs = [.ref p, .ref a] ∧ Ct p pot G1 G2 H ∧ (pot = none ∨ a ≠ p) ∧ H a = some (.lst ws) ∧ Reps W p G1 H us ws ∧ F [.pot, .lst us] pot = some (t, pot') ∧
  ∀ v H', Nx p pot H pot' H' → Rep W p G1 H' t v → Q v H'
def fCallO (F : List T → M T) (Fp : FE) (i : Nat) : FE := fun τ pot => match Fp τ pot with
  | some (.pot, p1) => (match τ[i]? with
    | some (.own us) => F [.pot, .lst us] p1
    | _ => none)
  | _ => none
theorem sm_callO {E0 : XK} {F : List T → M T} (hp : Sm W tp ls Fp ltop) (hi : ls[i]? = some m) (hm : m.le l = true) : Sm W (tCall (spO W F) [] E0 (tCons tp (tCons (tVar i) tNil))) ls (fCallO F Fp i) l := fun B hB τ pot O σ H E t pot' f Q q => by
  unfold fCallO at f
  split at f
  case h_2 => cases f
  rename_i p1 e1
  split at f
  case h_2 => cases f
  rename_i us e2
  refine hp B hB τ pot O σ H E _ _ e1 _ fun x H1 n1 r1 => ?_
  rw [rep_pot_iff] at r1
  subst r1
  have E1 := E.step hB n1
  obtain ⟨x, hx, z⟩ := sl_at E1 e2 hi
  obtain ⟨a, vs, o1, rfl, o3, r⟩ := z
  refine ⟨_, hx, ?_⟩
  show spO W F [.ref B.p, .ref a] H1 Q E0
  exact ⟨B.p, p1, gd B O l, gd B O ltop, a, vs, us, t, pot', rfl, E1.ct hB l, E1.pne o1, o3, r.sub (gd_le hB hm), f, fun v H2 n2 r2 => q v H2 (n1.trans n2) r2⟩
abbrev FBpick (D : List T → M T) : FS := fRet (fIx (fVar 1) (fCall D (fCons (fVar 0) (fCons (fSq1 gLen (fVar 1)) fNil))))
theorem pickO_run {D : List T → M T} {t : T} {us : List T} {pot pot' : Pot} (h : runB (FBpick D) 0 [.pot, .lst us] pot = some (t, pot')) : ∃ i, D [.pot, .int us.length] pot = some (.int i, pot') ∧ atI us i = some t := by
  have e : runB (FBpick D) 0 [.pot, .lst us] pot = match (match D [.pot, .int us.length] pot with
      | some (.int i, p2) => (match atI us i with
        | some t => some (t, p2)
        | none => none)
      | _ => none) with
    | some (t, p) => some (t, p)
    | none => none := by
    simp only [runB, FBpick, fRet, fIx, fCall, fCons, fVar, fSq1, fNil, gLen, seqT, List.map_cons, List.map_nil, List.replicate, List.append_nil, List.getElem?_cons_zero, List.getElem?_cons_succ]
    cases hd : D [.pot, .int us.length] pot with
    | none => rfl
    | some z =>
      obtain ⟨z1, z2⟩ := z
      cases z1 with
      | int i =>
        simp only []
        cases atI us i <;> rfl
      | _ => rfl
  rw [e] at h
  split at h
  case h_2 => cases h
  rename_i t1 p1 e1
  cases h
  split at e1
  case h_2 => cases e1
  rename_i i p2 e2
  split at e1
  case h_2 => cases e1
  rename_i t2 e3
  cases e1
  exact ⟨i, e2, e3⟩
theorem pickO_body {D : List T → M T} {E E1 : XK} {N : List Str} {vs : List V} {H : Hp} {Q : VK} (z : spO W (runB (FBpick D) 0) vs H Q E) :
    tOp (rIx W.K) (tVar 1) (tCall (spT W D [true, true]) [] E1 (tCons (tVar 0) (tCons (tCB (rLen W.K) (tCons (tVar 1) tNil)) tNil))) (start N vs) H Q := by
  obtain ⟨p, pot, G1, G2, a, ws, us, t, pot', rfl, ct, hp, ha, r, f, q⟩ := z
  obtain ⟨i, e1, e2⟩ := pickO_run f
  have s0 : (start N [V.ref p, V.ref a])[(0 : Nat)]? = some (some (.ref p)) := rfl
  have s1 : (start N [V.ref p, V.ref a])[(1 : Nat)]? = some (some (.ref a)) := rfl
  refine ⟨_, s1, ⟨_, s0, ⟨_, s1, ?_⟩⟩⟩
  refine ⟨a, ws, rfl, .inl (sq_of ha), ?_⟩
  show spT W D [true, true] ([.ref p, .int ws.length] ++ []) H _ E1
  rw [List.append_nil]
  refine ⟨p, pot, G1, G2, [.pot, .int us.length], .int i, pot', ct, ⟨rep_pot_iff.mpr rfl, by rw [r.length]; exact rep_int, trivial⟩, e1, fun v H' n rv => ?_⟩
  rw [rep_int_iff] at rv
  subst rv
  have r2 := r.nx ct n
  obtain ⟨v, hv, rv⟩ := atI_reps r2 e2
  exact .inl ⟨a, ws, i, v, rfl, rfl, sq_of (n.kept a _ ha hp), hv, q v H' n rv⟩
theorem spO_len {F : List T → M T} {vs : List V} {H : Hp} {Q : VK} {E : XK} (h : spO W F vs H Q E) : vs.length = 2 := by
  obtain ⟨p, pot, G1, G2, a, ws, us, t, pot', rfl, _⟩ := h
  rfl
end
end TL
namespace TL
open PySem PySem.Spec PyProof.Rows L2 Evl PF
/-- an empty set as it is made -/
def noneYet (w : World) : Obj := { cls := .type "set", dict := none, data := .set #[] 0 (.fresh 0 0 (!w.params.followText "set-order")) }
section
variable {P : Program} {w : World} {A : Around} {E : Value → Shared → Prop} {s : Shared}
/-- what is known behind the filling of a new set from ints -/
def Filled (w : World) (s : Shared) (ks : List Int) (h : Heap) (n : Nat) : Prop := SetR w h s.heap.objs.size (fun j => decide (j ∈ ks)) n ∧ n ≤ ks.length ∧ ∀ b o, s.heap.get? b = some o → h.get? b = some o
set_option maxRecDepth 100000 in
set_option maxHeartbeats 3200000 in
theorem set_filled {l : Addr} {its : Array Value} (ks : List Int) {Q : Value → Shared → Prop} (ha : A.handled = none) (isl : s.heap.IsList l its) (ii : IntsAre its.toList ks) (small : ks.length + 1 < scanBound)
    (k : ∀ (h : Heap) (t n : Nat), Filled w s ks h n → Q (.ref s.heap.objs.size) { s with heap := h, toks := t }) : wpAny (model P w) A (call (.type "set") [.ref l]) Q E s := by
  have zs : its.size = ks.length := by rw [← IntsAre.length ii, Array.length_toList]
  obtain ⟨c, tl, mro⟩ := F.called_set.mro
  have made := F.called_set.made
  have sub0 := F.called_set.sub
  refine wpAny_call (codeAny_of_tree (show wpAny _ _ (callAny (.type "set") _) _ _ _ from ?_))
  refine wpAny_pure ⟨Code.quiet_builtin _ (by decide +kernel), codeAny_builtin F.entry_type_call ?_⟩
  rw [Around.under_plain (weight_type_call_type "set" [.ref l] []) rfl]
  have f1 := F.called_set.notType
  have f2 := F.called_set.canCreate
  have f3 := F.typeCall_set_1 (.ref l)
  repeat (any_goals (first | assumption | wp_step))
  refine codeAny_mono (code_set_led1 (.ref l) (E := E) (Q₁ := fun o s1 => o = .ref s.heap.objs.size ∧ s1 = { s with heap := s.heap.push (noneYet w) }) ⟨rfl, rfl⟩) fun r s1 hr => ?_
  rcases r with e | fl
  · exact hr
  cases fl with
  | ret o =>
    obtain ⟨rfl, rfl⟩ := hr
    have here : (s.heap.push (noneYet w)).get? s.heap.objs.size = some (noneYet w) := Heap.get?_push_size _ rfl
    have ty : Shared.TypeIs { s with heap := s.heap.push (noneYet w) } (.ref s.heap.objs.size) "set" := ⟨_, here, rfl⟩
    have f4 := F.called_set.init.lookup
    have f5 := F.called_set.init.bind (.ref s.heap.objs.size)
    repeat (any_goals (first | assumption | wp_step))
    refine codeAny_mono (codeAny_call_builtin (R := wants (fun r s2 => r = .none ∧ ∃ h t n, s2 = { s with heap := h, toks := t } ∧ Filled w s ks h n) E) F.called_set.init.plain F.entry_set_init (check_set_init_1 ty ?_)) fun r2 s2 hr2 => ?_
    · obtain ⟨⟨cl, dd, da, sl⟩, hol, hc, nl, hd⟩ := isl
      simp only at hc hd
      subst hc hd
      have hol1 : (s.heap.push (noneYet w)).get? l = some { cls := .type "list", dict := dd, data := .seq its nl, slots := sl } := Heap.get?_push_of_some _ hol
      have g1 := F.sub_list_set
      have g2 := F.sub_list_frozenset
      have g3 : (Value.type "list" == Value.type "dict") = false := by decide
      have isl1 : (s.heap.push (noneYet w)).IsList l its := ⟨_, hol1, rfl, nl, rfl⟩
      unfold Builtin.«set.__init__» noKeywords Builtin.Frozenset.updateFrom
      generalize eIt : pyIter = It
      wp_walk
      subst eIt
      refine wpAny_pyIter_list isl1 (wpAny_bind (wpAny_runValue ?_))
      have lt : l < s.heap.objs.size := Heap.lt_size hol
      have z1 : (s.heap.push (noneYet w)).objs.size = s.heap.objs.size + 1 := Heap.size_push ..
      have ne1 : l ≠ (s.heap.push (noneYet w)).objs.size := by rw [z1]; exact Nat.ne_of_lt (Nat.lt_succ_of_lt lt)
      have ne2 : s.heap.objs.size ≠ l := Nat.ne_of_gt lt
      have ne3 : s.heap.objs.size ≠ (s.heap.push (noneYet w)).objs.size := by rw [z1]; exact Nat.ne_of_lt (Nat.lt_succ_self _)
      refine set_update_ints ((Walks.list (A := A.in1.in1.in1) (by simp [ha]) _ l ne1 its).toS) s.heap.objs.size (by simp only [List.mem_cons, List.not_mem_nil, or_false, not_or]; exact ⟨ne3, ne2⟩) ks zs small
        (fun i v hv => ?_) (its.size - 0) 0 _ (by omega) (Nat.zero_le _) ⟨⟨_, Heap.get?_push_size _ rfl, rfl, rfl⟩, isl1.push _⟩ ⟨0, Nat.le_refl 0, setR_new_at (Heap.get?_push_of_some _ here)⟩ fun s3 n hm hn hS => ?_
      · have hi : i < ks.length := by rw [← zs]; exact (Array.getElem?_eq_some_iff.mp hv).1
        obtain ⟨t, e⟩ := PyProof.Rows.IntsAre.int_at ii i v (by rw [Array.getElem?_toList]; exact hv)
        exact ⟨ks[i], t, List.getElem?_eq_getElem hi, by rw [e, List.getD_eq_getElem?_getD, List.getElem?_eq_getElem hi] <;> rfl⟩
      · obtain ⟨h3, gg, dr, tk, os⟩ := s3
        obtain rfl : gg = s.gens := hm.gens
        obtain rfl : dr = s.drawn := hm.drawn
        obtain rfl : os = s.os := hm.os
        show wpAny _ _ _ _ _ _
        refine wpAny_pure (show wpAny _ _ (ret Value.none) _ _ _ from wpAny_pure ⟨rfl, h3, tk, n, rfl, hS, by rw [← zs]; exact hn, fun b o e => ?_⟩)
        have lb : b < s.heap.objs.size := Heap.lt_size e
        exact hm.heap b o (by simp only [List.mem_cons, List.not_mem_nil, or_false, not_or]; exact ⟨Nat.ne_of_lt lb, by rw [z1]; exact Nat.ne_of_lt (Nat.lt_succ_of_lt lb)⟩) (Heap.get?_push_of_some _ (Heap.get?_push_of_some _ e))
    · rcases r2 with e | fl2
      · exact hr2
      cases fl2 with
      | ret r3 =>
        obtain ⟨rfl, h, t, n, rfl, z⟩ := hr2
        repeat (any_goals (first | assumption | wp_step))
        exact k h t n z
      | _ => exact hr2.elim
  | _ => exact hr.elim
end
end TL
namespace TL
open PySem PySem.Spec PyProof.Rows L2 Evl PF
section
variable {X : Cx}
def rSetS (w : World) (K : PySem.W.Frag) : List V → Hp → VK → Prop := fun xs H Q => ∃ (p : Addr) (ns : List Int), xs = [V.ref p] ∧ (SqL K H p (ns.map V.int) ∨ SqT K H p (ns.map V.int)) ∧ ns.length ≤ 1000 ∧
  ∀ (a : Addr) (n : Nat), H a = none → n ≤ ns.length → Q (.ref a) (upd H a (SetO w a (fun j => decide (j ∈ ns)) n))
theorem cr_setS (hc : X.calm = true) : CallR X (.type "set") (rSetS X.w X.K) := by
  intro pins s σ H xs us Q I r h
  obtain ⟨p, ns, rfl, sq, small, q⟩ := h
  rw [Vals.ref1 r]
  have sb : ns.length + 1 < scanBound := by unfold scanBound; omega
  have new := I.hok.fresh (a := s.heap.objs.size) (Nat.le_refl _)
  rcases sq with sq | sq
  · obtain ⟨its, rv, ⟨⟨cls, dd, data, sl⟩, n, ho, hk, hdn, hd⟩, hlen⟩ := I.list sq
    simp only at hk hd
    subst hk hd
    refine set_filled ns (I.ok.hd hc) ⟨_, ho, rfl, _, rfl⟩ (ints_of_vals rv) sb fun h t n ⟨R, hn, k⟩ => ?_
    exact ⟨.ref _, _, I.laid (t' := t) k (Nat.le_refl _) (setO_new R), rfl, q _ n new hn⟩
  · obtain ⟨its, rv, pt, hz⟩ := I.tuple sq
    refine call_set_tupI ns (I.ok.hd hc) pt (ints_of_vals rv) sb fun h t n R hn k => ?_
    exact ⟨.ref _, _, I.laid (t' := t) k (Nat.le_refl _) (setO_new R), rfl, q _ n new hn⟩
end
/-- put in once, in its place -/
def insU (x : Int) : List Int → List Int
  | [] => [x]
  | y :: l => if x < y then x :: y :: l else if x = y then y :: l else y :: insU x l
def sortU : List Int → List Int
  | [] => []
  | x :: l => insU x (sortU l)
theorem mem_insU {x z : Int} : ∀ {l : List Int}, z ∈ insU x l ↔ z = x ∨ z ∈ l
  | [] => by simp [insU]
  | y :: l => by
    unfold insU
    split
    · simp
    · split
      · rename_i e
        subst e
        simp
      · rw [List.mem_cons, mem_insU, List.mem_cons]
        constructor
        · rintro (h | h | h)
          · exact .inr (.inl h)
          · exact .inl h
          · exact .inr (.inr h)
        · rintro (h | h | h)
          · exact .inr (.inl h)
          · exact .inl h
          · exact .inr (.inr h)
theorem insU_lt {x : Int} : ∀ {l : List Int}, l.Pairwise (· < ·) → (insU x l).Pairwise (· < ·)
  | [], _ => by simp [insU]
  | y :: l, h => by
    rw [List.pairwise_cons] at h
    unfold insU
    split
    · rename_i lt
      refine List.pairwise_cons.mpr ⟨fun z hz => ?_, List.pairwise_cons.mpr h⟩
      rcases List.mem_cons.mp hz with rfl | hz
      · exact lt
      · have := h.1 z hz; omega
    · split
      · exact List.pairwise_cons.mpr h
      · refine List.pairwise_cons.mpr ⟨fun z hz => ?_, insU_lt h.2⟩
        rcases mem_insU.mp hz with rfl | hz
        · omega
        · exact h.1 z hz
theorem mem_sortU {z : Int} : ∀ {l : List Int}, z ∈ sortU l ↔ z ∈ l
  | [] => Iff.rfl
  | x :: l => by rw [sortU, mem_insU, mem_sortU, List.mem_cons]
theorem sortU_lt : ∀ (l : List Int), (sortU l).Pairwise (· < ·)
  | [] => List.Pairwise.nil
  | x :: l => insU_lt (sortU_lt l)
theorem lt_one : ∀ {l m : List Int}, l.Pairwise (· < ·) → m.Pairwise (· < ·) → (∀ z, z ∈ l ↔ z ∈ m) → l = m
  | [], [], _, _, _ => rfl
  | [], y :: m, _, _, h => absurd ((h y).mpr (List.mem_cons_self ..)) (by simp)
  | x :: l, [], _, _, h => absurd ((h x).mp (List.mem_cons_self ..)) (by simp)
  | x :: l, y :: m, hl, hm, h => by
    rw [List.pairwise_cons] at hl hm
    have e : x = y := by
      have h1 := (h x).mp (List.mem_cons_self ..)
      have h2 := (h y).mpr (List.mem_cons_self ..)
      rcases List.mem_cons.mp h1 with e | h1
      · exact e
      · rcases List.mem_cons.mp h2 with e | h2
        · exact e.symm
        · have := hl.1 y h2
          have := hm.1 x h1
          omega
    subst e
    congr 1
    refine lt_one hl.2 hm.2 fun z => ⟨fun hz => ?_, fun hz => ?_⟩
    · have lt := hl.1 z hz
      rcases List.mem_cons.mp ((h z).mp (List.mem_cons_of_mem _ hz)) with rfl | q
      · omega
      · exact q
    · have lt := hm.1 z hz
      rcases List.mem_cons.mp ((h z).mpr (List.mem_cons_of_mem _ hz)) with rfl | q
      · omega
      · exact q
section
variable {W : Wd} {w : World} {te : TE} {ls : List Lab} {F : FE} {l : Lab}
/-- sorted(set(x)) -/
def fSortU (F : FE) : FI := fun τ pot => match F τ pot with
  | some (a, p1) => (match seqT a with
    | some (_, us) => (match allM intOf us with
      | some ns => if ns.length < 64 then some ((sortU ns).map .int, p1) else none
      | none => none)
    | none => none)
  | none => none
theorem smF_sortU (h : SmI W te ls F ltop) : SmF W (tCB (rSortedSet w) (tCons (tCB (rSetS w W.K) (tCons te tNil)) tNil)) ls (fSortU F) l := fun B hB τ pot O σ H E t pot' f Q q => by
  unfold fSortU at f
  split at f
  case h_2 => cases f
  rename_i a p1 e1
  split at f
  case h_2 => cases f
  rename_i k us e2
  split at f
  case h_2 => cases f
  rename_i ns e3
  split at f
  case isFalse => cases f
  rename_i small
  cases f
  rw [seqT_mk e2] at e1
  refine h B hB τ pot O σ H E k us _ e1 _ fun ad vs H1 n1 hp hs r => ?_
  have hs1 : Seqq H1 ad k vs := hs
  have ev := reps_int r e3
  subst ev
  refine ⟨ad, ns, rfl, seqq_sq hs1, by omega, fun b n hb hn => ?_⟩
  have nb := nx_new (p := B.p) (o := SetO w b (fun j => decide (j ∈ ns)) n) n1.at_ hb
  refine ⟨b, _, n, rfl, upd_same, by omega, fun ms d so mem _ hd => ?_⟩
  have em : ms = sortU ns := lt_one so (sortU_lt ns) fun z => by rw [mem z, decide_eq_true_eq]; exact mem_sortU.symm
  subst em
  exact q d _ _ ((n1.trans nb).trans (nx_new nb.at_ hd)) ((n1.trans nb).new hd) upd_same (reps_ints _)
end
end TL
namespace PF
open PySem PySem.Spec PyProof.Rows L2 Evl
end PF
namespace PF
open PySem PySem.Spec PyProof.Rows L2 Evl
end PF
namespace TL
open PySem PySem.Spec PyProof.Rows L2 Evl PF
section
/-- rests on what is passed, not to be handed back -/
abbrev lq : Lab := (true, false)
variable {W : Wd} {R : RR_} {te : TE} {ls : List Lab} {F Fe : FE} {l m : Lab} {i j : Nat}
def fSeq2A (F : FE) : FI := fun τ pot => match F τ pot with
  | some (a, p1) => (match seqT a with
    | some (_, us) => if us.length ≤ maxLen ∧ us.all isAtom = true then some (us, p1) else none
    | none => none)
  | none => none
def fRem (i : Nat) (Fe : FE) : FS := fun τ pot => match Fe τ pot with
  | some (t, p1) => (match τ[i]? with
    | some (.own us) => (match toDs us, toD t with
      | some ds, some d => if SeqAt.shaped (.list ds) = true ∧ SeqAt.shaped d = true then (match ds.findIdx? fun z => PyData.eqv z d with
        | some j => some (.nx (τ.set i (.own (us.eraseIdx j))), p1)
        | none => none) else none
      | _, _ => none)
    | _ => none)
  | none => none
end
end TL
namespace TL
open PySem PySem.Spec PyProof.Rows L2 Evl PF
section
variable {W : Wd} {R : RR_} {te tx ty : TE} {ta : TA} {tt : TT} {tb : TS} {ls ls1 ms : List Lab} {F Fe : FE} {FL : FI} {Ft : FB} {Fs : FS} {l m : Lab} {i j : Nat} {fl : List Bool} {E0 : XK}
/-- new; what is no list may rest on what is passed -/
def nwG (B : Bd) (O : Ows) (H : Hp) : GD := fun k b => H b = none ∨ (k = false ∧ gd B O ltop false b)
/-- a value all of which is new -/
def SmNw (W : Wd) (te : TE) (ls : List Lab) (F : FE) : Prop := ∀ (B : Bd), B.Ok → ∀ τ pot O σ H, EnvR W B ls τ pot O σ H → ∀ t pot', F τ pot = some (t, pot') →
  ∀ Q : VK, (∀ v H', Nx B.p pot H pot' H' → Rep W B.p (nwG B O H) H' t v → Q v H') → te σ H Q
open Classical in
noncomputable def zB (B : Bd) (Z : Addr → Prop) (Hz : Hp) : Bd := ⟨B.p, fun k b => B.G1 k b ∧ ¬ Z b, fun k b => B.G2 k b ∧ ¬ Z b, fun b => if Z b then Hz b else B.H0 b, B.none, B.self⟩
structure ZOk (B : Bd) (Z : Addr → Prop) (Hz H : Hp) : Prop where
  at_ : ∀ b, Z b → H b = Hz b
  ls : ∀ b, Z b → ∃ vs, Hz b = some (.lst vs)
  h0 : ∀ b, Z b → B.H0 b = none
  np : ∀ b, Z b → B.none ∨ b ≠ B.p
theorem ZOk.ne {B : Bd} {Z : Addr → Prop} {Hz H : Hp} (z : ZOk B Z Hz H) (b : Addr) (h : Z b) : Hz b ≠ none := by
  obtain ⟨vs, e⟩ := z.ls b h
  rw [e]
  exact fun y => nomatch y
/-- a told thing: its lists are the zone's, all else is none of it -/
def zG (B : Bd) (O : Ows) (Z : Addr → Prop) : GD := fun k b => if k = true then Z b else gd B O ltop false b ∧ ¬ Z b
theorem zG_t {B : Bd} {O : Ows} {Z : Addr → Prop} {b : Addr} (h : zG B O Z true b) : Z b := h
theorem zG_f {B : Bd} {O : Ows} {Z : Addr → Prop} {b : Addr} (h : zG B O Z false b) : gd B O ltop false b ∧ ¬ Z b := h
theorem zG_clr {B : Bd} {O : Ows} {Z : Addr → Prop} (j : Nat) (k : Bool) (b : Addr) (h : zG B O Z k b) : zG B (clr O j) Z k b := by
  cases k with
  | true => exact h
  | false => exact ⟨gd_clr j _ _ _ (zG_f h).1, (zG_f h).2⟩
mutual
/-- what stands at a node -/
theorem Rep.ob {W : Wd} {p : Addr} {G : GD} {H : Hp} : ∀ (t : T) (v : V), Rep W p G H t v → Rep W p (fun k b => G k b ∧ if k = true then ∃ vs, H b = some (.lst vs) else H b ≠ none ∧ ∀ vs, H b ≠ some (.lst vs)) H t v
  | .non, v, z => by rw [Rep] at z ⊢; exact z
  | .bl b, v, z => by rw [Rep] at z ⊢; exact z
  | .int i, v, z => by rw [Rep] at z ⊢; exact z
  | .str s, v, z => by rw [Rep] at z ⊢; exact z
  | .pot, v, z => by rw [Rep] at z ⊢; exact z
  | .cls c, v, z => by rw [Rep] at z ⊢; exact z
  | .rng lo hi, v, z => by
    rw [Rep] at z ⊢
    obtain ⟨a, e, ga, ha⟩ := z
    exact ⟨a, e, ⟨ga, (by rw [ha]; exact fun y => nomatch y : H a ≠ none), fun vs y => by rw [ha] at y; cases y⟩, ha⟩
  | .dct l, v, z => by
    rw [Rep] at z ⊢
    obtain ⟨a, e, ga, ha⟩ := z
    exact ⟨a, e, ⟨ga, (by rw [ha]; exact fun y => nomatch y : H a ≠ none), fun vs y => by rw [ha] at y; cases y⟩, ha⟩
  | .lst l, v, z => by
    rw [Rep] at z ⊢
    obtain ⟨a, vs, e, ga, ha, r⟩ := z
    exact ⟨a, vs, e, ⟨ga, vs, ha⟩, ha, Reps.ob l vs r⟩
  | .tup l, v, z => by
    rw [Rep] at z ⊢
    obtain ⟨a, vs, e, ga, ha, r⟩ := z
    exact ⟨a, vs, e, ⟨ga, (by rw [ha]; exact fun y => nomatch y : H a ≠ none), fun vs y => by rw [ha] at y; cases y⟩, ha, Reps.ob l vs r⟩
  | .ins c l, v, z => by
    rw [Rep] at z ⊢
    obtain ⟨a, dx, vs, e, ga, o, ha, hl, r⟩ := z
    exact ⟨a, dx, vs, e, ⟨ga, (by rw [ha]; exact fun y => nomatch y : H a ≠ none), fun vs y => by rw [ha] at y; cases y⟩, o, ha, hl, Reps.ob l vs r⟩
theorem Reps.ob {W : Wd} {p : Addr} {G : GD} {H : Hp} : ∀ (ts : List T) (vs : List V), Reps W p G H ts vs → Reps W p (fun k b => G k b ∧ if k = true then ∃ vs, H b = some (.lst vs) else H b ≠ none ∧ ∀ vs, H b ≠ some (.lst vs)) H ts vs
  | [], vs, z => by rw [Reps] at z ⊢; exact z
  | t :: ts, vs, z => by
    rw [Reps] at z ⊢
    obtain ⟨v, r, e, z1, z2⟩ := z
    exact ⟨v, r, e, Rep.ob t v z1, Reps.ob ts r z2⟩
end
theorem zB_y {B : Bd} {Z : Addr → Prop} {Hz : Hp} {b : Addr} (h : Z b) : (zB B Z Hz).H0 b = Hz b := if_pos h
theorem zB_n {B : Bd} {Z : Addr → Prop} {Hz : Hp} {b : Addr} (h : ¬ Z b) : (zB B Z Hz).H0 b = B.H0 b := if_neg h
theorem zB_ok {B : Bd} (hB : B.Ok) {Z : Addr → Prop} {Hz : Hp} (ne : ∀ b, Z b → Hz b ≠ none) : (zB B Z Hz).Ok where
  nw := fun k b h => by
    by_cases z : Z b
    · rw [zB_y z] at h
      exact absurd h (ne b z)
    · rw [zB_n z] at h
      exact ⟨hB.nw k b h, z⟩
  sub := fun k b h => ⟨hB.sub k b h.1, h.2⟩
  np := hB.np.imp_right fun z k h => z k h.1
  ins := fun b h => ⟨hB.ins b h.1, h.2⟩
theorem gd_zB {B : Bd} {Z : Addr → Prop} {Hz : Hp} {O : Ows} {l : Lab} {k : Bool} {b : Addr} (h : gd (zB B Z Hz) O l k b) : gd B O l k b ∧ ¬ Z b := by
  obtain ⟨h1, h2⟩ := h
  obtain ⟨l1, l2⟩ := l
  cases l1 with
  | true => exact ⟨⟨h1.1, h2⟩, h1.2⟩
  | false => exact ⟨⟨h1.1, h2⟩, h1.2⟩
theorem zB_gd {B : Bd} {Z : Addr → Prop} {Hz : Hp} {O : Ows} {l : Lab} {k : Bool} {b : Addr} (h : gd B O l k b) (z : ¬ Z b) : gd (zB B Z Hz) O l k b := by
  obtain ⟨h1, h2⟩ := h
  obtain ⟨l1, l2⟩ := l
  cases l1 with
  | true => exact ⟨⟨h1, z⟩, h2⟩
  | false => exact ⟨⟨h1, z⟩, h2⟩
/-- all but the zone is kept -/
structure StpZ (Z : Addr → Prop) (p : Addr) (pot : Pot) (O : Ows) (H : Hp) (pot' : Pot) (O' : Ows) (H' : Hp) : Prop where
  kept : ∀ b o, H b = some o → (pot = none ∨ b ≠ p) → (∀ i, O i ≠ some b) → ¬ Z b → H' b = some o
  own : ∀ i a, O' i = some a → (∃ j, O j = some a) ∨ H a = none
  non : pot = none ↔ pot' = none
  dom : ∀ b, H b ≠ none → H' b ≠ none
def OutZ (R : RR_) (W : Wd) (B : Bd) (Z : Addr → Prop) (ls' : List Lab) (pot : Pot) (O : Ows) (H : Hp) (D : Ends) (pot' : Pot) : Out → Prop
  | .nx τ' => ∀ O' σ' H', StpZ Z B.p pot O H pot' O' H' → EnvR W B ls' τ' pot' O' σ' H' → D.nx σ' H'
  | .rt t => ∀ v H', RetR R W B pot' H' t v → D.rt v H'
structure ZE (W : Wd) (B : Bd) (Z : Addr → Prop) (Hz : Hp) (i : Nat) (t : T) (ls : List Lab) (τ : List Sl) (pot : Pot) (O : Ows) (σ : L2.St) (H : Hp) : Prop where
  e : EnvR W B ls τ pot O σ H
  ez : EnvR W (zB B Z Hz) ls (τ.set i .no) pot O σ H
  at_ : τ[i]? = some (.val t)
  v : ∃ v, σ[i]? = some (some v) ∧ Rep W B.p (zG B O Z) H t v
  z : ZOk B Z Hz H
/-- what goes on while slot i holds the told thing -/
def SmZ (W : Wd) (R : RR_) (tb : TS) (ls : List Lab) (i : Nat) (F : FS) (ls' : List Lab) : Prop := ∀ (B : Bd), B.Ok → ∀ Z Hz t τ pot O σ H, ZE W B Z Hz i t ls τ pot O σ H → ∀ o pot', F τ pot = some (o, pot') →
  ∀ D : Ends, OutZ R W B Z ls' pot O H D pot' o → tb D σ H
theorem ZE.step {B : Bd} (hB : B.Ok) {Z : Addr → Prop} {Hz : Hp} {t : T} {τ : List Sl} {pot pot' : Pot} {O : Ows} {σ : L2.St} {H H' : Hp} (E : ZE W B Z Hz i t ls τ pot O σ H) (n : Nx B.p pot H pot' H') : ZE W B Z Hz i t ls τ pot' O σ H' where
  e := E.e.step hB n
  ez := E.ez.step (zB_ok hB E.z.ne) n
  at_ := E.at_
  v := by
    obtain ⟨v, h, r⟩ := E.v
    refine ⟨v, h, r.up (fun _ _ h => h) fun k b o z h => ?_⟩
    cases k with
    | true => exact n.kept b o h ((E.z.np b (zG_t z)).imp_left E.e.non.mp)
    | false => exact (E.e.ct hB ltop).keep n false b o (zG_f z).1 h
  z := ⟨fun b z => by
    have e := E.z.at_ b z
    cases q : H b with
    | none => exact absurd (e.symm.trans q) (E.z.ne b z)
    | some o => rw [n.kept b o q ((E.z.np b z).imp_left E.e.non.mp), ← e, q], E.z.ls, E.z.h0, E.z.np⟩
theorem StpZ.pre {Z : Addr → Prop} {p : Addr} {pot p1 pot' : Pot} {O O1 O' : Ows} {H H1 H' : Hp} (n : Nx p pot H p1 H1) (ho : ∀ j a, O1 j = some a → ∃ k, O k = some a) (s : StpZ Z p p1 O1 H1 pot' O' H') : StpZ Z p pot O H pot' O' H' where
  kept := fun b o h x y z => s.kept b o (n.kept b o h x) (x.imp_left n.non.mp) (fun j e => by
    obtain ⟨k, e2⟩ := ho j b e
    exact y k e2) z
  own := fun j a h => by
    rcases s.own j a h with ⟨k, z⟩ | z
    · exact .inl (ho k a z)
    · exact .inr (n.new z)
  non := n.non.trans s.non
  dom := fun b h => s.dom b (n.dom b h)
theorem OutZ.pre {B : Bd} {Z : Addr → Prop} {pot p1 pot' : Pot} {O O1 : Ows} {H H1 : Hp} {D : Ends} {o : Out} (n : Nx B.p pot H p1 H1) (ho : ∀ j a, O1 j = some a → ∃ k, O k = some a) (d : OutZ R W B Z ls1 pot O H D pot' o) : OutZ R W B Z ls1 p1 O1 H1 D pot' o := by
  cases o with
  | rt t => exact d
  | nx τ' => exact fun O' σ' H' s E' => d O' σ' H' (s.pre n ho) E'
theorem ZE.leave {B : Bd} {Z : Addr → Prop} {Hz : Hp} {t : T} {τ : List Sl} {pot : Pot} {O : Ows} {σ : L2.St} {H H2 : Hp} (E : ZE W B Z Hz i t ls τ pot O σ H) (sm : ∀ b, ¬ Z b → H2 b = H b) (ne : ∀ b, Z b → H2 b ≠ none) : EnvR W (zB B Z H2) ls (τ.set i .no) pot O σ H2 where
  pt := by
    show PotR B.p pot H2
    by_cases zp : Z B.p
    · have e := E.e.non.mp ((E.z.np _ zp).resolve_right fun y => y rfl)
      rw [e]
      exact trivial
    · have e : H2 B.p = H B.p := sm B.p zp
      have this : PotR B.p pot H := E.ez.pt
      unfold PotR at this ⊢
      rw [e]
      exact this
  non := E.ez.non
  ow := fun j a h => by
    have z := E.ez.ow j a h
    have nz : ¬ Z a := fun y => by
      have h0 := z.2
      rw [zB_y y] at h0
      exact E.z.ne a y h0
    refine ⟨by rw [sm a nz]; exact z.1, ?_⟩
    rw [zB_n nz]
    have h0 := z.2
    rwa [zB_n nz] at h0
  inj := E.ez.inj
  fin := E.ez.fin
  hp := by
    have h : B.none ∨ (zB B Z Hz).H0 B.p ≠ none := E.ez.hp
    show B.none ∨ (zB B Z H2).H0 B.p ≠ none
    by_cases zp : Z B.p
    · exact .inl ((E.z.np _ zp).resolve_right fun y => y rfl)
    · rw [zB_n zp] at h ⊢
      exact h
  kp := fun b o h n => by
    by_cases z : Z b
    · rw [zB_y z] at h
      exact h
    · rw [zB_n z] at h
      rw [sm b z]
      exact E.ez.kp b o (by rw [zB_n z]; exact h) n
  dom := fun b h => by
    by_cases z : Z b
    · exact ne b z
    · rw [zB_n z] at h
      rw [sm b z]
      exact E.ez.dom b (by rw [zB_n z]; exact h)
  l1 := E.ez.l1
  l2 := E.ez.l2
  sl := fun j l s x h1 h2 h3 => by
    have z := E.ez.sl j l s x h1 h2 h3
    have g : ∀ k b, gd (zB B Z Hz) O l k b → gd (zB B Z H2) O l k b := fun k b h => zB_gd (gd_zB h).1 (gd_zB h).2
    have kp : ∀ k b o, gd (zB B Z Hz) O l k b → H b = some o → H2 b = some o := fun k b o h e => by rw [sm b (gd_zB h).2]; exact e
    have no : ∀ k a, O k = some a → H2 a = H a := fun k a h => sm a fun y => by
      have h0 := (E.ez.ow k a h).2
      rw [zB_y y] at h0
      exact E.z.ne a y h0
    cases s with
    | no => exact z
    | val t =>
      obtain ⟨z0, v, e1, r⟩ := z
      exact ⟨z0, v, e1, r.up g kp⟩
    | own ts =>
      obtain ⟨a, vs, e1, e2, e3, r⟩ := z
      exact ⟨a, vs, e1, e2, by rw [no _ _ e1]; exact e3, r.up g kp⟩
    | obj c ts =>
      obtain ⟨a, dx, vs, e1, e2, o, e3, hl, r⟩ := z
      exact ⟨a, dx, vs, e1, e2, o, by rw [no _ _ e1.1]; exact e3, hl, r.up g kp⟩
theorem EnvR.zback {B : Bd} {Z : Addr → Prop} {H2 : Hp} (ne : ∀ b, Z b → H2 b ≠ none) (h0 : ∀ b, Z b → B.H0 b = none) (hp : B.none ∨ B.H0 B.p ≠ none) {τ : List Sl} {pot : Pot} {O : Ows} {σ : L2.St} {H : Hp} (E : EnvR W (zB B Z H2) ls τ pot O σ H) : EnvR W B ls τ pot O σ H where
  pt := E.pt
  non := E.non
  ow := fun j a h => by
    have z := E.ow j a h
    refine ⟨z.1, ?_⟩
    by_cases y : Z a
    · exact h0 a y
    · have := z.2
      rwa [zB_n y] at this
  inj := E.inj
  fin := E.fin
  hp := hp
  kp := fun b o h n => E.kp b o (by
    have nz : ¬ Z b := fun y => by rw [h0 b y] at h; cases h
    rw [zB_n nz]; exact h) n
  dom := fun b h => E.dom b (by
    have nz : ¬ Z b := fun y => h (h0 b y)
    rw [zB_n nz]; exact h)
  l1 := E.l1
  l2 := E.l2
  sl := fun j l s x h1 h2 h3 => by
    have z := E.sl j l s x h1 h2 h3
    have g : ∀ k b, gd (zB B Z H2) O l k b → gd B O l k b := fun k b h => (gd_zB h).1
    cases s with
    | no => exact z
    | val t =>
      obtain ⟨z0, v, e1, r⟩ := z
      exact ⟨z0, v, e1, r.sub g⟩
    | own ts =>
      obtain ⟨a, vs, e1, e2, e3, r⟩ := z
      exact ⟨a, vs, e1, e2, e3, r.sub g⟩
    | obj c ts =>
      obtain ⟨a, dx, vs, e1, e2, o, e3, hl, r⟩ := z
      exact ⟨a, dx, vs, e1, e2, o, e3, hl, r.sub g⟩
theorem ZE.rest {B : Bd} (hB : B.Ok) {Z : Addr → Prop} {Hz : Hp} {t : T} {τ : List Sl} {pot pot' : Pot} {O : Ows} {σ : L2.St} {H H2 : Hp} {D : Ends} {o : Out} (E : ZE W B Z Hz i t ls τ pot O σ H) (sm : ∀ b, ¬ Z b → H2 b = H b) (ne : ∀ b, Z b → H2 b ≠ none)
    (g : SmS W RetE tb ls Fs ls1) (f : Fs (τ.set i .no) pot = some (o, pot')) (d : OutZ RetE W B Z ls1 pot O H D pot' o) : tb D σ H2 := by
  refine g (zB B Z H2) (zB_ok hB ne) (τ.set i .no) pot O σ H2 (E.leave sm ne) o pot' f D ?_
  cases o with
  | rt t =>
    intro v H' r
    refine d v H' ⟨fun b o h n => r.kept b o ?_ n, r.pt, r.non, fun b h => r.dom b ?_, ?_⟩
    · have nz : ¬ Z b := fun y => by rw [E.z.h0 b y] at h; cases h
      rw [zB_n nz]
      exact h
    · have nz : ¬ Z b := fun y => h (E.z.h0 b y)
      rw [zB_n nz]
      exact h
    · have h : Rep W B.p (zB B Z H2).G1 H' t v := r.rep
      exact h.sub fun k a z => z.1
  | nx τ' =>
    intro O' σ' H' s E'
    refine d O' σ' H' ⟨fun b o h n y z => s.kept b o (by rw [sm b z]; exact h) n y, fun j a h => ?_, s.non, fun b h => s.dom b ?_⟩ (E'.zback ne E.z.h0 E.e.hp)
    · rcases s.own j a h with ⟨k, z⟩ | z
      · exact .inl ⟨k, z⟩
      · by_cases y : Z a
        · exact absurd z (ne a y)
        · exact .inr (by rw [← sm a y]; exact z)
    · by_cases y : Z b
      · exact ne b y
      · rw [sm b y]; exact h
abbrev tApN (K : PySem.W.Frag) (te : TE) : TS := tDrop (tBM K "list" rAppend te (tCons (tC .non) tNil))
theorem told_core {B : Bd} (hB : B.Ok) {τ : List Sl} {pot p1 pot' : Pot} {O : Ows} {σ : L2.St} {H H1 : Hp} {t : T} {v : V} {o : Out} {D : Ends} (E : EnvR W B ls τ pot O σ H) (n : Nx B.p pot H p1 H1) (r : Rep W B.p (nwG B O H) H1 t v) (hi : i < ls.length) (g : SmZ W R tb (ls.set i (false, false)) i Fs ls1)
    (f' : Fs (τ.set i (.val t)) p1 = some (o, pot')) (d : OutR R W B ls1 pot O H D pot' o) : tb D (σ.set i (some v)) H1 := by
  have E1 := E.step hB n
  have old : ∀ b, H b ≠ none → ¬ (H b = none ∧ ∃ vs, H1 b = some (.lst vs)) := fun b h z => h z.1
  have rl : Rep W B.p (gd B O (false, false)) H1 t v := r.sub fun k b h => by
    rcases h with h | ⟨rfl, h⟩
    · exact (E.ct hB (false, false)).nw k b h
    · exact gd_ins hB h
  have rz : Rep W B.p (zG B (clr O i) (fun b => H b = none ∧ ∃ vs, H1 b = some (.lst vs))) H1 t v := (Rep.ob t v r).sub fun k b h => by
    obtain ⟨h1, h2⟩ := h
    cases k with
    | true =>
      rcases h1 with h1 | ⟨h1, _⟩
      · exact ⟨h1, h2⟩
      · cases h1
    | false =>
      refine ⟨gd_clr i _ _ _ ?_, fun y => ?_⟩
      · rcases h1 with h1 | ⟨_, h1⟩
        · exact (E.ct hB ltop).nw false b h1
        · exact h1
      · obtain ⟨vs, y⟩ := y.2
        exact h2.2 vs y
  have zok : ZOk B (fun b => H b = none ∧ ∃ vs, H1 b = some (.lst vs)) H1 H1 := ⟨fun _ _ => rfl, fun b z => z.2, fun b z => by
    cases q : B.H0 b with
    | none => rfl
    | some o => exact absurd z.1 (E.dom b (by rw [q]; exact fun y => nomatch y)), fun b z => E.pin.imp_right fun y e => y (e ▸ z.1)⟩
  have hs := E.l1
  have hl := E.l2
  refine g B hB (fun b => H b = none ∧ ∃ vs, H1 b = some (.lst vs)) H1 t (τ.set i (.val t)) p1 (clr O i) (σ.set i (some v)) H1 ⟨E1.put hi rl, ?_, by rw [List.getElem?_set_self (by omega)], ⟨v, by rw [List.getElem?_set_self (by omega)], rz⟩, zok⟩ o pot' f' D ?_
  · refine ⟨n.at_, E1.non, fun j a h => ?_, (E1.put hi rl).inj, (E1.put hi rl).fin, ?_, fun b o h nn => ?_, fun b h => ?_, ?_, ?_, fun j m s x h1 h2 h3 => ?_⟩
    · have h' : O j = some a := by
        unfold clr at h
        split at h
        · cases h
        · exact h
      have z := E.ow j a h'
      exact ⟨(E1.ow j a h').1, by rw [zB_n (old a z.1)]; exact z.2⟩
    · show B.none ∨ (zB B _ H1).H0 B.p ≠ none
      rcases E.hp with z | z
      · exact .inl z
      · right
        rw [zB_n (old _ (E.dom _ z))]
        exact z
    · by_cases z : H b = none ∧ ∃ vs, H1 b = some (.lst vs)
      · rw [zB_y z] at h
        exact h
      · rw [zB_n z] at h
        exact E1.kp b o h nn
    · by_cases z : H b = none ∧ ∃ vs, H1 b = some (.lst vs)
      · obtain ⟨vs, z⟩ := z.2
        rw [z]
        exact fun y => nomatch y
      · rw [zB_n z] at h
        exact E1.dom b h
    · simp only [List.length_set]; exact hs
    · simp only [List.length_set]; exact hl
    · by_cases e : j = i
      · subst e
        rw [List.set_set, List.getElem?_set_self (by omega)] at h2
        cases h2
        exact if_pos rfl
      · rw [List.getElem?_set_ne (Ne.symm e)] at h1 h3
        rw [List.getElem?_set_ne (Ne.symm e), List.getElem?_set_ne (Ne.symm e)] at h2
        have z := E.sl j m s x h1 h2 h3
        have c := E.ct hB m
        have sub : ∀ k b, gd B O m k b → H b ≠ none → gd (zB B (fun b => H b = none ∧ ∃ vs, H1 b = some (.lst vs)) H1) (clr O i) m k b := fun k b g hb => gd_clr i m k b (zB_gd g (old b hb))
        have e0 : clr O i j = O j := if_neg e
        cases s with
        | no => exact e0.trans z
        | val t =>
          obtain ⟨z0, w, e1, r⟩ := z
          exact ⟨e0.trans z0, w, e1, rep_dm r sub (c.keep1 n)⟩
        | own ts =>
          obtain ⟨a, us, e1, e2, e3, r⟩ := z
          exact ⟨a, us, e0.trans e1, e2, n.kept a _ e3 (E.pne e1), reps_dm r sub (c.keep1 n)⟩
        | obj c2 ts =>
          obtain ⟨a, dx, us, e1, e2, o2, e3, hl2, r⟩ := z
          exact ⟨a, dx, us, ⟨e0.trans e1.1, e1.2⟩, e2, o2, n.kept a _ e3 (E.pne e1.1), hl2, reps_dm r sub (c.keep1 n)⟩
  · cases o with
    | rt t => exact d
    | nx τ' =>
      intro O' σ' H' s E'
      refine d O' σ' H' ⟨fun b o h x y => s.kept b o (n.kept b o h x) (x.imp_left n.non.mp) (fun j e => y j ?_) (old b (by rw [h]; exact fun y => nomatch y)), fun j a h => ?_, n.non.trans s.non, fun b h => s.dom b (n.dom b h)⟩ E'
      · unfold clr at e
        split at e
        · cases e
        · exact e
      · rcases s.own j a h with ⟨k, z⟩ | z
        · unfold clr at z
          split at z
          · cases z
          · exact .inl ⟨k, z⟩
        · exact .inr (n.new z)
/-- x = a thing that is new throughout -/
theorem smS_told (h : SmNw W te ls F) (hi : i < ls.length) (g : SmZ W R tb (ls.set i (false, false)) i Fs ls1) : SmS W R (tSeq (tAsg te (gName i)) tb) ls (fSeq (fAsg F i) Fs) ls1 := fun B hB τ pot O σ H E o pot' f D d => by
  unfold fSeq at f
  cases h1 : F τ pot with
  | none => unfold fAsg at f; rw [h1] at f; cases f
  | some z =>
    obtain ⟨t, p1⟩ := z
    have f' : Fs (τ.set i (.val t)) p1 = some (o, pot') := by
      unfold fAsg at f
      rw [h1] at f
      exact f
    exact h B hB τ pot O σ H E _ _ h1 _ fun v H1 n r => told_core (tb := tb) (D := D) hB E n r hi g f' d
end
end TL
namespace PF
open PySem PySem.Spec PyProof.Rows L2 Evl
end PF
namespace PF
open PySem PySem.Spec PyProof.Rows L2 Evl
end PF
namespace TL
open PySem PySem.Spec PyProof.Rows L2 Evl PF
/-- a new list of these -/
def LstOf9 (xs : List V) : DV := fun v H => ∃ p, v = .ref p ∧ H p = some (.lst xs)
instance {xs : List V} : Mn (LstOf9 xs) := ⟨fun e h => by
  obtain ⟨p, h1, h2⟩ := h
  exact ⟨p, h1, e _ _ h2⟩⟩
end TL
namespace TL
open PySem PySem.Spec PyProof.Rows L2 Evl PF
def Sam (js : List Nat) (σ σ' : L2.St) : Prop := ∀ k, js.contains k = false → σ'[k]? = σ[k]?
theorem Sam.refl {js : List Nat} {σ : L2.St} : Sam js σ σ := fun _ _ => rfl
theorem Sam.trans {js : List Nat} {σ σ1 σ2 : L2.St} (h : Sam js σ σ1) (g : Sam js σ1 σ2) : Sam js σ σ2 := fun k hk => (g k hk).trans (h k hk)
/-- all slots are free; those of js are left -/
def wpJ (js : List Nat) : Nat → List Sl → Option (List Sl)
  | _, [] => some []
  | k, s :: r => if isFree s = true then (wpJ js (k + 1) r).map fun r' => (if js.contains k then .no else s) :: r' else none
theorem wpJ_at {js : List Nat} : ∀ {τ τ1 : List Sl} {k n : Nat}, wpJ js k τ = some τ1 → τ1.length = τ.length ∧ (∀ s, τ[n]? = some s → isFree s = true) ∧ τ1[n]? = (τ[n]?).map fun s => if js.contains (k + n) then .no else s
  | [], τ1, k, n, h => by
    cases h
    exact ⟨rfl, fun s h => by simp at h, by simp⟩
  | s :: r, τ1, k, n, h => by
    unfold wpJ at h
    split at h
    · rename_i hf
      cases e : wpJ js (k + 1) r with
      | none => rw [e] at h; cases h
      | some r' =>
        rw [e] at h
        cases h
        have z := fun m => wpJ_at (n := m) e
        refine ⟨by rw [List.length_cons, List.length_cons, (z 0).1], ?_⟩
        cases n with
        | zero => exact ⟨fun s h => by cases h; exact hf, rfl⟩
        | succ n =>
          rw [List.getElem?_cons_succ, List.getElem?_cons_succ, show k + (n + 1) = k + 1 + n by omega]
          exact (z n).2
    · cases h
section
variable {W : Wd} {R : RR_} {tb tk : TS} {ls ls1 ls2 : List Lab} {Fs Fk : FS} {i : Nat} {js : List Nat}
/-- the state behind the block -/
theorem EnvR.back {B : Bd} (hB : B.Ok) {τ τ1 : List Sl} {pot pot' : Pot} {O O' : Ows} {σ σ' : L2.St} {H H' : Hp} (E : EnvR W B ls τ pot O σ H) (hw : wpJ js 0 τ = some τ1) (hl : ls.all (fun l => !l.2) = true) (st : Stp B.p pot O H pot' O' H') (pt : PotR B.p pot' H') (hs : σ'.length = σ.length) (s : Sam js σ σ') : EnvR W B ls τ1 pot' O σ' H' where
  pt := pt
  non := E.non.trans st.non
  ow := fun j a h => ⟨st.dom a (E.ow j a h).1, (E.ow j a h).2⟩
  inj := E.inj
  fin := by rw [hs]; exact E.fin
  hp := E.hp
  kp := fun b o h n => st.kept b o (E.kp b o h n) (n.imp_left fun z => E.non.mp z) fun j e => by
    have := (E.ow j b e).2
    rw [this] at h
    cases h
  dom := fun b h => st.dom b (E.dom b h)
  l1 := (wpJ_at (n := 0) hw).1.trans (E.l1.trans hs.symm)
  l2 := E.l2.trans hs.symm
  sl := fun j l x v h1 h2 h3 => by
    obtain ⟨_, hf, h⟩ := wpJ_at (n := j) hw
    rw [h2] at h
    have hj : j < σ.length := by
      rw [← E.l2]
      exact (List.getElem?_eq_some_iff.mp h1).1
    have l2f : l.2 = false := by
      have := List.all_eq_true.mp hl l (List.mem_of_getElem? h1)
      simpa using this
    cases e : τ[j]? with
    | none => rw [e] at h; cases h
    | some y =>
      rw [e] at h
      have fy := hf y e
      have z := E.sl j l y σ[j] h1 e (List.getElem?_eq_getElem hj)
      have no : O j = none := by
        cases y with
        | no => exact z
        | val t => exact z.1
        | own ts => cases fy
        | obj c ts => cases fy
      have h : some x = some (if js.contains (0 + j) then Sl.no else y) := h
      rw [Nat.zero_add] at h
      cases q : js.contains j with
      | true =>
        rw [q, if_pos rfl] at h
        cases h
        exact no
      | false =>
        rw [q, if_neg Bool.false_ne_true] at h
        cases h
        have e3 : v = σ[j] := by
          have := s j q
          rw [h3, List.getElem?_eq_getElem hj] at this
          cases this
          rfl
        subst e3
        cases x with
        | no => exact no
        | own ts => cases fy
        | obj c ts => cases fy
        | val t =>
          obtain ⟨_, w, e4, r⟩ := z
          refine ⟨no, w, e4, r.up (fun _ _ h => h) fun k b o g hb => ?_⟩
          have g' : gd B O l k b := g
          exact st.kept b o hb ((gd_np hB g').imp_left E.non.mp) (by
            rcases g'.2 with y | y
            · have y := y.1
              rw [l2f] at y; cases y
            · exact y)
end
end TL
namespace L2
open PySem PySem.Spec PyProof.Rows
end L2
namespace TL
open PySem PySem.Spec PyProof.Rows L2 Evl PF
theorem Reps.take {W : Wd} {p : Addr} {G : GD} {H : Hp} : ∀ {us : List T} {vs : List V} (n : Nat), Reps W p G H us vs → Reps W p G H (us.take n) (vs.take n)
  | us, vs, 0, r => by rw [List.take_zero, List.take_zero]; exact reps_nil
  | [], vs, n + 1, r => by rw [reps_nil_iff] at r; subst r; exact reps_nil
  | u :: us, vs, n + 1, r => by
    rw [reps_cons_iff] at r
    obtain ⟨w, ws, rfl, r1, r2⟩ := r
    exact reps_cons r1 (Reps.take n r2)
theorem Reps.drop {W : Wd} {p : Addr} {G : GD} {H : Hp} : ∀ {us : List T} {vs : List V} (n : Nat), Reps W p G H us vs → Reps W p G H (us.drop n) (vs.drop n)
  | us, vs, 0, r => r
  | [], vs, n + 1, r => by rw [reps_nil_iff] at r; subst r; exact reps_nil
  | u :: us, vs, n + 1, r => by
    rw [reps_cons_iff] at r
    obtain ⟨w, ws, rfl, r1, r2⟩ := r
    exact Reps.drop n r2
end TL
namespace TL
open PySem PySem.Spec PyProof.Rows L2 Evl PF
/-- a state: the parts at these addresses -/
structure PI (p a : Addr) (p1 : Pot) (H1 : Hp) (ps : List (List Int)) (as : List Addr) (p2 : Pot) (H2 : Hp) : Prop where
  kept : ∀ b o, H1 b = some o → (p1 = none ∨ b ≠ p) → b ≠ a → H2 b = some o
  dom : ∀ b, H1 b ≠ none → H2 b ≠ none
  pt : PotR p p2 H2
  non : p1 = none ↔ p2 = none
  ha : H2 a = some (.lst (as.map .ref))
  len : as.length = ps.length
  at_ : ∀ (i : Nat) x q, as[i]? = some x → ps[i]? = some q → H2 x = some (.lst (q.map .int))
  new : ∀ x, x ∈ as → H1 x = none
  nd : as.Nodup
  hp : H1 p ≠ none
  h1 : H1 a ≠ none
  pa : a ≠ p
section
variable {p a : Addr} {p1 p2 p3 : Pot} {H1 H2 H3 : Hp} {ps : List (List Int)} {as : List Addr}
theorem PI.far (I : PI p a p1 H1 ps as p2 H2) {x : Addr} (hx : x ∈ as) : x ≠ p ∧ x ≠ a := ⟨fun e => I.hp (e ▸ I.new x hx), fun e => I.h1 (e ▸ I.new x hx)⟩
theorem PI.step (I : PI p a p1 H1 ps as p2 H2) (n : Nx p p2 H2 p3 H3) : PI p a p1 H1 ps as p3 H3 :=
  { I with
    kept := fun b o h z e => n.kept b o (I.kept b o h z e) (z.imp_left I.non.mp)
    dom := fun b h => n.dom b (I.dom b h)
    pt := n.at_
    non := I.non.trans n.non
    ha := n.kept _ _ I.ha (.inr I.pa)
    at_ := fun i x q h1 h2 => n.kept _ _ (I.at_ i x q h1 h2) (.inr (I.far (List.mem_of_getElem? h1)).1) }
theorem PI.add (I : PI p a p1 H1 ps as p2 H2) {y : Addr} {q : List Int} (hy : H2 y = none) (e : Ex H2 H3) (h3 : H3 y = some (.lst (q.map .int))) : PI p a p1 H1 (ps ++ [q]) (as ++ [y]) p2 (upd H3 a (.lst (as.map V.ref ++ [.ref y]))) := by
  have J := I.step (Nx.of I.pt e)
  have ya : y ≠ a := fun z => by
    subst z
    rw [I.ha] at hy
    cases hy
  have ynew : H1 y = none := by
    cases z : H1 y with
    | none => rfl
    | some o => exact absurd hy (I.dom y (by rw [z]; exact fun w => nomatch w))
  refine ⟨fun b o h z e => ?_, fun b h => ?_, ?_, J.non, ?_, ?_, fun i x w h1 h2 => ?_, fun x hx => ?_, ?_, J.hp, J.h1, J.pa⟩
  · rw [upd_ne e]
    exact J.kept b o h z e
  · by_cases z : b = a
    · subst z
      rw [upd_same]
      exact fun w => nomatch w
    · rw [upd_ne z]
      exact J.dom b h
  · have := J.pt
    unfold PotR at this ⊢
    split
    · trivial
    · rw [upd_ne (fun z => I.pa z.symm)]
      exact this
  · rw [upd_same, List.map_append]
    rfl
  · rw [List.length_append, List.length_append, I.len]
    rfl
  · have hx : x ≠ a := by
      rcases Nat.lt_or_ge i as.length with c | c
      · rw [List.getElem?_append_left c] at h1
        exact (I.far (List.mem_of_getElem? h1)).2
      · rw [List.getElem?_append_right c] at h1
        rcases Nat.eq_zero_or_pos (i - as.length) with z | z
        · rw [z] at h1
          cases h1
          exact ya
        · rw [List.getElem?_eq_none (by simp; omega)] at h1
          cases h1
    rw [upd_ne hx]
    rcases Nat.lt_or_ge i as.length with c | c
    · rw [List.getElem?_append_left c] at h1
      rw [List.getElem?_append_left (I.len ▸ c)] at h2
      exact J.at_ i x w h1 h2
    · rw [List.getElem?_append_right c] at h1
      rw [List.getElem?_append_right (I.len ▸ c)] at h2
      rcases Nat.eq_zero_or_pos (i - as.length) with z | z
      · rw [z] at h1
        rw [← I.len, z] at h2
        cases h1
        cases h2
        exact h3
      · rw [List.getElem?_eq_none (by simp; omega)] at h1
        cases h1
  · rcases List.mem_append.mp hx with c | c
    · exact I.new x c
    · rw [List.mem_singleton.mp c]
      exact ynew
  · refine List.nodup_append.mpr ⟨I.nd, by simp, fun x hx z hz e => ?_⟩
    rw [List.mem_singleton.mp hz] at e
    subst e
    obtain ⟨i, hi, e⟩ := List.getElem_of_mem hx
    have hi2 : i < ps.length := I.len ▸ hi
    have := I.at_ i x ps[i] (by rw [List.getElem?_eq_getElem hi, e]) (List.getElem?_eq_getElem hi2)
    rw [hy] at this
    cases this
theorem PI.put (I : PI p a p1 H1 ps as p2 H2) {k : Nat} {x : Addr} {q w : List Int} (hx : as[k]? = some x) (hq : ps[k]? = some q) : PI p a p1 H1 (ps.set k w) as p2 (upd H2 x (.lst (w.map .int))) := by
  have fx := I.far (List.mem_of_getElem? hx)
  refine ⟨fun b o h z e => ?_, fun b h => ?_, ?_, I.non, ?_, ?_, fun i y u h1 h2 => ?_, I.new, I.nd, I.hp, I.h1, I.pa⟩
  · have : b ≠ x := fun c => by
      subst c
      rw [I.new b (List.mem_of_getElem? hx)] at h
      cases h
    rw [upd_ne this]
    exact I.kept b o h z e
  · by_cases z : b = x
    · subst z
      rw [upd_same]
      exact fun w => nomatch w
    · rw [upd_ne z]
      exact I.dom b h
  · have := I.pt
    unfold PotR at this ⊢
    split
    · trivial
    · rw [upd_ne (fun z => fx.1 z.symm)]
      exact this
  · rw [upd_ne (fun z => fx.2 z.symm)]
    exact I.ha
  · rw [List.length_set]
    exact I.len
  · by_cases c : i = k
    · subst c
      rw [hx] at h1
      cases h1
      rw [List.getElem?_set_self (List.getElem?_eq_some_iff.mp hq).1] at h2
      cases h2
      exact upd_same
    · have : y ≠ x := fun z => by
        subst z
        have l1 := (List.getElem?_eq_some_iff.mp h1)
        have l2 := (List.getElem?_eq_some_iff.mp hx)
        obtain ⟨b1, e1⟩ := l1
        obtain ⟨b2, e2⟩ := l2
        exact c ((List.getElem_inj (h₀ := b1) (h₁ := b2) I.nd).mp (e1.trans e2.symm))
      rw [upd_ne this]
      rw [List.getElem?_set_ne (fun z => c z.symm)] at h2
      exact I.at_ i y u h1 h2
/-- what is handed back -/
theorem PI.ret {W : Wd} {B : Bd} (hB : B.Ok) {ls : List Lab} {τ : List Sl} {O : Ows} {σ : L2.St} (I : PI B.p a p1 H1 ps as p2 H2) (E : EnvR W B ls τ p1 O σ H1) {i : Nat} (ho : O i = some a) : RetR RetN W B p2 H2 (.lst (ps.map fun q => .lst (q.map .int))) (.ref a) := by
  have h0 := (E.ow i a ho).2
  refine ⟨fun b o h z => I.kept b o (E.kp b o h z) (z.imp_left E.non.mp) fun e => ?_, I.pt, E.non.trans I.non, fun b h => I.dom b (E.dom b h), a, as.map .ref, _, rfl, rfl, h0, I.ha, ?_⟩
  · subst e
    rw [h0] at h
    cases h
  · refine reps_of (by rw [List.length_map, List.length_map, I.len]) fun j t v ht hv => ?_
    rw [List.getElem?_map] at ht hv
    cases hq : ps[j]? with
    | none => rw [hq] at ht; cases ht
    | some q =>
      cases hx : as[j]? with
      | none => rw [hx] at hv; cases hv
      | some x =>
        rw [hq] at ht
        rw [hx] at hv
        cases ht
        cases hv
        rw [rep_lst_iff]
        have fx := I.far (List.mem_of_getElem? hx)
        refine ⟨x, _, rfl, ⟨hB.nw true x ?_, fx.2⟩, I.at_ j x q hx hq, reps_of (by rw [List.length_map, List.length_map]) fun l t v ht hv => ?_⟩
        · cases z : B.H0 x with
          | none => rfl
          | some o => exact absurd (I.new x (List.mem_of_getElem? hx)) (E.dom x (by rw [z]; exact fun w => nomatch w))
        · rw [List.getElem?_map] at ht hv
          cases hn : q[l]? with
          | none => rw [hn] at ht; cases ht
          | some n =>
            rw [hn] at ht hv
            cases ht
            cases hv
            exact rep_int
end
end TL
namespace TL
open PySem PySem.Spec PyProof.Rows L2 Evl PF
mutual
def noL : T → Bool
  | .lst _ => false
  | .tup l => noLs l
  | .ins _ l => noLs l
  | .pot => false
  | .non | .bl _ | .int _ | .str _ | .dct _ | .cls _ | .rng _ _ => true
def noLs : List T → Bool
  | [] => true
  | t :: ts => noL t && noLs ts
end
section
variable {W : Wd} {B : Bd} {O : Ows} {l m : Lab} {H : Hp} {p : Addr}
mutual
theorem Rep.nol (hB : B.Ok) : ∀ (t : T) (v : V), noL t = true → Rep W p (gd B O m) H t v → Rep W p (gd B O l) H t v
  | .non, v, _, z => by rw [Rep] at z ⊢; exact z
  | .bl b, v, _, z => by rw [Rep] at z ⊢; exact z
  | .int i, v, _, z => by rw [Rep] at z ⊢; exact z
  | .str s, v, _, z => by rw [Rep] at z ⊢; exact z
  | .cls c, v, _, z => by rw [Rep] at z ⊢; exact z
  | .rng lo hi, v, _, z => by
    rw [Rep] at z ⊢
    obtain ⟨a, e, ga, ha⟩ := z
    exact ⟨a, e, gd_ins hB ga, ha⟩
  | .dct l, v, _, z => by
    rw [Rep] at z ⊢
    obtain ⟨a, e, ga, ha⟩ := z
    exact ⟨a, e, gd_ins hB ga, ha⟩
  | .tup l, v, n, z => by
    rw [Rep] at z ⊢
    unfold noL at n
    obtain ⟨a, vs, e, ga, ha, r⟩ := z
    exact ⟨a, vs, e, gd_ins hB ga, ha, Reps.nol hB l vs n r⟩
  | .ins c l, v, n, z => by
    rw [Rep] at z ⊢
    unfold noL at n
    obtain ⟨a, dx, vs, e, ga, o, ha, hl, r⟩ := z
    exact ⟨a, dx, vs, e, gd_ins hB ga, o, ha, hl, Reps.nol hB l vs n r⟩
  | .lst _, v, n, z => by simp [noL] at n
  | .pot, v, n, z => by simp [noL] at n
theorem Reps.nol (hB : B.Ok) : ∀ (ts : List T) (vs : List V), noLs ts = true → Reps W p (gd B O m) H ts vs → Reps W p (gd B O l) H ts vs
  | [], vs, _, z => by rw [Reps] at z ⊢; exact z
  | t :: ts, vs, n, z => by
    unfold noLs at n
    rw [Bool.and_eq_true] at n
    rw [Reps] at z ⊢
    obtain ⟨v, r, e, z1, z2⟩ := z
    exact ⟨v, r, e, Rep.nol hB t v n.1 z1, Reps.nol hB ts r n.2 z2⟩
end
end
/-- a value without lists -/
def fPlain (F : FE) : FE := fun τ pot => match F τ pot with
  | some (t, q) => if noL t = true then some (t, q) else none
  | none => none
end TL
namespace TL
open PySem PySem.Spec PyProof.Rows L2 Evl PF
def fEnumM (F : FI) : FI := fun τ pot => match F τ pot with
  | some ([t], p1) => (match sqKT t with
    | some (_, ts) => some ((List.range ts.length).zipWith (fun i t => .tup [.int (i : Nat), t]) ts, p1)
    | none => none)
  | _ => none
end TL
namespace TL
open PySem PySem.Spec PyProof.Rows L2 Evl PF
section
variable {W : Wd} {tt : TT} {tb : TS} {ls ls1 : List Lab} {Ft : FB} {Fs : FS} {i : Nat}
/-- ZE.leave without the told thing -/
theorem leaveF {B : Bd} {Z : Addr → Prop} {Hz : Hp} {τ : List Sl} {pot : Pot} {O : Ows} {σ : L2.St} {H H2 : Hp} (ez : EnvR W (zB B Z Hz) ls τ pot O σ H) (zo : ZOk B Z Hz H) (sm : ∀ b, ¬ Z b → H2 b = H b) (ne : ∀ b, Z b → H2 b ≠ none) : EnvR W (zB B Z H2) ls τ pot O σ H2 where
  pt := by
    show PotR B.p pot H2
    by_cases zp : Z B.p
    · have e := ez.non.mp ((zo.np _ zp).resolve_right fun y => y rfl)
      rw [e]
      exact trivial
    · have e : H2 B.p = H B.p := sm B.p zp
      have this : PotR B.p pot H := ez.pt
      unfold PotR at this ⊢
      rw [e]
      exact this
  non := ez.non
  ow := fun j a h => by
    have z := ez.ow j a h
    have nz : ¬ Z a := fun y => by
      have h0 := z.2
      rw [zB_y y] at h0
      exact zo.ne a y h0
    refine ⟨by rw [sm a nz]; exact z.1, ?_⟩
    rw [zB_n nz]
    have h0 := z.2
    rwa [zB_n nz] at h0
  inj := ez.inj
  fin := ez.fin
  hp := by
    have h : B.none ∨ (zB B Z Hz).H0 B.p ≠ none := ez.hp
    show B.none ∨ (zB B Z H2).H0 B.p ≠ none
    by_cases zp : Z B.p
    · exact .inl ((zo.np _ zp).resolve_right fun y => y rfl)
    · rw [zB_n zp] at h ⊢
      exact h
  kp := fun b o h n => by
    by_cases z : Z b
    · rw [zB_y z] at h
      exact h
    · rw [zB_n z] at h
      rw [sm b z]
      exact ez.kp b o (by rw [zB_n z]; exact h) n
  dom := fun b h => by
    by_cases z : Z b
    · exact ne b z
    · rw [zB_n z] at h
      rw [sm b z]
      exact ez.dom b (by rw [zB_n z]; exact h)
  l1 := ez.l1
  l2 := ez.l2
  sl := fun j l s x h1 h2 h3 => by
    have z := ez.sl j l s x h1 h2 h3
    have g : ∀ k b, gd (zB B Z Hz) O l k b → gd (zB B Z H2) O l k b := fun k b h => zB_gd (gd_zB h).1 (gd_zB h).2
    have kp : ∀ k b o, gd (zB B Z Hz) O l k b → H b = some o → H2 b = some o := fun k b o h e => by rw [sm b (gd_zB h).2]; exact e
    have no : ∀ k a, O k = some a → H2 a = H a := fun k a h => sm a fun y => by
      have h0 := (ez.ow k a h).2
      rw [zB_y y] at h0
      exact zo.ne a y h0
    cases s with
    | no => exact z
    | val t =>
      obtain ⟨z0, v, e1, r⟩ := z
      exact ⟨z0, v, e1, r.up g kp⟩
    | own ts =>
      obtain ⟨a, vs, e1, e2, e3, r⟩ := z
      exact ⟨a, vs, e1, e2, by rw [no _ _ e1]; exact e3, r.up g kp⟩
    | obj c ts =>
      obtain ⟨a, dx, vs, e1, e2, o, e3, hl, r⟩ := z
      exact ⟨a, dx, vs, e1, e2, o, by rw [no _ _ e1.1]; exact e3, hl, r.up g kp⟩
end
end TL
namespace TL
open PySem PySem.Spec PyProof.Rows L2 Evl PF
section
variable {W : Wd} {R : RR_} {te ta tc : TE} {tt : TT} {tb : TS} {ls ls1 : List Lab} {F Fa Fc : FE} {Ft : FB} {Fs F1 F2 : FS} {l m : Lab} {i j k : Nat}
structure ZE2 (W : Wd) (B : Bd) (Z1 : Addr → Prop) (Hz1 : Hp) (i : Nat) (t : T) (Z2 : Addr → Prop) (Hz2 : Hp) (j : Nat) (u : T) (ls : List Lab) (τ : List Sl) (pot : Pot) (O : Ows) (σ : L2.St) (H : Hp) : Prop where
  a : ZE W B Z1 Hz1 i t ls τ pot O σ H
  b : ZE W (zB B Z1 Hz1) Z2 Hz2 j u ls (τ.set i .no) pot O σ H
  ij : i ≠ j
def Zor (Z1 Z2 : Addr → Prop) : Addr → Prop := fun b => Z1 b ∨ Z2 b
section
variable {B : Bd} {Z Z1 Z2 : Addr → Prop} {Hz Hz1 Hz2 : Hp} {t u : T} {τ : List Sl} {pot pot' : Pot} {O : Ows} {σ : L2.St} {H H' H2 : Hp}
theorem ZE2.step (hB : B.Ok) (E : ZE2 W B Z1 Hz1 i t Z2 Hz2 j u ls τ pot O σ H) (n : Nx B.p pot H pot' H') : ZE2 W B Z1 Hz1 i t Z2 Hz2 j u ls τ pot' O σ H' := ⟨E.a.step hB n, E.b.step (zB_ok hB E.a.z.ne) n, E.ij⟩
theorem ZE.put (E : ZE W B Z Hz i t ls τ pot O σ H) (hk : k < ls.length) (ki : k ≠ i) {w : T} {v : V} (r1 : Rep W B.p (gd B O (false, false)) H w v) (r2 : Rep W B.p (gd (zB B Z Hz) O (false, false)) H w v) : ZE W B Z Hz i t (ls.set k (false, false)) (τ.set k (.val w)) pot (clr O k) (σ.set k (some v)) H where
  e := E.e.put hk r1
  ez := by
    rw [List.set_comm _ _ ki]
    exact E.ez.put hk r2
  at_ := by rw [List.getElem?_set_ne ki]; exact E.at_
  v := by
    obtain ⟨w, hw, rw'⟩ := E.v
    exact ⟨w, by rw [List.getElem?_set_ne ki]; exact hw, rw'.sub (zG_clr k)⟩
  z := E.z
theorem ZE2.put (E : ZE2 W B Z1 Hz1 i t Z2 Hz2 j u ls τ pot O σ H) (hk : k < ls.length) (ki : k ≠ i) (kj : k ≠ j) {w : T} {v : V} (r1 : Rep W B.p (gd B O (false, false)) H w v) (r2 : Rep W B.p (gd (zB B Z1 Hz1) O (false, false)) H w v) (r3 : Rep W B.p (gd (zB (zB B Z1 Hz1) Z2 Hz2) O (false, false)) H w v) : ZE2 W B Z1 Hz1 i t Z2 Hz2 j u (ls.set k (false, false)) (τ.set k (.val w)) pot (clr O k) (σ.set k (some v)) H where
  a := E.a.put hk ki r1 r2
  b := by
    have := E.b.put hk kj r2 r3
    rw [List.set_comm _ _ (Ne.symm ki)] at this
    exact this
  ij := E.ij
end
theorem OutZ.clr {B : Bd} {Z : Addr → Prop} {pot p1 pot' : Pot} {O : Ows} {H H1 : Hp} {D : Ends} {o : Out} (n : Nx B.p pot H p1 H1) (d : OutZ R W B Z ls1 pot O H D pot' o) : OutZ R W B Z ls1 p1 (TL.clr O k) H1 D pot' o := d.pre n fun j a h => ⟨j, by
  unfold TL.clr at h
  split at h
  · cases h
  · exact h⟩
theorem zB_swap {B : Bd} {Z1 Z2 : Addr → Prop} {Hz1 Hz2 : Hp} (dj : ∀ b, Z2 b → ¬ Z1 b) : zB (zB B Z1 Hz1) Z2 Hz2 = zB (zB B Z2 Hz2) Z1 Hz1 := by
  unfold zB
  congr 1
  · funext k b
    exact propext ⟨fun h => ⟨⟨h.1.1, h.2⟩, h.1.2⟩, fun h => ⟨⟨h.1.1, h.2⟩, h.1.2⟩⟩
  · funext k b
    exact propext ⟨fun h => ⟨⟨h.1.1, h.2⟩, h.1.2⟩, fun h => ⟨⟨h.1.1, h.2⟩, h.1.2⟩⟩
  · funext b
    by_cases h1 : Z1 b
    · have h2 : ¬ Z2 b := fun z => dj b z h1
      simp [h1, h2]
    · simp [h1]
/-- the first told thing is changed and left -/
theorem ZE2.rest {B : Bd} (hB : B.Ok) {Z1 Z2 : Addr → Prop} {Hz1 Hz2 : Hp} {t u : T} {τ : List Sl} {pot pot' : Pot} {O : Ows} {σ : L2.St} {H H2 : Hp} {D : Ends} {o : Out} (E : ZE2 W B Z1 Hz1 i t Z2 Hz2 j u ls τ pot O σ H) (sm : ∀ b, ¬ Z1 b → H2 b = H b) (ne : ∀ b, Z1 b → H2 b ≠ none)
    (g : SmZ W RetE tb ls j Fs ls1) (f : Fs (τ.set i .no) pot = some (o, pot')) (d : OutZ RetE W B (Zor Z1 Z2) ls1 pot O H D pot' o) : tb D σ H2 := by
  have dj : ∀ b, Z2 b → ¬ Z1 b := fun b z y => by
    have h0 := E.b.z.h0 b z
    rw [zB_y y] at h0
    exact E.a.z.ne b y h0
  have h02 : ∀ b, Z2 b → B.H0 b = none := fun b z => by
    have h0 := E.b.z.h0 b z
    rwa [zB_n (dj b z)] at h0
  have ez : EnvR W (zB (zB B Z1 H2) Z2 Hz2) ls ((τ.set i .no).set j .no) pot O σ H2 := by
    have e := E.b.ez
    rw [zB_swap dj] at e
    rw [zB_swap dj]
    refine leaveF e ⟨E.a.z.at_, E.a.z.ls, fun b z => ?_, E.a.z.np⟩ sm ne
    rw [zB_n (fun y => dj b y z)]
    exact E.a.z.h0 b z
  have ze : ZE W (zB B Z1 H2) Z2 Hz2 j u ls (τ.set i .no) pot O σ H2 := by
    refine ⟨E.a.leave sm ne, ez, E.b.at_, ?_, ⟨fun b z => by rw [sm b (dj b z)]; exact E.b.z.at_ b z, E.b.z.ls, fun b z => by rw [zB_n (dj b z)]; exact h02 b z, E.b.z.np⟩⟩
    obtain ⟨v, hv, r⟩ := E.b.v
    refine ⟨v, hv, r.up (fun k b z => ?_) fun k b o z h => ?_⟩
    · cases k with
      | true => exact zG_t z
      | false =>
        obtain ⟨z1, z2⟩ := zG_f z
        have w := gd_zB z1
        exact ⟨zB_gd w.1 w.2, z2⟩
    · cases k with
      | true => rw [sm b (dj b (zG_t z))]; exact h
      | false => rw [sm b (gd_zB (zG_f z).1).2]; exact h
  refine g (zB B Z1 H2) (zB_ok hB ne) Z2 Hz2 u (τ.set i .no) pot O σ H2 ze o pot' f D ?_
  cases o with
  | rt t =>
    intro v H' r
    refine d v H' ⟨fun b o h n => r.kept b o ?_ n, r.pt, r.non, fun b h => r.dom b ?_, ?_⟩
    · have nz : ¬ Z1 b := fun y => by rw [E.a.z.h0 b y] at h; cases h
      rw [zB_n nz]
      exact h
    · have nz : ¬ Z1 b := fun y => h (E.a.z.h0 b y)
      rw [zB_n nz]
      exact h
    · have h : Rep W B.p (zB B Z1 H2).G1 H' t v := r.rep
      exact h.sub fun k a z => z.1
  | nx τ' =>
    intro O' σ' H' s E'
    refine d O' σ' H' ⟨fun b o h n y z => s.kept b o (by rw [sm b fun y => z (.inl y)]; exact h) n y fun y => z (.inr y), fun j a h => ?_, s.non, fun b h => s.dom b ?_⟩ (E'.zback ne E.a.z.h0 E.a.e.hp)
    · rcases s.own j a h with ⟨k, z⟩ | z
      · exact .inl ⟨k, z⟩
      · by_cases y : Z1 a
        · exact absurd z (ne a y)
        · exact .inr (by rw [← sm a y]; exact z)
    · by_cases y : Z1 b
      · exact ne b y
      · rw [sm b y]; exact h
end
end TL
namespace TL
open PySem PySem.Spec PyProof.Rows L2 Evl PF
section
variable {W : Wd} {R : RR_} {te ta tc : TE} {tt : TT} {tb : TS} {ls ls1 : List Lab} {F Fa Fc : FE} {Ft : FB} {Fs : FS} {i j k l : Nat}
section
variable {B : Bd} {Z Z1 Z2 : Addr → Prop} {Hz Hz1 Hz2 : Hp} {t u : T} {τ : List Sl} {pot p1 pot' : Pot} {O : Ows} {σ : L2.St} {H H1 Hm H2 : Hp}
theorem EnvR.putNo {x : Option V} {m : Lab} (E : EnvR W B ls τ pot O σ H) (hi : i < ls.length) : EnvR W B (ls.set i m) (τ.set i .no) pot (clr O i) (σ.set i x) H where
  pt := E.pt
  non := E.non
  ow := fun j a h => E.ow j a (by
    unfold clr at h
    split at h
    · cases h
    · exact h)
  inj := fun j k a h1 h2 => by
    unfold clr at h1 h2
    split at h1
    · cases h1
    · split at h2
      · cases h2
      · exact E.inj j k a h1 h2
  fin := by
    obtain ⟨n, h1, h2⟩ := E.fin
    exact ⟨n, by rw [List.length_set]; exact h1, fun j hj => by
      unfold clr
      split
      · rfl
      · exact h2 j hj⟩
  hp := E.hp
  kp := E.kp
  dom := E.dom
  l1 := by rw [List.length_set, List.length_set]; exact E.l1
  l2 := by rw [List.length_set, List.length_set]; exact E.l2
  sl := fun j m s x h1 h2 h3 => by
    by_cases e : j = i
    · subst e
      rw [List.getElem?_set_self (by have := E.l1; have := E.l2; omega)] at h2
      cases h2
      exact if_pos rfl
    · rw [List.getElem?_set_ne (Ne.symm e)] at h1 h2 h3
      exact (E.sl j m s x h1 h2 h3).clr e
theorem ZE.putNo {x : Option V} (E : ZE W B Z Hz i t ls τ pot O σ H) (hk : k < ls.length) (ki : k ≠ i) : ZE W B Z Hz i t (ls.set k (false, false)) (τ.set k .no) pot (clr O k) (σ.set k x) H where
  e := E.e.putNo hk
  ez := by
    rw [List.set_comm _ _ ki]
    exact E.ez.putNo hk
  at_ := by rw [List.getElem?_set_ne ki]; exact E.at_
  v := by
    obtain ⟨w, hw, rw'⟩ := E.v
    exact ⟨w, by rw [List.getElem?_set_ne ki]; exact hw, rw'.sub (zG_clr k)⟩
  z := E.z
theorem ZE2.dj (E : ZE2 W B Z1 Hz1 i t Z2 Hz2 j u ls τ pot O σ H) : ∀ b, Z2 b → ¬ Z1 b := fun b z y => by
  have h0 := E.b.z.h0 b z
  rw [zB_y y] at h0
  exact E.a.z.ne b y h0
end
end
end TL
namespace TL
open PySem PySem.Spec PyProof.Rows L2 Evl PF
theorem kbn_of {K : PySem.W.Frag} {x qual : Str} {st : Stmt} {f : Addr} {fd : FuncData} {ps ks : List Str} {is : List Nat} (F : Fun K x qual st f fd)
    (h : ∀ (kV doc pm : Value) (an : Option Addr) (cdv ct : Value) (u : Value) (ws : List Value), ws.length = ks.length → bindArgs (PySem.W.fnOf x qual (defArgs st) (defBody st) (defScope st) .none kV doc pm an cdv ct) ⟨[u], ks.zip ws⟩ = pure (ps.zip (u :: is.filterMap fun i => ws[i]?)))  :
    KBn K fd ps 1 ks (fun us ws => us ++ is.filterMap fun i => ws[i]?) (fun vs zs => vs ++ permV is zs) := by
  obtain ⟨oc, od, kV, doc, pm, an, cdv, ct, osl, rfl, lk, hcd⟩ := F.ex
  refine ⟨fun s us ws _ l1 l2 => ?_, fun r1 r2 => ?_⟩
  · match us, l1 with
    | [u], _ => exact .of_eq (h kV doc pm an cdv ct u ws l2)
  · have r3 := vals_perm r2 is
    induction r1 with
    | nil => exact r3
    | cons a _ ih => exact .cons a ih
section
variable {W : Wd} {c : Nat} {F : List T → M T} {fl : List Bool} {E : XK} {tx : TA} {ls ms : List Lab} {Fs : FI} {l : Lab}
theorem sm_makeK {q : Nat} {is : List Nat} (o : OwnX W.K (W.C c)) (h : SmA W tx ls Fs ms) (hm : ms.length = q) (hi : ∀ i ∈ is, i < ms.length) (e : lok l fl (permL is ms) = true) : Sm W (tMakeK (W.C c) 0 q (spI W c F fl) (fun vs zs => vs ++ permV is zs) E tNil tx) ls (fCall F (fPerm is Fs)) l := fun B hB τ pot O σ H En t pot' f Q q => by
  unfold fCall fPerm at f
  split at f
  · rename_i ts p1 e1
    split at e1
    · rename_i ts0 p0 e0
      cases e1
      refine h B hB τ pot O σ H En _ _ e0 _ fun vs H1 n r => ⟨rfl, r.len.2.trans hm, fun x dx hx hdx ne => ?_⟩
      have E1 := En.step hB n
      exact ⟨B.p, _, gd B O l, gd B O ltop, x, dx, H1, permV is vs, _, t, pot', rfl, hx, hdx, ne, rfl, o, E1.ct hB l, argR_pass hB e (argR_perm r is hi), f, fun H2 n2 r2 => ⟨rfl, q _ H2 (n.trans n2) r2⟩⟩
    · cases e1
  · cases f
end
end TL
namespace PF
open PySem PySem.Spec PyProof.Rows L2 Evl
section
variable {prog : Program} {w : World} {A : Around} {E : Value → Shared → Prop} {s : Shared}
/-- pyReprObj by the slot of v's type -/
theorem reprObj_slot {T id : String} {v : Value} {Q : Value → Shared → Prop} (hT : s.TypeIs v T) (slot : SlotG T (Str.ofString "__repr__") id) (hu : A.units < cLine)
    (h : wpAny (model prog w) A (call (.builtin id) [v]) (fun r s' => (∃ x t, r = .str x t) ∧ Q r s') E s) : wpAny (model prog w) A (pyReprObj v) Q E s := by
  unfold pyReprObj
  refine wpAny_bind (wpAny_cRoomFor hu ?_)
  refine wpAny_bind (wpAny_specialOf (name := Str.ofString "__repr__") hT slot.lookup ?_)
  refine wpAny_bind (m := callSpecialIfBound? v (Str.ofString "__repr__")) (wpAny_callSpecialIfBound?_slotG (name := Str.ofString "__repr__") hT slot (wpAny_mono h (fun r s' z => ?_) fun _ _ z => z))
  obtain ⟨⟨x, t, rfl⟩, q⟩ := z
  exact wpAny_bind (wpAny_isInstance (T := "str") (b := true) rfl isSubtype_str_str (wpAny_pure q))
end
section
variable {X : Cx}
theorem reprObj_list {O : RO} {m n : Nat} (hg : X.A.guards = some []) (hr : Room (m + n + 3) X.A) (k : ROk O) (own : OShow X m O) {pins : List (Addr × Obj)} {s : Shared} {σ : L2.St} {H : Hp} {a : Addr} {x : Str} {u : Value} {vs : List V}
    (sh : Sh O H n (.ref a) x) (ha : H a = some (.lst vs)) (sz : x.length ≤ sizeLine) (I : Inv X pins σ H s) (ru : RelV (.ref a) u) : wpAny (model X.prog X.w) X.A (pyReprObj u) (fun v s' => (∃ t, v = .str x t) ∧ After X pins σ H s') X.xe s := by
  have sb : Sub X (m + n + 3) X.A := ⟨hr, rfl⟩
  have noleaf : ∀ y, ¬ Leaf O H (.ref a) y := fun y h => by
    cases h with
    | own _ _ h =>
      obtain ⟨C, dx, fs, e⟩ := k.ins h
      rw [ha] at e
      cases e
  induction n with
  | zero => exact absurd sh (noleaf x)
  | succ n ih =>
    by_cases low : Sh O H n (.ref a) x
    · exact ih (hr.mono (by omega)) low (sb.mono (by omega))
    · have no : ∀ y, ¬ Sh O H n (.ref a) y := fun y hy => low (by rw [Sh.one k (n + 1) n (.ref a) x y sh hy]; exact hy)
      have nog : ∀ n, NotIn O H n [] := fun n id a rest kw hm => by cases hm
      rcases sh with h | ⟨a', vs', ts, e, ha', p, rfl⟩ | ⟨a', vs', ts, e, ha', p, rfl⟩
      · exact absurd h (noleaf x)
      · cases e
        cases ru
        obtain ⟨z, its, kk, rr, ea⟩ := I.hok a _ ha'
        have sb0 : Sub X (m + (n + 1)) X.A := Sub.mono (n := m + (n + 1) + 3) sb (by omega)
        have body := list_at (shows_all k own n) ha' p no sb0 hg (nog _) (Ex.refl H) I 0 (by omega)
        refine reprObj_slot ⟨_, ea, rfl⟩ PySem.F.slot_list_repr.toG (by have := sb0.room.units; omega) (wpAny_mono (Q := fun w s' => (∃ t, w = .str (listText ts) t) ∧ After X pins σ H s') ?_ (fun w s' z => ?_) fun _ _ z => z)
        · exact wpAny_call (codeAny_call_builtin PySem.F.slot_list_repr.plain PySem.F.entry_list_repr (PySem.F.slot_list_repr.check _ _ _ _ _ _ _ _ ⟨_, ea, rfl⟩ (PySem.F.args_list_repr_1 _) (text_end body)))
        · obtain ⟨⟨t, rfl⟩, af⟩ := z
          exact ⟨⟨_, t, rfl⟩, ⟨t, rfl⟩, af⟩
      · cases e
        rw [ha] at ha'
        cases ha'
/-- {x!r}: a list that is shown -/
def tFmtRL (O : RO) (n : Nat) (te : TE) : TE := fun σ H Q => te σ H fun v H1 => ∃ x b vs, v = .ref b ∧ H1 b = some (.lst vs) ∧ Sh O H1 n v x ∧ x.length ≤ sizeLine ∧ ∀ H2, Ex H1 H2 → Q (.str x) H2
theorem pe_fmtRL {O : RO} {m n : Nat} (hg : X.A.guards = some []) (hr : Room (m + n + 3) X.A) (k : ROk O) (own : OShow X m O) {e : Expr} {te : TE} {pos : Pos} (he : PE X e te) : PE X (.FormattedValue e 114 none pos) (tFmtRL O n te) := by
  refine ⟨fun pins s σ H Q I h => ?_⟩
  refine wpAny_FormattedValue_repr (thn (he.run pins s σ H _ I h) fun v s1 hv => ?_)
  obtain ⟨w, H1, I1, r1, y, b, vs, rfl, hb, sh, hz, q⟩ := hv
  refine thn (reprObj_list hg hr k own sh hb hz I1 r1) fun r s2 z => ?_
  obtain ⟨⟨t, rfl⟩, H2, I2, e2⟩ := z
  exact wpAny_formatField_str ⟨.str y, H2, I2, ⟨t, rfl⟩, q H2 e2⟩ ⟨.str y, H2, I2.tok _, ⟨_, rfl⟩, q H2 e2⟩ hz
theorem ev_fmtRL {O : RO} {n : Nat} (k : ROk O) {te : TE} {σ : L2.St} {H : Hp} {b : Addr} {vs : List V} {y : Str} (h : Ev te σ H (.ref b)) (sh : Sh O H n (.ref b) y) (hb : H b = some (.lst vs)) (hz : y.length ≤ sizeLine) : Ev (tFmtRL O n te) σ H (.str y) :=
  fun H1 e Q q => h H1 e _ fun H2 e2 => ⟨y, b, vs, rfl, (e.trans e2) _ _ hb, sh.up k (e.trans e2), hz, fun H3 e3 => q H3 (e2.trans e3)⟩
/-- repr(x), x an instance with its own __repr__, where no text of a list is being written -/
theorem call_reprG {CX : CXT} {k : Nat} {C f : Addr} {fd : FuncData} {ps : List Str} {R : RO} {E : XK} (m : Meth X.K C "__repr__" f) (F : FnG X.prog X.w X.K X.mg X.base CX k f fd ps (spText R)) (hg : X.A.guards = some []) (hr : Room (k + 2) X.A) (hb : Binds X.K fd ps []) (hx : Passes CX X E)
    (hC : ∀ a x H, R a x H → ∃ dx fs, H a = some (.ins C dx fs)) : CallR X (.builtin "repr") (rStrO R) := by
  intro pins s σ H xs us Q I r h
  obtain ⟨a, x, rfl, ra, q⟩ := h
  obtain ⟨u, rfl, ru⟩ := vals1 r
  cases ru
  obtain ⟨dx, fs, ea⟩ := hC a x H ra
  obtain ⟨od, J⟩ := inst_at I ea
  have r2 : Vals [V.ref a] [Value.ref a] := .cons rfl .nil
  have sb : Sub X (k + 1) X.A.in1 := Sub.in1 (n := k + 1) ⟨hr, rfl⟩
  have hsp : spText R [.ref a] H (fun v H' => v = .str x ∧ Ex H H') E := ⟨a, x, rfl, ra, fun H' e => ⟨rfl, e⟩⟩
  have hl : ([Value.ref a] ++ []).length = ps.length := F.len _ _ _ _ hsp
  have b0 := hb s [Value.ref a] I.kIn hl
  have e0 : Env0 X.prog X.w X.K X.mg X.base X.A.in1 X.stack s H := by
    have e := I.env0
    exact ⟨by rw [sb.fr]; exact e.frames, e.mod, e.bs, e.bsz, e.funs, e.frf, e.hok, e.bare⟩
  have run : wpAny (model X.prog X.w) X.A.in1 (call (.ref f) [.ref a]) (L2.EP X pins σ fun v H' => v = .str x ∧ Ex H H') X.xe s := by
    refine wpAny_call (codeAny_mono (F.run X.A.in1 X.stack s H ⟨[Value.ref a], []⟩ [Value.ref a] [.ref a] _ E hg (sb.room.mono (by omega)) e0 b0 r2 hsp) fun res s' z => ?_)
    match res, z with
    | .error er, z => exact hx pins σ H s er s' I z
    | .ok (.ret u), z => exact I.after z
    | .ok .next, z => exact z.elim
    | .ok .brk, z => exact z.elim
    | .ok .cont, z => exact z.elim
  obtain ⟨m0, hF⟩ := I.fr
  refine PySem.W.repr_K (by have := sb.room.units; omega) hF I.ok.mod.kin J m.at_ m.fn (thn run fun v s' z => ?_)
  obtain ⟨w, H', I', rw', ew, e⟩ := z
  subst ew
  obtain ⟨t, rfl⟩ := rw'
  exact ⟨.str x, H', I', ⟨t, rfl⟩, q H' e⟩
end
end PF
namespace TL
open PySem PySem.Spec PyProof.Rows L2 Evl PF
def lstPT : T → Option (List T)
  | .lst l => some l
  | _ => none
end TL
namespace TL
open PySem PySem.Spec PyProof.Rows L2 Evl PF
section
variable {W : Wd} {R : RR_} {te tx ty : TE} {tb : TS} {ls ls1 ms : List Lab} {F Fe : FE} {FL : FI} {Fs : FS} {l m : Lab} {i j : Nat}
open Classical in
/-- a body's entry at which all that stands is old -/
noncomputable def nwB (B : Bd) (O : Ows) (H : Hp) : Bd := ⟨B.p, fun k b => H b = none ∨ (∃ i, O i = some b) ∨ (k = false ∧ gd B O ltop false b), B.G2, fun b => if ∃ i, O i = some b then none else H b, B.none, B.self⟩
theorem nwB_y {B : Bd} {O : Ows} {H : Hp} {b : Addr} (h : ∃ i, O i = some b) : (nwB B O H).H0 b = none := if_pos h
theorem nwB_n {B : Bd} {O : Ows} {H : Hp} {b : Addr} (h : ¬ ∃ i, O i = some b) : (nwB B O H).H0 b = H b := if_neg h
theorem nwB_ok {B : Bd} (hB : B.Ok) {τ : List Sl} {pot : Pot} {O : Ows} {σ : L2.St} {H : Hp} (E : EnvR W B ls τ pot O σ H) : (nwB B O H).Ok where
  nw := fun k b h => by
    by_cases o : ∃ i, O i = some b
    · exact .inr (.inl o)
    · rw [nwB_n o] at h
      exact .inl h
  sub := fun k b h => by
    show B.G2 k b
    rcases h with h | ⟨i, h⟩ | ⟨rfl, h⟩
    · refine hB.sub k b (hB.nw k b ?_)
      cases q : B.H0 b with
      | none => rfl
      | some o => exact absurd h (E.dom b (by rw [q]; exact fun y => nomatch y))
    · exact hB.sub k b (hB.nw k b (E.ow i b h).2)
    · have := h.1
      rwa [if_pos rfl] at this
  np := hB.np
  ins := fun b h => by
    by_cases o : ∃ i, O i = some b
    · exact .inr (.inl o)
    · exact .inr (.inr ⟨rfl, by rw [if_pos rfl]; exact h, .inr fun i e => o ⟨i, e⟩⟩)
theorem nwB_env {B : Bd} (hB : B.Ok) (hc : cln ls = true) {τ : List Sl} {pot : Pot} {O : Ows} {σ : L2.St} {H : Hp} (E : EnvR W B ls τ pot O σ H) : EnvR W (nwB B O H) (ls.map fun _ => ((true, false) : Lab)) τ pot O σ H where
  pt := E.pt
  non := E.non
  ow := fun i a h => ⟨(E.ow i a h).1, nwB_y ⟨i, h⟩⟩
  inj := E.inj
  fin := E.fin
  hp := by
    rcases E.hp with h | h
    · exact .inl h
    · refine .inr ?_
      have o : ¬ ∃ i, O i = some B.p := fun ⟨i, e⟩ => h (E.ow i _ e).2
      show (nwB B O H).H0 B.p ≠ none
      rw [nwB_n o]
      exact E.dom _ h
  kp := fun b o h n => by
    by_cases q : ∃ i, O i = some b
    · rw [nwB_y q] at h; cases h
    · rwa [nwB_n q] at h
  dom := fun b h => by
    by_cases q : ∃ i, O i = some b
    · exact absurd (nwB_y q) h
    · rwa [nwB_n q] at h
  l1 := E.l1
  l2 := by rw [List.length_map]; exact E.l2
  sl := fun i l s x h1 h2 h3 => by
    rw [List.getElem?_map] at h1
    obtain ⟨l0, e0, rfl⟩ := Option.map_eq_some_iff.mp h1
    have z := E.sl i l0 s x e0 h2 h3
    have cl := cln_at hc e0
    have g : ∀ k b, gd B O l0 k b → gd (nwB B O H) O (true, false) k b := fun k b h => by
      refine ⟨?_, .inr (h.2.resolve_left fun y => by rw [cl] at y; exact nomatch y.1)⟩
      rw [if_pos rfl]
      have h1 := h.1
      show B.G2 k b
      split at h1
      · exact h1
      · exact hB.sub k b h1
    cases s with
    | no => exact z
    | val t =>
      obtain ⟨z0, v, e1, r⟩ := z
      exact ⟨z0, v, e1, r.sub g⟩
    | own ts =>
      obtain ⟨a, vs, e1, e2, e3, r⟩ := z
      exact ⟨a, vs, e1, e2, e3, r.sub g⟩
    | obj c ts =>
      obtain ⟨a, dx, vs, e1, e2, o, e3, hl, r⟩ := z
      exact ⟨a, dx, vs, e1, e2, o, e3, hl, r.sub g⟩
theorem smNw_of (hc : cln ls = true) (h : Sm W te (ls.map fun _ => ((true, false) : Lab)) F (false, false)) : SmNw W te ls F := fun B hB τ pot O σ H E t pot' f Q q =>
  h (nwB B O H) (nwB_ok hB E) τ pot O σ H (nwB_env hB hc E) t pot' f Q fun v H' n r => q v H' n (r.sub fun k b g => by
    obtain ⟨g1, g2⟩ := g
    have no : ∀ i, O i ≠ some b := g2.resolve_left fun y => nomatch y.1
    rw [if_neg Bool.false_ne_true] at g1
    rcases g1 with h | ⟨i, h⟩ | h
    · exact .inl h
    · exact absurd h (no i)
    · exact .inr h)
end
end TL
namespace TL
open PySem PySem.Spec PyProof.Rows L2 Evl PF
section
variable {W : Wd} {R : RR_} {te tx ty : TE} {tt : TT} {tb : TS} {ls ls1 ms : List Lab} {F Fe : FE} {FL : FI} {Ft : FB} {Fs : FS} {l m : Lab} {i j : Nat}
/-- the zone's lists with c items more at most -/
structure Grow (Z : Addr → Prop) (H H' : Hp) (c : Nat) : Prop where
  sm : ∀ b, ¬ Z b → H' b = H b
  gr : ∀ b, Z b → ∃ vs ex, H b = some (.lst vs) ∧ H' b = some (.lst (vs ++ ex)) ∧ ex.length ≤ c
theorem Grow.app {Z : Addr → Prop} {H H' : Hp} {c : Nat} (g : Grow Z H H' c) {a : Addr} (za : Z a) {vs : List V} (ha : H' a = some (.lst vs)) (x : V) : Grow Z H (upd H' a (.lst (vs ++ [x]))) (c + 1) where
  sm := fun b z => by
    have hne : b ≠ a := fun e => z (by rw [e]; exact za)
    rw [upd_ne hne]
    exact g.sm b z
  gr := fun b z => by
    obtain ⟨us, ex, e1, e2, e3⟩ := g.gr b z
    by_cases e : b = a
    · subst e
      rw [ha] at e2
      cases e2
      exact ⟨us, ex ++ [x], e1, by rw [upd_same, List.append_assoc], by rw [List.length_append]; show _ + 1 ≤ _; omega⟩
    · exact ⟨us, ex, e1, by rw [upd_ne e]; exact e2, by omega⟩
/-- three lists in a list -/
def shp8 : List T → Option (List T × List T × List T)
  | [a, b, c] => (lstT a).bind fun x => (lstT b).bind fun y => (lstT c).map fun z => (x, y, z)
  | _ => none
def shp1 : List T → Option (List T)
  | a :: _ => lstT a
  | _ => none
theorem lstT_of {t : T} {l : List T} (h : lstT t = some l) : t = .lst l := by
  cases t <;> cases h
  rfl
theorem shp8_of {ts : List T} {x y z : List T} (h : shp8 ts = some (x, y, z)) : ts = [.lst x, .lst y, .lst z] := by
  unfold shp8 at h
  split at h
  · rename_i a b c
    obtain ⟨x', e1, h⟩ := Option.bind_eq_some_iff.mp h
    obtain ⟨y', e2, h⟩ := Option.bind_eq_some_iff.mp h
    obtain ⟨z', e3, h⟩ := Option.map_eq_some_iff.mp h
    cases h
    rw [lstT_of e1, lstT_of e2, lstT_of e3]
  · cases h
theorem shp1_of {ts : List T} {x : List T} (h : shp1 ts = some x) : ∃ us, ts = .lst x :: us := by
  unfold shp1 at h
  split at h
  · rename_i a us
    exact ⟨us, by rw [lstT_of h]⟩
  · cases h
def fLeave8 (Ft : FB) (i j : Nat) : FS := fun τ pot => match τ[i]? with
  | some (.val t) => (match (lstT t).bind shp8 with
    | some (x, y, z) => if x.length + 8 < maxLen ∧ y.length + 8 < maxLen ∧ z.length + 8 < maxLen then (match Ft τ pot with
      | some (true, p1) => (match shp1 z with
        | some w => if w.length + 8 < maxLen then some (.nx ((τ.set i .no).set j .no), p1) else none
        | none => none)
      | some (false, p1) => some (.nx ((τ.set i .no).set j .no), p1)
      | none => none) else none
    | none => none)
  | _ => none
/-- the three turns -/
theorem turns8 {B : Bd} (hB : B.Ok) {Z : Addr → Prop} {Hz : Hp} {t : T} {τ : List Sl} {pot pot' : Pot} {O : Ows} {σ : L2.St} {H H2 : Hp} {D : Ends} {o : Out} {x y z : List T} {c : Nat} (E : ZE W B Z Hz i t ls τ pot O σ H) (et : t = .lst [.lst x, .lst y, .lst z]) (hx : x.length + 8 < maxLen) (hy : y.length + 8 < maxLen) (hz : z.length + 8 < maxLen) (gr : Grow Z H H2 c) (hc : c ≤ 2)
    (hj : j < ls.length) (ji : j ≠ i) (g : SmS W RetE tb (ls.set j (false, false)) Fs ls1) (f : Fs ((τ.set i .no).set j .no) pot = some (o, pot')) (d : OutZ RetE W B Z ls1 pot O H D pot' o) :
    tSeq (tFor (iRng1 (tCons (tC (.int 3)) tNil)) (gName j) (tApN W.K (tOp (rIx W.K) (tVar i) (tVar j)))) tb D σ H2 := by
  subst et
  obtain ⟨v, hv, r⟩ := E.v
  rw [rep_lst_iff] at r
  obtain ⟨a, vs, rfl, za, ha, rs⟩ := r
  have za : Z a := zG_t za
  rw [reps_cons_iff] at rs
  obtain ⟨v0, vr, rfl, r0, rs⟩ := rs
  rw [reps_cons_iff] at rs
  obtain ⟨v1, vr, rfl, r1, rs⟩ := rs
  rw [reps_cons_iff] at rs
  obtain ⟨v2, vr, rfl, r2, rs⟩ := rs
  rw [reps_nil_iff] at rs
  subst rs
  rw [rep_lst_iff] at r0 r1 r2
  obtain ⟨a0, w0, rfl, z0, h0, q0⟩ := r0
  obtain ⟨a1, w1, rfl, z1, h1, q1⟩ := r1
  obtain ⟨a2, w2, rfl, z2, h2, q2⟩ := r2
  have z0 : Z a0 := zG_t z0
  have z1 : Z a1 := zG_t z1
  have z2 : Z a2 := zG_t z2
  have l0 := q0.length
  have l1 := q1.length
  have l2 := q2.length
  have ml : maxLen = 40000 := rfl
  -- what stands at each turn
  have at3 : ∀ k, k < 3 → ∃ b wb, ([V.ref a0, .ref a1, .ref a2] : List V)[k]? = some (.ref b) ∧ Z b ∧ H b = some (.lst wb) ∧ wb.length + 8 < maxLen := fun k hk => by
    match k, hk with
    | 0, _ => exact ⟨a0, w0, rfl, z0, h0, by omega⟩
    | 1, _ => exact ⟨a1, w1, rfl, z1, h1, by omega⟩
    | 2, _ => exact ⟨a2, w2, rfl, z2, h2, by omega⟩
  show ∃ n : Int, [V.int 3] = [.int n] ∧ _
  refine ⟨3, rfl, by decide, by decide, fun k m σ' H' => m = 3 - k ∧ k ≤ 3 ∧ Grow Z H H' (c + k) ∧ ∃ w, σ' = σ ∨ σ' = σ.set j w, ⟨3, rfl, by decide, gr, none, .inl rfl⟩, ?_⟩
  rintro k m σ' H' ⟨rfl, hk, gk, w, hw⟩
  by_cases lt : k < 3
  · right
    refine ⟨lt, _, fun σ' H' z => ⟨3 - (k + 1), by omega, z⟩, fun x1 H3 y1 => ?_⟩
    obtain ⟨rfl, rfl⟩ := y1
    have hjs : j < σ'.length := by
      have e1 := E.e.l2
      rcases hw with rfl | rfl
      · omega
      · rw [List.length_set]; omega
    have si : (σ'.set j (some (.int (0 + (k : Int)))))[i]? = some (some (.ref a)) := by
      rw [List.getElem?_set_ne ji]
      rcases hw with rfl | rfl
      · exact hv
      · rw [List.getElem?_set_ne ji]; exact hv
    have sj : (σ'.set j (some (.int (0 + (k : Int)))))[j]? = some (some (.int (0 + (k : Int)))) := List.getElem?_set_self hjs
    obtain ⟨us, ex, e1, e2, e3⟩ := gk.gr a za
    rw [ha] at e1
    cases e1
    obtain ⟨b, wb, eb, zb, hb, lb⟩ := at3 k lt
    obtain ⟨us, ex2, f1, f2, f3⟩ := gk.gr b zb
    rw [hb] at f1
    cases f1
    have eix : atI ([V.ref a0, .ref a1, .ref a2] ++ ex) (0 + (k : Int)) = some (.ref b) := by
      rw [Int.zero_add]
      exact atI_nat (j := k) (by rw [List.getElem?_append_left (by show k < 3; exact lt)]; exact eb)
    refine ⟨_, si, _, sj, .inl ⟨a, _, _, _, rfl, rfl, sq_of e2, eix, ty_lst f2, b, _, .non, rfl, rfl, f2, sz_lt (by rw [List.length_append]; omega), ?_⟩⟩
    exact ⟨rfl, lt, gk.app zb f2 .non, some (.int (0 + (k : Int))), .inr (by
      rcases hw with rfl | rfl
      · rfl
      · rw [List.set_set])⟩
  · left
    have ek : k = 3 := by omega
    subst ek
    refine ⟨Nat.le_refl 3, ?_⟩
    show tb D σ' H'
    have ne : ∀ b, Z b → H' b ≠ none := fun b zb => by
      obtain ⟨us, ex, _, e2, _⟩ := gk.gr b zb
      rw [e2]
      exact fun y => nomatch y
    have fin : ∀ w, tb D (σ.set j w) H' := fun w => by
      have E1 := E.putNo (x := w) hj ji
      refine E1.rest hB gk.sm ne g ?_ (d.clr (Nx.refl E.e.pt))
      rw [List.set_comm _ _ ji]
      exact f
    rcases hw with rfl | rfl
    · have hjs : j < σ'.length := by have := E.e.l2; omega
      have := fin σ'[j]
      rwa [List.set_getElem_self] at this
    · exact fin w
theorem smZ_end8 (hT : SmT W tt ls Ft) (hj : j < ls.length) (ji : (j == i) = false) (g : SmS W RetE tb (ls.set j (false, false)) Fs ls1) :
    SmZ W RetE (tSeq (tIfS tt (tApN W.K (tOp (rIx W.K) (tOp (rIx W.K) (tVar i) (tC (.int 2))) (tC (.int 0)))) tNext) (tSeq (tFor (iRng1 (tCons (tC (.int 3)) tNil)) (gName j) (tApN W.K (tOp (rIx W.K) (tVar i) (tVar j)))) tb)) ls i (fSeq (fLeave8 Ft i j) Fs) ls1 := fun B hB Z Hz t τ pot O σ H E o pot' f D d => by
  have ji : j ≠ i := by simpa using ji
  unfold fSeq fLeave8 at f
  rw [E.at_] at f
  simp only [] at f
  cases h8 : (lstT t).bind shp8 with
  | none => rw [h8] at f; cases f
  | some q =>
  obtain ⟨x, y, z⟩ := q
  rw [h8] at f
  simp only [] at f
  obtain ⟨ts, e1, e2⟩ := Option.bind_eq_some_iff.mp h8
  have et : t = .lst [.lst x, .lst y, .lst z] := by rw [lstT_of e1, shp8_of e2]
  by_cases hs : x.length + 8 < maxLen ∧ y.length + 8 < maxLen ∧ z.length + 8 < maxLen
  case neg => rw [if_neg hs] at f; cases f
  rw [if_pos hs] at f
  cases h1 : Ft τ pot with
  | none => rw [h1] at f; cases f
  | some q =>
  obtain ⟨b, p1⟩ := q
  rw [h1] at f
  refine hT B hB τ pot O σ H E.e _ _ h1 _ fun H1 n => ?_
  have E1 := E.step hB n
  have d1 := d.pre n fun j a h => ⟨j, h⟩
  have g0 : Grow Z H1 H1 0 := ⟨fun _ _ => rfl, fun b zb => by
    obtain ⟨vs, e⟩ := E1.z.ls b zb
    exact ⟨vs, [], by rw [E1.z.at_ b zb]; exact e, by rw [E1.z.at_ b zb, List.append_nil]; exact e, Nat.le_refl _⟩⟩
  cases b with
  | false =>
    simp only [] at f
    rw [if_neg Bool.false_ne_true]
    exact turns8 hB E1 et hs.1 hs.2.1 hs.2.2 g0 (by decide) hj ji g f d1
  | true =>
    simp only [] at f
    rw [if_pos rfl]
    cases h2 : shp1 z with
    | none => rw [h2] at f; cases f
    | some w =>
    rw [h2] at f
    simp only [] at f
    by_cases hw : w.length + 8 < maxLen
    case neg => rw [if_neg hw] at f; cases f
    rw [if_pos hw] at f
    obtain ⟨us, ez⟩ := shp1_of h2
    have ml : maxLen = 40000 := rfl
    have r := E1.v
    obtain ⟨v, hv, r⟩ := r
    rw [et, ez, rep_lst_iff] at r
    obtain ⟨a, vs, rfl, za, ha, rs⟩ := r
    rw [reps_cons_iff] at rs
    obtain ⟨v0, vr, rfl, _, rs⟩ := rs
    rw [reps_cons_iff] at rs
    obtain ⟨v1, vr, rfl, _, rs⟩ := rs
    rw [reps_cons_iff] at rs
    obtain ⟨v2, vr, rfl, r2, rs⟩ := rs
    rw [reps_nil_iff] at rs
    subst rs
    rw [rep_lst_iff] at r2
    obtain ⟨a2, w2, rfl, z2, hh2, q2⟩ := r2
    rw [reps_cons_iff] at q2
    obtain ⟨u0, ur, rfl, s0, _⟩ := q2
    rw [rep_lst_iff] at s0
    obtain ⟨b0, wb, rfl, zb, hb0, qb⟩ := s0
    have zb : Z b0 := zG_t zb
    have lb := qb.length
    refine ⟨_, hv, .inl ⟨a, _, 2, (.ref a2), rfl, rfl, sq_of ha, atI_nat (j := 2) rfl, .inl ⟨a2, _, 0, (.ref b0), rfl, rfl, sq_of hh2, atI_nat (j := 0) rfl, ty_lst hb0, b0, wb, .non, rfl, rfl, hb0, sz_lt (by omega), ?_⟩⟩⟩
    exact turns8 hB E1 et hs.1 hs.2.1 hs.2.2 (g0.app zb hb0 .non) (by decide) hj ji g f d1
end
end TL
namespace TL
open PySem PySem.Spec PyProof.Rows L2 Evl PF
/-- the text of a Frame: the list of its points, the list of its bars -/
def frameText (y z : Str) : Str := ("Frame(" : Str) ++ y ++ ", " ++ z ++ ")"
def RFrame (C0 C : Addr) : RO := fun a x H => ∃ dx b y vs d z us, H a = some (.ins C dx [("_points", .ref b), ("_bars", .ref d)]) ∧ H b = some (.lst vs) ∧ Sh (RRat C0) H 4 (.ref b) y ∧ H d = some (.lst us) ∧ Sh (RRat C0) H 4 (.ref d) z ∧ x = frameText y z ∧ x.length ≤ sizeLine
def frameTX (c : Nat) : T → Option Str
  | .ins k [a, b] => if k = c then (lstPT a).bind fun l => (lstPT b).bind fun m => (reprN 4 (.lst l)).bind fun y => (reprN 4 (.lst m)).map (frameText y) else none
  | _ => none
def fReprF (c : Nat) (F : FE) : FE := fun τ pot => match F τ pot with
  | some (t, p1) => (match frameTX c t with
    | some x => if x.length ≤ sizeLine then some (.str x, p1) else none
    | none => none)
  | none => none
section
variable {W : Wd} {p : Addr} {G : GD} {H : Hp} {te : TE} {ls : List Lab} {F : FE} {l : Lab} {c : Nat}
theorem frameTX_of {t : T} {x : Str} (h : frameTX c t = some x) : ∃ l m y z, t = .ins c [.lst l, .lst m] ∧ reprN 4 (.lst l) = some y ∧ reprN 4 (.lst m) = some z ∧ x = frameText y z := by
  unfold frameTX at h
  split at h
  · rename_i k a b
    split at h
    · rename_i e
      subst e
      obtain ⟨l, e1, h⟩ := Option.bind_eq_some_iff.mp h
      obtain ⟨m, e2, h⟩ := Option.bind_eq_some_iff.mp h
      obtain ⟨y, e3, h⟩ := Option.bind_eq_some_iff.mp h
      obtain ⟨z, e4, e5⟩ := Option.map_eq_some_iff.mp h
      refine ⟨l, m, y, z, ?_, e3, e4, e5.symm⟩
      cases a <;> cases e1
      cases b <;> cases e2
      rfl
    · cases h
  · cases h
theorem rframe_of (nm0 : W.nm 0 = (["_top", "_bottom"] : List Str)) (nm : W.nm c = (["_points", "_bars"] : List Str)) {t : T} {v : V} {x : Str} (r : Rep W p G H t v) (h : frameTX c t = some x) (hx : x.length ≤ sizeLine) : ∃ a, v = .ref a ∧ RFrame (W.C 0) (W.C c) a x H := by
  obtain ⟨l, m, y, z, rfl, hy, hz, rfl⟩ := frameTX_of h
  rw [rep_ins_iff] at r
  obtain ⟨a, dx, vs, rfl, _, _, ha, _, rs⟩ := r
  rw [reps_cons_iff] at rs
  obtain ⟨v1, w1, rfl, r1, r2⟩ := rs
  rw [reps_cons_iff] at r2
  obtain ⟨v2, w2, rfl, r3, r4⟩ := r2
  rw [reps_nil_iff] at r4
  subst r4
  have s1 := sh_of nm0 4 r1 hy
  have s2 := sh_of nm0 4 r3 hz
  rw [rep_lst_iff] at r1 r3
  obtain ⟨b, vs, rfl, _, hl, _⟩ := r1
  obtain ⟨d, us, rfl, _, hm, _⟩ := r3
  rw [nm] at ha
  exact ⟨a, rfl, dx, b, y, vs, d, z, us, ha, hl, s1, hm, s2, rfl, hx⟩
theorem sm_reprF (nm0 : W.nm 0 = (["_top", "_bottom"] : List Str)) (nm : W.nm c = (["_points", "_bars"] : List Str)) (h : Sm W te ls F ltop) : Sm W (tCB (rStrO (RFrame (W.C 0) (W.C c))) (tCons te tNil)) ls (fReprF c F) l := fun B hB τ pot O σ H E t pot' f Q q => by
  unfold fReprF at f
  split at f
  case h_2 => cases f
  rename_i t1 p1 e1
  split at f
  case h_2 => cases f
  rename_i x e2
  split at f
  case isFalse => cases f
  rename_i hx
  cases f
  refine h B hB τ pot O σ H E _ _ e1 _ fun v H1 n r => ?_
  have E1 := E.step hB n
  have fin : ∀ H', Ex H1 H' → Q (.str x) H' := fun H' e => q _ H' (n.trans (Nx.of E1.pt e)) rep_str
  obtain ⟨a, rfl, ra⟩ := rframe_of nm0 nm r e2 hx
  exact ⟨a, x, rfl, ra, fin⟩
/-- two texts, one behind the other -/
def strTX : T → Option Str
  | .str x => some x
  | _ => none
def rStrCat : R2 := fun x y H Q => ∃ i j, x = .str i ∧ y = .str j ∧ i.length + j.length ≤ sizeLine ∧ Q (.str (i ++ j)) H
def gAddS : T → T → M T := fun a b pot => (strTX a).bind fun x => (strTX b).bind fun y => if x.length + y.length ≤ sizeLine then some (.str (x ++ y), pot) else none
theorem strTX_of {t : T} {x : Str} (h : strTX t = some x) : t = .str x := by
  cases t <;> cases h
  rfl
theorem opS_addS : OpS W rStrCat gAddS := fun p pot G1 G2 H ct x y a b ra rb t pot' f Q q => by
  unfold gAddS at f
  obtain ⟨i, e1, f⟩ := Option.bind_eq_some_iff.mp f
  obtain ⟨j, e2, f⟩ := Option.bind_eq_some_iff.mp f
  split at f
  case isFalse => cases f
  rename_i h
  cases f
  rw [strTX_of e1, rep_str_iff] at ra
  rw [strTX_of e2, rep_str_iff] at rb
  subst ra rb
  exact ⟨i, j, rfl, rfl, h, q _ H (Nx.refl ct.pt) rep_str⟩
theorem atS_addS : AtS gAddS := fun a b pot t pot' f => by
  unfold gAddS at f
  obtain ⟨i, e1, f⟩ := Option.bind_eq_some_iff.mp f
  obtain ⟨j, e2, f⟩ := Option.bind_eq_some_iff.mp f
  split at f
  · cases f
    rfl
  · cases f
/-- list(x) of items without lists -/
def fSeq2P (F : FE) : FI := fun τ pot => match F τ pot with
  | some (a, p1) => (match seqT a with
    | some (_, us) => if us.length ≤ maxLen ∧ noLs us = true then some (us, p1) else none
    | none => none)
  | none => none
theorem smF_listP (h : SmI W te ls F ltop) : SmF W (tCB (rListOf W.K) (tCons te tNil)) ls (fSeq2P F) l := fun B hB τ pot O σ H E t pot' f Q q => by
  unfold fSeq2P at f
  split at f
  case h_2 => cases f
  rename_i a p1 e1
  split at f
  case h_2 => cases f
  rename_i k us e2
  split at f
  case isFalse => cases f
  rename_i ha
  cases f
  rw [seqT_mk e2] at e1
  refine h B hB τ pot O σ H E k _ _ e1 _ fun ad vs H1 n1 hp hs r => ⟨ad, vs, rfl, seqq_sq hs, fun b hb => ?_⟩
  exact q b vs _ (n1.trans (nx_new n1.at_ hb)) (n1.new hb) upd_same (reps_new (Reps.nol hB _ _ ha.2 r) hb)
/-- tuple(x) of a list or a tuple -/
def fTupOfV (F : FE) : FE := fun τ pot => match F τ pot with
  | some (a, p1) => (match seqT a with
    | some (_, us) => some (.tup us, p1)
    | none => none)
  | none => none
theorem sm_tupOfV (h : Sm W te ls F l) : Sm W (tCB (rTupOf W.K) (tCons te tNil)) ls (fTupOfV F) l := fun B hB τ pot O σ H E t pot' f Q q => by
  unfold fTupOfV at f
  split at f
  case h_2 => cases f
  rename_i a p1 e1
  split at f
  case h_2 => cases f
  rename_i k us e2
  cases f
  refine h B hB τ pot O σ H E _ _ e1 _ fun v H1 n1 r => ?_
  rw [seqT_mk e2] at r
  cases k with
  | true =>
    rw [show mkSeq true us = T.lst us from rfl, rep_lst_iff] at r
    obtain ⟨ad, vs, rfl, ga, ha, rs⟩ := r
    refine ⟨ad, vs, rfl, .inl ⟨sq_of ha, fun b hb => ?_⟩⟩
    refine q _ _ (n1.trans (nx_new n1.at_ hb)) ?_
    rw [rep_tup_iff]
    exact ⟨b, vs, rfl, gd_new hB E (n1.new hb) l false, upd_same, (reps_new rs hb).sub fun _ _ z => z.1⟩
  | false =>
    have r0 : Rep W B.p (gd B O l) H1 (.tup us) v := r
    rw [rep_tup_iff] at r0
    obtain ⟨ad, vs, rfl, ga, ha, rs⟩ := r0
    exact ⟨ad, vs, rfl, .inr ⟨st_of ha, q _ _ n1 r⟩⟩
end
end TL
namespace TL
open PySem PySem.Spec PyProof.Rows L2 Evl PF
set_option genInjectivity false in
set_option genSizeOf false in
structure Env (W : Wd) (mg : Str → Option Value) where
  own0 : OwnX W.K (W.C 0)
  clok0 : ClOk W 0
  nm0 : W.nm 0 = (["_top", "_bottom"] : List Str)
  m_Ratio : mg "Ratio" = some (.ref (W.C 0))
  na_Ratio_top : NoAttr W.K (W.C 0) "_top"
  na_Ratio_bottom : NoAttr W.K (W.C 0) "_bottom"
  own1 : OwnX W.K (W.C 1)
  clok1 : ClOk W 1
  nm1 : W.nm 1 = (["_size", "_rows"] : List Str)
  m_Pairs : mg "Pairs" = some (.ref (W.C 1))
  na_Pairs_size : NoAttr W.K (W.C 1) "_size"
  na_Pairs_rows : NoAttr W.K (W.C 1) "_rows"
  own2 : OwnX W.K (W.C 2)
  clok2 : ClOk W 2
  nm2 : W.nm 2 = (["_points", "_bars"] : List Str)
  m_Frame : mg "Frame" = some (.ref (W.C 2))
  na_Frame_points : NoAttr W.K (W.C 2) "_points"
  na_Frame_bars : NoAttr W.K (W.C 2) "_bars"
  c_MOST_PAIRS : ∃ t, mg "MOST_PAIRS" = some (.int 8 t)
  c_MOST_POINTS : ∃ t, mg "MOST_POINTS" = some (.int 5 t)
  c_MOST_BARS : ∃ t, mg "MOST_BARS" = some (.int 8 t)
  is_integer : GFun W.K mg "is_integer" s_is_integer ["value"]
  is_count : GFun W.K mg "is_count" s_is_count ["value"]
  Ratio_init : IFunD W.K (W.C 0) "Ratio.__init__" s_Ratio_init ["self", "top", "bottom"] 1
  Ratio_top : PFun W.K (W.C 0) "top" "Ratio.top" s_Ratio_top
  Ratio_bottom : PFun W.K (W.C 0) "bottom" "Ratio.bottom" s_Ratio_bottom
  Ratio_add : MFun W.K (W.C 0) "__add__" "Ratio.__add__" s_Ratio_add ["self", "other"]
  Ratio_radd : MFun W.K (W.C 0) "__radd__" "Ratio.__radd__" s_Ratio_radd ["self", "other"]
  Ratio_sub : MFun W.K (W.C 0) "__sub__" "Ratio.__sub__" s_Ratio_sub ["self", "other"]
  Ratio_rsub : MFun W.K (W.C 0) "__rsub__" "Ratio.__rsub__" s_Ratio_rsub ["self", "other"]
  Ratio_mul : MFun W.K (W.C 0) "__mul__" "Ratio.__mul__" s_Ratio_mul ["self", "other"]
  Ratio_rmul : MFun W.K (W.C 0) "__rmul__" "Ratio.__rmul__" s_Ratio_rmul ["self", "other"]
  Ratio_neg : MFun W.K (W.C 0) "__neg__" "Ratio.__neg__" s_Ratio_neg ["self"]
  Ratio_eq : MFun W.K (W.C 0) "__eq__" "Ratio.__eq__" s_Ratio_eq ["self", "other"]
  Ratio_repr : MFun W.K (W.C 0) "__repr__" "Ratio.__repr__" s_Ratio_repr ["self"]
  is_number : GFun W.K mg "is_number" s_is_number ["value"]
  as_ratio : GFun W.K mg "as_ratio" s_as_ratio ["number"]
  ratio_row : GFun W.K mg "ratio_row" s_ratio_row ["row"]
  is_list : GFun W.K mg "is_list" s_is_list ["value"]
  is_row : GFun W.K mg "is_row" s_is_row ["size", "value"]
  are_rows : GFun W.K mg "are_rows" s_are_rows ["size", "value", "most"]
  is_position : GFun W.K mg "is_position" s_is_position ["many", "value"]
  is_positions : GFun W.K mg "is_positions" s_is_positions ["many", "value"]
  is_rising : GFun W.K mg "is_rising" s_is_rising ["many", "value"]
  is_rising_tuple : GFun W.K mg "is_rising_tuple" s_is_rising_tuple ["many", "length", "value"]
  check_size : GFun W.K mg "check_size" s_check_size ["size", "most"]
  Pairs_init : IFun W.K (W.C 1) "Pairs.__init__" s_Pairs_init ["self", "size", "rows"]
  Pairs_size : PFun W.K (W.C 1) "size" "Pairs.size" s_Pairs_size
  Pairs_eq : MFun W.K (W.C 1) "__eq__" "Pairs.__eq__" s_Pairs_eq ["self", "other"]
  is_pair : GFun W.K mg "is_pair" s_is_pair ["size", "value"]
  copied_pair : GFun W.K mg "copied_pair" s_copied_pair ["pair"]
  Frame_init : IFun W.K (W.C 2) "Frame.__init__" s_Frame_init ["self", "points", "bars"]
  Frame_many : PFun W.K (W.C 2) "many" "Frame.many" s_Frame_many
  Frame_points : MFun W.K (W.C 2) "points" "Frame.points" s_Frame_points ["self"]
  Frame_bars : MFun W.K (W.C 2) "bars" "Frame.bars" s_Frame_bars ["self"]
  Frame_eq : MFun W.K (W.C 2) "__eq__" "Frame.__eq__" s_Frame_eq ["self", "other"]
  Frame_repr : MFun W.K (W.C 2) "__repr__" "Frame.__repr__" s_Frame_repr ["self"]
  bar_table : GFun W.K mg "bar_table" s_bar_table ["frame"]
  frame_pairs : GFun W.K mg "frame_pairs" s_frame_pairs ["frame"]
  check_frame : GFun W.K mg "check_frame" s_check_frame ["frame"]
  is_point : GFun W.K mg "is_point" s_is_point ["value"]
  bar_row : GFun W.K mg "bar_row" s_bar_row ["points", "i", "j"]
  column : GFun W.K mg "column" s_column ["table", "place"]
  law_pot : GFun W.K mg "_law_pot" s_law_pot ["_law_script", "_law_k"]
  law_draw : GFun W.K mg "_law_draw" s_law_draw ["_law_pot_here", "_law_many"]
  law_pick : GFun W.K mg "_law_pick" s_law_pick ["_law_pot_here", "_law_some"]
  law_frame : GFun W.K mg "_law_frame" s_law_frame ["_law_pot_here", "_law_most", "_law_bars"]
  law_made : GFun W.K mg "_law_made" s_law_made ["_law_pot_here", "_law_points", "_law_bars"]
  law_table : GFun W.K mg "_law_table" s_law_table ["_law_points", "_law_bars"]
  law_halves : GFun W.K mg "_law_halves" s_law_halves ["_law_number"]
  law_told_right : GFun W.K mg "_law_told_right" s_law_told_right ["_law_frame_here", "_law_points", "_law_bars"]
  law_new_right : GFun W.K mg "_law_new_right" s_law_new_right ["_law_frame_here", "_law_points", "_law_bars"]
  law_right : GFun W.K mg "_law_right" s_law_right ["_law_pot_here"]
  law : GFun W.K mg "law" s_law ["_law_script"]
  z_abs : mg "abs" = none
  z_all : mg "all" = none
  z_bool : mg "bool" = none
  z_divmod : mg "divmod" = none
  z_int : mg "int" = none
  z_isinstance : mg "isinstance" = none
  z_len : mg "len" = none
  z_list : mg "list" = none
  z_max : mg "max" = none
  z_range : mg "range" = none
  z_repr : mg "repr" = none
  z_set : mg "set" = none
  z_sorted : mg "sorted" = none
  z_tuple : mg "tuple" = none
  m_gcd : mg "gcd" = some (.builtin "math.gcd")
  kw_frame_pairs_0 : KW0 W.K frame_pairs.d ["frame"] ["frame"] (fun ws => [0].filterMap fun i => ws[i]?) (permV [0])
  kwi_Frame_init_10 : KBn W.K Frame_init.d ["self", "points", "bars"] 1 ["bars", "points"] (fun us ws => us ++ [1, 0].filterMap fun i => ws[i]?) (fun vs zs => vs ++ permV [1, 0] zs)
def FB_is_integer : FS := (fRet (fAndV (fIsi (.ty "int") (fVar 0)) (fNotV (fIsi (.ty "bool") (fVar 0)))))
def T_is_integer : List T → M T := runB FB_is_integer 0
def FB_is_count : FS := (fRet (fAndV (fCall T_is_integer (fCons (fVar 0) fNil)) (fOp gGe (fVar 0) (fC (.int 0)))))
def T_is_count : List T → M T := runB FB_is_count 0
def FB_Ratio_init : FS := (fSeq (fIfS (fNot (fTest (fCall T_is_integer (fCons (fVar 1) fNil)))) fNever fNext) (fSeq (fIfS (fOr (fNot (fTest (fCall T_is_integer (fCons (fVar 2) fNil)))) (fTest (fOp (gEqA false) (fVar 2) (fC (.int 0))))) fNever fNext) (fSeq (fAsg (fCbA gGcd (fCons (fVar 1) (fCons (fVar 2) fNil))) 3) (fSeq (fAsg (fIf (fTest (fOp gGt (fVar 2) (fC (.int 0)))) (fVar 3) (fUn gNegI (fVar 3))) 4) (fSeq (fSetA 0 0 (fOp gFdiv (fVar 1) (fVar 4))) (fSetA 0 1 (fOp gFdiv (fVar 2) (fVar 4))))))))
def T_Ratio_init : List T → M T := runI 0 2 FB_Ratio_init 2
def FB_Ratio_top : FS := (fRet (fFld 0 0 (fVar 0)))
def T_Ratio_top : List T → M T := runB FB_Ratio_top 0
def FB_Ratio_bottom : FS := (fRet (fFld 0 1 (fVar 0)))
def T_Ratio_bottom : List T → M T := runB FB_Ratio_bottom 0
def FB_Ratio_neg : FS := (fRet (fCall T_Ratio_init (fCons (fUn gNegI (fFld 0 0 (fVar 0))) (fCons (fFld 0 1 (fVar 0)) fNil))))
def T_Ratio_neg : List T → M T := runB FB_Ratio_neg 0
def FB_Ratio_eq : FS := (fRet (fAndV (fIsi (.own 0) (fVar 1)) (fAndV (fOp (gEqA false) (fFld 0 0 (fVar 0)) (fFld 0 0 (fVar 1))) (fOp (gEqA false) (fFld 0 1 (fVar 0)) (fFld 0 1 (fVar 1))))))
def T_Ratio_eq : List T → M T := runB FB_Ratio_eq 0
def FB_is_number : FS := (fRet (fOrV (fCall T_is_integer (fCons (fVar 0) fNil)) (fIsi (.own 0) (fVar 0))))
def T_is_number : List T → M T := runB FB_is_number 0
def FB_as_ratio : FS := (fSeq (fIfS (fTest (fIsi (.own 0) (fVar 0))) (fRet (fVar 0)) fNext) (fRet (fCall (fun ts => T_Ratio_init (ts ++ [.int 1])) (fCons (fVar 0) fNil))))
def T_as_ratio : List T → M T := runB FB_as_ratio 0
def FB_ratio_row : FS := (fRet (fLst (fLc (fItems (fVar 0)) (.nm 1) [1] fYes (fCall T_as_ratio (fCons (fVar 1) fNil)))))
def T_ratio_row : List T → M T := runB FB_ratio_row 1
def FB_is_list : FS := (fRet (fIsiT (fVar 0)))
def T_is_list : List T → M T := runB FB_is_list 0
def FB_is_row : FS := (fRet (fAndV (fCall T_is_list (fCons (fVar 1) fNil)) (fAndV (fOp (gEqA false) (fSq1 gLen (fVar 1)) (fVar 0)) (fSq1 gAll (fLst (fLc (fItems (fVar 1)) (.nm 2) [2] fYes (fCall T_is_number (fCons (fVar 2) fNil))))))))
def T_is_row : List T → M T := runB FB_is_row 1
def FB_are_rows : FS := (fRet (fAndV (fCall T_is_list (fCons (fVar 1) fNil)) (fAndV (fOp gLe (fSq1 gLen (fVar 1)) (fVar 2)) (fSq1 gAll (fLst (fLc (fItems (fVar 1)) (.nm 3) [3] fYes (fCall T_is_row (fCons (fVar 0) (fCons (fVar 3) fNil)))))))))
def T_are_rows : List T → M T := runB FB_are_rows 1
def FB_is_position : FS := (fRet (fAndV (fCall T_is_count (fCons (fVar 1) fNil)) (fOp gLt (fVar 1) (fVar 0))))
def T_is_position : List T → M T := runB FB_is_position 0
def FB_is_positions : FS := (fRet (fAndV (fCall T_is_list (fCons (fVar 1) fNil)) (fSq1 gAll (fLst (fLc (fItems (fVar 1)) (.nm 2) [2] fYes (fCall T_is_position (fCons (fVar 0) (fCons (fVar 2) fNil))))))))
def T_is_positions : List T → M T := runB FB_is_positions 1
def FB_is_rising : FS := (fRet (fAndV (fCall T_is_positions (fCons (fVar 0) (fCons (fVar 1) fNil))) (fOp (gOr (gEqD false) gEqS) (fLst (fSeq2 (fVar 1))) (fLst (fSortU (fVar 1))))))
def T_is_rising : List T → M T := runB FB_is_rising 0
def FB_is_rising_tuple : FS := (fRet (fAndV (fIsi (.ty "tuple") (fVar 2)) (fAndV (fOp (gEqA false) (fSq1 gLen (fVar 2)) (fVar 1)) (fCall T_is_rising (fCons (fVar 0) (fCons (fVar 2) fNil))))))
def T_is_rising_tuple : List T → M T := runB FB_is_rising_tuple 0
def FB_check_size : FS := (fIfS (fOr (fNot (fTest (fCall T_is_count (fCons (fVar 0) fNil)))) (fTest (fOp gGt (fVar 0) (fVar 1)))) fNever fNext)
def T_check_size : List T → M T := runB FB_check_size 0
def FB_Pairs_size : FS := (fRet (fFld 1 0 (fVar 0)))
def T_Pairs_size : List T → M T := runB FB_Pairs_size 0
def FB_Pairs_eq : FS := (fRet (fAndV (fIsi (.own 1) (fVar 1)) (fAndV (fOp (gEqA false) (fFld 1 0 (fVar 0)) (fFld 1 0 (fVar 1))) (fOp (gOr (gEqA false) (gOr (gB (gEqO 0 T_Ratio_eq)) (gOr (gEqD false) gEqS))) (fFld 1 1 (fVar 0)) (fFld 1 1 (fVar 1))))))
def T_Pairs_eq : List T → M T := runB FB_Pairs_eq 0
def FB_is_pair : FS := (fRet (fAndV (fCall T_are_rows (fCons (fVar 0) (fCons (fVar 1) (fCons (fC (.int 2)) fNil)))) (fOp (gEqA false) (fSq1 gLen (fVar 1)) (fC (.int 2)))))
def T_is_pair : List T → M T := runB FB_is_pair 0
def FB_copied_pair : FS := (fSeq (fAsgT (fVar 0) (.tu [1, 2])) (fRet (fTup (fCons (fLst (fLstI (fCall T_ratio_row (fCons (fVar 1) fNil)))) (fCons (fLst (fLstI (fCall T_ratio_row (fCons (fVar 2) fNil)))) fNil)))))
def T_copied_pair : List T → M T := runB FB_copied_pair 2
def FB_Frame_many : FS := (fRet (fSq1 gLen (fFld 2 0 (fVar 0))))
def T_Frame_many : List T → M T := runB FB_Frame_many 0
def FB_Frame_points : FS := (fRet (fLst (fSeq2P (fFld 2 0 (fVar 0)))))
def T_Frame_points : List T → M T := runB FB_Frame_points 0
def FB_Frame_bars : FS := (fRet (fLst (fSeq2P (fFld 2 1 (fVar 0)))))
def T_Frame_bars : List T → M T := runB FB_Frame_bars 0
def FB_Frame_eq : FS := (fRet (fAndV (fIsi (.own 2) (fVar 1)) (fAndV (fOp (gOr (gEqA false) (gOr (gB (gEqO 0 T_Ratio_eq)) (gOr (gEqD false) gEqS))) (fFld 2 0 (fVar 0)) (fFld 2 0 (fVar 1))) (fOp (gOr (gEqA false) (gOr (gB (gEqO 0 T_Ratio_eq)) (gOr (gEqD false) gEqS))) (fFld 2 1 (fVar 0)) (fFld 2 1 (fVar 1))))))
def T_Frame_eq : List T → M T := runB FB_Frame_eq 0
def FB_check_frame : FS := (fIfS (fNot (fTest (fIsi (.own 2) (fVar 0)))) fNever fNext)
def T_check_frame : List T → M T := runB FB_check_frame 0
def FB_is_point : FS := (fRet (fAndV (fIsi (.ty "tuple") (fVar 0)) (fCall T_is_row (fCons (fC (.int 2)) (fCons (fVar 0) fNil)))))
def T_is_point : List T → M T := runB FB_is_point 0
def FB_column : FS := (fRet (fLst (fLc (fItems (fVar 0)) (.nm 2) [2] fYes (fIx (fVar 2) (fVar 1)))))
def T_column : List T → M T := runB FB_column 1
def T_law_draw : List T → M T := drawT 39373 619 2147483587 2147483563 17
def FB_law_pick : FS := (fRet (fIx (fVar 1) (fCall T_law_draw (fCons (fVar 0) (fCons (fSq1 gLen (fVar 1)) fNil)))))
def T_law_pick : List T → M T := runB FB_law_pick 0
def FB_law_halves : FS := (fRet (fCall T_Ratio_init (fCons (fVar 0) (fCons (fC (.int 2)) fNil))))
def T_law_halves : List T → M T := runB FB_law_halves 0
def FB_Ratio_add : FS := (fSeq (fAsg (fCall T_as_ratio (fCons (fVar 1) fNil)) 2) (fRet (fCall T_Ratio_init (fCons (fOp gAdd (fOp gMul (fFld 0 0 (fVar 0)) (fProp 0 T_Ratio_bottom (fVar 2))) (fOp gMul (fProp 0 T_Ratio_top (fVar 2)) (fFld 0 1 (fVar 0)))) (fCons (fOp gMul (fFld 0 1 (fVar 0)) (fProp 0 T_Ratio_bottom (fVar 2))) fNil)))))
def T_Ratio_add : List T → M T := runB FB_Ratio_add 1
def FB_Ratio_radd : FS := (fRet (fOp (gOr gAdd (gOwn 0 T_Ratio_add)) (fCall T_as_ratio (fCons (fVar 1) fNil)) (fVar 0)))
def T_Ratio_radd : List T → M T := runB FB_Ratio_radd 0
def FB_Ratio_sub : FS := (fRet (fOp (gOr gAdd (gOwn 0 T_Ratio_add)) (fVar 0) (fUn (gOr1 gNegI (gNegO 0 T_Ratio_neg)) (fCall T_as_ratio (fCons (fVar 1) fNil)))))
def T_Ratio_sub : List T → M T := runB FB_Ratio_sub 0
def FB_Ratio_rsub : FS := (fRet (fOp (gOr gAdd (gOwn 0 T_Ratio_add)) (fCall T_as_ratio (fCons (fVar 1) fNil)) (fUn (gOr1 gNegI (gNegO 0 T_Ratio_neg)) (fVar 0))))
def T_Ratio_rsub : List T → M T := runB FB_Ratio_rsub 0
def FB_Ratio_mul : FS := (fSeq (fAsg (fCall T_as_ratio (fCons (fVar 1) fNil)) 2) (fRet (fCall T_Ratio_init (fCons (fOp gMul (fFld 0 0 (fVar 0)) (fProp 0 T_Ratio_top (fVar 2))) (fCons (fOp gMul (fFld 0 1 (fVar 0)) (fProp 0 T_Ratio_bottom (fVar 2))) fNil)))))
def T_Ratio_mul : List T → M T := runB FB_Ratio_mul 1
def FB_Ratio_rmul : FS := (fRet (fOp (gOr gMul (gOwn 0 T_Ratio_mul)) (fCall T_as_ratio (fCons (fVar 1) fNil)) (fVar 0)))
def T_Ratio_rmul : List T → M T := runB FB_Ratio_rmul 0
def FB_Pairs_init : FS := (fSeq (fDrop (fCall T_check_size (fCons (fVar 1) (fCons (fC (.int 8)) fNil)))) (fSeq (fIfS (fOr (fNot (fTest (fCall T_is_list (fCons (fVar 2) fNil)))) (fOr (fTest (fOp gGt (fSq1 gLen (fVar 2)) (fC (.int 8)))) (fNot (fTest (fSq1 gAll (fLst (fLc (fItems (fVar 2)) (.nm 3) [3] fYes (fCall T_is_pair (fCons (fVar 1) (fCons (fVar 3) fNil)))))))))) fNever fNext) (fSeq (fSetA 1 0 (fVar 1)) (fSetA 1 1 (fLst (fLc (fItems (fVar 2)) (.nm 3) [3] fYes (fCall T_copied_pair (fCons (fVar 3) fNil))))))))
def T_Pairs_init : List T → M T := runI 1 2 FB_Pairs_init 1
def FB_Frame_init : FS := (fSeq (fIfS (fOr (fNot (fTest (fCall T_is_list (fCons (fVar 1) fNil)))) (fOr (fTest (fOp gGt (fSq1 gLen (fVar 1)) (fC (.int 5)))) (fNot (fTest (fSq1 gAll (fLst (fLc (fItems (fVar 1)) (.nm 3) [3] fYes (fCall T_is_point (fCons (fVar 3) fNil))))))))) fNever fNext) (fSeq (fIfS (fOr (fNot (fTest (fCall T_is_list (fCons (fVar 2) fNil)))) (fTest (fOp gGt (fSq1 gLen (fVar 2)) (fC (.int 8))))) fNever fNext) (fSeq (fIfS (fNot (fTest (fSq1 gAll (fLst (fLc (fItems (fVar 2)) (.nm 4) [4] fYes (fCall T_is_rising_tuple (fCons (fSq1 gLen (fVar 1)) (fCons (fC (.int 2)) (fCons (fVar 4) fNil))))))))) fNever fNext) (fSeq (fSetA 2 0 (fLst (fLc (fItems (fVar 1)) (.nm 3) [3] fYes (fTupOf (fLst (fLstI (fCall T_ratio_row (fCons (fVar 3) fNil)))))))) (fSetA 2 1 (fLst (fLc (fItems (fVar 2)) (.tu [5, 6]) [5, 6] fYes (fTup (fCons (fVar 5) (fCons (fVar 6) fNil))))))))))
def T_Frame_init : List T → M T := runI 2 2 FB_Frame_init 4
def FB_bar_row : FS := (fSeq (fAsgO (fRepL (fLst (fLen (fCons (fCall (fun ts => T_Ratio_init (ts ++ [.int 1])) (fCons (fC (.int 0)) fNil)) fNil))) (fOp gMul (fC (.int 2)) (fSq1 gLen (fVar 0)))) 3) (fSeq (fFor (fItems (fTup (fCons (fC (.int 0)) (fCons (fC (.int 1)) fNil)))) (.nm 4) (fSeq (fAsg (fOp (gOr gSub (gOr (gOwn 0 T_Ratio_sub) (gOwnR 0 T_Ratio_rsub))) (fIx (fIx (fVar 0) (fVar 1)) (fVar 4)) (fIx (fIx (fVar 0) (fVar 2)) (fVar 4))) 5) (fSeq (fSet 3 (fOp (gOr gAdd (gOr (gOwn 0 T_Ratio_add) (gOwnR 0 T_Ratio_radd))) (fOp (gOr gMul (gOr (gOwn 0 T_Ratio_mul) (gOwnR 0 T_Ratio_rmul))) (fC (.int 2)) (fVar 1)) (fVar 4)) (fVar 5)) (fSet 3 (fOp (gOr gAdd (gOr (gOwn 0 T_Ratio_add) (gOwnR 0 T_Ratio_radd))) (fOp (gOr gMul (gOr (gOwn 0 T_Ratio_mul) (gOwnR 0 T_Ratio_rmul))) (fC (.int 2)) (fVar 2)) (fVar 4)) (fUn (gOr1 gNegI (gNegO 0 T_Ratio_neg)) (fVar 5)))))) (fRet (fLst (fOwn 3)))))
def T_bar_row : List T → M T := runB FB_bar_row 3
def FB_law_frame : FS := (fSeq (fParX (fXOwn (fLen fNil) (fXOwn (fLen fNil) fXNil)) [3, 4]) (fSeq (fFor (fRange1 (fCons (fCall T_law_draw (fCons (fVar 0) (fCons (fOp (gOr gAdd (gOr (gOwn 0 T_Ratio_add) (gOwnR 0 T_Ratio_radd))) (fVar 1) (fC (.int 1))) fNil))) fNil)) (.nm 5) (fSeq (fParX (fXVal (fOp gSub (fCall T_law_draw (fCons (fVar 0) (fCons (fC (.int 5)) fNil))) (fC (.int 2))) (fXVal (fOp gSub (fCall T_law_draw (fCons (fVar 0) (fCons (fC (.int 5)) fNil))) (fC (.int 2))) fXNil)) [6, 7]) (fApp 3 (fIf (fTest (fOp gGt (fCall T_law_draw (fCons (fVar 0) (fCons (fC (.int 4)) fNil))) (fC (.int 0)))) (fTup (fCons (fOp gMul (fC (.int 2)) (fVar 6)) (fCons (fOp gMul (fC (.int 2)) (fVar 7)) fNil))) (fTup (fCons (fOp gAdd (fOp gMul (fC (.int 2)) (fVar 6)) (fC (.int 1))) (fCons (fOp gMul (fC (.int 2)) (fVar 7)) fNil))))))) (fSeq (fAsg (fSq1 gLen (fLst (fOwn 3))) 8) (fSeq (fAsgO (fLen fNil) 9) (fSeq (fFor (fRange1 (fCons (fVar 8) fNil)) (.nm 10) (fExt 9 (fLst (fLc (fRange2 (fCons (fOp gAdd (fVar 10) (fC (.int 1))) (fCons (fVar 8) fNil))) (.nm 11) [11] fYes (fTup (fCons (fVar 10) (fCons (fVar 11) fNil))))))) (fSeq (fIfS (fTest (fOp (gEqA false) (fCall T_law_draw (fCons (fVar 0) (fCons (fC (.int 3)) fNil))) (fC (.int 0)))) (fRet (fTup (fCons (fLst (fOwn 3)) (fCons (fLst (fSl (fLst (fOwn 9)) fNoPart (fPart (fVar 2)))) fNil)))) fNext) (fSeq (fFor (fRange1 (fCons (fIf (fTest (fOp (gEqD true) (fLst (fOwn 9)) (fLst (fLen fNil)))) (fCall T_law_draw (fCons (fVar 0) (fCons (fOp (gOr gAdd (gOr (gOwn 0 T_Ratio_add) (gOwnR 0 T_Ratio_radd))) (fVar 2) (fC (.int 1))) fNil))) (fC (.int 0))) fNil)) (.nm 5) (fApp 4 (fCallO T_law_pick (fVar 0) 9))) (fRet (fTup (fCons (fLst (fOwn 3)) (fCons (fLst (fOwn 4)) fNil)))))))))))
def T_law_frame : List T → M T := runB FB_law_frame 9
def FB_law_made : FS := (fSeq (fAsg (fLst (fLc (fItems (fVar 1)) (.tu [4, 5]) [4, 5] fYes (fTup (fCons (fCall T_Ratio_init (fCons (fVar 4) (fCons (fC (.int 2)) fNil))) (fCons (fIf (fTest (fOp (gEqA false) (fCall T_law_draw (fCons (fVar 0) (fCons (fC (.int 2)) fNil))) (fC (.int 0)))) (fOp gFdiv (fVar 5) (fC (.int 2))) (fCall T_Ratio_init (fCons (fVar 5) (fCons (fC (.int 2)) fNil)))) fNil))))) 3) (fSeq (fAsg (fIf (fTest (fOp (gEqA false) (fCall T_law_draw (fCons (fVar 0) (fCons (fC (.int 2)) fNil))) (fC (.int 0)))) (fTupOf (fVar 3)) (fVar 3)) 3) (fRet (fIf (fTest (fOp (gEqA false) (fCall T_law_draw (fCons (fVar 0) (fCons (fC (.int 2)) fNil))) (fC (.int 0)))) (fCall T_Frame_init (fCons (fVar 3) (fCons (fTupOf (fVar 2)) fNil))) (fCall T_Frame_init (fPerm [1, 0] (fCons (fLst (fSeq2 (fVar 2))) (fCons (fVar 3) fNil))))))))
def T_law_made : List T → M T := runB FB_law_made 3
def FB_law_table : FS := (fSeq (fAsgO (fLen fNil) 2) (fSeq (fFor (fItems (fVar 1)) (.tu [3, 4]) (fSeq (fAsgO (fRepL (fLst (fLen (fCons (fC (.int 0)) fNil))) (fOp gMul (fC (.int 2)) (fSq1 gLen (fVar 0)))) 5) (fSeq (fFor (fRange1 (fCons (fC (.int 2)) fNil)) (.nm 6) (fSeq (fSet 5 (fOp (gOr gAdd (gOr (gOwn 0 T_Ratio_add) (gOwnR 0 T_Ratio_radd))) (fOp (gOr gMul (gOr (gOwn 0 T_Ratio_mul) (gOwnR 0 T_Ratio_rmul))) (fC (.int 2)) (fVar 3)) (fVar 6)) (fOp (gOr gSub (gOr (gOwn 0 T_Ratio_sub) (gOwnR 0 T_Ratio_rsub))) (fIx (fIx (fVar 0) (fVar 3)) (fVar 6)) (fIx (fIx (fVar 0) (fVar 4)) (fVar 6)))) (fSet 5 (fOp (gOr gAdd (gOr (gOwn 0 T_Ratio_add) (gOwnR 0 T_Ratio_radd))) (fOp (gOr gMul (gOr (gOwn 0 T_Ratio_mul) (gOwnR 0 T_Ratio_rmul))) (fC (.int 2)) (fVar 4)) (fVar 6)) (fOp (gOr gSub (gOr (gOwn 0 T_Ratio_sub) (gOwnR 0 T_Ratio_rsub))) (fIx (fIx (fVar 0) (fVar 4)) (fVar 6)) (fIx (fIx (fVar 0) (fVar 3)) (fVar 6)))))) (fFrz 5 (fApp 2 (fVar 5)))))) (fRet (fLst (fOwn 2)))))
def T_law_table : List T → M T := runB FB_law_table 5
def FB_bar_table : FS := (fSeq (fDrop (fCall T_check_frame (fCons (fVar 0) fNil))) (fRet (fLst (fLc (fItems (fMeth 2 T_Frame_bars (fVar 0) fNil)) (.tu [1, 2]) [1, 2] fYes (fLst (fLstI (fCall T_bar_row (fCons (fMeth 2 T_Frame_points (fVar 0) fNil) (fCons (fVar 1) (fCons (fVar 2) fNil))))))))))
def T_bar_table : List T → M T := runB FB_bar_table 2
def FB_frame_pairs : FS := (fSeq (fAsg (fLst (fLstI (fCall T_bar_table (fCons (fVar 0) fNil)))) 1) (fSeq (fAsg (fLst (fLc (fRange1 (fCons (fProp 2 T_Frame_many (fVar 0)) fNil)) (.nm 3) [3] fYes (fOp gMul (fC (.int 2)) (fVar 3)))) 2) (fRet (fCall T_Pairs_init (fCons (fSq1 gLen (fVar 1)) (fCons (fLst (fLc (fItems (fVar 2)) (.nm 4) [4] fYes (fTup (fCons (fLst (fLstI (fCall T_column (fCons (fVar 1) (fCons (fVar 4) fNil))))) (fCons (fLst (fLstI (fCall T_column (fCons (fVar 1) (fCons (fOp (gOr gAdd (gOr (gOwn 0 T_Ratio_add) (gOwnR 0 T_Ratio_radd))) (fVar 4) (fC (.int 1))) fNil))))) fNil))))) fNil))))))
def T_frame_pairs : List T → M T := runB FB_frame_pairs 4
def FB_law_told_right : FS := (fSeq (fAsg (fLst (fLc (fItems (fVar 1)) (.tu [4, 5]) [4, 5] fYes (fTup (fCons (fCall T_law_halves (fCons (fVar 4) fNil)) (fCons (fCall T_law_halves (fCons (fVar 5) fNil)) fNil))))) 3) (fSeq (fIfS (fTest (fOp (gEqA true) (fRepr (fLst (fLen (fCons (fMeth 2 T_Frame_points (fVar 0) fNil) (fCons (fMeth 2 T_Frame_bars (fVar 0) fNil) (fCons (fProp 2 T_Frame_many (fVar 0)) fNil)))))) (fRepr (fLst (fLen (fCons (fVar 3) (fCons (fLst (fLc (fItems (fVar 2)) (.nm 6) [6] fYes (fTupOfV (fVar 6)))) (fCons (fSq1 gLen (fVar 1)) fNil)))))))) (fRet (fC (.bl false))) fNext) (fSeq (fIfS (fTest (fOp (gEqA true) (fReprF 2 (fVar 0)) (fOp gAddS (fOp gAddS (fOp gAddS (fOp gAddS (fC (.str "Frame(")) (fRepr (fVar 3))) (fC (.str ", "))) (fRepr (fLst (fLc (fItems (fVar 2)) (.nm 6) [6] fYes (fTupOfV (fVar 6)))))) (fC (.str ")"))))) (fRet (fC (.bl false))) fNext) (fSeq (fAsg (fLst (fLc (fLstI (fCall T_law_table (fCons (fVar 1) (fCons (fVar 2) fNil)))) (.nm 8) [8] fYes (fLst (fLc (fItems (fVar 8)) (.nm 9) [9] fYes (fCall T_law_halves (fCons (fVar 9) fNil)))))) 7) (fSeq (fIfS (fTest (fOp (gEqA true) (fRepr (fLst (fLstI (fCall T_bar_table (fCons (fVar 0) fNil))))) (fRepr (fVar 7)))) (fRet (fC (.bl false))) fNext) (fSeq (fAsgO (fLen fNil) 10) (fSeq (fFor (fRange1 (fCons (fSq1 gLen (fVar 1)) fNil)) (.nm 11) (fApp 10 (fTup (fCons (fLst (fLc (fItems (fVar 7)) (.nm 8) [8] fYes (fIx (fVar 8) (fOp gMul (fC (.int 2)) (fVar 11))))) (fCons (fLst (fLc (fItems (fVar 7)) (.nm 8) [8] fYes (fIx (fVar 8) (fOp gAdd (fOp gMul (fC (.int 2)) (fVar 11)) (fC (.int 1)))))) fNil))))) (fRet (fAndV (fOp (gB (gEqO 1 T_Pairs_eq)) (fCall T_frame_pairs (fCons (fVar 0) fNil)) (fCall T_Pairs_init (fCons (fSq1 gLen (fVar 2)) (fCons (fLst (fOwn 10)) fNil)))) (fOp (gEqA false) (fProp 1 T_Pairs_size (fCall T_frame_pairs (fPerm [0] (fCons (fVar 0) fNil)))) (fSq1 gLen (fVar 2))))))))))))
def T_law_told_right : List T → M T := runB FB_law_told_right 9
def FB_law_new_right : FS := (fSeq (fAsg (fLst (fLen (fCons (fMeth 2 T_Frame_points (fVar 0) fNil) (fCons (fMeth 2 T_Frame_bars (fVar 0) fNil) (fCons (fLst (fLstI (fCall T_bar_table (fCons (fVar 0) fNil)))) fNil))))) 3) (fSeq (fLeave8 (fTest (fOp (gOr (gEqD true) gNeS) (fIx (fVar 3) (fC (.int 2))) (fLst (fLen fNil)))) 3 4) (fRet (fCall T_law_told_right (fCons (fVar 0) (fCons (fVar 1) (fCons (fVar 2) fNil)))))))
def T_law_new_right : List T → M T := runB FB_law_new_right 2
def FB_law_right : FS := (fSeq (fAsgT (fCall T_law_frame (fCons (fVar 0) (fCons (fC (.int 5)) (fCons (fC (.int 8)) fNil)))) (.tu [1, 2])) (fSeq (fParX (fXVal (fCall T_law_made (fCons (fVar 0) (fCons (fVar 1) (fCons (fVar 2) fNil)))) (fXVal (fCall T_law_made (fCons (fVar 0) (fCons (fVar 1) (fCons (fVar 2) fNil)))) fXNil)) [3, 4]) (fSeq (fIfS (fOr (fNot (fTest (fCall T_law_told_right (fCons (fVar 3) (fCons (fVar 1) (fCons (fVar 2) fNil)))))) (fNot (fTest (fCall T_law_new_right (fCons (fVar 3) (fCons (fVar 1) (fCons (fVar 2) fNil))))))) (fRet (fC (.bl false))) fNext) (fSeq (fIfS (fTest (fOp (gEqA true) (fRepr (fLst (fLen (fCons (fOp (gB (gEqO 2 T_Frame_eq)) (fVar 3) (fVar 4)) (fCons (fOp (gNeO 2 T_Frame_eq) (fVar 3) (fVar 4)) fNil))))) (fRepr (fLst (fLen (fCons (fC (.bl true)) (fCons (fC (.bl false)) fNil))))))) (fRet (fC (.bl false))) fNext) (fSeq (fAsgT (fCall T_law_frame (fCons (fVar 0) (fCons (fC (.int 5)) (fCons (fC (.int 8)) fNil)))) (.tu [5, 6])) (fSeq (fIfS (fTest (fOp (gEqA true) (fOp (gB (gEqO 2 T_Frame_eq)) (fVar 3) (fCall T_law_made (fCons (fVar 0) (fCons (fVar 5) (fCons (fVar 6) fNil))))) (fAndV (fOp (gOr (gEqD false) gEqS) (fVar 1) (fVar 5)) (fOp (gOr (gEqA false) (gOr (gB (gEqO 0 T_Ratio_eq)) (gOr (gEqD false) gEqS))) (fVar 2) (fVar 6))))) (fRet (fC (.bl false))) fNext) (fSeq (fIfS (fAnd (fTest (fOp (gEqD true) (fVar 2) (fLst (fLen fNil)))) (fTest (fOp (gB (gEqO 2 T_Frame_eq)) (fVar 3) (fCall T_law_made (fCons (fVar 0) (fCons (fVar 1) (fCons (fLst (fSl (fVar 2) (fPart (fC (.int 1))) fNoPart)) fNil))))))) (fRet (fC (.bl false))) fNext) (fSeq (fFor (fLen (fCons (fC .non) (fCons (fC (.int 0)) (fCons (fC (.bl true)) (fCons (fC (.str "")) (fCons (fLst (fLen fNil)) (fCons (fTup (fCons (fVar 1) (fCons (fVar 2) fNil))) (fCons (fVar 1) (fCons (fMeth 2 T_Frame_points (fVar 3) fNil) fNil))))))))) (.nm 7) (fIfS (fTest (fOp (gEqA true) (fRepr (fLst (fLen (fCons (fOp (gB (gEqO 2 T_Frame_eq)) (fVar 3) (fVar 7)) (fCons (fOp (gNeO 2 T_Frame_eq) (fVar 3) (fVar 7)) fNil))))) (fRepr (fLst (fLen (fCons (fC (.bl false)) (fCons (fC (.bl true)) fNil))))))) (fRet (fC (.bl false))) fNext)) (fRet (fC (.bl true)))))))))))
def T_law_right : List T → M T := runB FB_law_right 7
section
variable {P : Program} {w : World} {W : Wd} {mg : Str → Option Value} {base : Heap}
abbrev N_is_integer : List Str := ["value"]
theorem sc_is_integer : FnScope N_is_integer ["value"] (defScope s_is_integer) := ⟨rfl, rfl, rfl, by decide +kernel, rfl, by decide +kernel, by decide +kernel⟩
theorem ok_is_integer (E : Env W mg) : FnOk P w W.K mg base CX0 1 E.is_integer.f E.is_integer.d ["value"] (spT W T_is_integer [true]) := by
  refine E.is_integer.F.ok sc_is_integer (fun vs H Q E0 h => spT_len h) (fun cdv A outer s H vs Q E0 hr h => ?_)
  have nd := sc_is_integer.nd
  exact ⟨_, (pss_one (ps_ret (pe_and (pe_callB call_isi rfl E.z_isinstance (by rfl) (pa_cons (pv 0) (pa_cons (pe_bltn (v := .ty "int") rfl E.z_int (by rfl) rfl) pa_nil))) (pe_one (pe_not (pe_callB call_isi rfl E.z_isinstance (by rfl) (pa_cons (pv 0) (pa_cons (pe_bltn (v := .ty "bool") rfl E.z_bool (by rfl) rfl) pa_nil)))))))), spT_body (k := 0) (N := N_is_integer) (ls1 := [lc]) (show SmS W RetE _ [lc] FB_is_integer [lc] from (smS_ret (sm_andV (sm_isi_ty (sm_var rfl rfl) rfl) (sm_notV (sm_isi_ty (sm_var rfl rfl) rfl))))) rfl h⟩
abbrev N_is_count : List Str := ["value"]
theorem sc_is_count : FnScope N_is_count ["value"] (defScope s_is_count) := ⟨rfl, rfl, rfl, by decide +kernel, rfl, by decide +kernel, by decide +kernel⟩
theorem ok_is_count (E : Env W mg) : FnOk P w W.K mg base CX0 2 E.is_count.f E.is_count.d ["value"] (spT W T_is_count [true]) := by
  refine E.is_count.F.ok sc_is_count (fun vs H Q E0 h => spT_len h) (fun cdv A outer s H vs Q E0 hr h => ?_)
  have nd := sc_is_count.nd
  exact ⟨_, (pss_one (ps_ret (pe_and (pe_call (ok_is_integer E) (hr.mono (by decide)) rfl E.is_integer.m E.is_integer.F.kp E.is_integer.b .nil pass0 (pa_cons (pv 0) pa_nil)) (pe_one (pe_cmpR op_ge (pv 0) pe_int (nomark _)))))), spT_body (k := 0) (N := N_is_count) (ls1 := [lc]) (show SmS W RetE _ [lc] FB_is_count [lc] from (smS_ret (sm_andV (sm_call (smA_cons (l := ltop) (sm_var rfl rfl) smA_nil) rfl) (sm_opA opS_ge (atS_I fun _ _ => rfl) (sm_var rfl rfl) sm_int)))) rfl h⟩
abbrev N_Ratio_init : List Str := ["self", "top", "bottom", "common", "divisor"]
theorem sc_Ratio_init : FnScope N_Ratio_init ["self", "top", "bottom"] (defScope s_Ratio_init) := ⟨rfl, rfl, rfl, by decide +kernel, rfl, by decide +kernel, by decide +kernel⟩
theorem ok_Ratio_init (E : Env W mg) : FnOk P w W.K mg base CX0 2 E.Ratio_init.f E.Ratio_init.d ["self", "top", "bottom"] (spI W 0 T_Ratio_init [true, true]) := by
  refine E.Ratio_init.F.ok sc_Ratio_init (fun vs H Q E0 h => spI_len h) (fun cdv A outer s H vs Q E0 hr h => ?_)
  have nd := sc_Ratio_init.nd
  exact ⟨_, (pss_cons (ps_if (pt_not (pt_val (pe_call (ok_is_integer E) (hr.mono (by decide)) rfl E.is_integer.m E.is_integer.F.kp E.is_integer.b .nil pass0 (pa_cons (pv 1) pa_nil)))) pss_never pss_nil) (pss_cons (ps_if (PW.pt (pw_or (pt_not (pt_val (pe_call (ok_is_integer E) (hr.mono (by decide)) rfl E.is_integer.m E.is_integer.F.kp E.is_integer.b .nil pass0 (pa_cons (pv 2) pa_nil)))) (pw_or1 (pt_cmpR op_eq (pv 2) pe_int (nomark _))))) pss_never pss_nil) (pss_cons (ps_set (i := 3) nd rfl (Or.inl rfl) (pe_callBfun cr_gcd rfl E.m_gcd (pa_cons (pv 1) (pa_cons (pv 2) pa_nil)))) (pss_cons (ps_set (i := 4) nd rfl (Or.inl rfl) (pe_ifExp (pt_cmpR op_gt (pv 2) pe_int (nomark _)) (pv 3) (pe_un un_neg (pv 3)))) (pss_cons (ps_fld (pv 0) (pe_op op_fdivX (pv 1) (pv 4)) rfl) (pss_one (ps_fld (pv 0) (pe_op op_fdivX (pv 2) (pv 4)) rfl))))))), spI_body (k := 2) (N := N_Ratio_init) (ls1 := [lc, lc, lc, lc, lc]) (show SmS W RetE _ [lc, lc, lc, lc, lc] FB_Ratio_init [lc, lc, lc, lc, lc] from (SmS.up (smS_seq (smS_if (ls1 := [lc, lc, lc, lc, lc]) (smT_not (smT_b (sm_call (smA_cons (l := ltop) (sm_var rfl rfl) smA_nil) rfl))) smS_nvr smS_next) (smS_seq (smS_if (ls1 := [lc, lc, lc, lc, lc]) (smT_or (smT_not (smT_b (sm_call (smA_cons (l := ltop) (sm_var rfl rfl) smA_nil) rfl))) (smT_test (sm_opA opS_eqA atS_eqA (sm_var rfl rfl) sm_int))) smS_nvr smS_next) (smS_seq (smS_asg (l := lc) (sm_cbA cbA_gcd (smA_cons (l := ltop) (sm_var rfl rfl) (smA_cons (l := ltop) (sm_var rfl rfl) smA_nil))) (by decide)) (smS_seq (smS_asg (l := lc) (sm_if (smT_test (sm_opA opS_gt (atS_I fun _ _ => rfl) (sm_var rfl rfl) sm_int)) (sm_var rfl rfl) (sm_un unS_neg (sm_var rfl rfl))) (by decide)) (smS_seq (smS_setA (l := lc) (sm_op opS_fdiv (sm_var rfl rfl) (sm_var rfl rfl)) rfl rfl (by rw [E.nm0]; rfl) (by rw [E.nm0]; decide) E.na_Ratio_top (by rw [E.nm0]; decide)) (smS_setA (l := lc) (sm_op opS_fdiv (sm_var rfl rfl) (sm_var rfl rfl)) rfl rfl (by rw [E.nm0]; rfl) (by rw [E.nm0]; decide) E.na_Ratio_bottom (by rw [E.nm0]; decide))))))) rfl)) rfl rfl (by rw [E.nm0]; rfl) h⟩
abbrev N_Ratio_top : List Str := ["self"]
theorem sc_Ratio_top : FnScope N_Ratio_top ["self"] (defScope s_Ratio_top) := ⟨rfl, rfl, rfl, by decide +kernel, rfl, by decide +kernel, by decide +kernel⟩
theorem ok_Ratio_top (E : Env W mg) : FnOk P w W.K mg base CX0 1 E.Ratio_top.f E.Ratio_top.d ["self"] (spT W T_Ratio_top [true]) := by
  refine E.Ratio_top.F.ok sc_Ratio_top (fun vs H Q E0 h => spT_len h) (fun cdv A outer s H vs Q E0 hr h => ?_)
  have nd := sc_Ratio_top.nd
  exact ⟨_, (pss_one (ps_ret (pe_fld (pv 0) rfl))), spT_body (k := 0) (N := N_Ratio_top) (ls1 := [lc]) (show SmS W RetE _ [lc] FB_Ratio_top [lc] from (smS_ret (sm_fld (sm_var rfl rfl) (by rw [E.nm0]; rfl) (by rw [E.nm0]; decide) E.na_Ratio_top))) rfl h⟩
abbrev N_Ratio_bottom : List Str := ["self"]
theorem sc_Ratio_bottom : FnScope N_Ratio_bottom ["self"] (defScope s_Ratio_bottom) := ⟨rfl, rfl, rfl, by decide +kernel, rfl, by decide +kernel, by decide +kernel⟩
theorem ok_Ratio_bottom (E : Env W mg) : FnOk P w W.K mg base CX0 1 E.Ratio_bottom.f E.Ratio_bottom.d ["self"] (spT W T_Ratio_bottom [true]) := by
  refine E.Ratio_bottom.F.ok sc_Ratio_bottom (fun vs H Q E0 h => spT_len h) (fun cdv A outer s H vs Q E0 hr h => ?_)
  have nd := sc_Ratio_bottom.nd
  exact ⟨_, (pss_one (ps_ret (pe_fld (pv 0) rfl))), spT_body (k := 0) (N := N_Ratio_bottom) (ls1 := [lc]) (show SmS W RetE _ [lc] FB_Ratio_bottom [lc] from (smS_ret (sm_fld (sm_var rfl rfl) (by rw [E.nm0]; rfl) (by rw [E.nm0]; decide) E.na_Ratio_bottom))) rfl h⟩
abbrev N_Ratio_neg : List Str := ["self"]
theorem sc_Ratio_neg : FnScope N_Ratio_neg ["self"] (defScope s_Ratio_neg) := ⟨rfl, rfl, rfl, by decide +kernel, rfl, by decide +kernel, by decide +kernel⟩
theorem ok_Ratio_neg (E : Env W mg) : FnOk P w W.K mg base CX0 4 E.Ratio_neg.f E.Ratio_neg.d ["self"] (spT W T_Ratio_neg [true]) := by
  refine E.Ratio_neg.F.ok sc_Ratio_neg (fun vs H Q E0 h => spT_len h) (fun cdv A outer s H vs Q E0 hr h => ?_)
  have nd := sc_Ratio_neg.nd
  exact ⟨_, (pss_one (ps_ret (pe_make E.Ratio_init.M (ok_Ratio_init E) (hr.mono (by decide)) rfl E.m_Ratio E.Ratio_init.b .nil pass0 (pa_cons (pe_un un_neg (pe_fld (pv 0) rfl)) (pa_cons (pe_fld (pv 0) rfl) pa_nil))))), spT_body (k := 0) (N := N_Ratio_neg) (ls1 := [lc]) (show SmS W RetE _ [lc] FB_Ratio_neg [lc] from (smS_ret (sm_make E.own0 (smA_cons (l := lr) (sm_un unS_neg (sm_fld (sm_var rfl rfl) (by rw [E.nm0]; rfl) (by rw [E.nm0]; decide) E.na_Ratio_top)) (smA_cons (l := lr) (sm_fld (sm_var rfl rfl) (by rw [E.nm0]; rfl) (by rw [E.nm0]; decide) E.na_Ratio_bottom) smA_nil)) rfl))) rfl h⟩
abbrev N_Ratio_eq : List Str := ["self", "other"]
theorem sc_Ratio_eq : FnScope N_Ratio_eq ["self", "other"] (defScope s_Ratio_eq) := ⟨rfl, rfl, rfl, by decide +kernel, rfl, by decide +kernel, by decide +kernel⟩
theorem ok_Ratio_eq (E : Env W mg) : FnOk P w W.K mg base CX0 1 E.Ratio_eq.f E.Ratio_eq.d ["self", "other"] (spT W T_Ratio_eq [true, true]) := by
  refine E.Ratio_eq.F.ok sc_Ratio_eq (fun vs H Q E0 h => spT_len h) (fun cdv A outer s H vs Q E0 hr h => ?_)
  have nd := sc_Ratio_eq.nd
  exact ⟨_, (pss_one (ps_ret (pe_and (pe_callB call_isi rfl E.z_isinstance (by rfl) (pa_cons (pv 1) (pa_cons (pe_glob (v := .ref (W.C 0)) rfl E.m_Ratio rfl) pa_nil))) (pe_and (pe_cmpR op_eq (pe_fld (pv 0) rfl) (pe_fld (pv 1) rfl) (nomark _)) (pe_one (pe_cmpR op_eq (pe_fld (pv 0) rfl) (pe_fld (pv 1) rfl) (nomark _))))))), spT_body (k := 0) (N := N_Ratio_eq) (ls1 := [lc, lc]) (show SmS W RetE _ [lc, lc] FB_Ratio_eq [lc, lc] from (smS_ret (sm_andV (sm_isi_own (sm_var rfl rfl) E.clok0) (sm_andV (sm_opA opS_eqA atS_eqA (sm_fld (sm_var rfl rfl) (by rw [E.nm0]; rfl) (by rw [E.nm0]; decide) E.na_Ratio_top) (sm_fld (sm_var rfl rfl) (by rw [E.nm0]; rfl) (by rw [E.nm0]; decide) E.na_Ratio_top)) (sm_opA opS_eqA atS_eqA (sm_fld (sm_var rfl rfl) (by rw [E.nm0]; rfl) (by rw [E.nm0]; decide) E.na_Ratio_bottom) (sm_fld (sm_var rfl rfl) (by rw [E.nm0]; rfl) (by rw [E.nm0]; decide) E.na_Ratio_bottom)))))) rfl h⟩
theorem ok_Ratio_eqB (E : Env W mg) : FnOk P w W.K mg base CX0 1 E.Ratio_eq.f E.Ratio_eq.d ["self", "other"] (spEqB (W.C 0)) := by
  refine E.Ratio_eq.F.ok sc_Ratio_eq (fun vs H Q E0 h => ?_) (fun cdv A outer s H vs Q E0 hr h => ?_)
  · obtain ⟨a, b, r, rfl, _⟩ := h
    rfl
  · obtain ⟨a, b, r, rfl, ⟨dx, dy, t, d, t2, d2, ha, hb, rfl⟩, k⟩ := h
    have nd := sc_Ratio_eq.nd
    refine ⟨_, (pss_one (ps_ret (pe_and (pe_callB call_isi rfl E.z_isinstance (by rfl) (pa_cons (pv 1) (pa_cons (pe_glob (v := .ref (W.C 0)) rfl E.m_Ratio rfl) pa_nil))) (pe_and (pe_cmpR op_eq (pe_fld (pv 0) rfl) (pe_fld (pv 1) rfl) (nomark _)) (pe_one (pe_cmpR op_eq (pe_fld (pv 0) rfl) (pe_fld (pv 1) rfl) (nomark _))))))), ?_⟩
    refine s_ret (v := .bl (true && (decide (t = t2) && decide (d = d2)))) (ev_andV (a := true) (b := (decide (t = t2) && decide (d = d2))) (ev_cb (ea_cons (ev_var rfl) (ea_cons ev_c ea_nil)) (fun H1 e Q q => ⟨_, _, _, _, _, rfl, .own (W.C 0), E.own0.toOwn.ty (e _ _ hb), kit_self, q H1 (Ex.refl H1)⟩))
      (fun _ => ev_andV (a := decide (t = t2)) (b := decide (d = d2)) (ev_is (ev_op (ev_fld (ev_var rfl) ha E.own0.cl E.na_Ratio_top rfl) (ev_fld (ev_var rfl) hb E.own0.cl E.na_Ratio_top rfl) (rv_eq rfl)) (by simp))
        (fun _ => ev_is (ev_op (ev_fld (ev_var rfl) ha E.own0.cl E.na_Ratio_bottom rfl) (ev_fld (ev_var rfl) hb E.own0.cl E.na_Ratio_bottom rfl) (rv_eq rfl)) (by simp)))) (fun H1 e => by simpa using k H1 e)
abbrev N_Ratio_repr : List Str := ["self"]
theorem sc_Ratio_repr : FnScope N_Ratio_repr ["self"] (defScope s_Ratio_repr) := ⟨rfl, rfl, rfl, by decide +kernel, rfl, by decide +kernel, by decide +kernel⟩
theorem ok_Ratio_repr (E : Env W mg) : FnOk P w W.K mg base CX0 1 E.Ratio_repr.f E.Ratio_repr.d ["self"] (spText (RRat (W.C 0))) := by
  refine E.Ratio_repr.F.ok sc_Ratio_repr (fun vs H Q E0 h => ?_) (fun cdv A outer s H vs Q E0 hr h => ?_)
  · obtain ⟨a, x, rfl, _⟩ := h
    rfl
  · obtain ⟨a, x, rfl, ⟨dx, t, b, ha, hx⟩, k⟩ := h
    unfold ratText at hx
    split at hx
    case isFalse => cases hx
    rename_i hb
    rw [Bool.and_eq_true] at hb
    cases hx
    have s1 := bits_lt hb.1
    have s2 := bits_lt hb.2
    refine ⟨_, pss_one (ps_ret (pe_joined (.cons pe_str (.cons (pe_fmt (pe_fld (pv 0) rfl)) (.cons pe_str (.cons (pe_fmt (pe_fld (pv 0) rfl)) (.cons pe_str .nil))))))), ?_⟩
    have l1 := len_tS s1
    have l2 := len_tS s2
    have l3 : ("Ratio(" : Str).length = 6 := rfl
    have l4 : (", " : Str).length = 2 := rfl
    have l5 : (")" : Str).length = 1 := rfl
    have lz : sizeLine = 16777216 := by decide
    have et : ∀ {H2 : Hp}, Ex H H2 → Ev (tFld W.K (tVar 0) "_top") (start ["self"] [V.ref a]) H2 (.int t) := fun e => ev_fld (ev_var rfl) (e _ _ ha) E.own0.cl E.na_Ratio_top rfl
    have eb : ∀ {H2 : Hp}, Ex H H2 → Ev (tFld W.K (tVar 0) "_bottom") (start ["self"] [V.ref a]) H2 (.int b) := fun e => ev_fld (ev_var rfl) (e _ _ ha) E.own0.cl E.na_Ratio_bottom rfl
    refine s_ret (v := .str (("Ratio(" : Str) ++ tS t ++ ", " ++ tS b ++ ")")) (yd_join fun H2 e2 Q k => ?_) (fun H2 e2 => k _ e2)
    refine js_c (Ex.refl H2) ev_c (by rw [Str.empty_append]; omega) (fun H3 e3 => ?_)
    refine js_c (Ex.refl H3) (ev_fmtI (et (e2.trans e3)) (fit_tS s1)) (by rw [Str.empty_append, Str.length_append]; omega) (fun H4 e4 => ?_)
    refine js_c (Ex.refl H4) ev_c (by rw [Str.empty_append, Str.length_append, Str.length_append]; omega) (fun H5 e5 => ?_)
    refine js_c (Ex.refl H5) (ev_fmtI (eb (((e2.trans e3).trans e4).trans e5)) (fit_tS s2)) (by rw [Str.empty_append, Str.length_append, Str.length_append, Str.length_append]; omega) (fun H6 e6 => ?_)
    refine js_c (Ex.refl H6) ev_c (by rw [Str.empty_append, Str.length_append, Str.length_append, Str.length_append, Str.length_append]; omega) (fun H7 e7 => ?_)
    refine js_nil ?_
    rw [Str.empty_append]
    exact k H7 ((((e3.trans e4).trans e5).trans e6).trans e7)
abbrev N_is_number : List Str := ["value"]
theorem sc_is_number : FnScope N_is_number ["value"] (defScope s_is_number) := ⟨rfl, rfl, rfl, by decide +kernel, rfl, by decide +kernel, by decide +kernel⟩
theorem ok_is_number (E : Env W mg) : FnOk P w W.K mg base CX0 2 E.is_number.f E.is_number.d ["value"] (spT W T_is_number [true]) := by
  refine E.is_number.F.ok sc_is_number (fun vs H Q E0 h => spT_len h) (fun cdv A outer s H vs Q E0 hr h => ?_)
  have nd := sc_is_number.nd
  exact ⟨_, (pss_one (ps_ret (pe_or (pe_call (ok_is_integer E) (hr.mono (by decide)) rfl E.is_integer.m E.is_integer.F.kp E.is_integer.b .nil pass0 (pa_cons (pv 0) pa_nil)) (pe_one (pe_callB call_isi rfl E.z_isinstance (by rfl) (pa_cons (pv 0) (pa_cons (pe_glob (v := .ref (W.C 0)) rfl E.m_Ratio rfl) pa_nil))))))), spT_body (k := 0) (N := N_is_number) (ls1 := [lc]) (show SmS W RetE _ [lc] FB_is_number [lc] from (smS_ret (sm_orV (sm_call (smA_cons (l := ltop) (sm_var rfl rfl) smA_nil) rfl) (sm_isi_own (sm_var rfl rfl) E.clok0)))) rfl h⟩
abbrev N_as_ratio : List Str := ["number"]
theorem sc_as_ratio : FnScope N_as_ratio ["number"] (defScope s_as_ratio) := ⟨rfl, rfl, rfl, by decide +kernel, rfl, by decide +kernel, by decide +kernel⟩
theorem ok_as_ratio (E : Env W mg) : FnOk P w W.K mg base CX0 4 E.as_ratio.f E.as_ratio.d ["number"] (spT W T_as_ratio [true]) := by
  refine E.as_ratio.F.ok sc_as_ratio (fun vs H Q E0 h => spT_len h) (fun cdv A outer s H vs Q E0 hr h => ?_)
  have nd := sc_as_ratio.nd
  exact ⟨_, (pss_cons (ps_if (pt_val (pe_callB call_isi rfl E.z_isinstance (by rfl) (pa_cons (pv 0) (pa_cons (pe_glob (v := .ref (W.C 0)) rfl E.m_Ratio rfl) pa_nil)))) (pss_one (ps_ret (pv 0))) pss_nil) (pss_one (ps_ret (pe_make E.Ratio_init.M (ok_Ratio_init E) (hr.mono (by decide)) rfl E.m_Ratio E.Ratio_init.b1.choose_spec.2 E.Ratio_init.b1.choose_spec.1 pass0 (pa_cons (pv 0) pa_nil))))), spT_body (k := 0) (N := N_as_ratio) (ls1 := [lc]) (show SmS W RetE _ [lc] FB_as_ratio [lc] from (smS_seq (smS_if (ls1 := [lc]) (smT_b (sm_isi_own (sm_var rfl rfl) E.clok0)) (smS_ret (sm_var rfl rfl)) smS_next) (smS_ret (sm_makeI (fl := [true]) E.own0 (smA_cons (l := lr) (sm_var rfl rfl) smA_nil) rfl)))) rfl h⟩
abbrev N_ratio_row : List Str := ["row", "number"]
theorem sc_ratio_row : FnScope N_ratio_row ["row"] (defScope s_ratio_row) := ⟨rfl, rfl, rfl, by decide +kernel, rfl, by decide +kernel, by decide +kernel⟩
theorem ok_ratio_row (E : Env W mg) : FnOk P w W.K mg base CX0 5 E.ratio_row.f E.ratio_row.d ["row"] (spN W T_ratio_row [true]) := by
  refine E.ratio_row.F.ok sc_ratio_row (fun vs H Q E0 h => spN_len h) (fun cdv A outer s H vs Q E0 hr h => ?_)
  have nd := sc_ratio_row.nd
  exact ⟨_, (pss_one (ps_ret (pe_lc (own := [("number", 1)]) rfl nd (pi_seq (pv 0)) (blkOk_by (N := N_ratio_row) (sc := defScope s_ratio_row) (by decide +kernel)) (fun _ _ _ _ _ => (pg_name (i := 1) nd rfl (Or.inl rfl))) (fun _ _ _ _ _ => pts_nil) (fun _ _ _ _ _ => (pe_call (ok_as_ratio E) (hr.mono (by decide)) rfl E.as_ratio.m E.as_ratio.F.kp E.as_ratio.b .nil pass0 (pa_cons (pv 1) pa_nil)))))), spN_body (k := 1) (N := N_ratio_row) (ls1 := [lc, lc]) (show SmS W RetN _ [lc, lc] FB_ratio_row [lc, lc] from (smS_retF (SmF.le (l := lc) (smF_lc (li := lc) (l := lc) (st := false) (g := (.nm 1)) (vs := [1]) (smIt_I (smI_of (sm_var rfl rfl))) rfl rfl (by decide) (by decide) smT_yes (sm_call (smA_cons (l := lc) (sm_var rfl rfl) smA_nil) rfl) rfl) rfl))) (fun ts pot τ p1 => (show Nox FB_ratio_row from nox_ret) _ _ _ _) rfl h⟩
abbrev N_is_list : List Str := ["value"]
theorem sc_is_list : FnScope N_is_list ["value"] (defScope s_is_list) := ⟨rfl, rfl, rfl, by decide +kernel, rfl, by decide +kernel, by decide +kernel⟩
theorem ok_is_list (E : Env W mg) : FnOk P w W.K mg base CX0 1 E.is_list.f E.is_list.d ["value"] (spT W T_is_list [true]) := by
  refine E.is_list.F.ok sc_is_list (fun vs H Q E0 h => spT_len h) (fun cdv A outer s H vs Q E0 hr h => ?_)
  have nd := sc_is_list.nd
  exact ⟨_, (pss_one (ps_ret (pe_callB call_isiT rfl E.z_isinstance (by rfl) (pa_cons (pv 0) (pa_cons (pe_tup (pa_cons (pe_bltn (v := .ty "list") rfl E.z_list (by rfl) rfl) (pa_cons (pe_bltn (v := .ty "tuple") rfl E.z_tuple (by rfl) rfl) pa_nil))) pa_nil))))), spT_body (k := 0) (N := N_is_list) (ls1 := [lc]) (show SmS W RetE _ [lc] FB_is_list [lc] from (smS_ret (sm_isiT (sm_var rfl rfl)))) rfl h⟩
abbrev N_is_row : List Str := ["size", "value", "number"]
theorem sc_is_row : FnScope N_is_row ["size", "value"] (defScope s_is_row) := ⟨rfl, rfl, rfl, by decide +kernel, rfl, by decide +kernel, by decide +kernel⟩
theorem ok_is_row (E : Env W mg) : FnOk P w W.K mg base CX0 3 E.is_row.f E.is_row.d ["size", "value"] (spT W T_is_row [true, true]) := by
  refine E.is_row.F.ok sc_is_row (fun vs H Q E0 h => spT_len h) (fun cdv A outer s H vs Q E0 hr h => ?_)
  have nd := sc_is_row.nd
  exact ⟨_, (pss_one (ps_ret (pe_and (pe_call (ok_is_list E) (hr.mono (by decide)) rfl E.is_list.m E.is_list.F.kp E.is_list.b .nil pass0 (pa_cons (pv 1) pa_nil)) (pe_and (pe_cmpR op_eq (pe_callB call_len_seq (by rfl) E.z_len PySem.boot_len (pa_cons (pv 1) pa_nil)) (pv 0) (nomark _)) (pe_one (pe_callB (cr_all rfl) (by rfl) E.z_all (by rfl) (pa_cons (pe_lc (own := [("number", 2)]) rfl nd (pi_seq (pv 1)) (blkOk_by (N := N_is_row) (sc := defScope s_is_row) (by decide +kernel)) (fun _ _ _ _ _ => (pg_name (i := 2) nd rfl (Or.inl rfl))) (fun _ _ _ _ _ => pts_nil) (fun _ _ _ _ _ => (pe_call (ok_is_number E) (hr.mono (by decide)) rfl E.is_number.m E.is_number.F.kp E.is_number.b .nil pass0 (pa_cons (pv 2) pa_nil)))) pa_nil))))))), spT_body (k := 1) (N := N_is_row) (ls1 := [lc, lc, lc]) (show SmS W RetE _ [lc, lc, lc] FB_is_row [lc, lc, lc] from (smS_ret (sm_andV (sm_call (smA_cons (l := ltop) (sm_var rfl rfl) smA_nil) rfl) (sm_andV (sm_opA opS_eqA atS_eqA (sm_sq1 sqS_len (smI_of (sm_var rfl rfl))) (sm_var rfl rfl)) (sm_sq1 sqS_all (smF_I (SmF.le (l := lc) (smF_lc (li := lc) (l := lc) (st := false) (g := (.nm 2)) (vs := [2]) (smIt_I (smI_of (sm_var rfl rfl))) rfl rfl (by decide) (by decide) smT_yes (sm_call (smA_cons (l := lc) (sm_var rfl rfl) smA_nil) rfl) rfl) rfl))))))) rfl h⟩
abbrev N_are_rows : List Str := ["size", "value", "most", "row"]
theorem sc_are_rows : FnScope N_are_rows ["size", "value", "most"] (defScope s_are_rows) := ⟨rfl, rfl, rfl, by decide +kernel, rfl, by decide +kernel, by decide +kernel⟩
theorem ok_are_rows (E : Env W mg) : FnOk P w W.K mg base CX0 4 E.are_rows.f E.are_rows.d ["size", "value", "most"] (spT W T_are_rows [true, true, true]) := by
  refine E.are_rows.F.ok sc_are_rows (fun vs H Q E0 h => spT_len h) (fun cdv A outer s H vs Q E0 hr h => ?_)
  have nd := sc_are_rows.nd
  exact ⟨_, (pss_one (ps_ret (pe_and (pe_call (ok_is_list E) (hr.mono (by decide)) rfl E.is_list.m E.is_list.F.kp E.is_list.b .nil pass0 (pa_cons (pv 1) pa_nil)) (pe_and (pe_cmpR op_le (pe_callB call_len_seq (by rfl) E.z_len PySem.boot_len (pa_cons (pv 1) pa_nil)) (pv 2) (nomark _)) (pe_one (pe_callB (cr_all rfl) (by rfl) E.z_all (by rfl) (pa_cons (pe_lc (own := [("row", 3)]) rfl nd (pi_seq (pv 1)) (blkOk_by (N := N_are_rows) (sc := defScope s_are_rows) (by decide +kernel)) (fun _ _ _ _ _ => (pg_name (i := 3) nd rfl (Or.inl rfl))) (fun _ _ _ _ _ => pts_nil) (fun _ _ _ _ _ => (pe_call (ok_is_row E) (hr.mono (by decide)) rfl E.is_row.m E.is_row.F.kp E.is_row.b .nil pass0 (pa_cons (pv 0) (pa_cons (pv 3) pa_nil))))) pa_nil))))))), spT_body (k := 1) (N := N_are_rows) (ls1 := [lc, lc, lc, lc]) (show SmS W RetE _ [lc, lc, lc, lc] FB_are_rows [lc, lc, lc, lc] from (smS_ret (sm_andV (sm_call (smA_cons (l := ltop) (sm_var rfl rfl) smA_nil) rfl) (sm_andV (sm_opA opS_le (atS_I fun _ _ => rfl) (sm_sq1 sqS_len (smI_of (sm_var rfl rfl))) (sm_var rfl rfl)) (sm_sq1 sqS_all (smF_I (SmF.le (l := lc) (smF_lc (li := lc) (l := lc) (st := false) (g := (.nm 3)) (vs := [3]) (smIt_I (smI_of (sm_var rfl rfl))) rfl rfl (by decide) (by decide) smT_yes (sm_call (smA_cons (l := lc) (sm_var rfl rfl) (smA_cons (l := lc) (sm_var rfl rfl) smA_nil)) rfl) rfl) rfl))))))) rfl h⟩
abbrev N_is_position : List Str := ["many", "value"]
theorem sc_is_position : FnScope N_is_position ["many", "value"] (defScope s_is_position) := ⟨rfl, rfl, rfl, by decide +kernel, rfl, by decide +kernel, by decide +kernel⟩
theorem ok_is_position (E : Env W mg) : FnOk P w W.K mg base CX0 3 E.is_position.f E.is_position.d ["many", "value"] (spT W T_is_position [true, true]) := by
  refine E.is_position.F.ok sc_is_position (fun vs H Q E0 h => spT_len h) (fun cdv A outer s H vs Q E0 hr h => ?_)
  have nd := sc_is_position.nd
  exact ⟨_, (pss_one (ps_ret (pe_and (pe_call (ok_is_count E) (hr.mono (by decide)) rfl E.is_count.m E.is_count.F.kp E.is_count.b .nil pass0 (pa_cons (pv 1) pa_nil)) (pe_one (pe_cmpR op_lt (pv 1) (pv 0) (nomark _)))))), spT_body (k := 0) (N := N_is_position) (ls1 := [lc, lc]) (show SmS W RetE _ [lc, lc] FB_is_position [lc, lc] from (smS_ret (sm_andV (sm_call (smA_cons (l := ltop) (sm_var rfl rfl) smA_nil) rfl) (sm_opA opS_lt (atS_I fun _ _ => rfl) (sm_var rfl rfl) (sm_var rfl rfl))))) rfl h⟩
abbrev N_is_positions : List Str := ["many", "value", "place"]
theorem sc_is_positions : FnScope N_is_positions ["many", "value"] (defScope s_is_positions) := ⟨rfl, rfl, rfl, by decide +kernel, rfl, by decide +kernel, by decide +kernel⟩
theorem ok_is_positions (E : Env W mg) : FnOk P w W.K mg base CX0 4 E.is_positions.f E.is_positions.d ["many", "value"] (spT W T_is_positions [true, true]) := by
  refine E.is_positions.F.ok sc_is_positions (fun vs H Q E0 h => spT_len h) (fun cdv A outer s H vs Q E0 hr h => ?_)
  have nd := sc_is_positions.nd
  exact ⟨_, (pss_one (ps_ret (pe_and (pe_call (ok_is_list E) (hr.mono (by decide)) rfl E.is_list.m E.is_list.F.kp E.is_list.b .nil pass0 (pa_cons (pv 1) pa_nil)) (pe_one (pe_callB (cr_all rfl) (by rfl) E.z_all (by rfl) (pa_cons (pe_lc (own := [("place", 2)]) rfl nd (pi_seq (pv 1)) (blkOk_by (N := N_is_positions) (sc := defScope s_is_positions) (by decide +kernel)) (fun _ _ _ _ _ => (pg_name (i := 2) nd rfl (Or.inl rfl))) (fun _ _ _ _ _ => pts_nil) (fun _ _ _ _ _ => (pe_call (ok_is_position E) (hr.mono (by decide)) rfl E.is_position.m E.is_position.F.kp E.is_position.b .nil pass0 (pa_cons (pv 0) (pa_cons (pv 2) pa_nil))))) pa_nil)))))), spT_body (k := 1) (N := N_is_positions) (ls1 := [lc, lc, lc]) (show SmS W RetE _ [lc, lc, lc] FB_is_positions [lc, lc, lc] from (smS_ret (sm_andV (sm_call (smA_cons (l := ltop) (sm_var rfl rfl) smA_nil) rfl) (sm_sq1 sqS_all (smF_I (SmF.le (l := lc) (smF_lc (li := lc) (l := lc) (st := false) (g := (.nm 2)) (vs := [2]) (smIt_I (smI_of (sm_var rfl rfl))) rfl rfl (by decide) (by decide) smT_yes (sm_call (smA_cons (l := lc) (sm_var rfl rfl) (smA_cons (l := lc) (sm_var rfl rfl) smA_nil)) rfl) rfl) rfl)))))) rfl h⟩
abbrev N_is_rising : List Str := ["many", "value"]
theorem sc_is_rising : FnScope N_is_rising ["many", "value"] (defScope s_is_rising) := ⟨rfl, rfl, rfl, by decide +kernel, rfl, by decide +kernel, by decide +kernel⟩
theorem ok_is_rising (E : Env W mg) : FnOk P w W.K mg base CX0 5 E.is_rising.f E.is_rising.d ["many", "value"] (spT W T_is_rising [true, true]) := by
  refine E.is_rising.F.ok sc_is_rising (fun vs H Q E0 h => spT_len h) (fun cdv A outer s H vs Q E0 hr h => ?_)
  have nd := sc_is_rising.nd
  exact ⟨_, (pss_one (ps_ret (pe_and (pe_call (ok_is_positions E) (hr.mono (by decide)) rfl E.is_positions.m E.is_positions.F.kp E.is_positions.b .nil pass0 (pa_cons (pv 0) (pa_cons (pv 1) pa_nil))) (pe_one (pe_cmpR (opR_or2 (op_eqD (eqUnits hr)) (op_eqB (mon_BN 2) (eqB_BN (eqB_ins (ok_Ratio_eqB E) E.Ratio_eq.M.at_ E.Ratio_eq.M.fn E.Ratio_eq.b pass0) 2) (hr.mono (by decide)))) (pe_callTy call_list_of rfl E.z_list (by rfl) (pa_cons (pv 1) pa_nil)) (pe_callB (cr_sortedSet rfl) (by rfl) E.z_sorted (by rfl) (pa_cons (pe_callTy (cr_setS rfl) rfl E.z_set (by rfl) (pa_cons (pv 1) pa_nil)) pa_nil)) (nomark _)))))), spT_body (k := 0) (N := N_is_rising) (ls1 := [lc, lc]) (show SmS W RetE _ [lc, lc] FB_is_rising [lc, lc] from (smS_ret (sm_andV (sm_call (smA_cons (l := ltop) (sm_var rfl rfl) (smA_cons (l := ltop) (sm_var rfl rfl) smA_nil)) rfl) (sm_opA (.or2 opS_eqD (opS_eqS E.nm0)) (atS_or atS_eqD atS_eqS) (smF_E (smF_list (smI_of (sm_var rfl rfl)))) (smF_E (smF_sortU (smI_of (sm_var rfl rfl)))))))) rfl h⟩
abbrev N_is_rising_tuple : List Str := ["many", "length", "value"]
theorem sc_is_rising_tuple : FnScope N_is_rising_tuple ["many", "length", "value"] (defScope s_is_rising_tuple) := ⟨rfl, rfl, rfl, by decide +kernel, rfl, by decide +kernel, by decide +kernel⟩
theorem ok_is_rising_tuple (E : Env W mg) : FnOk P w W.K mg base CX0 6 E.is_rising_tuple.f E.is_rising_tuple.d ["many", "length", "value"] (spT W T_is_rising_tuple [true, true, true]) := by
  refine E.is_rising_tuple.F.ok sc_is_rising_tuple (fun vs H Q E0 h => spT_len h) (fun cdv A outer s H vs Q E0 hr h => ?_)
  have nd := sc_is_rising_tuple.nd
  exact ⟨_, (pss_one (ps_ret (pe_and (pe_callB call_isi rfl E.z_isinstance (by rfl) (pa_cons (pv 2) (pa_cons (pe_bltn (v := .ty "tuple") rfl E.z_tuple (by rfl) rfl) pa_nil))) (pe_and (pe_cmpR op_eq (pe_callB call_len_seq (by rfl) E.z_len PySem.boot_len (pa_cons (pv 2) pa_nil)) (pv 1) (nomark _)) (pe_one (pe_call (ok_is_rising E) (hr.mono (by decide)) rfl E.is_rising.m E.is_rising.F.kp E.is_rising.b .nil pass0 (pa_cons (pv 0) (pa_cons (pv 2) pa_nil)))))))), spT_body (k := 0) (N := N_is_rising_tuple) (ls1 := [lc, lc, lc]) (show SmS W RetE _ [lc, lc, lc] FB_is_rising_tuple [lc, lc, lc] from (smS_ret (sm_andV (sm_isi_ty (sm_var rfl rfl) rfl) (sm_andV (sm_opA opS_eqA atS_eqA (sm_sq1 sqS_len (smI_of (sm_var rfl rfl))) (sm_var rfl rfl)) (sm_call (smA_cons (l := lr) (sm_var rfl rfl) (smA_cons (l := lr) (sm_var rfl rfl) smA_nil)) rfl))))) rfl h⟩
abbrev N_check_size : List Str := ["size", "most"]
theorem sc_check_size : FnScope N_check_size ["size", "most"] (defScope s_check_size) := ⟨rfl, rfl, rfl, by decide +kernel, rfl, by decide +kernel, by decide +kernel⟩
theorem ok_check_size (E : Env W mg) : FnOk P w W.K mg base CX0 3 E.check_size.f E.check_size.d ["size", "most"] (spT W T_check_size [true, true]) := by
  refine E.check_size.F.ok sc_check_size (fun vs H Q E0 h => spT_len h) (fun cdv A outer s H vs Q E0 hr h => ?_)
  have nd := sc_check_size.nd
  exact ⟨_, (pss_one (ps_if (PW.pt (pw_or (pt_not (pt_val (pe_call (ok_is_count E) (hr.mono (by decide)) rfl E.is_count.m E.is_count.F.kp E.is_count.b .nil pass0 (pa_cons (pv 0) pa_nil)))) (pw_or1 (pt_cmpR op_gt (pv 0) (pv 1) (nomark _))))) pss_never pss_nil)), spT_body (k := 0) (N := N_check_size) (ls1 := [lc, lc]) (show SmS W RetE _ [lc, lc] FB_check_size [lc, lc] from (SmS.up (smS_if (ls1 := [lc, lc]) (smT_or (smT_not (smT_b (sm_call (smA_cons (l := ltop) (sm_var rfl rfl) smA_nil) rfl))) (smT_test (sm_opA opS_gt (atS_I fun _ _ => rfl) (sm_var rfl rfl) (sm_var rfl rfl)))) smS_nvr smS_next) rfl)) rfl h⟩
abbrev N_Pairs_size : List Str := ["self"]
theorem sc_Pairs_size : FnScope N_Pairs_size ["self"] (defScope s_Pairs_size) := ⟨rfl, rfl, rfl, by decide +kernel, rfl, by decide +kernel, by decide +kernel⟩
theorem ok_Pairs_size (E : Env W mg) : FnOk P w W.K mg base CX0 1 E.Pairs_size.f E.Pairs_size.d ["self"] (spT W T_Pairs_size [true]) := by
  refine E.Pairs_size.F.ok sc_Pairs_size (fun vs H Q E0 h => spT_len h) (fun cdv A outer s H vs Q E0 hr h => ?_)
  have nd := sc_Pairs_size.nd
  exact ⟨_, (pss_one (ps_ret (pe_fld (pv 0) rfl))), spT_body (k := 0) (N := N_Pairs_size) (ls1 := [lc]) (show SmS W RetE _ [lc] FB_Pairs_size [lc] from (smS_ret (sm_fld (sm_var rfl rfl) (by rw [E.nm1]; rfl) (by rw [E.nm1]; decide) E.na_Pairs_size))) rfl h⟩
abbrev N_Pairs_eq : List Str := ["self", "other"]
theorem sc_Pairs_eq : FnScope N_Pairs_eq ["self", "other"] (defScope s_Pairs_eq) := ⟨rfl, rfl, rfl, by decide +kernel, rfl, by decide +kernel, by decide +kernel⟩
theorem ok_Pairs_eq (E : Env W mg) : FnOk P w W.K mg base CX0 5 E.Pairs_eq.f E.Pairs_eq.d ["self", "other"] (spT W T_Pairs_eq [true, true]) := by
  refine E.Pairs_eq.F.ok sc_Pairs_eq (fun vs H Q E0 h => spT_len h) (fun cdv A outer s H vs Q E0 hr h => ?_)
  have nd := sc_Pairs_eq.nd
  exact ⟨_, (pss_one (ps_ret (pe_and (pe_callB call_isi rfl E.z_isinstance (by rfl) (pa_cons (pv 1) (pa_cons (pe_glob (v := .ref (W.C 1)) rfl E.m_Pairs rfl) pa_nil))) (pe_and (pe_cmpR op_eq (pe_fld (pv 0) rfl) (pe_fld (pv 1) rfl) (nomark _)) (pe_one (pe_cmpR (opR_or2 op_eq (opR_or2 (op_eqO E.Ratio_eq.M (ok_Ratio_eq E) (hr.mono (by decide)) E.Ratio_eq.b pass0) (opR_or2 (op_eqD (eqUnits hr)) (op_eqB (mon_BN 2) (eqB_BN (eqB_ins (ok_Ratio_eqB E) E.Ratio_eq.M.at_ E.Ratio_eq.M.fn E.Ratio_eq.b pass0) 2) (hr.mono (by decide)))))) (pe_fld (pv 0) rfl) (pe_fld (pv 1) rfl) (nomark _))))))), spT_body (k := 0) (N := N_Pairs_eq) (ls1 := [lc, lc]) (show SmS W RetE _ [lc, lc] FB_Pairs_eq [lc, lc] from (smS_ret (sm_andV (sm_isi_own (sm_var rfl rfl) E.clok1) (sm_andV (sm_opA opS_eqA atS_eqA (sm_fld (sm_var rfl rfl) (by rw [E.nm1]; rfl) (by rw [E.nm1]; decide) E.na_Pairs_size) (sm_fld (sm_var rfl rfl) (by rw [E.nm1]; rfl) (by rw [E.nm1]; decide) E.na_Pairs_size)) (sm_opA (.or2 opS_eqA (.or2 (opS_B opS_eqO) (.or2 opS_eqD (opS_eqS E.nm0)))) (atS_or atS_eqA (atS_or atS_B (atS_or atS_eqD atS_eqS))) (sm_fld (sm_var rfl rfl) (by rw [E.nm1]; rfl) (by rw [E.nm1]; decide) E.na_Pairs_rows) (sm_fld (sm_var rfl rfl) (by rw [E.nm1]; rfl) (by rw [E.nm1]; decide) E.na_Pairs_rows)))))) rfl h⟩
abbrev N_is_pair : List Str := ["size", "value"]
theorem sc_is_pair : FnScope N_is_pair ["size", "value"] (defScope s_is_pair) := ⟨rfl, rfl, rfl, by decide +kernel, rfl, by decide +kernel, by decide +kernel⟩
theorem ok_is_pair (E : Env W mg) : FnOk P w W.K mg base CX0 5 E.is_pair.f E.is_pair.d ["size", "value"] (spT W T_is_pair [true, true]) := by
  refine E.is_pair.F.ok sc_is_pair (fun vs H Q E0 h => spT_len h) (fun cdv A outer s H vs Q E0 hr h => ?_)
  have nd := sc_is_pair.nd
  exact ⟨_, (pss_one (ps_ret (pe_and (pe_call (ok_are_rows E) (hr.mono (by decide)) rfl E.are_rows.m E.are_rows.F.kp E.are_rows.b .nil pass0 (pa_cons (pv 0) (pa_cons (pv 1) (pa_cons pe_int pa_nil)))) (pe_one (pe_cmpR op_eq (pe_callB call_len_seq (by rfl) E.z_len PySem.boot_len (pa_cons (pv 1) pa_nil)) pe_int (nomark _)))))), spT_body (k := 0) (N := N_is_pair) (ls1 := [lc, lc]) (show SmS W RetE _ [lc, lc] FB_is_pair [lc, lc] from (smS_ret (sm_andV (sm_call (smA_cons (l := ltop) (sm_var rfl rfl) (smA_cons (l := ltop) (sm_var rfl rfl) (smA_cons (l := ltop) sm_int smA_nil))) rfl) (sm_opA opS_eqA atS_eqA (sm_sq1 sqS_len (smI_of (sm_var rfl rfl))) sm_int)))) rfl h⟩
abbrev N_copied_pair : List Str := ["pair", "first", "second"]
theorem sc_copied_pair : FnScope N_copied_pair ["pair"] (defScope s_copied_pair) := ⟨rfl, rfl, rfl, by decide +kernel, rfl, by decide +kernel, by decide +kernel⟩
theorem ok_copied_pair (E : Env W mg) : FnOk P w W.K mg base CX0 6 E.copied_pair.f E.copied_pair.d ["pair"] (spT W T_copied_pair [true]) := by
  refine E.copied_pair.F.ok sc_copied_pair (fun vs H Q E0 h => spT_len h) (fun cdv A outer s H vs Q E0 hr h => ?_)
  have nd := sc_copied_pair.nd
  exact ⟨_, (pss_cons (ps_asg (pv 0) (pg_or (pg_tup rfl (pgs_cons (pg_name (i := 1) nd rfl (Or.inl rfl)) (pgs_cons (pg_name (i := 2) nd rfl (Or.inl rfl)) pgs_nil))) (pg_unl rfl (pgs_cons (pg_name (i := 1) nd rfl (Or.inl rfl)) (pgs_cons (pg_name (i := 2) nd rfl (Or.inl rfl)) pgs_nil))))) (pss_one (ps_ret (pe_tup (pa_cons (pe_call (ok_ratio_row E) (hr.mono (by decide)) rfl E.ratio_row.m E.ratio_row.F.kp E.ratio_row.b .nil pass0 (pa_cons (pv 1) pa_nil)) (pa_cons (pe_call (ok_ratio_row E) (hr.mono (by decide)) rfl E.ratio_row.m E.ratio_row.F.kp E.ratio_row.b .nil pass0 (pa_cons (pv 2) pa_nil)) pa_nil)))))), spT_body (k := 2) (N := N_copied_pair) (ls1 := [lc, lc, lc]) (show SmS W RetE _ [lc, lc, lc] FB_copied_pair [lc, lc, lc] from (smS_seq (smS_asgT (g := (.tu [1, 2])) (l := lc) (sm_var rfl rfl) (by decide)) (smS_ret (sm_tup (smL_cons (smF_E (sm_callN (smA_cons (l := lr) (sm_var rfl rfl) smA_nil) rfl)) (smL_cons (smF_E (sm_callN (smA_cons (l := lr) (sm_var rfl rfl) smA_nil) rfl)) smL_nil)))))) rfl h⟩
abbrev N_Frame_many : List Str := ["self"]
theorem sc_Frame_many : FnScope N_Frame_many ["self"] (defScope s_Frame_many) := ⟨rfl, rfl, rfl, by decide +kernel, rfl, by decide +kernel, by decide +kernel⟩
theorem ok_Frame_many (E : Env W mg) : FnOk P w W.K mg base CX0 1 E.Frame_many.f E.Frame_many.d ["self"] (spT W T_Frame_many [true]) := by
  refine E.Frame_many.F.ok sc_Frame_many (fun vs H Q E0 h => spT_len h) (fun cdv A outer s H vs Q E0 hr h => ?_)
  have nd := sc_Frame_many.nd
  exact ⟨_, (pss_one (ps_ret (pe_callB call_len_seq (by rfl) E.z_len PySem.boot_len (pa_cons (pe_fld (pv 0) rfl) pa_nil)))), spT_body (k := 0) (N := N_Frame_many) (ls1 := [lc]) (show SmS W RetE _ [lc] FB_Frame_many [lc] from (smS_ret (sm_sq1 sqS_len (smI_of (sm_fld (sm_var rfl rfl) (by rw [E.nm2]; rfl) (by rw [E.nm2]; decide) E.na_Frame_points))))) rfl h⟩
abbrev N_Frame_points : List Str := ["self"]
theorem sc_Frame_points : FnScope N_Frame_points ["self"] (defScope s_Frame_points) := ⟨rfl, rfl, rfl, by decide +kernel, rfl, by decide +kernel, by decide +kernel⟩
theorem ok_Frame_points (E : Env W mg) : FnOk P w W.K mg base CX0 1 E.Frame_points.f E.Frame_points.d ["self"] (spT W T_Frame_points [false]) := by
  refine E.Frame_points.F.ok sc_Frame_points (fun vs H Q E0 h => spT_len h) (fun cdv A outer s H vs Q E0 hr h => ?_)
  have nd := sc_Frame_points.nd
  exact ⟨_, (pss_one (ps_ret (pe_callTy call_list_of rfl E.z_list (by rfl) (pa_cons (pe_fld (pv 0) rfl) pa_nil)))), spT_body (k := 0) (N := N_Frame_points) (ls1 := [lq]) (show SmS W RetE _ [lq] FB_Frame_points [lq] from (smS_ret (smF_E (smF_listP (smI_of (sm_fld (sm_var rfl rfl) (by rw [E.nm2]; rfl) (by rw [E.nm2]; decide) E.na_Frame_points)))))) rfl h⟩
abbrev N_Frame_bars : List Str := ["self"]
theorem sc_Frame_bars : FnScope N_Frame_bars ["self"] (defScope s_Frame_bars) := ⟨rfl, rfl, rfl, by decide +kernel, rfl, by decide +kernel, by decide +kernel⟩
theorem ok_Frame_bars (E : Env W mg) : FnOk P w W.K mg base CX0 1 E.Frame_bars.f E.Frame_bars.d ["self"] (spT W T_Frame_bars [false]) := by
  refine E.Frame_bars.F.ok sc_Frame_bars (fun vs H Q E0 h => spT_len h) (fun cdv A outer s H vs Q E0 hr h => ?_)
  have nd := sc_Frame_bars.nd
  exact ⟨_, (pss_one (ps_ret (pe_callTy call_list_of rfl E.z_list (by rfl) (pa_cons (pe_fld (pv 0) rfl) pa_nil)))), spT_body (k := 0) (N := N_Frame_bars) (ls1 := [lq]) (show SmS W RetE _ [lq] FB_Frame_bars [lq] from (smS_ret (smF_E (smF_listP (smI_of (sm_fld (sm_var rfl rfl) (by rw [E.nm2]; rfl) (by rw [E.nm2]; decide) E.na_Frame_bars)))))) rfl h⟩
abbrev N_Frame_eq : List Str := ["self", "other"]
theorem sc_Frame_eq : FnScope N_Frame_eq ["self", "other"] (defScope s_Frame_eq) := ⟨rfl, rfl, rfl, by decide +kernel, rfl, by decide +kernel, by decide +kernel⟩
theorem ok_Frame_eq (E : Env W mg) : FnOk P w W.K mg base CX0 5 E.Frame_eq.f E.Frame_eq.d ["self", "other"] (spT W T_Frame_eq [true, true]) := by
  refine E.Frame_eq.F.ok sc_Frame_eq (fun vs H Q E0 h => spT_len h) (fun cdv A outer s H vs Q E0 hr h => ?_)
  have nd := sc_Frame_eq.nd
  exact ⟨_, (pss_one (ps_ret (pe_and (pe_callB call_isi rfl E.z_isinstance (by rfl) (pa_cons (pv 1) (pa_cons (pe_glob (v := .ref (W.C 2)) rfl E.m_Frame rfl) pa_nil))) (pe_and (pe_cmpR (opR_or2 op_eq (opR_or2 (op_eqO E.Ratio_eq.M (ok_Ratio_eq E) (hr.mono (by decide)) E.Ratio_eq.b pass0) (opR_or2 (op_eqD (eqUnits hr)) (op_eqB (mon_BN 2) (eqB_BN (eqB_ins (ok_Ratio_eqB E) E.Ratio_eq.M.at_ E.Ratio_eq.M.fn E.Ratio_eq.b pass0) 2) (hr.mono (by decide)))))) (pe_fld (pv 0) rfl) (pe_fld (pv 1) rfl) (nomark _)) (pe_one (pe_cmpR (opR_or2 op_eq (opR_or2 (op_eqO E.Ratio_eq.M (ok_Ratio_eq E) (hr.mono (by decide)) E.Ratio_eq.b pass0) (opR_or2 (op_eqD (eqUnits hr)) (op_eqB (mon_BN 2) (eqB_BN (eqB_ins (ok_Ratio_eqB E) E.Ratio_eq.M.at_ E.Ratio_eq.M.fn E.Ratio_eq.b pass0) 2) (hr.mono (by decide)))))) (pe_fld (pv 0) rfl) (pe_fld (pv 1) rfl) (nomark _))))))), spT_body (k := 0) (N := N_Frame_eq) (ls1 := [lc, lc]) (show SmS W RetE _ [lc, lc] FB_Frame_eq [lc, lc] from (smS_ret (sm_andV (sm_isi_own (sm_var rfl rfl) E.clok2) (sm_andV (sm_opA (.or2 opS_eqA (.or2 (opS_B opS_eqO) (.or2 opS_eqD (opS_eqS E.nm0)))) (atS_or atS_eqA (atS_or atS_B (atS_or atS_eqD atS_eqS))) (sm_fld (sm_var rfl rfl) (by rw [E.nm2]; rfl) (by rw [E.nm2]; decide) E.na_Frame_points) (sm_fld (sm_var rfl rfl) (by rw [E.nm2]; rfl) (by rw [E.nm2]; decide) E.na_Frame_points)) (sm_opA (.or2 opS_eqA (.or2 (opS_B opS_eqO) (.or2 opS_eqD (opS_eqS E.nm0)))) (atS_or atS_eqA (atS_or atS_B (atS_or atS_eqD atS_eqS))) (sm_fld (sm_var rfl rfl) (by rw [E.nm2]; rfl) (by rw [E.nm2]; decide) E.na_Frame_bars) (sm_fld (sm_var rfl rfl) (by rw [E.nm2]; rfl) (by rw [E.nm2]; decide) E.na_Frame_bars)))))) rfl h⟩
abbrev N_Frame_repr : List Str := ["self"]
theorem sc_Frame_repr : FnScope N_Frame_repr ["self"] (defScope s_Frame_repr) := ⟨rfl, rfl, rfl, by decide +kernel, rfl, by decide +kernel, by decide +kernel⟩
theorem ok_Frame_repr (E : Env W mg) : FnG P w W.K mg base CX0 10 E.Frame_repr.f E.Frame_repr.d ["self"] (spText (RFrame (W.C 0) (W.C 2))) := by
  refine bodyG0 E.Frame_repr.F sc_Frame_repr (fun vs H Q E0 h => ?_) (fun cdv A outer s H vs Q E0 hg hr h => ?_)
  · obtain ⟨a, x, rfl, _⟩ := h
    rfl
  · obtain ⟨a, x, rfl, ⟨dx, b, y, us, d, z, ws, ha, hb, sh, hd, sd, rfl, hx⟩, k⟩ := h
    refine ⟨_, pss_one (ps_ret (pe_joined (.cons pe_str (.cons (pe_fmtRL (m := 2) (n := 4) hg hr (rratOk _) (oshow_of E.Ratio_repr.M (ok_Ratio_repr E) E.Ratio_repr.b pass0 (fun _ _ _ ⟨dx, _, _, z, _⟩ => ⟨dx, _, z⟩)) (pe_fld (pv 0) rfl)) (.cons pe_str (.cons (pe_fmtRL (m := 2) (n := 4) hg hr (rratOk _) (oshow_of E.Ratio_repr.M (ok_Ratio_repr E) E.Ratio_repr.b pass0 (fun _ _ _ ⟨dx, _, _, z, _⟩ => ⟨dx, _, z⟩)) (pe_fld (pv 0) rfl)) (.cons pe_str .nil))))))), ?_⟩
    have l3 : ("Frame(" : Str).length = 6 := rfl
    have l4 : (", " : Str).length = 2 := rfl
    have l5 : (")" : Str).length = 1 := rfl
    have lx := hx
    unfold frameText at lx
    rw [Str.length_append, Str.length_append, Str.length_append, Str.length_append] at lx
    have et : ∀ {H2 : Hp}, Ex H H2 → Ev (tFld W.K (tVar 0) "_points") (start ["self"] [V.ref a]) H2 (.ref b) := fun e => ev_fld (ev_var rfl) (e _ _ ha) E.own2.cl E.na_Frame_points rfl
    have eb : ∀ {H2 : Hp}, Ex H H2 → Ev (tFld W.K (tVar 0) "_bars") (start ["self"] [V.ref a]) H2 (.ref d) := fun e => ev_fld (ev_var rfl) (e _ _ ha) E.own2.cl E.na_Frame_bars rfl
    refine s_ret (v := .str (frameText y z)) (yd_join fun H2 e2 Q k => ?_) (fun H2 e2 => k _ e2)
    refine js_c (Ex.refl H2) ev_c (by rw [Str.empty_append]; omega) (fun H3 e3 => ?_)
    have e03 := e2.trans e3
    refine js_c (Ex.refl H3) (ev_fmtRL (rratOk _) (et e03) (sh.up (rratOk _) e03) (e03 _ _ hb) (by omega)) (by rw [Str.empty_append, Str.length_append]; omega) (fun H4 e4 => ?_)
    refine js_c (Ex.refl H4) ev_c (by rw [Str.empty_append, Str.length_append, Str.length_append]; omega) (fun H5 e5 => ?_)
    have e05 := (e03.trans e4).trans e5
    refine js_c (Ex.refl H5) (ev_fmtRL (rratOk _) (eb e05) (sd.up (rratOk _) e05) (e05 _ _ hd) (by omega)) (by rw [Str.empty_append, Str.length_append, Str.length_append, Str.length_append]; omega) (fun H6 e6 => ?_)
    refine js_c (Ex.refl H6) ev_c (by rw [Str.empty_append, Str.length_append, Str.length_append, Str.length_append, Str.length_append]; omega) (fun H7 e7 => ?_)
    refine js_nil ?_
    rw [Str.empty_append]
    exact k H7 ((((e3.trans e4).trans e5).trans e6).trans e7)
abbrev N_check_frame : List Str := ["frame"]
theorem sc_check_frame : FnScope N_check_frame ["frame"] (defScope s_check_frame) := ⟨rfl, rfl, rfl, by decide +kernel, rfl, by decide +kernel, by decide +kernel⟩
theorem ok_check_frame (E : Env W mg) : FnOk P w W.K mg base CX0 1 E.check_frame.f E.check_frame.d ["frame"] (spT W T_check_frame [true]) := by
  refine E.check_frame.F.ok sc_check_frame (fun vs H Q E0 h => spT_len h) (fun cdv A outer s H vs Q E0 hr h => ?_)
  have nd := sc_check_frame.nd
  exact ⟨_, (pss_one (ps_if (pt_not (pt_val (pe_callB call_isi rfl E.z_isinstance (by rfl) (pa_cons (pv 0) (pa_cons (pe_glob (v := .ref (W.C 2)) rfl E.m_Frame rfl) pa_nil))))) pss_never pss_nil)), spT_body (k := 0) (N := N_check_frame) (ls1 := [lc]) (show SmS W RetE _ [lc] FB_check_frame [lc] from (SmS.up (smS_if (ls1 := [lc]) (smT_not (smT_b (sm_isi_own (sm_var rfl rfl) E.clok2))) smS_nvr smS_next) rfl)) rfl h⟩
abbrev N_is_point : List Str := ["value"]
theorem sc_is_point : FnScope N_is_point ["value"] (defScope s_is_point) := ⟨rfl, rfl, rfl, by decide +kernel, rfl, by decide +kernel, by decide +kernel⟩
theorem ok_is_point (E : Env W mg) : FnOk P w W.K mg base CX0 4 E.is_point.f E.is_point.d ["value"] (spT W T_is_point [true]) := by
  refine E.is_point.F.ok sc_is_point (fun vs H Q E0 h => spT_len h) (fun cdv A outer s H vs Q E0 hr h => ?_)
  have nd := sc_is_point.nd
  exact ⟨_, (pss_one (ps_ret (pe_and (pe_callB call_isi rfl E.z_isinstance (by rfl) (pa_cons (pv 0) (pa_cons (pe_bltn (v := .ty "tuple") rfl E.z_tuple (by rfl) rfl) pa_nil))) (pe_one (pe_call (ok_is_row E) (hr.mono (by decide)) rfl E.is_row.m E.is_row.F.kp E.is_row.b .nil pass0 (pa_cons pe_int (pa_cons (pv 0) pa_nil))))))), spT_body (k := 0) (N := N_is_point) (ls1 := [lc]) (show SmS W RetE _ [lc] FB_is_point [lc] from (smS_ret (sm_andV (sm_isi_ty (sm_var rfl rfl) rfl) (sm_call (smA_cons (l := lr) sm_int (smA_cons (l := lr) (sm_var rfl rfl) smA_nil)) rfl)))) rfl h⟩
abbrev N_column : List Str := ["table", "place", "row"]
theorem sc_column : FnScope N_column ["table", "place"] (defScope s_column) := ⟨rfl, rfl, rfl, by decide +kernel, rfl, by decide +kernel, by decide +kernel⟩
theorem ok_column (E : Env W mg) : FnOk P w W.K mg base CX0 1 E.column.f E.column.d ["table", "place"] (spN W T_column [true, true]) := by
  refine E.column.F.ok sc_column (fun vs H Q E0 h => spN_len h) (fun cdv A outer s H vs Q E0 hr h => ?_)
  have nd := sc_column.nd
  exact ⟨_, (pss_one (ps_ret (pe_lc (own := [("row", 2)]) rfl nd (pi_seq (pv 0)) (blkOk_by (N := N_column) (sc := defScope s_column) (by decide +kernel)) (fun _ _ _ _ _ => (pg_name (i := 2) nd rfl (Or.inl rfl))) (fun _ _ _ _ _ => pts_nil) (fun _ _ _ _ _ => (pe_ix ix_seq (pv 2) (pv 1) (fun _ _ => rfl)))))), spN_body (k := 1) (N := N_column) (ls1 := [lc, lc, lc]) (show SmS W RetN _ [lc, lc, lc] FB_column [lc, lc, lc] from (smS_retF (SmF.le (l := lc) (smF_lc (li := lc) (l := lc) (st := false) (g := (.nm 2)) (vs := [2]) (smIt_I (smI_of (sm_var rfl rfl))) rfl rfl (by decide) (by decide) smT_yes (sm_ix (smI_of (sm_var rfl rfl)) (sm_var rfl rfl)) rfl) rfl))) (fun ts pot τ p1 => (show Nox FB_column from nox_ret) _ _ _ _) rfl h⟩
abbrev N_law_draw : List Str := ["_law_pot_here", "_law_many", "_law_digit"]
theorem sc_law_draw : FnScope N_law_draw ["_law_pot_here", "_law_many"] (defScope s_law_draw) := ⟨rfl, rfl, rfl, by decide +kernel, rfl, by decide +kernel, by decide +kernel⟩
theorem ok_law_draw (E : Env W mg) : FnOk P w W.K mg base CX0 1 E.law_draw.f E.law_draw.d ["_law_pot_here", "_law_many"] (spT W T_law_draw [true, true]) := by
  refine E.law_draw.F.ok sc_law_draw (fun vs H Q E0 h => spT_len h) (fun cdv A outer s H vs Q E0 hr h => ?_)
  have nd := sc_law_draw.nd
  obtain ⟨p, pot, G1, G2, ts, t, pot', ct, ar, f, k⟩ := h
  obtain ⟨n, c, m, rfl, rfl, ⟨n0, n1⟩, ⟨m0, m1⟩, fin⟩ := drawT_run f
  cases draw_args ar
  have hl : H p = some (.lst [.int c, .int m]) := ct.pt
  refine ⟨_, pss_cons (ps_if (pt_cmpR op_gt (pe_ix ix_list (pv 0) pe_int (fun _ _ => rfl)) pe_int (nomark _))
      (pss_cons (ps_asg (pe_callB call_divmod (by rfl) E.z_divmod (by rfl) (pa_cons (pe_ix ix_list (pv 0) pe_int (fun _ _ => rfl)) (pa_cons (pv 1) pa_nil))) (pg_tup rfl (pgs_cons (pg_sub (pv 0) pe_int set_list) (pgs_cons (pg_name (i := 2) nd rfl (.inl rfl)) pgs_nil)))) (pss_one (ps_ret (pv 2)))) pss_nil)
    (pss_cons (ps_asg (pe_op op_mod (pe_callTy call_int1 (by rfl) E.z_int (by rfl) (pa_cons (pe_op op_add (pe_op op_mul (pe_ix ix_list (pv 0) pe_int (fun _ _ => rfl)) pe_int) pe_int) pa_nil)) pe_int) (pg_sub (pv 0) pe_int set_list))
    (pss_one (ps_ret (pe_op op_mod (pe_callTy call_int1 (by rfl) E.z_int (by rfl) (pa_cons (pe_op op_fdiv (pe_op op_mod (pe_callTy call_int1 (by rfl) E.z_int (by rfl) (pa_cons (pe_op op_mul (pe_ix ix_list (pv 0) pe_int (fun _ _ => rfl)) (pe_ix ix_list (pv 0) pe_int (fun _ _ => rfl))) pa_nil)) pe_int) pe_int) pa_nil)) (pv 1))))), ?_⟩
  refine q_when (b := decide (0 < c)) (et_test (ev_op (ev_op (ev_var rfl) ev_c (rv_ixL (sq_of hl) (atI_nat (j := 0) rfl))) ev_c rv_I0)) (fun z H1 e1 => ?_) (fun z H1 e1 => ?_)
  · obtain ⟨_, rfl, rfl⟩ := fin.resolve_right (fun y => y.1 (of_decide_eq_true z))
    have h1 := e1 _ _ hl
    refine q_to (D := TupOf [.int (c / n), .int (c % n)]) (yd_cb (ya_ev (ea_cons (ev_op (ev_var rfl) ev_c (rv_ixL (sq_of h1) (atI_nat (j := 0) rfl))) (ea_cons (ev_var rfl) ea_nil))) (fun vs H2 e2 r Q q => ?_)) (fun v H2 e2 d => ?_)
    · subst r
      exact ⟨c, n, rfl, ⟨n0, by omega⟩, fun p np => q _ _ (Ex.new np) ⟨p, rfl, upd_same⟩⟩
    obtain ⟨u, rfl, hu⟩ := d
    have h2 := e2 _ _ h1
    refine ⟨u, _, rfl, st_of hu, rfl, _, _, rfl, _, rfl, p, _, 0, 0, rfl, rfl, h2, ixN_nat (by show 0 < 2; decide), _, _, rfl, ?_⟩
    refine ⟨rfl, _, rfl, ?_⟩
    exact k _ _ (nx_pot (ct.pin.resolve_left fun z => nomatch z) (Exx.mut (Exx.of (e1.trans e2))) upd_same) rep_int
  · obtain ⟨_, rfl, rfl⟩ := fin.resolve_left (fun y => of_decide_eq_false z y.1)
    have h1 := e1 _ _ hl
    refine q_setL (j := 1) h1 (ev_op (ev_int1 (ev_op (ev_op (ev_op (ev_var rfl) ev_c (rv_ixL (sq_of h1) (atI_nat (j := 1) rfl))) ev_c (rv_I (.inr ⟨by decide, by decide⟩))) ev_c rv_I0)) ev_c (rv_I (by decide))) (ev_var rfl) ev_c (by show 1 < 2; decide) (fun H2 e2 => ?_)
    have h3 : upd H2 p (.lst ([.int c, .int m].set 1 (.int ((m * 39373 + 619) % 2147483587)))) p = some (.lst [.int c, .int ((m * 39373 + 619) % 2147483587)]) := upd_same
    have b0 := Int.emod_nonneg (m * 39373 + 619) (show (2147483587 : Int) ≠ 0 by decide)
    have b1 := Int.emod_lt_of_pos (m * 39373 + 619) (show (0 : Int) < 2147483587 by decide)
    generalize em : (m * 39373 + 619) % 2147483587 = m' at h3 b0 b1 k
    have ix : Ev (tOp (rIxL W.K) (tVar 0) (tC (.int 1))) (start ["_law_pot_here", "_law_many", "_law_digit"] [.ref p, .int n]) (upd H2 p (.lst ([.int c, .int m].set 1 (.int m')))) (.int m') := ev_op (ev_var rfl) ev_c (rv_ixL (sq_of h3) (atI_nat (j := 1) rfl))
    refine s_ret (ev_op (ev_int1 (ev_op (ev_op (ev_int1 (ev_op ix ix (rv_I (.inl ⟨by omega, by omega⟩)))) ev_c (rv_I (by decide))) ev_c (rv_I ⟨by decide, by decide⟩))) (ev_var rfl) (rv_I n0)) (fun H3 e3 => ?_)
    exact k _ _ (nx_pot (ct.pin.resolve_left fun z => nomatch z) (Exx.trans (Exx.mut (Exx.of (e1.trans e2))) (Exx.of e3)) (e3 _ _ h3)) rep_int
abbrev N_law_pick : List Str := ["_law_pot_here", "_law_some"]
theorem sc_law_pick : FnScope N_law_pick ["_law_pot_here", "_law_some"] (defScope s_law_pick) := ⟨rfl, rfl, rfl, by decide +kernel, rfl, by decide +kernel, by decide +kernel⟩
theorem ok_law_pickO (E : Env W mg) : FnOk P w W.K mg base CX0 2 E.law_pick.f E.law_pick.d ["_law_pot_here", "_law_some"] (spO W T_law_pick) := by
  refine E.law_pick.F.ok sc_law_pick (fun vs H Q E0 h => spO_len h) (fun cdv A outer s H vs Q E0 hr h => ?_)
  have nd := sc_law_pick.nd
  exact ⟨_, (pss_one (ps_ret (pe_ix ix_seq (pv 1) (pe_call (ok_law_draw E) (hr.mono (by decide)) rfl E.law_draw.m E.law_draw.F.kp E.law_draw.b .nil pass0 (pa_cons (pv 0) (pa_cons (pe_callB call_len_seq (by rfl) E.z_len PySem.boot_len (pa_cons (pv 1) pa_nil)) pa_nil))) (fun _ _ => rfl)))), pickO_body (D := T_law_draw) h⟩
abbrev N_law_halves : List Str := ["_law_number"]
theorem sc_law_halves : FnScope N_law_halves ["_law_number"] (defScope s_law_halves) := ⟨rfl, rfl, rfl, by decide +kernel, rfl, by decide +kernel, by decide +kernel⟩
theorem ok_law_halves (E : Env W mg) : FnOk P w W.K mg base CX0 4 E.law_halves.f E.law_halves.d ["_law_number"] (spT W T_law_halves [true]) := by
  refine E.law_halves.F.ok sc_law_halves (fun vs H Q E0 h => spT_len h) (fun cdv A outer s H vs Q E0 hr h => ?_)
  have nd := sc_law_halves.nd
  exact ⟨_, (pss_one (ps_ret (pe_make E.Ratio_init.M (ok_Ratio_init E) (hr.mono (by decide)) rfl E.m_Ratio E.Ratio_init.b .nil pass0 (pa_cons (pv 0) (pa_cons pe_int pa_nil))))), spT_body (k := 0) (N := N_law_halves) (ls1 := [lc]) (show SmS W RetE _ [lc] FB_law_halves [lc] from (smS_ret (sm_make E.own0 (smA_cons (l := lr) (sm_var rfl rfl) (smA_cons (l := lr) sm_int smA_nil)) rfl))) rfl h⟩
abbrev N_Ratio_add : List Str := ["self", "other", "number"]
theorem sc_Ratio_add : FnScope N_Ratio_add ["self", "other"] (defScope s_Ratio_add) := ⟨rfl, rfl, rfl, by decide +kernel, rfl, by decide +kernel, by decide +kernel⟩
theorem ok_Ratio_add (E : Env W mg) : FnOk P w W.K mg base CX0 5 E.Ratio_add.f E.Ratio_add.d ["self", "other"] (spT W T_Ratio_add [true, true]) := by
  refine E.Ratio_add.F.ok sc_Ratio_add (fun vs H Q E0 h => spT_len h) (fun cdv A outer s H vs Q E0 hr h => ?_)
  have nd := sc_Ratio_add.nd
  exact ⟨_, (pss_cons (ps_set (i := 2) nd rfl (Or.inl rfl) (pe_call (ok_as_ratio E) (hr.mono (by decide)) rfl E.as_ratio.m E.as_ratio.F.kp E.as_ratio.b .nil pass0 (pa_cons (pv 1) pa_nil))) (pss_one (ps_ret (pe_make E.Ratio_init.M (ok_Ratio_init E) (hr.mono (by decide)) rfl E.m_Ratio E.Ratio_init.b .nil pass0 (pa_cons (pe_op op_add (pe_op op_mulY (pe_fld (pv 0) rfl) (pe_prop (pv 2) E.own0.cl E.Ratio_bottom.P (ok_Ratio_bottom E) (hr.mono (by decide)) E.Ratio_bottom.b .nil pass0 rfl)) (pe_op op_mulY (pe_prop (pv 2) E.own0.cl E.Ratio_top.P (ok_Ratio_top E) (hr.mono (by decide)) E.Ratio_top.b .nil pass0 rfl) (pe_fld (pv 0) rfl))) (pa_cons (pe_op op_mulY (pe_fld (pv 0) rfl) (pe_prop (pv 2) E.own0.cl E.Ratio_bottom.P (ok_Ratio_bottom E) (hr.mono (by decide)) E.Ratio_bottom.b .nil pass0 rfl)) pa_nil)))))), spT_body (k := 1) (N := N_Ratio_add) (ls1 := [lc, lc, lc]) (show SmS W RetE _ [lc, lc, lc] FB_Ratio_add [lc, lc, lc] from (smS_seq (smS_asg (l := lc) (sm_call (smA_cons (l := lc) (sm_var rfl rfl) smA_nil) rfl) (by decide)) (smS_ret (sm_make E.own0 (smA_cons (l := lr) (sm_op opS_add (sm_op opS_mul (sm_fld (sm_var rfl rfl) (by rw [E.nm0]; rfl) (by rw [E.nm0]; decide) E.na_Ratio_top) (sm_prop (sm_var rfl rfl))) (sm_op opS_mul (sm_prop (sm_var rfl rfl)) (sm_fld (sm_var rfl rfl) (by rw [E.nm0]; rfl) (by rw [E.nm0]; decide) E.na_Ratio_bottom))) (smA_cons (l := lr) (sm_op opS_mul (sm_fld (sm_var rfl rfl) (by rw [E.nm0]; rfl) (by rw [E.nm0]; decide) E.na_Ratio_bottom) (sm_prop (sm_var rfl rfl))) smA_nil)) rfl)))) rfl h⟩
abbrev N_Ratio_radd : List Str := ["self", "other"]
theorem sc_Ratio_radd : FnScope N_Ratio_radd ["self", "other"] (defScope s_Ratio_radd) := ⟨rfl, rfl, rfl, by decide +kernel, rfl, by decide +kernel, by decide +kernel⟩
theorem ok_Ratio_radd (E : Env W mg) : FnOk P w W.K mg base CX0 6 E.Ratio_radd.f E.Ratio_radd.d ["self", "other"] (spT W T_Ratio_radd [true, true]) := by
  refine E.Ratio_radd.F.ok sc_Ratio_radd (fun vs H Q E0 h => spT_len h) (fun cdv A outer s H vs Q E0 hr h => ?_)
  have nd := sc_Ratio_radd.nd
  exact ⟨_, (pss_one (ps_ret (pe_op (opR_or2 op_add (op_own (op := .Add) E.own0.toOwn E.Ratio_add.M E.Ratio_radd.M (ok_Ratio_add E) (hr.mono (by decide)) E.Ratio_add.b pass0)) (pe_call (ok_as_ratio E) (hr.mono (by decide)) rfl E.as_ratio.m E.as_ratio.F.kp E.as_ratio.b .nil pass0 (pa_cons (pv 1) pa_nil)) (pv 0)))), spT_body (k := 0) (N := N_Ratio_radd) (ls1 := [lc, lc]) (show SmS W RetE _ [lc, lc] FB_Ratio_radd [lc, lc] from (smS_ret (sm_op (.or2 opS_add (opS_own bt_add_int)) (sm_call (smA_cons (l := lr) (sm_var rfl rfl) smA_nil) rfl) (sm_var rfl rfl)))) rfl h⟩
abbrev N_Ratio_sub : List Str := ["self", "other"]
theorem sc_Ratio_sub : FnScope N_Ratio_sub ["self", "other"] (defScope s_Ratio_sub) := ⟨rfl, rfl, rfl, by decide +kernel, rfl, by decide +kernel, by decide +kernel⟩
theorem ok_Ratio_sub (E : Env W mg) : FnOk P w W.K mg base CX0 6 E.Ratio_sub.f E.Ratio_sub.d ["self", "other"] (spT W T_Ratio_sub [true, true]) := by
  refine E.Ratio_sub.F.ok sc_Ratio_sub (fun vs H Q E0 h => spT_len h) (fun cdv A outer s H vs Q E0 hr h => ?_)
  have nd := sc_Ratio_sub.nd
  exact ⟨_, (pss_one (ps_ret (pe_op (opR_or2 op_add (op_own (op := .Add) E.own0.toOwn E.Ratio_add.M E.Ratio_radd.M (ok_Ratio_add E) (hr.mono (by decide)) E.Ratio_add.b pass0)) (pv 0) (pe_un (unR_or1 un_neg (un_own E.Ratio_neg.M (ok_Ratio_neg E) (hr.mono (by decide)) E.Ratio_neg.b pass0)) (pe_call (ok_as_ratio E) (hr.mono (by decide)) rfl E.as_ratio.m E.as_ratio.F.kp E.as_ratio.b .nil pass0 (pa_cons (pv 1) pa_nil)))))), spT_body (k := 0) (N := N_Ratio_sub) (ls1 := [lc, lc]) (show SmS W RetE _ [lc, lc] FB_Ratio_sub [lc, lc] from (smS_ret (sm_op (.or2 opS_add (opS_own bt_add_int)) (sm_var rfl rfl) (sm_un (.or1 unS_neg unS_own) (sm_call (smA_cons (l := lr) (sm_var rfl rfl) smA_nil) rfl))))) rfl h⟩
abbrev N_Ratio_rsub : List Str := ["self", "other"]
theorem sc_Ratio_rsub : FnScope N_Ratio_rsub ["self", "other"] (defScope s_Ratio_rsub) := ⟨rfl, rfl, rfl, by decide +kernel, rfl, by decide +kernel, by decide +kernel⟩
theorem ok_Ratio_rsub (E : Env W mg) : FnOk P w W.K mg base CX0 6 E.Ratio_rsub.f E.Ratio_rsub.d ["self", "other"] (spT W T_Ratio_rsub [true, true]) := by
  refine E.Ratio_rsub.F.ok sc_Ratio_rsub (fun vs H Q E0 h => spT_len h) (fun cdv A outer s H vs Q E0 hr h => ?_)
  have nd := sc_Ratio_rsub.nd
  exact ⟨_, (pss_one (ps_ret (pe_op (opR_or2 op_add (op_own (op := .Add) E.own0.toOwn E.Ratio_add.M E.Ratio_radd.M (ok_Ratio_add E) (hr.mono (by decide)) E.Ratio_add.b pass0)) (pe_call (ok_as_ratio E) (hr.mono (by decide)) rfl E.as_ratio.m E.as_ratio.F.kp E.as_ratio.b .nil pass0 (pa_cons (pv 1) pa_nil)) (pe_un (unR_or1 un_neg (un_own E.Ratio_neg.M (ok_Ratio_neg E) (hr.mono (by decide)) E.Ratio_neg.b pass0)) (pv 0))))), spT_body (k := 0) (N := N_Ratio_rsub) (ls1 := [lc, lc]) (show SmS W RetE _ [lc, lc] FB_Ratio_rsub [lc, lc] from (smS_ret (sm_op (.or2 opS_add (opS_own bt_add_int)) (sm_call (smA_cons (l := lr) (sm_var rfl rfl) smA_nil) rfl) (sm_un (.or1 unS_neg unS_own) (sm_var rfl rfl))))) rfl h⟩
abbrev N_Ratio_mul : List Str := ["self", "other", "number"]
theorem sc_Ratio_mul : FnScope N_Ratio_mul ["self", "other"] (defScope s_Ratio_mul) := ⟨rfl, rfl, rfl, by decide +kernel, rfl, by decide +kernel, by decide +kernel⟩
theorem ok_Ratio_mul (E : Env W mg) : FnOk P w W.K mg base CX0 5 E.Ratio_mul.f E.Ratio_mul.d ["self", "other"] (spT W T_Ratio_mul [true, true]) := by
  refine E.Ratio_mul.F.ok sc_Ratio_mul (fun vs H Q E0 h => spT_len h) (fun cdv A outer s H vs Q E0 hr h => ?_)
  have nd := sc_Ratio_mul.nd
  exact ⟨_, (pss_cons (ps_set (i := 2) nd rfl (Or.inl rfl) (pe_call (ok_as_ratio E) (hr.mono (by decide)) rfl E.as_ratio.m E.as_ratio.F.kp E.as_ratio.b .nil pass0 (pa_cons (pv 1) pa_nil))) (pss_one (ps_ret (pe_make E.Ratio_init.M (ok_Ratio_init E) (hr.mono (by decide)) rfl E.m_Ratio E.Ratio_init.b .nil pass0 (pa_cons (pe_op op_mulY (pe_fld (pv 0) rfl) (pe_prop (pv 2) E.own0.cl E.Ratio_top.P (ok_Ratio_top E) (hr.mono (by decide)) E.Ratio_top.b .nil pass0 rfl)) (pa_cons (pe_op op_mulY (pe_fld (pv 0) rfl) (pe_prop (pv 2) E.own0.cl E.Ratio_bottom.P (ok_Ratio_bottom E) (hr.mono (by decide)) E.Ratio_bottom.b .nil pass0 rfl)) pa_nil)))))), spT_body (k := 1) (N := N_Ratio_mul) (ls1 := [lc, lc, lc]) (show SmS W RetE _ [lc, lc, lc] FB_Ratio_mul [lc, lc, lc] from (smS_seq (smS_asg (l := lc) (sm_call (smA_cons (l := lc) (sm_var rfl rfl) smA_nil) rfl) (by decide)) (smS_ret (sm_make E.own0 (smA_cons (l := lr) (sm_op opS_mul (sm_fld (sm_var rfl rfl) (by rw [E.nm0]; rfl) (by rw [E.nm0]; decide) E.na_Ratio_top) (sm_prop (sm_var rfl rfl))) (smA_cons (l := lr) (sm_op opS_mul (sm_fld (sm_var rfl rfl) (by rw [E.nm0]; rfl) (by rw [E.nm0]; decide) E.na_Ratio_bottom) (sm_prop (sm_var rfl rfl))) smA_nil)) rfl)))) rfl h⟩
abbrev N_Ratio_rmul : List Str := ["self", "other"]
theorem sc_Ratio_rmul : FnScope N_Ratio_rmul ["self", "other"] (defScope s_Ratio_rmul) := ⟨rfl, rfl, rfl, by decide +kernel, rfl, by decide +kernel, by decide +kernel⟩
theorem ok_Ratio_rmul (E : Env W mg) : FnOk P w W.K mg base CX0 6 E.Ratio_rmul.f E.Ratio_rmul.d ["self", "other"] (spT W T_Ratio_rmul [true, true]) := by
  refine E.Ratio_rmul.F.ok sc_Ratio_rmul (fun vs H Q E0 h => spT_len h) (fun cdv A outer s H vs Q E0 hr h => ?_)
  have nd := sc_Ratio_rmul.nd
  exact ⟨_, (pss_one (ps_ret (pe_op (opR_or2 op_mulY (op_own (op := .Mult) E.own0.toOwn E.Ratio_mul.M E.Ratio_rmul.M (ok_Ratio_mul E) (hr.mono (by decide)) E.Ratio_mul.b pass0)) (pe_call (ok_as_ratio E) (hr.mono (by decide)) rfl E.as_ratio.m E.as_ratio.F.kp E.as_ratio.b .nil pass0 (pa_cons (pv 1) pa_nil)) (pv 0)))), spT_body (k := 0) (N := N_Ratio_rmul) (ls1 := [lc, lc]) (show SmS W RetE _ [lc, lc] FB_Ratio_rmul [lc, lc] from (smS_ret (sm_op (.or2 opS_mul (opS_own bt_mul_int)) (sm_call (smA_cons (l := lr) (sm_var rfl rfl) smA_nil) rfl) (sm_var rfl rfl)))) rfl h⟩
abbrev N_Pairs_init : List Str := ["self", "size", "rows", "pair"]
theorem sc_Pairs_init : FnScope N_Pairs_init ["self", "size", "rows"] (defScope s_Pairs_init) := ⟨rfl, rfl, rfl, by decide +kernel, rfl, by decide +kernel, by decide +kernel⟩
theorem ok_Pairs_init (E : Env W mg) : FnOk P w W.K mg base CX0 7 E.Pairs_init.f E.Pairs_init.d ["self", "size", "rows"] (spI W 1 T_Pairs_init [true, true]) := by
  refine E.Pairs_init.F.ok sc_Pairs_init (fun vs H Q E0 h => spI_len h) (fun cdv A outer s H vs Q E0 hr h => ?_)
  have nd := sc_Pairs_init.nd
  exact ⟨_, (pss_cons (ps_expr (pe_call (ok_check_size E) (hr.mono (by decide)) rfl E.check_size.m E.check_size.F.kp E.check_size.b .nil pass0 (pa_cons (pv 1) (pa_cons (pe_glob (v := .int 8) rfl E.c_MOST_PAIRS.choose_spec ⟨_, rfl⟩) pa_nil)))) (pss_cons (ps_if (PW.pt (pw_or (pt_not (pt_val (pe_call (ok_is_list E) (hr.mono (by decide)) rfl E.is_list.m E.is_list.F.kp E.is_list.b .nil pass0 (pa_cons (pv 2) pa_nil)))) (pw_or (pt_cmpR op_gt (pe_callB call_len_seq (by rfl) E.z_len PySem.boot_len (pa_cons (pv 2) pa_nil)) (pe_glob (v := .int 8) rfl E.c_MOST_PAIRS.choose_spec ⟨_, rfl⟩) (nomark _)) (pw_or1 (pt_not (pt_val (pe_callB (cr_all rfl) (by rfl) E.z_all (by rfl) (pa_cons (pe_lc (own := [("pair", 3)]) rfl nd (pi_seq (pv 2)) (blkOk_by (N := N_Pairs_init) (sc := defScope s_Pairs_init) (by decide +kernel)) (fun _ _ _ _ _ => (pg_name (i := 3) nd rfl (Or.inl rfl))) (fun _ _ _ _ _ => pts_nil) (fun _ _ _ _ _ => (pe_call (ok_is_pair E) (hr.mono (by decide)) rfl E.is_pair.m E.is_pair.F.kp E.is_pair.b .nil pass0 (pa_cons (pv 1) (pa_cons (pv 3) pa_nil))))) pa_nil)))))))) pss_never pss_nil) (pss_cons (ps_fld (pv 0) (pv 1) rfl) (pss_one (ps_fld (pv 0) (pe_lc (own := [("pair", 3)]) rfl nd (pi_seq (pv 2)) (blkOk_by (N := N_Pairs_init) (sc := defScope s_Pairs_init) (by decide +kernel)) (fun _ _ _ _ _ => (pg_name (i := 3) nd rfl (Or.inl rfl))) (fun _ _ _ _ _ => pts_nil) (fun _ _ _ _ _ => (pe_call (ok_copied_pair E) (hr.mono (by decide)) rfl E.copied_pair.m E.copied_pair.F.kp E.copied_pair.b .nil pass0 (pa_cons (pv 3) pa_nil)))) rfl))))), spI_body (k := 1) (N := N_Pairs_init) (ls1 := [lc, lc, lc, lc]) (show SmS W RetE _ [lc, lc, lc, lc] FB_Pairs_init [lc, lc, lc, lc] from (SmS.up (smS_seq (smS_drop (sm_call (smA_cons (l := ltop) (sm_var rfl rfl) (smA_cons (l := ltop) sm_int smA_nil)) rfl)) (smS_seq (smS_if (ls1 := [lc, lc, lc, lc]) (smT_or (smT_not (smT_b (sm_call (smA_cons (l := ltop) (sm_var rfl rfl) smA_nil) rfl))) (smT_or (smT_test (sm_opA opS_gt (atS_I fun _ _ => rfl) (sm_sq1 sqS_len (smI_of (sm_var rfl rfl))) sm_int)) (smT_not (smT_b (sm_sq1 sqS_all (smF_I (SmF.le (l := lc) (smF_lc (li := lc) (l := lc) (st := false) (g := (.nm 3)) (vs := [3]) (smIt_I (smI_of (sm_var rfl rfl))) rfl rfl (by decide) (by decide) smT_yes (sm_call (smA_cons (l := lc) (sm_var rfl rfl) (smA_cons (l := lc) (sm_var rfl rfl) smA_nil)) rfl) rfl) rfl))))))) smS_nvr smS_next) (smS_seq (smS_setA (l := lc) (sm_var rfl rfl) rfl rfl (by rw [E.nm1]; rfl) (by rw [E.nm1]; decide) E.na_Pairs_size (by rw [E.nm1]; decide)) (smS_setA (l := lc) (smF_E (smF_lc (li := lc) (l := lc) (st := false) (g := (.nm 3)) (vs := [3]) (smIt_I (smI_of (sm_var rfl rfl))) rfl rfl (by decide) (by decide) smT_yes (sm_call (smA_cons (l := lc) (sm_var rfl rfl) smA_nil) rfl) rfl)) rfl rfl (by rw [E.nm1]; rfl) (by rw [E.nm1]; decide) E.na_Pairs_rows (by rw [E.nm1]; decide))))) rfl)) rfl rfl (by rw [E.nm1]; rfl) h⟩
abbrev N_Frame_init : List Str := ["self", "points", "bars", "point", "bar", "i", "j"]
theorem sc_Frame_init : FnScope N_Frame_init ["self", "points", "bars"] (defScope s_Frame_init) := ⟨rfl, rfl, rfl, by decide +kernel, rfl, by decide +kernel, by decide +kernel⟩
theorem ok_Frame_init (E : Env W mg) : FnOk P w W.K mg base CX0 7 E.Frame_init.f E.Frame_init.d ["self", "points", "bars"] (spI W 2 T_Frame_init [true, true]) := by
  refine E.Frame_init.F.ok sc_Frame_init (fun vs H Q E0 h => spI_len h) (fun cdv A outer s H vs Q E0 hr h => ?_)
  have nd := sc_Frame_init.nd
  exact ⟨_, (pss_cons (ps_if (PW.pt (pw_or (pt_not (pt_val (pe_call (ok_is_list E) (hr.mono (by decide)) rfl E.is_list.m E.is_list.F.kp E.is_list.b .nil pass0 (pa_cons (pv 1) pa_nil)))) (pw_or (pt_cmpR op_gt (pe_callB call_len_seq (by rfl) E.z_len PySem.boot_len (pa_cons (pv 1) pa_nil)) (pe_glob (v := .int 5) rfl E.c_MOST_POINTS.choose_spec ⟨_, rfl⟩) (nomark _)) (pw_or1 (pt_not (pt_val (pe_callB (cr_all rfl) (by rfl) E.z_all (by rfl) (pa_cons (pe_lc (own := [("point", 3)]) rfl nd (pi_seq (pv 1)) (blkOk_by (N := N_Frame_init) (sc := defScope s_Frame_init) (by decide +kernel)) (fun _ _ _ _ _ => (pg_name (i := 3) nd rfl (Or.inl rfl))) (fun _ _ _ _ _ => pts_nil) (fun _ _ _ _ _ => (pe_call (ok_is_point E) (hr.mono (by decide)) rfl E.is_point.m E.is_point.F.kp E.is_point.b .nil pass0 (pa_cons (pv 3) pa_nil)))) pa_nil)))))))) pss_never pss_nil) (pss_cons (ps_if (PW.pt (pw_or (pt_not (pt_val (pe_call (ok_is_list E) (hr.mono (by decide)) rfl E.is_list.m E.is_list.F.kp E.is_list.b .nil pass0 (pa_cons (pv 2) pa_nil)))) (pw_or1 (pt_cmpR op_gt (pe_callB call_len_seq (by rfl) E.z_len PySem.boot_len (pa_cons (pv 2) pa_nil)) (pe_glob (v := .int 8) rfl E.c_MOST_BARS.choose_spec ⟨_, rfl⟩) (nomark _))))) pss_never pss_nil) (pss_cons (ps_if (pt_not (pt_val (pe_callB (cr_all rfl) (by rfl) E.z_all (by rfl) (pa_cons (pe_lc (own := [("bar", 4)]) rfl nd (pi_seq (pv 2)) (blkOk_by (N := N_Frame_init) (sc := defScope s_Frame_init) (by decide +kernel)) (fun _ _ _ _ _ => (pg_name (i := 4) nd rfl (Or.inl rfl))) (fun _ _ _ _ _ => pts_nil) (fun _ _ _ _ _ => (pe_call (ok_is_rising_tuple E) (hr.mono (by decide)) rfl E.is_rising_tuple.m E.is_rising_tuple.F.kp E.is_rising_tuple.b .nil pass0 (pa_cons (pe_callB call_len_seq (by rfl) E.z_len PySem.boot_len (pa_cons (pv 1) pa_nil)) (pa_cons pe_int (pa_cons (pv 4) pa_nil)))))) pa_nil)))) pss_never pss_nil) (pss_cons (ps_fld (pv 0) (pe_lc (own := [("point", 3)]) rfl nd (pi_seq (pv 1)) (blkOk_by (N := N_Frame_init) (sc := defScope s_Frame_init) (by decide +kernel)) (fun _ _ _ _ _ => (pg_name (i := 3) nd rfl (Or.inl rfl))) (fun _ _ _ _ _ => pts_nil) (fun _ _ _ _ _ => (pe_callTy call_tuple_of rfl E.z_tuple (by rfl) (pa_cons (pe_call (ok_ratio_row E) (hr.mono (by decide)) rfl E.ratio_row.m E.ratio_row.F.kp E.ratio_row.b .nil pass0 (pa_cons (pv 3) pa_nil)) pa_nil)))) rfl) (pss_one (ps_fld (pv 0) (pe_lc (own := [("i", 5), ("j", 6)]) rfl nd (pi_seq (pv 2)) (blkOk_by (N := N_Frame_init) (sc := defScope s_Frame_init) (by decide +kernel)) (fun _ _ _ _ _ => (pg_or (pg_tup rfl (pgs_cons (pg_name (i := 5) nd rfl (Or.inl rfl)) (pgs_cons (pg_name (i := 6) nd rfl (Or.inl rfl)) pgs_nil))) (pg_unl rfl (pgs_cons (pg_name (i := 5) nd rfl (Or.inl rfl)) (pgs_cons (pg_name (i := 6) nd rfl (Or.inl rfl)) pgs_nil))))) (fun _ _ _ _ _ => pts_nil) (fun _ _ _ _ _ => (pe_tup (pa_cons (pv 5) (pa_cons (pv 6) pa_nil))))) rfl)))))), spI_body (k := 4) (N := N_Frame_init) (ls1 := [lc, lc, lc, lc, lc, lc, lc]) (show SmS W RetE _ [lc, lc, lc, lc, lc, lc, lc] FB_Frame_init [lc, lc, lc, lc, lc, lc, lc] from (SmS.up (smS_seq (smS_if (ls1 := [lc, lc, lc, lc, lc, lc, lc]) (smT_or (smT_not (smT_b (sm_call (smA_cons (l := ltop) (sm_var rfl rfl) smA_nil) rfl))) (smT_or (smT_test (sm_opA opS_gt (atS_I fun _ _ => rfl) (sm_sq1 sqS_len (smI_of (sm_var rfl rfl))) sm_int)) (smT_not (smT_b (sm_sq1 sqS_all (smF_I (SmF.le (l := lc) (smF_lc (li := lc) (l := lc) (st := false) (g := (.nm 3)) (vs := [3]) (smIt_I (smI_of (sm_var rfl rfl))) rfl rfl (by decide) (by decide) smT_yes (sm_call (smA_cons (l := lc) (sm_var rfl rfl) smA_nil) rfl) rfl) rfl))))))) smS_nvr smS_next) (smS_seq (smS_if (ls1 := [lc, lc, lc, lc, lc, lc, lc]) (smT_or (smT_not (smT_b (sm_call (smA_cons (l := ltop) (sm_var rfl rfl) smA_nil) rfl))) (smT_test (sm_opA opS_gt (atS_I fun _ _ => rfl) (sm_sq1 sqS_len (smI_of (sm_var rfl rfl))) sm_int))) smS_nvr smS_next) (smS_seq (smS_if (ls1 := [lc, lc, lc, lc, lc, lc, lc]) (smT_not (smT_b (sm_sq1 sqS_all (smF_I (SmF.le (l := lc) (smF_lc (li := lc) (l := lc) (st := false) (g := (.nm 4)) (vs := [4]) (smIt_I (smI_of (sm_var rfl rfl))) rfl rfl (by decide) (by decide) smT_yes (sm_call (smA_cons (l := lc) (sm_sq1 sqS_len (smI_of (sm_var rfl rfl))) (smA_cons (l := lc) sm_int (smA_cons (l := lc) (sm_var rfl rfl) smA_nil))) rfl) rfl) rfl))))) smS_nvr smS_next) (smS_seq (smS_setA (l := lc) (smF_E (smF_lc (li := lc) (l := lc) (st := false) (g := (.nm 3)) (vs := [3]) (smIt_I (smI_of (sm_var rfl rfl))) rfl rfl (by decide) (by decide) smT_yes (sm_tupOf (smF_I (sm_callN (smA_cons (l := lc) (sm_var rfl rfl) smA_nil) rfl))) rfl)) rfl rfl (by rw [E.nm2]; rfl) (by rw [E.nm2]; decide) E.na_Frame_points (by rw [E.nm2]; decide)) (smS_setA (l := lc) (smF_E (smF_lc (li := lc) (l := lc) (st := false) (g := (.tu [5, 6])) (vs := [5, 6]) (smIt_I (smI_of (sm_var rfl rfl))) rfl rfl (by decide) (by decide) smT_yes (sm_tup (smL_cons (sm_var rfl rfl) (smL_cons (sm_var rfl rfl) smL_nil))) rfl)) rfl rfl (by rw [E.nm2]; rfl) (by rw [E.nm2]; decide) E.na_Frame_bars (by rw [E.nm2]; decide)))))) rfl)) rfl rfl (by rw [E.nm2]; rfl) h⟩
abbrev N_bar_row : List Str := ["points", "i", "j", "row", "axis", "difference"]
theorem sc_bar_row : FnScope N_bar_row ["points", "i", "j"] (defScope s_bar_row) := ⟨rfl, rfl, rfl, by decide +kernel, rfl, by decide +kernel, by decide +kernel⟩
theorem ok_bar_row (E : Env W mg) : FnOk P w W.K mg base CX0 7 E.bar_row.f E.bar_row.d ["points", "i", "j"] (spN W T_bar_row [true, true, true]) := by
  refine E.bar_row.F.ok sc_bar_row (fun vs H Q E0 h => spN_len h) (fun cdv A outer s H vs Q E0 hr h => ?_)
  have nd := sc_bar_row.nd
  exact ⟨_, (pss_cons (ps_set (i := 3) nd rfl (Or.inl rfl) (pe_op op_rep (pe_lst (pa_cons (pe_make E.Ratio_init.M (ok_Ratio_init E) (hr.mono (by decide)) rfl E.m_Ratio E.Ratio_init.b1.choose_spec.2 E.Ratio_init.b1.choose_spec.1 pass0 (pa_cons pe_int pa_nil)) pa_nil)) (pe_op op_mulY pe_int (pe_callB call_len_seq (by rfl) E.z_len PySem.boot_len (pa_cons (pv 0) pa_nil))))) (pss_cons (ps_for PassesOwn.never rfl (pi_seq (pe_tup (pa_cons pe_int (pa_cons pe_int pa_nil)))) (pg_name (i := 4) nd rfl (Or.inl rfl)) (pss_cons (ps_set (i := 5) nd rfl (Or.inl rfl) (pe_op (opR_or2 op_sub (opR_or2 (op_own (op := .Sub) E.own0.toOwn E.Ratio_sub.M E.Ratio_rsub.M (ok_Ratio_sub E) (hr.mono (by decide)) E.Ratio_sub.b pass0) (op_subR E.own0.toOwn E.Ratio_rsub.M E.Ratio_sub.M (ok_Ratio_rsub E) (hr.mono (by decide)) E.Ratio_rsub.b pass0))) (pe_ix ix_seq (pe_ix ix_seq (pv 0) (pv 1) (fun _ _ => rfl)) (pv 4) (fun _ _ => rfl)) (pe_ix ix_seq (pe_ix ix_seq (pv 0) (pv 2) (fun _ _ => rfl)) (pv 4) (fun _ _ => rfl)))) (pss_cons (ps_asg (pv 5) (pg_sub (pv 3) (pe_op (opR_or2 op_add (opR_or2 (op_own (op := .Add) E.own0.toOwn E.Ratio_add.M E.Ratio_radd.M (ok_Ratio_add E) (hr.mono (by decide)) E.Ratio_add.b pass0) (op_addR E.own0.toOwn E.Ratio_radd.M E.Ratio_add.M (ok_Ratio_radd E) (hr.mono (by decide)) E.Ratio_radd.b pass0))) (pe_op (opR_or2 op_mulY (opR_or2 (op_own (op := .Mult) E.own0.toOwn E.Ratio_mul.M E.Ratio_rmul.M (ok_Ratio_mul E) (hr.mono (by decide)) E.Ratio_mul.b pass0) (op_mulR E.own0.toOwn E.Ratio_rmul.M E.Ratio_mul.M (ok_Ratio_rmul E) (hr.mono (by decide)) E.Ratio_rmul.b pass0))) pe_int (pv 1)) (pv 4)) set_list)) (pss_one (ps_asg (pe_un (unR_or1 un_neg (un_own E.Ratio_neg.M (ok_Ratio_neg E) (hr.mono (by decide)) E.Ratio_neg.b pass0)) (pv 5)) (pg_sub (pv 3) (pe_op (opR_or2 op_add (opR_or2 (op_own (op := .Add) E.own0.toOwn E.Ratio_add.M E.Ratio_radd.M (ok_Ratio_add E) (hr.mono (by decide)) E.Ratio_add.b pass0) (op_addR E.own0.toOwn E.Ratio_radd.M E.Ratio_add.M (ok_Ratio_radd E) (hr.mono (by decide)) E.Ratio_radd.b pass0))) (pe_op (opR_or2 op_mulY (opR_or2 (op_own (op := .Mult) E.own0.toOwn E.Ratio_mul.M E.Ratio_rmul.M (ok_Ratio_mul E) (hr.mono (by decide)) E.Ratio_mul.b pass0) (op_mulR E.own0.toOwn E.Ratio_rmul.M E.Ratio_mul.M (ok_Ratio_rmul E) (hr.mono (by decide)) E.Ratio_rmul.b pass0))) pe_int (pv 2)) (pv 4)) set_list)))))) (pss_one (ps_ret (pv 3))))), spN_body (k := 3) (N := N_bar_row) (ls1 := [lc, lc, lc, lc, lc, lc]) (show SmS W RetN _ [lc, lc, lc, lc, lc, lc] FB_bar_row [lc, lc, lc, lc, lc, lc] from (smS_seq (smS_asgO (l := lc) (smF_rep (smF_I (smF_lst (smL_cons (sm_makeI (fl := [true]) E.own0 (smA_cons (l := lc) sm_int smA_nil) rfl) smL_nil))) (sm_op opS_mul sm_int (sm_sq1 sqS_len (smI_of (sm_var rfl rfl))))) (by decide)) (smS_seq (smS_for (li := lc) (g := (.nm 4)) (smIt_E (sm_tup (smL_cons sm_int (smL_cons sm_int smL_nil))) rfl) rfl (by decide) (SmS.up (smS_seq (smS_asg (l := lc) (sm_op (.or2 opS_sub (.or2 (opS_own bt_sub_int) opS_ownR)) (sm_ix (smI_of (sm_ix (smI_of (sm_var rfl rfl)) (sm_var rfl rfl))) (sm_var rfl rfl)) (sm_ix (smI_of (sm_ix (smI_of (sm_var rfl rfl)) (sm_var rfl rfl))) (sm_var rfl rfl))) (by decide)) (smS_seq (smS_set (l := lc) rfl (sm_var rfl rfl) (sm_op (.or2 opS_add (.or2 (opS_own bt_add_int) opS_ownR)) (sm_op (.or2 opS_mul (.or2 (opS_own bt_mul_int) opS_ownR)) sm_int (sm_var rfl rfl)) (sm_var rfl rfl)) rfl) (smS_set (l := lc) rfl (sm_un (.or1 unS_neg unS_own) (sm_var rfl rfl)) (sm_op (.or2 opS_add (.or2 (opS_own bt_add_int) opS_ownR)) (sm_op (.or2 opS_mul (.or2 (opS_own bt_mul_int) opS_ownR)) sm_int (sm_var rfl rfl)) (sm_var rfl rfl)) rfl))) rfl)) (smS_retO rfl)))) (fun ts pot τ p1 => (show Nox FB_bar_row from (nox_seq (nox_seq nox_ret))) _ _ _ _) rfl h⟩
abbrev N_law_frame : List Str := ["_law_pot_here", "_law_most", "_law_bars", "_law_points", "_law_lines", "_law_turn", "_law_near", "_law_far", "_law_many", "_law_every", "_law_one", "_law_other"]
theorem sc_law_frame : FnScope N_law_frame ["_law_pot_here", "_law_most", "_law_bars"] (defScope s_law_frame) := ⟨rfl, rfl, rfl, by decide +kernel, rfl, by decide +kernel, by decide +kernel⟩
theorem ok_law_frame (E : Env W mg) : FnOk P w W.K mg base CX0 7 E.law_frame.f E.law_frame.d ["_law_pot_here", "_law_most", "_law_bars"] (spT W T_law_frame [true, true, true]) := by
  refine E.law_frame.F.ok sc_law_frame (fun vs H Q E0 h => spT_len h) (fun cdv A outer s H vs Q E0 hr h => ?_)
  have nd := sc_law_frame.nd
  exact ⟨_, (pss_cons (ps_par (i := 3) (j := 4) rfl nd rfl rfl (by decide) rfl rfl (pa_cons (pe_lst pa_nil) (pa_cons (pe_lst pa_nil) pa_nil)) rfl) (pss_cons (ps_for PassesOwn.never rfl (pi_range1 rfl E.z_range (pa_cons (pe_call (ok_law_draw E) (hr.mono (by decide)) rfl E.law_draw.m E.law_draw.F.kp E.law_draw.b .nil pass0 (pa_cons (pv 0) (pa_cons (pe_op (opR_or2 op_add (opR_or2 (op_own (op := .Add) E.own0.toOwn E.Ratio_add.M E.Ratio_radd.M (ok_Ratio_add E) (hr.mono (by decide)) E.Ratio_add.b pass0) (op_addR E.own0.toOwn E.Ratio_radd.M E.Ratio_add.M (ok_Ratio_radd E) (hr.mono (by decide)) E.Ratio_radd.b pass0))) (pv 1) pe_int) pa_nil))) pa_nil)) (pg_name (i := 5) nd rfl (Or.inl rfl)) (pss_cons (ps_par (i := 6) (j := 7) rfl nd rfl rfl (by decide) rfl rfl (pa_cons (pe_op op_sub (pe_call (ok_law_draw E) (hr.mono (by decide)) rfl E.law_draw.m E.law_draw.F.kp E.law_draw.b .nil pass0 (pa_cons (pv 0) (pa_cons pe_int pa_nil))) pe_int) (pa_cons (pe_op op_sub (pe_call (ok_law_draw E) (hr.mono (by decide)) rfl E.law_draw.m E.law_draw.F.kp E.law_draw.b .nil pass0 (pa_cons (pv 0) (pa_cons pe_int pa_nil))) pe_int) pa_nil)) rfl) (pss_one (ps_expr (pe_bm PySem.F.plainAttrs_list PySem.F.slot_list_append PySem.F.type_list_append mt_append (pv 3) (pa_cons (pe_ifExp (pt_cmpR op_gt (pe_call (ok_law_draw E) (hr.mono (by decide)) rfl E.law_draw.m E.law_draw.F.kp E.law_draw.b .nil pass0 (pa_cons (pv 0) (pa_cons pe_int pa_nil))) pe_int (nomark _)) (pe_tup (pa_cons (pe_op op_mulY pe_int (pv 6)) (pa_cons (pe_op op_mulY pe_int (pv 7)) pa_nil))) (pe_tup (pa_cons (pe_op op_add (pe_op op_mulY pe_int (pv 6)) pe_int) (pa_cons (pe_op op_mulY pe_int (pv 7)) pa_nil)))) pa_nil)))))) (pss_cons (ps_set (i := 8) nd rfl (Or.inl rfl) (pe_callB call_len_seq (by rfl) E.z_len PySem.boot_len (pa_cons (pv 3) pa_nil))) (pss_cons (ps_set (i := 9) nd rfl (Or.inl rfl) (pe_lst pa_nil)) (pss_cons (ps_for PassesOwn.never rfl (pi_range1 rfl E.z_range (pa_cons (pv 8) pa_nil)) (pg_name (i := 10) nd rfl (Or.inr rfl)) (pss_one (ps_expr (pe_bm PySem.F.plainAttrs_list PySem.F.slot_list_extend PySem.F.type_list_extend mt_extend (pv 9) (pa_cons (pe_lc (own := [("_law_other", 11)]) rfl nd (pi_range2 rfl E.z_range (pa_cons (pe_op op_add (pv 10) pe_int) (pa_cons (pv 8) pa_nil))) (blkOk_by (N := N_law_frame) (sc := defScope s_law_frame) (by decide +kernel)) (fun _ _ _ _ _ => (pg_name (i := 11) nd rfl (Or.inl rfl))) (fun _ _ _ _ _ => pts_nil) (fun _ _ _ _ _ => (pe_tup (pa_cons (pv 10) (pa_cons (pv 11) pa_nil))))) pa_nil))))) (pss_cons (ps_if (pt_cmpR op_eq (pe_call (ok_law_draw E) (hr.mono (by decide)) rfl E.law_draw.m E.law_draw.F.kp E.law_draw.b .nil pass0 (pa_cons (pv 0) (pa_cons pe_int pa_nil))) pe_int (nomark _)) (pss_one (ps_ret (pe_tup (pa_cons (pv 3) (pa_cons (pe_slice sl_list (pv 9) po_none (po_some (pv 2))) pa_nil))))) pss_nil) (pss_cons (ps_for PassesOwn.never rfl (pi_range1 rfl E.z_range (pa_cons (pe_ifExp (pt_cmpR (op_neD (eqUnits hr)) (pv 9) (pe_lst pa_nil) (nomark _)) (pe_call (ok_law_draw E) (hr.mono (by decide)) rfl E.law_draw.m E.law_draw.F.kp E.law_draw.b .nil pass0 (pa_cons (pv 0) (pa_cons (pe_op (opR_or2 op_add (opR_or2 (op_own (op := .Add) E.own0.toOwn E.Ratio_add.M E.Ratio_radd.M (ok_Ratio_add E) (hr.mono (by decide)) E.Ratio_add.b pass0) (op_addR E.own0.toOwn E.Ratio_radd.M E.Ratio_add.M (ok_Ratio_radd E) (hr.mono (by decide)) E.Ratio_radd.b pass0))) (pv 2) pe_int) pa_nil))) pe_int) pa_nil)) (pg_name (i := 5) nd rfl (Or.inl rfl)) (pss_one (ps_expr (pe_bm PySem.F.plainAttrs_list PySem.F.slot_list_append PySem.F.type_list_append mt_append (pv 4) (pa_cons (pe_call (ok_law_pickO E) (hr.mono (by decide)) rfl E.law_pick.m E.law_pick.F.kp E.law_pick.b .nil pass0 (pa_cons (pv 0) (pa_cons (pv 9) pa_nil))) pa_nil))))) (pss_one (ps_ret (pe_tup (pa_cons (pv 3) (pa_cons (pv 4) pa_nil)))))))))))), spT_body (k := 9) (N := N_law_frame) (ls1 := [lc, lc, lc, lc, lc, lc, lc, lc, lc, lc, lc, lc]) (show SmS W RetE _ [lc, lc, lc, lc, lc, lc, lc, lc, lc, lc, lc, lc] FB_law_frame [lc, lc, lc, lc, lc, lc, lc, lc, lc, lc, lc, lc] from (smS_seq (smS_parX (smX_own (l := lc) (smF_lst smL_nil) rfl (smX_own (l := lc) (smF_lst smL_nil) rfl smX_nil)) (by decide) (by decide)) (smS_seq (smS_for (li := lc) (g := (.nm 5)) (smIt_range1 (smA_cons (l := ltop) (sm_call (smA_cons (l := ltop) (sm_var rfl rfl) (smA_cons (l := ltop) (sm_op (.or2 opS_add (.or2 (opS_own bt_add_int) opS_ownR)) (sm_var rfl rfl) sm_int) smA_nil)) rfl) smA_nil)) rfl (by decide) (SmS.up (smS_seq (smS_parX (smX_val (l := lc) (sm_op opS_sub (sm_call (smA_cons (l := lc) (sm_var rfl rfl) (smA_cons (l := lc) sm_int smA_nil)) rfl) sm_int) (smX_val (l := lc) (sm_op opS_sub (sm_call (smA_cons (l := lc) (sm_var rfl rfl) (smA_cons (l := lc) sm_int smA_nil)) rfl) sm_int) smX_nil)) (by decide) (by decide)) (smS_app (l := lc) rfl (sm_if (smT_test (sm_opA opS_gt (atS_I fun _ _ => rfl) (sm_call (smA_cons (l := ltop) (sm_var rfl rfl) (smA_cons (l := ltop) sm_int smA_nil)) rfl) sm_int)) (sm_tup (smL_cons (sm_op opS_mul sm_int (sm_var rfl rfl)) (smL_cons (sm_op opS_mul sm_int (sm_var rfl rfl)) smL_nil))) (sm_tup (smL_cons (sm_op opS_add (sm_op opS_mul sm_int (sm_var rfl rfl)) sm_int) (smL_cons (sm_op opS_mul sm_int (sm_var rfl rfl)) smL_nil)))) rfl)) rfl)) (smS_seq (smS_asg (l := lc) (sm_sq1 sqS_len (smI_own rfl rfl)) (by decide)) (smS_seq (smS_asgO (l := lc) (smF_lst smL_nil) (by decide)) (smS_seq (smS_for (li := lc) (g := (.nm 10)) (smIt_range1 (smA_cons (l := ltop) (sm_var rfl rfl) smA_nil)) rfl (by decide) (SmS.up (smS_ext (l := lc) rfl (smF_I (smF_lc (li := lc) (l := lc) (st := false) (g := (.nm 11)) (vs := [11]) (smIt_range2 (smA_cons (l := ltop) (sm_op opS_add (sm_var rfl rfl) sm_int) (smA_cons (l := ltop) (sm_var rfl rfl) smA_nil))) rfl rfl (by decide) (by decide) smT_yes (sm_tup (smL_cons (sm_var rfl rfl) (smL_cons (sm_var rfl rfl) smL_nil))) rfl)) rfl) rfl)) (smS_seq (smS_if (ls1 := [lc, lc, lc, lc, lc, lc, lc, lc, lc, lc, lc, lc]) (smT_test (sm_opA opS_eqA atS_eqA (sm_call (smA_cons (l := ltop) (sm_var rfl rfl) (smA_cons (l := ltop) sm_int smA_nil)) rfl) sm_int)) (smS_ret (sm_tup (smL_cons (sm_own rfl rfl) (smL_cons (smF_E (smF_sl (smI_own rfl rfl) smO_none (smO_some (sm_var rfl rfl)))) smL_nil)))) smS_next) (smS_seq (smS_for (li := lc) (g := (.nm 5)) (smIt_range1 (smA_cons (l := ltop) (sm_if (smT_test (sm_opA opS_neD atS_eqD (sm_own rfl rfl) (smF_E (smF_lst smL_nil)))) (sm_call (smA_cons (l := ltop) (sm_var rfl rfl) (smA_cons (l := ltop) (sm_op (.or2 opS_add (.or2 (opS_own bt_add_int) opS_ownR)) (sm_var rfl rfl) sm_int) smA_nil)) rfl) sm_int) smA_nil)) rfl (by decide) (SmS.up (smS_app (l := lc) rfl (sm_callO (sm_var rfl rfl) rfl rfl) rfl) rfl)) (smS_ret (sm_tup (smL_cons (sm_own rfl rfl) (smL_cons (sm_own rfl rfl) smL_nil)))))))))))) rfl h⟩
abbrev N_law_made : List Str := ["_law_pot_here", "_law_points", "_law_bars", "_law_told", "_law_near", "_law_far"]
theorem sc_law_made : FnScope N_law_made ["_law_pot_here", "_law_points", "_law_bars"] (defScope s_law_made) := ⟨rfl, rfl, rfl, by decide +kernel, rfl, by decide +kernel, by decide +kernel⟩
theorem ok_law_made (E : Env W mg) : FnOk P w W.K mg base CX0 9 E.law_made.f E.law_made.d ["_law_pot_here", "_law_points", "_law_bars"] (spT W T_law_made [true, true, true]) := by
  refine E.law_made.F.ok sc_law_made (fun vs H Q E0 h => spT_len h) (fun cdv A outer s H vs Q E0 hr h => ?_)
  have nd := sc_law_made.nd
  exact ⟨_, (pss_cons (ps_setLc (i := 3) (own := [("_law_near", 4), ("_law_far", 5)]) rfl nd rfl rfl (sw_true rfl rfl rfl (by decide +kernel)) (pi_seq (pv 1)) (blkOk_by (N := N_law_made) (sc := defScope s_law_made) (by decide +kernel)) (fun _ _ _ _ _ => (pg_or (pg_tup rfl (pgs_cons (pg_name (i := 4) nd rfl (Or.inl rfl)) (pgs_cons (pg_name (i := 5) nd rfl (Or.inl rfl)) pgs_nil))) (pg_unl rfl (pgs_cons (pg_name (i := 4) nd rfl (Or.inl rfl)) (pgs_cons (pg_name (i := 5) nd rfl (Or.inl rfl)) pgs_nil))))) (fun _ _ _ _ _ => pts_nil) (fun _ _ _ _ _ => (pe_tup (pa_cons (pe_make E.Ratio_init.M (ok_Ratio_init E) (hr.mono (by decide)) rfl E.m_Ratio E.Ratio_init.b .nil pass0 (pa_cons (pv 4) (pa_cons pe_int pa_nil))) (pa_cons (pe_ifExp (pt_cmpR op_eq (pe_call (ok_law_draw E) (hr.mono (by decide)) rfl E.law_draw.m E.law_draw.F.kp E.law_draw.b .nil pass0 (pa_cons (pv 0) (pa_cons pe_int pa_nil))) pe_int (nomark _)) (pe_op op_fdivX (pv 5) pe_int) (pe_make E.Ratio_init.M (ok_Ratio_init E) (hr.mono (by decide)) rfl E.m_Ratio E.Ratio_init.b .nil pass0 (pa_cons (pv 5) (pa_cons pe_int pa_nil)))) pa_nil))))) (pss_cons (ps_set (i := 3) nd rfl (Or.inl rfl) (pe_ifExp (pt_cmpR op_eq (pe_call (ok_law_draw E) (hr.mono (by decide)) rfl E.law_draw.m E.law_draw.F.kp E.law_draw.b .nil pass0 (pa_cons (pv 0) (pa_cons pe_int pa_nil))) pe_int (nomark _)) (pe_callTy call_tuple_of rfl E.z_tuple (by rfl) (pa_cons (pv 3) pa_nil)) (pv 3))) (pss_one (ps_ret (pe_ifExp (pt_cmpR op_eq (pe_call (ok_law_draw E) (hr.mono (by decide)) rfl E.law_draw.m E.law_draw.F.kp E.law_draw.b .nil pass0 (pa_cons (pv 0) (pa_cons pe_int pa_nil))) pe_int (nomark _)) (pe_make E.Frame_init.M (ok_Frame_init E) (hr.mono (by decide)) rfl E.m_Frame E.Frame_init.b .nil pass0 (pa_cons (pv 3) (pa_cons (pe_callTy call_tuple_of rfl E.z_tuple (by rfl) (pa_cons (pv 2) pa_nil)) pa_nil))) (pe_makeK0 E.Frame_init.M (ok_Frame_init E) (hr.mono (by decide)) rfl E.m_Frame E.kwi_Frame_init_10 pass0 (pk_cons (pe_callTy call_list_of rfl E.z_list (by rfl) (pa_cons (pv 2) pa_nil)) (pk_cons (pv 3) pk_nil)))))))), spT_body (k := 3) (N := N_law_made) (ls1 := [lc, lc, lc, lc, lc, lc]) (show SmS W RetE _ [lc, lc, lc, lc, lc, lc] FB_law_made [lc, lc, lc, lc, lc, lc] from (smS_seq (smS_asg (l := lc) (smF_E (smF_lc (li := lc) (l := lc) (st := false) (g := (.tu [4, 5])) (vs := [4, 5]) (smIt_I (smI_of (sm_var rfl rfl))) rfl rfl (by decide) (by decide) smT_yes (sm_tup (smL_cons (sm_make E.own0 (smA_cons (l := lc) (sm_var rfl rfl) (smA_cons (l := lc) sm_int smA_nil)) rfl) (smL_cons (sm_if (smT_test (sm_opA opS_eqA atS_eqA (sm_call (smA_cons (l := ltop) (sm_var rfl rfl) (smA_cons (l := ltop) sm_int smA_nil)) rfl) sm_int)) (sm_op opS_fdiv (sm_var rfl rfl) sm_int) (sm_make E.own0 (smA_cons (l := lc) (sm_var rfl rfl) (smA_cons (l := lc) sm_int smA_nil)) rfl)) smL_nil))) rfl)) (by decide)) (smS_seq (smS_asg (l := lc) (sm_if (smT_test (sm_opA opS_eqA atS_eqA (sm_call (smA_cons (l := ltop) (sm_var rfl rfl) (smA_cons (l := ltop) sm_int smA_nil)) rfl) sm_int)) (sm_tupOf (smI_of (sm_var rfl rfl))) (sm_var rfl rfl)) (by decide)) (smS_ret (sm_if (smT_test (sm_opA opS_eqA atS_eqA (sm_call (smA_cons (l := ltop) (sm_var rfl rfl) (smA_cons (l := ltop) sm_int smA_nil)) rfl) sm_int)) (sm_make E.own2 (smA_cons (l := lr) (sm_var rfl rfl) (smA_cons (l := lr) (sm_tupOf (smI_of (sm_var rfl rfl))) smA_nil)) rfl) (sm_makeK (is := [1, 0]) E.own2 (smA_cons (l := lr) (smF_E (smF_list (smI_of (sm_var rfl rfl)))) (smA_cons (l := lr) (sm_var rfl rfl) smA_nil)) rfl (by decide) rfl)))))) rfl h⟩
abbrev N_law_table : List Str := ["_law_points", "_law_bars", "_law_found", "_law_one", "_law_other", "_law_row", "_law_side"]
theorem sc_law_table : FnScope N_law_table ["_law_points", "_law_bars"] (defScope s_law_table) := ⟨rfl, rfl, rfl, by decide +kernel, rfl, by decide +kernel, by decide +kernel⟩
theorem ok_law_table (E : Env W mg) : FnOk P w W.K mg base CX0 7 E.law_table.f E.law_table.d ["_law_points", "_law_bars"] (spN W T_law_table [true, true]) := by
  refine E.law_table.F.ok sc_law_table (fun vs H Q E0 h => spN_len h) (fun cdv A outer s H vs Q E0 hr h => ?_)
  have nd := sc_law_table.nd
  exact ⟨_, (pss_cons (ps_set (i := 2) nd rfl (Or.inl rfl) (pe_lst pa_nil)) (pss_cons (ps_for PassesOwn.never rfl (pi_seq (pv 1)) (pg_or (pg_tup rfl (pgs_cons (pg_name (i := 3) nd rfl (Or.inl rfl)) (pgs_cons (pg_name (i := 4) nd rfl (Or.inl rfl)) pgs_nil))) (pg_unl rfl (pgs_cons (pg_name (i := 3) nd rfl (Or.inl rfl)) (pgs_cons (pg_name (i := 4) nd rfl (Or.inl rfl)) pgs_nil)))) (pss_cons (ps_set (i := 5) nd rfl (Or.inl rfl) (pe_op op_rep (pe_lst (pa_cons pe_int pa_nil)) (pe_op op_mulY pe_int (pe_callB call_len_seq (by rfl) E.z_len PySem.boot_len (pa_cons (pv 0) pa_nil))))) (pss_cons (ps_for PassesOwn.never rfl (pi_range1 rfl E.z_range (pa_cons pe_int pa_nil)) (pg_name (i := 6) nd rfl (Or.inl rfl)) (pss_cons (ps_asg (pe_op (opR_or2 op_sub (opR_or2 (op_own (op := .Sub) E.own0.toOwn E.Ratio_sub.M E.Ratio_rsub.M (ok_Ratio_sub E) (hr.mono (by decide)) E.Ratio_sub.b pass0) (op_subR E.own0.toOwn E.Ratio_rsub.M E.Ratio_sub.M (ok_Ratio_rsub E) (hr.mono (by decide)) E.Ratio_rsub.b pass0))) (pe_ix ix_seq (pe_ix ix_seq (pv 0) (pv 3) (fun _ _ => rfl)) (pv 6) (fun _ _ => rfl)) (pe_ix ix_seq (pe_ix ix_seq (pv 0) (pv 4) (fun _ _ => rfl)) (pv 6) (fun _ _ => rfl))) (pg_sub (pv 5) (pe_op (opR_or2 op_add (opR_or2 (op_own (op := .Add) E.own0.toOwn E.Ratio_add.M E.Ratio_radd.M (ok_Ratio_add E) (hr.mono (by decide)) E.Ratio_add.b pass0) (op_addR E.own0.toOwn E.Ratio_radd.M E.Ratio_add.M (ok_Ratio_radd E) (hr.mono (by decide)) E.Ratio_radd.b pass0))) (pe_op (opR_or2 op_mulY (opR_or2 (op_own (op := .Mult) E.own0.toOwn E.Ratio_mul.M E.Ratio_rmul.M (ok_Ratio_mul E) (hr.mono (by decide)) E.Ratio_mul.b pass0) (op_mulR E.own0.toOwn E.Ratio_rmul.M E.Ratio_mul.M (ok_Ratio_rmul E) (hr.mono (by decide)) E.Ratio_rmul.b pass0))) pe_int (pv 3)) (pv 6)) set_list)) (pss_one (ps_asg (pe_op (opR_or2 op_sub (opR_or2 (op_own (op := .Sub) E.own0.toOwn E.Ratio_sub.M E.Ratio_rsub.M (ok_Ratio_sub E) (hr.mono (by decide)) E.Ratio_sub.b pass0) (op_subR E.own0.toOwn E.Ratio_rsub.M E.Ratio_sub.M (ok_Ratio_rsub E) (hr.mono (by decide)) E.Ratio_rsub.b pass0))) (pe_ix ix_seq (pe_ix ix_seq (pv 0) (pv 4) (fun _ _ => rfl)) (pv 6) (fun _ _ => rfl)) (pe_ix ix_seq (pe_ix ix_seq (pv 0) (pv 3) (fun _ _ => rfl)) (pv 6) (fun _ _ => rfl))) (pg_sub (pv 5) (pe_op (opR_or2 op_add (opR_or2 (op_own (op := .Add) E.own0.toOwn E.Ratio_add.M E.Ratio_radd.M (ok_Ratio_add E) (hr.mono (by decide)) E.Ratio_add.b pass0) (op_addR E.own0.toOwn E.Ratio_radd.M E.Ratio_add.M (ok_Ratio_radd E) (hr.mono (by decide)) E.Ratio_radd.b pass0))) (pe_op (opR_or2 op_mulY (opR_or2 (op_own (op := .Mult) E.own0.toOwn E.Ratio_mul.M E.Ratio_rmul.M (ok_Ratio_mul E) (hr.mono (by decide)) E.Ratio_mul.b pass0) (op_mulR E.own0.toOwn E.Ratio_rmul.M E.Ratio_mul.M (ok_Ratio_rmul E) (hr.mono (by decide)) E.Ratio_rmul.b pass0))) pe_int (pv 4)) (pv 6)) set_list))))) (pss_one (ps_expr (pe_bm PySem.F.plainAttrs_list PySem.F.slot_list_append PySem.F.type_list_append mt_append (pv 2) (pa_cons (pv 5) pa_nil))))))) (pss_one (ps_ret (pv 2))))), spN_body (k := 5) (N := N_law_table) (ls1 := [lc, lc, lc, lc, lc, lc, lc]) (show SmS W RetN _ [lc, lc, lc, lc, lc, lc, lc] FB_law_table [lc, lc, lc, lc, lc, lc, lc] from (smS_seq (smS_asgO (l := lc) (smF_lst smL_nil) (by decide)) (smS_seq (smS_for (li := lc) (g := (.tu [3, 4])) (smIt_E (sm_var rfl rfl) rfl) rfl (by decide) (SmS.up (smS_seq (smS_asgO (l := lc) (smF_rep (smF_I (smF_lst (smL_cons sm_int smL_nil))) (sm_op opS_mul sm_int (sm_sq1 sqS_len (smI_of (sm_var rfl rfl))))) (by decide)) (smS_seq (smS_for (li := lc) (g := (.nm 6)) (smIt_range1 (smA_cons (l := ltop) sm_int smA_nil)) rfl (by decide) (SmS.up (smS_seq (smS_set (l := lc) rfl (sm_op (.or2 opS_sub (.or2 (opS_own bt_sub_int) opS_ownR)) (sm_ix (smI_of (sm_ix (smI_of (sm_var rfl rfl)) (sm_var rfl rfl))) (sm_var rfl rfl)) (sm_ix (smI_of (sm_ix (smI_of (sm_var rfl rfl)) (sm_var rfl rfl))) (sm_var rfl rfl))) (sm_op (.or2 opS_add (.or2 (opS_own bt_add_int) opS_ownR)) (sm_op (.or2 opS_mul (.or2 (opS_own bt_mul_int) opS_ownR)) sm_int (sm_var rfl rfl)) (sm_var rfl rfl)) rfl) (smS_set (l := lc) rfl (sm_op (.or2 opS_sub (.or2 (opS_own bt_sub_int) opS_ownR)) (sm_ix (smI_of (sm_ix (smI_of (sm_var rfl rfl)) (sm_var rfl rfl))) (sm_var rfl rfl)) (sm_ix (smI_of (sm_ix (smI_of (sm_var rfl rfl)) (sm_var rfl rfl))) (sm_var rfl rfl))) (sm_op (.or2 opS_add (.or2 (opS_own bt_add_int) opS_ownR)) (sm_op (.or2 opS_mul (.or2 (opS_own bt_mul_int) opS_ownR)) sm_int (sm_var rfl rfl)) (sm_var rfl rfl)) rfl)) rfl)) (smS_frz 5 (smS_app (l := lc) rfl (sm_var rfl rfl) rfl)))) rfl)) (smS_retO rfl)))) (fun ts pot τ p1 => (show Nox FB_law_table from (nox_seq (nox_seq nox_ret))) _ _ _ _) rfl h⟩
abbrev N_bar_table : List Str := ["frame", "i", "j"]
theorem sc_bar_table : FnScope N_bar_table ["frame"] (defScope s_bar_table) := ⟨rfl, rfl, rfl, by decide +kernel, rfl, by decide +kernel, by decide +kernel⟩
theorem ok_bar_table (E : Env W mg) : FnOk P w W.K mg base CX0 8 E.bar_table.f E.bar_table.d ["frame"] (spN W T_bar_table [false]) := by
  refine E.bar_table.F.ok sc_bar_table (fun vs H Q E0 h => spN_len h) (fun cdv A outer s H vs Q E0 hr h => ?_)
  have nd := sc_bar_table.nd
  exact ⟨_, (pss_cons (ps_expr (pe_call (ok_check_frame E) (hr.mono (by decide)) rfl E.check_frame.m E.check_frame.F.kp E.check_frame.b .nil pass0 (pa_cons (pv 0) pa_nil))) (pss_one (ps_ret (pe_lc (own := [("i", 1), ("j", 2)]) rfl nd (pi_seq (pe_meth0 (pv 0) E.own2.cl E.Frame_bars.M (ok_Frame_bars E) (hr.mono (by decide)) E.Frame_bars.b .nil pass0)) (blkOk_by (N := N_bar_table) (sc := defScope s_bar_table) (by decide +kernel)) (fun _ _ _ _ _ => (pg_or (pg_tup rfl (pgs_cons (pg_name (i := 1) nd rfl (Or.inl rfl)) (pgs_cons (pg_name (i := 2) nd rfl (Or.inl rfl)) pgs_nil))) (pg_unl rfl (pgs_cons (pg_name (i := 1) nd rfl (Or.inl rfl)) (pgs_cons (pg_name (i := 2) nd rfl (Or.inl rfl)) pgs_nil))))) (fun _ _ _ _ _ => pts_nil) (fun _ _ _ _ _ => (pe_call (ok_bar_row E) (hr.mono (by decide)) rfl E.bar_row.m E.bar_row.F.kp E.bar_row.b .nil pass0 (pa_cons (pe_meth0 (pv 0) E.own2.cl E.Frame_points.M (ok_Frame_points E) (hr.mono (by decide)) E.Frame_points.b .nil pass0) (pa_cons (pv 1) (pa_cons (pv 2) pa_nil))))))))), spN_body (k := 2) (N := N_bar_table) (ls1 := [lq, lc, lc]) (show SmS W RetN _ [lq, lc, lc] FB_bar_table [lq, lc, lc] from (smS_seq (smS_drop (sm_call (smA_cons (l := ltop) (sm_var rfl rfl) smA_nil) rfl)) (smS_retF (SmF.le (l := lc) (smF_lc (li := lc) (l := lc) (st := false) (g := (.tu [1, 2])) (vs := [1, 2]) (smIt_I (smI_of (sm_meth (m := ltop) (sm_var rfl rfl) smA_nil rfl (by rw [E.nm2]; decide)))) rfl rfl (by decide) (by decide) smT_yes (smF_E (sm_callN (smA_cons (l := lc) (sm_meth (m := ltop) (sm_var rfl rfl) smA_nil rfl (by rw [E.nm2]; decide)) (smA_cons (l := lc) (sm_var rfl rfl) (smA_cons (l := lc) (sm_var rfl rfl) smA_nil))) rfl)) rfl) rfl)))) (fun ts pot τ p1 => (show Nox FB_bar_table from (nox_seq nox_ret)) _ _ _ _) rfl h⟩
abbrev N_frame_pairs : List Str := ["frame", "table", "places", "point", "place"]
theorem sc_frame_pairs : FnScope N_frame_pairs ["frame"] (defScope s_frame_pairs) := ⟨rfl, rfl, rfl, by decide +kernel, rfl, by decide +kernel, by decide +kernel⟩
theorem ok_frame_pairs (E : Env W mg) : FnOk P w W.K mg base CX0 9 E.frame_pairs.f E.frame_pairs.d ["frame"] (spT W T_frame_pairs [true]) := by
  refine E.frame_pairs.F.ok sc_frame_pairs (fun vs H Q E0 h => spT_len h) (fun cdv A outer s H vs Q E0 hr h => ?_)
  have nd := sc_frame_pairs.nd
  exact ⟨_, (pss_cons (ps_set (i := 1) nd rfl (Or.inr rfl) (pe_call (ok_bar_table E) (hr.mono (by decide)) rfl E.bar_table.m E.bar_table.F.kp E.bar_table.b .nil pass0 (pa_cons (pv 0) pa_nil))) (pss_cons (ps_setLc (i := 2) (own := [("point", 3)]) rfl nd rfl rfl (sw_true rfl rfl rfl (by decide +kernel)) (pi_range1 rfl E.z_range (pa_cons (pe_prop (pv 0) E.own2.cl E.Frame_many.P (ok_Frame_many E) (hr.mono (by decide)) E.Frame_many.b .nil pass0 rfl) pa_nil)) (blkOk_by (N := N_frame_pairs) (sc := defScope s_frame_pairs) (by decide +kernel)) (fun _ _ _ _ _ => (pg_name (i := 3) nd rfl (Or.inl rfl))) (fun _ _ _ _ _ => pts_nil) (fun _ _ _ _ _ => (pe_op op_mulY pe_int (pv 3)))) (pss_one (ps_ret (pe_make E.Pairs_init.M (ok_Pairs_init E) (hr.mono (by decide)) rfl E.m_Pairs E.Pairs_init.b .nil pass0 (pa_cons (pe_callB call_len_seq (by rfl) E.z_len PySem.boot_len (pa_cons (pv 1) pa_nil)) (pa_cons (pe_lc (own := [("place", 4)]) rfl nd (pi_seq (pv 2)) (blkOk_by (N := N_frame_pairs) (sc := defScope s_frame_pairs) (by decide +kernel)) (fun _ _ _ _ _ => (pg_name (i := 4) nd rfl (Or.inl rfl))) (fun _ _ _ _ _ => pts_nil) (fun _ _ _ _ _ => (pe_tup (pa_cons (pe_call (ok_column E) (hr.mono (by decide)) rfl E.column.m E.column.F.kp E.column.b .nil pass0 (pa_cons (pv 1) (pa_cons (pv 4) pa_nil))) (pa_cons (pe_call (ok_column E) (hr.mono (by decide)) rfl E.column.m E.column.F.kp E.column.b .nil pass0 (pa_cons (pv 1) (pa_cons (pe_op (opR_or2 op_add (opR_or2 (op_own (op := .Add) E.own0.toOwn E.Ratio_add.M E.Ratio_radd.M (ok_Ratio_add E) (hr.mono (by decide)) E.Ratio_add.b pass0) (op_addR E.own0.toOwn E.Ratio_radd.M E.Ratio_add.M (ok_Ratio_radd E) (hr.mono (by decide)) E.Ratio_radd.b pass0))) (pv 4) pe_int) pa_nil))) pa_nil))))) pa_nil))))))), spT_body (k := 4) (N := N_frame_pairs) (ls1 := [lc, lc, lc, lc, lc]) (show SmS W RetE _ [lc, lc, lc, lc, lc] FB_frame_pairs [lc, lc, lc, lc, lc] from (smS_seq (smS_asg (l := lc) (smF_E (sm_callN (smA_cons (l := ltop) (sm_var rfl rfl) smA_nil) rfl)) (by decide)) (smS_seq (smS_asg (l := lc) (smF_E (smF_lc (li := lc) (l := lc) (st := false) (g := (.nm 3)) (vs := [3]) (smIt_range1 (smA_cons (l := ltop) (sm_prop (sm_var rfl rfl)) smA_nil)) rfl rfl (by decide) (by decide) smT_yes (sm_op opS_mul sm_int (sm_var rfl rfl)) rfl)) (by decide)) (smS_ret (sm_make E.own1 (smA_cons (l := lr) (sm_sq1 sqS_len (smI_of (sm_var rfl rfl))) (smA_cons (l := lr) (smF_E (SmF.le (l := lc) (smF_lc (li := lc) (l := lc) (st := false) (g := (.nm 4)) (vs := [4]) (smIt_I (smI_of (sm_var rfl rfl))) rfl rfl (by decide) (by decide) smT_yes (sm_tup (smL_cons (smF_E (sm_callN (smA_cons (l := lc) (sm_var rfl rfl) (smA_cons (l := lc) (sm_var rfl rfl) smA_nil)) rfl)) (smL_cons (smF_E (sm_callN (smA_cons (l := lc) (sm_var rfl rfl) (smA_cons (l := lc) (sm_op (.or2 opS_add (.or2 (opS_own bt_add_int) opS_ownR)) (sm_var rfl rfl) sm_int) smA_nil)) rfl)) smL_nil))) rfl) rfl)) smA_nil)) rfl))))) rfl h⟩
abbrev N_law_told_right : List Str := ["_law_frame_here", "_law_points", "_law_bars", "_law_due", "_law_near", "_law_far", "_law_bar", "_law_rows", "_law_row", "_law_number", "_law_pairs", "_law_at"]
theorem sc_law_told_right : FnScope N_law_told_right ["_law_frame_here", "_law_points", "_law_bars"] (defScope s_law_told_right) := ⟨rfl, rfl, rfl, by decide +kernel, rfl, by decide +kernel, by decide +kernel⟩
theorem ok_law_told_right (E : Env W mg) : FnG P w W.K mg base CX0 13 E.law_told_right.f E.law_told_right.d ["_law_frame_here", "_law_points", "_law_bars"] (spT W T_law_told_right [true, true, true]) := by
  refine bodyG0 E.law_told_right.F sc_law_told_right (fun vs H Q E0 h => spT_len h) (fun cdv A outer s H vs Q E0 hg hr h => ?_)
  have nd := sc_law_told_right.nd
  exact ⟨_, (pss_cons (ps_setLc (i := 3) (own := [("_law_near", 4), ("_law_far", 5)]) rfl nd rfl rfl (sw_true rfl rfl rfl (by decide +kernel)) (pi_seq (pv 1)) (blkOk_by (N := N_law_told_right) (sc := defScope s_law_told_right) (by decide +kernel)) (fun _ _ _ _ _ => (pg_or (pg_tup rfl (pgs_cons (pg_name (i := 4) nd rfl (Or.inl rfl)) (pgs_cons (pg_name (i := 5) nd rfl (Or.inl rfl)) pgs_nil))) (pg_unl rfl (pgs_cons (pg_name (i := 4) nd rfl (Or.inl rfl)) (pgs_cons (pg_name (i := 5) nd rfl (Or.inl rfl)) pgs_nil))))) (fun _ _ _ _ _ => pts_nil) (fun _ _ _ _ _ => (pe_tup (pa_cons (pe_call (ok_law_halves E) (hr.mono (by decide)) rfl E.law_halves.m E.law_halves.F.kp E.law_halves.b .nil pass0 (pa_cons (pv 4) pa_nil)) (pa_cons (pe_call (ok_law_halves E) (hr.mono (by decide)) rfl E.law_halves.m E.law_halves.F.kp E.law_halves.b .nil pass0 (pa_cons (pv 5) pa_nil)) pa_nil))))) (pss_cons (ps_if (pt_cmpR op_ne (pe_callB (call_rep (m := 2) (n := 4) hg (hr.mono (by decide)) (rratOk _) (oshow_of E.Ratio_repr.M (ok_Ratio_repr E) E.Ratio_repr.b pass0 (fun _ _ _ ⟨dx, _, _, z, _⟩ => ⟨dx, _, z⟩))) (by rfl) E.z_repr (by rfl) (pa_cons (pe_lst (pa_cons (pe_meth0 (pv 0) E.own2.cl E.Frame_points.M (ok_Frame_points E) (hr.mono (by decide)) E.Frame_points.b .nil pass0) (pa_cons (pe_meth0 (pv 0) E.own2.cl E.Frame_bars.M (ok_Frame_bars E) (hr.mono (by decide)) E.Frame_bars.b .nil pass0) (pa_cons (pe_prop (pv 0) E.own2.cl E.Frame_many.P (ok_Frame_many E) (hr.mono (by decide)) E.Frame_many.b .nil pass0 rfl) pa_nil)))) pa_nil)) (pe_callB (call_rep (m := 2) (n := 4) hg (hr.mono (by decide)) (rratOk _) (oshow_of E.Ratio_repr.M (ok_Ratio_repr E) E.Ratio_repr.b pass0 (fun _ _ _ ⟨dx, _, _, z, _⟩ => ⟨dx, _, z⟩))) (by rfl) E.z_repr (by rfl) (pa_cons (pe_lst (pa_cons (pv 3) (pa_cons (pe_lc (own := [("_law_bar", 6)]) rfl nd (pi_seq (pv 2)) (blkOk_by (N := N_law_told_right) (sc := defScope s_law_told_right) (by decide +kernel)) (fun _ _ _ _ _ => (pg_name (i := 6) nd rfl (Or.inl rfl))) (fun _ _ _ _ _ => pts_nil) (fun _ _ _ _ _ => (pe_callTy call_tuple_of rfl E.z_tuple (by rfl) (pa_cons (pv 6) pa_nil)))) (pa_cons (pe_callB call_len_seq (by rfl) E.z_len PySem.boot_len (pa_cons (pv 1) pa_nil)) pa_nil)))) pa_nil)) (nomark _)) (pss_one (ps_ret pe_bl)) pss_nil) (pss_cons (ps_if (pt_cmpR op_ne (pe_callB (call_reprG E.Frame_repr.M (ok_Frame_repr E) hg (hr.mono (by decide)) E.Frame_repr.b pass0 (fun _ _ _ ⟨dx, _, _, _, _, _, _, z, _⟩ => ⟨dx, _, z⟩)) (by rfl) E.z_repr (by rfl) (pa_cons (pv 0) pa_nil)) (pe_op (r := rStrCat) op_add_str (pe_op (r := rStrCat) op_add_str (pe_op (r := rStrCat) op_add_str (pe_op (r := rStrCat) op_add_str pe_str (pe_callB (call_rep (m := 2) (n := 4) hg (hr.mono (by decide)) (rratOk _) (oshow_of E.Ratio_repr.M (ok_Ratio_repr E) E.Ratio_repr.b pass0 (fun _ _ _ ⟨dx, _, _, z, _⟩ => ⟨dx, _, z⟩))) (by rfl) E.z_repr (by rfl) (pa_cons (pv 3) pa_nil))) pe_str) (pe_callB (call_rep (m := 2) (n := 4) hg (hr.mono (by decide)) (rratOk _) (oshow_of E.Ratio_repr.M (ok_Ratio_repr E) E.Ratio_repr.b pass0 (fun _ _ _ ⟨dx, _, _, z, _⟩ => ⟨dx, _, z⟩))) (by rfl) E.z_repr (by rfl) (pa_cons (pe_lc (own := [("_law_bar", 6)]) rfl nd (pi_seq (pv 2)) (blkOk_by (N := N_law_told_right) (sc := defScope s_law_told_right) (by decide +kernel)) (fun _ _ _ _ _ => (pg_name (i := 6) nd rfl (Or.inl rfl))) (fun _ _ _ _ _ => pts_nil) (fun _ _ _ _ _ => (pe_callTy call_tuple_of rfl E.z_tuple (by rfl) (pa_cons (pv 6) pa_nil)))) pa_nil))) pe_str) (nomark _)) (pss_one (ps_ret pe_bl)) pss_nil) (pss_cons (ps_setLc (i := 7) (own := [("_law_row", 8)]) rfl nd rfl rfl (sw_true rfl rfl rfl (by decide +kernel)) (pi_seq (pe_call (ok_law_table E) (hr.mono (by decide)) rfl E.law_table.m E.law_table.F.kp E.law_table.b .nil pass0 (pa_cons (pv 1) (pa_cons (pv 2) pa_nil)))) (blkOk_by (N := N_law_told_right) (sc := defScope s_law_told_right) (by decide +kernel)) (fun _ _ _ _ _ => (pg_name (i := 8) nd rfl (Or.inl rfl))) (fun _ _ _ _ _ => pts_nil) (fun _ _ _ _ _ => (pe_lc (own := [("_law_number", 9)]) rfl nd (pi_seq (pv 8)) (blkOk_by (N := N_law_told_right) (by rfl)) (fun _ _ _ _ _ => (pg_name (i := 9) nd rfl (Or.inl rfl))) (fun _ _ _ _ _ => pts_nil) (fun _ _ _ _ _ => (pe_call (ok_law_halves E) (hr.mono (by decide)) rfl E.law_halves.m E.law_halves.F.kp E.law_halves.b .nil pass0 (pa_cons (pv 9) pa_nil)))))) (pss_cons (ps_if (pt_cmpR op_ne (pe_callB (call_rep (m := 2) (n := 4) hg (hr.mono (by decide)) (rratOk _) (oshow_of E.Ratio_repr.M (ok_Ratio_repr E) E.Ratio_repr.b pass0 (fun _ _ _ ⟨dx, _, _, z, _⟩ => ⟨dx, _, z⟩))) (by rfl) E.z_repr (by rfl) (pa_cons (pe_call (ok_bar_table E) (hr.mono (by decide)) rfl E.bar_table.m E.bar_table.F.kp E.bar_table.b .nil pass0 (pa_cons (pv 0) pa_nil)) pa_nil)) (pe_callB (call_rep (m := 2) (n := 4) hg (hr.mono (by decide)) (rratOk _) (oshow_of E.Ratio_repr.M (ok_Ratio_repr E) E.Ratio_repr.b pass0 (fun _ _ _ ⟨dx, _, _, z, _⟩ => ⟨dx, _, z⟩))) (by rfl) E.z_repr (by rfl) (pa_cons (pv 7) pa_nil)) (nomark _)) (pss_one (ps_ret pe_bl)) pss_nil) (pss_cons (ps_set (i := 10) nd rfl (Or.inl rfl) (pe_lst pa_nil)) (pss_cons (ps_for PassesOwn.never rfl (pi_range1 rfl E.z_range (pa_cons (pe_callB call_len_seq (by rfl) E.z_len PySem.boot_len (pa_cons (pv 1) pa_nil)) pa_nil)) (pg_name (i := 11) nd rfl (Or.inr rfl)) (pss_one (ps_expr (pe_bm PySem.F.plainAttrs_list PySem.F.slot_list_append PySem.F.type_list_append mt_append (pv 10) (pa_cons (pe_tup (pa_cons (pe_lc (own := [("_law_row", 8)]) rfl nd (pi_seq (pv 7)) (blkOk_by (N := N_law_told_right) (sc := defScope s_law_told_right) (by decide +kernel)) (fun _ _ _ _ _ => (pg_name (i := 8) nd rfl (Or.inl rfl))) (fun _ _ _ _ _ => pts_nil) (fun _ _ _ _ _ => (pe_ix ix_seq (pv 8) (pe_op op_mulY pe_int (pv 11)) (fun _ _ => rfl)))) (pa_cons (pe_lc (own := [("_law_row", 8)]) rfl nd (pi_seq (pv 7)) (blkOk_by (N := N_law_told_right) (sc := defScope s_law_told_right) (by decide +kernel)) (fun _ _ _ _ _ => (pg_name (i := 8) nd rfl (Or.inl rfl))) (fun _ _ _ _ _ => pts_nil) (fun _ _ _ _ _ => (pe_ix ix_seq (pv 8) (pe_op op_add (pe_op op_mulY pe_int (pv 11)) pe_int) (fun _ _ => rfl)))) pa_nil))) pa_nil))))) (pss_one (ps_ret (pe_and (pe_cmpR (op_eqO E.Pairs_eq.M (ok_Pairs_eq E) (hr.mono (by decide)) E.Pairs_eq.b pass0) (pe_call (ok_frame_pairs E) (hr.mono (by decide)) rfl E.frame_pairs.m E.frame_pairs.F.kp E.frame_pairs.b .nil pass0 (pa_cons (pv 0) pa_nil)) (pe_make E.Pairs_init.M (ok_Pairs_init E) (hr.mono (by decide)) rfl E.m_Pairs E.Pairs_init.b .nil pass0 (pa_cons (pe_callB call_len_seq (by rfl) E.z_len PySem.boot_len (pa_cons (pv 2) pa_nil)) (pa_cons (pv 10) pa_nil))) (nomark _)) (pe_one (pe_cmpR op_eq (pe_prop (pe_callW (ok_frame_pairs E) (hr.mono (by decide)) rfl E.frame_pairs.m E.frame_pairs.F.kp E.kw_frame_pairs_0 pass0 (pk_cons (pv 0) pk_nil)) E.own1.cl E.Pairs_size.P (ok_Pairs_size E) (hr.mono (by decide)) E.Pairs_size.b .nil pass0 rfl) (pe_callB call_len_seq (by rfl) E.z_len PySem.boot_len (pa_cons (pv 2) pa_nil)) (nomark _))))))))))))), spT_body (k := 9) (N := N_law_told_right) (ls1 := [lc, lc, lc, lc, lc, lc, lc, lc, lc, lc, lc, lc]) (show SmS W RetE _ [lc, lc, lc, lc, lc, lc, lc, lc, lc, lc, lc, lc] FB_law_told_right [lc, lc, lc, lc, lc, lc, lc, lc, lc, lc, lc, lc] from (smS_seq (smS_asg (l := lc) (smF_E (smF_lc (li := lc) (l := lc) (st := false) (g := (.tu [4, 5])) (vs := [4, 5]) (smIt_I (smI_of (sm_var rfl rfl))) rfl rfl (by decide) (by decide) smT_yes (sm_tup (smL_cons (sm_call (smA_cons (l := lc) (sm_var rfl rfl) smA_nil) rfl) (smL_cons (sm_call (smA_cons (l := lc) (sm_var rfl rfl) smA_nil) rfl) smL_nil))) rfl)) (by decide)) (smS_seq (smS_if (ls1 := [lc, lc, lc, lc, lc, lc, lc, lc, lc, lc, lc, lc]) (smT_test (sm_opA opS_neA atS_eqA (sm_repr E.nm0 (smF_E (smF_lst (smL_cons (sm_meth (m := ltop) (sm_var rfl rfl) smA_nil rfl (by rw [E.nm2]; decide)) (smL_cons (sm_meth (m := ltop) (sm_var rfl rfl) smA_nil rfl (by rw [E.nm2]; decide)) (smL_cons (sm_prop (sm_var rfl rfl)) smL_nil)))))) (sm_repr E.nm0 (smF_E (smF_lst (smL_cons (sm_var rfl rfl) (smL_cons (smF_E (SmF.le (l := lc) (smF_lc (li := lc) (l := lc) (st := false) (g := (.nm 6)) (vs := [6]) (smIt_I (smI_of (sm_var rfl rfl))) rfl rfl (by decide) (by decide) smT_yes (sm_tupOfV (sm_var rfl rfl)) rfl) rfl)) (smL_cons (sm_sq1 sqS_len (smI_of (sm_var rfl rfl))) smL_nil)))))))) (smS_ret sm_bl) smS_next) (smS_seq (smS_if (ls1 := [lc, lc, lc, lc, lc, lc, lc, lc, lc, lc, lc, lc]) (smT_test (sm_opA opS_neA atS_eqA (sm_reprF E.nm0 E.nm2 (sm_var rfl rfl)) (sm_opA opS_addS atS_addS (sm_opA opS_addS atS_addS (sm_opA opS_addS atS_addS (sm_opA opS_addS atS_addS sm_str (sm_repr E.nm0 (sm_var rfl rfl))) sm_str) (sm_repr E.nm0 (smF_E (SmF.le (l := lc) (smF_lc (li := lc) (l := lc) (st := false) (g := (.nm 6)) (vs := [6]) (smIt_I (smI_of (sm_var rfl rfl))) rfl rfl (by decide) (by decide) smT_yes (sm_tupOfV (sm_var rfl rfl)) rfl) rfl)))) sm_str))) (smS_ret sm_bl) smS_next) (smS_seq (smS_asg (l := lc) (smF_E (smF_lc (li := lc) (l := lc) (st := false) (g := (.nm 8)) (vs := [8]) (smIt_F (sm_callN (smA_cons (l := lc) (sm_var rfl rfl) (smA_cons (l := lc) (sm_var rfl rfl) smA_nil)) rfl)) rfl rfl (by decide) (by decide) smT_yes (smF_E (smF_lc (li := lc) (l := lc) (st := false) (g := (.nm 9)) (vs := [9]) (smIt_I (smI_of (sm_var rfl rfl))) rfl rfl (by decide) (by decide) smT_yes (sm_call (smA_cons (l := lc) (sm_var rfl rfl) smA_nil) rfl) rfl)) rfl)) (by decide)) (smS_seq (smS_if (ls1 := [lc, lc, lc, lc, lc, lc, lc, lc, lc, lc, lc, lc]) (smT_test (sm_opA opS_neA atS_eqA (sm_repr E.nm0 (smF_E (sm_callN (smA_cons (l := ltop) (sm_var rfl rfl) smA_nil) rfl))) (sm_repr E.nm0 (sm_var rfl rfl)))) (smS_ret sm_bl) smS_next) (smS_seq (smS_asgO (l := lc) (smF_lst smL_nil) (by decide)) (smS_seq (smS_for (li := lc) (g := (.nm 11)) (smIt_range1 (smA_cons (l := ltop) (sm_sq1 sqS_len (smI_of (sm_var rfl rfl))) smA_nil)) rfl (by decide) (SmS.up (smS_app (l := lc) rfl (sm_tup (smL_cons (smF_E (smF_lc (li := lc) (l := lc) (st := false) (g := (.nm 8)) (vs := [8]) (smIt_I (smI_of (sm_var rfl rfl))) rfl rfl (by decide) (by decide) smT_yes (sm_ix (smI_of (sm_var rfl rfl)) (sm_op opS_mul sm_int (sm_var rfl rfl))) rfl)) (smL_cons (smF_E (smF_lc (li := lc) (l := lc) (st := false) (g := (.nm 8)) (vs := [8]) (smIt_I (smI_of (sm_var rfl rfl))) rfl rfl (by decide) (by decide) smT_yes (sm_ix (smI_of (sm_var rfl rfl)) (sm_op opS_add (sm_op opS_mul sm_int (sm_var rfl rfl)) sm_int)) rfl)) smL_nil))) rfl) rfl)) (smS_ret (sm_andV (sm_opA (opS_B opS_eqO) atS_B (sm_call (smA_cons (l := ltop) (sm_var rfl rfl) smA_nil) rfl) (sm_make E.own1 (smA_cons (l := ltop) (sm_sq1 sqS_len (smI_of (sm_var rfl rfl))) (smA_cons (l := ltop) (sm_own rfl rfl) smA_nil)) rfl)) (sm_opA opS_eqA atS_eqA (sm_prop (sm_callW (is := [0]) (smA_cons (l := ltop) (sm_var rfl rfl) smA_nil) rfl (by decide) rfl)) (sm_sq1 sqS_len (smI_of (sm_var rfl rfl)))))))))))))) rfl h⟩
abbrev N_law_new_right : List Str := ["_law_frame_here", "_law_points", "_law_bars", "_law_some", "_law_at"]
theorem sc_law_new_right : FnScope N_law_new_right ["_law_frame_here", "_law_points", "_law_bars"] (defScope s_law_new_right) := ⟨rfl, rfl, rfl, by decide +kernel, rfl, by decide +kernel, by decide +kernel⟩
theorem ok_law_new_right (E : Env W mg) : FnG P w W.K mg base CX0 14 E.law_new_right.f E.law_new_right.d ["_law_frame_here", "_law_points", "_law_bars"] (spT W T_law_new_right [true, true, true]) := by
  refine bodyG0 E.law_new_right.F sc_law_new_right (fun vs H Q E0 h => spT_len h) (fun cdv A outer s H vs Q E0 hg hr h => ?_)
  have nd := sc_law_new_right.nd
  exact ⟨_, (pss_cons (ps_set (i := 3) nd rfl (Or.inl rfl) (pe_lst (pa_cons (pe_meth0 (pv 0) E.own2.cl E.Frame_points.M (ok_Frame_points E) (hr.mono (by decide)) E.Frame_points.b .nil pass0) (pa_cons (pe_meth0 (pv 0) E.own2.cl E.Frame_bars.M (ok_Frame_bars E) (hr.mono (by decide)) E.Frame_bars.b .nil pass0) (pa_cons (pe_call (ok_bar_table E) (hr.mono (by decide)) rfl E.bar_table.m E.bar_table.F.kp E.bar_table.b .nil pass0 (pa_cons (pv 0) pa_nil)) pa_nil))))) (pss_cons (ps_if (pt_cmpR (opR_or2 (op_neD (eqUnits hr)) (op_neB (mon_BN 2) (eqB_BN (eqB_ins (ok_Ratio_eqB E) E.Ratio_eq.M.at_ E.Ratio_eq.M.fn E.Ratio_eq.b pass0) 2) (hr.mono (by decide)))) (pe_ix ix_seq (pv 3) pe_int (fun _ _ => rfl)) (pe_lst pa_nil) (nomark _)) (pss_one (ps_expr (pe_bm PySem.F.plainAttrs_list PySem.F.slot_list_append PySem.F.type_list_append mt_append (pe_ix ix_seq (pe_ix ix_seq (pv 3) pe_int (fun _ _ => rfl)) pe_int (fun _ _ => rfl)) (pa_cons pe_non pa_nil)))) pss_nil) (pss_cons (ps_for PassesOwn.never rfl (pi_range1 rfl E.z_range (pa_cons pe_int pa_nil)) (pg_name (i := 4) nd rfl (Or.inl rfl)) (pss_one (ps_expr (pe_bm PySem.F.plainAttrs_list PySem.F.slot_list_append PySem.F.type_list_append mt_append (pe_ix ix_seq (pv 3) (pv 4) (fun _ _ => rfl)) (pa_cons pe_non pa_nil))))) (pss_one (ps_ret (pe_callG hg (ok_law_told_right E) (hr.mono (by decide)) rfl E.law_told_right.m E.law_told_right.F.kp E.law_told_right.b pass0 (pa_cons (pv 0) (pa_cons (pv 1) (pa_cons (pv 2) pa_nil))))))))), spT_body (k := 2) (N := N_law_new_right) (ls1 := [lc, lc, lc, lc, lc]) (show SmS W RetE _ [lc, lc, lc, lc, lc] FB_law_new_right [lc, lc, lc, lc, lc] from (smS_told (smNw_of rfl (smF_E (smF_lst (smL_cons (sm_meth (m := ltop) (sm_var rfl rfl) smA_nil rfl (by rw [E.nm2]; decide)) (smL_cons (sm_meth (m := ltop) (sm_var rfl rfl) smA_nil rfl (by rw [E.nm2]; decide)) (smL_cons (smF_E (sm_callN (smA_cons (l := ltop) (sm_var rfl rfl) smA_nil) rfl)) smL_nil)))))) (by decide) (smZ_end8 (smT_test (sm_opA (.or2 opS_neD (opS_neS E.nm0)) (atS_or atS_eqD atS_neS) (sm_ix (smI_of (sm_var rfl rfl)) sm_int) (smF_E (smF_lst smL_nil)))) (by decide) rfl (smS_ret (sm_call (smA_cons (l := lr) (sm_var rfl rfl) (smA_cons (l := lr) (sm_var rfl rfl) (smA_cons (l := lr) (sm_var rfl rfl) smA_nil))) rfl))))) rfl h⟩
abbrev N_law_right : List Str := ["_law_pot_here", "_law_points", "_law_bars", "_law_frame_here", "_law_again", "_law_others", "_law_lines", "_law_value"]
theorem sc_law_right : FnScope N_law_right ["_law_pot_here"] (defScope s_law_right) := ⟨rfl, rfl, rfl, by decide +kernel, rfl, by decide +kernel, by decide +kernel⟩
theorem ok_law_right (E : Env W mg) : FnG P w W.K mg base CX0 15 E.law_right.f E.law_right.d ["_law_pot_here"] (spT W T_law_right [true]) := by
  refine bodyG0 E.law_right.F sc_law_right (fun vs H Q E0 h => spT_len h) (fun cdv A outer s H vs Q E0 hg hr h => ?_)
  have nd := sc_law_right.nd
  exact ⟨_, (pss_cons (ps_asg (pe_call (ok_law_frame E) (hr.mono (by decide)) rfl E.law_frame.m E.law_frame.F.kp E.law_frame.b .nil pass0 (pa_cons (pv 0) (pa_cons pe_int (pa_cons pe_int pa_nil)))) (pg_or (pg_tup rfl (pgs_cons (pg_name (i := 1) nd rfl (Or.inl rfl)) (pgs_cons (pg_name (i := 2) nd rfl (Or.inl rfl)) pgs_nil))) (pg_unl rfl (pgs_cons (pg_name (i := 1) nd rfl (Or.inl rfl)) (pgs_cons (pg_name (i := 2) nd rfl (Or.inl rfl)) pgs_nil))))) (pss_cons (ps_par (i := 3) (j := 4) rfl nd rfl rfl (by decide) rfl rfl (pa_cons (pe_call (ok_law_made E) (hr.mono (by decide)) rfl E.law_made.m E.law_made.F.kp E.law_made.b .nil pass0 (pa_cons (pv 0) (pa_cons (pv 1) (pa_cons (pv 2) pa_nil)))) (pa_cons (pe_call (ok_law_made E) (hr.mono (by decide)) rfl E.law_made.m E.law_made.F.kp E.law_made.b .nil pass0 (pa_cons (pv 0) (pa_cons (pv 1) (pa_cons (pv 2) pa_nil)))) pa_nil)) rfl) (pss_cons (ps_if (PW.pt (pw_or (pt_not (pt_val (pe_callG hg (ok_law_told_right E) (hr.mono (by decide)) rfl E.law_told_right.m E.law_told_right.F.kp E.law_told_right.b pass0 (pa_cons (pv 3) (pa_cons (pv 1) (pa_cons (pv 2) pa_nil)))))) (pw_or1 (pt_not (pt_val (pe_callG hg (ok_law_new_right E) (hr.mono (by decide)) rfl E.law_new_right.m E.law_new_right.F.kp E.law_new_right.b pass0 (pa_cons (pv 3) (pa_cons (pv 1) (pa_cons (pv 2) pa_nil))))))))) (pss_one (ps_ret pe_bl)) pss_nil) (pss_cons (ps_if (pt_cmpR op_ne (pe_callB (call_rep (m := 2) (n := 4) hg (hr.mono (by decide)) (rratOk _) (oshow_of E.Ratio_repr.M (ok_Ratio_repr E) E.Ratio_repr.b pass0 (fun _ _ _ ⟨dx, _, _, z, _⟩ => ⟨dx, _, z⟩))) (by rfl) E.z_repr (by rfl) (pa_cons (pe_lst (pa_cons (pe_cmpR (op_eqO E.Frame_eq.M (ok_Frame_eq E) (hr.mono (by decide)) E.Frame_eq.b pass0) (pv 3) (pv 4) (nomark _)) (pa_cons (pe_cmpR (op_neO E.own2.toOwn E.Frame_eq.M (ok_Frame_eq E) (hr.mono (by decide)) E.Frame_eq.b pass0) (pv 3) (pv 4) (nomark _)) pa_nil))) pa_nil)) (pe_callB (call_rep (m := 2) (n := 4) hg (hr.mono (by decide)) (rratOk _) (oshow_of E.Ratio_repr.M (ok_Ratio_repr E) E.Ratio_repr.b pass0 (fun _ _ _ ⟨dx, _, _, z, _⟩ => ⟨dx, _, z⟩))) (by rfl) E.z_repr (by rfl) (pa_cons (pe_lst (pa_cons pe_bl (pa_cons pe_bl pa_nil))) pa_nil)) (nomark _)) (pss_one (ps_ret pe_bl)) pss_nil) (pss_cons (ps_asg (pe_call (ok_law_frame E) (hr.mono (by decide)) rfl E.law_frame.m E.law_frame.F.kp E.law_frame.b .nil pass0 (pa_cons (pv 0) (pa_cons pe_int (pa_cons pe_int pa_nil)))) (pg_or (pg_tup rfl (pgs_cons (pg_name (i := 5) nd rfl (Or.inl rfl)) (pgs_cons (pg_name (i := 6) nd rfl (Or.inl rfl)) pgs_nil))) (pg_unl rfl (pgs_cons (pg_name (i := 5) nd rfl (Or.inl rfl)) (pgs_cons (pg_name (i := 6) nd rfl (Or.inl rfl)) pgs_nil))))) (pss_cons (ps_if (pt_cmpR op_ne (pe_cmpR (op_eqO E.Frame_eq.M (ok_Frame_eq E) (hr.mono (by decide)) E.Frame_eq.b pass0) (pv 3) (pe_call (ok_law_made E) (hr.mono (by decide)) rfl E.law_made.m E.law_made.F.kp E.law_made.b .nil pass0 (pa_cons (pv 0) (pa_cons (pv 5) (pa_cons (pv 6) pa_nil)))) (nomark _)) (pe_and (pe_cmpR (opR_or2 (op_eqD (eqUnits hr)) (op_eqB (mon_BN 2) (eqB_BN (eqB_ins (ok_Ratio_eqB E) E.Ratio_eq.M.at_ E.Ratio_eq.M.fn E.Ratio_eq.b pass0) 2) (hr.mono (by decide)))) (pv 1) (pv 5) (nomark _)) (pe_one (pe_cmpR (opR_or2 op_eq (opR_or2 (op_eqO E.Ratio_eq.M (ok_Ratio_eq E) (hr.mono (by decide)) E.Ratio_eq.b pass0) (opR_or2 (op_eqD (eqUnits hr)) (op_eqB (mon_BN 2) (eqB_BN (eqB_ins (ok_Ratio_eqB E) E.Ratio_eq.M.at_ E.Ratio_eq.M.fn E.Ratio_eq.b pass0) 2) (hr.mono (by decide)))))) (pv 2) (pv 6) (nomark _)))) (nomark _)) (pss_one (ps_ret pe_bl)) pss_nil) (pss_cons (ps_if (PW.pt (pw_and (pt_cmpR (op_neD (eqUnits hr)) (pv 2) (pe_lst pa_nil) (nomark _)) (pw_and1 (pt_cmpR (op_eqO E.Frame_eq.M (ok_Frame_eq E) (hr.mono (by decide)) E.Frame_eq.b pass0) (pv 3) (pe_call (ok_law_made E) (hr.mono (by decide)) rfl E.law_made.m E.law_made.F.kp E.law_made.b .nil pass0 (pa_cons (pv 0) (pa_cons (pv 1) (pa_cons (pe_slice sl_list (pv 2) (po_some pe_int) po_none) pa_nil)))) (nomark _))))) (pss_one (ps_ret pe_bl)) pss_nil) (pss_cons (ps_for PassesOwn.never rfl (pi_seq (pe_lst (pa_cons pe_non (pa_cons pe_int (pa_cons pe_bl (pa_cons pe_str (pa_cons (pe_lst pa_nil) (pa_cons (pe_tup (pa_cons (pv 1) (pa_cons (pv 2) pa_nil))) (pa_cons (pv 1) (pa_cons (pe_meth0 (pv 3) E.own2.cl E.Frame_points.M (ok_Frame_points E) (hr.mono (by decide)) E.Frame_points.b .nil pass0) pa_nil)))))))))) (pg_name (i := 7) nd rfl (Or.inl rfl)) (pss_one (ps_if (pt_cmpR op_ne (pe_callB (call_rep (m := 2) (n := 4) hg (hr.mono (by decide)) (rratOk _) (oshow_of E.Ratio_repr.M (ok_Ratio_repr E) E.Ratio_repr.b pass0 (fun _ _ _ ⟨dx, _, _, z, _⟩ => ⟨dx, _, z⟩))) (by rfl) E.z_repr (by rfl) (pa_cons (pe_lst (pa_cons (pe_cmpR (op_eqO E.Frame_eq.M (ok_Frame_eq E) (hr.mono (by decide)) E.Frame_eq.b pass0) (pv 3) (pv 7) (nomark _)) (pa_cons (pe_cmpR (op_neO E.own2.toOwn E.Frame_eq.M (ok_Frame_eq E) (hr.mono (by decide)) E.Frame_eq.b pass0) (pv 3) (pv 7) (nomark _)) pa_nil))) pa_nil)) (pe_callB (call_rep (m := 2) (n := 4) hg (hr.mono (by decide)) (rratOk _) (oshow_of E.Ratio_repr.M (ok_Ratio_repr E) E.Ratio_repr.b pass0 (fun _ _ _ ⟨dx, _, _, z, _⟩ => ⟨dx, _, z⟩))) (by rfl) E.z_repr (by rfl) (pa_cons (pe_lst (pa_cons pe_bl (pa_cons pe_bl pa_nil))) pa_nil)) (nomark _)) (pss_one (ps_ret pe_bl)) pss_nil))) (pss_one (ps_ret pe_bl)))))))))), spT_body (k := 7) (N := N_law_right) (ls1 := [lc, lc, lc, lc, lc, lc, lc, lc]) (show SmS W RetE _ [lc, lc, lc, lc, lc, lc, lc, lc] FB_law_right [lc, lc, lc, lc, lc, lc, lc, lc] from (smS_seq (smS_asgT (g := (.tu [1, 2])) (l := lc) (sm_call (smA_cons (l := lc) (sm_var rfl rfl) (smA_cons (l := lc) sm_int (smA_cons (l := lc) sm_int smA_nil))) rfl) (by decide)) (smS_seq (smS_parX (smX_val (l := lc) (sm_call (smA_cons (l := lc) (sm_var rfl rfl) (smA_cons (l := lc) (sm_var rfl rfl) (smA_cons (l := lc) (sm_var rfl rfl) smA_nil))) rfl) (smX_val (l := lc) (sm_call (smA_cons (l := lc) (sm_var rfl rfl) (smA_cons (l := lc) (sm_var rfl rfl) (smA_cons (l := lc) (sm_var rfl rfl) smA_nil))) rfl) smX_nil)) (by decide) (by decide)) (smS_seq (smS_if (ls1 := [lc, lc, lc, lc, lc, lc, lc, lc]) (smT_or (smT_not (smT_b (sm_call (smA_cons (l := ltop) (sm_var rfl rfl) (smA_cons (l := ltop) (sm_var rfl rfl) (smA_cons (l := ltop) (sm_var rfl rfl) smA_nil))) rfl))) (smT_not (smT_b (sm_call (smA_cons (l := ltop) (sm_var rfl rfl) (smA_cons (l := ltop) (sm_var rfl rfl) (smA_cons (l := ltop) (sm_var rfl rfl) smA_nil))) rfl)))) (smS_ret sm_bl) smS_next) (smS_seq (smS_if (ls1 := [lc, lc, lc, lc, lc, lc, lc, lc]) (smT_test (sm_opA opS_neA atS_eqA (sm_repr E.nm0 (smF_E (smF_lst (smL_cons (sm_opA (opS_B opS_eqO) atS_B (sm_var rfl rfl) (sm_var rfl rfl)) (smL_cons (sm_opA opS_neO atS_neO (sm_var rfl rfl) (sm_var rfl rfl)) smL_nil))))) (sm_repr E.nm0 (smF_E (smF_lst (smL_cons sm_bl (smL_cons sm_bl smL_nil))))))) (smS_ret sm_bl) smS_next) (smS_seq (smS_asgT (g := (.tu [5, 6])) (l := lc) (sm_call (smA_cons (l := lc) (sm_var rfl rfl) (smA_cons (l := lc) sm_int (smA_cons (l := lc) sm_int smA_nil))) rfl) (by decide)) (smS_seq (smS_if (ls1 := [lc, lc, lc, lc, lc, lc, lc, lc]) (smT_test (sm_opA opS_neA atS_eqA (sm_opA (opS_B opS_eqO) atS_B (sm_var rfl rfl) (sm_call (smA_cons (l := ltop) (sm_var rfl rfl) (smA_cons (l := ltop) (sm_var rfl rfl) (smA_cons (l := ltop) (sm_var rfl rfl) smA_nil))) rfl)) (sm_andV (sm_opA (.or2 opS_eqD (opS_eqS E.nm0)) (atS_or atS_eqD atS_eqS) (sm_var rfl rfl) (sm_var rfl rfl)) (sm_opA (.or2 opS_eqA (.or2 (opS_B opS_eqO) (.or2 opS_eqD (opS_eqS E.nm0)))) (atS_or atS_eqA (atS_or atS_B (atS_or atS_eqD atS_eqS))) (sm_var rfl rfl) (sm_var rfl rfl))))) (smS_ret sm_bl) smS_next) (smS_seq (smS_if (ls1 := [lc, lc, lc, lc, lc, lc, lc, lc]) (smT_and (smT_test (sm_opA opS_neD atS_eqD (sm_var rfl rfl) (smF_E (smF_lst smL_nil)))) (smT_test (sm_opA (opS_B opS_eqO) atS_B (sm_var rfl rfl) (sm_call (smA_cons (l := ltop) (sm_var rfl rfl) (smA_cons (l := ltop) (sm_var rfl rfl) (smA_cons (l := ltop) (smF_E (smF_sl (smI_of (sm_var rfl rfl)) (smO_some sm_int) smO_none)) smA_nil))) rfl)))) (smS_ret sm_bl) smS_next) (smS_seq (smS_for (li := lc) (g := (.nm 7)) (smIt_F (smF_lst (smL_cons sm_non (smL_cons sm_int (smL_cons sm_bl (smL_cons sm_str (smL_cons (smF_E (smF_lst smL_nil)) (smL_cons (sm_tup (smL_cons (sm_var rfl rfl) (smL_cons (sm_var rfl rfl) smL_nil))) (smL_cons (sm_var rfl rfl) (smL_cons (sm_meth (m := ltop) (sm_var rfl rfl) smA_nil rfl (by rw [E.nm2]; decide)) smL_nil)))))))))) rfl (by decide) (SmS.up (smS_if (ls1 := [lc, lc, lc, lc, lc, lc, lc, lc]) (smT_test (sm_opA opS_neA atS_eqA (sm_repr E.nm0 (smF_E (smF_lst (smL_cons (sm_opA (opS_B opS_eqO) atS_B (sm_var rfl rfl) (sm_var rfl rfl)) (smL_cons (sm_opA opS_neO atS_neO (sm_var rfl rfl) (sm_var rfl rfl)) smL_nil))))) (sm_repr E.nm0 (smF_E (smF_lst (smL_cons sm_bl (smL_cons sm_bl smL_nil))))))) (smS_ret sm_bl) smS_next) rfl)) (smS_ret sm_bl)))))))))) rfl h⟩
abbrev N_law_pot : List Str := ["_law_script", "_law_k", "_law_cell"]
theorem sc_law_pot : FnScope N_law_pot ["_law_script", "_law_k"] (defScope s_law_pot) := ⟨rfl, rfl, rfl, by decide +kernel, rfl, by decide +kernel, by decide +kernel⟩
theorem ok_law_pot (E : Env W mg) : FnOk P w W.K mg base CX0 1 E.law_pot.f E.law_pot.d ["_law_script", "_law_k"] (spPot W.K) := by
  refine E.law_pot.F.ok sc_law_pot (fun vs H Q E0 h => ?_) (fun cdv A outer s H vs Q E0 hr h => ?_)
  · obtain ⟨a, k, ns, rfl, _⟩ := h
    rfl
  · obtain ⟨a, k, ns, rfl, hS, k0, k1, q⟩ := h
    have nd := sc_law_pot.nd
    refine ⟨_, pss_cons (ps_set (i := 2) nd rfl (.inl rfl) (pe_op op_add (pe_op op_mul pe_int (pv 1)) pe_int)) (pss_cons (ps_if (pt_cmpR op_lt (pv 1) (pe_callB call_len_seq (by rfl) E.z_len PySem.boot_len (pa_cons (pv 0) pa_nil)) (nomark _)) (pss_one (ps_set (i := 2) nd rfl (.inl rfl) (pe_callB call_abs (by rfl) E.z_abs (by rfl) (pa_cons (pe_ix ix_list (pv 0) (pv 1) (fun _ _ => rfl)) pa_nil)))) pss_nil)
      (pss_one (ps_ret (pe_lst (pa_cons (pe_callB (call_max2 rfl) (by rfl) E.z_max (by rfl) (pa_cons pe_int (pa_cons (pe_op op_sub (pv 2) (pe_op op_pow pe_int pe_int)) pa_nil))) (pa_cons (pe_op op_add (pe_op op_mod (pe_callTy call_int1 (by rfl) E.z_int (by rfl) (pa_cons (pe_op op_add (pe_op op_add (pe_op op_mul (pe_op op_mod (pe_callTy call_int1 (by rfl) E.z_int (by rfl) (pa_cons (pv 2) pa_nil)) pe_int) pe_int) (pe_op op_mul pe_int (pv 1))) pe_int) pa_nil)) pe_int) pe_int) pa_nil)))))), ?_⟩
    refine q_asgD (D := fun v _ => ∃ i : Int, v = .int i) (Yd.imp (yd_ev (ev_op (ev_op ev_c (ev_var rfl) (rv_I (.inl ⟨by decide, by decide⟩))) ev_c rv_I0)) (fun v H1 _ d => ⟨_, d⟩)) (fun v0 H1 e1 d0 => ?_)
    refine q_when (b := decide (k < ((ns.map V.int).length : Int))) (et_test (ev_op (ev_var rfl) (ev_len (ev_var rfl) (ex_l e1 hS)) rv_I0)) (fun z H2 e2 => ?_) (fun z H2 e2 => ?_)
    · have z' := of_decide_eq_true z
      rw [List.length_map] at z'
      obtain ⟨j, rfl⟩ : ∃ j : Nat, k = j := ⟨k.toNat, by omega⟩
      have hj : j < ns.length := by omega
      refine s_asgD (D := fun v _ => ∃ i : Int, v = .int i) (Yd.imp (yd_ev (ev_cb (ea_cons (ev_op (ev_var rfl) (ev_var rfl) (rv_ixL (ex_l (e1.trans e2) hS) (atI_nat (v := .int ns[j]) (by rw [List.getElem?_map, List.getElem?_eq_getElem hj]; rfl)))) ea_nil) (z := .int (if ns[j] < 0 then -ns[j] else ns[j])) (fun H1 _ Q q => ⟨_, rfl, q H1 (Ex.refl H1)⟩))) (fun v H1 _ d => ⟨_, d⟩)) (fun v H3 e3 d => ?_)
      obtain ⟨c, rfl⟩ := d
      generalize hk : (j : Int) = k at *
      have b0 := Int.emod_nonneg (c % 2147483549 * 48271 + 5737 * k + 619) (show (2147483563 : Int) ≠ 0 by decide)
      have b1 := Int.emod_lt_of_pos (c % 2147483549 * 48271 + 5737 * k + 619) (show (0 : Int) < 2147483563 by decide)
      try dsimp only
      refine s_retL (el_lst (ea_cons (ev_cb (ea_cons ev_c (ea_cons (ev_op (ev_var rfl) (ev_op ev_c ev_c (rv_I ⟨by decide, by decide, by decide⟩)) rv_I0) ea_nil)) (fun H2 _ Q q => ⟨_, _, rfl, q H2 (Ex.refl H2)⟩))
        (ea_cons (ev_op (ev_op (ev_int1 (ev_op (ev_op (ev_op (ev_op (ev_int1 (ev_var rfl)) ev_c (rv_I (by decide))) ev_c (rv_I (.inr ⟨by decide, by decide⟩))) (ev_op ev_c (ev_var rfl) (rv_I (.inl ⟨by decide, by decide⟩))) rv_I0) ev_c rv_I0)) ev_c (rv_I (by decide))) ev_c rv_I0) ea_nil)) (by show 2 ≤ 100000; decide)) (fun p H9 hp e9 h9 => ?_)
      exact q p H9 (fresh_back ((e1.trans e2).trans e3) hp) (((e1.trans e2).trans e3).trans e9) ⟨_, _, h9, by omega, by omega⟩
    · obtain ⟨c, rfl⟩ := d0
      have b0 := Int.emod_nonneg (c % 2147483549 * 48271 + 5737 * k + 619) (show (2147483563 : Int) ≠ 0 by decide)
      have b1 := Int.emod_lt_of_pos (c % 2147483549 * 48271 + 5737 * k + 619) (show (0 : Int) < 2147483563 by decide)
      try dsimp only
      refine s_retL (el_lst (ea_cons (ev_cb (ea_cons ev_c (ea_cons (ev_op (ev_var rfl) (ev_op ev_c ev_c (rv_I ⟨by decide, by decide, by decide⟩)) rv_I0) ea_nil)) (fun H2 _ Q q => ⟨_, _, rfl, q H2 (Ex.refl H2)⟩))
        (ea_cons (ev_op (ev_op (ev_int1 (ev_op (ev_op (ev_op (ev_op (ev_int1 (ev_var rfl)) ev_c (rv_I (by decide))) ev_c (rv_I (.inr ⟨by decide, by decide⟩))) (ev_op ev_c (ev_var rfl) (rv_I (.inl ⟨by decide, by decide⟩))) rv_I0) ev_c rv_I0)) ev_c (rv_I (by decide))) ev_c rv_I0) ea_nil)) (by show 2 ≤ 100000; decide)) (fun p H9 hp e9 h9 => ?_)
      exact q p H9 (fresh_back (e1.trans e2) hp) ((e1.trans e2).trans e9) ⟨_, _, h9, by omega, by omega⟩
abbrev N_law : List Str := ["_law_script"]
theorem sc_law : FnScope N_law ["_law_script"] (defScope s_law) := ⟨rfl, rfl, rfl, by decide +kernel, rfl, by decide +kernel, by decide +kernel⟩
theorem ok_law (E : Env W mg) (hT : AllTrue T_law_right) : FnG P w W.K mg base CX0 16 E.law.f E.law.d ["_law_script"] (spLaw W.K) := by
  refine bodyG0 E.law.F sc_law (fun vs H Q E0 h => ?_) (fun cdv A outer s H vs Q E0 hg hr h => ?_)
  · obtain ⟨a, ns, rfl, _⟩ := h
    rfl
  · obtain ⟨a, ns, rfl, hS, hn, k⟩ := h
    have nd := sc_law.nd
    refine ⟨_, pss_one (ps_ret (pe_callG hg (ok_law_right E) (hr.mono (by decide)) rfl E.law_right.m E.law_right.F.kp E.law_right.b pass0 (pa_cons (pe_call (ok_law_pot E) (hr.mono (by decide)) rfl E.law_pot.m E.law_pot.F.kp E.law_pot.b .nil pass0 (pa_cons (pv 0) (pa_cons pe_int pa_nil))) pa_nil))), ?_⟩
    refine ⟨_, rfl, a, 0, ns, rfl, hS, by decide, by decide, fun l H1 hl e1 hp => ?_⟩
    exact sp_true (E := L2.E0) hT hp fun H' => k H'
end
end TL
namespace TL
open PySem PySem.Spec PyProof.Rows L2 Evl PF
theorem all_mk {l : PySem.W.OpenLaw} {w : World} {K : PySem.W.Frag} {h : Heap} {mg : Str → Option Value} {fa : Addr} (X : K.In h) (G : h.Ns mainGlobals mg) (hfa : mg "law" = some (.ref fa)) (hT : AllTrue T_law_right) (c : TLH.SaysH fcs fns K)
    : ∃ fd : FuncData, (∀ (s : Shared) (v : Value), BindsTo s fd ⟨[v], []⟩ [("_law_script", v)]) ∧ ∀ base : Heap, K.In base → base.Ns mainGlobals mg → FnG l.prog w K mg base CX0 16 fa fd ["_law_script"] (spLaw K) := by
  have e := hfa.symm.trans (PySem.W.mg_of X G (TLH.fGlob_ok (c.fact 0 0 (l := fc0) (f := TLH.fGlob "law"))))
  cases e
  let W : Wd := ⟨K, fun c => match c with | 0 => (He.ga K "Ratio") | 1 => (He.ga K "Pairs") | 2 => (He.ga K "Frame") | _ => (He.ga K "Ratio"), fun c => match c with | 0 => ["_top", "_bottom"] | 1 => ["_size", "_rows"] | 2 => ["_points", "_bars"] | _ => []⟩
  obtain ⟨d_Frame_bars, F0_Frame_bars⟩ := c.def_ 0 0 (l := fn0) (d := dd_Frame_bars) rfl rfl
  have F_Frame_bars : Fun K "bars" "Frame.bars" s_Frame_bars (He.ma K (He.ga K "Frame") "bars") d_Frame_bars := He5.fun_of F0_Frame_bars
  have b_Frame_bars := F_Frame_bars.binds (ps := ["self"]) fun _ _ _ _ _ _ us hl => match us, hl with | [_], _ => rfl
  obtain ⟨d_Frame_eq, F0_Frame_eq⟩ := c.def_ 0 1 (l := fn0) (d := dd_Frame_eq) rfl rfl
  have F_Frame_eq : Fun K "__eq__" "Frame.__eq__" s_Frame_eq (He.ma K (He.ga K "Frame") "__eq__") d_Frame_eq := He5.fun_of F0_Frame_eq
  have b_Frame_eq := F_Frame_eq.binds (ps := ["self", "other"]) fun _ _ _ _ _ _ us hl => match us, hl with | [_, _], _ => rfl
  obtain ⟨d_Frame_init, F0_Frame_init⟩ := c.def_ 0 2 (l := fn0) (d := dd_Frame_init) rfl rfl
  have F_Frame_init : Fun K "__init__" "Frame.__init__" s_Frame_init (He.ma K (He.ga K "Frame") "__init__") d_Frame_init := He5.fun_of F0_Frame_init
  have b_Frame_init := F_Frame_init.binds (ps := ["self", "points", "bars"]) fun _ _ _ _ _ _ us hl => match us, hl with | [_, _, _], _ => rfl
  obtain ⟨d_Frame_many, F0_Frame_many⟩ := c.def_ 0 3 (l := fn0) (d := dd_Frame_many) rfl rfl
  have F_Frame_many : Fun K "many" "Frame.many" s_Frame_many (TLH.pf K "Frame" "many") d_Frame_many := He5.fun_of F0_Frame_many
  have b_Frame_many := F_Frame_many.binds (ps := ["self"]) fun _ _ _ _ _ _ us hl => match us, hl with | [_], _ => rfl
  obtain ⟨d_Frame_points, F0_Frame_points⟩ := c.def_ 0 4 (l := fn0) (d := dd_Frame_points) rfl rfl
  have F_Frame_points : Fun K "points" "Frame.points" s_Frame_points (He.ma K (He.ga K "Frame") "points") d_Frame_points := He5.fun_of F0_Frame_points
  have b_Frame_points := F_Frame_points.binds (ps := ["self"]) fun _ _ _ _ _ _ us hl => match us, hl with | [_], _ => rfl
  obtain ⟨d_Frame_repr, F0_Frame_repr⟩ := c.def_ 0 5 (l := fn0) (d := dd_Frame_repr) rfl rfl
  have F_Frame_repr : Fun K "__repr__" "Frame.__repr__" s_Frame_repr (He.ma K (He.ga K "Frame") "__repr__") d_Frame_repr := He5.fun_of F0_Frame_repr
  have b_Frame_repr := F_Frame_repr.binds (ps := ["self"]) fun _ _ _ _ _ _ us hl => match us, hl with | [_], _ => rfl
  obtain ⟨d_Pairs_eq, F0_Pairs_eq⟩ := c.def_ 0 6 (l := fn0) (d := dd_Pairs_eq) rfl rfl
  have F_Pairs_eq : Fun K "__eq__" "Pairs.__eq__" s_Pairs_eq (He.ma K (He.ga K "Pairs") "__eq__") d_Pairs_eq := He5.fun_of F0_Pairs_eq
  have b_Pairs_eq := F_Pairs_eq.binds (ps := ["self", "other"]) fun _ _ _ _ _ _ us hl => match us, hl with | [_, _], _ => rfl
  obtain ⟨d_Pairs_init, F0_Pairs_init⟩ := c.def_ 0 7 (l := fn0) (d := dd_Pairs_init) rfl rfl
  have F_Pairs_init : Fun K "__init__" "Pairs.__init__" s_Pairs_init (He.ma K (He.ga K "Pairs") "__init__") d_Pairs_init := He5.fun_of F0_Pairs_init
  have b_Pairs_init := F_Pairs_init.binds (ps := ["self", "size", "rows"]) fun _ _ _ _ _ _ us hl => match us, hl with | [_, _, _], _ => rfl
  obtain ⟨d_Pairs_size, F0_Pairs_size⟩ := c.def_ 0 8 (l := fn0) (d := dd_Pairs_size) rfl rfl
  have F_Pairs_size : Fun K "size" "Pairs.size" s_Pairs_size (TLH.pf K "Pairs" "size") d_Pairs_size := He5.fun_of F0_Pairs_size
  have b_Pairs_size := F_Pairs_size.binds (ps := ["self"]) fun _ _ _ _ _ _ us hl => match us, hl with | [_], _ => rfl
  obtain ⟨d_Ratio_add, F0_Ratio_add⟩ := c.def_ 0 9 (l := fn0) (d := dd_Ratio_add) rfl rfl
  have F_Ratio_add : Fun K "__add__" "Ratio.__add__" s_Ratio_add (He.ma K (He.ga K "Ratio") "__add__") d_Ratio_add := He5.fun_of F0_Ratio_add
  have b_Ratio_add := F_Ratio_add.binds (ps := ["self", "other"]) fun _ _ _ _ _ _ us hl => match us, hl with | [_, _], _ => rfl
  obtain ⟨d_Ratio_bottom, F0_Ratio_bottom⟩ := c.def_ 0 10 (l := fn0) (d := dd_Ratio_bottom) rfl rfl
  have F_Ratio_bottom : Fun K "bottom" "Ratio.bottom" s_Ratio_bottom (TLH.pf K "Ratio" "bottom") d_Ratio_bottom := He5.fun_of F0_Ratio_bottom
  have b_Ratio_bottom := F_Ratio_bottom.binds (ps := ["self"]) fun _ _ _ _ _ _ us hl => match us, hl with | [_], _ => rfl
  obtain ⟨d_Ratio_eq, F0_Ratio_eq⟩ := c.def_ 0 11 (l := fn0) (d := dd_Ratio_eq) rfl rfl
  have F_Ratio_eq : Fun K "__eq__" "Ratio.__eq__" s_Ratio_eq (He.ma K (He.ga K "Ratio") "__eq__") d_Ratio_eq := He5.fun_of F0_Ratio_eq
  have b_Ratio_eq := F_Ratio_eq.binds (ps := ["self", "other"]) fun _ _ _ _ _ _ us hl => match us, hl with | [_, _], _ => rfl
  obtain ⟨d_Ratio_init, F0_Ratio_init⟩ := c.def_ 0 12 (l := fn0) (d := dd_Ratio_init) rfl rfl
  have F_Ratio_init : FunD K "__init__" "Ratio.__init__" (defArgs s_Ratio_init) (defBody s_Ratio_init) (defScope s_Ratio_init) [.int 1] [] (He.ma K (He.ga K "Ratio") "__init__") d_Ratio_init := F0_Ratio_init
  have b1_Ratio_init := F_Ratio_init.binds1 (ps := ["self", "top", "bottom"]) 2 0 (by simp) rfl fun _ _ _ _ _ _ _ us its h1 h2 => match us, its, h1, h2 with | [_, _], [_], _, _ => ⟨_, rfl, rfl⟩
  obtain ⟨d3_Ratio_init, v3_Ratio_init, b_Ratio_init⟩ := F_Ratio_init.binds1 (ps := ["self", "top", "bottom"]) 3 1 (by simp) rfl fun _ _ _ _ _ _ _ us its h1 h2 => match us, its, h1, h2 with | [_, _, _], [_], _, _ => ⟨_, rfl, rfl⟩
  have e3_Ratio_init : d3_Ratio_init = [] := by cases v3_Ratio_init; rfl
  subst e3_Ratio_init
  obtain ⟨d_Ratio_mul, F0_Ratio_mul⟩ := c.def_ 0 13 (l := fn0) (d := dd_Ratio_mul) rfl rfl
  have F_Ratio_mul : Fun K "__mul__" "Ratio.__mul__" s_Ratio_mul (He.ma K (He.ga K "Ratio") "__mul__") d_Ratio_mul := He5.fun_of F0_Ratio_mul
  have b_Ratio_mul := F_Ratio_mul.binds (ps := ["self", "other"]) fun _ _ _ _ _ _ us hl => match us, hl with | [_, _], _ => rfl
  obtain ⟨d_Ratio_neg, F0_Ratio_neg⟩ := c.def_ 0 14 (l := fn0) (d := dd_Ratio_neg) rfl rfl
  have F_Ratio_neg : Fun K "__neg__" "Ratio.__neg__" s_Ratio_neg (He.ma K (He.ga K "Ratio") "__neg__") d_Ratio_neg := He5.fun_of F0_Ratio_neg
  have b_Ratio_neg := F_Ratio_neg.binds (ps := ["self"]) fun _ _ _ _ _ _ us hl => match us, hl with | [_], _ => rfl
  obtain ⟨d_Ratio_radd, F0_Ratio_radd⟩ := c.def_ 0 15 (l := fn0) (d := dd_Ratio_radd) rfl rfl
  have F_Ratio_radd : Fun K "__radd__" "Ratio.__radd__" s_Ratio_radd (He.ma K (He.ga K "Ratio") "__radd__") d_Ratio_radd := He5.fun_of F0_Ratio_radd
  have b_Ratio_radd := F_Ratio_radd.binds (ps := ["self", "other"]) fun _ _ _ _ _ _ us hl => match us, hl with | [_, _], _ => rfl
  obtain ⟨d_Ratio_repr, F0_Ratio_repr⟩ := c.def_ 0 16 (l := fn0) (d := dd_Ratio_repr) rfl rfl
  have F_Ratio_repr : Fun K "__repr__" "Ratio.__repr__" s_Ratio_repr (He.ma K (He.ga K "Ratio") "__repr__") d_Ratio_repr := He5.fun_of F0_Ratio_repr
  have b_Ratio_repr := F_Ratio_repr.binds (ps := ["self"]) fun _ _ _ _ _ _ us hl => match us, hl with | [_], _ => rfl
  obtain ⟨d_Ratio_rmul, F0_Ratio_rmul⟩ := c.def_ 0 17 (l := fn0) (d := dd_Ratio_rmul) rfl rfl
  have F_Ratio_rmul : Fun K "__rmul__" "Ratio.__rmul__" s_Ratio_rmul (He.ma K (He.ga K "Ratio") "__rmul__") d_Ratio_rmul := He5.fun_of F0_Ratio_rmul
  have b_Ratio_rmul := F_Ratio_rmul.binds (ps := ["self", "other"]) fun _ _ _ _ _ _ us hl => match us, hl with | [_, _], _ => rfl
  obtain ⟨d_Ratio_rsub, F0_Ratio_rsub⟩ := c.def_ 0 18 (l := fn0) (d := dd_Ratio_rsub) rfl rfl
  have F_Ratio_rsub : Fun K "__rsub__" "Ratio.__rsub__" s_Ratio_rsub (He.ma K (He.ga K "Ratio") "__rsub__") d_Ratio_rsub := He5.fun_of F0_Ratio_rsub
  have b_Ratio_rsub := F_Ratio_rsub.binds (ps := ["self", "other"]) fun _ _ _ _ _ _ us hl => match us, hl with | [_, _], _ => rfl
  obtain ⟨d_Ratio_sub, F0_Ratio_sub⟩ := c.def_ 0 19 (l := fn0) (d := dd_Ratio_sub) rfl rfl
  have F_Ratio_sub : Fun K "__sub__" "Ratio.__sub__" s_Ratio_sub (He.ma K (He.ga K "Ratio") "__sub__") d_Ratio_sub := He5.fun_of F0_Ratio_sub
  have b_Ratio_sub := F_Ratio_sub.binds (ps := ["self", "other"]) fun _ _ _ _ _ _ us hl => match us, hl with | [_, _], _ => rfl
  obtain ⟨d_Ratio_top, F0_Ratio_top⟩ := c.def_ 0 20 (l := fn0) (d := dd_Ratio_top) rfl rfl
  have F_Ratio_top : Fun K "top" "Ratio.top" s_Ratio_top (TLH.pf K "Ratio" "top") d_Ratio_top := He5.fun_of F0_Ratio_top
  have b_Ratio_top := F_Ratio_top.binds (ps := ["self"]) fun _ _ _ _ _ _ us hl => match us, hl with | [_], _ => rfl
  obtain ⟨d_are_rows, F0_are_rows⟩ := c.def_ 0 21 (l := fn0) (d := dd_are_rows) rfl rfl
  have F_are_rows : Fun K "are_rows" "are_rows" s_are_rows (He.ga K "are_rows") d_are_rows := He5.fun_of F0_are_rows
  have b_are_rows := F_are_rows.binds (ps := ["size", "value", "most"]) fun _ _ _ _ _ _ us hl => match us, hl with | [_, _, _], _ => rfl
  obtain ⟨d_as_ratio, F0_as_ratio⟩ := c.def_ 0 22 (l := fn0) (d := dd_as_ratio) rfl rfl
  have F_as_ratio : Fun K "as_ratio" "as_ratio" s_as_ratio (He.ga K "as_ratio") d_as_ratio := He5.fun_of F0_as_ratio
  have b_as_ratio := F_as_ratio.binds (ps := ["number"]) fun _ _ _ _ _ _ us hl => match us, hl with | [_], _ => rfl
  obtain ⟨d_bar_row, F0_bar_row⟩ := c.def_ 0 23 (l := fn0) (d := dd_bar_row) rfl rfl
  have F_bar_row : Fun K "bar_row" "bar_row" s_bar_row (He.ga K "bar_row") d_bar_row := He5.fun_of F0_bar_row
  have b_bar_row := F_bar_row.binds (ps := ["points", "i", "j"]) fun _ _ _ _ _ _ us hl => match us, hl with | [_, _, _], _ => rfl
  obtain ⟨d_bar_table, F0_bar_table⟩ := c.def_ 0 24 (l := fn0) (d := dd_bar_table) rfl rfl
  have F_bar_table : Fun K "bar_table" "bar_table" s_bar_table (He.ga K "bar_table") d_bar_table := He5.fun_of F0_bar_table
  have b_bar_table := F_bar_table.binds (ps := ["frame"]) fun _ _ _ _ _ _ us hl => match us, hl with | [_], _ => rfl
  obtain ⟨d_check_frame, F0_check_frame⟩ := c.def_ 0 25 (l := fn0) (d := dd_check_frame) rfl rfl
  have F_check_frame : Fun K "check_frame" "check_frame" s_check_frame (He.ga K "check_frame") d_check_frame := He5.fun_of F0_check_frame
  have b_check_frame := F_check_frame.binds (ps := ["frame"]) fun _ _ _ _ _ _ us hl => match us, hl with | [_], _ => rfl
  obtain ⟨d_check_size, F0_check_size⟩ := c.def_ 0 26 (l := fn0) (d := dd_check_size) rfl rfl
  have F_check_size : Fun K "check_size" "check_size" s_check_size (He.ga K "check_size") d_check_size := He5.fun_of F0_check_size
  have b_check_size := F_check_size.binds (ps := ["size", "most"]) fun _ _ _ _ _ _ us hl => match us, hl with | [_, _], _ => rfl
  obtain ⟨d_column, F0_column⟩ := c.def_ 0 27 (l := fn0) (d := dd_column) rfl rfl
  have F_column : Fun K "column" "column" s_column (He.ga K "column") d_column := He5.fun_of F0_column
  have b_column := F_column.binds (ps := ["table", "place"]) fun _ _ _ _ _ _ us hl => match us, hl with | [_, _], _ => rfl
  obtain ⟨d_copied_pair, F0_copied_pair⟩ := c.def_ 0 28 (l := fn0) (d := dd_copied_pair) rfl rfl
  have F_copied_pair : Fun K "copied_pair" "copied_pair" s_copied_pair (He.ga K "copied_pair") d_copied_pair := He5.fun_of F0_copied_pair
  have b_copied_pair := F_copied_pair.binds (ps := ["pair"]) fun _ _ _ _ _ _ us hl => match us, hl with | [_], _ => rfl
  obtain ⟨d_frame_pairs, F0_frame_pairs⟩ := c.def_ 0 29 (l := fn0) (d := dd_frame_pairs) rfl rfl
  have F_frame_pairs : Fun K "frame_pairs" "frame_pairs" s_frame_pairs (He.ga K "frame_pairs") d_frame_pairs := He5.fun_of F0_frame_pairs
  have b_frame_pairs := F_frame_pairs.binds (ps := ["frame"]) fun _ _ _ _ _ _ us hl => match us, hl with | [_], _ => rfl
  obtain ⟨d_is_count, F0_is_count⟩ := c.def_ 0 30 (l := fn0) (d := dd_is_count) rfl rfl
  have F_is_count : Fun K "is_count" "is_count" s_is_count (He.ga K "is_count") d_is_count := He5.fun_of F0_is_count
  have b_is_count := F_is_count.binds (ps := ["value"]) fun _ _ _ _ _ _ us hl => match us, hl with | [_], _ => rfl
  obtain ⟨d_is_integer, F0_is_integer⟩ := c.def_ 0 31 (l := fn0) (d := dd_is_integer) rfl rfl
  have F_is_integer : Fun K "is_integer" "is_integer" s_is_integer (He.ga K "is_integer") d_is_integer := He5.fun_of F0_is_integer
  have b_is_integer := F_is_integer.binds (ps := ["value"]) fun _ _ _ _ _ _ us hl => match us, hl with | [_], _ => rfl
  obtain ⟨d_is_list, F0_is_list⟩ := c.def_ 0 32 (l := fn0) (d := dd_is_list) rfl rfl
  have F_is_list : Fun K "is_list" "is_list" s_is_list (He.ga K "is_list") d_is_list := He5.fun_of F0_is_list
  have b_is_list := F_is_list.binds (ps := ["value"]) fun _ _ _ _ _ _ us hl => match us, hl with | [_], _ => rfl
  obtain ⟨d_is_number, F0_is_number⟩ := c.def_ 0 33 (l := fn0) (d := dd_is_number) rfl rfl
  have F_is_number : Fun K "is_number" "is_number" s_is_number (He.ga K "is_number") d_is_number := He5.fun_of F0_is_number
  have b_is_number := F_is_number.binds (ps := ["value"]) fun _ _ _ _ _ _ us hl => match us, hl with | [_], _ => rfl
  obtain ⟨d_is_pair, F0_is_pair⟩ := c.def_ 0 34 (l := fn0) (d := dd_is_pair) rfl rfl
  have F_is_pair : Fun K "is_pair" "is_pair" s_is_pair (He.ga K "is_pair") d_is_pair := He5.fun_of F0_is_pair
  have b_is_pair := F_is_pair.binds (ps := ["size", "value"]) fun _ _ _ _ _ _ us hl => match us, hl with | [_, _], _ => rfl
  obtain ⟨d_is_point, F0_is_point⟩ := c.def_ 0 35 (l := fn0) (d := dd_is_point) rfl rfl
  have F_is_point : Fun K "is_point" "is_point" s_is_point (He.ga K "is_point") d_is_point := He5.fun_of F0_is_point
  have b_is_point := F_is_point.binds (ps := ["value"]) fun _ _ _ _ _ _ us hl => match us, hl with | [_], _ => rfl
  obtain ⟨d_is_position, F0_is_position⟩ := c.def_ 0 36 (l := fn0) (d := dd_is_position) rfl rfl
  have F_is_position : Fun K "is_position" "is_position" s_is_position (He.ga K "is_position") d_is_position := He5.fun_of F0_is_position
  have b_is_position := F_is_position.binds (ps := ["many", "value"]) fun _ _ _ _ _ _ us hl => match us, hl with | [_, _], _ => rfl
  obtain ⟨d_is_positions, F0_is_positions⟩ := c.def_ 0 37 (l := fn0) (d := dd_is_positions) rfl rfl
  have F_is_positions : Fun K "is_positions" "is_positions" s_is_positions (He.ga K "is_positions") d_is_positions := He5.fun_of F0_is_positions
  have b_is_positions := F_is_positions.binds (ps := ["many", "value"]) fun _ _ _ _ _ _ us hl => match us, hl with | [_, _], _ => rfl
  obtain ⟨d_is_rising, F0_is_rising⟩ := c.def_ 0 38 (l := fn0) (d := dd_is_rising) rfl rfl
  have F_is_rising : Fun K "is_rising" "is_rising" s_is_rising (He.ga K "is_rising") d_is_rising := He5.fun_of F0_is_rising
  have b_is_rising := F_is_rising.binds (ps := ["many", "value"]) fun _ _ _ _ _ _ us hl => match us, hl with | [_, _], _ => rfl
  obtain ⟨d_is_rising_tuple, F0_is_rising_tuple⟩ := c.def_ 0 39 (l := fn0) (d := dd_is_rising_tuple) rfl rfl
  have F_is_rising_tuple : Fun K "is_rising_tuple" "is_rising_tuple" s_is_rising_tuple (He.ga K "is_rising_tuple") d_is_rising_tuple := He5.fun_of F0_is_rising_tuple
  have b_is_rising_tuple := F_is_rising_tuple.binds (ps := ["many", "length", "value"]) fun _ _ _ _ _ _ us hl => match us, hl with | [_, _, _], _ => rfl
  obtain ⟨d_is_row, F0_is_row⟩ := c.def_ 0 40 (l := fn0) (d := dd_is_row) rfl rfl
  have F_is_row : Fun K "is_row" "is_row" s_is_row (He.ga K "is_row") d_is_row := He5.fun_of F0_is_row
  have b_is_row := F_is_row.binds (ps := ["size", "value"]) fun _ _ _ _ _ _ us hl => match us, hl with | [_, _], _ => rfl
  obtain ⟨d_law, F0_law⟩ := c.def_ 0 41 (l := fn0) (d := dd_law) rfl rfl
  have F_law : Fun K "law" "law" s_law (He.ga K "law") d_law := He5.fun_of F0_law
  have b_law := F_law.binds (ps := ["_law_script"]) fun _ _ _ _ _ _ us hl => match us, hl with | [_], _ => rfl
  obtain ⟨d_law_draw, F0_law_draw⟩ := c.def_ 0 42 (l := fn0) (d := dd_law_draw) rfl rfl
  have F_law_draw : Fun K "_law_draw" "_law_draw" s_law_draw (He.ga K "_law_draw") d_law_draw := He5.fun_of F0_law_draw
  have b_law_draw := F_law_draw.binds (ps := ["_law_pot_here", "_law_many"]) fun _ _ _ _ _ _ us hl => match us, hl with | [_, _], _ => rfl
  obtain ⟨d_law_frame, F0_law_frame⟩ := c.def_ 0 43 (l := fn0) (d := dd_law_frame) rfl rfl
  have F_law_frame : Fun K "_law_frame" "_law_frame" s_law_frame (He.ga K "_law_frame") d_law_frame := He5.fun_of F0_law_frame
  have b_law_frame := F_law_frame.binds (ps := ["_law_pot_here", "_law_most", "_law_bars"]) fun _ _ _ _ _ _ us hl => match us, hl with | [_, _, _], _ => rfl
  obtain ⟨d_law_halves, F0_law_halves⟩ := c.def_ 0 44 (l := fn0) (d := dd_law_halves) rfl rfl
  have F_law_halves : Fun K "_law_halves" "_law_halves" s_law_halves (He.ga K "_law_halves") d_law_halves := He5.fun_of F0_law_halves
  have b_law_halves := F_law_halves.binds (ps := ["_law_number"]) fun _ _ _ _ _ _ us hl => match us, hl with | [_], _ => rfl
  obtain ⟨d_law_made, F0_law_made⟩ := c.def_ 0 45 (l := fn0) (d := dd_law_made) rfl rfl
  have F_law_made : Fun K "_law_made" "_law_made" s_law_made (He.ga K "_law_made") d_law_made := He5.fun_of F0_law_made
  have b_law_made := F_law_made.binds (ps := ["_law_pot_here", "_law_points", "_law_bars"]) fun _ _ _ _ _ _ us hl => match us, hl with | [_, _, _], _ => rfl
  obtain ⟨d_law_new_right, F0_law_new_right⟩ := c.def_ 0 46 (l := fn0) (d := dd_law_new_right) rfl rfl
  have F_law_new_right : Fun K "_law_new_right" "_law_new_right" s_law_new_right (He.ga K "_law_new_right") d_law_new_right := He5.fun_of F0_law_new_right
  have b_law_new_right := F_law_new_right.binds (ps := ["_law_frame_here", "_law_points", "_law_bars"]) fun _ _ _ _ _ _ us hl => match us, hl with | [_, _, _], _ => rfl
  obtain ⟨d_law_pick, F0_law_pick⟩ := c.def_ 0 47 (l := fn0) (d := dd_law_pick) rfl rfl
  have F_law_pick : Fun K "_law_pick" "_law_pick" s_law_pick (He.ga K "_law_pick") d_law_pick := He5.fun_of F0_law_pick
  have b_law_pick := F_law_pick.binds (ps := ["_law_pot_here", "_law_some"]) fun _ _ _ _ _ _ us hl => match us, hl with | [_, _], _ => rfl
  obtain ⟨d_law_pot, F0_law_pot⟩ := c.def_ 1 0 (l := fn1) (d := dd_law_pot) rfl rfl
  have F_law_pot : Fun K "_law_pot" "_law_pot" s_law_pot (He.ga K "_law_pot") d_law_pot := He5.fun_of F0_law_pot
  have b_law_pot := F_law_pot.binds (ps := ["_law_script", "_law_k"]) fun _ _ _ _ _ _ us hl => match us, hl with | [_, _], _ => rfl
  obtain ⟨d_law_right, F0_law_right⟩ := c.def_ 1 1 (l := fn1) (d := dd_law_right) rfl rfl
  have F_law_right : Fun K "_law_right" "_law_right" s_law_right (He.ga K "_law_right") d_law_right := He5.fun_of F0_law_right
  have b_law_right := F_law_right.binds (ps := ["_law_pot_here"]) fun _ _ _ _ _ _ us hl => match us, hl with | [_], _ => rfl
  obtain ⟨d_law_table, F0_law_table⟩ := c.def_ 1 2 (l := fn1) (d := dd_law_table) rfl rfl
  have F_law_table : Fun K "_law_table" "_law_table" s_law_table (He.ga K "_law_table") d_law_table := He5.fun_of F0_law_table
  have b_law_table := F_law_table.binds (ps := ["_law_points", "_law_bars"]) fun _ _ _ _ _ _ us hl => match us, hl with | [_, _], _ => rfl
  obtain ⟨d_law_told_right, F0_law_told_right⟩ := c.def_ 1 3 (l := fn1) (d := dd_law_told_right) rfl rfl
  have F_law_told_right : Fun K "_law_told_right" "_law_told_right" s_law_told_right (He.ga K "_law_told_right") d_law_told_right := He5.fun_of F0_law_told_right
  have b_law_told_right := F_law_told_right.binds (ps := ["_law_frame_here", "_law_points", "_law_bars"]) fun _ _ _ _ _ _ us hl => match us, hl with | [_, _, _], _ => rfl
  obtain ⟨d_ratio_row, F0_ratio_row⟩ := c.def_ 1 4 (l := fn1) (d := dd_ratio_row) rfl rfl
  have F_ratio_row : Fun K "ratio_row" "ratio_row" s_ratio_row (He.ga K "ratio_row") d_ratio_row := He5.fun_of F0_ratio_row
  have b_ratio_row := F_ratio_row.binds (ps := ["row"]) fun _ _ _ _ _ _ us hl => match us, hl with | [_], _ => rfl
  have cl0 := TLH.fCls_ok (c.fact 0 1 (l := fc0) (f := TLH.fCls "Ratio"))
  have cl1 := TLH.fCls_ok (c.fact 0 2 (l := fc0) (f := TLH.fCls "Pairs"))
  have cl2 := TLH.fCls_ok (c.fact 0 3 (l := fc0) (f := TLH.fCls "Frame"))
  let E : Env W mg := { own0 := cl0.own, clok0 := ⟨cl0.own.ty1, cls_some cl0.hd⟩, nm0 := rfl, m_Ratio := PySem.W.mg_of X G (TLH.fGlob_ok (c.fact 0 4 (l := fc0) (f := TLH.fGlob "Ratio"))), na_Ratio_top := TLH.fNoAt_ok (c.fact 0 5 (l := fc0) (f := TLH.fNoAt "Ratio" "_top")), na_Ratio_bottom := TLH.fNoAt_ok (c.fact 0 6 (l := fc0) (f := TLH.fNoAt "Ratio" "_bottom")), own1 := cl1.own, clok1 := ⟨cl1.own.ty1, cls_some cl1.hd⟩, nm1 := rfl, m_Pairs := PySem.W.mg_of X G (TLH.fGlob_ok (c.fact 0 7 (l := fc0) (f := TLH.fGlob "Pairs"))), na_Pairs_size := TLH.fNoAt_ok (c.fact 0 8 (l := fc0) (f := TLH.fNoAt "Pairs" "_size")), na_Pairs_rows := TLH.fNoAt_ok (c.fact 0 9 (l := fc0) (f := TLH.fNoAt "Pairs" "_rows")), own2 := cl2.own, clok2 := ⟨cl2.own.ty1, cls_some cl2.hd⟩, nm2 := rfl, m_Frame := PySem.W.mg_of X G (TLH.fGlob_ok (c.fact 0 10 (l := fc0) (f := TLH.fGlob "Frame"))), na_Frame_points := TLH.fNoAt_ok (c.fact 0 11 (l := fc0) (f := TLH.fNoAt "Frame" "_points")), na_Frame_bars := TLH.fNoAt_ok (c.fact 0 12 (l := fc0) (f := TLH.fNoAt "Frame" "_bars")), c_MOST_PAIRS := (let ⟨t, e⟩ := TLH.fInt_ok (c.fact 0 13 (l := fc0) (f := TLH.fInt "MOST_PAIRS" 8)); ⟨t, PySem.W.mg_of X G e⟩), c_MOST_POINTS := (let ⟨t, e⟩ := TLH.fInt_ok (c.fact 0 14 (l := fc0) (f := TLH.fInt "MOST_POINTS" 5)); ⟨t, PySem.W.mg_of X G e⟩), c_MOST_BARS := (let ⟨t, e⟩ := TLH.fInt_ok (c.fact 0 15 (l := fc0) (f := TLH.fInt "MOST_BARS" 8)); ⟨t, PySem.W.mg_of X G e⟩), is_integer := ⟨_, _, F_is_integer, PySem.W.mg_of X G (TLH.fGlob_ok (c.fact 0 16 (l := fc0) (f := TLH.fGlob "is_integer"))), b_is_integer⟩, is_count := ⟨_, _, F_is_count, PySem.W.mg_of X G (TLH.fGlob_ok (c.fact 0 17 (l := fc0) (f := TLH.fGlob "is_count"))), b_is_count⟩, Ratio_init := ⟨_, _, F_Ratio_init, ⟨cl0.mks, (TLH.fMeth_ok (c.fact 0 18 (l := fc0) (f := TLH.fMeth "Ratio" "__init__"))).1, (TLH.fMeth_ok (c.fact 0 18 (l := fc0) (f := TLH.fMeth "Ratio" "__init__"))).2, cl0.kc⟩, b_Ratio_init, b1_Ratio_init⟩, Ratio_top := ⟨_, _, _, F_Ratio_top, ⟨(TLH.fProp_ok (c.fact 0 19 (l := fc0) (f := TLH.fProp "Ratio" "top"))).1, (TLH.fProp_ok (c.fact 0 19 (l := fc0) (f := TLH.fProp "Ratio" "top"))).2.1, (TLH.fProp_ok (c.fact 0 19 (l := fc0) (f := TLH.fProp "Ratio" "top"))).2.2.1, (TLH.fProp_ok (c.fact 0 19 (l := fc0) (f := TLH.fProp "Ratio" "top"))).2.2.2⟩, b_Ratio_top⟩, Ratio_bottom := ⟨_, _, _, F_Ratio_bottom, ⟨(TLH.fProp_ok (c.fact 0 20 (l := fc0) (f := TLH.fProp "Ratio" "bottom"))).1, (TLH.fProp_ok (c.fact 0 20 (l := fc0) (f := TLH.fProp "Ratio" "bottom"))).2.1, (TLH.fProp_ok (c.fact 0 20 (l := fc0) (f := TLH.fProp "Ratio" "bottom"))).2.2.1, (TLH.fProp_ok (c.fact 0 20 (l := fc0) (f := TLH.fProp "Ratio" "bottom"))).2.2.2⟩, b_Ratio_bottom⟩, Ratio_add := ⟨_, _, F_Ratio_add, ⟨(TLH.fMeth_ok (c.fact 0 21 (l := fc0) (f := TLH.fMeth "Ratio" "__add__"))).1, (TLH.fMeth_ok (c.fact 0 21 (l := fc0) (f := TLH.fMeth "Ratio" "__add__"))).2, F_Ratio_add.kp⟩, b_Ratio_add⟩, Ratio_radd := ⟨_, _, F_Ratio_radd, ⟨(TLH.fMeth_ok (c.fact 0 22 (l := fc0) (f := TLH.fMeth "Ratio" "__radd__"))).1, (TLH.fMeth_ok (c.fact 0 22 (l := fc0) (f := TLH.fMeth "Ratio" "__radd__"))).2, F_Ratio_radd.kp⟩, b_Ratio_radd⟩, Ratio_sub := ⟨_, _, F_Ratio_sub, ⟨(TLH.fMeth_ok (c.fact 0 23 (l := fc0) (f := TLH.fMeth "Ratio" "__sub__"))).1, (TLH.fMeth_ok (c.fact 0 23 (l := fc0) (f := TLH.fMeth "Ratio" "__sub__"))).2, F_Ratio_sub.kp⟩, b_Ratio_sub⟩, Ratio_rsub := ⟨_, _, F_Ratio_rsub, ⟨(TLH.fMeth_ok (c.fact 0 24 (l := fc0) (f := TLH.fMeth "Ratio" "__rsub__"))).1, (TLH.fMeth_ok (c.fact 0 24 (l := fc0) (f := TLH.fMeth "Ratio" "__rsub__"))).2, F_Ratio_rsub.kp⟩, b_Ratio_rsub⟩, Ratio_mul := ⟨_, _, F_Ratio_mul, ⟨(TLH.fMeth_ok (c.fact 1 0 (l := fc1) (f := TLH.fMeth "Ratio" "__mul__"))).1, (TLH.fMeth_ok (c.fact 1 0 (l := fc1) (f := TLH.fMeth "Ratio" "__mul__"))).2, F_Ratio_mul.kp⟩, b_Ratio_mul⟩, Ratio_rmul := ⟨_, _, F_Ratio_rmul, ⟨(TLH.fMeth_ok (c.fact 1 1 (l := fc1) (f := TLH.fMeth "Ratio" "__rmul__"))).1, (TLH.fMeth_ok (c.fact 1 1 (l := fc1) (f := TLH.fMeth "Ratio" "__rmul__"))).2, F_Ratio_rmul.kp⟩, b_Ratio_rmul⟩, Ratio_neg := ⟨_, _, F_Ratio_neg, ⟨(TLH.fMeth_ok (c.fact 1 2 (l := fc1) (f := TLH.fMeth "Ratio" "__neg__"))).1, (TLH.fMeth_ok (c.fact 1 2 (l := fc1) (f := TLH.fMeth "Ratio" "__neg__"))).2, F_Ratio_neg.kp⟩, b_Ratio_neg⟩, Ratio_eq := ⟨_, _, F_Ratio_eq, ⟨(TLH.fMeth_ok (c.fact 1 3 (l := fc1) (f := TLH.fMeth "Ratio" "__eq__"))).1, (TLH.fMeth_ok (c.fact 1 3 (l := fc1) (f := TLH.fMeth "Ratio" "__eq__"))).2, F_Ratio_eq.kp⟩, b_Ratio_eq⟩, Ratio_repr := ⟨_, _, F_Ratio_repr, ⟨(TLH.fMeth_ok (c.fact 1 4 (l := fc1) (f := TLH.fMeth "Ratio" "__repr__"))).1, (TLH.fMeth_ok (c.fact 1 4 (l := fc1) (f := TLH.fMeth "Ratio" "__repr__"))).2, F_Ratio_repr.kp⟩, b_Ratio_repr⟩, is_number := ⟨_, _, F_is_number, PySem.W.mg_of X G (TLH.fGlob_ok (c.fact 1 5 (l := fc1) (f := TLH.fGlob "is_number"))), b_is_number⟩, as_ratio := ⟨_, _, F_as_ratio, PySem.W.mg_of X G (TLH.fGlob_ok (c.fact 1 6 (l := fc1) (f := TLH.fGlob "as_ratio"))), b_as_ratio⟩, ratio_row := ⟨_, _, F_ratio_row, PySem.W.mg_of X G (TLH.fGlob_ok (c.fact 1 7 (l := fc1) (f := TLH.fGlob "ratio_row"))), b_ratio_row⟩, is_list := ⟨_, _, F_is_list, PySem.W.mg_of X G (TLH.fGlob_ok (c.fact 1 8 (l := fc1) (f := TLH.fGlob "is_list"))), b_is_list⟩, is_row := ⟨_, _, F_is_row, PySem.W.mg_of X G (TLH.fGlob_ok (c.fact 1 9 (l := fc1) (f := TLH.fGlob "is_row"))), b_is_row⟩, are_rows := ⟨_, _, F_are_rows, PySem.W.mg_of X G (TLH.fGlob_ok (c.fact 1 10 (l := fc1) (f := TLH.fGlob "are_rows"))), b_are_rows⟩, is_position := ⟨_, _, F_is_position, PySem.W.mg_of X G (TLH.fGlob_ok (c.fact 1 11 (l := fc1) (f := TLH.fGlob "is_position"))), b_is_position⟩, is_positions := ⟨_, _, F_is_positions, PySem.W.mg_of X G (TLH.fGlob_ok (c.fact 1 12 (l := fc1) (f := TLH.fGlob "is_positions"))), b_is_positions⟩, is_rising := ⟨_, _, F_is_rising, PySem.W.mg_of X G (TLH.fGlob_ok (c.fact 1 13 (l := fc1) (f := TLH.fGlob "is_rising"))), b_is_rising⟩, is_rising_tuple := ⟨_, _, F_is_rising_tuple, PySem.W.mg_of X G (TLH.fGlob_ok (c.fact 1 14 (l := fc1) (f := TLH.fGlob "is_rising_tuple"))), b_is_rising_tuple⟩, check_size := ⟨_, _, F_check_size, PySem.W.mg_of X G (TLH.fGlob_ok (c.fact 1 15 (l := fc1) (f := TLH.fGlob "check_size"))), b_check_size⟩, Pairs_init := ⟨_, _, F_Pairs_init, ⟨cl1.mks, (TLH.fMeth_ok (c.fact 1 16 (l := fc1) (f := TLH.fMeth "Pairs" "__init__"))).1, (TLH.fMeth_ok (c.fact 1 16 (l := fc1) (f := TLH.fMeth "Pairs" "__init__"))).2, cl1.kc⟩, b_Pairs_init⟩, Pairs_size := ⟨_, _, _, F_Pairs_size, ⟨(TLH.fProp_ok (c.fact 1 17 (l := fc1) (f := TLH.fProp "Pairs" "size"))).1, (TLH.fProp_ok (c.fact 1 17 (l := fc1) (f := TLH.fProp "Pairs" "size"))).2.1, (TLH.fProp_ok (c.fact 1 17 (l := fc1) (f := TLH.fProp "Pairs" "size"))).2.2.1, (TLH.fProp_ok (c.fact 1 17 (l := fc1) (f := TLH.fProp "Pairs" "size"))).2.2.2⟩, b_Pairs_size⟩, Pairs_eq := ⟨_, _, F_Pairs_eq, ⟨(TLH.fMeth_ok (c.fact 1 18 (l := fc1) (f := TLH.fMeth "Pairs" "__eq__"))).1, (TLH.fMeth_ok (c.fact 1 18 (l := fc1) (f := TLH.fMeth "Pairs" "__eq__"))).2, F_Pairs_eq.kp⟩, b_Pairs_eq⟩, is_pair := ⟨_, _, F_is_pair, PySem.W.mg_of X G (TLH.fGlob_ok (c.fact 1 19 (l := fc1) (f := TLH.fGlob "is_pair"))), b_is_pair⟩, copied_pair := ⟨_, _, F_copied_pair, PySem.W.mg_of X G (TLH.fGlob_ok (c.fact 1 20 (l := fc1) (f := TLH.fGlob "copied_pair"))), b_copied_pair⟩, Frame_init := ⟨_, _, F_Frame_init, ⟨cl2.mks, (TLH.fMeth_ok (c.fact 1 21 (l := fc1) (f := TLH.fMeth "Frame" "__init__"))).1, (TLH.fMeth_ok (c.fact 1 21 (l := fc1) (f := TLH.fMeth "Frame" "__init__"))).2, cl2.kc⟩, b_Frame_init⟩, Frame_many := ⟨_, _, _, F_Frame_many, ⟨(TLH.fProp_ok (c.fact 1 22 (l := fc1) (f := TLH.fProp "Frame" "many"))).1, (TLH.fProp_ok (c.fact 1 22 (l := fc1) (f := TLH.fProp "Frame" "many"))).2.1, (TLH.fProp_ok (c.fact 1 22 (l := fc1) (f := TLH.fProp "Frame" "many"))).2.2.1, (TLH.fProp_ok (c.fact 1 22 (l := fc1) (f := TLH.fProp "Frame" "many"))).2.2.2⟩, b_Frame_many⟩, Frame_points := ⟨_, _, F_Frame_points, ⟨(TLH.fMeth_ok (c.fact 1 23 (l := fc1) (f := TLH.fMeth "Frame" "points"))).1, (TLH.fMeth_ok (c.fact 1 23 (l := fc1) (f := TLH.fMeth "Frame" "points"))).2, F_Frame_points.kp⟩, b_Frame_points⟩, Frame_bars := ⟨_, _, F_Frame_bars, ⟨(TLH.fMeth_ok (c.fact 1 24 (l := fc1) (f := TLH.fMeth "Frame" "bars"))).1, (TLH.fMeth_ok (c.fact 1 24 (l := fc1) (f := TLH.fMeth "Frame" "bars"))).2, F_Frame_bars.kp⟩, b_Frame_bars⟩, Frame_eq := ⟨_, _, F_Frame_eq, ⟨(TLH.fMeth_ok (c.fact 2 0 (l := fc2) (f := TLH.fMeth "Frame" "__eq__"))).1, (TLH.fMeth_ok (c.fact 2 0 (l := fc2) (f := TLH.fMeth "Frame" "__eq__"))).2, F_Frame_eq.kp⟩, b_Frame_eq⟩, Frame_repr := ⟨_, _, F_Frame_repr, ⟨(TLH.fMeth_ok (c.fact 2 1 (l := fc2) (f := TLH.fMeth "Frame" "__repr__"))).1, (TLH.fMeth_ok (c.fact 2 1 (l := fc2) (f := TLH.fMeth "Frame" "__repr__"))).2, F_Frame_repr.kp⟩, b_Frame_repr⟩, bar_table := ⟨_, _, F_bar_table, PySem.W.mg_of X G (TLH.fGlob_ok (c.fact 2 2 (l := fc2) (f := TLH.fGlob "bar_table"))), b_bar_table⟩, frame_pairs := ⟨_, _, F_frame_pairs, PySem.W.mg_of X G (TLH.fGlob_ok (c.fact 2 3 (l := fc2) (f := TLH.fGlob "frame_pairs"))), b_frame_pairs⟩, check_frame := ⟨_, _, F_check_frame, PySem.W.mg_of X G (TLH.fGlob_ok (c.fact 2 4 (l := fc2) (f := TLH.fGlob "check_frame"))), b_check_frame⟩, is_point := ⟨_, _, F_is_point, PySem.W.mg_of X G (TLH.fGlob_ok (c.fact 2 5 (l := fc2) (f := TLH.fGlob "is_point"))), b_is_point⟩, bar_row := ⟨_, _, F_bar_row, PySem.W.mg_of X G (TLH.fGlob_ok (c.fact 2 6 (l := fc2) (f := TLH.fGlob "bar_row"))), b_bar_row⟩, column := ⟨_, _, F_column, PySem.W.mg_of X G (TLH.fGlob_ok (c.fact 2 7 (l := fc2) (f := TLH.fGlob "column"))), b_column⟩, law_pot := ⟨_, _, F_law_pot, PySem.W.mg_of X G (TLH.fGlob_ok (c.fact 2 8 (l := fc2) (f := TLH.fGlob "_law_pot"))), b_law_pot⟩, law_draw := ⟨_, _, F_law_draw, PySem.W.mg_of X G (TLH.fGlob_ok (c.fact 2 9 (l := fc2) (f := TLH.fGlob "_law_draw"))), b_law_draw⟩, law_pick := ⟨_, _, F_law_pick, PySem.W.mg_of X G (TLH.fGlob_ok (c.fact 2 10 (l := fc2) (f := TLH.fGlob "_law_pick"))), b_law_pick⟩, law_frame := ⟨_, _, F_law_frame, PySem.W.mg_of X G (TLH.fGlob_ok (c.fact 2 11 (l := fc2) (f := TLH.fGlob "_law_frame"))), b_law_frame⟩, law_made := ⟨_, _, F_law_made, PySem.W.mg_of X G (TLH.fGlob_ok (c.fact 2 12 (l := fc2) (f := TLH.fGlob "_law_made"))), b_law_made⟩, law_table := ⟨_, _, F_law_table, PySem.W.mg_of X G (TLH.fGlob_ok (c.fact 2 13 (l := fc2) (f := TLH.fGlob "_law_table"))), b_law_table⟩, law_halves := ⟨_, _, F_law_halves, PySem.W.mg_of X G (TLH.fGlob_ok (c.fact 2 14 (l := fc2) (f := TLH.fGlob "_law_halves"))), b_law_halves⟩, law_told_right := ⟨_, _, F_law_told_right, PySem.W.mg_of X G (TLH.fGlob_ok (c.fact 2 15 (l := fc2) (f := TLH.fGlob "_law_told_right"))), b_law_told_right⟩, law_new_right := ⟨_, _, F_law_new_right, PySem.W.mg_of X G (TLH.fGlob_ok (c.fact 2 16 (l := fc2) (f := TLH.fGlob "_law_new_right"))), b_law_new_right⟩, law_right := ⟨_, _, F_law_right, PySem.W.mg_of X G (TLH.fGlob_ok (c.fact 2 17 (l := fc2) (f := TLH.fGlob "_law_right"))), b_law_right⟩, law := ⟨_, _, F_law, PySem.W.mg_of X G (TLH.fGlob_ok (c.fact 0 0 (l := fc0) (f := TLH.fGlob "law"))), b_law⟩, z_abs := PySem.W.mg_none_of X G (TLH.fNone_ok (c.fact 2 18 (l := fc2) (f := TLH.fNone "abs"))), z_all := PySem.W.mg_none_of X G (TLH.fNone_ok (c.fact 2 19 (l := fc2) (f := TLH.fNone "all"))), z_bool := PySem.W.mg_none_of X G (TLH.fNone_ok (c.fact 2 20 (l := fc2) (f := TLH.fNone "bool"))), z_divmod := PySem.W.mg_none_of X G (TLH.fNone_ok (c.fact 2 21 (l := fc2) (f := TLH.fNone "divmod"))), z_int := PySem.W.mg_none_of X G (TLH.fNone_ok (c.fact 2 22 (l := fc2) (f := TLH.fNone "int"))), z_isinstance := PySem.W.mg_none_of X G (TLH.fNone_ok (c.fact 2 23 (l := fc2) (f := TLH.fNone "isinstance"))), z_len := PySem.W.mg_none_of X G (TLH.fNone_ok (c.fact 2 24 (l := fc2) (f := TLH.fNone "len"))), z_list := PySem.W.mg_none_of X G (TLH.fNone_ok (c.fact 3 0 (l := fc3) (f := TLH.fNone "list"))), z_max := PySem.W.mg_none_of X G (TLH.fNone_ok (c.fact 3 1 (l := fc3) (f := TLH.fNone "max"))), z_range := PySem.W.mg_none_of X G (TLH.fNone_ok (c.fact 3 2 (l := fc3) (f := TLH.fNone "range"))), z_repr := PySem.W.mg_none_of X G (TLH.fNone_ok (c.fact 3 3 (l := fc3) (f := TLH.fNone "repr"))), z_set := PySem.W.mg_none_of X G (TLH.fNone_ok (c.fact 3 4 (l := fc3) (f := TLH.fNone "set"))), z_sorted := PySem.W.mg_none_of X G (TLH.fNone_ok (c.fact 3 5 (l := fc3) (f := TLH.fNone "sorted"))), z_tuple := PySem.W.mg_none_of X G (TLH.fNone_ok (c.fact 3 6 (l := fc3) (f := TLH.fNone "tuple"))), m_gcd := PySem.W.mg_of X G (TLH.fBltn_ok (c.fact 3 7 (l := fc3) (f := TLH.fBltn "gcd" "math.gcd"))), kw_frame_pairs_0 := kw0_of F_frame_pairs (fun _ _ _ _ _ _ ws hl => match ws, hl with | [_], _ => rfl) (fun _ r => vals_perm r [0]), kwi_Frame_init_10 := kbn_of F_Frame_init (fun _ _ _ _ _ _ _ ws hl => match ws, hl with | [_, _], _ => rfl) }
  have FA : FunD K "law" "law" (defArgs s_law) (defBody s_law) (defScope s_law) [] [] (He.ga K "law") d_law := F0_law
  have bA := FunD.bindsA (ps := ["_law_script"]) FA fun _ _ _ _ _ _ us hl => match us, hl with | [_], _ => rfl
  exact ⟨_, fun s v => bA s [v] rfl, fun base _ _ => ok_law (W := W) E hT⟩
end TL
namespace LA
abbrev Vec := Nat → Rat
def zer : Vec := fun _ => 0
/-- x + a y -/
def ax (x : Vec) (a : Rat) (y : Vec) : Vec := fun i => x i + a * y i
inductive Span (S : List Vec) : Vec → Prop
  | zero : Span S zer
  | add {s x : Vec} (a : Rat) : s ∈ S → Span S x → Span S (ax x a s)
theorem ax_zer (a : Rat) (x : Vec) : ax x a zer = x := by
  funext i
  simp [ax, zer, Rat.mul_zero, Rat.add_zero]
theorem ax_zero (x y : Vec) : ax x 0 y = x := by
  funext i
  simp [ax, Rat.zero_mul, Rat.add_zero]
theorem ax_one (x : Vec) : ax zer 1 x = x := by
  funext i
  simp [ax, zer, Rat.one_mul, Rat.zero_add]
theorem Span.ax {S : List Vec} {x y : Vec} (hx : Span S x) (hy : Span S y) (a : Rat) : Span S (ax x a y) := by
  induction hy with
  | zero => rw [ax_zer]; exact hx
  | @add s y b hs _ ih =>
    have e : LA.ax x a (LA.ax y b s) = LA.ax (LA.ax x a y) (a * b) s := by
      funext i
      simp only [LA.ax]
      grind
    rw [e]
    exact .add _ hs ih
theorem Span.mem {S : List Vec} {s : Vec} (h : s ∈ S) : Span S s := by
  have := Span.add (S := S) 1 h .zero
  rwa [ax_one] at this
theorem Span.smul {S : List Vec} {x : Vec} (a : Rat) (h : Span S x) : Span S (fun i => a * x i) := by
  have := Span.ax .zero h a
  have e : LA.ax zer a x = fun i => a * x i := by
    funext i
    simp [LA.ax, zer, Rat.zero_add]
  rwa [e] at this
theorem Span.trans {A B : List Vec} {x : Vec} (h : Span A x) (k : ∀ s ∈ A, Span B s) : Span B x := by
  induction h with
  | zero => exact .zero
  | add a hs _ ih => exact .ax ih (k _ hs) a
theorem Span.mono {A B : List Vec} {x : Vec} (h : Span A x) (k : ∀ s ∈ A, s ∈ B) : Span B x := h.trans fun s hs => .mem (k s hs)
theorem Span.split {a : Vec} {L : List Vec} {x : Vec} (h : Span (a :: L) x) : ∃ c y, Span L y ∧ x = LA.ax y c a := by
  induction h with
  | zero => exact ⟨0, zer, .zero, (ax_zero _ _).symm⟩
  | @add s x b hs _ ih =>
    obtain ⟨c, y, hy, rfl⟩ := ih
    rcases List.mem_cons.mp hs with rfl | hs
    · refine ⟨c + b, y, hy, ?_⟩
      funext i
      simp only [LA.ax]
      grind
    · refine ⟨c, LA.ax y b s, .add b hs hy, ?_⟩
      funext i
      simp only [LA.ax]
      grind
/-- none is made of those behind it -/
def Ind : List Vec → Prop
  | [] => True
  | a :: L => ¬ Span L a ∧ Ind L
theorem exch (L : List Vec) (x : Vec) : ∀ B : List Vec, Span (L ++ B) x → ¬ Span L x → ∃ C : List Vec, C.length + 1 = B.length ∧ ∀ y, Span (L ++ B) y → Span (x :: (L ++ C)) y
  | [], h, n => absurd (by rwa [List.append_nil] at h) n
  | b :: B, h, n => by
    by_cases z : Span (L ++ B) x
    · obtain ⟨C, lc, hc⟩ := exch L x B z n
      refine ⟨b :: C, by simp; omega, fun y hy => ?_⟩
      refine hy.trans fun s hs => ?_
      have up : ∀ t, t ∈ L ++ B → Span (x :: (L ++ b :: C)) t := fun t ht => (hc t (.mem ht)).mono fun u hu => by
        simp only [List.mem_cons, List.mem_append] at hu ⊢
        rcases hu with h | h | h
        · exact .inl h
        · exact .inr (.inl h)
        · exact .inr (.inr (.inr h))
      simp only [List.mem_append, List.mem_cons] at hs
      rcases hs with h | h | h
      · exact up s (by simp [h])
      · exact .mem (by simp [h])
      · exact up s (by simp [h])
    · have h2 : Span (b :: (L ++ B)) x := h.mono fun s hs => by
        simp only [List.mem_cons, List.mem_append] at hs ⊢
        rcases hs with h | h | h
        · exact .inr (.inl h)
        · exact .inl h
        · exact .inr (.inr h)
      obtain ⟨c, y, hy, e⟩ := h2.split
      have c0 : c ≠ 0 := fun z0 => z (by rw [e, z0, ax_zero]; exact hy)
      have up : ∀ t, Span (L ++ B) t → Span (x :: (L ++ B)) t := fun t ht => ht.mono fun u hu => List.mem_cons_of_mem _ hu
      refine ⟨B, rfl, fun w hw => hw.trans fun s hs => ?_⟩
      simp only [List.mem_append, List.mem_cons] at hs
      have hb : Span (x :: (L ++ B)) b := by
        have e2 : b = LA.ax (fun i => c⁻¹ * x i) (-c⁻¹) y := by
          funext i
          have := congrFun e i
          simp only [LA.ax] at this ⊢
          rw [this]
          have : c⁻¹ * c = 1 := Rat.inv_mul_cancel c c0
          grind
        rw [e2]
        exact .ax (.smul _ (.mem (List.mem_cons_self ..))) (up y hy) _
      rcases hs with h | h | h
      · exact .mem (by simp [h])
      · rw [h]; exact hb
      · exact .mem (by simp [h])
theorem steinitz : ∀ {A B : List Vec}, Ind A → (∀ a ∈ A, Span B a) → ∃ C : List Vec, C.length + A.length = B.length ∧ ∀ y, Span B y → Span (A ++ C) y
  | [], B, _, _ => ⟨B, rfl, fun _ h => h⟩
  | a :: A, B, hi, hs => by
    obtain ⟨C, lc, hc⟩ := steinitz hi.2 fun b hb => hs b (List.mem_cons_of_mem _ hb)
    obtain ⟨C', lc', hc'⟩ := exch A a C (hc a (hs a (List.mem_cons_self ..))) hi.1
    exact ⟨C', by simp; omega, fun y hy => hc' y (hc y hy)⟩
theorem ind_le {A B : List Vec} (h : Ind A) (k : ∀ a ∈ A, Span B a) : A.length ≤ B.length := by
  obtain ⟨C, e, _⟩ := steinitz h k
  omega
open Classical in
noncomputable def basis : List Vec → List Vec
  | [] => []
  | s :: S => if Span (basis S) s then basis S else s :: basis S
theorem basis_ind : ∀ S, Ind (basis S)
  | [] => trivial
  | s :: S => by
    unfold basis
    split
    · exact basis_ind S
    · rename_i h
      exact ⟨h, basis_ind S⟩
theorem basis_mem : ∀ {S : List Vec} {x : Vec}, x ∈ basis S → x ∈ S
  | [], x, h => h
  | s :: S, x, h => by
    unfold basis at h
    split at h
    · exact List.mem_cons_of_mem _ (basis_mem h)
    · rcases List.mem_cons.mp h with rfl | h
      · exact List.mem_cons_self ..
      · exact List.mem_cons_of_mem _ (basis_mem h)
theorem basis_span : ∀ {S : List Vec} {x : Vec}, Span S x → Span (basis S) x := by
  intro S x h
  refine h.trans fun s hs => ?_
  clear h
  induction S with
  | nil => cases hs
  | cons t S ih =>
    unfold basis
    split
    · rename_i h
      rcases List.mem_cons.mp hs with rfl | hs
      · exact h
      · exact ih hs
    · rcases List.mem_cons.mp hs with rfl | hs
      · exact .mem (List.mem_cons_self ..)
      · exact (ih hs).mono fun u hu => List.mem_cons_of_mem _ hu
noncomputable def dim (S : List Vec) : Nat := (basis S).length
def Le (A B : List Vec) : Prop := ∀ a ∈ A, Span B a
theorem Le.refl (A : List Vec) : Le A A := fun _ h => .mem h
theorem Le.trans {A B C : List Vec} (h : Le A B) (k : Le B C) : Le A C := fun a ha => (h a ha).trans k
theorem Le.sub {A B : List Vec} (h : ∀ a ∈ A, a ∈ B) : Le A B := fun a ha => .mem (h a ha)
theorem dim_le {A B : List Vec} (h : Le A B) : dim A ≤ dim B := ind_le (basis_ind A) fun a ha => basis_span (h a (basis_mem ha))
theorem dim_eq {A B : List Vec} (h : Le A B) (k : Le B A) : dim A = dim B := Nat.le_antisymm (dim_le h) (dim_le k)
theorem dim_out {s : Vec} {S : List Vec} (h : ¬ Span S s) : dim (s :: S) = dim S + 1 := by
  have : ¬ Span (basis S) s := fun z => h (z.mono fun _ hu => basis_mem hu)
  unfold dim
  rw [basis, if_neg this]
  rfl
structure Lin (f : Vec → Vec) : Prop where
  ax : ∀ x a y, f (ax x a y) = ax (f x) a (f y)
theorem Lin.zer {f : Vec → Vec} (h : Lin f) : f LA.zer = LA.zer := by
  have e := h.ax LA.zer (-1) LA.zer
  rw [ax_zer] at e
  rw [e]
  funext i
  simp only [LA.ax, LA.zer]
  grind
theorem Span.map {f : Vec → Vec} (h : Lin f) {S : List Vec} {x : Vec} (hx : Span S x) : Span (S.map f) (f x) := by
  induction hx with
  | zero => rw [h.zer]; exact .zero
  | add a hs _ ih => rw [h.ax]; exact .add a (List.mem_map_of_mem hs) ih
def unit (p : Nat) : Vec := fun i => if i = p then 1 else 0
def units (n : Nat) : List Vec := (List.range n).map unit
theorem span_at {S : List Vec} {p : Nat} (h : ∀ s ∈ S, s p = 0) {x : Vec} (hx : Span S x) : x p = 0 := by
  induction hx with
  | zero => rfl
  | add a hs _ ih => simp only [ax, ih, h _ hs, Rat.mul_zero, Rat.add_zero]
end LA
namespace TL
open PySem PySem.Spec PyProof.Rows L2 Evl PF
section
variable {τ : List Sl} {pot p1 p2 : Pot} {F G H1 : FE} {FL GL : FI} {C D : FB} {A B : FS} {i j c k n : Nat} {g : Tg} {t u : T} {is vs : List Nat}
@[simp] theorem e_seq : fSeq A B τ pot = match A τ pot with
  | some (.nx τ', p1) => B τ' p1
  | some (.rt t, p1) => some (.rt t, p1)
  | none => none := (rfl)
@[simp] theorem e_next : fNext τ pot = some (.nx τ, pot) := (rfl)
@[simp] theorem e_ifS : fIfS C A B τ pot = match C τ pot with
  | some (true, p1) => A τ p1
  | some (false, p1) => B τ p1
  | none => none := (rfl)
@[simp] theorem e_drop : fDrop F τ pot = match F τ pot with
  | some (_, p1) => some (.nx τ, p1)
  | none => none := (rfl)
@[simp] theorem e_ret : fRet F τ pot = match F τ pot with
  | some (t, p1) => some (.rt t, p1)
  | none => none := (rfl)
@[simp] theorem e_retN : fRetN τ pot = some (.rt .non, pot) := (rfl)
@[simp] theorem e_asg : fAsg F i τ pot = match F τ pot with
  | some (t, p1) => some (.nx (τ.set i (.val t)), p1)
  | none => none := (rfl)
@[simp] theorem e_asgO : fAsgO FL i τ pot = match FL τ pot with
  | some (l, p1) => some (.nx (τ.set i (.own l)), p1)
  | none => none := (rfl)
@[simp] theorem e_asgT : fAsgT F g τ pot = match F τ pot with
  | some (t, p1) => (match g.put t τ with
    | some τ' => some (.nx τ', p1)
    | none => none)
  | none => none := (rfl)
@[simp] theorem e_var : fVar i τ pot = match τ[i]? with
  | some (.val t) => some (t, pot)
  | _ => none := (rfl)
@[simp] theorem e_own : fOwn i τ pot = match τ[i]? with
  | some (.own t) => some (t, pot)
  | _ => none := (rfl)
@[simp] theorem e_lst : fLst FL τ pot = match FL τ pot with
  | some (l, p1) => some (.lst l, p1)
  | none => none := (rfl)
@[simp] theorem e_c : fC t τ pot = some (t, pot) := (rfl)
@[simp] theorem e_op {g : T → T → M T} : fOp g F G τ pot = match F τ pot with
  | some (a, p1) => (match G τ p1 with
    | some (b, p2) => g a b p2
    | none => none)
  | none => none := (rfl)
@[simp] theorem e_un {g : T → M T} : fUn g F τ pot = match F τ pot with
  | some (a, p1) => g a p1
  | none => none := (rfl)
@[simp] theorem e_test : fTest F τ pot = match F τ pot with
  | some (.bl b, p1) => some (b, p1)
  | _ => none := (rfl)
@[simp] theorem e_not : fNot C τ pot = match C τ pot with
  | some (b, p1) => some (!b, p1)
  | none => none := (rfl)
@[simp] theorem e_and : fAnd C D τ pot = match C τ pot with
  | some (true, p1) => D τ p1
  | some (false, p1) => some (false, p1)
  | none => none := (rfl)
@[simp] theorem e_or : fOr C D τ pot = match C τ pot with
  | some (false, p1) => D τ p1
  | some (true, p1) => some (true, p1)
  | none => none := (rfl)
@[simp] theorem e_andV : fAndV F G τ pot = match F τ pot with
  | some (.bl true, p1) => G τ p1
  | some (.bl false, p1) => some (.bl false, p1)
  | _ => none := (rfl)
@[simp] theorem e_orV : fOrV F G τ pot = match F τ pot with
  | some (.bl false, p1) => G τ p1
  | some (.bl true, p1) => some (.bl true, p1)
  | _ => none := (rfl)
@[simp] theorem e_notV : fNotV F τ pot = match F τ pot with
  | some (.bl b, p1) => some (.bl (!b), p1)
  | _ => none := (rfl)
@[simp] theorem e_if : fIf C F G τ pot = match C τ pot with
  | some (true, p1) => F τ p1
  | some (false, p1) => G τ p1
  | none => none := (rfl)
@[simp] theorem e_nil : fNil τ pot = some ([], pot) := (rfl)
@[simp] theorem e_cons : fCons F GL τ pot = match F τ pot with
  | some (t, p1) => (match GL τ p1 with
    | some (ts, p2) => some (t :: ts, p2)
    | none => none)
  | none => none := (rfl)
@[simp] theorem e_tup : fTup FL τ pot = match FL τ pot with
  | some (l, p1) => if l.length ≤ maxLen then some (.tup l, p1) else none
  | none => none := (rfl)
@[simp] theorem e_call {f : List T → M T} : fCall f FL τ pot = match FL τ pot with
  | some (ts, p1) => f ts p1
  | none => none := (rfl)
@[simp] theorem e_lstI : fLstI F τ pot = match F τ pot with
  | some (.lst l, p1) => some (l, p1)
  | _ => none := (rfl)
@[simp] theorem e_items : fItems F τ pot = match F τ pot with
  | some (.lst l, p1) => some (l, p1)
  | some (.tup l, p1) => some (l, p1)
  | _ => none := (rfl)
@[simp] theorem e_perm : fPerm is FL τ pot = match FL τ pot with
  | some (ts, p1) => some (perm is ts, p1)
  | none => none := (rfl)
@[simp] theorem e_yes : fYes τ pot = some (true, pot) := (rfl)
@[simp] theorem e_isi {c : Cl} : fIsi c F τ pot = match F τ pot with
  | some (t, p1) => (match isiT t c with
    | some b => some (.bl b, p1)
    | none => none)
  | none => none := (rfl)
@[simp] theorem e_isiT : fIsiT F τ pot = match F τ pot with
  | some (t, p1) => (match isiT t (.ty "list"), isiT t (.ty "tuple") with
    | some b, some c => some (.bl (b || c), p1)
    | _, _ => none)
  | none => none := (rfl)
@[simp] theorem e_cbA {g : List T → Option T} : fCbA g FL τ pot = match FL τ pot with
  | some (ts, p1) => (match g ts with
    | some t => some (t, p1)
    | none => none)
  | none => none := (rfl)
@[simp] theorem e_sq1 {g : Bool → List T → Option T} : fSq1 g F τ pot = match F τ pot with
  | some (a, p1) => (match seqT a with
    | some (k, us) => (match g k us with
      | some t => some (t, p1)
      | none => none)
    | none => none)
  | none => none := (rfl)
@[simp] theorem e_seqL {l : List T} : seqT (.lst l) = some (true, l) := (rfl)
@[simp] theorem e_seqTu {l : List T} : seqT (.tup l) = some (false, l) := (rfl)
@[simp] theorem e_len {k : Bool} {us : List T} : gLen k us = some (.int us.length) := (rfl)
@[simp] theorem e_runB {FB : FS} {ts : List T} : runB FB k ts pot = match FB (ts.map .val ++ List.replicate k .no) pot with
  | some (.rt t, p) => some (t, p)
  | some (.nx _, p) => some (.non, p)
  | none => none := (rfl)
@[simp] theorem e_gI {c : Int → Int → Bool} {f : Int → Int → T} {i j : Int} : gI c f (.int i) (.int j) pot = if c i j = true then some (f i j, pot) else none := (rfl)
@[simp] theorem e_gOr {f f' : T → T → M T} : gOr f f' t u pot = match f t u pot with
  | some z => some z
  | none => f' t u pot := (rfl)
@[simp] theorem e_gOr1 {f f' : T → M T} : gOr1 f f' t pot = match f t pot with
  | some z => some z
  | none => f' t pot := (rfl)
@[simp] theorem e_ix : fIx F G τ pot = match F τ pot with
  | some (a, p1) => (match seqT a with
    | some (_, us) => (match G τ p1 with
      | some (.int i, p2) => (match atI us i with
        | some t => some (t, p2)
        | none => none)
      | _ => none)
    | none => none)
  | none => none := (rfl)
@[simp] theorem e_lc : fLc FL g vs C F τ pot = match FL τ pot with
  | some (its, p1) => (match wipeT vs τ with
    | some τw => if its.length ≤ maxLen then lcGo g C F τw its p1 else none
    | none => none)
  | none => none := (rfl)
@[simp] theorem e_for : fFor FL g A τ pot = match FL τ pot with
  | some (its, p1) => forGo g A its τ p1
  | none => none := (rfl)
@[simp] theorem e_putN : (Tg.nm i).put t τ = some (τ.set i (.val t)) := (rfl)
@[simp] theorem e_putTu {l : List T} : (Tg.tu is).put (.tup l) τ = setAll is l τ := (rfl)
@[simp] theorem e_putTuL {l : List T} : (Tg.tu is).put (.lst l) τ = setAll is l τ := (rfl)
@[simp] theorem e_putTp {l : List T} : (Tg.tp is).put (.tup l) τ = setAll is l τ := (rfl)
@[simp] theorem e_putTq {l : List T} : (Tg.tq i is).put (.tup [t, .tup l]) τ = setAll is l (τ.set i (.val t)) := (rfl)
@[simp] theorem e_set0 : setAll [] [] τ = some τ := (rfl)
@[simp] theorem e_setS {l : List T} : setAll (i :: is) (t :: l) τ = setAll is l (τ.set i (.val t)) := (rfl)
@[simp] theorem e_app : fApp i F τ pot = match F τ pot with
  | some (t, p1) => (match τ[i]? with
    | some (.own l) => if l.length < maxLen then some (.nx (τ.set i (.own (l ++ [t]))), p1) else none
    | _ => none)
  | none => none := (rfl)
@[simp] theorem e_fld : fFld c i F τ pot = match F τ pot with
  | some (.ins d l, p1) => if d = c then (match l[i]? with
    | some t => some (t, p1)
    | none => none) else none
  | _ => none := (rfl)
@[simp] theorem e_lenF : fLen FL τ pot = match FL τ pot with
  | some (a, p1) => if a.length ≤ maxLen then some (a, p1) else none
  | none => none := (rfl)
@[simp] theorem e_seq2 : fSeq2 F τ pot = match F τ pot with
  | some (a, p1) => (match seqT a with
    | some (_, us) => if us.length ≤ maxLen then some (us, p1) else none
    | none => none)
  | none => none := (rfl)
@[simp] theorem e_tupOf : fTupOf F τ pot = match F τ pot with
  | some (.lst us, p1) => some (.tup us, p1)
  | _ => none := (rfl)
@[simp] theorem e_cat : fCat F G τ pot = match F τ pot with
  | some (.lst us, p1) => (match G τ p1 with
    | some (.lst ws, p2) => if us.length + ws.length ≤ maxLen then some (us ++ ws, p2) else none
    | _ => none)
  | _ => none := (rfl)
@[simp] theorem e_repL : fRepL F G τ pot = match F τ pot with
  | some (.lst us, p1) => (match G τ p1 with
    | some (.int k, p2) => if -(2 ^ 62) ≤ k ∧ k < 2 ^ 62 ∧ us.length * k.toNat ≤ maxLen then some ((List.replicate k.toNat us).flatten, p2) else none
    | _ => none)
  | _ => none := (rfl)
@[simp] theorem e_prop {f : List T → M T} : fProp c f F τ pot = match F τ pot with
  | some (.ins d l, p1) => if d = c then f [.ins d l] p1 else none
  | _ => none := (rfl)
@[simp] theorem e_meth {f : List T → M T} : fMeth c f F FL τ pot = match F τ pot with
  | some (.ins d l, p1) => if d = c then (match FL τ p1 with
    | some (ts, p2) => f (.ins d l :: ts) p2
    | none => none) else none
  | _ => none := (rfl)
@[simp] theorem e_setA : fSetA c j F τ pot = match F τ pot with
  | some (t, p1) => (match τ[(0 : Nat)]? with
    | some (.obj d l) => if d = c ∧ l.length = j then some (.nx (τ.set 0 (.obj c (l ++ [t]))), p1) else none
    | _ => none)
  | none => none := (rfl)
@[simp] theorem e_xnil : fXNil τ pot = some ([], pot) := (rfl)
@[simp] theorem e_xval {X : FX} : fXVal F X τ pot = match F τ pot with
  | some (t, p1) => (match X τ p1 with
    | some (ss, p2) => some (.val t :: ss, p2)
    | none => none)
  | none => none := (rfl)
@[simp] theorem e_xown {X : FX} : fXOwn FL X τ pot = match FL τ pot with
  | some (t, p1) => (match X τ p1 with
    | some (ss, p2) => some (.own t :: ss, p2)
    | none => none)
  | none => none := (rfl)
@[simp] theorem e_parX {X : FX} : fParX X is τ pot = match X τ pot with
  | some (ss, p1) => (match setX is ss τ with
    | some τ' => some (.nx τ', p1)
    | none => none)
  | none => none := (rfl)
@[simp] theorem e_setX0 : setX [] [] τ = some τ := (rfl)
@[simp] theorem e_setXS {s : Sl} {ss : List Sl} : setX (i :: is) (s :: ss) τ = setX is ss (τ.set i s) := (rfl)
@[simp] theorem e_noPart : fNoPart τ pot = some (none, pot) := (rfl)
@[simp] theorem e_part : fPart F τ pot = match F τ pot with
  | some (.int i, p1) => some (some i, p1)
  | _ => none := (rfl)
@[simp] theorem e_sl {X Y : List Sl → M (Option Int)} : fSl F X Y τ pot = match F τ pot with
  | some (.lst us, p1) => (match X τ p1 with
    | some (lo, p2) => (match Y τ p2 with
      | some (hi, p3) => some (cutT us lo hi, p3)
      | none => none)
    | none => none)
  | _ => none := (rfl)
@[simp] theorem e_zipM : fZipM FL τ pot = match FL τ pot with
  | some ([a, b], p1) => (match sqKT a, sqKT b with
    | some (_, ts), some (_, us) => some (ts.zipWith (fun t u => .tup [t, u]) us, p1)
    | _, _ => none)
  | _ => none := (rfl)
@[simp] theorem e_sqL {l : List T} : sqKT (.lst l) = some (true, l) := (rfl)
@[simp] theorem e_sqT {l : List T} : sqKT (.tup l) = some (false, l) := (rfl)
@[simp] theorem e_enum : fEnum FL τ pot = match FL τ pot with
  | some ([.lst ts], p1) => some ((List.range ts.length).zipWith (fun i t => .tup [.int (i : Nat), t]) ts, p1)
  | _ => none := (rfl)
@[simp] theorem e_range1 : fRange1 FL τ pot = match FL τ pot with
  | some ([.int j], p1) => if -(2 ^ 62) ≤ j ∧ j < 2 ^ 62 then some (intsT 0 j.toNat, p1) else none
  | _ => none := (rfl)
@[simp] theorem e_repr : fRepr F τ pot = match F τ pot with
  | some (t, p1) => (match reprT t with
    | some x => if x.length ≤ sizeLine then some (.str x, p1) else none
    | none => none)
  | none => none := (rfl)
@[simp] theorem e_frz : fFrz i A τ pot = A (frz i τ) pot := (rfl)
@[simp] theorem e_runI {FB : FS} {ts : List T} : runI c n FB k ts pot = match FB (.obj c [] :: (ts.map .val ++ List.replicate k .no)) pot with
  | some (Out.nx (Sl.obj d l :: _), p) => if d = c ∧ l.length = n then some (.ins c l, p) else none
  | _ => none := (rfl)
@[simp] theorem e_own1 {f : List T → M T} {l : List T} : gOwn c f (.ins j l) u pot = if j = c ∧ isNumT c u = true then f [.ins j l, u] pot else none := (rfl)
@[simp] theorem e_own0 {f : List T → M T} {x : Int} : gOwn c f (.int x) u pot = none := (rfl)
@[simp] theorem e_ownR {f : List T → M T} {x : Int} {l : List T} : gOwnR c f (.int x) (.ins j l) pot = if j = c then f [.ins j l, .int x] pot else none := (rfl)
@[simp] theorem e_negI {x : Int} : gNegI (.int x) pot = some (.int (-x), pot) := (rfl)
@[simp] theorem e_negIo {l : List T} : gNegI (.ins j l) pot = none := (rfl)
@[simp] theorem e_negO {f : List T → M T} {l : List T} : gNegO c f (.ins j l) pot = if j = c then f [.ins j l] pot else none := (rfl)
@[simp] theorem e_gIo {f : Int → Int → Bool} {h : Int → Int → T} {l : List T} : gI f h (.ins j l) u pot = none := (rfl)
@[simp] theorem e_gIr {f : Int → Int → Bool} {h : Int → Int → T} {l : List T} {x : Int} : gI f h (.int x) (.ins j l) pot = none := (rfl)
@[simp] theorem e_mul : gMul t u pot = gI (fun i j => bits 400000 i && bits 400000 j) (fun i j => .int (i * j)) t u pot := (rfl)
@[simp] theorem e_fdiv : gFdiv t u pot = gI (fun _ j => decide (j ≠ 0) && bits 9000 j) (fun i j => .int (i.fdiv j)) t u pot := (rfl)
@[simp] theorem e_eqI {x y : Int} : gEqA false (.int x) (.int y) pot = some (.bl (decide (x = y)), pot) := by
  have : gEqA false (.int x) (.int y) pot = some (.bl (decide (toV (.int x) = toV (.int y))), pot) := (rfl)
  rw [this]
  congr 3
  simp [toV]
@[simp] theorem e_isiI {x : Int} : isiT (.int x) (.ty "int") = some true := (rfl)
@[simp] theorem e_isiIb {x : Int} : isiT (.int x) (.ty "bool") = some false := (rfl)
@[simp] theorem e_isiIo {x : Int} : isiT (.int x) (.own c) = some false := (rfl)
@[simp] theorem e_isiO {l : List T} : isiT (.ins j l) (.own j) = some true := by
  unfold isiT tyT
  simp
@[simp] theorem e_isiOi {l : List T} : isiT (.ins j l) (.ty "int") = some false := (rfl)
@[simp] theorem e_isiOb {l : List T} : isiT (.ins j l) (.ty "bool") = some false := (rfl)
@[simp] theorem e_isiL {l : List T} : isiT (.lst l) (.ty "list") = some true := (rfl)
@[simp] theorem e_isiLt {l : List T} : isiT (.lst l) (.ty "tuple") = some false := (rfl)
@[simp] theorem e_isiT1 {l : List T} : isiT (.tup l) (.ty "list") = some false := (rfl)
@[simp] theorem e_isiT2 {l : List T} : isiT (.tup l) (.ty "tuple") = some true := (rfl)
@[simp] theorem e_isiLo {l : List T} : isiT (.lst l) (.own c) = some false := (rfl)
@[simp] theorem e_isiTo {l : List T} : isiT (.tup l) (.own c) = some false := (rfl)
@[simp] theorem e_wipe0 : wipeT [] τ = some τ := (rfl)
end
section
variable {τ : List Sl} {pot : Pot} {g : Tg} {Fe : FE} {α : Type}
theorem lc_at {FL : FI} {vs : List Nat} {C : FB} {τw : List Sl} {its r : List T} {p1 p2 : Pot} (h1 : FL τ pot = some (its, p1)) (h2 : wipeT vs τ = some τw) (h3 : its.length ≤ maxLen) (h4 : lcGo g C Fe τw its p1 = some (r, p2)) : fLc FL g vs C Fe τ pot = some (r, p2) := by
  unfold fLc
  rw [h1]
  show (match wipeT vs τ with
    | some τw => if its.length ≤ maxLen then lcGo g C Fe τw its p1 else none
    | none => none) = _
  rw [h2]
  show (if its.length ≤ maxLen then lcGo g C Fe τw its p1 else none) = _
  rw [if_pos h3]
  exact h4
theorem ix_at {F G : FE} {k : Bool} {us : List T} {i : Int} {t : T} {p1 p2 : Pot} (h : F τ pot = some (mkSeq k us, p1)) (k2 : G τ p1 = some (.int i, p2)) (e : atI us i = some t) : fIx F G τ pot = some (t, p2) := by
  unfold fIx
  rw [h]
  show (match seqT (mkSeq k us) with
    | some (_, us) => (match G τ p1 with
      | some (.int i, p2) => (match atI us i with
        | some t => some (t, p2)
        | none => none)
      | _ => none)
    | none => none) = _
  rw [show seqT (mkSeq k us) = some (k, us) by cases k <;> rfl]
  show (match G τ p1 with
      | some (.int i, p2) => (match atI us i with
        | some t => some (t, p2)
        | none => none)
      | _ => none) = _
  rw [k2]
  show (match atI us i with
        | some t => some (t, p2)
        | none => none) = _
  rw [e]
theorem lc2_at {FL FL1 : FI} {vs vs1 : List Nat} {C D : FB} {g1 : Tg} {τw : List Sl} {its r : List T} {p1 p2 : Pot} (h1 : FL τ pot = some (its, p1)) (h2 : wipeT vs τ = some τw) (h3 : lc2Go g C FL1 g1 vs1 D Fe τw its p1 = some (r, p2)) (h4 : r.length ≤ maxLen) : fLc2 FL g vs C FL1 g1 vs1 D Fe τ pot = some (r, p2) := by
  unfold fLc2
  rw [h1]
  show (match wipeT vs τ with
    | some τw => (match lc2Go g C FL1 g1 vs1 D Fe τw its p1 with
      | some (t, p2) => if t.length ≤ maxLen then some (t, p2) else none
      | none => none)
    | none => none) = _
  rw [h2]
  show (match lc2Go g C FL1 g1 vs1 D Fe τw its p1 with
      | some (t, p2) => if t.length ≤ maxLen then some (t, p2) else none
      | none => none) = _
  rw [h3]
  show (if r.length ≤ maxLen then some (r, p2) else none) = _
  rw [if_pos h4]
theorem sq1_at {F : FE} {g : Bool → List T → Option T} {k : Bool} {us : List T} {t : T} {p1 : Pot} (h : F τ pot = some (mkSeq k us, p1)) (e : g k us = some t) : fSq1 g F τ pot = some (t, p1) := by
  unfold fSq1
  rw [h]
  cases k <;> simp only [mkSeq, seqT, e]
/-- all that a list holds -/
theorem allM_map (l : List α) (enc : α → T) {β : Type} (f : T → Option β) (v : α → β) (h : ∀ a ∈ l, f (enc a) = some (v a)) : allM f (l.map enc) = some (l.map v) := by
  induction l with
  | nil => rfl
  | cons a l ih =>
    have h1 := h a (List.mem_cons_self ..)
    have ih := ih fun b hb => h b (List.mem_cons_of_mem _ hb)
    simp only [List.map_cons, allM, h1, ih]
theorem gall_true (l : List α) (enc : α → T) (h : ∀ a ∈ l, enc a = .bl true) : gAll true (l.map enc) = some (.bl true) := by
  show (allM blOf (l.map enc)).map _ = _
  rw [allM_map l enc blOf (fun _ => true) fun a ha => by rw [h a ha]; rfl]
  simp
theorem ints_map (lo : Int) (n : Nat) : intsT lo n = (List.range n).map fun i => T.int (lo + (i : Nat)) := rfl
theorem atI_at {α : Type} {l : List α} {i : Nat} {x : α} (h : l[i]? = some x) : atI l (i : Int) = some x := by
  have hi : i < l.length := (List.getElem?_eq_some_iff.mp h).1
  unfold atI
  rw [ixN_nat hi]
  exact h
end
end TL
namespace TL
open PySem PySem.Spec PyProof.Rows L2 Evl PF
/-- the tree of a Ratio -/
def RT (q : Rat) : T := .ins 0 [.int q.num, .int (q.den : Int)]
/-- a NUMBER -/
def NumT (t : T) (q : Rat) : Prop := t = RT q ∨ ∃ i : Int, t = .int i ∧ q = (i : Rat)
theorem numR (q : Rat) : NumT (RT q) q := .inl rfl
variable {pot : Pot} {p q : Rat} {i j : Int} {t u : T}
theorem is_integer_int : T_is_integer [.int i] pot = some (.bl true, pot) := by
  simp [T_is_integer, FB_is_integer]
theorem is_integer_R : T_is_integer [RT q] pot = some (.bl false, pot) := by
  simp [T_is_integer, FB_is_integer, RT]
theorem init_R (h : j ≠ 0) (b : bits 9000 j = true) : T_Ratio_init [.int i, .int j] pot = some (RT (Rat.divInt i j), pot) := by
  have b2 : bits 9000 (-((Nat.gcd i.natAbs j.natAbs : Nat) : Int)) = true ∧ bits 9000 ((Nat.gcd i.natAbs j.natAbs : Nat) : Int) = true := by
    have l := gcd_le_bottom (t := i) h
    have z : (Nat.gcd i.natAbs j.natAbs) < 2 ^ 9000 := Nat.lt_of_le_of_lt l (bits_lt b)
    exact ⟨bits_of (by decide) (by rw [Int.natAbs_neg, Int.natAbs_natCast]; exact z), bits_of (by decide) (by rw [Int.natAbs_natCast]; exact z)⟩
  have g0 := gcd_pos_bottom (t := i) h
  have g1 : ((Nat.gcd i.natAbs j.natAbs : Nat) : Int) ≠ 0 := by omega
  have gn : gGcd [.int i, .int j] = some (.int ((Nat.gcd i.natAbs j.natAbs : Nat) : Int)) := rfl
  rcases Int.lt_or_gt_of_ne h with z | z
  · have nz : ¬ (0 < j) := by omega
    simp only [T_Ratio_init, FB_Ratio_init, e_runI, e_seq, e_ifS, e_not, e_or, e_test, e_call, e_cons, e_var, e_nil, List.map_cons, List.map_nil, List.cons_append, List.nil_append, List.replicate, List.getElem?_cons_succ, List.getElem?_cons_zero, is_integer_int, Bool.not_true, e_next, e_op, e_c, e_eqI, h, decide_false, e_asg, e_cbA, gn,
      List.set_cons_succ, List.set_cons_zero, e_if, e_gI, if_true, nz, e_un, e_negI, e_setA, e_fdiv, ne_eq, not_false_eq_true, decide_true, g1, Int.neg_eq_zero, b2.1, Bool.and_self, and_self, List.length_nil, List.length_cons, List.append_nil, Nat.zero_add, top_div_neg z, bottom_div_neg z]
    rfl
  · simp only [T_Ratio_init, FB_Ratio_init, e_runI, e_seq, e_ifS, e_not, e_or, e_test, e_call, e_cons, e_var, e_nil, List.map_cons, List.map_nil, List.cons_append, List.nil_append, List.replicate, List.getElem?_cons_succ, List.getElem?_cons_zero, is_integer_int, Bool.not_true, e_next, e_op, e_c, e_eqI, h, decide_false, e_asg, e_cbA, gn,
      List.set_cons_succ, List.set_cons_zero, e_if, e_gI, if_true, z, e_un, e_negI, e_setA, e_fdiv, ne_eq, not_false_eq_true, decide_true, g1, Int.neg_eq_zero, b2.2, Bool.and_self, and_self, List.length_nil, List.length_cons, List.append_nil, Nat.zero_add, top_div z, bottom_div z]
    rfl
theorem as_ratio_R : T_as_ratio [RT q] pot = some (RT q, pot) := by
  simp [T_as_ratio, FB_as_ratio, RT, fPlain, noL, noLs]
theorem as_ratio_int : T_as_ratio [.int i] pot = some (RT (i : Rat), pot) := by
  have := init_R (i := i) (j := 1) (pot := pot) (by decide) (by decide +kernel)
  rw [int_made] at this
  simp [T_as_ratio, FB_as_ratio, this, fPlain, RT, noL, noLs]
theorem as_ratio_N (h : NumT t q) : T_as_ratio [t] pot = some (RT q, pot) := by
  rcases h with rfl | ⟨i, rfl, rfl⟩
  · exact as_ratio_R
  · exact as_ratio_int
theorem is_number_N (h : NumT t q) : T_is_number [t] pot = some (.bl true, pot) := by
  rcases h with rfl | ⟨i, rfl, rfl⟩
  · simp [T_is_number, FB_is_number, is_integer_R]
    simp [RT]
  · simp [T_is_number, FB_is_number, is_integer_int]
theorem top_R : T_Ratio_top [RT q] pot = some (.int q.num, pot) := by
  simp [T_Ratio_top, FB_Ratio_top, RT]
theorem bottom_R : T_Ratio_bottom [RT q] pot = some (.int (q.den : Int), pot) := by
  simp [T_Ratio_bottom, FB_Ratio_bottom, RT]
theorem neg_R (h : Sz 8000 q) : T_Ratio_neg [RT q] pot = some (RT (-q), pot) := by
  have := init_R (i := -q.num) (j := q.den) (pot := pot) (den_ne q) (bits_of (by decide) (by rw [Int.natAbs_natCast]; exact (h.le (show 8000 ≤ 9000 by decide)).2))
  rw [neg_made] at this
  simp [T_Ratio_neg, FB_Ratio_neg, RT] at this ⊢
  rw [this]
theorem szb {n : Nat} (h : Sz n q) (hn : 0 < n) : bits n q.num = true ∧ bits n (q.den : Int) = true := ⟨bits_of hn h.1, bits_of hn (by rw [Int.natAbs_natCast]; exact h.2)⟩
theorem bits_le {n m : Nat} (h : bits n i = true) (l : n ≤ m) : bits m i = true := by
  unfold bits at h ⊢
  rw [decide_eq_true_eq] at h ⊢
  omega
theorem add_R (hp : Sz 4000 p) (hn : NumT t q) (hq : Sz 4000 q) : T_Ratio_add [RT p, t] pot = some (RT (p + q), pot) := by
  have a1 := szb hp (by decide)
  have a2 := szb hq (by decide)
  have k := fun {z : Int} (h : bits 4000 z = true) => bits_le (m := 400000) h (by decide)
  have den : bits 9000 ((p.den : Int) * (q.den : Int)) = true := by
    refine bits_of (by decide) ?_
    rw [Int.natAbs_mul, Int.natAbs_natCast, Int.natAbs_natCast]
    exact Nat.lt_of_lt_of_le (prod_lt hp.2 hq.2) (Nat.pow_le_pow_right (by decide) (by decide))
  have := init_R (i := p.num * q.den + q.num * p.den) (j := p.den * q.den) (pot := pot) (Int.mul_ne_zero (den_ne p) (den_ne q)) den
  rw [add_made] at this
  simp only [T_Ratio_add, FB_Ratio_add, e_runB, e_seq, e_asg, e_call, e_cons, e_var, e_nil, List.map_cons, List.map_nil, List.cons_append, List.nil_append, List.replicate, List.getElem?_cons_succ, List.getElem?_cons_zero, as_ratio_N hn, List.set_cons_succ, List.set_cons_zero, e_ret, e_op, e_prop, e_fld, RT]
  rw [show (T.ins 0 [.int q.num, .int (q.den : Int)]) = RT q from rfl]
  simp only [if_true, top_R, bottom_R, e_mul, e_gI, List.getElem?_cons_succ, List.getElem?_cons_zero, k a1.1, k a1.2, k a2.1, k a2.2, Bool.and_self, this]
  rfl
theorem isNum (h : NumT t q) : isNumT 0 t = true := by
  rcases h with rfl | ⟨i, rfl, _⟩ <;> rfl
theorem sub_R (hp : Sz 4000 p) (hn : NumT t q) (hq : Sz 4000 q) : T_Ratio_sub [RT p, t] pot = some (RT (p - q), pot) := by
  have ng := neg_R (pot := pot) (hq.le (show 4000 ≤ 8000 by decide))
  have := add_R (pot := pot) hp (numR (-q)) hq.neg
  simp only [T_Ratio_sub, FB_Ratio_sub, e_runB, e_call, e_cons, e_var, e_nil, List.map_cons, List.map_nil, List.cons_append, List.nil_append, List.replicate, List.getElem?_cons_succ, List.getElem?_cons_zero, as_ratio_N hn, e_ret, e_op, e_gOr, e_un, e_gOr1]
  rw [Rat.sub_eq_add_neg]
  simp only [RT] at this ng ⊢
  simp only [e_negIo, e_negO, if_true, ng, e_gIo, e_own1, isNumT, this, and_self, beq_self_eq_true]
abbrev oSub : T → T → M T := gOr gSub (gOr (gOwn 0 T_Ratio_sub) (gOwnR 0 T_Ratio_rsub))
abbrev oMul : T → T → M T := gOr gMul (gOr (gOwn 0 T_Ratio_mul) (gOwnR 0 T_Ratio_rmul))
theorem oSub_l (hp : Sz 4000 p) (hn : NumT t q) (hq : Sz 4000 q) : oSub (RT p) t pot = some (RT (p - q), pot) := by
  have := sub_R (pot := pot) hp hn hq
  have n := isNum hn
  simp only [RT] at this ⊢
  simp only [e_gOr, e_gIo, e_own1, n, this, and_self, if_true]
theorem oMul_i : oMul (.int i) (.int j) pot = if bits 400000 i && bits 400000 j then some (.int (i * j), pot) else none := by
  simp only [e_gOr, e_mul, e_gI, e_own0]
  split
  · rename_i z h
    split at h
    · rename_i hh
      rw [if_pos hh]
      exact h.symm
    · cases h
  · rename_i h
    split at h
    · cases h
    · rename_i hh
      rw [if_neg hh]
      rfl
end TL
namespace TL
open PySem PySem.Spec PyProof.Rows L2 Evl PF
variable {pot : Pot} {p q : Rat} {i j : Int} {t u : T} {τ : List Sl} {g : Tg} {Fe : FE}
theorem lc_paired {β : Type} {R : T → β → Prop} (f : β → T) : ∀ {l : List T} {r : List β}, Paired R l r → (∀ t b, R t b → b ∈ r → ∃ τ1, g.put t τ = some τ1 ∧ Fe τ1 pot = some (f b, pot)) → lcGo g fYes Fe τ l pot = some (r.map f, pot)
  | [], _, .nil, _ => rfl
  | t :: l, b :: r, .cons h hs, k => by
    obtain ⟨τ1, h1, h2⟩ := k t b h (List.mem_cons_self ..)
    have ih := lc_paired f hs fun t b y m => k t b y (List.mem_cons_of_mem _ m)
    simp only [List.map_cons, lcGo, h1, e_yes, h2, ih]
theorem all_trues {β : Type} (r : List β) : gAll true (r.map fun _ => T.bl true) = some (.bl true) := gall_true r _ fun _ _ => rfl
theorem seq_mk {k : Bool} {l : List T} : seqT (mkSeq k l) = some (k, l) := by cases k <;> rfl
theorem items_mk {k : Bool} {l : List T} {F : FE} (h : F τ pot = some (mkSeq k l, pot)) : fItems F τ pot = some (l, pot) := by
  cases k <;> simp [h, mkSeq]
theorem is_list_mk {k : Bool} {l : List T} : T_is_list [mkSeq k l] pot = some (.bl true, pot) := by
  cases k <;> simp [T_is_list, FB_is_list, mkSeq]
theorem put_mk {k : Bool} {l : List T} {is : List Nat} : (Tg.tu is).put (mkSeq k l) τ = setAll is l τ := by cases k <;> rfl
def RowT (t : T) (r : List Rat) : Prop := ∃ k l, t = mkSeq k l ∧ Paired NumT l r
theorem paired_map {α β γ : Type} {R : β → γ → Prop} (f : α → β) (h : α → γ) : ∀ (l : List α), (∀ a ∈ l, R (f a) (h a)) → Paired R (l.map f) (l.map h)
  | [], _ => .nil
  | a :: l, k => .cons (k a (List.mem_cons_self ..)) (paired_map f h l fun b hb => k b (List.mem_cons_of_mem _ hb))
theorem rowT_R (k : Bool) (r : List Rat) : RowT (mkSeq k (r.map RT)) r := ⟨k, _, rfl, by
  have := paired_map (R := NumT) RT id r fun a _ => numR a
  rwa [List.map_id] at this⟩
theorem ratio_row_N {k : Bool} {l : List T} {r : List Rat} (h : Paired NumT l r) (hl : l.length ≤ maxLen) : T_ratio_row [mkSeq k l] pot = some (.lst (r.map RT), pot) := by
  have hw : wipeT [1] [Sl.val (mkSeq k l), .no] = some [Sl.val (mkSeq k l), .no] := rfl
  have hi : fItems (fVar 0) [Sl.val (mkSeq k l), .no] pot = some (l, pot) := items_mk rfl
  have lc := lc_paired (pot := pot) (τ := [Sl.val (mkSeq k l), .no]) (g := .nm 1) (Fe := fCall T_as_ratio (fCons (fVar 1) fNil)) RT h fun t b y _ => ⟨_, rfl, by
    simp only [e_call, e_cons, e_var, e_nil, List.set_cons_succ, List.set_cons_zero, List.getElem?_cons_succ, List.getElem?_cons_zero, as_ratio_N y]⟩
  simp only [T_ratio_row, FB_ratio_row, e_runB, List.map_cons, List.map_nil, List.cons_append, List.nil_append, List.replicate, e_ret, e_lst, e_lc, hi, hw, hl, if_true, lc]
theorem is_row_N {k : Bool} {l : List T} {r : List Rat} {n : Int} (h : Paired NumT l r) (hl : l.length ≤ maxLen) (hn : n = l.length) : T_is_row [.int n, mkSeq k l] pot = some (.bl true, pot) := by
  have hw : wipeT [2] [Sl.val (.int n), Sl.val (mkSeq k l), .no] = some [Sl.val (.int n), Sl.val (mkSeq k l), .no] := rfl
  have hi : fItems (fVar 1) [Sl.val (.int n), Sl.val (mkSeq k l), .no] pot = some (l, pot) := items_mk rfl
  have lc := lc_paired (pot := pot) (τ := [Sl.val (.int n), Sl.val (mkSeq k l), .no]) (g := .nm 2) (Fe := fCall T_is_number (fCons (fVar 2) fNil)) (fun _ => .bl true) h fun t b y _ => ⟨_, rfl, by
    simp only [e_call, e_cons, e_var, e_nil, List.set_cons_succ, List.set_cons_zero, List.getElem?_cons_succ, List.getElem?_cons_zero, is_number_N y]⟩
  simp only [T_is_row, FB_is_row, e_runB, List.map_cons, List.map_nil, List.cons_append, List.nil_append, List.replicate, e_ret, e_andV, e_call, e_cons, e_var, e_nil, List.getElem?_cons_succ, List.getElem?_cons_zero, is_list_mk, e_op, e_sq1, seq_mk, e_len, e_eqI, hn.symm, decide_true, e_lst, e_lc, hi, hw, hl, if_true, lc, e_seqL, all_trues]
theorem are_rows_N {k : Bool} {ts : List T} {rs : List (List Rat)} {n m : Int} (h : Paired RowT ts rs) (hr : ∀ r ∈ rs, (r.length : Int) = n) (hn : n ≤ 1000) (hl : (ts.length : Int) ≤ m) (hm : m ≤ 40) : T_are_rows [.int n, mkSeq k ts, .int m] pot = some (.bl true, pot) := by
  have hw : wipeT [3] [Sl.val (.int n), Sl.val (mkSeq k ts), .val (.int m), .no] = some [Sl.val (.int n), Sl.val (mkSeq k ts), .val (.int m), .no] := rfl
  have hi : fItems (fVar 1) [Sl.val (.int n), Sl.val (mkSeq k ts), .val (.int m), .no] pot = some (ts, pot) := items_mk rfl
  have hz : ts.length ≤ maxLen := by show ts.length ≤ 40000; omega
  have lc := lc_paired (pot := pot) (τ := [Sl.val (.int n), Sl.val (mkSeq k ts), .val (.int m), .no]) (g := .nm 3) (Fe := fCall T_is_row (fCons (fVar 0) (fCons (fVar 3) fNil))) (fun _ => .bl true) h fun t b y mb => ⟨_, rfl, by
    obtain ⟨k2, l, rfl, pr⟩ := y
    have e := pr.length
    have e2 := hr b mb
    simp only [e_call, e_cons, e_var, e_nil, List.set_cons_succ, List.set_cons_zero, List.getElem?_cons_succ, List.getElem?_cons_zero, is_row_N pr (show l.length ≤ 40000 by omega) (show n = l.length by omega)]⟩
  simp only [T_are_rows, FB_are_rows, e_runB, List.map_cons, List.map_nil, List.cons_append, List.nil_append, List.replicate, e_ret, e_andV, e_call, e_cons, e_var, e_nil, List.getElem?_cons_succ, List.getElem?_cons_zero, is_list_mk, e_op, e_sq1, seq_mk, e_len, e_gI, if_true, hl, decide_true, e_lst, e_lc, hi, hw, hz, lc, e_seqL, all_trues]
abbrev QP := List Rat × List Rat
def PairT (t : T) (p : QP) : Prop := ∃ k a b, t = mkSeq k [a, b] ∧ RowT a p.1 ∧ RowT b p.2
def encP (p : QP) : T := .tup [.lst (p.1.map RT), .lst (p.2.map RT)]
theorem is_pair_N {t : T} {p : QP} {n : Int} (h : PairT t p) (h1 : (p.1.length : Int) = n) (h2 : (p.2.length : Int) = n) (hn : n ≤ 8) : T_is_pair [.int n, t] pot = some (.bl true, pot) := by
  obtain ⟨k, a, b, rfl, ra, rb⟩ := h
  have ar := are_rows_N (pot := pot) (k := k) (m := 2) (.cons ra (.cons rb .nil)) (fun r hr => by
    rcases List.mem_cons.mp hr with rfl | hr
    · exact h1
    · rcases List.mem_cons.mp hr with rfl | hr
      · exact h2
      · cases hr) (by omega) (by show (2 : Int) ≤ 2; decide) (by decide)
  simp only [T_is_pair, FB_is_pair, e_runB, List.map_cons, List.map_nil, List.cons_append, List.nil_append, List.replicate, e_ret, e_andV, e_call, e_cons, e_c, e_var, e_nil, List.getElem?_cons_succ, List.getElem?_cons_zero, ar, e_op, e_sq1, seq_mk, e_len, e_eqI]
  rfl
theorem rowT_len {t : T} {r : List Rat} (h : RowT t r) (hr : r.length ≤ 8) : T_ratio_row [t] pot = some (.lst (r.map RT), pot) := by
  obtain ⟨k, l, rfl, pr⟩ := h
  have e := pr.length
  exact ratio_row_N pr (show l.length ≤ 40000 by omega)
theorem copied_N {t : T} {p : QP} (h : PairT t p) (h1 : p.1.length ≤ 8) (h2 : p.2.length ≤ 8) : T_copied_pair [t] pot = some (encP p, pot) := by
  obtain ⟨k, a, b, rfl, ra, rb⟩ := h
  simp only [T_copied_pair, FB_copied_pair, e_runB, List.map_cons, List.map_nil, List.cons_append, List.nil_append, List.replicate, e_seq, e_asgT, e_var, List.getElem?_cons_succ, List.getElem?_cons_zero, put_mk, e_setS, e_set0, List.set_cons_succ, List.set_cons_zero, e_ret, e_tup, e_cons, e_lst, e_lstI, e_call, e_nil, rowT_len ra h1, rowT_len rb h2]
  rfl
def encPairs (n : Nat) (ps : List QP) : T := .ins 1 [.int n, .lst (ps.map encP)]
/-- so many numbers in each row -/
def Wide (n : Nat) (ps : List QP) : Prop := ∀ p ∈ ps, p.1.length = n ∧ p.2.length = n
theorem check_size_N {n m : Int} (h0 : 0 ≤ n) (h : n ≤ m) : T_check_size [.int n, .int m] pot = some (.non, pot) := by
  have nn : ¬ m < n := by omega
  have ct : T_is_count [.int n] pot = some (.bl true, pot) := by
    simp [T_is_count, FB_is_count, is_integer_int, h0]
  simp only [T_check_size, FB_check_size, e_runB, List.map_cons, List.map_nil, List.cons_append, List.nil_append, List.replicate, e_ifS, e_or, e_not, e_test, e_call, e_cons, e_var, e_nil, List.getElem?_cons_succ, List.getElem?_cons_zero, ct, Bool.not_true, e_op, e_gI, if_true, nn, decide_false, e_next]
theorem pairs_init {k : Bool} {n : Nat} {ts : List T} {ps : List QP} (h : Paired PairT ts ps) (hw : Wide n ps) (hn : n ≤ 8) (hl : ps.length ≤ 8) : T_Pairs_init [.int n, mkSeq k ts] pot = some (encPairs n ps, pot) := by
  have el := h.length
  have cs := check_size_N (pot := pot) (n := n) (m := 8) (by omega) (by omega)
  have hwp : ∀ s : Sl, isFree s = true → wipeT [3] [.obj 1 [], Sl.val (.int n), Sl.val (mkSeq k ts), s] = some [.obj 1 [], Sl.val (.int n), Sl.val (mkSeq k ts), .no] := fun s hs => by
    simp [wipeT, hs]
  have hwp2 : ∀ s : Sl, isFree s = true → wipeT [3] [.obj 1 [.int n], Sl.val (.int n), Sl.val (mkSeq k ts), s] = some [.obj 1 [.int n], Sl.val (.int n), Sl.val (mkSeq k ts), .no] := fun s hs => by
    simp [wipeT, hs]
  have hi : fItems (fVar 2) [.obj 1 [], Sl.val (.int n), Sl.val (mkSeq k ts), .no] pot = some (ts, pot) := items_mk rfl
  have hi2 : fItems (fVar 2) [.obj 1 [.int n], Sl.val (.int n), Sl.val (mkSeq k ts), .no] pot = some (ts, pot) := items_mk rfl
  have hz : ts.length ≤ maxLen := by show ts.length ≤ 40000; omega
  have lc := lc_paired (pot := pot) (τ := [.obj 1 [], Sl.val (.int n), Sl.val (mkSeq k ts), .no]) (g := .nm 3) (Fe := fCall T_is_pair (fCons (fVar 1) (fCons (fVar 3) fNil))) (fun _ => .bl true) h fun t b y mb => ⟨_, rfl, by
    simp only [e_call, e_cons, e_var, e_nil, List.set_cons_succ, List.set_cons_zero, List.getElem?_cons_succ, List.getElem?_cons_zero, is_pair_N y (show ((b.1.length : Nat) : Int) = n by rw [(hw b mb).1]) (show ((b.2.length : Nat) : Int) = n by rw [(hw b mb).2]) (show (n : Int) ≤ 8 by omega)]⟩
  have lc2 := lc_paired (pot := pot) (τ := [.obj 1 [.int n], Sl.val (.int n), Sl.val (mkSeq k ts), .no]) (g := .nm 3) (Fe := fCall T_copied_pair (fCons (fVar 3) fNil)) encP h fun t b y mb => ⟨_, rfl, by
    have := hw b mb
    simp only [e_call, e_cons, e_var, e_nil, List.set_cons_succ, List.set_cons_zero, List.getElem?_cons_succ, List.getElem?_cons_zero, copied_N y (show b.1.length ≤ 8 by omega) (show b.2.length ≤ 8 by omega)]⟩
  have nn : ¬ (8 : Int) < ts.length := by omega
  simp only [T_Pairs_init, FB_Pairs_init, e_runI, List.map_cons, List.map_nil, List.cons_append, List.nil_append, List.replicate, e_seq, e_drop, e_call, e_cons, e_c, e_var, e_nil, List.getElem?_cons_succ, List.getElem?_cons_zero, cs, e_ifS, e_or, e_not, e_test, is_list_mk, Bool.not_true, e_op, e_sq1, seq_mk, e_len, e_gI, if_true, nn, decide_false,
    e_lst, e_lc, hi, hwp .no rfl, hz, lc, e_seqL, all_trues, e_next, e_setA, and_self, List.length_nil, List.set_cons_zero, hi2, hwp2 .no rfl, lc2, List.length_cons, Nat.zero_add]
  rfl
theorem pairT_enc (p : QP) : PairT (encP p) p := ⟨false, _, _, rfl, rowT_R true _, rowT_R true _⟩
end TL
namespace TL
open PySem PySem.Spec PyProof.Rows L2 Evl PF
def PotOk (pot : Pot) : Prop := ∃ c m : Int, pot = some (c, m) ∧ 0 ≤ m ∧ m < 2147483648
def WP {α : Type} (x : M α) (Q : α → Prop) : Prop := ∀ p, PotOk p → ∃ a q, x p = some (a, q) ∧ PotOk q ∧ Q a
def WS (x : M Out) (N : List Sl → Prop) (R : T → Prop) : Prop := ∀ p, PotOk p → (∃ τ q, x p = some (.nx τ, q) ∧ PotOk q ∧ N τ) ∨ (∃ t q, x p = some (.rt t, q) ∧ PotOk q ∧ R t)
def BlP (t : T) (P : Bool → Prop) : Prop := ∃ b, t = .bl b ∧ P b
def IntP (t : T) (P : Int → Prop) : Prop := ∃ i, t = .int i ∧ P i
def LstP (t : T) (P : List T → Prop) : Prop := ∃ l, t = .lst l ∧ P l
def SqP (t : T) (P : Bool → List T → Prop) : Prop := ∃ k l, t = mkSeq k l ∧ P k l
def InsP (c : Nat) (t : T) (P : List T → Prop) : Prop := ∃ l, t = .ins c l ∧ P l
def IxP (us : List T) (u : T) (P : T → Prop) : Prop := ∃ i r, u = .int i ∧ atI us i = some r ∧ P r
def PutP (g : Tg) (t : T) (τ : List Sl) (P : List Sl → Prop) : Prop := ∃ τ', g.put t τ = some τ' ∧ P τ'
def One (ts : List T) (P : T → Prop) : Prop := ∃ t, ts = [t] ∧ P t
def Two (ts : List T) (P : T → T → Prop) : Prop := ∃ t u, ts = [t, u] ∧ P t u
def SomP {α : Type} (x : Option α) (P : α → Prop) : Prop := ∃ a, x = some a ∧ P a
def LenP (l : List T) (P : Prop) : Prop := l.length ≤ maxLen ∧ P
def AndP (C P : Prop) : Prop := C ∧ P
def IfP (b : Bool) (A B : Prop) : Prop := (b = true → A) ∧ (b = false → B)
theorem seq_mk' {k : Bool} {l : List T} : seqT (mkSeq k l) = some (k, l) := by cases k <;> rfl
section
variable {P : Bool → Prop} {PI : Int → Prop} {PL : List T → Prop} {PK : Bool → List T → Prop} {PT : T → Prop} {PS : List Sl → Prop} {A B C : Prop}
theorem blP {b : Bool} (h : P b) : BlP (.bl b) P := ⟨b, rfl, h⟩
theorem intP {i : Int} (h : PI i) : IntP (.int i) PI := ⟨i, rfl, h⟩
theorem lstP {l : List T} (h : PL l) : LstP (.lst l) PL := ⟨l, rfl, h⟩
theorem lstP_mk {l : List T} (h : PL l) : LstP (mkSeq true l) PL := ⟨l, rfl, h⟩
theorem sqP_l {l : List T} (h : PK true l) : SqP (.lst l) PK := ⟨true, l, rfl, h⟩
theorem sqP_t {l : List T} (h : PK false l) : SqP (.tup l) PK := ⟨false, l, rfl, h⟩
theorem sqP_m {k : Bool} {l : List T} (h : PK k l) : SqP (mkSeq k l) PK := ⟨k, l, rfl, h⟩
theorem oneP {t : T} (h : PT t) : One [t] PT := ⟨t, rfl, h⟩
theorem twoP {t u : T} {P : T → T → Prop} (h : P t u) : Two [t, u] P := ⟨t, u, rfl, h⟩
theorem insP {c : Nat} {l : List T} (h : PL l) : InsP c (.ins c l) PL := ⟨l, rfl, h⟩
theorem ixP {us : List T} {i : Int} {r : T} (e : atI us i = some r) (h : PT r) : IxP us (.int i) PT := ⟨i, r, rfl, e, h⟩
theorem ixP_map {α : Type} {l : List α} {enc : α → T} {n : Nat} {a : α} (e : l[n]? = some a) (h : PT (enc a)) : IxP (l.map enc) (.int (n : Nat)) PT := ⟨n, enc a, rfl, atI_at (by rw [List.getElem?_map, e]; rfl), h⟩
theorem putP {g : Tg} {t : T} {τ τ' : List Sl} (e : g.put t τ = some τ') (h : PS τ') : PutP g t τ PS := ⟨τ', e, h⟩
theorem somP {α : Type} {x : Option α} {a : α} {P : α → Prop} (e : x = some a) (h : P a) : SomP x P := ⟨a, e, h⟩
theorem lenP {l : List T} (e : l.length ≤ maxLen) (h : A) : LenP l A := ⟨e, h⟩
theorem lenP_map {α : Type} {l : List α} {enc : α → T} (e : l.length ≤ 40000) (h : A) : LenP (l.map enc) A := ⟨by rw [List.length_map]; exact e, h⟩
theorem andP (c : C) (h : A) : AndP C A := ⟨c, h⟩
theorem ifP_t (h : A) : IfP true A B := ⟨fun _ => h, fun e => nomatch e⟩
theorem ifP_f (h : B) : IfP false A B := ⟨(fun e => nomatch e), fun _ => h⟩
theorem ifP_not {b : Bool} (h : IfP b B A) : IfP (!b) A B := ⟨fun e => h.2 (by simpa using e), fun e => h.1 (by simpa using e)⟩
theorem ifP_dec {c : Prop} [Decidable c] (h : c → A) (k : ¬c → B) : IfP (decide c) A B := ⟨fun e => h (of_decide_eq_true e), fun e => k (of_decide_eq_false e)⟩
theorem ifP_pos {c : Prop} [Decidable c] (c1 : c) (h : A) : IfP (decide c) A B := ifP_dec (fun _ => h) fun n => absurd c1 n
theorem ifP_neg {c : Prop} [Decidable c] (c1 : ¬c) (h : B) : IfP (decide c) A B := ifP_dec (fun n => absurd n c1) fun _ => h
end
section
variable {α β : Type} {x : M α} {Q Q' : α → Prop} {τ : List Sl} {F G : FE} {FL GL : FI} {C D : FB} {A B : FS} {i j c k n : Nat} {g : Tg} {t u : T} {is vs : List Nat} {P : T → Prop} {PL : List T → Prop} {PB : Bool → Prop} {N : List Sl → Prop} {R : T → Prop}
theorem WP.mono (h : WP x Q) (k : ∀ a, Q a → Q' a) : WP x Q' := fun p hp => by
  obtain ⟨a, q, e, hq, z⟩ := h p hp
  exact ⟨a, q, e, hq, k a z⟩
theorem WS.mono {x : M Out} {N' : List Sl → Prop} {R' : T → Prop} (h : WS x N R) (k : ∀ τ, N τ → N' τ) (k2 : ∀ t, R t → R' t) : WS x N' R' := fun p hp => by
  rcases h p hp with ⟨τ, q, e, hq, z⟩ | ⟨t, q, e, hq, z⟩
  · exact .inl ⟨τ, q, e, hq, k τ z⟩
  · exact .inr ⟨t, q, e, hq, k2 t z⟩
theorem wp_some {a : α} {x : M α} (h : ∀ p, x p = some (a, p)) (z : Q a) : WP x Q := fun p hp => ⟨a, p, h p, hp, z⟩
/-- a value that is told whatever is drawn -/
theorem WP.at {a : α} {x : M α} (h : WP x (· = a)) (z : Q a) : WP x Q := h.mono fun b e => by rw [e]; exact z
theorem ws_seq (h : WS (A τ) (fun τ' => WS (B τ') N R) R) : WS (fSeq A B τ) N R := fun p hp => by
  rcases h p hp with ⟨τ', q, e, hq, z⟩ | ⟨t, q, e, hq, z⟩
  · rcases z q hq with ⟨τ2, q2, e2, h2, z2⟩ | ⟨t2, q2, e2, h2, z2⟩
    · exact .inl ⟨τ2, q2, by rw [e_seq, e]; exact e2, h2, z2⟩
    · exact .inr ⟨t2, q2, by rw [e_seq, e]; exact e2, h2, z2⟩
  · exact .inr ⟨t, q, by rw [e_seq, e], hq, z⟩
theorem ws_next (h : N τ) : WS (fNext τ) N R := fun p hp => .inl ⟨τ, p, rfl, hp, h⟩
theorem ws_of {F : M α} {S : M Out} {f : α → Out} (h : WP F Q) (e : ∀ p a q, F p = some (a, q) → S p = some (f a, q)) (z : ∀ a, Q a → match f a with | .nx τ => N τ | .rt t => R t) : WS S N R := fun p hp => by
  obtain ⟨a, q, e1, hq, y⟩ := h p hp
  have w := z a y
  have e2 := e p a q e1
  cases f : f a with
  | nx τ => rw [f] at w e2; exact .inl ⟨τ, q, e2, hq, w⟩
  | rt t => rw [f] at w e2; exact .inr ⟨t, q, e2, hq, w⟩
theorem ws_asg (h : WP (F τ) (fun t => N (τ.set i (.val t)))) : WS (fAsg F i τ) N R := ws_of (f := fun t => .nx (τ.set i (.val t))) h (fun p a q e => by rw [e_asg, e]) fun a z => z
theorem ws_asgO (h : WP (FL τ) (fun t => N (τ.set i (.own t)))) : WS (fAsgO FL i τ) N R := ws_of (f := fun t => .nx (τ.set i (.own t))) h (fun p a q e => by rw [e_asgO, e]) fun a z => z
theorem ws_asgT (h : WP (F τ) (fun t => PutP g t τ N)) : WS (fAsgT F g τ) N R := fun p hp => by
  obtain ⟨a, q, e1, hq, τ', y, z⟩ := h p hp
  exact .inl ⟨τ', q, by rw [e_asgT, e1]; simp only [y], hq, z⟩
theorem ws_drop (h : WP (F τ) (fun _ => N τ)) : WS (fDrop F τ) N R := ws_of (f := fun _ => .nx τ) h (fun p a q e => by rw [e_drop, e]) fun a z => z
theorem ws_ret (h : WP (F τ) R) : WS (fRet F τ) N R := ws_of (f := fun t => .rt t) h (fun p a q e => by rw [e_ret, e]) fun a z => z
theorem ws_retN (h : R .non) : WS (fRetN τ) N R := fun p hp => .inr ⟨.non, p, rfl, hp, h⟩
theorem ws_app {l : List T} (o : τ[i]? = some (.own l)) (h : WP (F τ) (fun t => AndP (l.length < maxLen) (N (τ.set i (.own (l ++ [t])))))) : WS (fApp i F τ) N R := fun p hp => by
  obtain ⟨a, q, e1, hq, y, z⟩ := h p hp
  exact .inl ⟨_, q, by rw [e_app, e1]; simp only [o, y, if_true], hq, z⟩
theorem ws_frz (h : WS (A (frz i τ)) N R) : WS (fFrz i A τ) N R := h
theorem ws_if (h : WP (C τ) (fun b => IfP b (WS (A τ) N R) (WS (B τ) N R))) : WS (fIfS C A B τ) N R := fun p hp => by
  obtain ⟨b, q, e1, hq, y1, y2⟩ := h p hp
  cases b with
  | true =>
    rcases y1 rfl q hq with ⟨τ2, q2, e2, h2, z2⟩ | ⟨t2, q2, e2, h2, z2⟩
    · exact .inl ⟨τ2, q2, by rw [e_ifS, e1]; exact e2, h2, z2⟩
    · exact .inr ⟨t2, q2, by rw [e_ifS, e1]; exact e2, h2, z2⟩
  | false =>
    rcases y2 rfl q hq with ⟨τ2, q2, e2, h2, z2⟩ | ⟨t2, q2, e2, h2, z2⟩
    · exact .inl ⟨τ2, q2, by rw [e_ifS, e1]; exact e2, h2, z2⟩
    · exact .inr ⟨t2, q2, by rw [e_ifS, e1]; exact e2, h2, z2⟩
theorem wp_of {F : M α} {S : M β} {f : α → β} {P : β → Prop} (h : WP F fun a => P (f a)) (e : ∀ p a q, F p = some (a, q) → S p = some (f a, q)) : WP S P := fun p hp => by
  obtain ⟨a, q, e1, hq, y⟩ := h p hp
  exact ⟨f a, q, e p a q e1, hq, y⟩
theorem wp_of2 {F : M α} {S : M β} {G : α → M β} {P : β → Prop} (h : WP F fun a => WP (G a) P) (e : ∀ p a q, F p = some (a, q) → S p = G a q) : WP S P := fun p hp => by
  obtain ⟨a, q, e1, hq, y⟩ := h p hp
  obtain ⟨b, q2, e2, h2, z⟩ := y q hq
  exact ⟨b, q2, by rw [e p a q e1, e2], h2, z⟩
theorem wp_var (h : τ[i]? = some (.val t)) (z : P t) : WP (fVar i τ) P := wp_some (fun p => by rw [e_var, h]) z
theorem wp_own {l : List T} (h : τ[i]? = some (.own l)) (z : PL l) : WP (fOwn i τ) PL := wp_some (fun p => by rw [e_own, h]) z
theorem wp_c (z : P t) : WP (fC t τ) P := wp_some (fun _ => rfl) z
theorem wp_lst (h : WP (FL τ) fun l => P (.lst l)) : WP (fLst FL τ) P := wp_of h fun p a q e => by rw [e_lst, e]
theorem wp_op {g : T → T → M T} (h : WP (F τ) fun a => WP (G τ) fun b => WP (g a b) P) : WP (fOp g F G τ) P := fun p hp => by
  obtain ⟨a, q, e1, hq, y⟩ := h p hp
  obtain ⟨b, q2, e2, h2, y2⟩ := y q hq
  obtain ⟨r, q3, e3, h3, y3⟩ := y2 q2 h2
  exact ⟨r, q3, by rw [e_op, e1]; simp only [e2, e3], h3, y3⟩
theorem wp_un {g : T → M T} (h : WP (F τ) fun a => WP (g a) P) : WP (fUn g F τ) P := wp_of2 h fun p a q e => by rw [e_un, e]
theorem wp_test (h : WP (F τ) fun t => BlP t PB) : WP (fTest F τ) PB := fun p hp => by
  obtain ⟨a, q, e1, hq, b, rfl, y⟩ := h p hp
  exact ⟨b, q, by rw [e_test, e1], hq, y⟩
theorem wp_not (h : WP (C τ) fun b => PB (!b)) : WP (fNot C τ) PB := wp_of h fun p a q e => by rw [e_not, e]
theorem wp_and (h : WP (C τ) fun b => IfP b (WP (D τ) PB) (PB false)) : WP (fAnd C D τ) PB := fun p hp => by
  obtain ⟨b, q, e1, hq, y1, y2⟩ := h p hp
  cases b with
  | true =>
    obtain ⟨b2, q2, e2, h2, z⟩ := y1 rfl q hq
    exact ⟨b2, q2, by rw [e_and, e1]; exact e2, h2, z⟩
  | false => exact ⟨false, q, by rw [e_and, e1], hq, y2 rfl⟩
theorem wp_or (h : WP (C τ) fun b => IfP b (PB true) (WP (D τ) PB)) : WP (fOr C D τ) PB := fun p hp => by
  obtain ⟨b, q, e1, hq, y1, y2⟩ := h p hp
  cases b with
  | false =>
    obtain ⟨b2, q2, e2, h2, z⟩ := y2 rfl q hq
    exact ⟨b2, q2, by rw [e_or, e1]; exact e2, h2, z⟩
  | true => exact ⟨true, q, by rw [e_or, e1], hq, y1 rfl⟩
theorem wp_andV (h : WP (F τ) fun t => BlP t fun b => IfP b (WP (G τ) P) (P (.bl false))) : WP (fAndV F G τ) P := fun p hp => by
  obtain ⟨t, q, e1, hq, b, rfl, y1, y2⟩ := h p hp
  cases b with
  | true =>
    obtain ⟨b2, q2, e2, h2, z⟩ := y1 rfl q hq
    exact ⟨b2, q2, by rw [e_andV, e1]; exact e2, h2, z⟩
  | false => exact ⟨_, q, by rw [e_andV, e1], hq, y2 rfl⟩
theorem wp_orV (h : WP (F τ) fun t => BlP t fun b => IfP b (P (.bl true)) (WP (G τ) P)) : WP (fOrV F G τ) P := fun p hp => by
  obtain ⟨t, q, e1, hq, b, rfl, y1, y2⟩ := h p hp
  cases b with
  | false =>
    obtain ⟨b2, q2, e2, h2, z⟩ := y2 rfl q hq
    exact ⟨b2, q2, by rw [e_orV, e1]; exact e2, h2, z⟩
  | true => exact ⟨_, q, by rw [e_orV, e1], hq, y1 rfl⟩
theorem wp_notV (h : WP (F τ) fun t => BlP t fun b => P (.bl (!b))) : WP (fNotV F τ) P := fun p hp => by
  obtain ⟨a, q, e1, hq, b, rfl, y⟩ := h p hp
  exact ⟨_, q, by rw [e_notV, e1], hq, y⟩
theorem wp_if (h : WP (C τ) fun b => IfP b (WP (F τ) P) (WP (G τ) P)) : WP (fIf C F G τ) P := fun p hp => by
  obtain ⟨b, q, e1, hq, y1, y2⟩ := h p hp
  cases b with
  | true =>
    obtain ⟨b2, q2, e2, h2, z⟩ := y1 rfl q hq
    exact ⟨b2, q2, by rw [e_if, e1]; exact e2, h2, z⟩
  | false =>
    obtain ⟨b2, q2, e2, h2, z⟩ := y2 rfl q hq
    exact ⟨b2, q2, by rw [e_if, e1]; exact e2, h2, z⟩
theorem wp_nil (h : PL []) : WP (fNil τ) PL := wp_some (fun _ => rfl) h
theorem wp_cons (h : WP (F τ) fun t => WP (GL τ) fun ts => PL (t :: ts)) : WP (fCons F GL τ) PL := fun p hp => by
  obtain ⟨a, q, e1, hq, y⟩ := h p hp
  obtain ⟨b, q2, e2, h2, y2⟩ := y q hq
  exact ⟨_, q2, by rw [e_cons, e1]; simp only [e2], h2, y2⟩
theorem wp_tup (h : WP (FL τ) fun l => LenP l (P (.tup l))) : WP (fTup FL τ) P := fun p hp => by
  obtain ⟨a, q, e1, hq, y, z⟩ := h p hp
  exact ⟨_, q, by rw [e_tup, e1]; simp only [y, if_true], hq, z⟩
theorem wp_len (h : WP (FL τ) fun l => LenP l (PL l)) : WP (fLen FL τ) PL := fun p hp => by
  obtain ⟨a, q, e1, hq, y, z⟩ := h p hp
  exact ⟨_, q, by rw [e_lenF, e1]; simp only [y, if_true], hq, z⟩
theorem wp_call {f : List T → M T} (h : WP (FL τ) fun ts => WP (f ts) P) : WP (fCall f FL τ) P := wp_of2 h fun p a q e => by rw [e_call, e]
theorem wp_lstI (h : WP (F τ) fun t => LstP t PL) : WP (fLstI F τ) PL := fun p hp => by
  obtain ⟨a, q, e1, hq, l, rfl, y⟩ := h p hp
  exact ⟨l, q, by rw [e_lstI, e1], hq, y⟩
theorem wp_items (h : WP (F τ) fun t => SqP t fun _ l => PL l) : WP (fItems F τ) PL := fun p hp => by
  obtain ⟨a, q, e1, hq, k, l, rfl, y⟩ := h p hp
  exact ⟨l, q, by cases k <;> simp only [e_items, e1, mkSeq], hq, y⟩
theorem wp_perm (h : WP (FL τ) fun ts => PL (perm is ts)) : WP (fPerm is FL τ) PL := wp_of h fun p a q e => by rw [e_perm, e]
theorem wp_yes (h : PB true) : WP (fYes τ) PB := wp_some (fun _ => rfl) h
theorem wp_isi {c : Cl} (h : WP (F τ) fun t => SomP (isiT t c) fun b => P (.bl b)) : WP (fIsi c F τ) P := fun p hp => by
  obtain ⟨a, q, e1, hq, b, e, y⟩ := h p hp
  exact ⟨_, q, by rw [e_isi, e1]; simp only [e], hq, y⟩
theorem wp_isiT (h : WP (F τ) fun t => SomP (isiT t (.ty "list")) fun b => SomP (isiT t (.ty "tuple")) fun c => P (.bl (b || c))) : WP (fIsiT F τ) P := fun p hp => by
  obtain ⟨a, q, e1, hq, b, e, c, e2, y⟩ := h p hp
  exact ⟨_, q, by rw [e_isiT, e1]; simp only [e, e2], hq, y⟩
theorem wp_cbA {g : List T → Option T} (h : WP (FL τ) fun ts => SomP (g ts) P) : WP (fCbA g FL τ) P := fun p hp => by
  obtain ⟨a, q, e1, hq, b, e, y⟩ := h p hp
  exact ⟨_, q, by rw [e_cbA, e1]; simp only [e], hq, y⟩
theorem wp_sq1 {g : Bool → List T → Option T} (h : WP (F τ) fun t => SqP t fun k us => SomP (g k us) P) : WP (fSq1 g F τ) P := fun p hp => by
  obtain ⟨a, q, e1, hq, k, us, rfl, r, e, y⟩ := h p hp
  exact ⟨r, q, sq1_at e1 e, hq, y⟩
theorem wp_ix (h : WP (F τ) fun t => SqP t fun _ us => WP (G τ) fun u => IxP us u P) : WP (fIx F G τ) P := fun p hp => by
  obtain ⟨a, q, e1, hq, k, us, rfl, y⟩ := h p hp
  obtain ⟨b, q2, e2, h2, i, r, rfl, e, z⟩ := y q hq
  exact ⟨r, q2, ix_at e1 e2 e, h2, z⟩
theorem wp_fld (h : WP (F τ) fun t => InsP c t fun l => SomP l[i]? P) : WP (fFld c i F τ) P := fun p hp => by
  obtain ⟨a, q, e1, hq, l, rfl, r, e, y⟩ := h p hp
  exact ⟨r, q, by rw [e_fld, e1]; simp only [if_true, e], hq, y⟩
theorem wp_prop {f : List T → M T} (h : WP (F τ) fun t => InsP c t fun l => WP (f [.ins c l]) P) : WP (fProp c f F τ) P := fun p hp => by
  obtain ⟨a, q, e1, hq, l, rfl, y⟩ := h p hp
  obtain ⟨b, q2, e2, h2, z⟩ := y q hq
  exact ⟨b, q2, by rw [e_prop, e1]; simp only [if_true, e2], h2, z⟩
theorem wp_meth {f : List T → M T} (h : WP (F τ) fun t => InsP c t fun l => WP (FL τ) fun ts => WP (f (.ins c l :: ts)) P) : WP (fMeth c f F FL τ) P := fun p hp => by
  obtain ⟨a, q, e1, hq, l, rfl, y⟩ := h p hp
  obtain ⟨b, q2, e2, h2, z⟩ := y q hq
  obtain ⟨b3, q3, e3, h3, z3⟩ := z q2 h2
  exact ⟨b3, q3, by rw [e_meth, e1]; simp only [if_true, e2, e3], h3, z3⟩
theorem wp_seq2 (h : WP (F τ) fun t => SqP t fun _ us => LenP us (PL us)) : WP (fSeq2 F τ) PL := fun p hp => by
  obtain ⟨a, q, e1, hq, k, us, rfl, e, y⟩ := h p hp
  exact ⟨us, q, by rw [e_seq2, e1]; simp only [seq_mk', e, if_true], hq, y⟩
theorem wp_tupOf (h : WP (F τ) fun t => LstP t fun us => P (.tup us)) : WP (fTupOf F τ) P := fun p hp => by
  obtain ⟨a, q, e1, hq, us, rfl, y⟩ := h p hp
  exact ⟨_, q, by rw [e_tupOf, e1], hq, y⟩
theorem wp_cat (h : WP (F τ) fun t => LstP t fun us => WP (G τ) fun u => LstP u fun ws => AndP (us.length + ws.length ≤ maxLen) (PL (us ++ ws))) : WP (fCat F G τ) PL := fun p hp => by
  obtain ⟨a, q, e1, hq, us, rfl, y⟩ := h p hp
  obtain ⟨b, q2, e2, h2, ws, rfl, e, z⟩ := y q hq
  exact ⟨_, q2, by rw [e_cat, e1]; simp only [e2, e, if_true], h2, z⟩
theorem wp_repL (h : WP (F τ) fun t => LstP t fun us => WP (G τ) fun u => IntP u fun k => AndP (-(2 ^ 62) ≤ k ∧ k < 2 ^ 62 ∧ us.length * k.toNat ≤ maxLen) (PL ((List.replicate k.toNat us).flatten))) : WP (fRepL F G τ) PL := fun p hp => by
  obtain ⟨a, q, e1, hq, us, rfl, y⟩ := h p hp
  obtain ⟨b, q2, e2, h2, k, rfl, e, z⟩ := y q hq
  refine ⟨_, q2, ?_, h2, z⟩
  rw [e_repL, e1]
  simp only [e2]
  rw [if_pos e]
theorem wp_range1 (h : WP (FL τ) fun ts => One ts fun t => IntP t fun j => AndP (-(2 ^ 62) ≤ j ∧ j < 2 ^ 62) (PL (intsT 0 j.toNat))) : WP (fRange1 FL τ) PL := fun p hp => by
  obtain ⟨a, q, e1, hq, _, rfl, j, rfl, e, y⟩ := h p hp
  refine ⟨_, q, ?_, hq, y⟩
  rw [e_range1, e1]
  show (if _ then _ else _) = _
  rw [if_pos e]
theorem wp_zipM (h : WP (FL τ) fun ts => Two ts fun t u => SqP t fun _ us => SqP u fun _ ws => PL (us.zipWith (fun t u => .tup [t, u]) ws)) : WP (fZipM FL τ) PL := fun p hp => by
  obtain ⟨a, q, e1, hq, _, _, rfl, k, us, rfl, m, ws, rfl, y⟩ := h p hp
  refine ⟨_, q, ?_, hq, y⟩
  rw [e_zipM, e1]
  cases k <;> cases m <;> rfl
theorem wp_enum (h : WP (FL τ) fun ts => One ts fun t => LstP t fun us => PL ((List.range us.length).zipWith (fun i t => .tup [.int (i : Nat), t]) us)) : WP (fEnum FL τ) PL := fun p hp => by
  obtain ⟨a, q, e1, hq, _, rfl, us, rfl, y⟩ := h p hp
  exact ⟨_, q, by rw [e_enum, e1], hq, y⟩
theorem wp_repr {Ps : T → Prop} (h : WP (F τ) fun t => SomP (reprT t) fun x => AndP (x.length ≤ sizeLine) (Ps (.str x))) : WP (fRepr F τ) Ps := fun p hp => by
  obtain ⟨a, q, e1, hq, x, e, l, y⟩ := h p hp
  exact ⟨_, q, by rw [e_repr, e1]; simp only [e, l, if_true], hq, y⟩
theorem wp_lc {Fe : FE} (h : WP (FL τ) fun its => SomP (wipeT vs τ) fun τw => LenP its (WP (lcGo g C Fe τw its) PL)) : WP (fLc FL g vs C Fe τ) PL := fun p hp => by
  obtain ⟨its, q, e1, hq, τw, e, l, y⟩ := h p hp
  obtain ⟨b, q2, e2, h2, z⟩ := y q hq
  exact ⟨b, q2, lc_at e1 e l e2, h2, z⟩
theorem wp_map {Fe : FE} (l : List α) (enc f : α → T) (h : ∀ a ∈ l, PutP g (enc a) τ fun τ1 => WP (Fe τ1) (· = f a)) (z : PL (l.map f)) : WP (lcGo g fYes Fe τ (l.map enc)) PL := by
  refine WP.at ?_ z
  clear z
  induction l with
  | nil => exact wp_some (fun _ => rfl) rfl
  | cons a l ih =>
    obtain ⟨τ1, h1, h2⟩ := h a (List.mem_cons_self ..)
    have ih := ih fun b hb => h b (List.mem_cons_of_mem _ hb)
    intro p hp
    obtain ⟨r, q, e1, hq, rfl⟩ := h2 p hp
    obtain ⟨rs, q2, e2, h2, rfl⟩ := ih q hq
    exact ⟨_, q2, by simp only [List.map_cons, lcGo, h1, e_yes, e1, e2], h2, rfl⟩
inductive All2 (S : α → β → Prop) : List α → List β → Prop
  | nil : All2 S [] []
  | cons {a b l m} : S a b → All2 S l m → All2 S (a :: l) (b :: m)
/-- .. of which each is of some kind -/
theorem wp_mapE {Fe : FE} (S : α → β → Prop) (l : List α) (enc : α → T) (e2 : β → T) (h : ∀ a ∈ l, PutP g (enc a) τ fun τ1 => WP (Fe τ1) (fun t => ∃ b, t = e2 b ∧ S a b)) (z : ∀ m, All2 S l m → PL (m.map e2)) : WP (lcGo g fYes Fe τ (l.map enc)) PL := by
  have : WP (lcGo g fYes Fe τ (l.map enc)) (fun ts => ∃ m, ts = m.map e2 ∧ All2 S l m) := by
    clear z
    induction l with
    | nil => exact wp_some (fun _ => rfl) ⟨[], rfl, .nil⟩
    | cons a l ih =>
      obtain ⟨τ1, h1, h2⟩ := h a (List.mem_cons_self ..)
      have ih := ih fun b hb => h b (List.mem_cons_of_mem _ hb)
      intro p hp
      obtain ⟨r, q, e1, hq, b, rfl, sb⟩ := h2 p hp
      obtain ⟨rs, q2, e2, h2, m, rfl, sm⟩ := ih q hq
      exact ⟨_, q2, by simp only [List.map_cons, lcGo, h1, e_yes, e1, e2], h2, b :: m, rfl, .cons sb sm⟩
  exact this.mono fun ts ⟨m, e, s⟩ => by rw [e]; exact z m s
theorem ws_for {Fb : FS} (h : WP (FL τ) fun its => WS (forGo g Fb its τ) N R) : WS (fFor FL g Fb τ) N R := fun p hp => by
  obtain ⟨its, q, e1, hq, y⟩ := h p hp
  rcases y q hq with ⟨τ2, q2, e2, h2, z2⟩ | ⟨t2, q2, e2, h2, z2⟩
  · exact .inl ⟨τ2, q2, by rw [e_for, e1]; exact e2, h2, z2⟩
  · exact .inr ⟨t2, q2, by rw [e_for, e1]; exact e2, h2, z2⟩
/-- .. with what holds behind each part of the list -/
theorem ws_go {Fb : FS} (I : List α → List Sl → Prop) (l : List α) (enc : α → T) (h0 : I [] τ) (hs : ∀ pre a post τ, l = pre ++ a :: post → I pre τ → PutP g (enc a) τ fun τ1 => WS (Fb τ1) (I (pre ++ [a])) R) (hN : ∀ τ, I l τ → N τ) : WS (forGo g Fb (l.map enc) τ) N R := by
  suffices H : ∀ post pre τ, l = pre ++ post → I pre τ → WS (forGo g Fb (post.map enc) τ) N R from H l [] τ rfl h0
  intro post
  induction post with
  | nil =>
    intro pre τ e i
    rw [List.append_nil] at e
    subst e
    exact fun p hp => .inl ⟨τ, p, rfl, hp, hN τ i⟩
  | cons a post ih =>
    intro pre τ e i
    obtain ⟨τ1, h1, h2⟩ := hs pre a post τ e i
    intro p hp
    rcases h2 p hp with ⟨τ2, q2, e2, hq, z2⟩ | ⟨t2, q2, e2, hq, z2⟩
    · rcases ih (pre ++ [a]) τ2 (by rw [e, List.append_assoc]; rfl) z2 q2 hq with ⟨τ3, q3, e3, h3, z3⟩ | ⟨t3, q3, e3, h3, z3⟩
      · exact .inl ⟨τ3, q3, by simp only [List.map_cons, forGo, h1, e2, e3], h3, z3⟩
      · exact .inr ⟨t3, q3, by simp only [List.map_cons, forGo, h1, e2, e3], h3, z3⟩
    · exact .inr ⟨t2, q2, by simp only [List.map_cons, forGo, h1, e2], hq, z2⟩
theorem ws_parX {X : FX} (h : WP (X τ) fun ss => SomP (setX is ss τ) N) : WS (fParX X is τ) N R := fun p hp => by
  obtain ⟨ss, q, e1, hq, τ', e, y⟩ := h p hp
  exact .inl ⟨τ', q, by rw [e_parX, e1]; simp only [e], hq, y⟩
theorem wp_xnil {P : List Sl → Prop} (h : P []) : WP (fXNil τ) P := wp_some (fun _ => rfl) h
theorem wp_xval {X : FX} {P : List Sl → Prop} (h : WP (F τ) fun t => WP (X τ) fun ss => P (.val t :: ss)) : WP (fXVal F X τ) P := fun p hp => by
  obtain ⟨a, q, e1, hq, y⟩ := h p hp
  obtain ⟨b, q2, e2, h2, y2⟩ := y q hq
  exact ⟨_, q2, by rw [e_xval, e1]; simp only [e2], h2, y2⟩
theorem wp_xown {X : FX} {P : List Sl → Prop} (h : WP (FL τ) fun t => WP (X τ) fun ss => P (.own t :: ss)) : WP (fXOwn FL X τ) P := fun p hp => by
  obtain ⟨a, q, e1, hq, y⟩ := h p hp
  obtain ⟨b, q2, e2, h2, y2⟩ := y q hq
  exact ⟨_, q2, by rw [e_xown, e1]; simp only [e2], h2, y2⟩
theorem wp_noPart {P : Option Int → Prop} (h : P none) : WP (fNoPart τ) P := wp_some (fun _ => rfl) h
theorem wp_part {P : Option Int → Prop} (h : WP (F τ) fun t => IntP t fun i => P (some i)) : WP (fPart F τ) P := fun p hp => by
  obtain ⟨a, q, e1, hq, i, rfl, y⟩ := h p hp
  exact ⟨_, q, by rw [e_part, e1], hq, y⟩
theorem wp_sl {X Y : List Sl → M (Option Int)} (h : WP (F τ) fun t => LstP t fun us => WP (X τ) fun lo => WP (Y τ) fun hi => PL (cutT us lo hi)) : WP (fSl F X Y τ) PL := fun p hp => by
  obtain ⟨a, q, e1, hq, us, rfl, y⟩ := h p hp
  obtain ⟨lo, q2, e2, h2, y2⟩ := y q hq
  obtain ⟨hi, q3, e3, h3, y3⟩ := y2 q2 h2
  exact ⟨_, q3, by rw [e_sl, e1]; simp only [e2, e3], h3, y3⟩
theorem wp_run {FB : FS} {k : Nat} {ts : List T} (h : WS (FB (ts.map .val ++ List.replicate k .no)) (fun _ => P .non) P) : WP (runB FB k ts) P := fun p hp => by
  rcases h p hp with ⟨τ2, q2, e2, h2, z2⟩ | ⟨t2, q2, e2, h2, z2⟩
  · exact ⟨.non, q2, by rw [e_runB, e2], h2, z2⟩
  · exact ⟨t2, q2, by rw [e_runB, e2], h2, z2⟩
theorem wp_gI {cc : Int → Int → Bool} {f : Int → Int → T} {i j : Int} (hc : cc i j = true) (z : P (f i j)) : WP (gI cc f (.int i) (.int j)) P := wp_some (fun p => by rw [e_gI, if_pos hc]) z
theorem wp_or1 {f f' : T → T → M T} (h : WP (f t u) P) : WP (gOr f f' t u) P := fun p hp => by
  obtain ⟨a, q, e, hq, z⟩ := h p hp
  exact ⟨a, q, by rw [e_gOr, e], hq, z⟩
theorem wp_or2 {f f' : T → T → M T} (n : ∀ p, f t u p = none) (h : WP (f' t u) P) : WP (gOr f f' t u) P := fun p hp => by
  obtain ⟨a, q, e, hq, z⟩ := h p hp
  exact ⟨a, q, by rw [e_gOr, n, e], hq, z⟩
theorem wp_eqI {i j : Int} (z : P (.bl (decide (i = j)))) : WP (gEqA false (.int i) (.int j)) P := wp_some (fun p => e_eqI) z
theorem wp_neI {i j : Int} (z : P (.bl (!decide (i = j)))) : WP (gEqA true (.int i) (.int j)) P := by
  refine wp_some (fun p => ?_) z
  · have : gEqA true (.int i) (.int j) p = some (.bl (!decide (toV (.int i) = toV (.int j))), p) := (rfl)
    rw [this]
    simp [toV]
end
end TL
namespace TL
open PySem PySem.Spec PyProof.Rows L2 Evl PF
def RgP (ts : List T) (P : Int → Int → Prop) : Prop := ∃ i j, ts = [.int i, .int j] ∧ P i j
theorem rgP {i j : Int} {P : Int → Int → Prop} (h : P i j) : RgP [.int i, .int j] P := ⟨i, j, rfl, h⟩
def LcmP (i j : Int) (P : T → Prop) : Prop := SomP (gLcm [.int i, .int j]) P
theorem lcmP {i j : Int} {P : T → Prop} (h : LcmP i j P) : SomP (gLcm [.int i, .int j]) P := h
def PlP (t : T) (P : T → Prop) : Prop := noL t = true ∧ P t
theorem plP {t : T} {P : T → Prop} (e : noL t = true) (h : P t) : PlP t P := ⟨e, h⟩
section
variable {α β : Type} {τ : List Sl} {F G Fe : FE} {FL GL FL1 : FI} {C D : FB} {A B : FS} {i j c k n : Nat} {g g1 : Tg} {t u : T} {is vs vs1 : List Nat} {P : T → Prop} {PL : List T → Prop} {PB : Bool → Prop} {N : List Sl → Prop} {R : T → Prop}
theorem wp_negI {x : Int} (z : P (.int (-x))) : WP (gNegI (.int x)) P := wp_some (fun _ => rfl) z
theorem wp_plain (h : WP (F τ) fun t => PlP t P) : WP (fPlain F τ) P := fun p hp => by
  obtain ⟨a, q, e1, hq, e, y⟩ := h p hp
  exact ⟨a, q, by unfold fPlain; rw [e1]; simp only [e, if_true], hq, y⟩
theorem wp_tru (h : WP (F τ) fun t => SomP (truT t) PB) : WP (fTru F τ) PB := fun p hp => by
  obtain ⟨a, q, e1, hq, b, e, y⟩ := h p hp
  exact ⟨b, q, by unfold fTru; rw [e1]; simp only [e], hq, y⟩
theorem wp_range2 (h : WP (FL τ) fun ts => RgP ts fun i j => AndP (-(2 ^ 62) ≤ i ∧ i < 2 ^ 62 ∧ -(2 ^ 62) ≤ j ∧ j < 2 ^ 62) (PL (intsT i (j - i).toNat))) : WP (fRange2 FL τ) PL := fun p hp => by
  obtain ⟨a, q, e1, hq, i, j, rfl, e, y⟩ := h p hp
  refine ⟨_, q, ?_, hq, y⟩
  unfold fRange2
  rw [e1]
  show (if _ then _ else _) = _
  rw [if_pos e]
theorem wp_lc2 (h : WP (FL τ) fun its => SomP (wipeT vs τ) fun τw => WP (lc2Go g C FL1 g1 vs1 D Fe τw its) fun r => LenP r (PL r)) : WP (fLc2 FL g vs C FL1 g1 vs1 D Fe τ) PL := fun p hp => by
  obtain ⟨its, q, e1, hq, τw, e, y⟩ := h p hp
  obtain ⟨b, q2, e2, h2, l, z⟩ := y q hq
  exact ⟨b, q2, lc2_at e1 e e2 l, h2, z⟩
theorem ws_set {us : List T} (o : τ[i]? = some (.own us)) (h : WP (F τ) fun t => WP (G τ) fun u => IntP u fun k => SomP (ixN us.length k) fun j => N (τ.set i (.own (us.set j t)))) : WS (fSet i G F τ) N R := fun p hp => by
  obtain ⟨t, q, e1, hq, y⟩ := h p hp
  obtain ⟨u, q2, e2, h2, k, rfl, j, e3, z⟩ := y q hq
  exact .inl ⟨_, q2, by unfold fSet; rw [e1]; simp only [e2, o, e3], h2, z⟩
theorem wp_in {neg : Bool} (h : WP (F τ) fun a => WP (G τ) fun b => SqP b fun _ us => AndP (isAtom a = true ∧ us.all isAtom = true) (P (.bl (if neg then !inV (toV a) (us.map toV) else inV (toV a) (us.map toV))))) : WP (fIn neg F G τ) P := fun p hp => by
  obtain ⟨a, q, e1, hq, y⟩ := h p hp
  obtain ⟨b, q2, e2, h2, k, us, rfl, e, z⟩ := y q hq
  refine ⟨_, q2, ?_, h2, z⟩
  unfold fIn
  rw [e1]
  simp only [e2, seq_mk']
  rw [if_pos e]
theorem wp_sortU (h : WP (F τ) fun t => SqP t fun _ us => SomP (allM intOf us) fun ns => AndP (ns.length < 64) (PL ((sortU ns).map .int))) : WP (fSortU F τ) PL := fun p hp => by
  obtain ⟨a, q, e1, hq, k, us, rfl, ns, e, l, z⟩ := h p hp
  refine ⟨_, q, ?_, hq, z⟩
  unfold fSortU
  rw [e1]
  simp only [seq_mk', e, l, if_true]
theorem wp_seq2A (h : WP (F τ) fun t => SqP t fun _ us => AndP (us.length ≤ maxLen ∧ us.all isAtom = true) (PL us)) : WP (fSeq2A F τ) PL := fun p hp => by
  obtain ⟨a, q, e1, hq, k, us, rfl, e, y⟩ := h p hp
  refine ⟨us, q, ?_, hq, y⟩
  unfold fSeq2A
  rw [e1]
  simp only [seq_mk']
  rw [if_pos e]
/-- the first item of the same worth goes -/
def RemP (us : List T) (t : T) (PL : List T → Prop) : Prop := ∃ ds d j, toDs us = some ds ∧ toD t = some d ∧ (SeqAt.shaped (.list ds) = true ∧ SeqAt.shaped d = true) ∧ ds.findIdx? (fun z => PyData.eqv z d) = some j ∧ PL (us.eraseIdx j)
theorem ws_rem {us : List T} (o : τ[i]? = some (.own us)) (h : WP (F τ) fun t => RemP us t fun ws => N (τ.set i (.own ws))) : WS (fRem i F τ) N R := fun p hp => by
  obtain ⟨t, q, e1, hq, ds, d, k, e2, e3, e4, e5, z⟩ := h p hp
  refine .inl ⟨_, q, ?_, hq, z⟩
  unfold fRem
  rw [e1]
  simp only [o, e2, e3]
  rw [if_pos e4]
  simp only [e5]
theorem wp_star (h : WP (F τ) fun t => SqP t fun _ us => WP (GL τ) fun ts => PL (us ++ ts)) : WP (fStar F GL τ) PL := fun p hp => by
  obtain ⟨a, q, e1, hq, k, us, rfl, y⟩ := h p hp
  obtain ⟨b, q2, e2, h2, z⟩ := y q hq
  refine ⟨_, q2, ?_, h2, z⟩
  unfold fStar
  rw [e1]
  simp only [seq_mk', e2]
theorem ws_pop {us : List T} {Fi : FE} (o : τ[i]? = some (.own us)) (h : WP (Fi τ) fun t => IntP t fun k => AndP (-(2 ^ 63) ≤ k ∧ k < 2 ^ 63) (SomP (seqIndex? k us.length) fun n => SomP us[n]? fun t => N ((τ.set i (.own (us.eraseIdx n))).set j (.val t)))) : WS (fPop j i Fi τ) N R := fun p hp => by
  obtain ⟨t, q, e1, hq, k, rfl, b, n, e2, v, e3, z⟩ := h p hp
  exact .inl ⟨_, q, by unfold fPop; rw [e1]; simp only [o, e2, e3, b, and_self, if_true], hq, z⟩
theorem wp_callO {f : List T → M T} {Fp : FE} {us : List T} (o : τ[i]? = some (.own us)) (h : WP (Fp τ) fun t => t = .pot ∧ WP (f [.pot, .lst us]) P) : WP (fCallO f Fp i τ) P := fun p hp => by
  obtain ⟨t, q, e1, hq, rfl, y⟩ := h p hp
  obtain ⟨b, q2, e2, h2, z⟩ := y q hq
  exact ⟨b, q2, by unfold fCallO; rw [e1]; simp only [o, e2], h2, z⟩
/-- a new instance -/
theorem wp_runI {FB : FS} {ts : List T} (h : WS (FB (.obj c [] :: (ts.map .val ++ List.replicate k .no))) (fun τ => ∃ l rest, τ = .obj c l :: rest ∧ l.length = n ∧ P (.ins c l)) (fun _ => False)) : WP (runI c n FB k ts) P := fun p hp => by
  rcases h p hp with ⟨τ2, q2, e2, h2, l, rest, rfl, e, z⟩ | ⟨t2, q2, e2, h2, z2⟩
  · exact ⟨_, q2, by rw [e_runI, e2]; simp only [e, and_self, if_true], h2, z⟩
  · exact z2.elim
theorem ws_setA {l : List T} (o : τ[(0 : Nat)]? = some (.obj c l)) (hl : l.length = j) (h : WP (F τ) fun t => N (τ.set 0 (.obj c (l ++ [t])))) : WS (fSetA c j F τ) N R := fun p hp => by
  obtain ⟨t, q, e1, hq, z⟩ := h p hp
  exact .inl ⟨_, q, by rw [e_setA, e1]; simp only [o, hl, and_self, if_true], hq, z⟩
theorem All2.len {S : α → β → Prop} : ∀ {l : List α} {m : List β}, All2 S l m → l.length = m.length
  | _, _, .nil => rfl
  | _, _, .cons _ h => by rw [List.length_cons, List.length_cons, h.len]
theorem range_map0 (n : Nat) : intsT 0 n = (List.range n).map fun i => T.int (i : Nat) := by
  rw [ints_map]
  simp only [Int.zero_add]
/-- range(n) -/
def RngP (j : Int) (PL : List T → Prop) : Prop := (-(2 ^ 62) ≤ j ∧ j < 2 ^ 62) ∧ PL (intsT 0 j.toNat)
theorem rngP {n : Nat} (hn : n ≤ 1000000) (h : PL ((List.range n).map fun i => T.int (i : Nat))) : RngP (n : Int) PL := by
  refine ⟨⟨by omega, by omega⟩, ?_⟩
  rw [Int.toNat_natCast, range_map0]
  exact h
theorem wp_rng1 (h : WP (FL τ) fun ts => One ts fun t => IntP t fun j => RngP j PL) : WP (fRange1 FL τ) PL := wp_range1 h
def Rng2P (i j : Int) (PL : List T → Prop) : Prop := (-(2 ^ 62) ≤ i ∧ i < 2 ^ 62 ∧ -(2 ^ 62) ≤ j ∧ j < 2 ^ 62) ∧ PL (intsT i (j - i).toNat)
theorem wp_enumM (h : WP (FL τ) fun ts => One ts fun t => SqP t fun _ us => PL ((List.range us.length).zipWith (fun i t => .tup [.int (i : Nat), t]) us)) : WP (fEnumM FL τ) PL := fun p hp => by
  obtain ⟨a, q, e1, hq, _, rfl, k, us, rfl, y⟩ := h p hp
  refine ⟨_, q, ?_, hq, y⟩
  unfold fEnumM
  rw [e1]
  cases k <;> rfl
theorem wp_rng2 (h : WP (FL τ) fun ts => RgP ts fun i j => Rng2P i j PL) : WP (fRange2 FL τ) PL := wp_range2 h
theorem rng2P {a m : Nat} (ha : a ≤ 1000000) (hm : m ≤ 1000000) (h : PL ((List.range' a (m - a)).map fun i => T.int (i : Nat))) : Rng2P (a : Int) (m : Int) PL := by
  refine ⟨⟨by omega, by omega, by omega, by omega⟩, ?_⟩
  have e : intsT (a : Int) ((m : Int) - a).toNat = (List.range' a (m - a)).map fun i => T.int (i : Nat) := by
    rw [ints_map, show ((m : Int) - a).toNat = m - a by omega, List.range'_eq_map_range, List.map_map]
    refine List.map_congr_left fun i _ => ?_
    show T.int ((a : Int) + i) = T.int ((a + i : Nat) : Int)
    congr 1
  rw [e]
  exact h
end
end TL
namespace TL
open PySem PySem.Spec PyProof.Rows L2 Evl PF
local macro_rules | `(tactic| walk_at "wp1") => `(tactic| (first
  | with_reducible refine ws_seq ?_ | with_reducible refine ws_next ?_ | with_reducible refine ws_asg ?_ | with_reducible refine ws_asgO ?_ | with_reducible refine ws_asgT ?_ | with_reducible refine ws_drop ?_
  | with_reducible refine ws_ret ?_ | with_reducible refine ws_retN ?_ | with_reducible refine ws_if ?_ | with_reducible refine ws_for ?_ | with_reducible refine ws_parX ?_ | (with_reducible refine ws_frz ?_; simp only [frz, List.set_cons_succ, List.set_cons_zero, List.getElem?_cons_succ, List.getElem?_cons_zero])
  | with_reducible refine wp_lst ?_ | with_reducible refine wp_op ?_ | with_reducible refine wp_un ?_ | with_reducible refine wp_test ?_ | with_reducible refine wp_not ?_ | with_reducible refine wp_and ?_ | with_reducible refine wp_or ?_
  | with_reducible refine wp_andV ?_ | with_reducible refine wp_orV ?_ | with_reducible refine wp_notV ?_ | with_reducible refine wp_if ?_ | with_reducible refine wp_nil ?_ | with_reducible refine wp_cons ?_ | with_reducible refine wp_tup ?_
  | with_reducible refine wp_len ?_ | with_reducible refine wp_call ?_ | with_reducible refine wp_lstI ?_ | with_reducible refine wp_items ?_ | with_reducible refine wp_perm ?_ | with_reducible refine wp_yes ?_ | with_reducible refine wp_isiT ?_ | with_reducible refine wp_isi ?_
  | with_reducible refine wp_cbA ?_ | with_reducible refine wp_sq1 ?_ | with_reducible refine wp_ix ?_ | with_reducible refine wp_fld ?_ | with_reducible refine wp_prop ?_ | with_reducible refine wp_meth ?_ | with_reducible refine wp_seq2 ?_ | with_reducible refine wp_tupOf ?_
  | with_reducible refine wp_cat ?_ | with_reducible refine wp_repL ?_ | with_reducible refine wp_rng1 ?_ | with_reducible refine wp_zipM ?_ | with_reducible refine wp_enum ?_ | with_reducible refine wp_enumM ?_ | with_reducible refine wp_repr ?_ | with_reducible refine wp_lc ?_
  | with_reducible refine wp_xnil ?_ | with_reducible refine wp_xval ?_ | with_reducible refine wp_xown ?_ | with_reducible refine wp_noPart ?_ | with_reducible refine wp_part ?_ | with_reducible refine wp_sl ?_ | with_reducible refine wp_c ?_
  | with_reducible refine blP ?_ | with_reducible refine intP ?_ | with_reducible refine lstP ?_ | with_reducible refine sqP_l ?_ | with_reducible refine sqP_t ?_ | with_reducible refine sqP_m ?_ | with_reducible refine insP ?_ | with_reducible refine oneP ?_ | with_reducible refine twoP ?_
  | with_reducible refine ifP_t ?_ | with_reducible refine ifP_f ?_ | with_reducible refine ifP_not ?_
  | with_reducible refine wp_tru ?_ | with_reducible refine wp_rng2 ?_ | with_reducible refine wp_lc2 ?_ | with_reducible refine wp_in ?_ | with_reducible refine wp_sortU ?_ | with_reducible refine wp_star ?_ | with_reducible refine rgP ?_ | with_reducible refine lstP_mk ?_
  | ((with_reducible refine' ws_app ?hv ?_); (case hv => exact rfl)) | ((with_reducible refine' ws_set ?hv ?_); (case hv => exact rfl)) | ((with_reducible refine' ws_pop ?hv ?_); (case hv => exact rfl)) | with_reducible refine wp_seq2A ?_ | ((with_reducible refine' ws_rem ?hv ?_); (case hv => exact rfl)) | ((with_reducible refine' wp_callO ?hv ?_); (case hv => exact rfl)) | ((with_reducible refine' ws_setA ?hv ?hw ?_); (case hv => exact rfl); (case hw => exact rfl))
  | ((with_reducible refine' wp_var ?hv ?_); (case hv => exact rfl)) | ((with_reducible refine' wp_own ?hv ?_); (case hv => exact rfl)) | ((with_reducible refine' putP ?hv ?_); (case hv => exact rfl)) | ((with_reducible refine' lenP ?hv ?_); (case hv => exact Nat.le_of_ble_eq_true rfl))
  | with_reducible refine wp_eqI ?_ | with_reducible refine wp_neI ?_ | with_reducible refine wp_negI ?_ | ((with_reducible refine' wp_gI ?hv ?_); (case hv => exact rfl)) | ((with_reducible refine wp_or1 ?_); (with_reducible refine' wp_gI ?hv ?_); (case hv => exact rfl)) | ((with_reducible refine wp_or1 ?_); (with_reducible refine wp_eqI ?_)) | ((with_reducible refine wp_or1 ?_); (with_reducible refine wp_neI ?_))
  | with_reducible refine lcmP ?_ | ((with_reducible refine' somP ?hv ?_); (case hv => exact rfl))
  | with_reducible refine wp_plain ?_ | ((with_reducible refine' plP ?hv ?_); (case hv => exact rfl))
  | simp only [List.set_cons_succ, List.set_cons_zero]))
local macro_rules | `(tactic| walk_at "wp") => `(tactic| (repeat walk_at "wp1"))
local macro_rules | `(tactic| walk_at "wpr") => `(tactic| (refine wp_run ?_; simp only [List.map_cons, List.map_nil, List.cons_append, List.nil_append, List.replicate]; walk_at "wp"))
section
open PySem PySem.Spec PyProof.Rows L2 Evl PF
abbrev eZ (r : List Int) : T := .lst (r.map .int)
abbrev eQ (r : List Rat) : T := .lst (r.map RT)
def vz (r : List Int) : LA.Vec := fun i => ((r.getD i 0 : Int) : Rat)
def BdZ (b : Nat) (r : List Int) : Prop := ∀ x ∈ r, x.natAbs < 2 ^ b
theorem BdZ.le {b c : Nat} {r : List Int} (h : BdZ b r) (l : b ≤ c) : BdZ c r := fun x hx => Nat.lt_of_lt_of_le (h x hx) (Nat.pow_le_pow_right (by decide) l)
/-- no common divisor -/
def Prim (s : List Int) : Prop := ∀ d : Nat, (∀ x ∈ s, (d : Int) ∣ x) → d ≤ 1 ∨ ∀ x ∈ s, x = 0
structure Low (r s : List Int) : Prop where
  len : s.length = r.length
  ex : ∃ c : Int, 0 < c ∧ r = s.map (c * ·)
  prim : Prim s
theorem Low.bd {b : Nat} {r s : List Int} (h : Low r s) (hb : BdZ b r) : BdZ b s := fun x hx => by
  obtain ⟨c, c0, e⟩ := h.ex
  have := hb (c * x) (by rw [e]; exact List.mem_map_of_mem hx)
  rw [Int.natAbs_mul] at this
  have c1 : 1 ≤ c.natAbs := by omega
  exact Nat.lt_of_le_of_lt (Nat.le_mul_of_pos_left _ c1) this
theorem vz_low {r s : List Int} (h : Low r s) : ∃ c : Rat, c ≠ 0 ∧ ∀ i, vz r i = c * vz s i := by
  obtain ⟨c, c0, e⟩ := h.ex
  refine ⟨c, by intro z; have : c = 0 := by exact_mod_cast z
                omega, fun i => ?_⟩
  unfold vz
  rw [e, List.getD_eq_getElem?_getD, List.getD_eq_getElem?_getD, List.getElem?_map]
  cases s[i]? with
  | none => simp [Rat.mul_zero]
  | some y => simp [Rat.intCast_mul]
theorem q_den (q : Rat) : q * (q.den : Rat) = (q.num : Rat) := by
  have e : q = (q.num : Rat) / (q.den : Rat) := by
    have := Rat.num_divInt_den q
    rw [Rat.divInt_eq_div] at this
    exact this.symm
  have d0 : (q.den : Rat) ≠ 0 := by
    intro z
    have : q.den = 0 := by exact_mod_cast z
    have := q.den_pos
    omega
  have : (q.num : Rat) / (q.den : Rat) * (q.den : Rat) = (q.num : Rat) := by
    rw [Rat.div_def, Rat.mul_assoc, Rat.inv_mul_cancel _ d0, Rat.mul_one]
  rw [← e] at this
  exact this
/-- a primitive row is the least of its INTEGER multiples -/
theorem Prim.le {s z : List Int} {q : Rat} (h : Prim s) (hl : z.length = s.length) (e : ∀ i, vz z i = q * vz s i) {b : Nat} (hb : BdZ b z) (hq : q ≠ 0) : BdZ b s := by
  by_cases all0 : ∀ x ∈ s, x = 0
  · intro x hx
    rw [all0 x hx]
    exact Nat.pos_of_ne_zero (by exact Nat.ne_of_gt (Nat.two_pow_pos b))
  have dvd : ∀ x ∈ s, (q.den : Int) ∣ x := fun x hx => by
    obtain ⟨i, hi⟩ := List.getElem?_of_mem hx
    have ez := e i
    have es : vz s i = (x : Rat) := by unfold vz; rw [List.getD_eq_getElem?_getD, hi]; rfl
    have : ∃ w : Int, vz z i = (w : Rat) := ⟨_, rfl⟩
    obtain ⟨w, hw⟩ := this
    rw [hw, es] at ez
    have qd : q * (q.den : Rat) = (q.num : Rat) := q_den q
    have e2 : w * (q.den : Int) = q.num * x := by
      have : (w : Rat) * (q.den : Rat) = (q.num : Rat) * (x : Rat) := by
        rw [ez, ← qd]
        grind
      exact_mod_cast this
    have dv : (q.den : Int) ∣ q.num * x := ⟨w, by rw [← e2, Int.mul_comm]⟩
    have cop : Nat.Coprime q.den q.num.natAbs := q.reduced.symm
    have : q.den ∣ (q.num * x).natAbs := Int.ofNat_dvd_left.mp dv
    rw [Int.natAbs_mul] at this
    exact Int.ofNat_dvd_left.mpr (cop.dvd_of_dvd_mul_left this)
  have den : q.den ≤ 1 := by
    rcases h q.den dvd with d | d
    · exact d
    · exact absurd d all0
  have dq : q = (q.num : Rat) := by
    have d1 : q.den = 1 := by have := q.den_pos; omega
    refine Rat.ext rfl ?_
    rw [d1]
    rfl
  have n0 : q.num ≠ 0 := fun z0 => hq (by rw [dq, z0]; rfl)
  intro x hx
  obtain ⟨i, hi⟩ := List.getElem?_of_mem hx
  have il := (List.getElem?_eq_some_iff.mp hi).1
  have zi : z[i]? = some z[i] := List.getElem?_eq_getElem (by omega)
  have ez := e i
  have es : vz s i = (x : Rat) := by unfold vz; rw [List.getD_eq_getElem?_getD, hi]; rfl
  have ew : vz z i = ((z[i] : Int) : Rat) := by unfold vz; rw [List.getD_eq_getElem?_getD, zi]; rfl
  rw [es, ew, dq] at ez
  have e2 : z[i] = q.num * x := by exact_mod_cast ez
  have := hb z[i] (List.getElem_mem _)
  rw [e2, Int.natAbs_mul] at this
  exact Nat.lt_of_le_of_lt (Nat.le_mul_of_pos_left _ (by omega)) this
end
section
open PySem PySem.Spec PyProof.Rows L2 Evl PF
variable {P : T → Prop}
/-- x, cleared at p by h -/
def clr0 (x h : List Int) (p : Nat) : List Int := (x.zip h).map fun z => z.1 * h.getD p 0 - z.2 * x.getD p 0
theorem clr0_len {x h : List Int} {p : Nat} (e : x.length = h.length) : (clr0 x h p).length = x.length := by
  unfold clr0
  rw [List.length_map, List.length_zip]
  omega
theorem clr0_vz {x h : List Int} {p : Nat} (e : x.length = h.length) : ∀ i, vz (clr0 x h p) i = vz x i * vz h p - vz h i * vz x p := fun i => by
  unfold vz clr0
  simp only [List.getD_eq_getElem?_getD, List.getElem?_map]
  by_cases hi : i < x.length
  · rw [List.getElem?_eq_getElem hi, List.getElem?_eq_getElem (show i < h.length by omega), List.getElem?_eq_getElem (show i < (x.zip h).length by rw [List.length_zip]; omega)]
    simp [Rat.intCast_sub, Rat.intCast_mul]
  · rw [List.getElem?_eq_none (show x.length ≤ i by omega), List.getElem?_eq_none (show h.length ≤ i by omega), List.getElem?_eq_none (show (x.zip h).length ≤ i by rw [List.length_zip]; omega)]
    simp [Rat.zero_mul]
    grind
theorem getD_bd {b : Nat} {r : List Int} (h : BdZ b r) (p : Nat) : (r.getD p 0).natAbs < 2 ^ b := by
  rw [List.getD_eq_getElem?_getD]
  cases e : r[p]? with
  | none => exact Nat.two_pow_pos b
  | some y => exact h y (List.mem_of_getElem? e)
theorem mul_bd {x y : Int} {a b : Nat} (h : x.natAbs < 2 ^ a) (k : y.natAbs < 2 ^ b) : (x * y).natAbs < 2 ^ (a + b) := by
  rw [Int.natAbs_mul, Nat.pow_add]
  exact Nat.mul_lt_mul'' h k
theorem clr0_bd {b : Nat} {x h : List Int} {p : Nat} (hx : BdZ b x) (hh : BdZ b h) : BdZ (2 * b + 1) (clr0 x h p) := fun y hy => by
  obtain ⟨z, hz, rfl⟩ := List.mem_map.mp hy
  have m := List.of_mem_zip hz
  have h1 := mul_bd (hx _ m.1) (getD_bd hh p)
  have h2 := mul_bd (hh _ m.2) (getD_bd hx p)
  have : (z.1 * h.getD p 0 - z.2 * x.getD p 0).natAbs ≤ (z.1 * h.getD p 0).natAbs + (z.2 * x.getD p 0).natAbs := by omega
  have e : 2 ^ (2 * b + 1) = 2 ^ (b + b) + 2 ^ (b + b) := by rw [show 2 * b + 1 = (b + b) + 1 by omega, Nat.pow_succ]; omega
  omega
theorem bits_bd {x : Int} {b m : Nat} (h : x.natAbs < 2 ^ b) (l : b ≤ m) (m0 : 0 < m) : bits m x = true := bits_of m0 (Nat.lt_of_lt_of_le h (Nat.pow_le_pow_right (by decide) l))
theorem oMul_wp {x y : Int} (h : bits 400000 x = true) (k : bits 400000 y = true) (z : P (.int (x * y))) : WP (oMul (.int x) (.int y)) P := wp_some (fun p => by rw [oMul_i, h, k]; rfl) z
structure Clr (x h : List Int) (p : Nat) (s : List Int) : Prop where
  zero : x.getD p 0 = 0 → s = x
  else_ : x.getD p 0 ≠ 0 → Low (clr0 x h p) s
end
section
open PySem PySem.Spec PyProof.Rows L2 Evl PF
variable {P : T → Prop}
structure RowOk (n b D : Nat) (r : List Rat) : Prop where
  len : r.length = n
  dv : ∀ x ∈ r, x.den ∣ D
  bd : ∀ x ∈ r, (x.num * ((D / x.den : Nat) : Int)).natAbs < 2 ^ b
end
section
open PySem PySem.Spec PyProof.Rows L2 Evl PF
theorem vz_ne {x : List Int} {p : Nat} : vz x p ≠ 0 ↔ x.getD p 0 ≠ 0 := by
  unfold vz
  constructor
  · intro h z; exact h (by rw [z]; rfl)
  · intro h z; exact h (by exact_mod_cast z)
theorem vz_eq {x : List Int} {p : Nat} : vz x p = 0 ↔ x.getD p 0 = 0 := by
  constructor
  · intro h; exact Classical.byContradiction fun n => vz_ne.mpr n h
  · intro h; unfold vz; rw [h]; rfl
section
variable {x h s : List Int} {p b : Nat}
theorem Clr.eq (c : Clr x h p s) (e : x.length = h.length) (hp : vz h p ≠ 0) : ∃ a d : Rat, a ≠ 0 ∧ ∀ i, vz x i = a * vz s i + d * vz h i ∧ (vz x p = 0 → d = 0) := by
  by_cases z : x.getD p 0 = 0
  · rw [c.zero z]
    exact ⟨1, 0, by decide, fun i => ⟨by grind, fun _ => rfl⟩⟩
  · obtain ⟨k, k0, hk⟩ := vz_low (c.else_ z)
    refine ⟨k * (vz h p)⁻¹, vz x p * (vz h p)⁻¹, ?_, fun i => ⟨?_, fun w => absurd (vz_eq.mp w) z⟩⟩
    · intro w
      have : k = k * (vz h p)⁻¹ * vz h p := by rw [Rat.mul_assoc, Rat.inv_mul_cancel _ hp, Rat.mul_one]
      rw [w, Rat.zero_mul] at this
      exact k0 this
    · have e1 := hk i
      rw [clr0_vz e] at e1
      have i1 := Rat.mul_inv_cancel _ hp
      have : vz x i = vz x i * (vz h p * (vz h p)⁻¹) := by rw [i1, Rat.mul_one]
      rw [this]
      have e2 : vz x i * vz h p = k * vz s i + vz h i * vz x p := by rw [← e1]; grind
      rw [← Rat.mul_assoc, e2]
      grind
theorem Clr.fwd (c : Clr x h p s) (e : x.length = h.length) (hp : vz h p ≠ 0) {L : List LA.Vec} (hs : LA.Span L (vz s)) (hh : LA.Span L (vz h)) : LA.Span L (vz x) := by
  obtain ⟨a, d, _, k⟩ := c.eq e hp
  have : vz x = LA.ax (fun i => a * vz s i) d (vz h) := funext fun i => (k i).1
  rw [this]
  exact .ax (.smul _ hs) hh _
theorem Clr.bwd (c : Clr x h p s) (e : x.length = h.length) (hp : vz h p ≠ 0) {L : List LA.Vec} (hx : LA.Span L (vz x)) (hh : LA.Span L (vz h)) : LA.Span L (vz s) := by
  obtain ⟨a, d, a0, k⟩ := c.eq e hp
  have : vz s = LA.ax (fun i => a⁻¹ * vz x i) (-(a⁻¹ * d)) (vz h) := funext fun i => by
    show vz s i = a⁻¹ * vz x i + -(a⁻¹ * d) * vz h i
    rw [(k i).1]
    have := Rat.inv_mul_cancel _ a0
    grind
  rw [this]
  exact .ax (.smul _ hx) hh _
theorem Clr.at (c : Clr x h p s) (e : x.length = h.length) (hp : vz h p ≠ 0) {q : Nat} (hq : vz h q = 0) : vz x q = 0 ↔ vz s q = 0 := by
  obtain ⟨a, d, a0, k⟩ := c.eq e hp
  rw [(k q).1, hq, Rat.mul_zero, Rat.add_zero]
  constructor
  · intro z
    have := Rat.inv_mul_cancel _ a0
    have e2 : vz s q = a⁻¹ * (a * vz s q) := by rw [← Rat.mul_assoc, this, Rat.one_mul]
    rw [e2, z, Rat.mul_zero]
  · intro z; rw [z, Rat.mul_zero]
theorem Clr.own (c : Clr x h p s) (e : x.length = h.length) : vz s p = 0 := by
  by_cases z : x.getD p 0 = 0
  · rw [c.zero z]; exact vz_eq.mpr z
  · obtain ⟨k, k0, hk⟩ := vz_low (c.else_ z)
    have := hk p
    rw [clr0_vz e] at this
    have e2 : k * vz s p = 0 := by rw [← this]; grind
    have := Rat.inv_mul_cancel _ k0
    have e3 : vz s p = k⁻¹ * (k * vz s p) := by rw [← Rat.mul_assoc, this, Rat.one_mul]
    rw [e3, e2, Rat.mul_zero]
theorem Clr.len (c : Clr x h p s) (e : x.length = h.length) : s.length = x.length := by
  by_cases z : x.getD p 0 = 0
  · rw [c.zero z]
  · rw [(c.else_ z).len, clr0_len e]
theorem Clr.bd (c : Clr x h p s) (hx : BdZ b x) (hh : BdZ b h) : BdZ (2 * b + 1) s := by
  by_cases z : x.getD p 0 = 0
  · rw [c.zero z]; exact hx.le (by omega)
  · exact (c.else_ z).bd (clr0_bd hx hh)
end
/-- rows with places of their own -/
inductive Pv : List (List Int) → List Nat → Prop
  | nil : Pv [] []
  | cons {x p done ps} : vz x p ≠ 0 → (∀ y ∈ done, vz y p = 0) → Pv done ps → Pv (x :: done) (p :: ps)
theorem All2.mem {α β : Type} {S : α → β → Prop} : ∀ {l : List α} {m : List β}, All2 S l m → ∀ b ∈ m, ∃ a ∈ l, S a b
  | _, _, .nil, b, hb => by cases hb
  | _, _, .cons h hs, b, hb => by
    rcases List.mem_cons.mp hb with rfl | hb
    · exact ⟨_, List.mem_cons_self .., h⟩
    · obtain ⟨a, ha, k⟩ := hs.mem b hb
      exact ⟨a, List.mem_cons_of_mem _ ha, k⟩
theorem All2.mem' {α β : Type} {S : α → β → Prop} : ∀ {l : List α} {m : List β}, All2 S l m → ∀ a ∈ l, ∃ b ∈ m, S a b
  | _, _, .nil, b, hb => by cases hb
  | _, _, .cons h hs, b, hb => by
    rcases List.mem_cons.mp hb with rfl | hb
    · exact ⟨_, List.mem_cons_self .., h⟩
    · obtain ⟨a, ha, k⟩ := hs.mem' b hb
      exact ⟨a, List.mem_cons_of_mem _ ha, k⟩
theorem pv_step {h : List Int} {k n : Nat} (hk : vz h k ≠ 0) (hl : h.length = n) : ∀ {done d1 : List (List Int)} {ps : List Nat}, All2 (fun x s => Clr x h k s) done d1 → Pv done ps → (∀ x ∈ done, x.length = n) → (∀ p ∈ ps, vz h p = 0) → Pv (d1 ++ [h]) (ps ++ [k])
  | _, _, _, .nil, .nil, _, _ => .cons hk (fun _ y => by cases y) .nil
  | _, _, _, .cons c cs, .cons (p := p) h1 h2 h3, len, hp => by
    have hp0 := hp p (List.mem_cons_self ..)
    have lx := len _ (List.mem_cons_self ..)
    refine .cons (fun z => h1 ((c.at (by omega) hk hp0).mpr z)) (fun y hy => ?_) (pv_step hk hl cs h3 (fun x hx => len x (List.mem_cons_of_mem _ hx)) fun q hq => hp q (List.mem_cons_of_mem _ hq))
    rcases List.mem_append.mp hy with hy | hy
    · obtain ⟨x, hx, cx⟩ := cs.mem y hy
      have := len x (List.mem_cons_of_mem _ hx)
      exact (cx.at (by omega) hk hp0).mp (h2 x hx)
    · rw [List.mem_singleton.mp hy]; exact hp0
structure StepI (n b : Nat) (S : List LA.Vec) (k : Nat) (done left : List (List Int)) : Prop where
  len : ∀ x ∈ done ++ left, x.length = n
  bd : ∀ x ∈ done ++ left, BdZ (2 ^ done.length * (b + 1) - 1) x
  zl : ∀ x ∈ left, ∀ c, c < k → vz x c = 0
  s1 : LA.Le S ((done ++ left).map vz)
  s2 : LA.Le ((done ++ left).map vz) S
  pv : ∃ ps, Pv done ps ∧ ∀ p ∈ ps, p < k
  dl : done.length ≤ k
def isAny (r : List Int) : Bool := r.any fun n => decide (n ≠ 0)
theorem isAny_f {r : List Int} (h : isAny r = false) : vz r = LA.zer := by
  funext i
  show vz r i = 0
  refine vz_eq.mpr (Classical.byContradiction fun n => ?_)
  have hi : i < r.length := Classical.byContradiction fun q => n (by rw [List.getD_eq_getElem?_getD, List.getElem?_eq_none (by omega)]; rfl)
  have : isAny r = true := List.any_eq_true.mpr ⟨r[i], List.getElem_mem hi, decide_eq_true (by rw [List.getD_eq_getElem?_getD, List.getElem?_eq_getElem hi] at n; exact n)⟩
  rw [h] at this
  cases this
theorem StepI.none {n b k : Nat} {S : List LA.Vec} {done left : List (List Int)} (I : StepI n b S k done left) (h : left.filter (fun x => decide (x.getD k 0 ≠ 0)) = []) : StepI n b S (k + 1) done left where
  len := I.len
  bd := I.bd
  zl := fun x hx c hc => by
    rcases Nat.lt_or_ge c k with q | q
    · exact I.zl x hx c q
    · have : c = k := by omega
      subst this
      refine vz_eq.mpr (Classical.byContradiction fun z => ?_)
      have : x ∈ left.filter (fun x => decide (x.getD c 0 ≠ 0)) := List.mem_filter.mpr ⟨hx, decide_eq_true z⟩
      rw [h] at this
      cases this
  s1 := I.s1
  s2 := I.s2
  pv := by
    obtain ⟨ps, h1, h2⟩ := I.pv
    exact ⟨ps, h1, fun p hp => by have := h2 p hp; omega⟩
  dl := by have := I.dl; omega
theorem StepI.some {n b k : Nat} {S : List LA.Vec} {done left d1 l1 : List (List Int)} {h : List Int} (I : StepI n b S k done left) (hm : h ∈ left) (hk : h.getD k 0 ≠ 0) (cd : All2 (fun x s => Clr x h k s) done d1) (cl : All2 (fun x s => Clr x h k s) left l1) : StepI n b S (k + 1) (d1 ++ [h]) (l1.filter isAny) := by
  have hk' := vz_ne.mpr hk
  have lh : h.length = n := I.len h (by simp [hm])
  have ld : ∀ x ∈ done, x.length = n := fun x hx => I.len x (by simp [hx])
  have ll : ∀ x ∈ left, x.length = n := fun x hx => I.len x (by simp [hx])
  have el := cd.len
  have e2 : 2 ^ (d1 ++ [h]).length * (b + 1) - 1 = 2 * (2 ^ done.length * (b + 1) - 1) + 1 := by
    rw [List.length_append, ← el]
    show 2 ^ (done.length + 1) * (b + 1) - 1 = _
    rw [Nat.pow_succ]
    have : 1 ≤ 2 ^ done.length * (b + 1) := Nat.mul_pos (Nat.two_pow_pos _) (by omega)
    have : 2 ^ done.length * 2 * (b + 1) = 2 * (2 ^ done.length * (b + 1)) := by rw [Nat.mul_comm (2 ^ done.length) 2, Nat.mul_assoc]
    omega
  have hspan : LA.Span (((d1 ++ [h]) ++ l1.filter isAny).map vz) (vz h) := .mem (List.mem_map_of_mem (by simp))
  have hspan0 : LA.Span ((done ++ left).map vz) (vz h) := .mem (List.mem_map_of_mem (by simp [hm]))
  have bh : BdZ (2 ^ done.length * (b + 1) - 1) h := I.bd h (by simp [hm])
  refine ⟨fun x hx => ?_, fun x hx => ?_, fun x hx c hc => ?_, fun v hv => (I.s1 v hv).trans fun u hu => ?_, fun v hv => ?_, ?_, ?_⟩
  · rcases List.mem_append.mp hx with hx | hx
    · rcases List.mem_append.mp hx with hx | hx
      · obtain ⟨y, hy, c⟩ := cd.mem x hx
        have := ld y hy
        have := c.len (by omega)
        omega
      · rw [List.mem_singleton.mp hx]; exact lh
    · obtain ⟨y, hy, c⟩ := cl.mem x (List.mem_filter.mp hx).1
      have := ll y hy
      have := c.len (by omega)
      omega
  · rw [e2]
    rcases List.mem_append.mp hx with hx | hx
    · rcases List.mem_append.mp hx with hx | hx
      · obtain ⟨y, hy, c⟩ := cd.mem x hx
        exact c.bd (I.bd y (by simp [hy])) bh
      · rw [List.mem_singleton.mp hx]; exact bh.le (by omega)
    · obtain ⟨y, hy, c⟩ := cl.mem x (List.mem_filter.mp hx).1
      exact c.bd (I.bd y (by simp [hy])) bh
  · obtain ⟨y, hy, cy⟩ := cl.mem x (List.mem_filter.mp hx).1
    have ly := ll y hy
    rcases Nat.lt_or_ge c k with q | q
    · exact (cy.at (by omega) hk' (I.zl h hm c q)).mp (I.zl y hy c q)
    · have : c = k := by omega
      subst this
      exact cy.own (by omega)
  · obtain ⟨x, hx, rfl⟩ := List.mem_map.mp hu
    rcases List.mem_append.mp hx with hx | hx
    · obtain ⟨s, hs, c⟩ := cd.mem' x hx
      have := ld x hx
      exact c.fwd (by omega) hk' (.mem (List.mem_map_of_mem (by simp [hs]))) hspan
    · obtain ⟨s, hs, c⟩ := cl.mem' x hx
      have := ll x hx
      refine c.fwd (by omega) hk' ?_ hspan
      cases q : isAny s with
      | false => rw [isAny_f q]; exact .zero
      | true => exact .mem (List.mem_map_of_mem (by simp [hs, q]))
  · obtain ⟨x, hx, rfl⟩ := List.mem_map.mp hv
    have up : ∀ u, LA.Span ((done ++ left).map vz) u → LA.Span S u := fun u hu => hu.trans I.s2
    rcases List.mem_append.mp hx with hx | hx
    · rcases List.mem_append.mp hx with hx | hx
      · obtain ⟨y, hy, c⟩ := cd.mem x hx
        have := ld y hy
        exact up _ (c.bwd (by omega) hk' (.mem (List.mem_map_of_mem (by simp [hy]))) hspan0)
      · rw [List.mem_singleton.mp hx]; exact up _ hspan0
    · obtain ⟨y, hy, c⟩ := cl.mem x (List.mem_filter.mp hx).1
      have := ll y hy
      exact up _ (c.bwd (by omega) hk' (.mem (List.mem_map_of_mem (by simp [hy]))) hspan0)
  · obtain ⟨ps, h1, h2⟩ := I.pv
    refine ⟨ps ++ [k], pv_step hk' lh cd h1 ld fun p hp => I.zl h hm p (h2 p hp), fun p hp => ?_⟩
    rcases List.mem_append.mp hp with hp | hp
    · have := h2 p hp; omega
    · rw [List.mem_singleton.mp hp]; omega
  · rw [List.length_append, ← el]
    have := I.dl
    show done.length + 1 ≤ k + 1
    omega
end
section
open PySem PySem.Spec PyProof.Rows L2 Evl PF
variable {P : T → Prop}
abbrev HdI := List Int × Nat
structure RdI (k : Nat) (L : List HdI) : Prop where
  so : L.Pairwise fun a b => a.2 < b.2
  lt : ∀ a ∈ L, a.2 < k
  nz : ∀ a ∈ L, vz a.1 a.2 ≠ 0
  zr : ∀ a ∈ L, ∀ b ∈ L, a.2 ≠ b.2 → vz a.1 b.2 = 0
  lead : ∀ a ∈ L, ∀ q, q < a.2 → vz a.1 q = 0
theorem RdI.nil {k : Nat} : RdI k [] := ⟨.nil, fun _ h => (nomatch h), fun _ h => (nomatch h), fun _ h => (nomatch h), fun _ h => (nomatch h)⟩
theorem RdI.none {k : Nat} {L : List HdI} (h : RdI k L) : RdI (k + 1) L := ⟨h.so, fun a ha => Nat.lt_succ_of_lt (h.lt a ha), h.nz, h.zr, h.lead⟩
theorem all2_hd {R : List Int → List Int → Prop} : ∀ {L : List HdI} {d1 : List (List Int)}, All2 R (L.map (·.1)) d1 → ∃ K : List HdI, K.map (·.1) = d1 ∧ K.map (·.2) = L.map (·.2) ∧ ∀ c ∈ K, ∃ a ∈ L, a.2 = c.2 ∧ R a.1 c.1
  | [], [], _ => ⟨[], rfl, rfl, fun _ h => (nomatch h)⟩
  | a :: L, d :: ds, .cons h hs => by
    obtain ⟨K, e1, e2, k⟩ := all2_hd hs
    refine ⟨(d, a.2) :: K, by rw [List.map_cons, e1], by rw [List.map_cons, List.map_cons, e2], fun c hc => ?_⟩
    rcases List.mem_cons.mp hc with rfl | hc
    · exact ⟨a, List.mem_cons_self .., rfl, h⟩
    · obtain ⟨a', ha', e, r⟩ := k c hc
      exact ⟨a', List.mem_cons_of_mem _ ha', e, r⟩
theorem RdI.some {k n : Nat} {L : List HdI} {d1 : List (List Int)} {h : List Int} (I : RdI k L) (hk : vz h k ≠ 0) (hz : ∀ q, q < k → vz h q = 0) (hl : h.length = n) (ll : ∀ a ∈ L, a.1.length = n) (cd : All2 (fun x s => Clr x h k s) (L.map (·.1)) d1) : ∃ K : List HdI, K.map (·.1) = d1 ++ [h] ∧ RdI (k + 1) K := by
  obtain ⟨K, e1, e2, w⟩ := all2_hd cd
  have eqv : ∀ c ∈ K, ∃ a ∈ L, a.2 = c.2 ∧ vz c.1 k = 0 ∧ ∀ q, q < k → (vz a.1 q = 0 ↔ vz c.1 q = 0) := fun c hc => by
    obtain ⟨a, ha, e, r⟩ := w c hc
    have la := ll a ha
    exact ⟨a, ha, e, r.own (by omega), fun q hq => r.at (by omega) hk (hz q hq)⟩
  refine ⟨K ++ [(h, k)], by rw [List.map_append, e1]; rfl, ?_, fun c hc => ?_, fun c hc => ?_, fun c hc d hd ne => ?_, fun c hc q hq => ?_⟩
  · refine List.pairwise_append.mpr ⟨?_, List.pairwise_singleton _ _, fun c hc d hd => ?_⟩
    · have := (List.pairwise_map (f := fun a : HdI => a.2) (R := fun x y : Nat => x < y)).mpr I.so
      rw [← e2] at this
      exact List.pairwise_map.mp this
    · rw [List.mem_singleton.mp hd]
      obtain ⟨a, ha, e, _⟩ := eqv c hc
      show c.2 < k
      rw [← e]
      exact I.lt a ha
  · rcases List.mem_append.mp hc with hc | hc
    · obtain ⟨a, ha, e, _⟩ := eqv c hc
      rw [← e]
      exact Nat.lt_succ_of_lt (I.lt a ha)
    · rw [List.mem_singleton.mp hc]; exact Nat.lt_succ_self k
  · rcases List.mem_append.mp hc with hc | hc
    · obtain ⟨a, ha, e, _, q⟩ := eqv c hc
      rw [← e]
      exact fun z => I.nz a ha ((q _ (I.lt a ha)).mpr z)
    · rw [List.mem_singleton.mp hc]; exact hk
  · rcases List.mem_append.mp hc with hc | hc
    · obtain ⟨a, ha, e, z, q⟩ := eqv c hc
      rcases List.mem_append.mp hd with hd | hd
      · obtain ⟨b, hb, eb, _⟩ := eqv d hd
        rw [← eb]
        exact (q _ (I.lt b hb)).mp (I.zr a ha b hb (by omega))
      · rw [List.mem_singleton.mp hd]; exact z
    · rw [List.mem_singleton.mp hc] at ne ⊢
      rcases List.mem_append.mp hd with hd | hd
      · obtain ⟨b, hb, eb, _⟩ := eqv d hd
        rw [← eb]
        exact hz _ (I.lt b hb)
      · rw [List.mem_singleton.mp hd] at ne; exact absurd rfl ne
  · rcases List.mem_append.mp hc with hc | hc
    · obtain ⟨a, ha, e, _, w⟩ := eqv c hc
      rw [← e] at hq
      exact (w q (Nat.lt_trans hq (I.lt a ha))).mp (I.lead a ha q hq)
    · rw [List.mem_singleton.mp hc] at hq ⊢; exact hz q hq
/-- each row over a bottom of its own -/
def GoodE (n b : Nat) (rs : List (List Rat)) : Prop := ∀ r ∈ rs, ∃ D, 0 < D ∧ D < 2 ^ 4000 ∧ RowOk n b D r
theorem GoodE.len {n b : Nat} {rs : List (List Rat)} (h : GoodE n b rs) {r : List Rat} (hr : r ∈ rs) : r.length = n := by
  obtain ⟨D, _, _, k⟩ := h r hr
  exact k.len
end
section
open PySem PySem.Spec PyProof.Rows L2 Evl PF
variable {P : T → Prop}
abbrev tN (i : Nat) : T := .int (i : Int)
abbrev eN (l : List Nat) : T := .lst (l.map tN)
structure Lot (m : Nat) (l : List Nat) : Prop where
  so : l.Pairwise (· < ·)
  lt : ∀ i ∈ l, i < m
theorem Lot.len {m : Nat} {l : List Nat} (h : Lot m l) : l.length ≤ m := by
  have : ∀ (l : List Nat) (a : Nat), l.Pairwise (· < ·) → (∀ i ∈ l, a ≤ i ∧ i < m) → a + l.length ≤ max a m := by
    intro l
    induction l with
    | nil => intro a _ _; simp; omega
    | cons x l ih =>
      intro a h1 h2
      rw [List.pairwise_cons] at h1
      have hx := h2 x (List.mem_cons_self ..)
      have := ih (x + 1) h1.2 fun i hi => ⟨h1.1 i hi, (h2 i (List.mem_cons_of_mem _ hi)).2⟩
      rw [List.length_cons]
      omega
  have := this l 0 h.so fun i hi => ⟨Nat.zero_le _, h.lt i hi⟩
  omega
theorem eqv_map {α : Type} {f : α → PyData} [DecidableEq α] (h : ∀ a b, PyData.eqv (f a) (f b) = decide (a = b)) : ∀ l m : List α, PyData.eqvAll (l.map f) (m.map f) = decide (l = m)
  | [], [] => by simp [PyData.eqvAll]
  | [], b :: m => by simp [PyData.eqvAll]
  | a :: l, [] => by simp [PyData.eqvAll]
  | a :: l, b :: m => by
    have ih := eqv_map h l m
    simp only [List.map_cons, PyData.eqvAll, h, ih]
    by_cases e : a = b <;> by_cases e2 : l = m <;> simp [e, e2]
theorem eqv_lst {α : Type} {f : α → PyData} [DecidableEq α] (h : ∀ a b, PyData.eqv (f a) (f b) = decide (a = b)) (l m : List α) : PyData.eqv (.list (l.map f)) (.list (m.map f)) = decide (l = m) := by
  rw [PyData.eqv, eqv_map h]
theorem eqv_int (i j : Int) : PyData.eqv (.int i) (.int j) = decide (i = j) := by
  simp only [PyData.eqv]
  by_cases h : i = j <;> simp [h]
/-- data of lists and INTEGERS -/
structure Dt (k : Nat) (t : T) (d : PyData) : Prop where
  to : toD t = some d
  lay : d.canLay0 = true
  dep : d.depth ≤ k
theorem dts {α : Type} {k : Nat} {enc : α → T} {f : α → PyData} : ∀ (l : List α), (∀ a ∈ l, Dt k (enc a) (f a)) → toDs (l.map enc) = some (l.map f) ∧ PyData.canLayAll0 (l.map f) = true ∧ PyData.depthAll (l.map f) ≤ k
  | [], _ => by simp [toDs, PyData.canLayAll0, PyData.depthAll]
  | a :: l, h => by
    have h1 := h a (List.mem_cons_self ..)
    obtain ⟨e1, e2, e3⟩ := dts l fun b hb => h b (List.mem_cons_of_mem _ hb)
    refine ⟨?_, ?_, ?_⟩
    · simp [toDs, h1.to, e1]
    · simp [PyData.canLayAll0, h1.lay, e2]
    · have := h1.dep
      simp only [List.map_cons, PyData.depthAll]
      omega
theorem dt_lst {α : Type} {k : Nat} {enc : α → T} {f : α → PyData} (l : List α) (h : ∀ a ∈ l, Dt k (enc a) (f a)) : Dt (k + 1) (.lst (l.map enc)) (.list (l.map f)) := by
  obtain ⟨e1, e2, e3⟩ := dts l h
  refine ⟨?_, ?_, ?_⟩
  · simp [toD, e1]
  · simpa [PyData.canLay0] using e2
  · simp only [PyData.depth]
    omega
theorem dt_int (i : Int) : Dt 0 (.int i) (.int i) := ⟨by simp [toD], by simp [PyData.canLay0], by simp [PyData.depth]⟩
theorem Dt.shaped {k : Nat} {t : T} {d : PyData} (h : Dt k t d) (l : k ≤ 64) : SeqAt.shaped d = true := by
  unfold SeqAt.shaped
  rw [Bool.and_eq_true]
  exact ⟨h.lay, decide_eq_true (Nat.le_trans h.dep l)⟩
theorem eqD_wp {k : Nat} {t u : T} {d e : PyData} {neg : Bool} (h : Dt k t d) (g : Dt k u e) (hk : k ≤ 64) (z : P (.bl (if neg then !PyData.eqv d e else PyData.eqv d e))) : WP (gEqD neg t u) P := wp_some (fun p => by
  unfold gEqD
  rw [h.to, g.to]
  simp only [h.shaped hk, g.shaped hk, and_self, if_true]) z
def dN (l : List Nat) : PyData := .list (l.map fun (i : Nat) => PyData.int (i : Int))
theorem eqv_nat (i j : Nat) : PyData.eqv (.int (i : Int)) (.int (j : Int)) = decide (i = j) := by
  rw [eqv_int]
  by_cases h : i = j
  · simp [h]
  · rw [decide_eq_false h, decide_eq_false (by omega)]
theorem eqv_N (l m : List Nat) : PyData.eqv (dN l) (dN m) = decide (l = m) := eqv_lst eqv_nat l m
theorem dt_N (l : List Nat) : Dt 1 (eN l) (dN l) := dt_lst (k := 0) l fun i _ => dt_int i
theorem sort_lot {m : Nat} {l : List Nat} (h : Lot m l) : sortU (l.map fun (i : Nat) => (i : Int)) = l.map fun (i : Nat) => (i : Int) :=
  lt_one (sortU_lt _) (by
    rw [List.pairwise_map]
    exact h.so.imp fun h => by omega) fun z => mem_sortU
theorem ints_N (l : List Nat) : allM intOf (l.map tN) = some (l.map fun (i : Nat) => (i : Int)) := allM_map l tN intOf _ fun _ _ => rfl
theorem is_integer_wp {i : Int} (z : P (.bl true)) : WP (T_is_integer [.int i]) P := wp_some (fun p => is_integer_int) z
theorem is_list_wp {k : Bool} {l : List T} (z : P (.bl true)) : WP (T_is_list [mkSeq k l]) P := wp_some (fun p => is_list_mk) z
theorem is_position_wp {m i : Nat} (h : i < m) : WP (T_is_position [.int m, tN i]) (· = .bl true) := by
  unfold T_is_position FB_is_position
  walk_at "wpr"
  unfold T_is_count FB_is_count
  walk_at "wpr"
  refine is_integer_wp ?_
  walk_at "wp"
  refine ifP_pos (by omega) ?_
  walk_at "wp"
  rw [decide_eq_true (by omega)]
theorem all_trueB {α : Type} (l : List α) : gAll true (l.map fun _ => T.bl true) = some (.bl true) := gall_true l _ fun _ _ => rfl
theorem is_rising_wp {k : Bool} {m : Nat} {l : List Nat} (h : Lot m l) (hm : m ≤ 60) : WP (T_is_rising [.int m, mkSeq k (l.map tN)]) (· = .bl true) := by
  have ll := h.len
  unfold T_is_rising FB_is_rising
  walk_at "wpr"
  unfold T_is_positions FB_is_positions
  walk_at "wpr"
  refine is_list_wp ?_
  walk_at "wp"
  refine lenP_map (l := l) (by omega) ?_
  refine wp_map l tN (fun _ => .bl true) (fun i hi => ?_) ?_
  · walk_at "wp"
    exact is_position_wp (h.lt i hi)
  walk_at "wp"
  refine somP (all_trueB l) ?_
  walk_at "wp"
  refine lenP_map (l := l) (by omega) ?_
  walk_at "wp"
  refine somP (ints_N l) ?_
  refine andP (by rw [List.length_map]; omega) ?_
  rw [sort_lot h, List.map_map]
  walk_at "wp"
  refine wp_or1 (eqD_wp (dt_N l) (dt_N l) (by decide) ?_)
  rw [eqv_N]
  simp
end
section
open PySem PySem.Spec PyProof.Rows L2 Evl PF
variable {P : T → Prop}
theorem insP_P {n : Nat} {ps : List QP} {PL : List T → Prop} (h : PL [.int n, .lst (ps.map encP)]) : InsP 1 (encPairs n ps) PL := ⟨_, rfl, h⟩
theorem getD_mem' {α : Type} {l : List α} {i : Nat} {d : α} (h : i < l.length) : l.getD i d ∈ l := by
  rw [List.getD_eq_getElem?_getD, List.getElem?_eq_getElem h]
  exact List.getElem_mem h
def fst (l : List Nat) : Nat := match l.getLast? with
  | some x => x + 1
  | none => 0
def ext (m : Nat) (l : List Nat) : List (List Nat) := (List.range' (fst l) (m - fst l)).map fun i => l ++ [i]
end
section
open PySem PySem.Spec PyProof.Rows L2 Evl PF
variable {Q : T → Prop}
theorem drawT_wp {A B P P2 D : Int} (hP : 0 < P ∧ P ≤ 2147483648) {n : Int} (h0 : 0 < n) (h1 : n < 1000000) (h : ∀ d, 0 ≤ d → d < n → Q (.int d)) : WP (drawT A B P P2 D [.pot, .int n]) Q := by
  rintro _ ⟨c, m, rfl, m0, m1⟩
  have ok : (decide (0 < n ∧ n < 1000000) && potOk m) = true := by
    rw [Bool.and_eq_true]
    exact ⟨decide_eq_true ⟨h0, h1⟩, decide_eq_true ⟨m0, m1⟩⟩
  unfold drawT
  simp only [ok, if_true]
  by_cases z : 0 < c
  · rw [if_pos z]
    exact ⟨_, _, rfl, ⟨_, _, rfl, m0, m1⟩, h _ (Int.emod_nonneg _ (by omega)) (Int.emod_lt_of_pos _ h0)⟩
  · rw [if_neg z]
    exact ⟨_, _, rfl, ⟨_, _, rfl, Int.emod_nonneg _ (by omega), by have := Int.emod_lt_of_pos (m * A + B) hP.1; omega⟩, h _ (Int.emod_nonneg _ (by omega)) (Int.emod_lt_of_pos _ h0)⟩
theorem draw_wp {n : Nat} (h0 : 0 < n) (h1 : n < 1000000) (h : ∀ d : Nat, d < n → Q (.int d)) : WP (T_law_draw [.pot, .int n]) Q :=
  drawT_wp (by decide) (by omega) (by omega) fun d d0 d1 => by
    obtain ⟨k, rfl⟩ : ∃ k : Nat, d = k := ⟨d.toNat, by omega⟩
    exact h k (by omega)
theorem pick_wp {α : Type} {l : List α} {enc : α → T} {k : Bool} (h0 : l ≠ []) (h1 : l.length < 1000000) (h : ∀ x ∈ l, Q (enc x)) : WP (T_law_pick [.pot, mkSeq k (l.map enc)]) Q := by
  have hp : 0 < l.length := List.length_pos_iff.mpr h0
  unfold T_law_pick FB_law_pick
  walk_at "wpr"
  rw [List.length_map]
  refine draw_wp hp h1 fun d d1 => ?_
  exact ixP_map (List.getElem?_eq_getElem d1) (h _ (List.getElem_mem d1))
abbrev IP := List Int × List Int
end
section
open PySem PySem.Spec PyProof.Rows L2 Evl PF
section
variable {τ : List Sl} {N : List Sl → Prop} {R P : T → Prop} {PL : List T → Prop} {F : FE} {i j : Nat}
theorem ws_ext {us : List T} (o : τ[i]? = some (.own us)) (h : WP (F τ) fun t => LstP t fun ws => AndP (us.length + ws.length < maxLen) (N (τ.set i (.own (us ++ ws))))) : WS (fExt i F τ) N R := fun p hp => by
  obtain ⟨a, q, e1, hq, ws, rfl, e, z⟩ := h p hp
  refine .inl ⟨_, q, ?_, hq, z⟩
  unfold fExt
  rw [e1]
  simp only [o]
  rw [if_pos e]
end
variable {P : T → Prop}
end
section
open PySem PySem.Spec PyProof.Rows L2 Evl PF
variable {P : T → Prop}
def dZ (l : List Int) : PyData := .list (l.map PyData.int)
theorem dt_Z (l : List Int) : Dt 1 (eZ l) (dZ l) := dt_lst (k := 0) l fun i _ => dt_int i
theorem eqv_Z (a b : List Int) : PyData.eqv (dZ a) (dZ b) = decide (a = b) := eqv_lst eqv_int a b
theorem step_dim {h : List Int} {rest rest' : List (List Int)} {p n : Nat} (hp : vz h p ≠ 0) (hl : ∀ x ∈ h :: rest, x.length = n) (c : All2 (fun x s => Clr x h p s) rest rest') : LA.dim ((h :: rest).map vz) = LA.dim (rest'.map vz) + 1 := by
  have hh : h.length = n := hl h (List.mem_cons_self ..)
  have hr : ∀ x ∈ rest, x.length = h.length := fun x hx => by rw [hl x (List.mem_cons_of_mem _ hx), hh]
  have e : LA.dim ((h :: rest).map vz) = LA.dim (vz h :: rest'.map vz) := LA.dim_eq (fun y hy => by
    rw [List.map_cons] at hy
    rcases List.mem_cons.mp hy with rfl | hy
    · exact .mem (List.mem_cons_self ..)
    · obtain ⟨x, hx, rfl⟩ := List.mem_map.mp hy
      obtain ⟨s, hs, cs⟩ := c.mem' x hx
      exact cs.fwd (hr x hx) hp (.mem (List.mem_cons_of_mem _ (List.mem_map_of_mem hs))) (.mem (List.mem_cons_self ..))) fun y hy => by
    rw [List.map_cons]
    rcases List.mem_cons.mp hy with rfl | hy
    · exact .mem (List.mem_cons_self ..)
    · obtain ⟨s, hs, rfl⟩ := List.mem_map.mp hy
      obtain ⟨x, hx, cs⟩ := c.mem s hs
      exact cs.bwd (hr x hx) hp (.mem (List.mem_cons_of_mem _ (List.mem_map_of_mem hx))) (.mem (List.mem_cons_self ..))
  rw [e]
  refine LA.dim_out fun sp => hp (LA.span_at (fun y hy => ?_) sp)
  obtain ⟨s, hs, rfl⟩ := List.mem_map.mp hy
  obtain ⟨x, hx, cs⟩ := c.mem s hs
  exact cs.own (hr x hx)
theorem All2.app {α β : Type} {S : α → β → Prop} : ∀ {l1 : List α} {m1 : List β} {l2 : List α} {m2 : List β}, All2 S l1 m1 → All2 S l2 m2 → All2 S (l1 ++ l2) (m1 ++ m2)
  | _, _, _, _, .nil, h => h
  | _, _, _, _, .cons a h, k => .cons a (All2.app h k)
theorem all2_self {α : Type} {S : α → α → Prop} : ∀ (l : List α), (∀ a ∈ l, S a a) → All2 S l l
  | [], _ => .nil
  | a :: l, h => .cons (h a (List.mem_cons_self ..)) (all2_self l fun b hb => h b (List.mem_cons_of_mem _ hb))
theorem filt_len {α : Type} (p : α → Bool) : ∀ l : List α, (l.filter p).length + (l.filter fun r => !p r).length = l.length
  | [] => rfl
  | a :: l => by
    have := filt_len p l
    rw [List.filter_cons, List.filter_cons]
    cases p a <;> simp <;> omega
theorem goNil {g : Tg} {Fb : FS} {τ : List Sl} {N : List Sl → Prop} {R : T → Prop} (h : N τ) : WS (forGo g Fb [] τ) N R := fun p hp => .inl ⟨τ, p, rfl, hp, h⟩
/-- after the places before k -/
structure RI (n b : Nat) (S : List LA.Vec) (k found : Nat) (left : List (List Int)) : Prop where
  ok : ∀ x ∈ left, x.length = n ∧ BdZ (2 ^ found * (b + 1) - 1) x ∧ ∀ j, j < k → vz x j = 0
  dm : LA.dim S = found + LA.dim (left.map vz)
  dn : LA.dim S ≤ n
  sz : left.length ≤ 40
theorem RI.none {n b k found : Nat} {S : List LA.Vec} {left : List (List Int)} (I : RI n b S k found left) (h : left.filter (fun r => !decide (r.getD k 0 = 0)) = []) : RI n b S (k + 1) found left where
  ok := fun x hx => by
    have := I.ok x hx
    refine ⟨this.1, this.2.1, fun j hj => ?_⟩
    by_cases e : j = k
    · subst e
      have := List.filter_eq_nil_iff.mp h x hx
      exact vz_eq.mpr (by simpa using this)
    · exact this.2.2 j (by omega)
  dm := I.dm
  dn := I.dn
  sz := I.sz
theorem RI.some {n b k found : Nat} {S : List LA.Vec} {left cl : List (List Int)} {h : List Int} {rest : List (List Int)} (I : RI n b S k found left) (e : left.filter (fun r => !decide (r.getD k 0 = 0)) = h :: rest)
    (c : All2 (fun x s => Clr x h k s) rest cl) : RI n b S (k + 1) (found + 1) (left.filter (fun r => decide (r.getD k 0 = 0)) ++ cl) := by
  have hm : ∀ x ∈ h :: rest, x ∈ left ∧ vz x k ≠ 0 := fun x hx => by
    rw [← e] at hx
    have := List.mem_filter.mp hx
    exact ⟨this.1, vz_ne.mpr (by simpa using this.2)⟩
  have zm : ∀ x ∈ left.filter (fun r => decide (r.getD k 0 = 0)), x ∈ left ∧ x.getD k 0 = 0 := fun x hx => by
    have := List.mem_filter.mp hx
    exact ⟨this.1, by simpa using this.2⟩
  have hh := hm h (List.mem_cons_self ..)
  obtain ⟨hl, hbd, hz⟩ := I.ok h hh.1
  have c2 : All2 (fun x s => Clr x h k s) (left.filter (fun r => decide (r.getD k 0 = 0)) ++ rest) (left.filter (fun r => decide (r.getD k 0 = 0)) ++ cl) :=
    All2.app (all2_self _ fun x hx => ⟨fun _ => rfl, fun q => absurd (zm x hx).2 q⟩) c
  have mem : ∀ x ∈ left.filter (fun r => decide (r.getD k 0 = 0)) ++ rest, x ∈ left := fun x hx => by
    rcases List.mem_append.mp hx with hx | hx
    · exact (zm x hx).1
    · exact (hm x (List.mem_cons_of_mem _ hx)).1
  have sd := step_dim (n := n) hh.2 (fun x hx => by
    rcases List.mem_cons.mp hx with rfl | hx
    · exact hl
    · exact (I.ok x (mem x hx)).1) c2
  have same : LA.dim (left.map vz) = LA.dim ((h :: (left.filter (fun r => decide (r.getD k 0 = 0)) ++ rest)).map vz) := LA.dim_eq (LA.Le.sub fun y hy => by
    obtain ⟨x, hx, rfl⟩ := List.mem_map.mp hy
    refine List.mem_map_of_mem ?_
    by_cases z : x.getD k 0 = 0
    · exact List.mem_cons_of_mem _ (List.mem_append_left _ (List.mem_filter.mpr ⟨hx, by simpa using z⟩))
    · have : x ∈ h :: rest := by rw [← e]; exact List.mem_filter.mpr ⟨hx, by simpa using z⟩
      rcases List.mem_cons.mp this with rfl | this
      · exact List.mem_cons_self ..
      · exact List.mem_cons_of_mem _ (List.mem_append_right _ this)) (LA.Le.sub fun y hy => by
    obtain ⟨x, hx, rfl⟩ := List.mem_map.mp hy
    refine List.mem_map_of_mem ?_
    rcases List.mem_cons.mp hx with rfl | hx
    · exact hh.1
    · exact mem x hx)
  have dm := I.dm
  have dn := I.dn
  rw [same, sd] at dm
  have pw : 1 ≤ 2 ^ found := Nat.two_pow_pos _
  refine ⟨fun s hs => ?_, by omega, dn, ?_⟩
  · obtain ⟨x, hx, cx⟩ := c2.mem s hs
    obtain ⟨xl, xb, xz⟩ := I.ok x (mem x hx)
    refine ⟨by rw [cx.len (by omega), xl], (cx.bd xb hbd).le ?_, fun j hj => ?_⟩
    · rw [Nat.pow_succ, Nat.mul_right_comm]
      have : 1 * (b + 1) ≤ 2 ^ found * (b + 1) := Nat.mul_le_mul_right _ pw
      omega
    · by_cases q : j = k
      · subst q
        exact cx.own (by omega)
      · exact (cx.at (by omega) hh.2 (hz j (by omega))).mp (xz j (by omega))
  · have h1 := c.len
    have h2 : (left.filter (fun r => decide (r.getD k 0 = 0))).length + (h :: rest).length = left.length := by
      rw [← e]
      exact filt_len _ left
    rw [List.length_append]
    have := I.sz
    rw [List.length_cons] at h2
    omega
end
section
open PySem PySem.Spec PyProof.Rows L2 Evl PF
section
/-- its text is known, no longer than b -/
def Tx (n b : Nat) (t : T) : Prop := ∃ x, reprN n t = some x ∧ x.length ≤ b
theorem Tx.le {n b c : Nat} {t : T} (h : Tx n b t) (l : b ≤ c) : Tx n c t := by
  obtain ⟨x, e, k⟩ := h
  exact ⟨x, e, Nat.le_trans k l⟩
theorem leaf_int {i : Int} (h : i.natAbs < 2 ^ 1900) : leafT (.int i) = some (tS i) := by
  show (if i.natAbs.log2 < 1920 then some ((toString i : String) : Str) else none) = _
  rw [if_pos (fit_tS h)]
theorem tx_int {n : Nat} {i : Int} (h : i.natAbs < 2 ^ 1900) : Tx n 1901 (.int i) := by
  refine ⟨tS i, ?_, len_tS h⟩
  cases n <;> exact leaf_int h
theorem tx_nat {n i : Nat} (h : i ≤ 1000000) : Tx n 1901 (.int (i : Nat)) := tx_int (by
  rw [Int.natAbs_natCast]
  exact Nat.lt_of_lt_of_le (show i < 2 ^ 20 by omega) (Nat.pow_le_pow_right (by decide) (by decide)))
theorem allM_tx {n b : Nat} : ∀ {l : List T}, (∀ t ∈ l, Tx n b t) → ∃ ts, allM (reprN n) l = some ts ∧ ts.length = l.length ∧ ∀ y ∈ ts, y.length ≤ b
  | [], _ => ⟨[], rfl, rfl, fun y hy => nomatch hy⟩
  | a :: l, h => by
    obtain ⟨y, e, ly⟩ := h a (List.mem_cons_self ..)
    obtain ⟨ts, e2, e3, e4⟩ := allM_tx fun b hb => h b (List.mem_cons_of_mem _ hb)
    refine ⟨y :: ts, ?_, by simp [e3], fun z hz => ?_⟩
    · simp only [allM, e, e2]
    · rcases List.mem_cons.mp hz with rfl | hz
      · exact ly
      · exact e4 z hz
theorem textFrom_le' {b : Nat} : ∀ (ts : List Str) (k : Nat) (acc : Str), (∀ y ∈ ts, y.length ≤ b) → (textFrom k acc ts).length ≤ acc.length + ts.length * (b + 2)
  | [], k, acc, _ => by simp [textFrom]
  | t :: ts, k, acc, h => by
    have lt := h t (List.mem_cons_self ..)
    have z2 : (", " : Str).length = 2 := rfl
    unfold textFrom
    refine Nat.le_trans (textFrom_le' ts _ _ fun y hy => h y (List.mem_cons_of_mem _ hy)) ?_
    have z0 : (Str.ofString "").length = 0 := rfl
    rw [List.length_cons, Nat.succ_mul]
    split <;> simp only [Str.length_append] <;> omega
theorem piled_le {b : Nat} : ∀ (ts : List Str), (∀ y ∈ ts, y.length ≤ b) → piled ts ≤ ts.length * (b + 2)
  | [], _ => by simp [piled]
  | t :: ts, h => by
    rw [piled_cons, List.length_cons, Nat.succ_mul]
    have := piled_le ts fun y hy => h y (List.mem_cons_of_mem _ hy)
    have := h t (List.mem_cons_self ..)
    omega
theorem tx_seq {n b m : Nat} {l : List T} (k : Bool) (h : ∀ t ∈ l, Tx n b t) (hl : l.length ≤ m) : Tx (n + 1) (4 + m * (b + 2)) (mkSeq k l) := by
  obtain ⟨ts, e1, e2, e3⟩ := allM_tx h
  have mm : ts.length * (b + 2) ≤ m * (b + 2) := Nat.mul_le_mul_right _ (by omega)
  cases k with
  | true =>
    refine ⟨listText ts, ?_, ?_⟩
    · show (allM (reprN n) l).map listText = _
      rw [e1]
      rfl
    · have := textFrom_le' ts 0 "[" e3
      have z1 : ("[" : Str).length = 1 := rfl
      have z2 : ("]" : Str).length = 1 := rfl
      unfold listText
      rw [Str.length_append]
      omega
  | false =>
    refine ⟨tupleText ts, ?_, ?_⟩
    · show (allM (reprN n) l).map tupleText = _
      rw [e1]
      rfl
    · have z1 : ("(" : Str).length = 1 := rfl
      have z2 : (",)" : Str).length = 2 := rfl
      have z3 : (")" : Str).length = 1 := rfl
      have pl := piled_le ts e3
      have j : (Str.join ", " ts).length ≤ piled ts := by
        by_cases q : ts = []
        · subst q; exact Nat.le_refl _
        · have := join_length_add ts q; omega
      unfold tupleText
      rw [Str.length_append, Str.length_append]
      split <;> omega
theorem tx_repr {b : Nat} {t : T} (nd : ∀ l, t ≠ .dct l) (h : Tx 4 b t) (l : b ≤ 16777216) : ∃ x, reprT t = some x ∧ x.length ≤ sizeLine := by
  have lz : sizeLine = 16777216 := by decide
  obtain ⟨x, e, k⟩ := h
  refine ⟨x, ?_, by omega⟩
  rw [← e]
  unfold reprT
  split
  · rename_i l'
    exact absurd rfl (nd l')
  · rfl
theorem Tx.leaf {b n : Nat} {t : T} (h : Tx 0 b t) (k : ∀ l, t ≠ .lst l) (k2 : ∀ l, t ≠ .tup l) : Tx n b t := by
  obtain ⟨x, e, l⟩ := h
  refine ⟨x, ?_, l⟩
  rw [← e]
  cases n with
  | zero => rfl
  | succ n =>
    cases t with
    | lst l => exact absurd rfl (k l)
    | tup l => exact absurd rfl (k2 l)
    | _ => rfl
theorem tx_RT {q : Rat} {b n : Nat} (h : Sz b q) (hb : b ≤ 1900) : Tx n 4000 (RT q) := by
  have hn : q.num.natAbs < 2 ^ 1900 := Nat.lt_of_lt_of_le h.1 (Nat.pow_le_pow_right (by decide) hb)
  have hd : ((q.den : Nat) : Int).natAbs < 2 ^ 1900 := by
    rw [Int.natAbs_natCast]
    exact Nat.lt_of_lt_of_le h.2 (Nat.pow_le_pow_right (by decide) hb)
  refine Tx.leaf ⟨("Ratio(" : Str) ++ tS q.num ++ ", " ++ tS (q.den : Int) ++ ")", ?_, ?_⟩ (fun l e => nomatch e) (fun l e => nomatch e)
  · show ratText q.num (q.den : Int) = _
    unfold ratText
    rw [bits_of (i := q.num) (by decide) hn, bits_of (i := (q.den : Int)) (by decide) hd]
    rfl
  · have l1 := len_tS hn
    have l2 := len_tS hd
    have z0 : (("Ratio(" : Str)).length = 6 := rfl
    have z1 : ((", " : Str)).length = 2 := rfl
    have z2 : ((")" : Str)).length = 1 := rfl
    have l1' : (tS q.num).length ≤ 1901 := l1
    have l2' : (tS (q.den : Int)).length ≤ 1901 := l2
    rw [Str.length_append, Str.length_append, Str.length_append, Str.length_append]
    omega
end
end
section
open PySem PySem.Spec PyProof.Rows L2 Evl PF
variable {P : T → Prop}
abbrev Pt : Type := Int × Int
abbrev eP (p : Pt) : T := .tup [.int p.1, .int p.2]
abbrev eB2 (b : Nat × Nat) : T := .tup [tN b.1, tN b.2]
structure FrOk (ps : List Pt) (bs : List (Nat × Nat)) : Prop where
  l5 : ps.length ≤ 5
  sm : ∀ p ∈ ps, p.1.natAbs ≤ 5 ∧ p.2.natAbs ≤ 4 ∧ p.2 % 2 = 0
  b8 : bs.length ≤ 8
  lt : ∀ b ∈ bs, b.1 < b.2 ∧ b.2 < ps.length
def evr (c k : Nat) : List (Nat × Nat) := (List.range k).flatMap fun i => (List.range' (i + 1) (c - (i + 1))).map fun j => (i, j)
theorem evr_next (c k : Nat) : evr c (k + 1) = evr c k ++ (List.range' (k + 1) (c - (k + 1))).map fun j => (k, j) := by
  unfold evr
  rw [List.range_succ, List.flatMap_append]
  simp
def dB2 (b : Nat × Nat) : PyData := .tuple [.int b.1, .int b.2]
theorem dt_B2 (b : Nat × Nat) : Dt 1 (eB2 b) (dB2 b) := by
  refine ⟨?_, ?_, ?_⟩
  · simp [toD, toDs, dB2]
  · simp [dB2, PyData.canLay0, PyData.canLayAll0]
  · simp [dB2, PyData.depth, PyData.depthAll]
theorem eqv_B2 (a b : Nat × Nat) : PyData.eqv (dB2 a) (dB2 b) = decide (a = b) := by
  obtain ⟨a1, a2⟩ := a
  obtain ⟨b1, b2⟩ := b
  have h : PyData.eqv (dB2 (a1, a2)) (dB2 (b1, b2)) = (PyData.eqv (.int a1) (.int b1) && (PyData.eqv (.int a2) (.int b2) && true)) := by simp only [dB2, PyData.eqv, PyData.eqvAll]
  rw [h, eqv_int, eqv_int]
  by_cases x : a1 = b1 <;> by_cases y : a2 = b2 <;> simp [x, y] <;> omega
theorem cut_takeM (l : List T) (i : Nat) : cutT l none (some (i : Int)) = l.take i := by
  unfold cutT
  rw [HT.sIx_none, HT.sIx_nat]
  simp only [List.drop_zero, Nat.sub_zero]
  by_cases h : i ≤ l.length
  · rw [Nat.min_eq_left h]
  · rw [Nat.min_eq_right (by omega), List.take_length, List.take_of_length_le (by omega)]
theorem evr_all : ∀ c, c ≤ 5 → ∀ k, k ≤ 5 → (evr c k).length ≤ 25 := by decide +kernel
theorem evr_len {c k : Nat} (hc : c ≤ 5) (hk : k ≤ 5) : (evr c k).length ≤ 25 := evr_all c hc k hk
theorem mem_evr {c k : Nat} {b : Nat × Nat} (h : b ∈ evr c k) : b.1 < b.2 ∧ b.2 < c := by
  obtain ⟨i, hi, h⟩ := List.mem_flatMap.mp h
  obtain ⟨j, hj, rfl⟩ := List.mem_map.mp h
  have := List.mem_range'_1.mp hj
  have := List.mem_range.mp hi
  show i < j ∧ j < c
  omega
theorem frame_wp {m : Nat} (hm : m ≤ 5) : WP (T_law_frame [.pot, .int m, .int 8]) (fun t => ∃ ps bs, t = .tup [.lst (ps.map eP), .lst (bs.map eB2)] ∧ FrOk ps bs) := by
  unfold T_law_frame FB_law_frame
  walk_at "wpr"
  rw [show (m : Int) + 1 = ((m + 1 : Nat) : Int) by omega]
  refine draw_wp (n := m + 1) (by omega) (by omega) fun c hc => ?_
  walk_at "wp"
  refine rngP (by omega) ?_
  refine ws_go (fun pre τ => ∃ (ps : List Pt) (s5 s6 s7 : Sl), τ = [.val .pot, .val (.int m), .val (.int 8), .own (ps.map eP), .own [], s5, s6, s7, .no, .no, .no, .no] ∧ ps.length = pre.length ∧ ∀ p ∈ ps, p.1.natAbs ≤ 5 ∧ p.2.natAbs ≤ 4 ∧ p.2 % 2 = 0) (List.range c) (fun i => T.int (i : Nat))
    ⟨[], .no, .no, .no, rfl, rfl, fun p hp => (nomatch hp)⟩ (fun pre i post τ e ⟨ps, s5, s6, s7, et, lp, sm⟩ => ?_) (fun τ ⟨ps, s5, s6, s7, et, lp, sm⟩ => ?_)
  · subst et
    have lc : pre.length < c := by
      have := congrArg List.length e
      rw [List.length_range, List.length_append, List.length_cons] at this
      omega
    walk_at "wp"
    refine draw_wp (n := 5) (by decide) (by decide) fun x hx => ?_
    walk_at "wp"
    refine draw_wp (n := 5) (by decide) (by decide) fun y hy => ?_
    walk_at "wp"
    refine draw_wp (n := 4) (by decide) (by decide) fun z hz => ?_
    walk_at "wp"
    have b1 : bits 400000 ((x : Int) - 2) = true := bits_bd (b := 10) (by omega) (by decide) (by decide)
    have b2 : bits 400000 ((y : Int) - 2) = true := bits_bd (b := 10) (by omega) (by decide) (by decide)
    have b3 : bits 400000 (2 : Int) = true := by decide +kernel
    have c1 : (bits 400000 (2 : Int) && bits 400000 ((x : Int) - 2)) = true := by rw [b1, b3]; rfl
    have c2 : (bits 400000 (2 : Int) && bits 400000 ((y : Int) - 2)) = true := by rw [b2, b3]; rfl
    have fin : ∀ q : Pt, q.1.natAbs ≤ 5 ∧ q.2.natAbs ≤ 4 ∧ q.2 % 2 = 0 → ∃ (ps' : List Pt) (s5 s6 s7 : Sl), [Sl.val T.pot, .val (.int m), .val (.int 8), .own (ps.map eP ++ [eP q]), .own [], .val (.int (i : Nat)), .val (.int ((x : Int) - 2)), .val (.int ((y : Int) - 2)), .no, .no, .no, .no] = [Sl.val T.pot, .val (.int m), .val (.int 8), .own (ps'.map eP), .own [], s5, s6, s7, .no, .no, .no, .no] ∧ ps'.length = (pre ++ [i]).length ∧ ∀ p ∈ ps', p.1.natAbs ≤ 5 ∧ p.2.natAbs ≤ 4 ∧ p.2 % 2 = 0 := fun q hq =>
      ⟨ps ++ [q], _, _, _, by rw [List.map_append]; rfl, by rw [List.length_append, List.length_append, lp]; rfl, fun p hp => (List.mem_append.mp hp).elim (sm p) fun h => by rw [List.mem_singleton.mp h]; exact hq⟩
    refine ifP_dec (fun _ => ?_) (fun _ => ?_)
    · walk_at "wp"
      refine wp_gI c1 ?_
      walk_at "wp"
      refine wp_gI c2 ?_
      walk_at "wp"
      refine andP (by rw [List.length_map]; show ps.length < 40000; omega) ?_
      exact fin (2 * ((x : Int) - 2), 2 * ((y : Int) - 2)) ⟨by show (2 * ((x : Int) - 2)).natAbs ≤ 5; omega, by show (2 * ((y : Int) - 2)).natAbs ≤ 4; omega, by show (2 * ((y : Int) - 2)) % 2 = 0; omega⟩
    · walk_at "wp"
      refine wp_gI c1 ?_
      walk_at "wp"
      refine wp_gI c2 ?_
      walk_at "wp"
      refine andP (by rw [List.length_map]; show ps.length < 40000; omega) ?_
      exact fin (2 * ((x : Int) - 2) + 1, 2 * ((y : Int) - 2)) ⟨by show (2 * ((x : Int) - 2) + 1).natAbs ≤ 5; omega, by show (2 * ((y : Int) - 2)).natAbs ≤ 4; omega, by show (2 * ((y : Int) - 2)) % 2 = 0; omega⟩
  · subst et
    rw [List.length_range] at lp
    walk_at "wp"
    rw [List.length_map, lp]
    refine rngP (by omega) ?_
    refine ws_go (fun pre τ => ∃ (s10 : Sl), τ = [.val .pot, .val (.int m), .val (.int 8), .own (ps.map eP), .own [], s5, s6, s7, .val (.int c), .own ((evr c pre.length).map eB2), s10, .no]) (List.range c) (fun i => T.int (i : Nat))
      ⟨.no, rfl⟩ (fun pre i post τ e ⟨s10, et⟩ => ?_) (fun τ ⟨s10, et⟩ => ?_)
    · subst et
      have ei : i = pre.length ∧ pre.length < c := by
        have h1 : (List.range c)[pre.length]? = some i := by rw [e]; simp
        have h2 : pre.length < c := by
          have := (List.getElem?_eq_some_iff.mp h1).1
          simpa using this
        rw [List.getElem?_range h2] at h1
        exact ⟨(Option.some.inj h1).symm, h2⟩
      obtain ⟨rfl, ic⟩ := ei
      refine putP rfl (ws_ext rfl ?_)
      walk_at "wp"
      have el := evr_len (c := c) (k := pre.length) (by omega) (by omega)
      rw [show (pre.length : Int) + 1 = ((pre.length + 1 : Nat) : Int) by omega]
      refine rng2P (by omega) (by omega) ?_
      refine somP rfl ?_
      refine lenP_map (l := List.range' (pre.length + 1) (c - (pre.length + 1))) (by rw [List.length_range']; omega) ?_
      refine wp_map (List.range' (pre.length + 1) (c - (pre.length + 1))) (fun i => T.int (i : Nat)) (fun j => eB2 (pre.length, j)) (fun j hj => ?_) ?_
      · walk_at "wp"
      walk_at "wp"
      refine andP (by rw [List.length_map, List.length_map, List.length_range']; show _ < 40000; omega) ?_
      refine ⟨.val (.int (pre.length : Nat)), ?_⟩
      rw [List.length_append, show pre.length + [pre.length].length = pre.length + 1 from rfl, evr_next, List.map_append, List.map_map]
      rfl
    · subst et
      rw [List.length_range]
      have el := evr_len (c := c) (k := c) (by omega) (by omega)
      walk_at "wp"
      refine draw_wp (n := 3) (by decide) (by decide) fun d hd => ?_
      walk_at "wp"
      refine ifP_dec (fun _ => ?_) (fun _ => ?_)
      · walk_at "wp"
        rw [show (8 : Int) = ((8 : Nat) : Int) from rfl, cut_takeM, ← List.map_take]
        exact ⟨ps, (evr c c).take 8, rfl, by omega, sm, by rw [List.length_take]; omega, fun b hb => by
          have := mem_evr (List.mem_of_mem_take hb)
          omega⟩
      · walk_at "wp"
        refine eqD_wp (k := 2) (dt_lst (k := 1) (enc := eB2) (f := dB2) (evr c c) fun b _ => dt_B2 b) (dt_lst (k := 1) (enc := eB2) (f := dB2) [] fun r hr => by cases hr) (by decide) ?_
        rw [eqv_lst eqv_B2, if_pos rfl]
        walk_at "wp"
        have fin : ∀ bs : List (Nat × Nat), bs.length ≤ 8 → (∀ b ∈ bs, b ∈ evr c c) → FrOk ps bs := fun bs h1 h2 => ⟨by omega, sm, h1, fun b hb => by
          have := mem_evr (h2 b hb)
          omega⟩
        refine ifP_dec (fun e0 => ?_) (fun e0 => ?_)
        · walk_at "wp"
          refine rngP (n := 0) (by decide) ?_
          refine goNil ?_
          walk_at "wp"
          exact ⟨ps, [], rfl, fin [] (by decide) fun b hb => (nomatch hb)⟩
        · walk_at "wp"
          refine draw_wp (n := 9) (by decide) (by decide) fun r hr => ?_
          walk_at "wp"
          refine rngP (by omega) ?_
          refine ws_go (fun pre τ => ∃ (bs : List (Nat × Nat)) (s5 : Sl), τ = [.val .pot, .val (.int m), .val (.int 8), .own (ps.map eP), .own (bs.map eB2), s5, s6, s7, .val (.int c), .own ((evr c c).map eB2), s10, .no] ∧ bs.length = pre.length ∧ ∀ b ∈ bs, b ∈ evr c c) (List.range r) (fun i => T.int (i : Nat))
            ⟨[], s5, rfl, rfl, fun b hb => (nomatch hb)⟩ (fun pre i post τ e ⟨bs, s5, et, lb, mb⟩ => ?_) (fun τ ⟨bs, s5, et, lb, mb⟩ => ?_)
          · subst et
            have lr : pre.length < r := by
              have := congrArg List.length e
              rw [List.length_range, List.length_append, List.length_cons] at this
              omega
            refine putP rfl (ws_app rfl (wp_callO rfl ?_))
            walk_at "wp"
            refine ⟨trivial, ?_⟩
            refine pick_wp (k := true) (l := evr c c) (enc := eB2) e0 (by omega) fun b hb => ?_
            refine andP (by rw [List.length_map]; show _ < 40000; omega) ?_
            exact ⟨bs ++ [b], .val (.int (i : Nat)), by rw [List.map_append]; rfl, by rw [List.length_append, List.length_append, lb]; rfl, fun x hx => (List.mem_append.mp hx).elim (mb x) fun h => by rw [List.mem_singleton.mp h]; exact hb⟩
          · subst et
            rw [List.length_range] at lb
            walk_at "wp"
            exact ⟨ps, bs, rfl, fin bs (by omega) mb⟩
end
section
open PySem PySem.Spec PyProof.Rows L2 Evl PF
variable {P : T → Prop}
def hf (a : Int) : Rat := Rat.divInt a 2
/-- a point as the frame keeps it -/
abbrev eF (p : Pt) : T := .tup [RT (hf p.1), RT (hf p.2)]
def encF (ps : List Pt) (bs : List (Nat × Nat)) : T := .ins 2 [.lst (ps.map eF), .lst (bs.map eB2)]
/-- a point as it is passed -/
def PtT (t : T) (p : Pt) : Prop := ∃ u v, t = .tup [u, v] ∧ NumT u (hf p.1) ∧ NumT v (hf p.2)
theorem is_point_wp {t : T} {p : Pt} (h : PtT t p) : WP (T_is_point [t]) (· = .bl true) := by
  obtain ⟨u, v, rfl, hu, hv⟩ := h
  unfold T_is_point FB_is_point
  walk_at "wpr"
  refine wp_some (fun pot => is_row_N (pot := pot) (k := false) (l := [u, v]) (r := [hf p.1, hf p.2]) (n := 2) (.cons hu (.cons hv .nil)) (show 2 ≤ 40000 by decide) rfl) ?_
  walk_at "wp"
theorem rising_tuple_wp {m : Nat} {b : Nat × Nat} (h : b.1 < b.2 ∧ b.2 < m) (hm : m ≤ 8) : WP (T_is_rising_tuple [.int m, .int 2, eB2 b]) (· = .bl true) := by
  unfold T_is_rising_tuple FB_is_rising_tuple
  walk_at "wpr"
  refine ifP_pos rfl ?_
  walk_at "wp"
  have lot : Lot m [b.1, b.2] := ⟨by
    refine List.pairwise_cons.mpr ⟨fun x hx => ?_, List.pairwise_singleton ..⟩
    rw [List.mem_singleton.mp hx]
    exact h.1, fun i hi => by
    rcases List.mem_cons.mp hi with rfl | hi
    · omega
    · rw [List.mem_singleton.mp hi]; exact h.2⟩
  refine (is_rising_wp (k := false) (l := [b.1, b.2]) lot (by omega)).at ?_
  rfl
def PZ : Type := { z : T × Pt // PtT z.1 z.2 }
def tP (z : PZ) : T := z.1.1
def vP (z : PZ) : Pt := z.1.2
theorem paired_PZ : ∀ {l : List T} {m : List Pt}, Paired PtT l m → ∃ zs : List PZ, l = zs.map tP ∧ m = zs.map vP
  | _, _, .nil => ⟨[], rfl, rfl⟩
  | _, _, .cons h hs => by
    obtain ⟨zs, rfl, rfl⟩ := paired_PZ hs
    exact ⟨⟨(_, _), h⟩ :: zs, rfl, rfl⟩
theorem frame_init_wp {k1 k2 : Bool} {zs : List PZ} {bs : List (Nat × Nat)} (ok : FrOk (zs.map vP) bs) : WP (T_Frame_init [mkSeq k1 (zs.map tP), mkSeq k2 (bs.map eB2)]) (· = encF (zs.map vP) bs) := by
  have l5 := ok.l5
  rw [List.length_map] at l5
  have b8 := ok.b8
  unfold T_Frame_init
  refine wp_runI ?_
  show WS (FB_Frame_init [Sl.obj 2 [], .val (mkSeq k1 (zs.map tP)), .val (mkSeq k2 (bs.map eB2)), .no, .no, .no, .no]) _ _
  unfold FB_Frame_init
  walk_at "wp"
  refine wp_some (fun p => is_list_mk) ?_
  walk_at "wp"
  rw [List.length_map]
  refine ifP_neg (by omega) ?_
  walk_at "wp"
  refine lenP_map (l := zs) (by omega) ?_
  refine wp_map zs tP (fun _ => .bl true) (fun z hz => ?_) ?_
  · walk_at "wp"
    exact is_point_wp z.2
  walk_at "wp"
  refine somP (all_trues zs) ?_
  walk_at "wp"
  refine wp_some (fun p => is_list_mk) ?_
  walk_at "wp"
  rw [List.length_map]
  refine ifP_neg (by omega) ?_
  walk_at "wp"
  refine lenP_map (l := bs) (by omega) ?_
  refine wp_map bs eB2 (fun _ => .bl true) (fun b hb => ?_) ?_
  · walk_at "wp"
    rw [List.length_map]
    have := ok.lt b hb
    rw [List.length_map] at this
    exact rising_tuple_wp this (by omega)
  walk_at "wp"
  refine somP (all_trues bs) ?_
  walk_at "wp"
  refine lenP_map (l := zs) (by omega) ?_
  refine wp_map zs tP (fun z => eF (vP z)) (fun z hz => ?_) ?_
  · obtain ⟨u, v, e, hu, hv⟩ := z.2
    have e2 : tP z = mkSeq false [u, v] := e
    rw [e2]
    walk_at "wp"
    refine wp_some (fun p => ratio_row_N (pot := p) (k := false) (l := [u, v]) (r := [hf (vP z).1, hf (vP z).2]) (.cons hu (.cons hv .nil)) (show 2 ≤ 40000 by decide)) ?_
    walk_at "wp"
    rfl
  walk_at "wp"
  refine lenP_map (l := bs) (by omega) ?_
  refine wp_map bs eB2 eB2 (fun b hb => ?_) ?_
  · walk_at "wp"
  walk_at "wp"
  refine ⟨_, _, rfl, rfl, ?_⟩
  unfold encF
  rw [List.map_map]
  rfl
theorem all2_mapN {α β : Type} {S : α → T → Prop} {R : T → β → Prop} {f : α → β} (h : ∀ a t, S a t → R t (f a)) : ∀ {l : List α} {m : List T}, All2 S l m → Paired R m (l.map f)
  | _, _, .nil => .nil
  | _, _, .cons a b => .cons (h _ _ a) (all2_mapN h b)
theorem half_even {a : Int} (h : a % 2 = 0) : hf a = ((a.fdiv 2 : Int) : Rat) := by
  obtain ⟨k, rfl⟩ : ∃ k, a = 2 * k := ⟨a / 2, by omega⟩
  rw [Int.mul_fdiv_cancel_left _ (by decide)]
  unfold hf
  rw [Rat.divInt_eq_div, Rat.intCast_mul, Rat.div_def]
  have : ((2 : Int) : Rat) * ((2 : Int) : Rat)⁻¹ = 1 := by decide +kernel
  grind
theorem made_wp {ps : List Pt} {bs : List (Nat × Nat)} (ok : FrOk ps bs) : WP (T_law_made [.pot, .lst (ps.map eP), .lst (bs.map eB2)]) (· = encF ps bs) := by
  have l5 := ok.l5
  have b8 := ok.b8
  unfold T_law_made FB_law_made
  walk_at "wpr"
  refine lenP_map (l := ps) (by omega) ?_
  refine wp_mapE (fun (p : Pt) (t : T) => PtT t p) ps _ id (fun p hp => ?_) (fun m hm => ?_)
  · have sm := ok.sm p hp
    have two : bits 9000 (2 : Int) = true := by decide +kernel
    walk_at "wp"
    refine wp_some (fun pot => init_R (by decide) two) ?_
    walk_at "wp"
    refine draw_wp (n := 2) (by decide) (by decide) fun d hd => ?_
    walk_at "wp"
    refine ifP_dec (fun h => ?_) (fun h => ?_)
    · walk_at "wp"
      refine wp_gI (by rw [two]; rfl) ?_
      walk_at "wp"
      exact ⟨_, rfl, _, _, rfl, numR _, .inr ⟨_, rfl, half_even sm.2.2⟩⟩
    · walk_at "wp"
      refine wp_some (fun pot => init_R (by decide) two) ?_
      walk_at "wp"
      exact ⟨_, rfl, _, _, rfl, numR _, numR _⟩
  · rw [List.map_id]
    have pr := all2_mapN (R := PtT) (f := id) (fun a t h => h) hm
    rw [List.map_id] at pr
    obtain ⟨zs, rfl, rfl⟩ := paired_PZ pr
    have l6 := l5
    rw [List.length_map] at l6
    have lz : (zs.map tP).length ≤ maxLen := by rw [List.length_map]; show zs.length ≤ 40000; omega
    have lb : (bs.map eB2).length ≤ maxLen := by rw [List.length_map]; show bs.length ≤ 40000; omega
    walk_at "wp"
    refine draw_wp (n := 2) (by decide) (by decide) fun d hd => ?_
    walk_at "wp"
    refine ifP_dec (fun _ => ?_) (fun _ => ?_)
    · walk_at "wp"
      refine draw_wp (n := 2) (by decide) (by decide) fun d hd => ?_
      walk_at "wp"
      refine ifP_dec (fun _ => ?_) (fun _ => ?_)
      · walk_at "wp"
        exact frame_init_wp (k1 := false) (k2 := false) ok
      · walk_at "wp"
        refine lenP lb ?_
        walk_at "wp"
        exact frame_init_wp (k1 := false) (k2 := true) ok
    · walk_at "wp"
      refine draw_wp (n := 2) (by decide) (by decide) fun d hd => ?_
      walk_at "wp"
      refine ifP_dec (fun _ => ?_) (fun _ => ?_)
      · walk_at "wp"
        exact frame_init_wp (k1 := true) (k2 := false) ok
      · walk_at "wp"
        refine lenP lb ?_
        walk_at "wp"
        exact frame_init_wp (k1 := true) (k2 := true) ok
end
section
open PySem PySem.Spec PyProof.Rows L2 Evl PF
variable {P : T → Prop}
def crd (p : Pt) (s : Nat) : Int := if s = 0 then p.1 else p.2
def trs (n i j : Nat) (D : Nat → Int) : Nat → List Int
  | 0 => List.replicate n 0
  | k + 1 => ((trs n i j D k).set (2 * i + k) (D k)).set (2 * j + k) (-(D k))
theorem trs_len (n i j : Nat) (D : Nat → Int) : ∀ k, (trs n i j D k).length = n
  | 0 => List.length_replicate ..
  | k + 1 => by
    show (((trs n i j D k).set _ _).set _ _).length = n
    rw [List.length_set, List.length_set, trs_len n i j D k]
def difs (ps : List Pt) (b : Nat × Nat) (s : Nat) : Int := crd (ps.getD b.1 (0, 0)) s - crd (ps.getD b.2 (0, 0)) s
/-- a row of the table, of INTEGERS -/
def trow (ps : List Pt) (b : Nat × Nat) : List Int := trs (2 * ps.length) b.1 b.2 (difs ps b) 2
theorem ix_crd {p : Pt} {s : Nat} (hs : s < 2) (z : P (.int (crd p s))) : IxP [T.int p.1, T.int p.2] (.int (s : Nat)) P := by
  have : s = 0 ∨ s = 1 := by omega
  rcases this with rfl | rfl
  · exact ixP_map (l := [p.1, p.2]) (enc := T.int) (n := 0) (a := p.1) rfl z
  · exact ixP_map (l := [p.1, p.2]) (enc := T.int) (n := 1) (a := p.2) rfl z
theorem zerosI (n : Nat) : (List.replicate n [T.int 0]).flatten = (List.replicate n (0 : Int)).map T.int := by
  induction n with
  | zero => rfl
  | succ n ih => rw [List.replicate_succ, List.flatten_cons, ih, List.replicate_succ]; rfl
theorem at2 {i : Nat} (h : i < 2) {pre post : List Nat} (e : List.range 2 = pre ++ i :: post) : i = pre.length := by
  have h1 : (List.range 2)[pre.length]? = some i := by rw [e]; simp
  have h2 : pre.length < 2 := by
    have := (List.getElem?_eq_some_iff.mp h1).1
    simpa using this
  rw [List.getElem?_range h2] at h1
  exact (Option.some.inj h1).symm
theorem law_table_wp {ps : List Pt} {bs : List (Nat × Nat)} (ok : FrOk ps bs) : WP (T_law_table [.lst (ps.map eP), .lst (bs.map eB2)]) (· = .lst ((bs.map (trow ps)).map fun r => eZ r)) := by
  have l5 := ok.l5
  have b8 := ok.b8
  unfold T_law_table FB_law_table
  walk_at "wpr"
  refine ws_go (fun pre τ => ∃ (s3 s4 s5 s6 : Sl), τ = [.val (.lst (ps.map eP)), .val (.lst (bs.map eB2)), .own ((pre.map (trow ps)).map fun r => eZ r), s3, s4, s5, s6]) bs eB2
    ⟨.no, .no, .no, .no, rfl⟩ (fun pre b post τ e ⟨s3, s4, s5, s6, et⟩ => ?_) (fun τ ⟨s3, s4, s5, s6, et⟩ => ?_)
  · subst et
    have hb := ok.lt b (by rw [e]; simp)
    have lp : pre.length < bs.length := by rw [e]; simp
    have g1 : ps[b.1]? = some (ps.getD b.1 (0, 0)) := by rw [List.getD_eq_getElem?_getD, List.getElem?_eq_getElem (by omega)]; rfl
    have g2 : ps[b.2]? = some (ps.getD b.2 (0, 0)) := by rw [List.getD_eq_getElem?_getD, List.getElem?_eq_getElem (by omega)]; rfl
    have two : ∀ i : Nat, i ≤ 100 → (bits 400000 (2 : Int) && bits 400000 (i : Int)) = true := fun i hi => by
      rw [show bits 400000 (2 : Int) = true by decide +kernel, bits_bd (b := 10) (x := (i : Int)) (by omega) (by decide) (by decide)]
      rfl
    walk_at "wp"
    rw [List.length_map]
    refine wp_gI (two _ (by omega)) ?_
    walk_at "wp"
    refine andP ⟨by omega, by omega, by show 1 * _ ≤ 40000; omega⟩ ?_
    rw [show (2 * (ps.length : Int)).toNat = 2 * ps.length by omega, zerosI]
    walk_at "wp"
    refine rngP (n := 2) (by decide) ?_
    refine ws_go (fun pre2 τ => ∃ (s6 : Sl), τ = [.val (.lst (ps.map eP)), .val (.lst (bs.map eB2)), .own ((pre.map (trow ps)).map fun r => eZ r), .val (tN b.1), .val (tN b.2), .own ((trs (2 * ps.length) b.1 b.2 (difs ps b) pre2.length).map T.int), s6]) (List.range 2) (fun i => T.int (i : Nat))
      ⟨s6, rfl⟩ (fun pre2 s post2 τ e2 ⟨s6, et⟩ => ?_) (fun τ ⟨s6, et⟩ => ?_)
    · subst et
      have hs : s < 2 := List.mem_range.mp (by rw [e2]; simp)
      have es := at2 hs e2
      subst es
      have len := trs_len (2 * ps.length) b.1 b.2 (difs ps b) pre2.length
      walk_at "wp"
      refine ixP_map g1 ?_
      walk_at "wp"
      refine ix_crd hs ?_
      walk_at "wp"
      refine ixP_map g2 ?_
      walk_at "wp"
      refine ix_crd hs ?_
      walk_at "wp"
      have b2 : bits 400000 (2 : Int) = true := by decide +kernel
      have bi : ∀ i : Nat, i ≤ 100 → bits 400000 (i : Int) = true := fun i hi => bits_bd (b := 10) (by omega) (by decide) (by decide)
      refine oMul_wp b2 (bi _ (by omega)) ?_
      walk_at "wp"
      rw [show 2 * (b.1 : Int) + (pre2.length : Int) = ((2 * b.1 + pre2.length : Nat) : Int) by omega]
      refine somP (ixN_nat (by rw [List.length_map, len]; omega)) ?_
      walk_at "wp"
      refine ixP_map g2 ?_
      walk_at "wp"
      refine ix_crd hs ?_
      walk_at "wp"
      refine ixP_map g1 ?_
      walk_at "wp"
      refine ix_crd hs ?_
      walk_at "wp"
      refine oMul_wp b2 (bi _ (by omega)) ?_
      walk_at "wp"
      rw [show 2 * (b.2 : Int) + (pre2.length : Int) = ((2 * b.2 + pre2.length : Nat) : Int) by omega]
      refine somP (ixN_nat (by rw [List.length_set, List.length_map, len]; omega)) ?_
      refine ⟨.val (.int (pre2.length : Nat)), ?_⟩
      have ev : crd (ps.getD b.2 (0, 0)) pre2.length - crd (ps.getD b.1 (0, 0)) pre2.length = -(difs ps b pre2.length) := by unfold difs; omega
      rw [List.length_append, show pre2.length + [pre2.length].length = pre2.length + 1 from rfl, ev]
      have et : (trs (2 * ps.length) b.1 b.2 (difs ps b) (pre2.length + 1)).map T.int = (((trs (2 * ps.length) b.1 b.2 (difs ps b) pre2.length).map T.int).set (2 * b.1 + pre2.length) (.int (difs ps b pre2.length))).set (2 * b.2 + pre2.length) (.int (-(difs ps b pre2.length))) := by
        show (List.map T.int (((trs (2 * ps.length) b.1 b.2 (difs ps b) pre2.length).set _ _).set _ _)) = _
        rw [List.map_set, List.map_set]
      rw [et]
      rfl
    · subst et
      walk_at "wp"
      refine andP (by rw [List.length_map, List.length_map]; show pre.length < 40000; omega) ?_
      rw [List.length_range]
      refine ⟨.val (tN b.1), .val (tN b.2), .val (eZ (trow ps b)), s6, ?_⟩
      rw [List.map_append, List.map_append]
      rfl
  · subst et
    walk_at "wp"
end
section
open PySem PySem.Spec PyProof.Rows L2 Evl PF
variable {P : T → Prop}
theorem hf_sub (a b : Int) : hf a - hf b = hf (a - b) := by
  unfold hf
  rw [Rat.divInt_eq_div, Rat.divInt_eq_div, Rat.divInt_eq_div, Rat.intCast_sub, Rat.div_def, Rat.div_def, Rat.div_def]
  grind
theorem hf_neg (a : Int) : -hf a = hf (-a) := by
  unfold hf
  rw [Rat.divInt_eq_div, Rat.divInt_eq_div, Rat.intCast_neg, Rat.div_def, Rat.div_def]
  grind
theorem hf_zero : hf 0 = 0 := by unfold hf; rw [Rat.zero_divInt]
theorem hf_all : ∀ a ∈ ([-10, -9, -8, -7, -6, -5, -4, -3, -2, -1, 0, 1, 2, 3, 4, 5, 6, 7, 8, 9, 10] : List Int), (hf a).num.natAbs < 2 ^ 5 ∧ (hf a).den < 2 ^ 5 ∧ (hf a).den ∣ 2 ∧ ((hf a).num * ((2 / (hf a).den : Nat) : Int)).natAbs < 2 ^ 4 := by decide +kernel
theorem hf_at {a : Int} (h : a.natAbs ≤ 10) : (hf a).num.natAbs < 2 ^ 5 ∧ (hf a).den < 2 ^ 5 ∧ (hf a).den ∣ 2 ∧ ((hf a).num * ((2 / (hf a).den : Nat) : Int)).natAbs < 2 ^ 4 := hf_all a (by
  have : a = -10 ∨ a = -9 ∨ a = -8 ∨ a = -7 ∨ a = -6 ∨ a = -5 ∨ a = -4 ∨ a = -3 ∨ a = -2 ∨ a = -1 ∨ a = 0 ∨ a = 1 ∨ a = 2 ∨ a = 3 ∨ a = 4 ∨ a = 5 ∨ a = 6 ∨ a = 7 ∨ a = 8 ∨ a = 9 ∨ a = 10 := by omega
  simpa using this)
theorem hf_sz {a : Int} {n : Nat} (h : a.natAbs ≤ 10) (hn : 5 ≤ n) : Sz n (hf a) := by
  have := hf_at h
  have big : 2 ^ 5 ≤ 2 ^ n := Nat.pow_le_pow_right (by decide) hn
  exact ⟨Nat.lt_of_lt_of_le this.1 big, Nat.lt_of_lt_of_le this.2.1 big⟩
abbrev RH (a : Int) : T := RT (hf a)
theorem zerosH (n : Nat) : (List.replicate n [RT 0]).flatten = (List.replicate n (0 : Int)).map RH := by
  induction n with
  | zero => rfl
  | succ n ih =>
    rw [List.replicate_succ, List.flatten_cons, ih, List.replicate_succ]
    show RT 0 :: _ = RT (hf 0) :: _
    rw [hf_zero]
    rfl
theorem crd_sm {ps : List Pt} {bs : List (Nat × Nat)} (ok : FrOk ps bs) {i : Nat} (hi : i < ps.length) (s : Nat) : (crd (ps.getD i (0, 0)) s).natAbs ≤ 5 := by
  have := ok.sm _ (getD_mem' (d := ((0, 0) : Pt)) hi)
  unfold crd
  split <;> omega
theorem ix_crdF {p : Pt} {s : Nat} (hs : s < 2) (z : P (RH (crd p s))) : IxP [RT (hf p.1), RT (hf p.2)] (.int (s : Nat)) P := by
  have : s = 0 ∨ s = 1 := by omega
  rcases this with rfl | rfl
  · exact ixP_map (l := [p.1, p.2]) (enc := RH) (n := 0) (a := p.1) rfl z
  · exact ixP_map (l := [p.1, p.2]) (enc := RH) (n := 1) (a := p.2) rfl z
theorem bar_row_wp {ps : List Pt} {bs : List (Nat × Nat)} (ok : FrOk ps bs) {b : Nat × Nat} (hb : b.1 < b.2 ∧ b.2 < ps.length) : WP (T_bar_row [.lst (ps.map eF), tN b.1, tN b.2]) (· = .lst ((trow ps b).map RH)) := by
  have l5 := ok.l5
  have g1 : ps[b.1]? = some (ps.getD b.1 (0, 0)) := by rw [List.getD_eq_getElem?_getD, List.getElem?_eq_getElem (by omega)]; rfl
  have g2 : ps[b.2]? = some (ps.getD b.2 (0, 0)) := by rw [List.getD_eq_getElem?_getD, List.getElem?_eq_getElem (by omega)]; rfl
  have b2 : bits 400000 (2 : Int) = true := by decide +kernel
  have bi : ∀ i : Nat, i ≤ 100 → bits 400000 (i : Int) = true := fun i hi => bits_bd (b := 10) (by omega) (by decide) (by decide)
  unfold T_bar_row FB_bar_row
  walk_at "wpr"
  refine wp_some (fun p => init_R (by decide) (by decide +kernel)) ?_
  walk_at "wp"
  rw [List.length_map]
  refine wp_gI (by rw [b2, bi _ (by omega)]; rfl) ?_
  walk_at "wp"
  refine andP ⟨by omega, by omega, by show 1 * _ ≤ 40000; omega⟩ ?_
  rw [show (2 * (ps.length : Int)).toNat = 2 * ps.length by omega, show Rat.divInt 0 1 = 0 by rw [Rat.zero_divInt], zerosH]
  walk_at "wp"
  rw [show [T.int 0, T.int 1] = (List.range 2).map (fun i => T.int (i : Nat)) from rfl]
  refine ws_go (fun pre2 τ => ∃ (s4 s5 : Sl), τ = [.val (.lst (ps.map eF)), .val (tN b.1), .val (tN b.2), .own ((trs (2 * ps.length) b.1 b.2 (difs ps b) pre2.length).map RH), s4, s5]) (List.range 2) (fun i => T.int (i : Nat))
    ⟨.no, .no, rfl⟩ (fun pre2 s post2 τ e2 ⟨s4, s5, et⟩ => ?_) (fun τ ⟨s4, s5, et⟩ => ?_)
  · subst et
    have hs : s < 2 := List.mem_range.mp (by rw [e2]; simp)
    have es := at2 hs e2
    subst es
    have len := trs_len (2 * ps.length) b.1 b.2 (difs ps b) pre2.length
    have c1 := crd_sm ok (show b.1 < ps.length by omega) pre2.length
    have c2 := crd_sm ok (show b.2 < ps.length by omega) pre2.length
    have c3 : (difs ps b pre2.length).natAbs ≤ 10 := by unfold difs; omega
    walk_at "wp"
    refine ixP_map g1 ?_
    walk_at "wp"
    refine ix_crdF hs ?_
    walk_at "wp"
    refine ixP_map g2 ?_
    walk_at "wp"
    refine ix_crdF hs ?_
    walk_at "wp"
    refine wp_some (fun pot => oSub_l (hf_sz (by omega) (by decide)) (numR _) (hf_sz (by omega) (by decide))) ?_
    rw [hf_sub, show crd (ps.getD b.1 (0, 0)) pre2.length - crd (ps.getD b.2 (0, 0)) pre2.length = difs ps b pre2.length from rfl]
    walk_at "wp"
    refine oMul_wp b2 (bi _ (by omega)) ?_
    walk_at "wp"
    rw [show 2 * (b.1 : Int) + (pre2.length : Int) = ((2 * b.1 + pre2.length : Nat) : Int) by omega]
    refine somP (ixN_nat (by rw [List.length_map, len]; omega)) ?_
    walk_at "wp"
    refine wp_some (a := RT (-(hf (difs ps b pre2.length)))) (fun pot => ?_) ?_
    · rw [e_gOr1]
      have : gNegI (RT (hf (difs ps b pre2.length))) pot = none := rfl
      rw [this]
      show gNegO 0 T_Ratio_neg (RT (hf (difs ps b pre2.length))) pot = _
      unfold RT
      rw [e_negO, if_pos rfl]
      exact neg_R (hf_sz c3 (by decide))
    rw [hf_neg]
    walk_at "wp"
    refine oMul_wp b2 (bi _ (by omega)) ?_
    walk_at "wp"
    rw [show 2 * (b.2 : Int) + (pre2.length : Int) = ((2 * b.2 + pre2.length : Nat) : Int) by omega]
    refine somP (ixN_nat (by rw [List.length_set, List.length_map, len]; omega)) ?_
    refine ⟨.val (.int (pre2.length : Nat)), .val (RH (difs ps b pre2.length)), ?_⟩
    rw [List.length_append, show pre2.length + [pre2.length].length = pre2.length + 1 from rfl]
    have et : (trs (2 * ps.length) b.1 b.2 (difs ps b) (pre2.length + 1)).map RH = (((trs (2 * ps.length) b.1 b.2 (difs ps b) pre2.length).map RH).set (2 * b.1 + pre2.length) (RH (difs ps b pre2.length))).set (2 * b.2 + pre2.length) (RH (-(difs ps b pre2.length))) := by
      show (List.map RH (((trs (2 * ps.length) b.1 b.2 (difs ps b) pre2.length).set _ _).set _ _)) = _
      rw [List.map_set, List.map_set]
    rw [et]
  · subst et
    walk_at "wp"
    rfl
theorem seq2P_mk {F : FE} {τ : List Sl} {pot p1 : Pot} {k : Bool} {us : List T} (h : F τ pot = some (mkSeq k us, p1)) (hl : us.length ≤ maxLen) (hn : noLs us = true) : fSeq2P F τ pot = some (us, p1) := by
  unfold fSeq2P
  rw [h]
  have : seqT (mkSeq k us) = some (k, us) := by cases k <;> rfl
  simp only [this]
  rw [if_pos ⟨hl, hn⟩]
theorem noLs_map {α : Type} (f : α → T) (h : ∀ a, noL (f a) = true) : ∀ l : List α, noLs (l.map f) = true
  | [] => rfl
  | a :: l => by
    rw [List.map_cons]
    unfold noLs
    rw [h a, noLs_map f h l]
    rfl
theorem frame_bars_wp {ps : List Pt} {bs : List (Nat × Nat)} (ok : FrOk ps bs) : WP (T_Frame_bars [encF ps bs]) (· = .lst (bs.map eB2)) := wp_some (fun p => by
  have b8 := ok.b8
  have e := seq2P_mk (F := fFld 2 1 (fVar 0)) (τ := [Sl.val (encF ps bs)]) (pot := p) (p1 := p) (k := true) (us := bs.map eB2) rfl (by rw [List.length_map]; show bs.length ≤ 40000; omega) (noLs_map eB2 (fun b => rfl) bs)
  show (match (match (match fSeq2P (fFld 2 1 (fVar 0)) [Sl.val (encF ps bs)] p with
    | some (l, p1) => some (T.lst l, p1)
    | none => none) with
    | some (t, p1) => some (Out.rt t, p1)
    | none => none) with
    | some (Out.rt t, p) => some (t, p)
    | some (Out.nx τ, p) => some (T.non, p)
    | none => none) = _
  rw [e]) rfl
theorem frame_points_wp {ps : List Pt} {bs : List (Nat × Nat)} (ok : FrOk ps bs) : WP (T_Frame_points [encF ps bs]) (· = .lst (ps.map eF)) := wp_some (fun p => by
  have l5 := ok.l5
  have e := seq2P_mk (F := fFld 2 0 (fVar 0)) (τ := [Sl.val (encF ps bs)]) (pot := p) (p1 := p) (k := true) (us := ps.map eF) rfl (by rw [List.length_map]; show ps.length ≤ 40000; omega) (noLs_map eF (fun b => rfl) ps)
  show (match (match (match fSeq2P (fFld 2 0 (fVar 0)) [Sl.val (encF ps bs)] p with
    | some (l, p1) => some (T.lst l, p1)
    | none => none) with
    | some (t, p1) => some (Out.rt t, p1)
    | none => none) with
    | some (Out.rt t, p) => some (t, p)
    | some (Out.nx τ, p) => some (T.non, p)
    | none => none) = _
  rw [e]) rfl
theorem insP_F {ps : List Pt} {bs : List (Nat × Nat)} {PL : List T → Prop} (h : PL [.lst (ps.map eF), .lst (bs.map eB2)]) : InsP 2 (encF ps bs) PL := ⟨_, rfl, h⟩
theorem bar_table_wp {ps : List Pt} {bs : List (Nat × Nat)} (ok : FrOk ps bs) : WP (T_bar_table [encF ps bs]) (· = .lst ((bs.map (trow ps)).map fun r => .lst (r.map RH))) := by
  have l5 := ok.l5
  have b8 := ok.b8
  have lz : ps.length ≤ maxLen := by show ps.length ≤ 40000; omega
  have lb : bs.length ≤ maxLen := by show bs.length ≤ 40000; omega
  have ck : WP (T_check_frame [encF ps bs]) (· = .non) := wp_some (fun p => by simp [T_check_frame, FB_check_frame, encF]) rfl
  have bars := frame_bars_wp ok
  have pts := frame_points_wp ok
  unfold T_bar_table FB_bar_table
  walk_at "wpr"
  refine ck.at ?_
  walk_at "wp"
  refine insP_F ?_
  walk_at "wp"
  refine bars.at ?_
  walk_at "wp"
  refine lenP_map (l := bs) lb ?_
  refine wp_map bs eB2 (fun b => .lst ((trow ps b).map RH)) (fun b hb => ?_) ?_
  · walk_at "wp"
    refine insP_F ?_
    walk_at "wp"
    refine pts.at ?_
    walk_at "wp"
    refine (bar_row_wp ok (ok.lt b hb)).at ?_
    walk_at "wp"
  walk_at "wp"
  rw [List.map_map]
  rfl
end
section
open PySem PySem.Spec PyProof.Rows L2 Evl PF
variable {P : T → Prop}
def colI (ps : List Pt) (bs : List (Nat × Nat)) (p : Nat) : List Int := (bs.map (trow ps)).map fun r => r.getD p 0
def cps (ps : List Pt) (bs : List (Nat × Nat)) : List QP := (List.range ps.length).map fun i => ((colI ps bs (2 * i)).map hf, (colI ps bs (2 * i + 1)).map hf)
theorem colI_len (ps : List Pt) (bs : List (Nat × Nat)) (p : Nat) : (colI ps bs p).length = bs.length := by
  unfold colI
  rw [List.length_map, List.length_map]
theorem cps_len (ps : List Pt) (bs : List (Nat × Nat)) : (cps ps bs).length = ps.length := by
  unfold cps
  rw [List.length_map, List.length_range]
theorem cps_wide (ps : List Pt) (bs : List (Nat × Nat)) : Wide bs.length (cps ps bs) := fun p hp => by
  obtain ⟨i, _, rfl⟩ := List.mem_map.mp hp
  exact ⟨by rw [List.length_map, colI_len], by rw [List.length_map, colI_len]⟩
theorem column_wp {ps : List Pt} {bs : List (Nat × Nat)} (ok : FrOk ps bs) {p : Nat} (hp : p < 2 * ps.length) : WP (T_column [.lst ((bs.map (trow ps)).map fun r => .lst (r.map RH)), .int (p : Nat)]) (· = .lst ((colI ps bs p).map RH)) := by
  have b8 := ok.b8
  unfold T_column FB_column
  walk_at "wpr"
  refine lenP_map (l := bs.map (trow ps)) (by rw [List.length_map]; omega) ?_
  refine wp_map (bs.map (trow ps)) (fun r => .lst (r.map RH)) (fun r => RH (r.getD p 0)) (fun r hr => ?_) ?_
  · obtain ⟨b, hb, rfl⟩ := List.mem_map.mp hr
    have len : (trow ps b).length = 2 * ps.length := trs_len ..
    walk_at "wp"
    refine ixP_map (l := trow ps b) (enc := RH) (n := p) (a := (trow ps b).getD p 0) (by rw [List.getD_eq_getElem?_getD, List.getElem?_eq_getElem (by omega)]; rfl) ?_
    rfl
  walk_at "wp"
  unfold colI
  rw [List.map_map (f := fun r : List Int => r.getD p 0)]
  rfl
theorem frame_pairs_wp {ps : List Pt} {bs : List (Nat × Nat)} (ok : FrOk ps bs) : WP (T_frame_pairs [encF ps bs]) (· = encPairs bs.length (cps ps bs)) := by
  have l5 := ok.l5
  have b8 := ok.b8
  have b2 : bits 400000 (2 : Int) = true := by decide +kernel
  have bi : ∀ i : Nat, i ≤ 100 → bits 400000 (i : Int) = true := fun i hi => bits_bd (b := 10) (by omega) (by decide) (by decide)
  have many : WP (T_Frame_many [encF ps bs]) (· = .int ps.length) := wp_some (fun p => by simp [T_Frame_many, FB_Frame_many, encF]) rfl
  unfold T_frame_pairs FB_frame_pairs
  walk_at "wpr"
  refine (bar_table_wp ok).at ?_
  walk_at "wp"
  refine insP_F ?_
  refine many.at ?_
  walk_at "wp"
  refine rngP (by omega) ?_
  walk_at "wp"
  refine lenP_map (l := List.range ps.length) (by rw [List.length_range]; omega) ?_
  refine wp_map (List.range ps.length) (fun i => T.int (i : Nat)) (fun i => T.int ((2 * i : Nat) : Int)) (fun i hi => ?_) ?_
  · have hi := List.mem_range.mp hi
    walk_at "wp"
    refine wp_gI (by rw [b2, bi i (by omega)]; rfl) ?_
    rw [show 2 * (i : Int) = ((2 * i : Nat) : Int) by omega]
  walk_at "wp"
  refine lenP_map (l := List.range ps.length) (by rw [List.length_range]; omega) ?_
  refine wp_map (List.range ps.length) (fun i => T.int ((2 * i : Nat) : Int)) (fun i => encP ((colI ps bs (2 * i)).map hf, (colI ps bs (2 * i + 1)).map hf)) (fun i hi => ?_) ?_
  · have hi := List.mem_range.mp hi
    walk_at "wp"
    refine (column_wp ok (p := 2 * i) (by omega)).at ?_
    walk_at "wp"
    rw [show ((2 * i : Nat) : Int) + 1 = ((2 * i + 1 : Nat) : Int) by omega]
    refine (column_wp ok (p := 2 * i + 1) (by omega)).at ?_
    walk_at "wp"
    unfold encP
    rw [List.map_map, List.map_map]
    rfl
  walk_at "wp"
  have ec : ((List.range ps.length).map fun i => encP ((colI ps bs (2 * i)).map hf, (colI ps bs (2 * i + 1)).map hf)) = (cps ps bs).map encP := by
    unfold cps
    rw [List.map_map]
    rfl
  rw [ec, List.length_map, List.length_map]
  have pp : Paired PairT ((cps ps bs).map encP) (cps ps bs) := by
    have := paired_map (R := PairT) encP id (cps ps bs) fun p _ => pairT_enc p
    rwa [List.map_id] at this
  exact wp_some (fun p => pairs_init (pot := p) (k := true) pp (cps_wide ps bs) (by omega) (by rw [cps_len]; omega)) rfl
end
section
open PySem PySem.Spec PyProof.Rows L2 Evl PF
variable {P : T → Prop}
theorem leafq (q : Rat) : leafE (RT q) (RT q) = true := by
  show decide (FK.rat q.num q.den = FK.rat q.num q.den) = true
  exact decide_eq_true rfl
theorem all2q {f : T → T → Bool} : ∀ l : List T, (∀ t ∈ l, f t t = true) → all2 f l l = true
  | [], _ => rfl
  | t :: l, h => by
    show (f t t && all2 f l l) = true
    rw [h t (List.mem_cons_self ..), all2q l fun u hu => h u (List.mem_cons_of_mem _ hu)]
    rfl
theorem eqq_row (r : List Rat) : eqN 1 (eQ r) (eQ r) = true := all2q (f := eqN 0) _ fun t ht => by
  obtain ⟨q, _, rfl⟩ := List.mem_map.mp ht
  exact leafq q
theorem eqN_pairsC (ps : List QP) : all2 (eqN 2) (ps.map encP) (ps.map encP) = true := all2q (f := eqN 2) _ fun t ht => by
  obtain ⟨p, _, rfl⟩ := List.mem_map.mp ht
  exact all2q (f := eqN 1) [.lst (p.1.map RT), .lst (p.2.map RT)] fun t ht => by
    rcases List.mem_cons.mp ht with rfl | ht
    · exact eqq_row _
    · rw [List.mem_singleton.mp ht]; exact eqq_row _
theorem eE_data (p : IP) : Dt 2 ((T.tup [eZ p.1, eZ p.2])) (.tuple [dZ p.1, dZ p.2]) := by
  have h1 := dt_Z p.1
  have h2 := dt_Z p.2
  refine ⟨?_, ?_, ?_⟩
  · rw [show toD ((T.tup [eZ p.1, eZ p.2])) = (toDs [eZ p.1, eZ p.2]).map .tuple by rw [toD], toDs, toDs, toDs, h1.to, h2.to]
    rfl
  · simp [PyData.canLay0, PyData.canLayAll0, h1.lay, h2.lay]
  · have := h1.dep
    have := h2.dep
    simp only [PyData.depth, PyData.depthAll]
    omega
theorem eqv_E (p q : IP) : PyData.eqv (.tuple [dZ p.1, dZ p.2]) (.tuple [dZ q.1, dZ q.2]) = decide (p = q) := by
  have h : PyData.eqv (.tuple [dZ p.1, dZ p.2]) (.tuple [dZ q.1, dZ q.2]) = (PyData.eqv (dZ p.1) (dZ q.1) && (PyData.eqv (dZ p.2) (dZ q.2) && true)) := by simp only [PyData.eqv, PyData.eqvAll]
  rw [h, eqv_Z, eqv_Z]
  obtain ⟨p1, p2⟩ := p
  obtain ⟨q1, q2⟩ := q
  by_cases a : p1 = q1 <;> by_cases b : p2 = q2 <;> simp [a, b]
theorem rows_eqE_wp {n : Nat} {ps : List QP} (w : Wide n ps) : WP (gOr (gEqD false) gEqS (.lst (ps.map encP)) (.lst (ps.map encP))) (· = .bl true) := by
  by_cases n1 : n = 0
  · subst n1
    have e : ps.map encP = (ps.map fun _ => (([], []) : IP)).map fun p => T.tup [eZ p.1, eZ p.2] := by
      rw [List.map_map]
      refine List.map_congr_left fun p hp => ?_
      obtain ⟨h1, h2⟩ := w p hp
      show T.tup [.lst (p.1.map RT), .lst (p.2.map RT)] = T.tup [.lst [], .lst []]
      rw [List.eq_nil_of_length_eq_zero h1, List.eq_nil_of_length_eq_zero h2]
      rfl
    rw [e]
    generalize (ps.map fun _ => (([], []) : IP)) = qs
    refine wp_or1 (eqD_wp (k := 3) (dt_lst (k := 2) (enc := fun p : IP => T.tup [eZ p.1, eZ p.2]) (f := fun p : IP => PyData.tuple [dZ p.1, dZ p.2]) qs fun p _ => eE_data p) (dt_lst (k := 2) (enc := fun p : IP => T.tup [eZ p.1, eZ p.2]) (f := fun p : IP => PyData.tuple [dZ p.1, dZ p.2]) qs fun p _ => eE_data p) (by decide) ?_)
    rw [eqv_lst eqv_E, decide_eq_true rfl]
    rfl
  · have n1 : 1 ≤ n := by omega
    cases ps with
    | nil => exact wp_some (fun p => rfl) rfl
    | cons p ps =>
      refine wp_or2 (fun q => ?_) (wp_some (fun q => gEqS_t (eqN_pairsC (p :: ps))) rfl)
      have l1 := (w p (List.mem_cons_self ..)).1
      have : toD (.lst ((p :: ps).map encP)) = none := by
        cases e : p.1 with
        | nil => rw [e, List.length_nil] at l1; omega
        | cons x r => simp [List.map_cons, toD, toDs, encP, e, RT]
      unfold gEqD
      rw [this]
theorem pairs_eqE_wp {n : Nat} {ps : List QP} (w : Wide n ps) : WP (T_Pairs_eq [encPairs n ps, encPairs n ps]) (· = .bl true) := by
  unfold T_Pairs_eq FB_Pairs_eq
  walk_at "wpr"
  refine insP_P (somP rfl ?_)
  walk_at "wp"
  refine insP_P (somP rfl ?_)
  walk_at "wp"
  refine ifP_pos trivial ?_
  walk_at "wp"
  refine insP_P (somP rfl ?_)
  walk_at "wp"
  refine insP_P (somP rfl ?_)
  refine wp_or2 (fun p => rfl) (wp_or2 (fun p => rfl) ?_)
  exact rows_eqE_wp w
theorem eqE_wp {n : Nat} {ps : List QP} (w : Wide n ps) : WP (gB (gEqO 1 T_Pairs_eq) (encPairs n ps) (encPairs n ps)) (· = .bl true) := fun p hp => by
  obtain ⟨a, q, e, hq, rfl⟩ := pairs_eqE_wp w p hp
  refine ⟨.bl true, q, ?_, hq, rfl⟩
  have e2 : gEqO 1 T_Pairs_eq (encPairs n ps) (encPairs n ps) p = some (.bl true, q) := e
  unfold gB
  rw [e2]
  done
end
section
open PySem PySem.Spec PyProof.Rows L2 Evl PF
variable {P : T → Prop}
theorem leafB_RT (a b : Rat) : leafB (RT a) (RT b) = some (decide (a = b)) := by
  show some (decide (a.num = b.num) && decide ((a.den : Int) = (b.den : Int))) = _
  congr 1
  by_cases h : a = b
  · subst h; simp
  · rw [decide_eq_false h]
    by_cases h1 : a.num = b.num
    · have h2 : ¬ ((a.den : Int) = (b.den : Int)) := fun e => h (Rat.ext h1 (Int.ofNat.inj e))
      rw [decide_eq_false h2, Bool.and_false]
    · rw [decide_eq_false h1, Bool.false_and]
theorem hf_inj {a b : Int} (h : hf a = hf b) : a = b := by
  unfold hf at h
  rw [Rat.divInt_eq_div, Rat.divInt_eq_div, Rat.div_def, Rat.div_def] at h
  have t : ((2 : Int) : Rat)⁻¹ * ((2 : Int) : Rat) = 1 := by decide +kernel
  have : (a : Rat) = (b : Rat) := by
    have := congrArg (· * ((2 : Int) : Rat)) h
    simpa only [Rat.mul_assoc, t, Rat.mul_one] using this
  exact Rat.intCast_inj.mp this
theorem eqB_eF (p q : Pt) : eqB 2 (eF p) (eF q) = some (decide (p = q)) := by
  show (match eqB 1 (RT (hf p.1)) (RT (hf q.1)), (match eqB 1 (RT (hf p.2)) (RT (hf q.2)), some true with
    | some x, some y => some (x && y)
    | _, _ => none) with
    | some x, some y => some (x && y)
    | _, _ => none) = _
  have e : ∀ a b : Rat, eqB 1 (RT a) (RT b) = some (decide (a = b)) := fun a b => leafB_RT a b
  rw [e, e]
  show some (decide (hf p.1 = hf q.1) && (decide (hf p.2 = hf q.2) && true)) = _
  congr 1
  obtain ⟨p1, p2⟩ := p
  obtain ⟨q1, q2⟩ := q
  have i1 : ∀ a b : Int, decide (hf a = hf b) = decide (a = b) := fun a b => by
    by_cases h : a = b
    · subst h; simp
    · rw [decide_eq_false h, decide_eq_false fun e => h (hf_inj e)]
  rw [i1, i1]
  by_cases x : p1 = q1 <;> by_cases y : p2 = q2 <;> simp [x, y]
theorem allOB_eF : ∀ (ps qs : List Pt), ps.length = qs.length → allOB (eqB 2) (ps.map eF) (qs.map eF) = some (decide (ps = qs))
  | [], [], _ => rfl
  | p :: ps, q :: qs, h => by
    show (match eqB 2 (eF p) (eF q), allOB (eqB 2) (ps.map eF) (qs.map eF) with
      | some x, some y => some (x && y)
      | _, _ => none) = _
    rw [eqB_eF, allOB_eF ps qs (Nat.succ.inj h)]
    show some (decide (p = q) && decide (ps = qs)) = _
    congr 1
    by_cases x : p = q <;> by_cases y : ps = qs <;> simp [x, y]
  | [], _ :: _, h => nomatch h
  | _ :: _, [], h => nomatch h
theorem gEqS_eF (ps qs : List Pt) (pot : Pot) : gEqS (.lst (ps.map eF)) (.lst (qs.map eF)) pot = some (.bl (decide (ps = qs)), pot) := by
  show (match all2OB (eqB 2) (ps.map eF) (qs.map eF) with | some r => some (T.bl r, pot) | none => none) = _
  have : all2OB (eqB 2) (ps.map eF) (qs.map eF) = some (decide (ps = qs)) := by
    unfold all2OB
    by_cases h : ps.length = qs.length
    · rw [if_pos (by rw [List.length_map, List.length_map]; exact h), allOB_eF ps qs h]
    · rw [if_neg (by rw [List.length_map, List.length_map]; exact h)]
      rw [decide_eq_false fun e => h (by rw [e])]
  rw [this]
theorem toD_eF {p : Pt} {ps : List Pt} : toD (.lst ((p :: ps).map eF)) = none := by simp [List.map_cons, toD, toDs, eF, RT]
theorem points_eq_wp (ps qs : List Pt) : WP (gOr (gEqA false) (gOr (gB (gEqO 0 T_Ratio_eq)) (gOr (gEqD false) gEqS)) (.lst (ps.map eF)) (.lst (qs.map eF))) (· = .bl (decide (ps = qs))) := by
  refine wp_or2 (fun p => rfl) (wp_or2 (fun p => rfl) ?_)
  cases ps with
  | nil =>
    cases qs with
    | nil => exact wp_some (fun p => rfl) rfl
    | cons q qs =>
      refine wp_or2 (fun p => ?_) (wp_some (fun p => gEqS_eF _ _ p) rfl)
      unfold gEqD
      rw [toD_eF]
      cases toD (.lst (([] : List Pt).map eF)) <;> rfl
  | cons p ps =>
    refine wp_or2 (fun q => ?_) (wp_some (fun p => gEqS_eF _ _ p) rfl)
    unfold gEqD
    rw [toD_eF]
theorem bars_eq_wp (bs cs : List (Nat × Nat)) : WP (gOr (gEqA false) (gOr (gB (gEqO 0 T_Ratio_eq)) (gOr (gEqD false) gEqS)) (.lst (bs.map eB2)) (.lst (cs.map eB2))) (· = .bl (decide (bs = cs))) := by
  refine wp_or2 (fun p => rfl) (wp_or2 (fun p => rfl) (wp_or1 ?_))
  refine eqD_wp (k := 2) (dt_lst (k := 1) (enc := eB2) (f := dB2) bs fun b _ => dt_B2 b) (dt_lst (k := 1) (enc := eB2) (f := dB2) cs fun b _ => dt_B2 b) (by decide) ?_
  rw [eqv_lst eqv_B2, if_neg Bool.false_ne_true]
theorem frame_eq_wp (ps qs : List Pt) (bs cs : List (Nat × Nat)) : WP (T_Frame_eq [encF ps bs, encF qs cs]) (· = .bl (decide (ps = qs) && decide (bs = cs))) := by
  unfold T_Frame_eq FB_Frame_eq
  walk_at "wpr"
  refine insP_F (somP rfl ?_)
  walk_at "wp"
  refine insP_F (somP rfl ?_)
  refine (points_eq_wp ps qs).at ?_
  walk_at "wp"
  by_cases h : ps = qs
  · have e : decide (ps = qs) = true := decide_eq_true h
    rw [e]
    refine ⟨fun _ => ?_, fun h => (nomatch h)⟩
    walk_at "wp"
    refine insP_F (somP rfl ?_)
    walk_at "wp"
    refine insP_F (somP rfl ?_)
    refine (bars_eq_wp bs cs).at ?_
    rfl
  · have e : decide (ps = qs) = false := decide_eq_false h
    rw [e]
    exact ⟨fun h => (nomatch h), fun _ => rfl⟩
theorem eqF_wp (ps qs : List Pt) (bs cs : List (Nat × Nat)) : WP (gB (gEqO 2 T_Frame_eq) (encF ps bs) (encF qs cs)) (· = .bl (decide (ps = qs) && decide (bs = cs))) := fun p hp => by
  obtain ⟨a, q, e, hq, rfl⟩ := frame_eq_wp ps qs bs cs p hp
  refine ⟨_, q, ?_, hq, rfl⟩
  have e2 : gEqO 2 T_Frame_eq (encF ps bs) (encF qs cs) p = some (.bl (decide (ps = qs) && decide (bs = cs)), q) := e
  unfold gB
  rw [e2]
theorem neF_wp (ps qs : List Pt) (bs cs : List (Nat × Nat)) : WP (gNeO 2 T_Frame_eq (encF ps bs) (encF qs cs)) (· = .bl (!(decide (ps = qs) && decide (bs = cs)))) := fun p hp => by
  obtain ⟨a, q, e, hq, rfl⟩ := frame_eq_wp ps qs bs cs p hp
  refine ⟨_, q, ?_, hq, rfl⟩
  have e2 : gEqO 2 T_Frame_eq (encF ps bs) (encF qs cs) p = some (.bl (decide (ps = qs) && decide (bs = cs)), q) := e
  unfold gNeO
  rw [e2]
/-- what is no frame -/
def NoF (t : T) : Prop := eqTy 2 t = true ∧ ∀ ps bs p, T_Frame_eq [encF ps bs, t] p = some (.bl false, p)
theorem eqX_wp {ps : List Pt} {bs : List (Nat × Nat)} {t : T} (h : NoF t) : WP (gB (gEqO 2 T_Frame_eq) (encF ps bs) t) (· = .bl false) := wp_some (fun p => by
  have e2 : gEqO 2 T_Frame_eq (encF ps bs) t p = some (.bl false, p) := by
    show (if 2 = 2 then (if eqTy 2 t = true then T_Frame_eq [encF ps bs, t] p else none) else none) = _
    rw [if_pos rfl, if_pos h.1, h.2]
  unfold gB
  rw [e2]) rfl
theorem neX_wp {ps : List Pt} {bs : List (Nat × Nat)} {t : T} (h : NoF t) : WP (gNeO 2 T_Frame_eq (encF ps bs) t) (· = .bl true) := wp_some (fun p => by
  have e2 : gEqO 2 T_Frame_eq (encF ps bs) t p = some (.bl false, p) := by
    show (if 2 = 2 then (if eqTy 2 t = true then T_Frame_eq [encF ps bs, t] p else none) else none) = _
    rw [if_pos rfl, if_pos h.1, h.2]
  unfold gNeO
  rw [e2]
  rfl) rfl
theorem noF_non : NoF .non := ⟨rfl, fun _ _ _ => rfl⟩
theorem noF_int (i : Int) : NoF (.int i) := ⟨rfl, fun _ _ _ => rfl⟩
theorem noF_bl (b : Bool) : NoF (.bl b) := ⟨rfl, fun _ _ _ => rfl⟩
theorem noF_str (s : Str) : NoF (.str s) := ⟨rfl, fun _ _ _ => rfl⟩
theorem noF_lst (l : List T) : NoF (.lst l) := ⟨rfl, fun _ _ _ => rfl⟩
theorem noF_tup (l : List T) : NoF (.tup l) := ⟨rfl, fun _ _ _ => rfl⟩
theorem tx_eF {n : Nat} {a : Int × Int} (h : a.1.natAbs ≤ 5 ∧ a.2.natAbs ≤ 4 ∧ a.2 % 2 = 0) : Tx (n + 1) 8008 (eF a) :=
  tx_seq (n := n) (b := 4000) (m := 2) (l := [RT (hf a.1), RT (hf a.2)]) false (fun t ht => by
    rcases List.mem_cons.mp ht with rfl | ht
    · exact tx_RT (hf_sz (n := 5) (by omega) (by decide)) (by decide)
    · rw [List.mem_singleton.mp ht]; exact tx_RT (hf_sz (n := 5) (by omega) (by decide)) (by decide)) (Nat.le_refl 2)
theorem tx_points {n : Nat} {ps : List Pt} {bs : List (Nat × Nat)} (ok : FrOk ps bs) : Tx (n + 2) 100000 (.lst (ps.map eF)) :=
  Tx.le (tx_seq (n := n + 1) (b := 8008) (m := 5) (l := ps.map eF) true (fun t ht => by
    obtain ⟨a, ha, rfl⟩ := List.mem_map.mp ht
    exact tx_eF (ok.sm a ha)) (by rw [List.length_map]; exact ok.l5)) (by decide)
theorem tx_eB2 {n : Nat} {b : Nat × Nat} (h : b.1 < 10 ∧ b.2 < 10) : Tx (n + 1) 8008 (eB2 b) :=
  Tx.le (tx_seq (n := n) (b := 1901) (m := 2) (l := [tN b.1, tN b.2]) false (fun t ht => by
    rcases List.mem_cons.mp ht with rfl | ht
    · exact tx_nat (by omega)
    · rw [List.mem_singleton.mp ht]; exact tx_nat (by omega)) (Nat.le_refl 2)) (by decide)
theorem tx_bars {n : Nat} {ps : List Pt} {bs : List (Nat × Nat)} (ok : FrOk ps bs) : Tx (n + 2) 100000 (.lst (bs.map eB2)) :=
  Tx.le (tx_seq (n := n + 1) (b := 8008) (m := 8) (l := bs.map eB2) true (fun t ht => by
    obtain ⟨b, hb, rfl⟩ := List.mem_map.mp ht
    have := ok.lt b hb
    have := ok.l5
    exact tx_eB2 (by omega)) (by rw [List.length_map]; exact ok.b8)) (by decide)
theorem tx_table {n : Nat} {ps : List Pt} {bs : List (Nat × Nat)} (ok : FrOk ps bs) (h : ∀ b ∈ bs, ∀ a ∈ trow ps b, a.natAbs ≤ 10) : Tx (n + 2) 1000000 (.lst ((bs.map (trow ps)).map fun r => .lst (r.map RH))) :=
  Tx.le (tx_seq (n := n + 1) (b := 4 + 10 * (4000 + 2)) (m := 8) true (fun t ht => by
    obtain ⟨r, hr, rfl⟩ := List.mem_map.mp ht
    obtain ⟨b, hb, rfl⟩ := List.mem_map.mp hr
    refine tx_seq (n := n) (b := 4000) (m := 10) (l := (trow ps b).map RH) true (fun t ht => ?_) ?_
    · obtain ⟨a, ha, rfl⟩ := List.mem_map.mp ht
      exact tx_RT (hf_sz (n := 5) (h b hb a ha) (by decide)) (by decide)
    · rw [List.length_map, show (trow ps b).length = 2 * ps.length from trs_len ..]
      have := ok.l5
      omega) (by rw [List.length_map, List.length_map]; exact ok.b8)) (by decide)
theorem trs_sm {n i j : Nat} {D : Nat → Int} (h : ∀ s, (D s).natAbs ≤ 10) : ∀ k, ∀ x ∈ trs n i j D k, x.natAbs ≤ 10
  | 0, x, hx => by rw [List.eq_of_mem_replicate hx]; decide
  | k + 1, x, hx => by
    rcases List.mem_or_eq_of_mem_set hx with hx | rfl
    · rcases List.mem_or_eq_of_mem_set hx with hx | rfl
      · exact trs_sm h k x hx
      · exact h k
    · have := h k
      omega
theorem trow_sm {ps : List Pt} {bs : List (Nat × Nat)} (ok : FrOk ps bs) {b : Nat × Nat} (hb : b ∈ bs) : ∀ x ∈ trow ps b, x.natAbs ≤ 10 := trs_sm (fun s => by
  have := ok.lt b hb
  have c1 := crd_sm ok (show b.1 < ps.length by omega) s
  have c2 := crd_sm ok (show b.2 < ps.length by omega) s
  unfold difs
  omega) 2
end
section
open PySem PySem.Spec PyProof.Rows L2 Evl PF
variable {P : T → Prop}
theorem str_ne84 {x : Str} {P : T → Prop} (z : P (.bl false)) : WP (gEqA true (.str x) (.str x)) P := wp_some (fun p => by
  have : gEqA true (.str x) (.str x) p = if isAtom (.str x) = true ∧ isAtom (.str x) = true ∧ scal (toV (.str x)) (toV (.str x)) = true then some (.bl (!decide (toV (.str x) = toV (.str x))), p) else none := rfl
  rw [this, if_pos ⟨rfl, rfl, rfl⟩, decide_eq_true rfl]
  rfl) z
theorem wp_reprF {F : FE} {c : Nat} {τ : List Sl} (h : WP (F τ) fun t => SomP (frameTX c t) fun x => AndP (x.length ≤ sizeLine) (P (.str x))) : WP (fReprF c F τ) P := fun p hp => by
  obtain ⟨t, q, e, hq, x, ex, lx, z⟩ := h p hp
  refine ⟨.str x, q, ?_, hq, z⟩
  unfold fReprF
  rw [e]
  simp only [ex]
  rw [if_pos lx]
theorem wp_addS {x y : Str} (h : x.length + y.length ≤ sizeLine) (z : P (.str (x ++ y))) : WP (gAddS (.str x) (.str y)) P := wp_some (fun p => by
  show (if x.length + y.length ≤ sizeLine then some (T.str (x ++ y), p) else none) = _
  rw [if_pos h]) z
theorem wp_tupOfV {F : FE} {τ : List Sl} {k : Bool} {us : List T} (h : WP (F τ) (· = mkSeq k us)) (z : P (.tup us)) : WP (fTupOfV F τ) P := fun p hp => by
  obtain ⟨t, q, e, hq, rfl⟩ := h p hp
  refine ⟨_, q, ?_, hq, z⟩
  unfold fTupOfV
  rw [e]
  have : seqT (mkSeq k us) = some (k, us) := by cases k <;> rfl
  simp only [this]
theorem ws_leave8 {Ft : FB} {i j : Nat} {τ : List Sl} {x y z : List T} {N : List Sl → Prop} {R : T → Prop} (o : τ[i]? = some (.val (.lst [.lst x, .lst y, .lst z]))) (lx : x.length ≤ 100) (ly : y.length ≤ 100) (lz : z.length ≤ 100)
    (h : WP (Ft τ) fun b => (b = true → ∃ w us, z = .lst w :: us ∧ w.length ≤ 100) ∧ N ((τ.set i .no).set j .no)) : WS (fLeave8 Ft i j τ) N R := fun p hp => by
  obtain ⟨b, q, e1, hq, hb, z1⟩ := h p hp
  refine .inl ⟨_, q, ?_, hq, z1⟩
  unfold fLeave8
  rw [o]
  show (match shp8 [.lst x, .lst y, .lst z] with
    | some (x, y, z) => _
    | none => none) = _
  have e8 : shp8 [T.lst x, .lst y, .lst z] = some (x, y, z) := rfl
  simp only [e8]
  rw [if_pos ⟨by show x.length + 8 < 40000; omega, by show y.length + 8 < 40000; omega, by show z.length + 8 < 40000; omega⟩]
  simp only [e1]
  cases b with
  | false => rfl
  | true =>
    obtain ⟨w, us, rfl, lw⟩ := hb rfl
    have e9 : shp1 (T.lst w :: us) = some w := rfl
    simp only [e9]
    rw [if_pos (by show w.length + 8 < 40000; omega)]
theorem halves_wp (a : Int) (h : a.natAbs ≤ 100) : WP (T_law_halves [.int a]) (· = RH a) := by
  unfold T_law_halves FB_law_halves
  walk_at "wpr"
  refine wp_some (fun pot => init_R (by decide) (by decide +kernel)) ?_
  rfl
section
variable {ps : List Pt} {bs : List (Nat × Nat)}
theorem ne_table_wp (ok : FrOk ps bs) : WP (gOr (gEqD true) gNeS (.lst ((bs.map (trow ps)).map fun r => .lst (r.map RH))) (.lst [])) (· = .bl (!decide (bs = []))) := by
  cases bs with
  | nil => exact wp_some (fun p => rfl) rfl
  | cons b bs =>
    refine wp_or2 (fun p => ?_) (wp_some (fun p => rfl) rfl)
    have hb := ok.lt b (List.mem_cons_self ..)
    have len : (trow ps b).length = 2 * ps.length := trs_len ..
    unfold gEqD
    have : toD (.lst (((b :: bs).map (trow ps)).map fun r => T.lst (r.map RH))) = none := by
      cases e : trow ps b with
      | nil => rw [e, List.length_nil] at len; omega
      | cons x r => simp [List.map_cons, toD, toDs, e, RT]
    rw [this]
theorem frame_text (ok : FrOk ps bs) : ∃ x y, reprT (.lst (ps.map eF)) = some x ∧ reprT (.lst (bs.map eB2)) = some y ∧ frameTX 2 (encF ps bs) = some (frameText x y) ∧ x.length ≤ 100000 ∧ y.length ≤ 100000 := by
  obtain ⟨x, ex, lx⟩ := tx_points (n := 2) ok
  obtain ⟨y, ey, ly⟩ := tx_bars (n := 2) ok
  refine ⟨x, y, ex, ey, ?_, lx, ly⟩
  show (if 2 = 2 then (some (ps.map eF)).bind fun l => (some (bs.map eB2)).bind fun m => (reprN 4 (.lst l)).bind fun y => (reprN 4 (.lst m)).map (frameText y) else none) = _
  rw [if_pos rfl]
  show ((reprN 4 (.lst (ps.map eF))).bind fun y => (reprN 4 (.lst (bs.map eB2))).map (frameText y)) = _
  rw [ex]
  show (reprN 4 (.lst (bs.map eB2))).map (frameText x) = _
  rw [ey]
  rfl
theorem told_right_wp (ok : FrOk ps bs) : WP (T_law_told_right [encF ps bs, .lst (ps.map eP), .lst (bs.map eB2)]) (· = .bl true) := by
  have l5 := ok.l5
  have b8 := ok.b8
  have sl : sizeLine = 16777216 := by decide
  obtain ⟨x, y, ex, ey, ef, lx, ly⟩ := frame_text ok
  have many : WP (T_Frame_many [encF ps bs]) (· = .int ps.length) := wp_some (fun p => by simp [T_Frame_many, FB_Frame_many, encF]) rfl
  unfold T_law_told_right FB_law_told_right
  walk_at "wpr"
  refine lenP_map (l := ps) (by omega) ?_
  refine wp_map ps eP eF (fun p hp => ?_) ?_
  · have sm := ok.sm p hp
    walk_at "wp"
    refine (halves_wp _ (by omega)).at ?_
    walk_at "wp"
    refine (halves_wp _ (by omega)).at ?_
    walk_at "wp"
  walk_at "wp"
  refine insP_F ?_
  walk_at "wp"
  refine (frame_points_wp ok).at ?_
  walk_at "wp"
  refine insP_F ?_
  walk_at "wp"
  refine (frame_bars_wp ok).at ?_
  walk_at "wp"
  refine insP_F ?_
  refine many.at ?_
  walk_at "wp"
  obtain ⟨z, ez, lz⟩ := tx_repr (fun l e => by cases e) (tx_seq (n := 3) (b := 100000) (m := 3) (l := [.lst (ps.map eF), .lst (bs.map eB2), .int ps.length]) true (fun t ht => by
    rcases List.mem_cons.mp ht with rfl | ht
    · exact tx_points (n := 1) ok
    rcases List.mem_cons.mp ht with rfl | ht
    · exact tx_bars (n := 1) ok
    rw [List.mem_singleton.mp ht]
    exact Tx.le (tx_nat (by omega)) (by decide)) (Nat.le_refl 3)) (by decide)
  refine somP ez ?_
  refine andP lz ?_
  have tups : ∀ {b : Nat × Nat} {τ : List Sl}, τ[6]? = some (.val (eB2 b)) → WP (fTupOfV (fVar 6) τ) (· = eB2 b) := fun {b} {τ} h =>
    wp_tupOfV (k := false) (us := [tN b.1, tN b.2]) (wp_some (fun p => by unfold fVar; rw [h]; rfl) rfl) rfl
  walk_at "wp"
  refine lenP_map (l := bs) (by omega) ?_
  refine wp_map bs eB2 eB2 (fun b hb => ?_) ?_
  · walk_at "wp"
    exact tups rfl
  walk_at "wp"
  rw [List.length_map]
  refine somP ez ?_
  refine andP lz ?_
  refine str_ne84 ?_
  walk_at "wp"
  have l3 : (Str.ofString "Frame(").length = 6 := rfl
  have l4 : (Str.ofString ", ").length = 2 := rfl
  have l5' : (Str.ofString ")").length = 1 := rfl
  refine wp_reprF ?_
  walk_at "wp"
  refine somP ef ?_
  refine andP (by
    unfold frameText
    rw [Str.length_append, Str.length_append, Str.length_append, Str.length_append]
    omega) ?_
  walk_at "wp"
  refine somP ex ?_
  refine andP (by omega) ?_
  walk_at "wp"
  refine wp_addS (by omega) ?_
  walk_at "wp"
  refine wp_addS (by rw [Str.length_append]; omega) ?_
  walk_at "wp"
  refine lenP_map (l := bs) (by omega) ?_
  refine wp_map bs eB2 eB2 (fun b hb => ?_) ?_
  · walk_at "wp"
    exact tups rfl
  walk_at "wp"
  refine somP ey ?_
  refine andP (by omega) ?_
  walk_at "wp"
  refine wp_addS (by rw [Str.length_append, Str.length_append]; omega) ?_
  walk_at "wp"
  refine wp_addS (by rw [Str.length_append, Str.length_append, Str.length_append]; omega) ?_
  walk_at "wp"
  refine str_ne84 ?_
  walk_at "wp"
  refine (law_table_wp ok).at ?_
  walk_at "wp"
  have len : ∀ b, (trow ps b).length = 2 * ps.length := fun b => trs_len ..
  refine lenP_map (l := bs.map (trow ps)) (by rw [List.length_map]; omega) ?_
  refine wp_map (bs.map (trow ps)) (fun r => eZ r) (fun r => .lst (r.map RH)) (fun r hr => ?_) ?_
  · obtain ⟨b, hb, rfl⟩ := List.mem_map.mp hr
    walk_at "wp"
    refine lenP_map (l := trow ps b) (by rw [len]; omega) ?_
    refine wp_map (trow ps b) T.int RH (fun a ha => ?_) ?_
    · have := trow_sm ok hb a ha
      walk_at "wp"
      refine (halves_wp a (by omega)).at ?_
      rfl
    walk_at "wp"
  walk_at "wp"
  refine (bar_table_wp ok).at ?_
  walk_at "wp"
  obtain ⟨v, ev, lv⟩ := tx_repr (fun l e => by cases e) (tx_table (n := 2) ok fun b hb => trow_sm ok hb) (by decide)
  refine somP ev ?_
  refine andP lv ?_
  walk_at "wp"
  refine somP ev ?_
  refine andP lv ?_
  refine str_ne84 ?_
  walk_at "wp"
  have b2 : bits 400000 (2 : Int) = true := by decide +kernel
  have bi : ∀ i : Nat, i ≤ 100 → bits 400000 (i : Int) = true := fun i hi => bits_bd (b := 10) (by omega) (by decide) (by decide)
  rw [List.length_map]
  refine rngP (by omega) ?_
  refine ws_go (fun pre τ => ∃ (s11 : Sl), τ = [Sl.val (encF ps bs), .val (T.lst (ps.map eP)), .val (T.lst (bs.map eB2)), .val (T.lst (ps.map eF)), .no, .no, .no, .val (T.lst ((bs.map (trow ps)).map fun r => .lst (r.map RH))), .no, .no, .own ((List.range pre.length).map fun i => encP ((colI ps bs (2 * i)).map hf, (colI ps bs (2 * i + 1)).map hf)), s11]) (List.range ps.length) (fun i => T.int (i : Nat))
    ⟨.no, rfl⟩ (fun pre i post τ e ⟨s11, et⟩ => ?_) (fun τ ⟨s11, et⟩ => ?_)
  · subst et
    have ei : i = pre.length ∧ pre.length < ps.length := by
      have h1 : (List.range ps.length)[pre.length]? = some i := by rw [e]; simp
      have h2 : pre.length < ps.length := by
        have := (List.getElem?_eq_some_iff.mp h1).1
        simpa using this
      rw [List.getElem?_range h2] at h1
      exact ⟨(Option.some.inj h1).symm, h2⟩
    obtain ⟨rfl, ic⟩ := ei
    have ent : ∀ (b : Nat × Nat) (p : Nat), p < 2 * ps.length → (trow ps b)[p]? = some ((trow ps b).getD p 0) := fun b p hp => by
      rw [List.getD_eq_getElem?_getD, List.getElem?_eq_getElem (by rw [len]; exact hp)]
      rfl
    have cl : ∀ p, (bs.map (trow ps)).map (fun r => RH (r.getD p 0)) = (colI ps bs p).map RH := fun p => by
      unfold colI
      rw [List.map_map (f := fun r : List Int => r.getD p 0)]
      rfl
    walk_at "wp"
    refine lenP_map (l := bs.map (trow ps)) (by rw [List.length_map]; omega) ?_
    refine wp_map (bs.map (trow ps)) (fun r => .lst (r.map RH)) (fun r => RH (r.getD (2 * pre.length) 0)) (fun r hr => ?_) ?_
    · obtain ⟨b, hb, rfl⟩ := List.mem_map.mp hr
      walk_at "wp"
      refine wp_gI (by rw [b2, bi _ (by omega)]; rfl) ?_
      rw [show 2 * (pre.length : Int) = ((2 * pre.length : Nat) : Int) by omega]
      refine ixP_map (l := trow ps b) (enc := RH) (ent b _ (by omega)) ?_
      rfl
    walk_at "wp"
    refine lenP_map (l := bs.map (trow ps)) (by rw [List.length_map]; omega) ?_
    refine wp_map (bs.map (trow ps)) (fun r => .lst (r.map RH)) (fun r => RH (r.getD (2 * pre.length + 1) 0)) (fun r hr => ?_) ?_
    · obtain ⟨b, hb, rfl⟩ := List.mem_map.mp hr
      walk_at "wp"
      refine wp_gI (by rw [b2, bi _ (by omega)]; rfl) ?_
      walk_at "wp"
      rw [show 2 * (pre.length : Int) + 1 = ((2 * pre.length + 1 : Nat) : Int) by omega]
      refine ixP_map (l := trow ps b) (enc := RH) (ent b _ (by omega)) ?_
      rfl
    walk_at "wp"
    refine andP (by rw [List.length_map, List.length_range]; show _ < 40000; omega) ?_
    refine ⟨.val (.int (pre.length : Nat)), ?_⟩
    have en : ∀ i, T.tup [.lst ((colI ps bs (2 * i)).map RH), .lst ((colI ps bs (2 * i + 1)).map RH)] = encP ((colI ps bs (2 * i)).map hf, (colI ps bs (2 * i + 1)).map hf) := fun i => by
      unfold encP
      rw [List.map_map, List.map_map]
      rfl
    rw [cl, cl, en, List.length_append, show pre.length + [pre.length].length = pre.length + 1 from rfl, List.range_succ, List.map_append]
    rfl
  · subst et
    have size : WP (T_Pairs_size [encPairs bs.length (cps ps bs)]) (· = .int bs.length) := wp_some (fun p => by simp [T_Pairs_size, FB_Pairs_size, encPairs]) rfl
    walk_at "wp"
    refine (frame_pairs_wp ok).at ?_
    walk_at "wp"
    rw [List.length_range, List.length_map]
    have ec : ((List.range ps.length).map fun i => encP ((colI ps bs (2 * i)).map hf, (colI ps bs (2 * i + 1)).map hf)) = (cps ps bs).map encP := by
      unfold cps
      rw [List.map_map]
      rfl
    rw [ec]
    have pp : Paired PairT ((cps ps bs).map encP) (cps ps bs) := by
      have := paired_map (R := PairT) encP id (cps ps bs) fun p _ => pairT_enc p
      rwa [List.map_id] at this
    refine wp_some (fun p => pairs_init (pot := p) (k := true) pp (cps_wide ps bs) (by omega) (by rw [cps_len]; omega)) ?_
    refine (eqE_wp (cps_wide ps bs)).at ?_
    walk_at "wp"
    refine WP.at (a := encPairs bs.length (cps ps bs)) (frame_pairs_wp ok) ?_
    refine ⟨_, rfl, ?_⟩
    refine size.at ?_
    walk_at "wp"
    rw [List.length_map]
    exact congrArg T.bl (decide_eq_true rfl)
theorem new_right_wp (ok : FrOk ps bs) : WP (T_law_new_right [encF ps bs, .lst (ps.map eP), .lst (bs.map eB2)]) (· = .bl true) := by
  have l5 := ok.l5
  have b8 := ok.b8
  unfold T_law_new_right FB_law_new_right
  walk_at "wpr"
  refine insP_F ?_
  walk_at "wp"
  refine (frame_points_wp ok).at ?_
  walk_at "wp"
  refine insP_F ?_
  walk_at "wp"
  refine (frame_bars_wp ok).at ?_
  walk_at "wp"
  refine (bar_table_wp ok).at ?_
  walk_at "wp"
  refine ws_leave8 rfl (by rw [List.length_map]; omega) (by rw [List.length_map]; omega) (by rw [List.length_map, List.length_map]; omega) ?_
  walk_at "wp"
  refine ixP rfl ?_
  walk_at "wp"
  refine (ne_table_wp ok).at ?_
  refine ⟨_, rfl, fun h => ?_, ?_⟩
  · cases bs with
    | nil => cases h
    | cons b bs => exact ⟨_, _, rfl, by rw [List.length_map, show (trow ps b).length = 2 * ps.length from trs_len ..]; omega⟩
  · walk_at "wp"
    exact told_right_wp ok
end
end
section
open PySem PySem.Spec PyProof.Rows L2 Evl PF
variable {P : T → Prop}
theorem made_any {ps : List Pt} {bs : List (Nat × Nat)} (ok : FrOk ps bs) : FrOk ps (bs.drop 1) := ⟨ok.l5, ok.sm, by rw [List.length_drop]; have := ok.b8; omega, fun b hb => ok.lt b (List.mem_of_mem_drop hb)⟩
def dPt (p : Pt) : PyData := .tuple [.int p.1, .int p.2]
theorem dt_Pt (p : Pt) : Dt 1 (eP p) (dPt p) := by
  refine ⟨?_, ?_, ?_⟩
  · simp [toD, toDs, dPt]
  · simp [dPt, PyData.canLay0, PyData.canLayAll0]
  · simp [dPt, PyData.depth, PyData.depthAll]
theorem eqv_Pt (a b : Pt) : PyData.eqv (dPt a) (dPt b) = decide (a = b) := by
  obtain ⟨a1, a2⟩ := a
  obtain ⟨b1, b2⟩ := b
  have h : PyData.eqv (dPt (a1, a2)) (dPt (b1, b2)) = (PyData.eqv (.int a1) (.int b1) && (PyData.eqv (.int a2) (.int b2) && true)) := by simp only [dPt, PyData.eqv, PyData.eqvAll]
  rw [h, eqv_int, eqv_int]
  by_cases x : a1 = b1 <;> by_cases y : a2 = b2 <;> simp [x, y]
theorem pts_eq_wp (ps qs : List Pt) : WP (gOr (gEqD false) gEqS (.lst (ps.map eP)) (.lst (qs.map eP))) (· = .bl (decide (ps = qs))) := by
  refine wp_or1 (eqD_wp (k := 2) (dt_lst (k := 1) (enc := eP) (f := dPt) ps fun b _ => dt_Pt b) (dt_lst (k := 1) (enc := eP) (f := dPt) qs fun b _ => dt_Pt b) (by decide) ?_)
  rw [eqv_lst eqv_Pt, if_neg Bool.false_ne_true]
theorem bars_ne_wp (bs : List (Nat × Nat)) : WP (gEqD true (.lst (bs.map eB2)) (.lst [])) (· = .bl (!decide (bs = []))) := by
  refine eqD_wp (k := 2) (dt_lst (k := 1) (enc := eB2) (f := dB2) bs fun b _ => dt_B2 b) (dt_lst (k := 1) (enc := eB2) (f := dB2) [] fun r hr => by cases hr) (by decide) ?_
  rw [eqv_lst eqv_B2, if_pos rfl]
theorem bl_ne84 (b : Bool) : WP (gEqA true (.bl b) (.bl b)) (· = .bl false) := wp_some (fun p => by cases b <;> rfl) rfl
def vals84 (ps : List Pt) (bs : List (Nat × Nat)) : List T := [.non, .int 0, .bl true, .str "", .lst [], .tup [.lst (ps.map eP), .lst (bs.map eB2)], .lst (ps.map eP), .lst (ps.map eF)]
theorem vals_no {ps : List Pt} {bs : List (Nat × Nat)} {t : T} (h : t ∈ vals84 ps bs) : NoF t := by
  unfold vals84 at h
  simp only [List.mem_cons, List.not_mem_nil, or_false] at h
  rcases h with rfl | rfl | rfl | rfl | rfl | rfl | rfl | rfl
  · exact noF_non
  · exact noF_int _
  · exact noF_bl _
  · exact noF_str _
  · exact noF_lst _
  · exact noF_tup _
  · exact noF_lst _
  · exact noF_lst _
theorem cut_drop84 {l : List T} (h : 0 < l.length) : cutT l (some (1 : Int)) none = l.drop 1 := by
  unfold cutT
  rw [show (1 : Int) = ((1 : Nat) : Int) from rfl, HT.sIx_none, HT.sIx_nat, Nat.min_eq_left (by omega)]
  rw [List.take_of_length_le]
  rw [List.length_drop]
  omega
def tfs84 : FS := (fSeq (fIfS (fAnd (fTest (fOp (gEqD true) (fVar 2) (fLst (fLen fNil)))) (fTest (fOp (gB (gEqO 2 T_Frame_eq)) (fVar 3) (fCall T_law_made (fCons (fVar 0) (fCons (fVar 1) (fCons (fLst (fSl (fVar 2) (fPart (fC (.int 1))) fNoPart)) fNil))))))) (fRet (fC (.bl false))) fNext) (fSeq (fFor (fLen (fCons (fC .non) (fCons (fC (.int 0)) (fCons (fC (.bl true)) (fCons (fC (.str "")) (fCons (fLst (fLen fNil)) (fCons (fTup (fCons (fVar 1) (fCons (fVar 2) fNil))) (fCons (fVar 1) (fCons (fMeth 2 T_Frame_points (fVar 3) fNil) fNil))))))))) (.nm 7) (fIfS (fTest (fOp (gEqA true) (fRepr (fLst (fLen (fCons (fOp (gB (gEqO 2 T_Frame_eq)) (fVar 3) (fVar 7)) (fCons (fOp (gNeO 2 T_Frame_eq) (fVar 3) (fVar 7)) fNil))))) (fRepr (fLst (fLen (fCons (fC (.bl false)) (fCons (fC (.bl true)) fNil))))))) (fRet (fC (.bl false))) fNext)) (fRet (fC (.bl true)))))
def tfs84b : FS := (fSeq (fFor (fLen (fCons (fC .non) (fCons (fC (.int 0)) (fCons (fC (.bl true)) (fCons (fC (.str "")) (fCons (fLst (fLen fNil)) (fCons (fTup (fCons (fVar 1) (fCons (fVar 2) fNil))) (fCons (fVar 1) (fCons (fMeth 2 T_Frame_points (fVar 3) fNil) fNil))))))))) (.nm 7) (fIfS (fTest (fOp (gEqA true) (fRepr (fLst (fLen (fCons (fOp (gB (gEqO 2 T_Frame_eq)) (fVar 3) (fVar 7)) (fCons (fOp (gNeO 2 T_Frame_eq) (fVar 3) (fVar 7)) fNil))))) (fRepr (fLst (fLen (fCons (fC (.bl false)) (fCons (fC (.bl true)) fNil))))))) (fRet (fC (.bl false))) fNext)) (fRet (fC (.bl true))))
theorem vals84_wp {ps : List Pt} {bs : List (Nat × Nat)} (ok : FrOk ps bs) {s4 s5 s6 s7 : Sl} : WS (tfs84b [.val .pot, .val (.lst (ps.map eP)), .val (.lst (bs.map eB2)), .val (encF ps bs), s4, s5, s6, s7]) (fun _ => T.non = T.bl true) (· = .bl true) := by
  unfold tfs84b
  walk_at "wp"
  refine insP_F ?_
  walk_at "wp"
  refine (frame_points_wp ok).at ?_
  walk_at "wp"
  rw [show [T.non, T.int 0, T.bl true, T.str (Str.ofString ""), T.lst [], T.tup [T.lst (ps.map eP), T.lst (bs.map eB2)], T.lst (ps.map eP), T.lst (ps.map eF)] = (vals84 ps bs).map id by rw [List.map_id]; rfl]
  refine ws_go (fun pre τ => ∃ s7 : Sl, τ = [Sl.val .pot, .val (.lst (ps.map eP)), .val (.lst (bs.map eB2)), .val (encF ps bs), s4, s5, s6, s7]) (vals84 ps bs) id
    ⟨_, rfl⟩ (fun pre t post τ e ⟨s7, et⟩ => ?_) (fun τ ⟨s7, et⟩ => ?_)
  · subst et
    have no : NoF t := vals_no (by rw [e]; simp)
    walk_at "wp"
    refine (eqX_wp no).at ?_
    walk_at "wp"
    refine (neX_wp no).at ?_
    walk_at "wp"
    refine andP (by decide +kernel) ?_
    walk_at "wp"
    refine andP (by decide +kernel) ?_
    refine str_ne84 ?_
    walk_at "wp"
    exact ⟨_, rfl⟩
  · subst et
    walk_at "wp"
theorem tail84_wp {ps : List Pt} {bs : List (Nat × Nat)} (ok : FrOk ps bs) {s4 s5 s6 s7 : Sl} : WS (tfs84 [.val .pot, .val (.lst (ps.map eP)), .val (.lst (bs.map eB2)), .val (encF ps bs), s4, s5, s6, s7]) (fun _ => T.non = T.bl true) (· = .bl true) := by
  unfold tfs84
  walk_at "wp"
  refine (bars_ne_wp bs).at ?_
  walk_at "wp"
  refine ifP_dec (fun h => ?_) (fun h => ?_)
  · refine ⟨fun h => (nomatch h), fun _ => ?_⟩
    refine ws_next ?_
    exact vals84_wp ok
  · walk_at "wp"
    rw [cut_drop84 (by rw [List.length_map]; exact List.length_pos_iff.mpr h), ← List.map_drop]
    refine (made_wp (made_any ok)).at ?_
    walk_at "wp"
    refine (eqF_wp ps ps bs (bs.drop 1)).at ?_
    have ne : ¬ bs = bs.drop 1 := fun e => by
      have := congrArg List.length e
      have l := List.length_pos_iff.mpr h
      rw [List.length_drop] at this
      omega
    rw [decide_eq_false ne, Bool.and_false]
    refine ⟨_, rfl, fun h => (nomatch h), fun _ => ?_⟩
    refine ws_next ?_
    exact vals84_wp ok
theorem right84_wp : WP (T_law_right [.pot]) (· = .bl true) := by
  unfold T_law_right FB_law_right
  walk_at "wpr"
  refine (frame_wp (m := 5) (by decide)).mono fun t ⟨ps, bs, et, ok⟩ => ?_
  subst et
  walk_at "wp"
  refine (made_wp ok).at ?_
  walk_at "wp"
  refine (made_wp ok).at ?_
  walk_at "wp"
  refine (told_right_wp ok).at ?_
  walk_at "wp"
  refine (new_right_wp ok).at ?_
  walk_at "wp"
  refine (eqF_wp ps ps bs bs).at ?_
  rw [show (decide (ps = ps) && decide (bs = bs)) = true by simp]
  walk_at "wp"
  refine (neF_wp ps ps bs bs).at ?_
  rw [show (!(decide (ps = ps) && decide (bs = bs))) = false by simp]
  walk_at "wp"
  refine andP (by decide +kernel) ?_
  walk_at "wp"
  refine andP (by decide +kernel) ?_
  refine str_ne84 ?_
  walk_at "wp"
  refine (frame_wp (m := 5) (by decide)).mono fun t ⟨qs, cs, et, ok2⟩ => ?_
  subst et
  walk_at "wp"
  refine (made_wp ok2).at ?_
  walk_at "wp"
  refine (eqF_wp ps qs bs cs).at ?_
  walk_at "wp"
  refine (pts_eq_wp ps qs).at ?_
  walk_at "wp"
  have fin : ∀ b : Bool, b = (decide (ps = qs) && decide (bs = cs)) → WP (gEqA true (.bl (decide (ps = qs) && decide (bs = cs))) (.bl b)) (· = .bl false) := fun b e => by rw [e]; exact bl_ne84 _
  refine ifP_dec (fun h => ?_) (fun h => ?_)
  · walk_at "wp"
    refine (bars_eq_wp bs cs).at ?_
    refine (fin _ (by rw [decide_eq_true h, Bool.true_and])).at ?_
    refine ⟨_, rfl, fun h => (nomatch h), fun _ => ?_⟩
    refine ws_next ?_
    exact tail84_wp ok
  · refine (fin _ (by rw [decide_eq_false h, Bool.false_and])).at ?_
    refine ⟨_, rfl, fun h => (nomatch h), fun _ => ?_⟩
    refine ws_next ?_
    exact tail84_wp ok
theorem all_true : AllTrue T_law_right := fun c m h0 h1 => by
  obtain ⟨a, q, e, _, rfl⟩ := right84_wp (some (c, m)) ⟨c, m, rfl, h0, h1⟩
  exact ⟨q, e⟩
end
end TL
open PySem PySem.W PySem.Calls PyProof.Rows in
set_option maxRecDepth 100000 in
set_option maxHeartbeats 0 in
theorem PySem.Challenge.cw_pairsfree_k84_whole_frames_and_their_tab_holds : PySem.Challenge.rw_pairsfree_k84_whole_frames_and_their_tab.Holds := by
  w_on; o_law
  refine HandSHeadRun.head_imp (r := TL.hdR) (q := TL.hdQ) (H := TL.hdH) (ob := TL.hdO) (M := 40000) (loose := TL.nms) (d := HandSHeadRun.topDef TL.hdR.prog 55) (kwd := []) TL.hdO_eq TL.hd_run (by kernel_rfl) (by kernel_rfl) (by kernel_rfl) (by rfl) (by first | assumption | decide +kernel) (by decide +kernel) ⟨rfl, rfl, rfl, rfl, rfl, by decide +kernel⟩ ?hw ?hc
  case hw => w_witness2
  case hc =>
    refine TLH.walkGE (l := PySem.Challenge.rw_pairsfree_k84_whole_frames_and_their_tab) (n := 63) (k := 16) (x := "_law_script") (CX := L2.CX0) (sp := fun K => TL.spLaw K) rfl (by decide) (by kernel_rfl) ⟨rfl, by decide, by decide⟩ ?F (fun K H a ns hl _ hS => ⟨a, ns, rfl, hS, hl, fun _ => rfl⟩) (fun _ _ _ _ z => z)
    intro w mg fa h Y G hmg0
    obtain ⟨K, KX, c⟩ := Y
    have hmg : mg ("law" : PySem.Str) = some (.ref fa) := by
      have e : (HandSHeadRun.topDef TL.hdR.prog 55).name = ("law" : PySem.Str) := by kernel_rfl
      rw [← e]
      exact hmg0
    obtain ⟨fd, hb, hF⟩ := TL.all_mk (l := PySem.Challenge.rw_pairsfree_k84_whole_frames_and_their_tab) (w := w) KX G hmg TL.all_true c
    exact ⟨K, fd, KX, hb, hF⟩
